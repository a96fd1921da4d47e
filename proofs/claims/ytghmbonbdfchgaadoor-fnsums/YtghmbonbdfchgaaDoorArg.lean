/- A slice of bytes that came in, as the walks want it. -/
import Derived.Test.YtghmbonbdfchgaaDoorBys0
import Derived.ProofKit
import Derived.OpenShut
namespace Go.Proofs.YtghmbonbdfchgaaDoor
open Go.ChangeShapes Go.WideShapes Go.ChangeAt Go.RowKit

theorem sl_of_cells {w : World} {x : Addr} {len cap : Nat} {z : List Int} (hl : len ≤ cap) (hz : z.length = cap) (hcell : ∀ i, i < z.length → w.cell? (x.add i) = some (.int .u8 (z.getD i 0)))
    (hwz : ∀ n ∈ z, (Lit.int .u8 n).wf = true) : ∃ zs : List Int, zs.length = len ∧ Sl w (some x) zs ∧ ∀ n ∈ zs, 0 ≤ n ∧ n ≤ 255 := by
  refine ⟨z.take len, by simp; omega, ?_, fun n hn => bounds_u8 (hwz n (List.mem_of_mem_take hn))⟩
  by_cases h0 : len = 0
  · subst h0; exact .inl (by simp)
  · obtain ⟨b, off, spot⟩ := x
    have hc := hcell 0 (by omega)
    have hspot : spot = none := by simpa [Addr.add] using World.cell?_spot hc
    subst hspot
    refine .inr ⟨b, off, rfl, World.block_lt_of_cell? _ _ hc, fun i hi => ?_⟩
    simp only [List.length_take] at hi
    have := hcell i (by omega)
    rw [List.getD_eq_getElem?_getD, List.getElem?_take, if_pos (by omega), ← List.getD_eq_getElem?_getD]
    by_cases e : i = 0
    · subst e; simpa [Addr.add] using this
    · simpa [Addr.add, e] using this

end Go.Proofs.YtghmbonbdfchgaaDoor
