/- Questions within, as bytes. -/
import Derived.Test.YtcnbbknmofonkaaQ3
import Derived.Test.YtcnbbknmofonkaaQ4
import Derived.Test.YtcnbbknmofonkaaR2
import Derived.Deep.RegionWith
import Derived.Deep.RegionHeld3
namespace Go.Proofs.Ytcnbbknmofonkaa
open Go.RowKit

set_option linter.unusedVariables false

set_option linter.unusedSimpArgs false

theorem lit_slI3 (w : World) (x y z : Int) {g : Nat} (hg : g = w.heap.size) : SlI (w.alloc (.cells #[.int .i64 x, .int .i64 y, .int .i64 z] 3)) (some ⟨g, 0, none⟩) [x, y, z] := hg ▸
  .inr ⟨_, 0, rfl, by simp, fun i hi => by
    have : i = 0 ∨ i = 1 ∨ i = 2 := by simp at hi; omega
    rcases this with rfl | rfl | rfl <;> simp⟩

theorem lit_slI4 (w : World) (x y z u : Int) {g : Nat} (hg : g = w.heap.size) : SlI (w.alloc (.cells #[.int .i64 x, .int .i64 y, .int .i64 z, .int .i64 u] 3)) (some ⟨g, 0, none⟩) [x, y, z, u] := hg ▸
  .inr ⟨_, 0, rfl, by simp, fun i hi => by
    have : i = 0 ∨ i = 1 ∨ i = 2 ∨ i = 3 := by simp at hi; omega
    rcases this with rfl | rfl | rfl | rfl <;> simp⟩

theorem nw_next {w u w' : World} {e : Ending} {zs : List Int} (hb : Below w.heap.size w u) (h : Nw u w' e zs) : Nw w w' e zs := by
  obtain ⟨g, c, n, he, hn, ho, hb'⟩ := h
  exact ⟨g, c, n, he, hn, own_mono ho hb.size, bel_next hb hb'⟩

theorem Nw.bel {w w' : World} {e : Ending} {zs : List Int} (h : Nw w w' e zs) : Below w.heap.size w w' := by
  obtain ⟨_, _, _, _, _, _, hb⟩ := h
  exact hb

def packL (bs : List Bool) : List Int := (List.range ((bs.length + 7) / 8)).map (fun i => pv bs bs.length i)

theorem packL_length (bs : List Bool) : (packL bs).length = (bs.length + 7) / 8 := by simp [packL]

end Go.Proofs.Ytcnbbknmofonkaa
