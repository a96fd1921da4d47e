/- A copy of bytes. -/
import Derived.Test.YtimgohnnapaafaaPutWord1
import Derived.Laws.CopyOwn
import Derived.Lib.MinMax
namespace Go.Proofs.Ytimgohnnapaafaa
open Go.RowKit

theorem szT5 : (Try.prog.info? 5).map (·.size) = some 1 := by kernel_rfl

theorem Own.ofHeapT {w : World} {base g n : Nat} {zs : List Int} (h : w.heap[g]? = some (.cells (zs.map (Value.int .u8)).toArray 5 (0, 0))) (hn : n = zs.length) (hb : base ≤ g) (hm : n ≤ maxLen) : Own w base (.slice (some ⟨g, 0, none⟩) n n) zs := by
  subst hn
  exact ⟨by simp, .inr ⟨g, zs.length, (zs.map (Value.int .u8)).toArray, rfl, hb, h, Nat.le_refl _, hm, by simp, by simp; exact List.take_of_length_le (by simp)⟩⟩

theorem splice_allT {α : Type} (L cs : List α) (h : cs.length = L.length) : splice L 0 cs = cs := by simp [splice, h]

theorem made_rowT (w : World) (n : Nat) : ∃ Z : List Value, Z.length = n ∧ (w.alloc (.cells (madeCells #[.int .u8 0] n) 5)).heap[w.heap.size]? = some (.cells Z.toArray 5 (0, 0)) := by
  obtain ⟨c, hc, hsz, _⟩ := World.rowIs_made w (.int .u8 0) n 5
  exact ⟨c.toList, by simpa using hsz, by simpa using hc⟩

end Go.Proofs.Ytimgohnnapaafaa
