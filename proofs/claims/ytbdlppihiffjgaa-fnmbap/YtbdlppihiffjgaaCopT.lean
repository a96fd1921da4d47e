/- A copy of bytes. -/
import Derived.Test.YtbdlppihiffjgaaPutWord1
import Derived.Laws.CopyOwn
import Derived.Lib.MinMax
namespace Go.Proofs.Ytbdlppihiffjgaa
open Go.RowKit

theorem szT5 : (Try.prog.info? 5).map (·.size) = some 1 := by kernel_rfl

theorem Own.ofHeapT {w : World} {base g n : Nat} {zs : List Int} (h : w.heap[g]? = some (.cells (zs.map (Value.int .u8)).toArray 5 (0, 0))) (hn : n = zs.length) (hb : base ≤ g) (hm : n ≤ maxLen) : Own w base (.slice (some ⟨g, 0, none⟩) n n) zs := by
  subst hn
  exact ⟨by simp, .inr ⟨g, zs.length, (zs.map (Value.int .u8)).toArray, rfl, hb, h, Nat.le_refl _, hm, by simp, by simp; exact List.take_of_length_le (by simp)⟩⟩

theorem splice_allT {α : Type} (L cs : List α) (h : cs.length = L.length) : splice L 0 cs = cs := by simp [splice, h]

theorem made_rowT (w : World) (n : Nat) : ∃ Z : List Value, Z.length = n ∧ (w.alloc (.cells (madeCells #[.int .u8 0] n) 5)).heap[w.heap.size]? = some (.cells Z.toArray 5 (0, 0)) := by
  obtain ⟨c, hc, hsz, _⟩ := World.rowIs_made w (.int .u8 0) n 5
  exact ⟨c.toList, by simpa using hsz, by simpa using hc⟩

set_option maxHeartbeats 1000000 in
theorem copyT_any (a : Option Addr) (n cap : Nat) (zs : List Int) (w : World) (hn : n = zs.length) (hs : Sl w a zs) (hl : zs.length ≤ 2000000) :
    Calls Try.prog 38 #[.slice a n cap] w fun e w' => ∃ g, e = .returned (.slice (some ⟨g, 0, none⟩) n n) ∧ Own w' w.heap.size (.slice (some ⟨g, 0, none⟩) n n) zs ∧ Below w.heap.size w w' := by
  have hm : n ≤ maxLen := by unfold maxLen; omega
  have hmk := run_make_row' (P := Try.prog) 22 5 (.int .u8 0) 1 Try.underlying22 Try.info5 rfl .i64 .i64 n (by omega) (by omega)
  obtain ⟨Z, hZ, hZh⟩ := made_rowT w n
  have HZ : Hid (Z.length = n) := hZ
  have HZh : Hid ((w.alloc (.cells (madeCells #[.int .u8 0] n) 5)).heap[w.heap.size]? = some (.cells Z.toArray 5 (0, 0))) := hZh
  have HN : Hid (n = zs.length) := hn
  have b0 : Below w.heap.size w (w.alloc (.cells (madeCells #[.int .u8 0] n) 5)) := (Below.refl _ w).alloc (Nat.le_refl _) _
  have hs1 := hs.below b0
  obtain ⟨X, hX⟩ : ∃ X, X = zs.map (Value.int .u8) := ⟨_, rfl⟩
  have HX : Hid (X = zs.map (Value.int .u8)) := hX
  have hXl : Hid (X.length = n) := by show X.length = n; rw [hX, hn]; simp
  have hpos : 0 < X.length → ∃ ad, a = some ad ∧ ∀ j v, X[j]? = some v → (w.alloc (.cells (madeCells #[.int .u8 0] n) 5)).cell? (ad.add j) = some v := by
    intro h
    rcases hs1 with h0 | ⟨b, off, ha, hb, hc⟩
    · rw [hX, h0] at h; simp at h
    · exact ⟨⟨b, off, none⟩, ha, by rw [hX]; exact Sl.cellsAt (.inr ⟨b, off, rfl, hb, hc⟩)⟩
  have hone : ∀ v ∈ X, v.oneCell' = true := by rw [hX]; exact ones zs
  have HP : Hid (0 < X.length → ∃ ad, a = some ad ∧ ∀ j v, X[j]? = some v → (w.alloc (.cells (madeCells #[.int .u8 0] n) 5)).cell? (ad.add j) = some v) := hpos
  clear hs hs1 hn hZ hX hpos hZh
  go_enter Try.func38, Try.ntmps38
  go_wp2_with ((refine wpList_copy_splice rfl (.tmp 7) (.tmp 8) 22 22 rfl 5 Try.underlying22 szT5 _ _ _ _ _ _ rfl rfl w.heap.size 0 Z 5 HZh.out X (by rw [hXl.out]; exact (Nat.min_self n).symm) (fun h => ⟨rfl, HP.out h⟩) (by rw [hXl.out, HZ.out]; omega) hone w.heap.size w b0 (Nat.le_refl _) ?_); intro w2 H2 b2)
  have O2 : Own w2 w.heap.size (.slice (some ⟨w.heap.size, 0, none⟩) n n) zs := Own.ofHeapT (by rw [← HX.out, ← splice_allT Z X (by rw [hXl.out, HZ.out])]; exact H2.out) HN.out (Nat.le_refl _) hm
  go_ret
  exact ⟨_, rfl, O2, b2⟩

end Go.Proofs.Ytbdlppihiffjgaa
