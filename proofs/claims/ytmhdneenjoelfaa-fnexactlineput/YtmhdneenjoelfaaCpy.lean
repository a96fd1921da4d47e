/- Copies of lists of numbers and of bits. -/
import Derived.Test.YtmhdneenjoelfaaReq1
import Derived.WideMake
import Derived.Carry
import Derived.Laws.CopyOwn
import Derived.Deep.RegionHeld3
namespace Go.Proofs.Ytmhdneenjoelfaa
open Go.RowKit

set_option linter.unusedVariables false

set_option linter.unusedSimpArgs false

theorem szq4 : (Try.prog.info? 4).map (·.size) = some 1 := by kernel_rfl

theorem slB_at {w : World} {b off : Nat} {zs : List Bool} (h : SlB w (some ⟨b, off, none⟩) zs) : ∀ j v, (zs.map Value.bool)[j]? = some v → w.cell? (Addr.add ⟨b, off, none⟩ j) = some v := by
  intro j v hj
  have hlt : j < zs.length := by
    rcases Nat.lt_or_ge j zs.length with q | q
    · exact q
    · rw [List.getElem?_eq_none (by simpa using q)] at hj; cases hj
  obtain ⟨b', off', e, _, hc⟩ := cell_atB h hlt
  simp at e
  obtain ⟨rfl, rfl⟩ := e
  have ev : v = .bool (zs.getD j false) := by
    rw [List.getElem?_map, List.getElem?_eq_getElem hlt] at hj
    simp at hj
    rw [← hj, List.getD_eq_getElem?_getD, List.getElem?_eq_getElem hlt]; rfl
  rw [ev]
  by_cases e0 : j = 0
  · subst e0; simpa [Addr.add] using hc
  · simpa [Addr.add, e0] using hc

theorem onesB (zs : List Bool) : ∀ v ∈ zs.map Value.bool, v.oneCell' = true := by
  intro v hv
  obtain ⟨z, _, rfl⟩ := List.mem_map.1 hv
  rfl

theorem OwnB.ofHeap {w : World} {base g n : Nat} {zs : List Bool} (h : w.heap[g]? = some (.cells (zs.map Value.bool).toArray 4 (0, 0))) (hn : n = zs.length) (hb : base ≤ g) (hm : n ≤ maxLen) : OwnB w base (.slice (some ⟨g, 0, none⟩) n n) zs := by
  subst hn
  exact ⟨by simp, .inr ⟨g, zs.length, (zs.map Value.bool).toArray, rfl, hb, h, Nat.le_refl _, hm, by simp, by simp; exact List.take_of_length_le (by simp)⟩⟩

theorem splice_allB {α : Type} (L cs : List α) (h : cs.length = L.length) : splice L 0 cs = cs := by simp [splice, h]

theorem made_rowB (w : World) (n : Nat) : ∃ Z : List Value, Z.length = n ∧ (w.alloc (.cells (madeCells #[.bool false] n) 4)).heap[w.heap.size]? = some (.cells Z.toArray 4 (0, 0)) := by
  obtain ⟨c, hc, hsz, _⟩ := World.rowIs_made w (.bool false) n 4
  exact ⟨c.toList, by simpa using hsz, by simpa using hc⟩

set_option maxHeartbeats 1000000 in
theorem copyOfB (a : Option Addr) (n cap : Nat) (zs : List Bool) (w : World) (hn : n = zs.length) (hs : SlB w a zs) (hl : zs.length ≤ 2000000) :
    Calls Try.prog 98 #[.slice a n cap] w fun e w' => ∃ g, e = .returned (.slice (some ⟨g, 0, none⟩) n n) ∧ OwnB w' w.heap.size (.slice (some ⟨g, 0, none⟩) n n) zs ∧ Below w.heap.size w w' := by
  have hm : n ≤ maxLen := by unfold maxLen; omega
  have hmk := run_make_row' (P := Try.prog) 26 4 (.bool false) 1 Try.underlying26 Try.info4 rfl .i64 .i64 n (by omega) (by omega)
  obtain ⟨Z, hZ, hZh⟩ := made_rowB w n
  have HZ : Hid (Z.length = n) := hZ
  have HZh : Hid ((w.alloc (.cells (madeCells #[.bool false] n) 4)).heap[w.heap.size]? = some (.cells Z.toArray 4 (0, 0))) := hZh
  have HN : Hid (n = zs.length) := hn
  have b0 : Below w.heap.size w (w.alloc (.cells (madeCells #[.bool false] n) 4)) := (Below.refl _ w).alloc (Nat.le_refl _) _
  have hs1 := SlB.below hs b0
  obtain ⟨X, hX⟩ : ∃ X, X = zs.map Value.bool := ⟨_, rfl⟩
  have HX : Hid (X = zs.map Value.bool) := hX
  have hXl : Hid (X.length = n) := by show X.length = n; rw [hX, hn]; simp
  have hpos : 0 < X.length → ∃ ad, a = some ad ∧ ∀ j v, X[j]? = some v → (w.alloc (.cells (madeCells #[.bool false] n) 4)).cell? (ad.add j) = some v := by
    intro h
    rcases hs1 with h0 | ⟨b, off, ha, hb, hc⟩
    · rw [hX, h0] at h; simp at h
    · exact ⟨⟨b, off, none⟩, ha, by rw [hX]; exact slB_at (.inr ⟨b, off, rfl, hb, hc⟩)⟩
  have hone : ∀ v ∈ X, v.oneCell' = true := by rw [hX]; exact onesB zs
  have HP : Hid (0 < X.length → ∃ ad, a = some ad ∧ ∀ j v, X[j]? = some v → (w.alloc (.cells (madeCells #[.bool false] n) 4)).cell? (ad.add j) = some v) := hpos
  clear hs hs1 hn hZ hX hpos hZh
  go_enter Try.func98, Try.ntmps98
  go_wp2_with ((refine wpList_copy_splice rfl (.tmp 7) (.tmp 8) 26 26 rfl 4 Try.underlying26 szq4 _ _ _ _ _ _ rfl rfl w.heap.size 0 Z 4 HZh.out X (by rw [hXl.out]; exact (Nat.min_self n).symm) (fun h => ⟨rfl, HP.out h⟩) (by rw [hXl.out, HZ.out]; omega) hone w.heap.size w b0 (Nat.le_refl _) ?_); intro w2 H2 b2)
  have O2 : OwnB w2 w.heap.size (.slice (some ⟨w.heap.size, 0, none⟩) n n) zs := OwnB.ofHeap (by rw [← HX.out, ← splice_allB Z X (by rw [hXl.out, HZ.out])]; exact H2.out) HN.out (Nat.le_refl _) hm
  go_ret
  exact ⟨_, rfl, O2, b2⟩

theorem szq3 : (Try.prog.info? 3).map (·.size) = some 1 := by kernel_rfl

theorem slI_at {w : World} {b off : Nat} {zs : List Int} (h : SlI w (some ⟨b, off, none⟩) zs) : ∀ j v, (zs.map (Value.int .i64))[j]? = some v → w.cell? (Addr.add ⟨b, off, none⟩ j) = some v := by
  intro j v hj
  have hlt : j < zs.length := by
    rcases Nat.lt_or_ge j zs.length with q | q
    · exact q
    · rw [List.getElem?_eq_none (by simpa using q)] at hj; cases hj
  obtain ⟨b', off', e, _, hc⟩ := cell_atI h hlt
  simp at e
  obtain ⟨rfl, rfl⟩ := e
  have ev : v = .int .i64 (zs.getD j 0) := by
    rw [List.getElem?_map, List.getElem?_eq_getElem hlt] at hj
    simp at hj
    rw [← hj, List.getD_eq_getElem?_getD, List.getElem?_eq_getElem hlt]; rfl
  rw [ev]
  by_cases e0 : j = 0
  · subst e0; simpa [Addr.add] using hc
  · simpa [Addr.add, e0] using hc

theorem onesI (zs : List Int) : ∀ v ∈ zs.map (Value.int .i64), v.oneCell' = true := by
  intro v hv
  obtain ⟨z, _, rfl⟩ := List.mem_map.1 hv
  rfl

theorem OwnI.ofHeap {w : World} {base g n : Nat} {zs : List Int} (h : w.heap[g]? = some (.cells (zs.map (Value.int .i64)).toArray 3 (0, 0))) (hn : n = zs.length) (hb : base ≤ g) (hm : n ≤ maxLen) : OwnI w base (.slice (some ⟨g, 0, none⟩) n n) zs := by
  subst hn
  exact ⟨by simp, .inr ⟨g, zs.length, (zs.map (Value.int .i64)).toArray, rfl, hb, h, Nat.le_refl _, hm, by simp, by simp; exact List.take_of_length_le (by simp)⟩⟩

theorem splice_allI {α : Type} (L cs : List α) (h : cs.length = L.length) : splice L 0 cs = cs := by simp [splice, h]

theorem made_rowI (w : World) (n : Nat) : ∃ Z : List Value, Z.length = n ∧ (w.alloc (.cells (madeCells #[.int .i64 0] n) 3)).heap[w.heap.size]? = some (.cells Z.toArray 3 (0, 0)) := by
  obtain ⟨c, hc, hsz, _⟩ := World.rowIs_made w (.int .i64 0) n 3
  exact ⟨c.toList, by simpa using hsz, by simpa using hc⟩

set_option maxHeartbeats 1000000 in
theorem copyOfI (a : Option Addr) (n cap : Nat) (zs : List Int) (w : World) (hn : n = zs.length) (hs : SlI w a zs) (hl : zs.length ≤ 2000000) :
    Calls Try.prog 97 #[.slice a n cap] w fun e w' => ∃ g, e = .returned (.slice (some ⟨g, 0, none⟩) n n) ∧ OwnI w' w.heap.size (.slice (some ⟨g, 0, none⟩) n n) zs ∧ Below w.heap.size w w' := by
  have hm : n ≤ maxLen := by unfold maxLen; omega
  have hmk := run_make_row' (P := Try.prog) 25 3 (.int .i64 0) 8 Try.underlying25 Try.infoI3 rfl .i64 .i64 n (by omega) (by omega)
  obtain ⟨Z, hZ, hZh⟩ := made_rowI w n
  have HZ : Hid (Z.length = n) := hZ
  have HZh : Hid ((w.alloc (.cells (madeCells #[.int .i64 0] n) 3)).heap[w.heap.size]? = some (.cells Z.toArray 3 (0, 0))) := hZh
  have HN : Hid (n = zs.length) := hn
  have b0 : Below w.heap.size w (w.alloc (.cells (madeCells #[.int .i64 0] n) 3)) := (Below.refl _ w).alloc (Nat.le_refl _) _
  have hs1 := SlI.below hs b0
  obtain ⟨X, hX⟩ : ∃ X, X = zs.map (Value.int .i64) := ⟨_, rfl⟩
  have HX : Hid (X = zs.map (Value.int .i64)) := hX
  have hXl : Hid (X.length = n) := by show X.length = n; rw [hX, hn]; simp
  have hpos : 0 < X.length → ∃ ad, a = some ad ∧ ∀ j v, X[j]? = some v → (w.alloc (.cells (madeCells #[.int .i64 0] n) 3)).cell? (ad.add j) = some v := by
    intro h
    rcases hs1 with h0 | ⟨b, off, ha, hb, hc⟩
    · rw [hX, h0] at h; simp at h
    · exact ⟨⟨b, off, none⟩, ha, by rw [hX]; exact slI_at (.inr ⟨b, off, rfl, hb, hc⟩)⟩
  have hone : ∀ v ∈ X, v.oneCell' = true := by rw [hX]; exact onesI zs
  have HP : Hid (0 < X.length → ∃ ad, a = some ad ∧ ∀ j v, X[j]? = some v → (w.alloc (.cells (madeCells #[.int .i64 0] n) 3)).cell? (ad.add j) = some v) := hpos
  clear hs hs1 hn hZ hX hpos hZh
  go_enter Try.func97, Try.ntmps97
  go_wp2_with ((refine wpList_copy_splice rfl (.tmp 7) (.tmp 8) 25 25 rfl 3 Try.underlying25 szq3 _ _ _ _ _ _ rfl rfl w.heap.size 0 Z 3 HZh.out X (by rw [hXl.out]; exact (Nat.min_self n).symm) (fun h => ⟨rfl, HP.out h⟩) (by rw [hXl.out, HZ.out]; omega) hone w.heap.size w b0 (Nat.le_refl _) ?_); intro w2 H2 b2)
  have O2 : OwnI w2 w.heap.size (.slice (some ⟨w.heap.size, 0, none⟩) n n) zs := OwnI.ofHeap (by rw [← HX.out, ← splice_allI Z X (by rw [hXl.out, HZ.out])]; exact H2.out) HN.out (Nat.le_refl _) hm
  go_ret
  exact ⟨_, rfl, O2, b2⟩

theorem slI_off {w : World} {g off k N : Nat} {hs : List Int} (h : SlI w (some ⟨g, off, none⟩) hs) (hk : k + N ≤ hs.length) : SlI w (some ⟨g, off + k, none⟩) ((hs.drop k).take N) := by
  by_cases h0 : N = 0
  · subst h0; exact .inl (by simp)
  rcases h with h | ⟨b, off', e, hb, hc⟩
  · rw [h] at hk; simp at hk; omega
  · simp at e
    obtain ⟨rfl, rfl⟩ := e
    refine .inr ⟨g, off + k, rfl, hb, fun i hi => ?_⟩
    simp at hi
    have := hc (k + i) (by omega)
    rw [Nat.add_assoc, this, List.getD_eq_getElem?_getD, List.getD_eq_getElem?_getD, List.getElem?_take, if_pos (by omega), List.getElem?_drop]

theorem slB_off {w : World} {g off k N : Nat} {hs : List Bool} (h : SlB w (some ⟨g, off, none⟩) hs) (hk : k + N ≤ hs.length) : SlB w (some ⟨g, off + k, none⟩) ((hs.drop k).take N) := by
  by_cases h0 : N = 0
  · subst h0; exact .inl (by simp)
  rcases h with h | ⟨b, off', e, hb, hc⟩
  · rw [h] at hk; simp at hk; omega
  · simp at e
    obtain ⟨rfl, rfl⟩ := e
    refine .inr ⟨g, off + k, rfl, hb, fun i hi => ?_⟩
    simp at hi
    have := hc (k + i) (by omega)
    rw [Nat.add_assoc, this, List.getD_eq_getElem?_getD, List.getD_eq_getElem?_getD, List.getElem?_take, if_pos (by omega), List.getElem?_drop]

theorem slI_some {w : World} {a : Option Addr} {zs : List Int} (h : SlI w a zs) (hp : 0 < zs.length) : ∃ b off, a = some ⟨b, off, none⟩ := by
  rcases h with h | ⟨b, off, e, _⟩
  · rw [h] at hp; simp at hp
  · exact ⟨b, off, e⟩

theorem slB_some {w : World} {a : Option Addr} {zs : List Bool} (h : SlB w a zs) (hp : 0 < zs.length) : ∃ b off, a = some ⟨b, off, none⟩ := by
  rcases h with h | ⟨b, off, e, _⟩
  · rw [h] at hp; simp at hp
  · exact ⟨b, off, e⟩

end Go.Proofs.Ytmhdneenjoelfaa
