/- A map of deeds; copies of lists and of devices. -/
import Derived.Test.YtcnbbknmofonkaaDev3a
import Derived.WideMake
import Derived.Carry
import Derived.Laws.CopyOwn
import Derived.Deep.RegionHeld3
namespace Go.Proofs.Ytcnbbknmofonkaa
open Go.RowKit

set_option linter.unusedVariables false

set_option linter.unusedSimpArgs false

theorem mp_ins (k : Int) (v : Value) (es : Array MapEntry) (c : Nat) (w : World) (hf : Instr.findNow (.int .i64) (.int .i64 k) es.toList 0 = some none) :
    (Instr.mapUpdate 95 (.map (some w.heap.size)) (.int .i64 k) v).run Try.prog (w.alloc (.map es c)) = .ok () (w.alloc (.map (es.push { key := .int .i64 k, val := v, born := c }) (c + 1))) := by
  have hb : (w.alloc (.map es c)).heap[w.heap.size]? = some (.map es c) := by show (w.heap.push _)[w.heap.size]? = _; simp
  have hc : (Instr.checkKey false 10000 3 (.int .i64 k)).run Try.prog (w.alloc (.map es c)) = .ok () (w.alloc (.map es c)) := MapKept.run_checkKey (k := .int .i64 k) Try.underlying3 (by simp [MapKept.IsKey]) false 9999
  simp [Instr.mapUpdate, run_underlying (P := Try.prog) (show Try.prog.underlying 95 = some (.map 3 94) by kernel_rfl), MapKept.run_getObj_map hb, hc, MapKept.run_findKey Try.underlying3 hf, MapKept.run_setObj_map _ hb, Result.andThen]
  have e : (w.heap.push (.map es c)).setIfInBounds w.heap.size (.map (es.push { key := .int .i64 k, val := v, born := c }) (c + 1)) = w.heap.push (.map (es.push { key := .int .i64 k, val := v, born := c }) (c + 1)) := by
    apply Array.ext_getElem?
    intro i
    rw [Array.getElem?_setIfInBounds]
    simp only [Array.getElem?_push, Array.size_push]
    by_cases h : w.heap.size = i
    · subst h; simp
    · have h2 : ¬ i = w.heap.size := fun e => h e.symm
      simp [h, h2]
  exact congrArg (fun x => ({ w with heap := x } : World)) e

theorem mp_get (k : Int) (v : Value) (i : Nat) (es : Array MapEntry) (c g : Nat) (w : World) (hb : w.heap[g]? = some (.map es c)) (hf : Instr.findNow (.int .i64) (.int .i64 k) es.toList 0 = some (some (i, v))) :
    (Instr.lookup 95 (.map (some g)) (.int .i64 k) false).run Try.prog w = .ok v w := by
  have hc : (Instr.checkKey es.isEmpty 10000 3 (.int .i64 k)).run Try.prog w = .ok () w := MapKept.run_checkKey (k := .int .i64 k) Try.underlying3 (by simp [MapKept.IsKey]) _ 9999
  simp [Instr.lookup, run_underlying (P := Try.prog) (show Try.prog.underlying 95 = some (.map 3 94) by kernel_rfl), MapKept.run_getObj_map hb, hc, MapKept.run_findKey Try.underlying3 hf, Result.andThen]

/-- The deeds. -/
def deedsE : Array MapEntry := #[{ key := .int .i64 1, val := .func (.func 101) #[] #[], born := 0 }, { key := .int .i64 2, val := .func (.func 102) #[] #[], born := 1 }, { key := .int .i64 3, val := .func (.func 103) #[] #[], born := 2 }, { key := .int .i64 4, val := .func (.func 104) #[] #[], born := 3 }, { key := .int .i64 5, val := .func (.func 105) #[] #[], born := 4 }, { key := .int .i64 6, val := .func (.func 106) #[] #[], born := 5 }, { key := .int .i64 15, val := .func (.func 107) #[] #[], born := 6 }, { key := .int .i64 16, val := .func (.func 108) #[] #[], born := 7 }, { key := .int .i64 22, val := .func (.func 109) #[] #[], born := 8 }, { key := .int .i64 23, val := .func (.func 110) #[] #[], born := 9 }]

set_option maxRecDepth 20000 in
set_option maxHeartbeats 4000000 in
theorem deeds_any (w : World) : Calls Try.prog 84 #[] w fun e w' => e = .returned (.map (some w.heap.size)) ∧ w'.heap[w.heap.size]? = some (.map deedsE 10) ∧ Below w.heap.size w w' := by
  have hmm := @run_makeMap Try.prog
  have i0 : (Instr.mapUpdate 95 (.map (some w.heap.size)) (.int .i64 1) (.func (.func 101) #[] #[])).run Try.prog (w.alloc (.map #[] 0)) = .ok () (w.alloc (.map #[{ key := .int .i64 1, val := .func (.func 101) #[] #[], born := 0 }] 1)) := mp_ins _ _ _ _ w rfl
  have i1 : (Instr.mapUpdate 95 (.map (some w.heap.size)) (.int .i64 2) (.func (.func 102) #[] #[])).run Try.prog (w.alloc (.map #[{ key := .int .i64 1, val := .func (.func 101) #[] #[], born := 0 }] 1)) = .ok () (w.alloc (.map #[{ key := .int .i64 1, val := .func (.func 101) #[] #[], born := 0 }, { key := .int .i64 2, val := .func (.func 102) #[] #[], born := 1 }] 2)) := mp_ins _ _ _ _ w rfl
  have i2 : (Instr.mapUpdate 95 (.map (some w.heap.size)) (.int .i64 3) (.func (.func 103) #[] #[])).run Try.prog (w.alloc (.map #[{ key := .int .i64 1, val := .func (.func 101) #[] #[], born := 0 }, { key := .int .i64 2, val := .func (.func 102) #[] #[], born := 1 }] 2)) = .ok () (w.alloc (.map #[{ key := .int .i64 1, val := .func (.func 101) #[] #[], born := 0 }, { key := .int .i64 2, val := .func (.func 102) #[] #[], born := 1 }, { key := .int .i64 3, val := .func (.func 103) #[] #[], born := 2 }] 3)) := mp_ins _ _ _ _ w rfl
  have i3 : (Instr.mapUpdate 95 (.map (some w.heap.size)) (.int .i64 4) (.func (.func 104) #[] #[])).run Try.prog (w.alloc (.map #[{ key := .int .i64 1, val := .func (.func 101) #[] #[], born := 0 }, { key := .int .i64 2, val := .func (.func 102) #[] #[], born := 1 }, { key := .int .i64 3, val := .func (.func 103) #[] #[], born := 2 }] 3)) = .ok () (w.alloc (.map #[{ key := .int .i64 1, val := .func (.func 101) #[] #[], born := 0 }, { key := .int .i64 2, val := .func (.func 102) #[] #[], born := 1 }, { key := .int .i64 3, val := .func (.func 103) #[] #[], born := 2 }, { key := .int .i64 4, val := .func (.func 104) #[] #[], born := 3 }] 4)) := mp_ins _ _ _ _ w rfl
  have i4 : (Instr.mapUpdate 95 (.map (some w.heap.size)) (.int .i64 5) (.func (.func 105) #[] #[])).run Try.prog (w.alloc (.map #[{ key := .int .i64 1, val := .func (.func 101) #[] #[], born := 0 }, { key := .int .i64 2, val := .func (.func 102) #[] #[], born := 1 }, { key := .int .i64 3, val := .func (.func 103) #[] #[], born := 2 }, { key := .int .i64 4, val := .func (.func 104) #[] #[], born := 3 }] 4)) = .ok () (w.alloc (.map #[{ key := .int .i64 1, val := .func (.func 101) #[] #[], born := 0 }, { key := .int .i64 2, val := .func (.func 102) #[] #[], born := 1 }, { key := .int .i64 3, val := .func (.func 103) #[] #[], born := 2 }, { key := .int .i64 4, val := .func (.func 104) #[] #[], born := 3 }, { key := .int .i64 5, val := .func (.func 105) #[] #[], born := 4 }] 5)) := mp_ins _ _ _ _ w rfl
  have i5 : (Instr.mapUpdate 95 (.map (some w.heap.size)) (.int .i64 6) (.func (.func 106) #[] #[])).run Try.prog (w.alloc (.map #[{ key := .int .i64 1, val := .func (.func 101) #[] #[], born := 0 }, { key := .int .i64 2, val := .func (.func 102) #[] #[], born := 1 }, { key := .int .i64 3, val := .func (.func 103) #[] #[], born := 2 }, { key := .int .i64 4, val := .func (.func 104) #[] #[], born := 3 }, { key := .int .i64 5, val := .func (.func 105) #[] #[], born := 4 }] 5)) = .ok () (w.alloc (.map #[{ key := .int .i64 1, val := .func (.func 101) #[] #[], born := 0 }, { key := .int .i64 2, val := .func (.func 102) #[] #[], born := 1 }, { key := .int .i64 3, val := .func (.func 103) #[] #[], born := 2 }, { key := .int .i64 4, val := .func (.func 104) #[] #[], born := 3 }, { key := .int .i64 5, val := .func (.func 105) #[] #[], born := 4 }, { key := .int .i64 6, val := .func (.func 106) #[] #[], born := 5 }] 6)) := mp_ins _ _ _ _ w rfl
  have i6 : (Instr.mapUpdate 95 (.map (some w.heap.size)) (.int .i64 15) (.func (.func 107) #[] #[])).run Try.prog (w.alloc (.map #[{ key := .int .i64 1, val := .func (.func 101) #[] #[], born := 0 }, { key := .int .i64 2, val := .func (.func 102) #[] #[], born := 1 }, { key := .int .i64 3, val := .func (.func 103) #[] #[], born := 2 }, { key := .int .i64 4, val := .func (.func 104) #[] #[], born := 3 }, { key := .int .i64 5, val := .func (.func 105) #[] #[], born := 4 }, { key := .int .i64 6, val := .func (.func 106) #[] #[], born := 5 }] 6)) = .ok () (w.alloc (.map #[{ key := .int .i64 1, val := .func (.func 101) #[] #[], born := 0 }, { key := .int .i64 2, val := .func (.func 102) #[] #[], born := 1 }, { key := .int .i64 3, val := .func (.func 103) #[] #[], born := 2 }, { key := .int .i64 4, val := .func (.func 104) #[] #[], born := 3 }, { key := .int .i64 5, val := .func (.func 105) #[] #[], born := 4 }, { key := .int .i64 6, val := .func (.func 106) #[] #[], born := 5 }, { key := .int .i64 15, val := .func (.func 107) #[] #[], born := 6 }] 7)) := mp_ins _ _ _ _ w rfl
  have i7 : (Instr.mapUpdate 95 (.map (some w.heap.size)) (.int .i64 16) (.func (.func 108) #[] #[])).run Try.prog (w.alloc (.map #[{ key := .int .i64 1, val := .func (.func 101) #[] #[], born := 0 }, { key := .int .i64 2, val := .func (.func 102) #[] #[], born := 1 }, { key := .int .i64 3, val := .func (.func 103) #[] #[], born := 2 }, { key := .int .i64 4, val := .func (.func 104) #[] #[], born := 3 }, { key := .int .i64 5, val := .func (.func 105) #[] #[], born := 4 }, { key := .int .i64 6, val := .func (.func 106) #[] #[], born := 5 }, { key := .int .i64 15, val := .func (.func 107) #[] #[], born := 6 }] 7)) = .ok () (w.alloc (.map #[{ key := .int .i64 1, val := .func (.func 101) #[] #[], born := 0 }, { key := .int .i64 2, val := .func (.func 102) #[] #[], born := 1 }, { key := .int .i64 3, val := .func (.func 103) #[] #[], born := 2 }, { key := .int .i64 4, val := .func (.func 104) #[] #[], born := 3 }, { key := .int .i64 5, val := .func (.func 105) #[] #[], born := 4 }, { key := .int .i64 6, val := .func (.func 106) #[] #[], born := 5 }, { key := .int .i64 15, val := .func (.func 107) #[] #[], born := 6 }, { key := .int .i64 16, val := .func (.func 108) #[] #[], born := 7 }] 8)) := mp_ins _ _ _ _ w rfl
  have i8 : (Instr.mapUpdate 95 (.map (some w.heap.size)) (.int .i64 22) (.func (.func 109) #[] #[])).run Try.prog (w.alloc (.map #[{ key := .int .i64 1, val := .func (.func 101) #[] #[], born := 0 }, { key := .int .i64 2, val := .func (.func 102) #[] #[], born := 1 }, { key := .int .i64 3, val := .func (.func 103) #[] #[], born := 2 }, { key := .int .i64 4, val := .func (.func 104) #[] #[], born := 3 }, { key := .int .i64 5, val := .func (.func 105) #[] #[], born := 4 }, { key := .int .i64 6, val := .func (.func 106) #[] #[], born := 5 }, { key := .int .i64 15, val := .func (.func 107) #[] #[], born := 6 }, { key := .int .i64 16, val := .func (.func 108) #[] #[], born := 7 }] 8)) = .ok () (w.alloc (.map #[{ key := .int .i64 1, val := .func (.func 101) #[] #[], born := 0 }, { key := .int .i64 2, val := .func (.func 102) #[] #[], born := 1 }, { key := .int .i64 3, val := .func (.func 103) #[] #[], born := 2 }, { key := .int .i64 4, val := .func (.func 104) #[] #[], born := 3 }, { key := .int .i64 5, val := .func (.func 105) #[] #[], born := 4 }, { key := .int .i64 6, val := .func (.func 106) #[] #[], born := 5 }, { key := .int .i64 15, val := .func (.func 107) #[] #[], born := 6 }, { key := .int .i64 16, val := .func (.func 108) #[] #[], born := 7 }, { key := .int .i64 22, val := .func (.func 109) #[] #[], born := 8 }] 9)) := mp_ins _ _ _ _ w rfl
  have i9 : (Instr.mapUpdate 95 (.map (some w.heap.size)) (.int .i64 23) (.func (.func 110) #[] #[])).run Try.prog (w.alloc (.map #[{ key := .int .i64 1, val := .func (.func 101) #[] #[], born := 0 }, { key := .int .i64 2, val := .func (.func 102) #[] #[], born := 1 }, { key := .int .i64 3, val := .func (.func 103) #[] #[], born := 2 }, { key := .int .i64 4, val := .func (.func 104) #[] #[], born := 3 }, { key := .int .i64 5, val := .func (.func 105) #[] #[], born := 4 }, { key := .int .i64 6, val := .func (.func 106) #[] #[], born := 5 }, { key := .int .i64 15, val := .func (.func 107) #[] #[], born := 6 }, { key := .int .i64 16, val := .func (.func 108) #[] #[], born := 7 }, { key := .int .i64 22, val := .func (.func 109) #[] #[], born := 8 }] 9)) = .ok () (w.alloc (.map #[{ key := .int .i64 1, val := .func (.func 101) #[] #[], born := 0 }, { key := .int .i64 2, val := .func (.func 102) #[] #[], born := 1 }, { key := .int .i64 3, val := .func (.func 103) #[] #[], born := 2 }, { key := .int .i64 4, val := .func (.func 104) #[] #[], born := 3 }, { key := .int .i64 5, val := .func (.func 105) #[] #[], born := 4 }, { key := .int .i64 6, val := .func (.func 106) #[] #[], born := 5 }, { key := .int .i64 15, val := .func (.func 107) #[] #[], born := 6 }, { key := .int .i64 16, val := .func (.func 108) #[] #[], born := 7 }, { key := .int .i64 22, val := .func (.func 109) #[] #[], born := 8 }, { key := .int .i64 23, val := .func (.func 110) #[] #[], born := 9 }] 10)) := mp_ins _ _ _ _ w rfl
  go_enter Try.func84, Try.ntmps84
  go_wp2
  go_ret
  exact ⟨rfl, by show (w.heap.push _)[w.heap.size]? = _; simp [deedsE], bel_alloc _ _⟩

theorem szq4 : (Try.prog.info? 4).map (·.size) = some 1 := by kernel_rfl

theorem slB_at {w : World} {b off : Nat} {zs : List Bool} (h : SlB w (some ⟨b, off, none⟩) zs) : ∀ j v, (zs.map Value.bool)[j]? = some v → w.cell? (Addr.add ⟨b, off, none⟩ j) = some v := by
  intro j v hj
  have hlt : j < zs.length := by
    rcases Nat.lt_or_ge j zs.length with q | q
    · exact q
    · rw [List.getElem?_eq_none (by simpa using q)] at hj; cases hj
  obtain ⟨b', off', e, _, hc⟩ := cell_atB h hlt
  simp at e
  obtain ⟨rfl, rfl⟩ := e
  have ev : v = .bool (zs.getD j false) := by
    rw [List.getElem?_map, List.getElem?_eq_getElem hlt] at hj
    simp at hj
    rw [← hj, List.getD_eq_getElem?_getD, List.getElem?_eq_getElem hlt]; rfl
  rw [ev]
  by_cases e0 : j = 0
  · subst e0; simpa [Addr.add] using hc
  · simpa [Addr.add, e0] using hc

theorem onesB (zs : List Bool) : ∀ v ∈ zs.map Value.bool, v.oneCell' = true := by
  intro v hv
  obtain ⟨z, _, rfl⟩ := List.mem_map.1 hv
  rfl

theorem OwnB.ofHeap {w : World} {base g n : Nat} {zs : List Bool} (h : w.heap[g]? = some (.cells (zs.map Value.bool).toArray 4 (0, 0))) (hn : n = zs.length) (hb : base ≤ g) (hm : n ≤ maxLen) : OwnB w base (.slice (some ⟨g, 0, none⟩) n n) zs := by
  subst hn
  exact ⟨by simp, .inr ⟨g, zs.length, (zs.map Value.bool).toArray, rfl, hb, h, Nat.le_refl _, hm, by simp, by simp; exact List.take_of_length_le (by simp)⟩⟩

theorem splice_allB {α : Type} (L cs : List α) (h : cs.length = L.length) : splice L 0 cs = cs := by simp [splice, h]

theorem made_rowB (w : World) (n : Nat) : ∃ Z : List Value, Z.length = n ∧ (w.alloc (.cells (madeCells #[.bool false] n) 4)).heap[w.heap.size]? = some (.cells Z.toArray 4 (0, 0)) := by
  obtain ⟨c, hc, hsz, _⟩ := World.rowIs_made w (.bool false) n 4
  exact ⟨c.toList, by simpa using hsz, by simpa using hc⟩

set_option maxHeartbeats 1000000 in
theorem copyOfB (a : Option Addr) (n cap : Nat) (zs : List Bool) (w : World) (hn : n = zs.length) (hs : SlB w a zs) (hl : zs.length ≤ 2000000) :
    Calls Try.prog 81 #[.slice a n cap] w fun e w' => ∃ g, e = .returned (.slice (some ⟨g, 0, none⟩) n n) ∧ OwnB w' w.heap.size (.slice (some ⟨g, 0, none⟩) n n) zs ∧ Below w.heap.size w w' := by
  have hm : n ≤ maxLen := by unfold maxLen; omega
  have hmk := run_make_row' (P := Try.prog) 22 4 (.bool false) 1 Try.underlying22 Try.info4 rfl .i64 .i64 n (by omega) (by omega)
  obtain ⟨Z, hZ, hZh⟩ := made_rowB w n
  have HZ : Hid (Z.length = n) := hZ
  have HZh : Hid ((w.alloc (.cells (madeCells #[.bool false] n) 4)).heap[w.heap.size]? = some (.cells Z.toArray 4 (0, 0))) := hZh
  have HN : Hid (n = zs.length) := hn
  have b0 : Below w.heap.size w (w.alloc (.cells (madeCells #[.bool false] n) 4)) := (Below.refl _ w).alloc (Nat.le_refl _) _
  have hs1 := SlB.below hs b0
  obtain ⟨X, hX⟩ : ∃ X, X = zs.map Value.bool := ⟨_, rfl⟩
  have HX : Hid (X = zs.map Value.bool) := hX
  have hXl : Hid (X.length = n) := by show X.length = n; rw [hX, hn]; simp
  have hpos : 0 < X.length → ∃ ad, a = some ad ∧ ∀ j v, X[j]? = some v → (w.alloc (.cells (madeCells #[.bool false] n) 4)).cell? (ad.add j) = some v := by
    intro h
    rcases hs1 with h0 | ⟨b, off, ha, hb, hc⟩
    · rw [hX, h0] at h; simp at h
    · exact ⟨⟨b, off, none⟩, ha, by rw [hX]; exact slB_at (.inr ⟨b, off, rfl, hb, hc⟩)⟩
  have hone : ∀ v ∈ X, v.oneCell' = true := by rw [hX]; exact onesB zs
  have HP : Hid (0 < X.length → ∃ ad, a = some ad ∧ ∀ j v, X[j]? = some v → (w.alloc (.cells (madeCells #[.bool false] n) 4)).cell? (ad.add j) = some v) := hpos
  clear hs hs1 hn hZ hX hpos hZh
  go_enter Try.func81, Try.ntmps81
  go_wp2_with ((refine wpList_copy_splice rfl (.tmp 7) (.tmp 8) 22 22 rfl 4 Try.underlying22 szq4 _ _ _ _ _ _ rfl rfl w.heap.size 0 Z 4 HZh.out X (by rw [hXl.out]; exact (Nat.min_self n).symm) (fun h => ⟨rfl, HP.out h⟩) (by rw [hXl.out, HZ.out]; omega) hone w.heap.size w b0 (Nat.le_refl _) ?_); intro w2 H2 b2)
  have O2 : OwnB w2 w.heap.size (.slice (some ⟨w.heap.size, 0, none⟩) n n) zs := OwnB.ofHeap (by rw [← HX.out, ← splice_allB Z X (by rw [hXl.out, HZ.out])]; exact H2.out) HN.out (Nat.le_refl _) hm
  go_ret
  exact ⟨_, rfl, O2, b2⟩

theorem szq3 : (Try.prog.info? 3).map (·.size) = some 1 := by kernel_rfl

theorem slI_at {w : World} {b off : Nat} {zs : List Int} (h : SlI w (some ⟨b, off, none⟩) zs) : ∀ j v, (zs.map (Value.int .i64))[j]? = some v → w.cell? (Addr.add ⟨b, off, none⟩ j) = some v := by
  intro j v hj
  have hlt : j < zs.length := by
    rcases Nat.lt_or_ge j zs.length with q | q
    · exact q
    · rw [List.getElem?_eq_none (by simpa using q)] at hj; cases hj
  obtain ⟨b', off', e, _, hc⟩ := cell_atI h hlt
  simp at e
  obtain ⟨rfl, rfl⟩ := e
  have ev : v = .int .i64 (zs.getD j 0) := by
    rw [List.getElem?_map, List.getElem?_eq_getElem hlt] at hj
    simp at hj
    rw [← hj, List.getD_eq_getElem?_getD, List.getElem?_eq_getElem hlt]; rfl
  rw [ev]
  by_cases e0 : j = 0
  · subst e0; simpa [Addr.add] using hc
  · simpa [Addr.add, e0] using hc

theorem onesI (zs : List Int) : ∀ v ∈ zs.map (Value.int .i64), v.oneCell' = true := by
  intro v hv
  obtain ⟨z, _, rfl⟩ := List.mem_map.1 hv
  rfl

theorem OwnI.ofHeap {w : World} {base g n : Nat} {zs : List Int} (h : w.heap[g]? = some (.cells (zs.map (Value.int .i64)).toArray 3 (0, 0))) (hn : n = zs.length) (hb : base ≤ g) (hm : n ≤ maxLen) : OwnI w base (.slice (some ⟨g, 0, none⟩) n n) zs := by
  subst hn
  exact ⟨by simp, .inr ⟨g, zs.length, (zs.map (Value.int .i64)).toArray, rfl, hb, h, Nat.le_refl _, hm, by simp, by simp; exact List.take_of_length_le (by simp)⟩⟩

theorem splice_allI {α : Type} (L cs : List α) (h : cs.length = L.length) : splice L 0 cs = cs := by simp [splice, h]

theorem made_rowI (w : World) (n : Nat) : ∃ Z : List Value, Z.length = n ∧ (w.alloc (.cells (madeCells #[.int .i64 0] n) 3)).heap[w.heap.size]? = some (.cells Z.toArray 3 (0, 0)) := by
  obtain ⟨c, hc, hsz, _⟩ := World.rowIs_made w (.int .i64 0) n 3
  exact ⟨c.toList, by simpa using hsz, by simpa using hc⟩

set_option maxHeartbeats 1000000 in
theorem copyOfI (a : Option Addr) (n cap : Nat) (zs : List Int) (w : World) (hn : n = zs.length) (hs : SlI w a zs) (hl : zs.length ≤ 2000000) :
    Calls Try.prog 82 #[.slice a n cap] w fun e w' => ∃ g, e = .returned (.slice (some ⟨g, 0, none⟩) n n) ∧ OwnI w' w.heap.size (.slice (some ⟨g, 0, none⟩) n n) zs ∧ Below w.heap.size w w' := by
  have hm : n ≤ maxLen := by unfold maxLen; omega
  have hmk := run_make_row' (P := Try.prog) 23 3 (.int .i64 0) 8 Try.underlying23 Try.infoI3 rfl .i64 .i64 n (by omega) (by omega)
  obtain ⟨Z, hZ, hZh⟩ := made_rowI w n
  have HZ : Hid (Z.length = n) := hZ
  have HZh : Hid ((w.alloc (.cells (madeCells #[.int .i64 0] n) 3)).heap[w.heap.size]? = some (.cells Z.toArray 3 (0, 0))) := hZh
  have HN : Hid (n = zs.length) := hn
  have b0 : Below w.heap.size w (w.alloc (.cells (madeCells #[.int .i64 0] n) 3)) := (Below.refl _ w).alloc (Nat.le_refl _) _
  have hs1 := SlI.below hs b0
  obtain ⟨X, hX⟩ : ∃ X, X = zs.map (Value.int .i64) := ⟨_, rfl⟩
  have HX : Hid (X = zs.map (Value.int .i64)) := hX
  have hXl : Hid (X.length = n) := by show X.length = n; rw [hX, hn]; simp
  have hpos : 0 < X.length → ∃ ad, a = some ad ∧ ∀ j v, X[j]? = some v → (w.alloc (.cells (madeCells #[.int .i64 0] n) 3)).cell? (ad.add j) = some v := by
    intro h
    rcases hs1 with h0 | ⟨b, off, ha, hb, hc⟩
    · rw [hX, h0] at h; simp at h
    · exact ⟨⟨b, off, none⟩, ha, by rw [hX]; exact slI_at (.inr ⟨b, off, rfl, hb, hc⟩)⟩
  have hone : ∀ v ∈ X, v.oneCell' = true := by rw [hX]; exact onesI zs
  have HP : Hid (0 < X.length → ∃ ad, a = some ad ∧ ∀ j v, X[j]? = some v → (w.alloc (.cells (madeCells #[.int .i64 0] n) 3)).cell? (ad.add j) = some v) := hpos
  clear hs hs1 hn hZ hX hpos hZh
  go_enter Try.func82, Try.ntmps82
  go_wp2_with ((refine wpList_copy_splice rfl (.tmp 7) (.tmp 8) 23 23 rfl 3 Try.underlying23 szq3 _ _ _ _ _ _ rfl rfl w.heap.size 0 Z 3 HZh.out X (by rw [hXl.out]; exact (Nat.min_self n).symm) (fun h => ⟨rfl, HP.out h⟩) (by rw [hXl.out, HZ.out]; omega) hone w.heap.size w b0 (Nat.le_refl _) ?_); intro w2 H2 b2)
  have O2 : OwnI w2 w.heap.size (.slice (some ⟨w.heap.size, 0, none⟩) n n) zs := OwnI.ofHeap (by rw [← HX.out, ← splice_allI Z X (by rw [hXl.out, HZ.out])]; exact H2.out) HN.out (Nat.le_refl _) hm
  go_ret
  exact ⟨_, rfl, O2, b2⟩

end Go.Proofs.Ytcnbbknmofonkaa
