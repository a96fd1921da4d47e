/- Texts that the proof needs, joined: Dev5 Dev6 Dev7 Dev8 F1 Dev9 Dev13 Dev14. -/
import Derived.Test.YtfdddkjonjpgpaaY1
import Derived.WideMake
import Derived.Carry
import Derived.Laws.CopyOwn
import Derived.Deep.RegionHeld3
import Derived.Test.YtfdddkjonjpgpaaY4
import Derived.BigRegion
namespace Go.Proofs.Ytfdddkjonjpgpaa
open Go.RowKit
set_option linter.unusedVariables false
set_option linter.unusedSimpArgs false
theorem mp_ins (k : Int) (v : Value) (es : Array MapEntry) (c : Nat) (w : World) (hf : Instr.findNow (.int .i64) (.int .i64 k) es.toList 0 = some none) :
    (Instr.mapUpdate 87 (.map (some w.heap.size)) (.int .i64 k) v).run Try.prog (w.alloc (.map es c)) = .ok () (w.alloc (.map (es.push { key := .int .i64 k, val := v, born := c }) (c + 1))) := by
  have hb : (w.alloc (.map es c)).heap[w.heap.size]? = some (.map es c) := by show (w.heap.push _)[w.heap.size]? = _; simp
  have hc : (Instr.checkKey false 10000 3 (.int .i64 k)).run Try.prog (w.alloc (.map es c)) = .ok () (w.alloc (.map es c)) := MapKept.run_checkKey (k := .int .i64 k) Try.underlying3 (by simp [MapKept.IsKey]) false 9999
  simp [Instr.mapUpdate, run_underlying (P := Try.prog) (show Try.prog.underlying 87 = some (.map 3 86) by kernel_rfl), MapKept.run_getObj_map hb, hc, MapKept.run_findKey Try.underlying3 hf, MapKept.run_setObj_map _ hb, Result.andThen]
  have e : (w.heap.push (.map es c)).setIfInBounds w.heap.size (.map (es.push { key := .int .i64 k, val := v, born := c }) (c + 1)) = w.heap.push (.map (es.push { key := .int .i64 k, val := v, born := c }) (c + 1)) := by
    apply Array.ext_getElem?
    intro i
    rw [Array.getElem?_setIfInBounds]
    simp only [Array.getElem?_push, Array.size_push]
    by_cases h : w.heap.size = i
    · subst h; simp
    · have h2 : ¬ i = w.heap.size := fun e => h e.symm
      simp [h, h2]
  exact congrArg (fun x => ({ w with heap := x } : World)) e
theorem mp_get (k : Int) (v : Value) (i : Nat) (es : Array MapEntry) (c g : Nat) (w : World) (hb : w.heap[g]? = some (.map es c)) (hf : Instr.findNow (.int .i64) (.int .i64 k) es.toList 0 = some (some (i, v))) :
    (Instr.lookup 87 (.map (some g)) (.int .i64 k) false).run Try.prog w = .ok v w := by
  have hc : (Instr.checkKey es.isEmpty 10000 3 (.int .i64 k)).run Try.prog w = .ok () w := MapKept.run_checkKey (k := .int .i64 k) Try.underlying3 (by simp [MapKept.IsKey]) _ 9999
  simp [Instr.lookup, run_underlying (P := Try.prog) (show Try.prog.underlying 87 = some (.map 3 86) by kernel_rfl), MapKept.run_getObj_map hb, hc, MapKept.run_findKey Try.underlying3 hf, Result.andThen]
def deedsE : Array MapEntry := #[{ key := .int .i64 1, val := .func (.func 77) #[] #[], born := 0 }, { key := .int .i64 2, val := .func (.func 78) #[] #[], born := 1 }, { key := .int .i64 3, val := .func (.func 79) #[] #[], born := 2 }, { key := .int .i64 4, val := .func (.func 80) #[] #[], born := 3 }, { key := .int .i64 5, val := .func (.func 81) #[] #[], born := 4 }, { key := .int .i64 6, val := .func (.func 82) #[] #[], born := 5 }, { key := .int .i64 15, val := .func (.func 83) #[] #[], born := 6 }, { key := .int .i64 16, val := .func (.func 84) #[] #[], born := 7 }, { key := .int .i64 22, val := .func (.func 85) #[] #[], born := 8 }, { key := .int .i64 23, val := .func (.func 86) #[] #[], born := 9 }]
set_option maxRecDepth 20000 in
set_option maxHeartbeats 4000000 in
theorem deeds_any (w : World) : Calls Try.prog 65 #[] w fun e w' => e = .returned (.map (some w.heap.size)) ∧ w'.heap[w.heap.size]? = some (.map deedsE 10) ∧ Below w.heap.size w w' := by
  have hmm := @run_makeMap Try.prog
  have i0 : (Instr.mapUpdate 87 (.map (some w.heap.size)) (.int .i64 1) (.func (.func 77) #[] #[])).run Try.prog (w.alloc (.map #[] 0)) = .ok () (w.alloc (.map #[{ key := .int .i64 1, val := .func (.func 77) #[] #[], born := 0 }] 1)) := mp_ins _ _ _ _ w rfl
  have i1 : (Instr.mapUpdate 87 (.map (some w.heap.size)) (.int .i64 2) (.func (.func 78) #[] #[])).run Try.prog (w.alloc (.map #[{ key := .int .i64 1, val := .func (.func 77) #[] #[], born := 0 }] 1)) = .ok () (w.alloc (.map #[{ key := .int .i64 1, val := .func (.func 77) #[] #[], born := 0 }, { key := .int .i64 2, val := .func (.func 78) #[] #[], born := 1 }] 2)) := mp_ins _ _ _ _ w rfl
  have i2 : (Instr.mapUpdate 87 (.map (some w.heap.size)) (.int .i64 3) (.func (.func 79) #[] #[])).run Try.prog (w.alloc (.map #[{ key := .int .i64 1, val := .func (.func 77) #[] #[], born := 0 }, { key := .int .i64 2, val := .func (.func 78) #[] #[], born := 1 }] 2)) = .ok () (w.alloc (.map #[{ key := .int .i64 1, val := .func (.func 77) #[] #[], born := 0 }, { key := .int .i64 2, val := .func (.func 78) #[] #[], born := 1 }, { key := .int .i64 3, val := .func (.func 79) #[] #[], born := 2 }] 3)) := mp_ins _ _ _ _ w rfl
  have i3 : (Instr.mapUpdate 87 (.map (some w.heap.size)) (.int .i64 4) (.func (.func 80) #[] #[])).run Try.prog (w.alloc (.map #[{ key := .int .i64 1, val := .func (.func 77) #[] #[], born := 0 }, { key := .int .i64 2, val := .func (.func 78) #[] #[], born := 1 }, { key := .int .i64 3, val := .func (.func 79) #[] #[], born := 2 }] 3)) = .ok () (w.alloc (.map #[{ key := .int .i64 1, val := .func (.func 77) #[] #[], born := 0 }, { key := .int .i64 2, val := .func (.func 78) #[] #[], born := 1 }, { key := .int .i64 3, val := .func (.func 79) #[] #[], born := 2 }, { key := .int .i64 4, val := .func (.func 80) #[] #[], born := 3 }] 4)) := mp_ins _ _ _ _ w rfl
  have i4 : (Instr.mapUpdate 87 (.map (some w.heap.size)) (.int .i64 5) (.func (.func 81) #[] #[])).run Try.prog (w.alloc (.map #[{ key := .int .i64 1, val := .func (.func 77) #[] #[], born := 0 }, { key := .int .i64 2, val := .func (.func 78) #[] #[], born := 1 }, { key := .int .i64 3, val := .func (.func 79) #[] #[], born := 2 }, { key := .int .i64 4, val := .func (.func 80) #[] #[], born := 3 }] 4)) = .ok () (w.alloc (.map #[{ key := .int .i64 1, val := .func (.func 77) #[] #[], born := 0 }, { key := .int .i64 2, val := .func (.func 78) #[] #[], born := 1 }, { key := .int .i64 3, val := .func (.func 79) #[] #[], born := 2 }, { key := .int .i64 4, val := .func (.func 80) #[] #[], born := 3 }, { key := .int .i64 5, val := .func (.func 81) #[] #[], born := 4 }] 5)) := mp_ins _ _ _ _ w rfl
  have i5 : (Instr.mapUpdate 87 (.map (some w.heap.size)) (.int .i64 6) (.func (.func 82) #[] #[])).run Try.prog (w.alloc (.map #[{ key := .int .i64 1, val := .func (.func 77) #[] #[], born := 0 }, { key := .int .i64 2, val := .func (.func 78) #[] #[], born := 1 }, { key := .int .i64 3, val := .func (.func 79) #[] #[], born := 2 }, { key := .int .i64 4, val := .func (.func 80) #[] #[], born := 3 }, { key := .int .i64 5, val := .func (.func 81) #[] #[], born := 4 }] 5)) = .ok () (w.alloc (.map #[{ key := .int .i64 1, val := .func (.func 77) #[] #[], born := 0 }, { key := .int .i64 2, val := .func (.func 78) #[] #[], born := 1 }, { key := .int .i64 3, val := .func (.func 79) #[] #[], born := 2 }, { key := .int .i64 4, val := .func (.func 80) #[] #[], born := 3 }, { key := .int .i64 5, val := .func (.func 81) #[] #[], born := 4 }, { key := .int .i64 6, val := .func (.func 82) #[] #[], born := 5 }] 6)) := mp_ins _ _ _ _ w rfl
  have i6 : (Instr.mapUpdate 87 (.map (some w.heap.size)) (.int .i64 15) (.func (.func 83) #[] #[])).run Try.prog (w.alloc (.map #[{ key := .int .i64 1, val := .func (.func 77) #[] #[], born := 0 }, { key := .int .i64 2, val := .func (.func 78) #[] #[], born := 1 }, { key := .int .i64 3, val := .func (.func 79) #[] #[], born := 2 }, { key := .int .i64 4, val := .func (.func 80) #[] #[], born := 3 }, { key := .int .i64 5, val := .func (.func 81) #[] #[], born := 4 }, { key := .int .i64 6, val := .func (.func 82) #[] #[], born := 5 }] 6)) = .ok () (w.alloc (.map #[{ key := .int .i64 1, val := .func (.func 77) #[] #[], born := 0 }, { key := .int .i64 2, val := .func (.func 78) #[] #[], born := 1 }, { key := .int .i64 3, val := .func (.func 79) #[] #[], born := 2 }, { key := .int .i64 4, val := .func (.func 80) #[] #[], born := 3 }, { key := .int .i64 5, val := .func (.func 81) #[] #[], born := 4 }, { key := .int .i64 6, val := .func (.func 82) #[] #[], born := 5 }, { key := .int .i64 15, val := .func (.func 83) #[] #[], born := 6 }] 7)) := mp_ins _ _ _ _ w rfl
  have i7 : (Instr.mapUpdate 87 (.map (some w.heap.size)) (.int .i64 16) (.func (.func 84) #[] #[])).run Try.prog (w.alloc (.map #[{ key := .int .i64 1, val := .func (.func 77) #[] #[], born := 0 }, { key := .int .i64 2, val := .func (.func 78) #[] #[], born := 1 }, { key := .int .i64 3, val := .func (.func 79) #[] #[], born := 2 }, { key := .int .i64 4, val := .func (.func 80) #[] #[], born := 3 }, { key := .int .i64 5, val := .func (.func 81) #[] #[], born := 4 }, { key := .int .i64 6, val := .func (.func 82) #[] #[], born := 5 }, { key := .int .i64 15, val := .func (.func 83) #[] #[], born := 6 }] 7)) = .ok () (w.alloc (.map #[{ key := .int .i64 1, val := .func (.func 77) #[] #[], born := 0 }, { key := .int .i64 2, val := .func (.func 78) #[] #[], born := 1 }, { key := .int .i64 3, val := .func (.func 79) #[] #[], born := 2 }, { key := .int .i64 4, val := .func (.func 80) #[] #[], born := 3 }, { key := .int .i64 5, val := .func (.func 81) #[] #[], born := 4 }, { key := .int .i64 6, val := .func (.func 82) #[] #[], born := 5 }, { key := .int .i64 15, val := .func (.func 83) #[] #[], born := 6 }, { key := .int .i64 16, val := .func (.func 84) #[] #[], born := 7 }] 8)) := mp_ins _ _ _ _ w rfl
  have i8 : (Instr.mapUpdate 87 (.map (some w.heap.size)) (.int .i64 22) (.func (.func 85) #[] #[])).run Try.prog (w.alloc (.map #[{ key := .int .i64 1, val := .func (.func 77) #[] #[], born := 0 }, { key := .int .i64 2, val := .func (.func 78) #[] #[], born := 1 }, { key := .int .i64 3, val := .func (.func 79) #[] #[], born := 2 }, { key := .int .i64 4, val := .func (.func 80) #[] #[], born := 3 }, { key := .int .i64 5, val := .func (.func 81) #[] #[], born := 4 }, { key := .int .i64 6, val := .func (.func 82) #[] #[], born := 5 }, { key := .int .i64 15, val := .func (.func 83) #[] #[], born := 6 }, { key := .int .i64 16, val := .func (.func 84) #[] #[], born := 7 }] 8)) = .ok () (w.alloc (.map #[{ key := .int .i64 1, val := .func (.func 77) #[] #[], born := 0 }, { key := .int .i64 2, val := .func (.func 78) #[] #[], born := 1 }, { key := .int .i64 3, val := .func (.func 79) #[] #[], born := 2 }, { key := .int .i64 4, val := .func (.func 80) #[] #[], born := 3 }, { key := .int .i64 5, val := .func (.func 81) #[] #[], born := 4 }, { key := .int .i64 6, val := .func (.func 82) #[] #[], born := 5 }, { key := .int .i64 15, val := .func (.func 83) #[] #[], born := 6 }, { key := .int .i64 16, val := .func (.func 84) #[] #[], born := 7 }, { key := .int .i64 22, val := .func (.func 85) #[] #[], born := 8 }] 9)) := mp_ins _ _ _ _ w rfl
  have i9 : (Instr.mapUpdate 87 (.map (some w.heap.size)) (.int .i64 23) (.func (.func 86) #[] #[])).run Try.prog (w.alloc (.map #[{ key := .int .i64 1, val := .func (.func 77) #[] #[], born := 0 }, { key := .int .i64 2, val := .func (.func 78) #[] #[], born := 1 }, { key := .int .i64 3, val := .func (.func 79) #[] #[], born := 2 }, { key := .int .i64 4, val := .func (.func 80) #[] #[], born := 3 }, { key := .int .i64 5, val := .func (.func 81) #[] #[], born := 4 }, { key := .int .i64 6, val := .func (.func 82) #[] #[], born := 5 }, { key := .int .i64 15, val := .func (.func 83) #[] #[], born := 6 }, { key := .int .i64 16, val := .func (.func 84) #[] #[], born := 7 }, { key := .int .i64 22, val := .func (.func 85) #[] #[], born := 8 }] 9)) = .ok () (w.alloc (.map #[{ key := .int .i64 1, val := .func (.func 77) #[] #[], born := 0 }, { key := .int .i64 2, val := .func (.func 78) #[] #[], born := 1 }, { key := .int .i64 3, val := .func (.func 79) #[] #[], born := 2 }, { key := .int .i64 4, val := .func (.func 80) #[] #[], born := 3 }, { key := .int .i64 5, val := .func (.func 81) #[] #[], born := 4 }, { key := .int .i64 6, val := .func (.func 82) #[] #[], born := 5 }, { key := .int .i64 15, val := .func (.func 83) #[] #[], born := 6 }, { key := .int .i64 16, val := .func (.func 84) #[] #[], born := 7 }, { key := .int .i64 22, val := .func (.func 85) #[] #[], born := 8 }, { key := .int .i64 23, val := .func (.func 86) #[] #[], born := 9 }] 10)) := mp_ins _ _ _ _ w rfl
  go_enter Try.func65, Try.ntmps65
  go_wp2
  go_ret
  exact ⟨rfl, by show (w.heap.push _)[w.heap.size]? = _; simp [deedsE], bel_alloc _ _⟩
theorem szq4 : (Try.prog.info? 4).map (·.size) = some 1 := by kernel_rfl
theorem slB_at {w : World} {b off : Nat} {zs : List Bool} (h : SlB w (some ⟨b, off, none⟩) zs) : ∀ j v, (zs.map Value.bool)[j]? = some v → w.cell? (Addr.add ⟨b, off, none⟩ j) = some v := by
  intro j v hj
  have hlt : j < zs.length := by
    rcases Nat.lt_or_ge j zs.length with q | q
    · exact q
    · rw [List.getElem?_eq_none (by simpa using q)] at hj; cases hj
  obtain ⟨b', off', e, _, hc⟩ := cell_atB h hlt
  simp at e
  obtain ⟨rfl, rfl⟩ := e
  have ev : v = .bool (zs.getD j false) := by
    rw [List.getElem?_map, List.getElem?_eq_getElem hlt] at hj
    simp at hj
    rw [← hj, List.getD_eq_getElem?_getD, List.getElem?_eq_getElem hlt]; rfl
  rw [ev]
  by_cases e0 : j = 0
  · subst e0; simpa [Addr.add] using hc
  · simpa [Addr.add, e0] using hc
theorem onesB (zs : List Bool) : ∀ v ∈ zs.map Value.bool, v.oneCell' = true := by
  intro v hv
  obtain ⟨z, _, rfl⟩ := List.mem_map.1 hv
  rfl
theorem OwnB.ofHeap {w : World} {base g n : Nat} {zs : List Bool} (h : w.heap[g]? = some (.cells (zs.map Value.bool).toArray 4 (0, 0))) (hn : n = zs.length) (hb : base ≤ g) (hm : n ≤ maxLen) : OwnB w base (.slice (some ⟨g, 0, none⟩) n n) zs := by
  subst hn
  exact ⟨by simp, .inr ⟨g, zs.length, (zs.map Value.bool).toArray, rfl, hb, h, Nat.le_refl _, hm, by simp, by simp; exact List.take_of_length_le (by simp)⟩⟩
theorem splice_allB {α : Type} (L cs : List α) (h : cs.length = L.length) : splice L 0 cs = cs := by simp [splice, h]
theorem made_rowB (w : World) (n : Nat) : ∃ Z : List Value, Z.length = n ∧ (w.alloc (.cells (madeCells #[.bool false] n) 4)).heap[w.heap.size]? = some (.cells Z.toArray 4 (0, 0)) := by
  obtain ⟨c, hc, hsz, _⟩ := World.rowIs_made w (.bool false) n 4
  exact ⟨c.toList, by simpa using hsz, by simpa using hc⟩
set_option maxHeartbeats 1000000 in
theorem copyOfB (a : Option Addr) (n cap : Nat) (zs : List Bool) (w : World) (hn : n = zs.length) (hs : SlB w a zs) (hl : zs.length ≤ 2000000) :
    Calls Try.prog 60 #[.slice a n cap] w fun e w' => ∃ g, e = .returned (.slice (some ⟨g, 0, none⟩) n n) ∧ OwnB w' w.heap.size (.slice (some ⟨g, 0, none⟩) n n) zs ∧ Below w.heap.size w w' := by
  have hm : n ≤ maxLen := by unfold maxLen; omega
  have hmk := run_make_row' (P := Try.prog) 24 4 (.bool false) 1 Try.underlying24 Try.info4 rfl .i64 .i64 n (by omega) (by omega)
  obtain ⟨Z, hZ, hZh⟩ := made_rowB w n
  have HZ : Hid (Z.length = n) := hZ
  have HZh : Hid ((w.alloc (.cells (madeCells #[.bool false] n) 4)).heap[w.heap.size]? = some (.cells Z.toArray 4 (0, 0))) := hZh
  have HN : Hid (n = zs.length) := hn
  have b0 : Below w.heap.size w (w.alloc (.cells (madeCells #[.bool false] n) 4)) := (Below.refl _ w).alloc (Nat.le_refl _) _
  have hs1 := SlB.below hs b0
  obtain ⟨X, hX⟩ : ∃ X, X = zs.map Value.bool := ⟨_, rfl⟩
  have HX : Hid (X = zs.map Value.bool) := hX
  have hXl : Hid (X.length = n) := by show X.length = n; rw [hX, hn]; simp
  have hpos : 0 < X.length → ∃ ad, a = some ad ∧ ∀ j v, X[j]? = some v → (w.alloc (.cells (madeCells #[.bool false] n) 4)).cell? (ad.add j) = some v := by
    intro h
    rcases hs1 with h0 | ⟨b, off, ha, hb, hc⟩
    · rw [hX, h0] at h; simp at h
    · exact ⟨⟨b, off, none⟩, ha, by rw [hX]; exact slB_at (.inr ⟨b, off, rfl, hb, hc⟩)⟩
  have hone : ∀ v ∈ X, v.oneCell' = true := by rw [hX]; exact onesB zs
  have HP : Hid (0 < X.length → ∃ ad, a = some ad ∧ ∀ j v, X[j]? = some v → (w.alloc (.cells (madeCells #[.bool false] n) 4)).cell? (ad.add j) = some v) := hpos
  clear hs hs1 hn hZ hX hpos hZh
  go_enter Try.func60, Try.ntmps60
  go_wp2_with ((refine wpList_copy_splice rfl (.tmp 7) (.tmp 8) 24 24 rfl 4 Try.underlying24 szq4 _ _ _ _ _ _ rfl rfl w.heap.size 0 Z 4 HZh.out X (by rw [hXl.out]; exact (Nat.min_self n).symm) (fun h => ⟨rfl, HP.out h⟩) (by rw [hXl.out, HZ.out]; omega) hone w.heap.size w b0 (Nat.le_refl _) ?_); intro w2 H2 b2)
  have O2 : OwnB w2 w.heap.size (.slice (some ⟨w.heap.size, 0, none⟩) n n) zs := OwnB.ofHeap (by rw [← HX.out, ← splice_allB Z X (by rw [hXl.out, HZ.out])]; exact H2.out) HN.out (Nat.le_refl _) hm
  go_ret
  exact ⟨_, rfl, O2, b2⟩
theorem szq3 : (Try.prog.info? 3).map (·.size) = some 1 := by kernel_rfl
theorem slI_at {w : World} {b off : Nat} {zs : List Int} (h : SlI w (some ⟨b, off, none⟩) zs) : ∀ j v, (zs.map (Value.int .i64))[j]? = some v → w.cell? (Addr.add ⟨b, off, none⟩ j) = some v := by
  intro j v hj
  have hlt : j < zs.length := by
    rcases Nat.lt_or_ge j zs.length with q | q
    · exact q
    · rw [List.getElem?_eq_none (by simpa using q)] at hj; cases hj
  obtain ⟨b', off', e, _, hc⟩ := cell_atI h hlt
  simp at e
  obtain ⟨rfl, rfl⟩ := e
  have ev : v = .int .i64 (zs.getD j 0) := by
    rw [List.getElem?_map, List.getElem?_eq_getElem hlt] at hj
    simp at hj
    rw [← hj, List.getD_eq_getElem?_getD, List.getElem?_eq_getElem hlt]; rfl
  rw [ev]
  by_cases e0 : j = 0
  · subst e0; simpa [Addr.add] using hc
  · simpa [Addr.add, e0] using hc
theorem onesI (zs : List Int) : ∀ v ∈ zs.map (Value.int .i64), v.oneCell' = true := by
  intro v hv
  obtain ⟨z, _, rfl⟩ := List.mem_map.1 hv
  rfl
theorem OwnI.ofHeap {w : World} {base g n : Nat} {zs : List Int} (h : w.heap[g]? = some (.cells (zs.map (Value.int .i64)).toArray 3 (0, 0))) (hn : n = zs.length) (hb : base ≤ g) (hm : n ≤ maxLen) : OwnI w base (.slice (some ⟨g, 0, none⟩) n n) zs := by
  subst hn
  exact ⟨by simp, .inr ⟨g, zs.length, (zs.map (Value.int .i64)).toArray, rfl, hb, h, Nat.le_refl _, hm, by simp, by simp; exact List.take_of_length_le (by simp)⟩⟩
theorem splice_allI {α : Type} (L cs : List α) (h : cs.length = L.length) : splice L 0 cs = cs := by simp [splice, h]
theorem made_rowI (w : World) (n : Nat) : ∃ Z : List Value, Z.length = n ∧ (w.alloc (.cells (madeCells #[.int .i64 0] n) 3)).heap[w.heap.size]? = some (.cells Z.toArray 3 (0, 0)) := by
  obtain ⟨c, hc, hsz, _⟩ := World.rowIs_made w (.int .i64 0) n 3
  exact ⟨c.toList, by simpa using hsz, by simpa using hc⟩
set_option maxHeartbeats 1000000 in
theorem copyOfI (a : Option Addr) (n cap : Nat) (zs : List Int) (w : World) (hn : n = zs.length) (hs : SlI w a zs) (hl : zs.length ≤ 2000000) :
    Calls Try.prog 61 #[.slice a n cap] w fun e w' => ∃ g, e = .returned (.slice (some ⟨g, 0, none⟩) n n) ∧ OwnI w' w.heap.size (.slice (some ⟨g, 0, none⟩) n n) zs ∧ Below w.heap.size w w' := by
  have hm : n ≤ maxLen := by unfold maxLen; omega
  have hmk := run_make_row' (P := Try.prog) 25 3 (.int .i64 0) 8 Try.underlying25 Try.infoI3 rfl .i64 .i64 n (by omega) (by omega)
  obtain ⟨Z, hZ, hZh⟩ := made_rowI w n
  have HZ : Hid (Z.length = n) := hZ
  have HZh : Hid ((w.alloc (.cells (madeCells #[.int .i64 0] n) 3)).heap[w.heap.size]? = some (.cells Z.toArray 3 (0, 0))) := hZh
  have HN : Hid (n = zs.length) := hn
  have b0 : Below w.heap.size w (w.alloc (.cells (madeCells #[.int .i64 0] n) 3)) := (Below.refl _ w).alloc (Nat.le_refl _) _
  have hs1 := SlI.below hs b0
  obtain ⟨X, hX⟩ : ∃ X, X = zs.map (Value.int .i64) := ⟨_, rfl⟩
  have HX : Hid (X = zs.map (Value.int .i64)) := hX
  have hXl : Hid (X.length = n) := by show X.length = n; rw [hX, hn]; simp
  have hpos : 0 < X.length → ∃ ad, a = some ad ∧ ∀ j v, X[j]? = some v → (w.alloc (.cells (madeCells #[.int .i64 0] n) 3)).cell? (ad.add j) = some v := by
    intro h
    rcases hs1 with h0 | ⟨b, off, ha, hb, hc⟩
    · rw [hX, h0] at h; simp at h
    · exact ⟨⟨b, off, none⟩, ha, by rw [hX]; exact slI_at (.inr ⟨b, off, rfl, hb, hc⟩)⟩
  have hone : ∀ v ∈ X, v.oneCell' = true := by rw [hX]; exact onesI zs
  have HP : Hid (0 < X.length → ∃ ad, a = some ad ∧ ∀ j v, X[j]? = some v → (w.alloc (.cells (madeCells #[.int .i64 0] n) 3)).cell? (ad.add j) = some v) := hpos
  clear hs hs1 hn hZ hX hpos hZh
  go_enter Try.func61, Try.ntmps61
  go_wp2_with ((refine wpList_copy_splice rfl (.tmp 7) (.tmp 8) 25 25 rfl 3 Try.underlying25 szq3 _ _ _ _ _ _ rfl rfl w.heap.size 0 Z 3 HZh.out X (by rw [hXl.out]; exact (Nat.min_self n).symm) (fun h => ⟨rfl, HP.out h⟩) (by rw [hXl.out, HZ.out]; omega) hone w.heap.size w b0 (Nat.le_refl _) ?_); intro w2 H2 b2)
  have O2 : OwnI w2 w.heap.size (.slice (some ⟨w.heap.size, 0, none⟩) n n) zs := OwnI.ofHeap (by rw [← HX.out, ← splice_allI Z X (by rw [hXl.out, HZ.out])]; exact H2.out) HN.out (Nat.le_refl _) hm
  go_ret
  exact ⟨_, rfl, O2, b2⟩
end Go.Proofs.Ytfdddkjonjpgpaa
namespace Go.Proofs.Ytfdddkjonjpgpaa
open Go.RowKit
set_option linter.unusedVariables false
set_option linter.unusedSimpArgs false
set_option maxRecDepth 20000 in
set_option maxHeartbeats 8000000 in
theorem copyDevice_any (a1 a2 a3 a4 : Option Addr) (l1 l2 l3 l4 c1 c2 c3 c4 : Nat) (cs is : List Bool) (hs rs : List Int) (w : World) (hn : LnD l1 l2 l3 l4 cs is hs rs) (hs0 : SlD w a1 a2 a3 a4 cs is hs rs) (hl : SmD 2000000 cs is hs rs) :
    Calls Try.prog 30 #[dv a1 a2 a3 a4 l1 l2 l3 l4 c1 c2 c3 c4] w fun e w' => ∃ g1 g2 g3 g4, e = .returned (.agg #[.slice (some ⟨g1, 0, none⟩) l1 l1, .slice (some ⟨g2, 0, none⟩) l2 l2, .slice (some ⟨g3, 0, none⟩) l3 l3, .slice (some ⟨g4, 0, none⟩) l4 l4]) ∧ OwnD w' w.heap.size (some ⟨g1, 0, none⟩) (some ⟨g2, 0, none⟩) (some ⟨g3, 0, none⟩) (some ⟨g4, 0, none⟩) l1 l2 l3 l4 l1 l2 l3 l4 cs is hs rs ∧ Below w.heap.size w w' := by
  obtain ⟨z1, hz1⟩ : ∃ z, z = (w.alloc (.cells #[.slice a1 l1 c1, .slice a2 l2 c2, .slice a3 l3 c3, .slice a4 l4 c4] 27)).alloc (.cells #[.slice none 0 0, .slice none 0 0, .slice none 0 0, .slice none 0 0] 27) := ⟨_, rfl⟩
  have HZ : Hid (z1 = _) := hz1
  have hz : z1.heap.size = w.heap.size + 1 + 1 := by rw [hz1]; simp
  have b0 : Below w.heap.size w z1 := by rw [hz1]; exact bel_next (bel_alloc w _) (bel_alloc _ _)
  have X0 : Blk z1 w.heap.size 27 #[.slice a1 l1 c1, .slice a2 l2 c2, .slice a3 l3 c3, .slice a4 l4 c4] := by rw [hz1]; exact (Blk.new w _ _).below (bel_alloc _ _)
  have R0 : Blk z1 (w.heap.size + 1) 27 #[.slice none 0 0, .slice none 0 0, .slice none 0 0, .slice none 0 0] := by rw [hz1]; have := Blk.new (w.alloc (.cells #[.slice a1 l1 c1, .slice a2 l2 c2, .slice a3 l3 c3, .slice a4 l4 c4] 27)) #[.slice none 0 0, .slice none 0 0, .slice none 0 0, .slice none 0 0] 27; simpa using this
  have HS : Hid (SlD z1 a1 a2 a3 a4 cs is hs rs) := hs0.below b0
  have HN : Hid (LnD l1 l2 l3 l4 cs is hs rs ∧ SmD 2000000 cs is hs rs) := ⟨hn, hl⟩
  have dz : Below z1.heap.size z1 z1.drew := (Below.refl _ _).drew
  obtain ⟨x0, x1, x2, x3⟩ := X0.four
  obtain ⟨y0, y1, y2, y3⟩ := R0.four
  have fy := R0.fro
  have fy0 := fy 0
  have fy1 := fy 1
  have fy2 := fy 2
  have fy3 := fy 3
  clear hn hs0 hl hz1
  go_enter Try.func30, Try.ntmps30
  go_upto_region 1 with fail
  rw [← HZ.out]
  go_region_held3 (fun w' => w'.cell? ⟨w.heap.size, 0, none⟩ = some (.slice a1 l1 c1) ∧ w'.cell? ⟨w.heap.size, 1, none⟩ = some (.slice a2 l2 c2) ∧ w'.cell? ⟨w.heap.size, 2, none⟩ = some (.slice a3 l3 c3) ∧ w'.cell? ⟨w.heap.size, 3, none⟩ = some (.slice a4 l4 c4)) (go_keep)
    (first
      | (go_at_call 60; have M1' := i1; clear M1'; refine (copyOfB a2 l2 c2 is _ HN.out.1.2.1 (HS.out.2.1.below (by first | exact B1 | exact B1.drew)) HN.out.2.2.1).mono ?_; rintro e w2 ⟨g2, rfl, i2, b'⟩; have B2 : Below z1.heap.size z1 w2 := (by first | exact bel_next B1 b' | exact bel_next B1.drew b'); have D12 := Df.ofBase i1 i2 (Nat.le_refl _); replace i1 := (by first | exact i1.below b' | exact (i1.below (Below.refl _ _).drew).below b'); obtain ⟨x20, x21, x22, x23⟩ := (X0.below B2).four; obtain ⟨y20, y21, y22, y23⟩ := (R0.below B2).four; have f20 := (R0.below B2).fro 0; have f21 := (R0.below B2).fro 1; have f22 := (R0.below B2).fro 2; have f23 := (R0.below B2).fro 3; clear b')
      | (go_at_call 60; refine (copyOfB a1 l1 c1 cs _ HN.out.1.1 (HS.out.1.below (by first | exact Below.refl _ _ | exact dz)) HN.out.2.1).mono ?_; rintro e w1 ⟨g1, rfl, i1, b'⟩; have B1 : Below z1.heap.size z1 w1 := (by first | exact bel_next (Below.refl _ z1) b' | exact bel_next (Below.refl _ z1).drew b'); obtain ⟨x10, x11, x12, x13⟩ := (X0.below B1).four; obtain ⟨y10, y11, y12, y13⟩ := (R0.below B1).four; have f10 := (R0.below B1).fro 0; have f11 := (R0.below B1).fro 1; have f12 := (R0.below B1).fro 2; have f13 := (R0.below B1).fro 3; clear b')
      | (go_at_call 61; have M3' := i3; clear M3'; refine (copyOfI a4 l4 c4 rs _ HN.out.1.2.2.2 (HS.out.2.2.2.below (by first | exact B3 | exact B3.drew)) HN.out.2.2.2.2).mono ?_; rintro e w4 ⟨g4, rfl, i4, b'⟩; have B4 : Below z1.heap.size z1 w4 := (by first | exact bel_next B3 b' | exact bel_next B3.drew b'); replace i1 := (by first | exact i1.below b' | exact (i1.below (Below.refl _ _).drew).below b'); replace i2 := (by first | exact i2.below b' | exact (i2.below (Below.refl _ _).drew).below b'); have D34 := Df.ofBase i3 i4 (Nat.le_refl _); replace i3 := (by first | exact i3.below b' | exact (i3.below (Below.refl _ _).drew).below b'); obtain ⟨x40, x41, x42, x43⟩ := (X0.below B4).four; obtain ⟨y40, y41, y42, y43⟩ := (R0.below B4).four; have f40 := (R0.below B4).fro 0; have f41 := (R0.below B4).fro 1; have f42 := (R0.below B4).fro 2; have f43 := (R0.below B4).fro 3; clear b')
      | (go_at_call 61; have M2' := i2; clear M2'; refine (copyOfI a3 l3 c3 hs _ HN.out.1.2.2.1 (HS.out.2.2.1.below (by first | exact B2 | exact B2.drew)) HN.out.2.2.2.1).mono ?_; rintro e w3 ⟨g3, rfl, i3, b'⟩; have B3 : Below z1.heap.size z1 w3 := (by first | exact bel_next B2 b' | exact bel_next B2.drew b'); replace i1 := (by first | exact i1.below b' | exact (i1.below (Below.refl _ _).drew).below b'); replace i2 := (by first | exact i2.below b' | exact (i2.below (Below.refl _ _).drew).below b'); obtain ⟨x30, x31, x32, x33⟩ := (X0.below B3).four; obtain ⟨y30, y31, y32, y33⟩ := (R0.below B3).four; have f30 := (R0.below B3).fro 0; have f31 := (R0.below B3).fro 1; have f32 := (R0.below B3).fro 2; have f33 := (R0.below B3).fro 3; clear b'))
  all_goals (
    have q0 := b0.size
    have q1 := (bel_next b0 B1).size
    have q2 := (bel_next b0 B2).size
    have q3 := (bel_next b0 B3).size
    have HH : Hid (OwnD w4 w.heap.size (some ⟨g1, 0, none⟩) (some ⟨g2, 0, none⟩) (some ⟨g3, 0, none⟩) (some ⟨g4, 0, none⟩) l1 l2 l3 l4 l1 l2 l3 l4 cs is hs rs ∧ ExB w4 (w.heap.size + 1) 27 ∧ Below w.heap.size w w4) := ⟨⟨OwnB.mono i1 (by first | exact q0 | exact q1), OwnB.mono i2 (by first | exact q1 | exact q2), OwnI.mono i3 (by first | exact q2 | exact q3), OwnI.mono i4 (by first | exact q3 | omega), D12, D34⟩, ⟨_, R0.below B4⟩, bel_next b0 B4⟩
    clear i1 i2 i3 i4 D12 D34
    go_wp2
    refine bodyPost_ret (v := .agg #[.slice (some ⟨g1, 0, none⟩) l1 l1, .slice (some ⟨g2, 0, none⟩) l2 l2, .slice (some ⟨g3, 0, none⟩) l3 l3, .slice (some ⟨g4, 0, none⟩) l4 l4]) (by simp [results, Try.results30, go_sem, y40, y41, y42, y43]) rfl ?_
    exact ⟨g1, g2, g3, g4, rfl, HH.out.1.set4 HH.out.2.1 (by decide) (by decide), bel_set4 HH.out.2.2 (by omega)⟩)
end Go.Proofs.Ytfdddkjonjpgpaa
namespace Go.Proofs.Ytfdddkjonjpgpaa
open Go.RowKit
set_option linter.unusedVariables false
set_option linter.unusedSimpArgs false
theorem OwnI.place {w : World} {B n cap k : Nat} {g : Option Addr} {zs : List Int} (h : OwnI w B (.slice g n cap) zs) (hk : k < n) :
    ∃ b, g = some ⟨b, 0, none⟩ ∧ B ≤ b ∧ b < w.heap.size ∧ w.cell? ⟨b, k, none⟩ = some (.int .i64 (zs.getD k 0)) ∧ w.frozen? ⟨b, k, none⟩ = false ∧ ∀ x, OwnI (w.setCell ⟨b, k, none⟩ (.int .i64 x)) B (.slice g n cap) (zs.set k x) := by
  obtain ⟨b, cur, rfl, hB, hlt, hh, hle, hm, hsz⟩ := h.cells (by omega)
  have hn := h.sl.1
  obtain ⟨b', off', e', _, hc⟩ := cell_atI h.sl.2 (show k < zs.length by omega)
  simp at e'
  obtain ⟨rfl, rfl⟩ := e'
  refine ⟨b, rfl, hB, hlt, by simpa using hc, by simp [World.frozen?, hh], fun x => ?_⟩
  obtain ⟨_, h2⟩ := h
  rcases h2 with ⟨h2, _⟩ | ⟨g', cap', cur', hv, hb', hh', hle', hm', hs', ht'⟩
  · simp at h2
  · simp only [Value.slice.injEq, Option.some.injEq, Addr.mk.injEq] at hv
    obtain ⟨⟨rfl, _, _⟩, _, rfl⟩ := hv
    refine ⟨by simp, .inr ⟨b, cap, cur'.setIfInBounds k (.int .i64 x), by simp [hn], hb', by simp [World.setCell, Array.getElem?_modify, hh'], by simpa using hle', hm', by simpa using hs', ?_⟩⟩
    simp only [List.length_set, Nat.mul_one] at ht' ⊢
    rw [Array.toList_setIfInBounds, List.take_set, ht', List.map_set]
theorem OwnB.place {w : World} {B n cap k : Nat} {g : Option Addr} {zs : List Bool} (h : OwnB w B (.slice g n cap) zs) (hk : k < n) :
    ∃ b, g = some ⟨b, 0, none⟩ ∧ B ≤ b ∧ b < w.heap.size ∧ w.cell? ⟨b, k, none⟩ = some (.bool (zs.getD k false)) ∧ w.frozen? ⟨b, k, none⟩ = false ∧ ∀ x, OwnB (w.setCell ⟨b, k, none⟩ (.bool x)) B (.slice g n cap) (zs.set k x) := by
  obtain ⟨b, cur, rfl, hB, hlt, hh, hle, hm, hsz⟩ := h.cells (by omega)
  have hn := h.sl.1
  obtain ⟨b', off', e', _, hc⟩ := cell_atB h.sl.2 (show k < zs.length by omega)
  simp at e'
  obtain ⟨rfl, rfl⟩ := e'
  refine ⟨b, rfl, hB, hlt, by simpa using hc, by simp [World.frozen?, hh], fun x => ?_⟩
  obtain ⟨_, h2⟩ := h
  rcases h2 with ⟨h2, _⟩ | ⟨g', cap', cur', hv, hb', hh', hle', hm', hs', ht'⟩
  · simp at h2
  · simp only [Value.slice.injEq, Option.some.injEq, Addr.mk.injEq] at hv
    obtain ⟨⟨rfl, _, _⟩, _, rfl⟩ := hv
    refine ⟨by simp, .inr ⟨b, cap, cur'.setIfInBounds k (.bool x), by simp [hn], hb', by simp [World.setCell, Array.getElem?_modify, hh'], by simpa using hle', hm', by simpa using hs', ?_⟩⟩
    simp only [List.length_set, Nat.mul_one] at ht' ⊢
    rw [Array.toList_setIfInBounds, List.take_set, ht', List.map_set]
def SV (W0 w w' : World) (e : Ending) (a1 a2 a3 a4 : Option Addr) (l1 l2 l3 l4 c1 c2 c3 c4 : Nat) (cs is : List Bool) (hs rs : List Int) (kd fl pl nn : Int) (ws : List Int) (bs : List Bool) : Prop :=
  ∃ r1 r2 m1 m2 k1 k2, e = .returned (rp kd fl pl nn r1 r2 m1 m2 k1 k2) ∧ OwnI w' w.heap.size (.slice r1 m1 k1) ws ∧ OwnB w' w.heap.size (.slice r2 m2 k2) bs ∧ OwnD w' W0.heap.size a1 a2 a3 a4 l1 l2 l3 l4 c1 c2 c3 c4 cs is hs rs ∧ Below W0.heap.size W0 w' ∧ Chg w w' (Of4 (.slice a1 l1 c1) (.slice a2 l2 c2) (.slice a3 l3 c3) (.slice a4 l4 c4))
theorem bel_setG {B : Nat} {W w : World} {g k : Nat} {v : Value} (hb : Below B W w) (hg : B ≤ g) : Below B W (w.setCell ⟨g, k, none⟩ v) := hb.setCell (p := ⟨g, k, none⟩) hg v
theorem OwnD.setWord {w : World} {B k : Nat} {a1 a2 a3 a4 : Option Addr} {l1 l2 l3 l4 c1 c2 c3 c4 : Nat} {cs is : List Bool} {hs rs : List Int} (h : OwnD w B a1 a2 a3 a4 l1 l2 l3 l4 c1 c2 c3 c4 cs is hs rs) (hk : k < l3) :
    ∃ b, a3 = some ⟨b, 0, none⟩ ∧ B ≤ b ∧ b < w.heap.size ∧ w.cell? ⟨b, k, none⟩ = some (.int .i64 (hs.getD k 0)) ∧ w.frozen? ⟨b, k, none⟩ = false ∧
      ∀ x, OwnD (w.setCell ⟨b, k, none⟩ (.int .i64 x)) B a1 a2 a3 a4 l1 l2 l3 l4 c1 c2 c3 c4 cs is (hs.set k x) rs ∧ Chg w (w.setCell ⟨b, k, none⟩ (.int .i64 x)) (Of4 (.slice a1 l1 c1) (.slice a2 l2 c2) (.slice a3 l3 c3) (.slice a4 l4 c4)) := by
  obtain ⟨h1, h2, h3, h4, d12, d34⟩ := h
  obtain ⟨b, rfl, hB, hlt, hc, hf, hset⟩ := h3.place hk
  refine ⟨b, rfl, hB, hlt, hc, hf, fun x => ?_⟩
  have gr := grown_setj w b k (.int .i64 x)
  have ob : (Value.slice (some ⟨b, 0, none⟩) l3 c3).ownBlock = some b := rfl
  refine ⟨⟨World.ownsRow.kept h1 gr (ob ▸ ne_types h1 h3 (by decide)), World.ownsRow.kept h2 gr (ob ▸ ne_types h2 h3 (by decide)), hset x, World.ownsRow.kept h4 gr (ob ▸ d34.symm.ne), d12, d34⟩, Chg.ofGrown gr (fun g hg => .inr (.inr (.inl (ob.trans hg))))⟩
end Go.Proofs.Ytfdddkjonjpgpaa
namespace Go.Proofs.Ytfdddkjonjpgpaa
open Go.RowKit
set_option linter.unusedVariables false
set_option linter.unusedSimpArgs false
theorem Chg.set6 {w w1 : World} {S : Nat → Prop} {g : Nat} {v0 v1 v2 v3 v4 v5 : Value} (h : Chg w w1 S) (hg : w.heap.size ≤ g) :
    Chg w ((((((w1.setCell ⟨g, 0, none⟩ v0).setCell ⟨g, 1, none⟩ v1).setCell ⟨g, 2, none⟩ v2).setCell ⟨g, 3, none⟩ v3).setCell ⟨g, 4, none⟩ v4).setCell ⟨g, 5, none⟩ v5) S := by
  have q := belp_set6 (v0 := v0) (v1 := v1) (v2 := v2) (v3 := v3) (v4 := v4) (v5 := v5) (Below.refl w.heap.size w1) hg
  exact ⟨q.os.trans h.1, q.tape.trans h.2.1, q.output.trans h.2.2.1, Nat.le_trans h.2.2.2.1 q.size, fun k hk hs => (q.block k hk).trans (h.2.2.2.2 k hk hs)⟩
theorem OwnD.set6 {w : World} {B g : Nat} {t : TypeId} {v0 v1 v2 v3 v4 v5 : Value} {a1 a2 a3 a4 : Option Addr} {l1 l2 l3 l4 c1 c2 c3 c4 : Nat} {cs is : List Bool} {hs rs : List Int} (h : OwnD w B a1 a2 a3 a4 l1 l2 l3 l4 c1 c2 c3 c4 cs is hs rs) (hb : ExB w g t) (h1 : t ≠ 4) (h2 : t ≠ 3) :
    OwnD ((((((w.setCell ⟨g, 0, none⟩ v0).setCell ⟨g, 1, none⟩ v1).setCell ⟨g, 2, none⟩ v2).setCell ⟨g, 3, none⟩ v3).setCell ⟨g, 4, none⟩ v4).setCell ⟨g, 5, none⟩ v5) B a1 a2 a3 a4 l1 l2 l3 l4 c1 c2 c3 c4 cs is hs rs :=
  ⟨rowp_set6 h.1 hb h1, rowp_set6 h.2.1 hb h1, rowp_set6 h.2.2.1 hb h2, rowp_set6 h.2.2.2.1 hb h2, h.2.2.2.2⟩
theorem Blk.drew {w : World} {g : Nat} {t : TypeId} {cs : Array Value} (h : Blk w g t cs) : Blk w.drew g t cs := h
theorem OwnD.drew {w : World} {B : Nat} {a1 a2 a3 a4 : Option Addr} {l1 l2 l3 l4 c1 c2 c3 c4 : Nat} {cs is : List Bool} {hs rs : List Int} (h : OwnD w B a1 a2 a3 a4 l1 l2 l3 l4 c1 c2 c3 c4 cs is hs rs) : OwnD w.drew B a1 a2 a3 a4 l1 l2 l3 l4 c1 c2 c3 c4 cs is hs rs := h
theorem Chg.drew {w w' : World} {S : Nat → Prop} (h : Chg w w' S) : Chg w w'.drew S := h
set_option maxRecDepth 20000 in
set_option maxHeartbeats 8000000 in
theorem setWord_any (a1 a2 a3 a4 : Option Addr) (l1 l2 l3 l4 c1 c2 c3 c4 : Nat) (cs is : List Bool) (hs rs : List Int) (kd nn wa : Int) (k : Nat) (q1 q2 : Option Addr) (m1 m2 k1 k2 : Nat) (ws : List Int) (bs : List Bool) (W0 w : World) (hB : Below W0.heap.size W0 w) (hD : OwnD w W0.heap.size a1 a2 a3 a4 l1 l2 l3 l4 c1 c2 c3 c4 cs is hs rs) (hn : m1 = ws.length) (hq : SlI W0 q1 ws) (hk : k < l3) (hl : ws.length ≤ 2000000) (h3 : l3 ≤ 2000000) (h0 : 0 < ws.length) :
    Calls Try.prog 82 #[dv a1 a2 a3 a4 l1 l2 l3 l4 c1 c2 c3 c4, rq kd (k : Int) nn wa q1 q2 m1 m2 k1 k2] w fun e w' => SV W0 w w' e a1 a2 a3 a4 l1 l2 l3 l4 c1 c2 c3 c4 cs is (hs.set k (ws.getD 0 0)) rs kd 0 (k : Int) 0 ws [] := by
  obtain ⟨z, hz⟩ : ∃ z, z = ((w.alloc (.cells #[.slice a1 l1 c1, .slice a2 l2 c2, .slice a3 l3 c3, .slice a4 l4 c4] 27)).alloc (.cells #[.int .i64 kd, .int .i64 (k : Int), .int .i64 nn, .slice q1 m1 k1, .slice q2 m2 k2, .int .i64 wa] 57)).alloc (.cells #[.int .i64 0, .int .i64 0, .int .i64 0, .int .i64 0, .slice none 0 0, .slice none 0 0] 37) := ⟨_, rfl⟩
  have HZ : Hid (z = _) := hz
  have b0 : Below w.heap.size w z := by rw [hz]; exact bel_next (bel_next (bel_alloc w _) (bel_alloc _ _)) (bel_alloc _ _)
  have X0 : Blk z w.heap.size 27 #[.slice a1 l1 c1, .slice a2 l2 c2, .slice a3 l3 c3, .slice a4 l4 c4] := by rw [hz]; exact ((Blk.new w _ _).below (bel_alloc _ _)).below (bel_alloc _ _)
  have Y0 : Blk z (w.heap.size + 1) 57 #[.int .i64 kd, .int .i64 (k : Int), .int .i64 nn, .slice q1 m1 k1, .slice q2 m2 k2, .int .i64 wa] := by rw [hz]; have := (Blk.new (w.alloc (.cells #[.slice a1 l1 c1, .slice a2 l2 c2, .slice a3 l3 c3, .slice a4 l4 c4] 27)) #[.int .i64 kd, .int .i64 (k : Int), .int .i64 nn, .slice q1 m1 k1, .slice q2 m2 k2, .int .i64 wa] 57).below (bel_alloc _ (.cells #[.int .i64 0, .int .i64 0, .int .i64 0, .int .i64 0, .slice none 0 0, .slice none 0 0] 37)); simpa using this
  have R0 : Blk z (w.heap.size + 1 + 1) 37 #[.int .i64 0, .int .i64 0, .int .i64 0, .int .i64 0, .slice none 0 0, .slice none 0 0] := by rw [hz]; have := Blk.new ((w.alloc (.cells #[.slice a1 l1 c1, .slice a2 l2 c2, .slice a3 l3 c3, .slice a4 l4 c4] 27)).alloc (.cells #[.int .i64 kd, .int .i64 (k : Int), .int .i64 nn, .slice q1 m1 k1, .slice q2 m2 k2, .int .i64 wa] 57)) #[.int .i64 0, .int .i64 0, .int .i64 0, .int .i64 0, .slice none 0 0, .slice none 0 0] 37; simpa using this
  have HB0 : Hid (Below W0.heap.size W0 z) := hB.trans (b0.mono hB.size)
  have D0 := hD.below b0
  have C0 : Hid (Chg w z (Of4 (.slice a1 l1 c1) (.slice a2 l2 c2) (.slice a3 l3 c3) (.slice a4 l4 c4))) := Chg.ofBelow b0
  have HQ : Hid (m1 = ws.length ∧ SlI W0 q1 ws ∧ ws.length ≤ 2000000) := ⟨hn, hq, hl⟩
  obtain ⟨b, ea3, hb, hlt, hc, hf, hset⟩ := D0.setWord hk
  subst ea3
  obtain ⟨bq, off, eq1, hbq, hcq⟩ := cell_atI (hq.below HB0.out) h0
  have hcq0 : z.cell? ⟨bq, off, none⟩ = some (.int .i64 (ws.getD 0 0)) := by simpa using hcq
  subst eq1
  generalize hx : ws.getD 0 0 = x at *
  obtain ⟨D1, C1⟩ := hset x
  have Y1 := Y0.chg C1 (D0.noBlk Y0 (by decide) (by decide))
  have R1 := R0.chg C1 (D0.noBlk R0 (by decide) (by decide))
  have i0 : (k : Int) < (l3 : Int) := by omega
  have i1 : (0 : Int) < (m1 : Int) := by omega
  obtain ⟨x0, x1, x2, x3⟩ := X0.four
  obtain ⟨y0, y1, y2, y3, y4, y5⟩ := Y0.six
  have HH0 : Hid (OwnD (z.setCell ⟨b, k, none⟩ (.int .i64 x)) W0.heap.size a1 a2 (some ⟨b, 0, none⟩) a4 l1 l2 l3 l4 c1 c2 c3 c4 cs is (hs.set k x) rs ∧ Chg w (z.setCell ⟨b, k, none⟩ (.int .i64 x)) (Of4 (.slice a1 l1 c1) (.slice a2 l2 c2) (.slice (some ⟨b, 0, none⟩) l3 c3) (.slice a4 l4 c4)) ∧ Below W0.heap.size W0 (z.setCell ⟨b, k, none⟩ (.int .i64 x))) := ⟨D1, C0.out.trans C1, bel_setG HB0.out hb⟩
  clear hz hset D1 C1 D0 hD hcq hq hn hl hk hlt
  go_enter Try.func82, Try.ntmps82
  go_upto_region 1 with fail
  rw [← HZ.out]
  go_region
  clear hc hf hcq0 x0 x1 x2 x3 y0 y1 y2 y3 y4 y5
  go_upto_region 2 with fail
  obtain ⟨z2, hz2⟩ : ∃ z2, z2 = (z.setCell ⟨b, k, none⟩ (.int .i64 x)).drew := ⟨_, rfl⟩
  have Y2 := Y1.drew
  have R2 := R1.drew
  rw [← hz2] at Y2 R2
  have D2 : OwnD z2 W0.heap.size a1 a2 (some ⟨b, 0, none⟩) a4 l1 l2 l3 l4 c1 c2 c3 c4 cs is (hs.set k x) rs := by rw [hz2]; exact HH0.out.1.drew
  have C2 : Hid (Chg w z2 (Of4 (.slice a1 l1 c1) (.slice a2 l2 c2) (.slice (some ⟨b, 0, none⟩) l3 c3) (.slice a4 l4 c4))) := by rw [hz2]; exact HH0.out.2.1.drew
  have HB2 : Hid (Below W0.heap.size W0 z2) := by rw [hz2]; exact HH0.out.2.2.drew
  simp only [← hz2]
  clear hz2 Y1 R1 HH0
  obtain ⟨y0, y1, y2, y3, y4, y5⟩ := Y2.six
  have dz : Below z2.heap.size z2 z2.drew := (Below.refl _ _).drew
  go_region_held3 (fun w' => w'.cell? ⟨w.heap.size + 1, 0, none⟩ = some (.int .i64 kd) ∧ w'.cell? ⟨w.heap.size + 1, 1, none⟩ = some (.int .i64 (k : Int)) ∧ w'.cell? ⟨w.heap.size + 1, 3, none⟩ = some (.slice (some ⟨bq, off, none⟩) m1 k1)) (go_keep)
    (first | (go_at_call 61; refine (copyOfI (some ⟨bq, off, none⟩) m1 k1 ws _ HQ.out.1 (HQ.out.2.1.below (by first | exact HB2.out | exact HB2.out.drew)) HQ.out.2.2).mono ?_; rintro e w3 ⟨g, rfl, i3, b'⟩; have B3 : Below z2.heap.size z2 w3 := (by first | exact b' | exact bel_next dz b'); obtain ⟨v0, v1, v2, v3, v4, v5⟩ := (Y2.below B3).six; obtain ⟨r0, r1, r2, r3, r4, r5⟩ := (R2.below B3).six; have f3 := (R2.below B3).fro; have g0 := f3 0; have g1 := f3 1; have g2 := f3 2; have g3 := f3 3; have g4 := f3 4; have g5 := f3 5; have zs3 : Hid (z2.heap.size ≤ w3.heap.size) := B3.size; clear b'))
  all_goals (
    have D3 := D2.below B3
    have HH : Hid (OwnI w3 w.heap.size (.slice (some ⟨g, 0, none⟩) m1 m1) ws ∧ OwnD w3 W0.heap.size a1 a2 (some ⟨b, 0, none⟩) a4 l1 l2 l3 l4 c1 c2 c3 c4 cs is _ rs ∧ ExB w3 (w.heap.size + 1 + 1) 37 ∧ Below W0.heap.size W0 w3 ∧ Chg w w3 _) := ⟨OwnI.mono i3 (by exact C2.out.2.2.2.1), D3, ⟨_, R2.below B3⟩, HB2.out.trans (B3.mono (by have := HB2.out.size; omega)), C2.out.trans (Chg.ofBelow B3)⟩
    have HS0 : Hid (W0.heap.size ≤ w.heap.size) := hB.size
    clear i3 D3
    go_wp2
    refine bodyPost_ret (v := rp kd 0 (k : Int) 0 (some ⟨g, 0, none⟩) none m1 0 m1 0) (by simp [results, Try.results82, go_sem, r0, r1, r2, r3, r4, r5]) rfl ?_
    obtain ⟨o1, o2, o3, o4, o5⟩ := HH.out
    exact ⟨_, _, _, _, _, _, rfl, rowp_set6 o1 o3 (by decide), ownB_nil0 _ _, o2.set6 o3 (by decide) (by decide), belp_set6 o4 (by have := HS0.out; omega), o5.set6 (by omega)⟩)
def mskI (h x y : Int) : Int := bits .or .i64 (bits .and .i64 h x) (bits .andNot .i64 y x)
set_option maxRecDepth 20000 in
set_option maxHeartbeats 8000000 in
theorem maskWord_any (a1 a2 a3 a4 : Option Addr) (l1 l2 l3 l4 c1 c2 c3 c4 : Nat) (cs is : List Bool) (hs rs : List Int) (kd nn wa : Int) (k : Nat) (q1 q2 : Option Addr) (m1 m2 k1 k2 : Nat) (ws : List Int) (bs : List Bool) (W0 w : World) (hB : Below W0.heap.size W0 w) (hD : OwnD w W0.heap.size a1 a2 a3 a4 l1 l2 l3 l4 c1 c2 c3 c4 cs is hs rs) (hn : m1 = ws.length) (hq : SlI W0 q1 ws) (hk : k < l3) (hl : ws.length ≤ 2000000) (h3 : l3 ≤ 2000000) (h0 : 1 < ws.length) :
    Calls Try.prog 85 #[dv a1 a2 a3 a4 l1 l2 l3 l4 c1 c2 c3 c4, rq kd (k : Int) nn wa q1 q2 m1 m2 k1 k2] w fun e w' => SV W0 w w' e a1 a2 a3 a4 l1 l2 l3 l4 c1 c2 c3 c4 cs is (hs.set k (mskI (hs.getD k 0) (ws.getD 0 0) (ws.getD 1 0))) rs kd 0 (k : Int) 0 ws [] := by
  obtain ⟨z, hz⟩ : ∃ z, z = ((w.alloc (.cells #[.slice a1 l1 c1, .slice a2 l2 c2, .slice a3 l3 c3, .slice a4 l4 c4] 27)).alloc (.cells #[.int .i64 kd, .int .i64 (k : Int), .int .i64 nn, .slice q1 m1 k1, .slice q2 m2 k2, .int .i64 wa] 57)).alloc (.cells #[.int .i64 0, .int .i64 0, .int .i64 0, .int .i64 0, .slice none 0 0, .slice none 0 0] 37) := ⟨_, rfl⟩
  have HZ : Hid (z = _) := hz
  have b0 : Below w.heap.size w z := by rw [hz]; exact bel_next (bel_next (bel_alloc w _) (bel_alloc _ _)) (bel_alloc _ _)
  have X0 : Blk z w.heap.size 27 #[.slice a1 l1 c1, .slice a2 l2 c2, .slice a3 l3 c3, .slice a4 l4 c4] := by rw [hz]; exact ((Blk.new w _ _).below (bel_alloc _ _)).below (bel_alloc _ _)
  have Y0 : Blk z (w.heap.size + 1) 57 #[.int .i64 kd, .int .i64 (k : Int), .int .i64 nn, .slice q1 m1 k1, .slice q2 m2 k2, .int .i64 wa] := by rw [hz]; have := (Blk.new (w.alloc (.cells #[.slice a1 l1 c1, .slice a2 l2 c2, .slice a3 l3 c3, .slice a4 l4 c4] 27)) #[.int .i64 kd, .int .i64 (k : Int), .int .i64 nn, .slice q1 m1 k1, .slice q2 m2 k2, .int .i64 wa] 57).below (bel_alloc _ (.cells #[.int .i64 0, .int .i64 0, .int .i64 0, .int .i64 0, .slice none 0 0, .slice none 0 0] 37)); simpa using this
  have R0 : Blk z (w.heap.size + 1 + 1) 37 #[.int .i64 0, .int .i64 0, .int .i64 0, .int .i64 0, .slice none 0 0, .slice none 0 0] := by rw [hz]; have := Blk.new ((w.alloc (.cells #[.slice a1 l1 c1, .slice a2 l2 c2, .slice a3 l3 c3, .slice a4 l4 c4] 27)).alloc (.cells #[.int .i64 kd, .int .i64 (k : Int), .int .i64 nn, .slice q1 m1 k1, .slice q2 m2 k2, .int .i64 wa] 57)) #[.int .i64 0, .int .i64 0, .int .i64 0, .int .i64 0, .slice none 0 0, .slice none 0 0] 37; simpa using this
  have HB0 : Hid (Below W0.heap.size W0 z) := hB.trans (b0.mono hB.size)
  have D0 := hD.below b0
  have C0 : Hid (Chg w z (Of4 (.slice a1 l1 c1) (.slice a2 l2 c2) (.slice a3 l3 c3) (.slice a4 l4 c4))) := Chg.ofBelow b0
  have HQ : Hid (m1 = ws.length ∧ SlI W0 q1 ws ∧ ws.length ≤ 2000000) := ⟨hn, hq, hl⟩
  obtain ⟨b, ea3, hb, hlt, hc, hf, hset⟩ := D0.setWord hk
  subst ea3
  obtain ⟨bq, off, eq1, hbq, hcq⟩ := cell_atI (hq.below HB0.out) (show 0 < ws.length by omega)
  have hcq0 : z.cell? ⟨bq, off, none⟩ = some (.int .i64 (ws.getD 0 0)) := by simpa using hcq
  obtain ⟨bq', off', eq2, _, hcq1⟩ := cell_atI (hq.below HB0.out) h0
  subst eq1
  simp at eq2
  obtain ⟨rfl, rfl⟩ := eq2
  generalize hx : ws.getD 0 0 = x at *
  generalize hy : ws.getD 1 0 = y at *
  generalize hhv : hs.getD k 0 = h at *
  obtain ⟨D1, C1⟩ := hset (mskI h x y)
  have Y1 := Y0.chg C1 (D0.noBlk Y0 (by decide) (by decide))
  have R1 := R0.chg C1 (D0.noBlk R0 (by decide) (by decide))
  have i0 : (k : Int) < (l3 : Int) := by omega
  have i1 : (0 : Int) < (m1 : Int) := by omega
  have i2 : (1 : Int) < (m1 : Int) := by omega
  obtain ⟨x0, x1, x2, x3⟩ := X0.four
  obtain ⟨y0, y1, y2, y3, y4, y5⟩ := Y0.six
  have HH0 : Hid (OwnD (z.setCell ⟨b, k, none⟩ (.int .i64 (mskI h x y))) W0.heap.size a1 a2 (some ⟨b, 0, none⟩) a4 l1 l2 l3 l4 c1 c2 c3 c4 cs is (hs.set k (mskI h x y)) rs ∧ Chg w (z.setCell ⟨b, k, none⟩ (.int .i64 (mskI h x y))) (Of4 (.slice a1 l1 c1) (.slice a2 l2 c2) (.slice (some ⟨b, 0, none⟩) l3 c3) (.slice a4 l4 c4)) ∧ Below W0.heap.size W0 (z.setCell ⟨b, k, none⟩ (.int .i64 (mskI h x y)))) := ⟨D1, C0.out.trans C1, bel_setG HB0.out hb⟩
  clear hz hset D1 C1 D0 hD hcq hq hn hl hk hlt
  go_enter Try.func85, Try.ntmps85
  go_upto_region 1 with fail
  rw [← HZ.out]
  go_quiet (fail)
  go_upto_region 2 with fail
  go_region
  clear hc hf hcq0 hcq1 x0 x1 x2 x3 y0 y1 y2 y3 y4 y5
  go_upto_region 3 with fail
  obtain ⟨z2, hz2⟩ : ∃ z2, z2 = (z.drewN (nq + 1)).setCell ⟨b, k, none⟩ (.int .i64 (bits .or .i64 (bits .and .i64 h x) (bits .andNot .i64 y x))) := ⟨_, rfl⟩
  have Y2 : Blk ((z.drewN (nq + 1)).setCell ⟨b, k, none⟩ (.int .i64 (bits .or .i64 (bits .and .i64 h x) (bits .andNot .i64 y x)))) _ _ _ := Y1
  have R2 : Blk ((z.drewN (nq + 1)).setCell ⟨b, k, none⟩ (.int .i64 (bits .or .i64 (bits .and .i64 h x) (bits .andNot .i64 y x)))) _ _ _ := R1
  rw [← hz2] at Y2 R2
  have D2 : OwnD z2 W0.heap.size a1 a2 (some ⟨b, 0, none⟩) a4 l1 l2 l3 l4 c1 c2 c3 c4 cs is (hs.set k (mskI h x y)) rs := by rw [hz2]; exact HH0.out.1
  have C2 : Hid (Chg w z2 (Of4 (.slice a1 l1 c1) (.slice a2 l2 c2) (.slice (some ⟨b, 0, none⟩) l3 c3) (.slice a4 l4 c4))) := by rw [hz2]; exact HH0.out.2.1
  have HB2 : Hid (Below W0.heap.size W0 z2) := by rw [hz2]; exact HH0.out.2.2.trans ⟨rfl, rfl, rfl, Nat.le_refl _, fun _ _ => rfl⟩
  simp only [← hz2]
  clear hz2 Y1 R1 HH0
  obtain ⟨y0, y1, y2, y3, y4, y5⟩ := Y2.six
  have dz : Below z2.heap.size z2 z2.drew := (Below.refl _ _).drew
  go_region_held3 (fun w' => w'.cell? ⟨w.heap.size + 1, 0, none⟩ = some (.int .i64 kd) ∧ w'.cell? ⟨w.heap.size + 1, 1, none⟩ = some (.int .i64 (k : Int)) ∧ w'.cell? ⟨w.heap.size + 1, 3, none⟩ = some (.slice (some ⟨bq, off, none⟩) m1 k1)) (go_keep)
    (first | (go_at_call 61; refine (copyOfI (some ⟨bq, off, none⟩) m1 k1 ws _ HQ.out.1 (HQ.out.2.1.below (by first | exact HB2.out | exact HB2.out.drew)) HQ.out.2.2).mono ?_; rintro e w3 ⟨g, rfl, i3, b'⟩; have B3 : Below z2.heap.size z2 w3 := (by first | exact b' | exact bel_next dz b'); obtain ⟨v0, v1, v2, v3, v4, v5⟩ := (Y2.below B3).six; obtain ⟨r0, r1, r2, r3, r4, r5⟩ := (R2.below B3).six; have f3 := (R2.below B3).fro; have g0 := f3 0; have g1 := f3 1; have g2 := f3 2; have g3 := f3 3; have g4 := f3 4; have g5 := f3 5; have zs3 : Hid (z2.heap.size ≤ w3.heap.size) := B3.size; clear b'))
  all_goals (
    have D3 := D2.below B3
    have HH : Hid (OwnI w3 w.heap.size (.slice (some ⟨g, 0, none⟩) m1 m1) ws ∧ OwnD w3 W0.heap.size a1 a2 (some ⟨b, 0, none⟩) a4 l1 l2 l3 l4 c1 c2 c3 c4 cs is _ rs ∧ ExB w3 (w.heap.size + 1 + 1) 37 ∧ Below W0.heap.size W0 w3 ∧ Chg w w3 _) := ⟨OwnI.mono i3 (by exact C2.out.2.2.2.1), D3, ⟨_, R2.below B3⟩, HB2.out.trans (B3.mono (by have := HB2.out.size; omega)), C2.out.trans (Chg.ofBelow B3)⟩
    have HS0 : Hid (W0.heap.size ≤ w.heap.size) := hB.size
    clear i3 D3
    go_wp2
    refine bodyPost_ret (v := rp kd 0 (k : Int) 0 (some ⟨g, 0, none⟩) none m1 0 m1 0) (by simp [results, Try.results85, go_sem, r0, r1, r2, r3, r4, r5]) rfl ?_
    obtain ⟨o1, o2, o3, o4, o5⟩ := HH.out
    exact ⟨_, _, _, _, _, _, rfl, rowp_set6 o1 o3 (by decide), ownB_nil0 _ _, o2.set6 o3 (by decide) (by decide), belp_set6 o4 (by have := HS0.out; omega), o5.set6 (by omega)⟩)
end Go.Proofs.Ytfdddkjonjpgpaa
namespace Go.Proofs.Ytfdddkjonjpgpaa
open Go.RowKit
set_option linter.unusedVariables false
set_option linter.unusedSimpArgs false
set_option maxHeartbeats 1000000 in
theorem isCount_any (x most : Int) (w : World) (b : Bool) (hb : inB x 1 most = b) : Calls Try.prog 94 #[.int .i64 x, .int .i64 most] w fun e w' => e = .returned (.bool b) ∧ w' = w := by
  subst hb
  unfold inB
  by_cases h1 : 1 ≤ x
  · by_cases h2 : x ≤ most
    · rw [decide_eq_true (show 1 ≤ x ∧ x ≤ most from ⟨h1, h2⟩)]
      go_enter Try.func94, Try.ntmps94
      go_wp2
      go_ret
      exact ⟨rfl, rfl⟩
    · rw [decide_eq_false (show ¬ (1 ≤ x ∧ x ≤ most) from fun h => h2 h.2)]
      go_enter Try.func94, Try.ntmps94
      go_wp2
      go_ret
      exact ⟨rfl, rfl⟩
  · rw [decide_eq_false (show ¬ (1 ≤ x ∧ x ≤ most) from fun h => h1 h.1)]
    go_enter Try.func94, Try.ntmps94
    go_wp2
    go_ret
    exact ⟨rfl, rfl⟩
set_option maxHeartbeats 1000000 in
theorem isFault_any (x : Int) (w : World) (b : Bool) (hb : inB x 1 255 = b) : Calls Try.prog 75 #[.int .i64 x] w fun e w' => e = .returned (.bool b) ∧ w' = w := by
  go_enter Try.func75, Try.ntmps75
  go_wp2_with fail
  refine (isCount_any _ _ _ _ hb).mono ?_
  rintro e wx ⟨rfl, rfl⟩
  go_wp2
  go_ret
  exact ⟨rfl, rfl⟩
abbrev foV (b : Bool) (kd x : Int) : Value := rp (bif b then kd else 0) (bif b then x else 0) 0 0 none none 0 0 0 0
set_option maxRecDepth 20000 in
set_option maxHeartbeats 4000000 in
theorem implFaultOf_q (kd pl nn wa : Int) (a1 a2 : Option Addr) (l1 l2 c1 c2 : Nat) (ws : List Int) (bs : List Bool) (x : Int) (w : World) (h1 : l1 = ws.length) (h2 : l2 = bs.length) (s1 : SlI w a1 ws) (s2 : SlB w a2 bs) (hl1 : ws.length ≤ 2000000) (hl2 : bs.length ≤ 2000000) :
    Calls Try.prog 63 #[rq kd pl nn wa a1 a2 l1 l2 c1 c2, .int .i64 x] w fun e w' => e = .returned (foV (okR kd pl nn wa ws l1 l2 && inB x 1 255) kd x) ∧ Below w.heap.size w w' := by
  obtain ⟨W0, hW0⟩ : ∃ W0, W0 = (w.alloc (.cells #[.int .i64 kd, .int .i64 pl, .int .i64 nn, .slice a1 l1 c1, .slice a2 l2 c2, .int .i64 wa] 57)).alloc (.cells #[.int .i64 0, .int .i64 0, .int .i64 0, .int .i64 0, .slice none 0 0, .slice none 0 0] 37) := ⟨_, rfl⟩
  have HW : Hid (W0 = _) := hW0
  have B0 : Below w.heap.size w W0 := by rw [hW0]; exact bel_next (bel_alloc w _) (bel_alloc _ _)
  have X0 : Blk W0 w.heap.size 57 #[.int .i64 kd, .int .i64 pl, .int .i64 nn, .slice a1 l1 c1, .slice a2 l2 c2, .int .i64 wa] := by rw [hW0]; exact (Blk.new w _ _).below (bel_alloc _ _)
  have R0 : Blk W0 (w.heap.size + 1) 37 #[.int .i64 0, .int .i64 0, .int .i64 0, .int .i64 0, .slice none 0 0, .slice none 0 0] := by
    rw [hW0]; have := Blk.new (w.alloc (.cells #[.int .i64 kd, .int .i64 pl, .int .i64 nn, .slice a1 l1 c1, .slice a2 l2 c2, .int .i64 wa] 57)) #[.int .i64 0, .int .i64 0, .int .i64 0, .int .i64 0, .slice none 0 0, .slice none 0 0] 37; simpa using this
  have HS : Hid (SlI W0 a1 ws ∧ SlB W0 a2 bs) := ⟨s1.below B0, s2.below B0⟩
  have HL : Hid (l1 = ws.length ∧ l2 = bs.length) := ⟨h1, h2⟩
  obtain ⟨x0, x1, x2, x3, x4, x5⟩ := X0.six
  clear hW0 h1 h2 s1 s2
  go_enter Try.func63, Try.ntmps63
  go_upto_region 1 with fail
  rw [← HW.out]
  go_wp2_with fail
  refine (implReqOk_q kd pl nn wa a1 a2 l1 l2 c1 c2 ws bs _ HL.out.1 HL.out.2 HS.out.1 HS.out.2 hl1 hl2).mono ?_
  rintro e w1 ⟨rfl, b'⟩
  have B1 := bel_next B0 b'
  have R1 := R0.below b'
  obtain ⟨z0, z1, z2, z3, z4, z5⟩ := (X0.below b').six
  obtain ⟨y0, y1, y2, y3, y4, y5⟩ := R1.six
  have fy := R1.fro
  clear b' B0 X0 R0 x0 x1 x2 x3 x4 x5 R1
  cases hok : okR kd pl nn wa ws l1 l2
  · skip
    go_wp2
    refine bodyPost_ret (v := foV false kd x) (by simp [results, Try.results63, go_sem, y0, y1, y2, y3, y4, y5]) rfl ?_
    exact ⟨by rw [hok]; rfl, belp_set6 B1 (Nat.le_succ _)⟩
  · cases hx : inB x 1 255
    · skip
      go_wp2_with (go_at_call 75; refine (isFault_any _ _ _ hx).mono ?_; rintro e wx ⟨rfl, rfl⟩)
      refine bodyPost_ret (v := foV false kd x) (by simp [results, Try.results63, go_sem, y0, y1, y2, y3, y4, y5]) rfl ?_
      exact ⟨by rw [hok, hx]; rfl, belp_set6 B1 (Nat.le_succ _)⟩
    · skip
      go_wp2_with (go_at_call 75; refine (isFault_any _ _ _ hx).mono ?_; rintro e wx ⟨rfl, rfl⟩)
      refine bodyPost_ret (v := foV true kd x) (by simp [results, Try.results63, go_sem, y0, y1, y2, y3, y4, y5]) rfl ?_
      exact ⟨by rw [hok, hx]; rfl, belp_set6 B1 (Nat.le_succ _)⟩
end Go.Proofs.Ytfdddkjonjpgpaa
namespace Go.Proofs.Ytfdddkjonjpgpaa
open Go.RowKit
set_option linter.unusedVariables false
set_option linter.unusedSimpArgs false
def hsB (sz j k kd wa m1 : Int) : Bool := if kd = 23 ∧ wa + m1 > sz then false else decide (j + k ≤ sz)
theorem hsB_1 {sz j k kd wa m1 : Int} (h : kd = 23) (h2 : wa + m1 > sz) : hsB sz j k kd wa m1 = false := by unfold hsB; rw [if_pos ⟨h, h2⟩]
theorem hsB_2 {sz j k kd wa m1 : Int} (h2 : ¬ (kd = 23 ∧ wa + m1 > sz)) : hsB sz j k kd wa m1 = decide (j + k ≤ sz) := by unfold hsB; rw [if_neg h2]
theorem idx4 (i : Nat) (hi : i < 4) (x0 x1 x2 x3 : Int) (w : World) : (Instr.index 63 (.agg #[.int .i64 x0, .int .i64 x1, .int .i64 x2, .int .i64 x3]) (.int .i64 (i : Int))).run Try.prog w = .ok (.int .i64 ([x0, x1, x2, x3].getD i 0)) w := by
  match i, hi with
  | 0, _ => exact idx4_0 _ _ _ _ _
  | 1, _ => exact idx4_1 _ _ _ _ _
  | 2, _ => exact idx4_2 _ _ _ _ _
  | 3, _ => exact idx4_3 _ _ _ _ _
set_option maxRecDepth 20000 in
set_option maxHeartbeats 8000000 in
theorem hasAll_any (a1 a2 a3 a4 : Option Addr) (l1 l2 l3 l4 c1 c2 c3 c4 : Nat) (kd pl nn wa : Int) (q1 q2 : Option Addr) (m1 m2 k1 k2 : Nat) (ws : List Int) (bs : List Bool) (w : World) (h1 : m1 = ws.length) (h2 : m2 = bs.length) (s1 : SlI w q1 ws) (s2 : SlB w q2 bs) (hl1 : ws.length ≤ 2000000) (hl2 : bs.length ≤ 2000000) (i : Nat) (j k sz : Int) (hv : spcV (okR kd pl nn wa ws m1 m2) kd pl nn m1 m2 = .tuple #[.int .i64 (i : Int), .int .i64 j, .int .i64 k]) (hi : i < 4) (hj : 0 ≤ j ∧ j ≤ 65535) (hk : 0 ≤ k ∧ k ≤ 2000000) (hw : kd = 23 → 0 ≤ wa ∧ wa ≤ 65535) (n1 : l1 ≤ 2000000) (n2 : l2 ≤ 2000000) (n3 : l3 ≤ 2000000) (n4 : l4 ≤ 2000000) (hsz : [(l1 : Int), (l2 : Int), (l3 : Int), (l4 : Int)].getD i 0 = sz) (b : Bool) (hb : hsB sz j k kd wa m1 = b) :
    Calls Try.prog 64 #[dv a1 a2 a3 a4 l1 l2 l3 l4 c1 c2 c3 c4, rq kd pl nn wa q1 q2 m1 m2 k1 k2] w fun e w' => e = .returned (.bool b) ∧ Below w.heap.size w w' := by
  obtain ⟨z, hz⟩ : ∃ z, z = (w.alloc (.cells #[.slice a1 l1 c1, .slice a2 l2 c2, .slice a3 l3 c3, .slice a4 l4 c4] 27)).alloc (.cells #[.int .i64 kd, .int .i64 pl, .int .i64 nn, .slice q1 m1 k1, .slice q2 m2 k2, .int .i64 wa] 57) := ⟨_, rfl⟩
  have HZ : Hid (z = _) := hz
  have b0 : Below w.heap.size w z := by rw [hz]; exact bel_next (bel_alloc w _) (bel_alloc _ _)
  have X0 : Blk z w.heap.size 27 #[.slice a1 l1 c1, .slice a2 l2 c2, .slice a3 l3 c3, .slice a4 l4 c4] := by rw [hz]; exact (Blk.new w _ _).below (bel_alloc _ _)
  have Y0 : Blk z (w.heap.size + 1) 57 #[.int .i64 kd, .int .i64 pl, .int .i64 nn, .slice q1 m1 k1, .slice q2 m2 k2, .int .i64 wa] := by rw [hz]; have := Blk.new (w.alloc (.cells #[.slice a1 l1 c1, .slice a2 l2 c2, .slice a3 l3 c3, .slice a4 l4 c4] 27)) #[.int .i64 kd, .int .i64 pl, .int .i64 nn, .slice q1 m1 k1, .slice q2 m2 k2, .int .i64 wa] 57; simpa using this
  have HQ : Hid (m1 = ws.length ∧ m2 = bs.length ∧ SlI z q1 ws ∧ SlB z q2 bs ∧ ws.length ≤ 2000000 ∧ bs.length ≤ 2000000) := ⟨h1, h2, s1.below b0, s2.below b0, hl1, hl2⟩
  have HN : Hid (l1 ≤ 2000000 ∧ l2 ≤ 2000000 ∧ l3 ≤ 2000000 ∧ l4 ≤ 2000000) := ⟨n1, n2, n3, n4⟩
  have HV : Hid (spcV (okR kd pl nn wa ws m1 m2) kd pl nn m1 m2 = .tuple #[.int .i64 (i : Int), .int .i64 j, .int .i64 k]) := hv
  have hm : m1 ≤ 2000000 := by omega
  have hix := idx4 i hi (l1 : Int) (l2 : Int) (l3 : Int) (l4 : Int)
  rw [hsz] at hix
  subst hb
  obtain ⟨y0, y1, y2, y3, y4, y5⟩ := Y0.six
  have hsz2 : 0 ≤ sz ∧ sz ≤ 2000000 := by
    rw [← hsz]
    match i, hi with
    | 0, _ => simp; omega
    | 1, _ => simp; omega
    | 2, _ => simp; omega
    | 3, _ => simp; omega
  clear h1 h2 s1 s2 hl1 hl2 hz n1 n2 n3 n4 hv hsz
  go_enter Try.func64, Try.ntmps64
  go_upto_region 1 with fail
  rw [← HZ.out]
  go_wp2_with fail
  refine (implSpaces_t kd pl nn wa q1 q2 m1 m2 k1 k2 ws bs _ HQ.out.1 HQ.out.2.1 HQ.out.2.2.1 HQ.out.2.2.2.1 HQ.out.2.2.2.2.1 HQ.out.2.2.2.2.2 (i : Int) j k HV.out).mono ?_
  rintro e w1 ⟨rfl, b'⟩
  have b1 := bel_next b0 b'
  have X1 := X0.below b'
  have Y1 := Y0.below b'
  obtain ⟨x0, x1, x2, x3⟩ := X1.four
  clear y0 y1 y2 y3 y4 y5 X0 Y0 b' b0
  go_wp2_with fail
  refine (sizes_any a1 a2 a3 a4 l1 l2 l3 l4 c1 c2 c3 c4 _ HN.out.1 HN.out.2.1 HN.out.2.2.1 HN.out.2.2.2).mono ?_
  rintro e w2 ⟨rfl, b'⟩
  have b2 := bel_next b1 b'
  obtain ⟨y0, y1, y2, y3, y4, y5⟩ := (Y1.below b').six
  clear x0 x1 x2 x3 X1 Y1 b' b1
  by_cases h23 : kd = 23
  · obtain ⟨hw1, hw2⟩ := hw h23
    clear hw
    subst h23
    by_cases hg : wa + (m1 : Int) > sz
    · go_wp2
      go_ret
      exact ⟨by rw [hsB_1 rfl (by omega)]; rfl, b2⟩
    · by_cases hjk : j + k ≤ sz
      · go_wp2
        go_ret
        exact ⟨by rw [hsB_2 (fun h => by omega), decide_eq_true (show j + k ≤ sz by omega)]; rfl, b2⟩
      · go_wp2
        go_ret
        exact ⟨by rw [hsB_2 (fun h => by omega), decide_eq_false (show ¬ j + k ≤ sz by omega)]; rfl, b2⟩
  · clear hw
    by_cases hjk : j + k ≤ sz
    · go_wp2
      go_ret
      exact ⟨by rw [hsB_2 (fun h => h23 h.1), decide_eq_true (show j + k ≤ sz by omega)]; rfl, b2⟩
    · go_wp2
      go_ret
      exact ⟨by rw [hsB_2 (fun h => h23 h.1), decide_eq_false (show ¬ j + k ≤ sz by omega)]; rfl, b2⟩
end Go.Proofs.Ytfdddkjonjpgpaa
namespace Go.Proofs.Ytfdddkjonjpgpaa
open Go.RowKit
set_option linter.unusedVariables false
set_option linter.unusedSimpArgs false
def TP (w w' : World) (e : Ending) (kd fl pl nn : Int) (ws : List Int) (bs : List Bool) : Prop :=
  ∃ r1 r2 m1 m2 k1 k2, e = .returned (rp kd fl pl nn r1 r2 m1 m2 k1 k2) ∧ OwnI w' w.heap.size (.slice r1 m1 k1) ws ∧ OwnB w' w.heap.size (.slice r2 m2 k2) bs ∧ Below w.heap.size w w'
theorem Blk.belowB {w w' : World} {B g : Nat} {t : TypeId} {cs : Array Value} (h : Blk w g t cs) (hb : Below B w w') (hg : g < B) : Blk w' g t cs := by
  unfold Blk; rw [hb.block g hg]; exact h
theorem slI_sub {w : World} {g k N : Nat} {hs : List Int} (h : SlI w (some ⟨g, 0, none⟩) hs) (hk : k + N ≤ hs.length) : SlI w (some ⟨g, k, none⟩) ((hs.drop k).take N) := by
  by_cases h0 : N = 0
  · subst h0; exact .inl (by simp)
  rcases h with h | ⟨b, off, e, hb, hc⟩
  · rw [h] at hk; simp at hk; omega
  · simp at e
    obtain ⟨rfl, rfl⟩ := e
    refine .inr ⟨g, k, rfl, hb, fun i hi => ?_⟩
    simp at hi
    have := hc (k + i) (by omega)
    rw [Nat.zero_add] at this
    rw [this, List.getD_eq_getElem?_getD, List.getD_eq_getElem?_getD, List.getElem?_take, if_pos (by omega), List.getElem?_drop]
theorem slB_sub {w : World} {g k N : Nat} {hs : List Bool} (h : SlB w (some ⟨g, 0, none⟩) hs) (hk : k + N ≤ hs.length) : SlB w (some ⟨g, k, none⟩) ((hs.drop k).take N) := by
  by_cases h0 : N = 0
  · subst h0; exact .inl (by simp)
  rcases h with h | ⟨b, off, e, hb, hc⟩
  · rw [h] at hk; simp at hk; omega
  · simp at e
    obtain ⟨rfl, rfl⟩ := e
    refine .inr ⟨g, k, rfl, hb, fun i hi => ?_⟩
    simp at hi
    have := hc (k + i) (by omega)
    rw [Nat.zero_add] at this
    rw [this, List.getD_eq_getElem?_getD, List.getD_eq_getElem?_getD, List.getElem?_take, if_pos (by omega), List.getElem?_drop]
set_option maxRecDepth 20000 in
set_option maxHeartbeats 8000000 in
theorem tellRun_any (kd wa : Int) (k N : Nat) (q1 q2 : Option Addr) (m1 m2 k1 k2 : Nat) (g l c : Nat) (hs : List Int) (w : World) (hl : l = hs.length) (hs0 : SlI w (some ⟨g, 0, none⟩) hs) (hc : l ≤ c) (hk : k + N ≤ l) (h3 : l ≤ 2000000) (h65 : k ≤ 65535) (hN : 1 ≤ N) :
    Calls Try.prog 97 #[rq kd (k : Int) (N : Int) wa q1 q2 m1 m2 k1 k2, .slice (some ⟨g, 0, none⟩) l c] w fun e w' => TP w w' e kd 0 0 0 ((hs.drop k).take N) [] := by
  obtain ⟨z, hz⟩ : ∃ z, z = (w.alloc (.cells #[.int .i64 kd, .int .i64 (k : Int), .int .i64 (N : Int), .slice q1 m1 k1, .slice q2 m2 k2, .int .i64 wa] 57)).alloc (.cells #[.int .i64 0, .int .i64 0, .int .i64 0, .int .i64 0, .slice none 0 0, .slice none 0 0] 37) := ⟨_, rfl⟩
  have HZ : Hid (z = _) := hz
  have b0 : Below w.heap.size w z := by rw [hz]; exact bel_next (bel_alloc w _) (bel_alloc _ _)
  have Y0 : Blk z w.heap.size 57 #[.int .i64 kd, .int .i64 (k : Int), .int .i64 (N : Int), .slice q1 m1 k1, .slice q2 m2 k2, .int .i64 wa] := by rw [hz]; exact (Blk.new w _ _).below (bel_alloc _ _)
  have R0 : Blk z (w.heap.size + 1) 37 #[.int .i64 0, .int .i64 0, .int .i64 0, .int .i64 0, .slice none 0 0, .slice none 0 0] := by rw [hz]; have := Blk.new (w.alloc (.cells #[.int .i64 kd, .int .i64 (k : Int), .int .i64 (N : Int), .slice q1 m1 k1, .slice q2 m2 k2, .int .i64 wa] 57)) #[.int .i64 0, .int .i64 0, .int .i64 0, .int .i64 0, .slice none 0 0, .slice none 0 0] 37; simpa using this
  have HQ : Hid (((k : Int) + (N : Int)).toNat - k = ((hs.drop k).take N).length ∧ SlI z (some ⟨g, k, none⟩) ((hs.drop k).take N) ∧ ((hs.drop k).take N).length ≤ 2000000) := by
    exact ⟨by simp; omega, (slI_sub hs0 (by omega)).below b0, by simp; omega⟩
  have hck : ¬ c = k := by omega
  have i0 : (k : Int) ≤ (k : Int) + (N : Int) := by omega
  have i1 : (k : Int) + (N : Int) ≤ (l : Int) := by omega
  have i2 : (k : Int) + (N : Int) ≤ (c : Int) := by omega
  have i3' : (0 : Int) ≤ (k : Int) := by omega
  have i4 : (0 : Int) ≤ (k : Int) + (N : Int) := by omega
  have i5 : IntKind.i64.wrap ((k : Int) + (N : Int)) = (k : Int) + (N : Int) := by rw [IntKind.wrap_i64]; omega
  have i6 : (k : Int) ≤ (c : Int) := by omega
  have dz : Below z.heap.size z z.drew := (Below.refl _ _).drew
  have e1 : (((k : Int) + (N : Int)) - (k : Int)).toNat = N := by omega
  obtain ⟨y0, y1, y2, y3, y4, y5⟩ := Y0.six
  clear hz hl hs0
  go_enter Try.func97, Try.ntmps97
  go_upto_region 1 with fail
  rw [← HZ.out]
  go_region_held3 (fun w' => w'.cell? ⟨w.heap.size, 0, none⟩ = some (.int .i64 kd) ∧ w'.cell? ⟨w.heap.size, 1, none⟩ = some (.int .i64 (k : Int)) ∧ w'.cell? ⟨w.heap.size, 2, none⟩ = some (.int .i64 (N : Int))) (go_keep)
    (first | (go_at_call 61; refine (copyOfI (some ⟨g, k, none⟩) (((k : Int) + (N : Int)).toNat - k) (c - k) _ _ HQ.out.1 (HQ.out.2.1.below (by first | exact Below.refl _ _ | exact dz)) HQ.out.2.2).mono ?_; rintro e w3 ⟨g3, rfl, i3, b'⟩; have B3 : Below z.heap.size z w3 := (by first | exact b' | exact bel_next dz b'); obtain ⟨v0, v1, v2, v3, v4, v5⟩ := (Y0.below B3).six; obtain ⟨r0, r1, r2, r3, r4, r5⟩ := (R0.below B3).six; have f3 := (R0.below B3).fro; have g0 := f3 0; have g1 := f3 1; have g2 := f3 2; have g3' := f3 3; have g4 := f3 4; have g5 := f3 5; clear b'))
  all_goals (
    have HH : Hid (OwnI w3 w.heap.size (.slice (some ⟨g3, 0, none⟩) (((k : Int) + (N : Int)).toNat - k) (((k : Int) + (N : Int)).toNat - k)) ((hs.drop k).take N) ∧ ExB w3 (w.heap.size + 1) 37 ∧ Below w.heap.size w w3) := ⟨OwnI.mono i3 (by exact b0.size), ⟨_, R0.below B3⟩, bel_next b0 B3⟩
    clear i3
    go_wp2
    refine bodyPost_ret (v := rp kd 0 0 0 (some ⟨g3, 0, none⟩) none (((k : Int) + (N : Int)).toNat - k) 0 (((k : Int) + (N : Int)).toNat - k) 0) (by simp [results, Try.results97, go_sem, r0, r1, r2, r3, r4, r5]) rfl ?_
    obtain ⟨o1, o3, o4⟩ := HH.out
    exact ⟨_, _, _, _, _, _, rfl, rowp_set6 o1 o3 (by decide), ownB_nil0 _ _, belp_set6 o4 (by omega)⟩)
theorem madeB_list (w : World) (m : Nat) : madeCells #[Value.bool false] m = (List.replicate m (Value.bool false)).toArray := by
  obtain ⟨c, hc, hsz, hcell⟩ := World.rowIs_made ({ w with heap := #[] } : World) (.bool false) m 4
  have e : some (Obj.cells (madeCells #[Value.bool false] m) 4 (0, 0)) = some (Obj.cells c 4 (0, 0)) := hc
  simp at e
  rw [e]
  apply Array.ext_getElem?
  intro i
  by_cases hi : i < m
  · rw [hcell i hi]; simp [hi]
  · rw [Array.getElem?_eq_none (by omega), Array.getElem?_eq_none (by simp; omega)]
set_option maxRecDepth 20000 in
set_option maxHeartbeats 8000000 in
theorem tellBits_any (kd wa : Int) (k N : Nat) (q1 q2 : Option Addr) (m1 m2 k1 k2 : Nat) (g l c : Nat) (bs : List Bool) (w : World) (hl : l = bs.length) (hs0 : SlB w (some ⟨g, 0, none⟩) bs) (hc : l ≤ c) (hk : k + N ≤ l) (h3 : l ≤ 2000000) (h65 : k ≤ 65535) (hN : 1 ≤ N) :
    Calls Try.prog 96 #[rq kd (k : Int) (N : Int) wa q1 q2 m1 m2 k1 k2, .slice (some ⟨g, 0, none⟩) l c] w fun e w' => TP w w' e kd 0 0 0 [] ((bs.drop k).take N ++ List.replicate (8 * ((N + 7) / 8) - N) false) := by
  obtain ⟨z, hz⟩ : ∃ z, z = (w.alloc (.cells #[.int .i64 kd, .int .i64 (k : Int), .int .i64 (N : Int), .slice q1 m1 k1, .slice q2 m2 k2, .int .i64 wa] 57)).alloc (.cells #[.int .i64 0, .int .i64 0, .int .i64 0, .int .i64 0, .slice none 0 0, .slice none 0 0] 37) := ⟨_, rfl⟩
  have HZ : Hid (z = _) := hz
  have b0 : Below w.heap.size w z := by rw [hz]; exact bel_next (bel_alloc w _) (bel_alloc _ _)
  have Y0 : Blk z w.heap.size 57 #[.int .i64 kd, .int .i64 (k : Int), .int .i64 (N : Int), .slice q1 m1 k1, .slice q2 m2 k2, .int .i64 wa] := by rw [hz]; exact (Blk.new w _ _).below (bel_alloc _ _)
  have R0 : Blk z (w.heap.size + 1) 37 #[.int .i64 0, .int .i64 0, .int .i64 0, .int .i64 0, .slice none 0 0, .slice none 0 0] := by rw [hz]; have := Blk.new (w.alloc (.cells #[.int .i64 kd, .int .i64 (k : Int), .int .i64 (N : Int), .slice q1 m1 k1, .slice q2 m2 k2, .int .i64 wa] 57)) #[.int .i64 0, .int .i64 0, .int .i64 0, .int .i64 0, .slice none 0 0, .slice none 0 0] 37; simpa using this
  obtain ⟨M, hM⟩ : ∃ M, M = 8 * ((N + 7) / 8) := ⟨_, rfl⟩
  have HM : Hid (M = 8 * ((N + 7) / 8) ∧ N ≤ M ∧ M ≤ 2000008) := by show _ ∧ _; omega
  have em : 8 * (((N : Int) + 7) / 8) = (M : Int) := by omega
  have hmk := run_make_row' (P := Try.prog) 24 4 (.bool false) 1 Try.underlying24 Try.info4 rfl .i64 .i64 M (by omega) (by omega)
  obtain ⟨X, hX⟩ : ∃ X, X = ((bs.drop k).take N).map Value.bool := ⟨_, rfl⟩
  have HX : Hid (X = ((bs.drop k).take N).map Value.bool) := hX
  have hXl : Hid (X.length = N) := by show X.length = N; rw [hX]; simp; omega
  have hone : ∀ v ∈ X, v.oneCell' = true := by rw [hX]; exact onesB _
  obtain ⟨z1, hz1⟩ : ∃ q, q = z.alloc (.cells (madeCells #[.bool false] M) 4) := ⟨_, rfl⟩
  have HZ1 : Hid (z1 = _) := hz1
  have b1' : Below z.heap.size z z1 := by rw [hz1]; exact bel_alloc _ _
  have b1 := bel_next b0 b1'
  have Y1 := Y0.below b1'
  have R1 := R0.below b1'
  have HP : Hid (∀ j v, X[j]? = some v → z1.cell? (Addr.add ⟨g, k, none⟩ j) = some v) := by rw [hX]; exact slB_at ((slB_sub hs0 (by omega)).below b1)
  have HZh : Hid (z1.heap[z.heap.size]? = some (.cells (List.replicate M (Value.bool false)).toArray 4 (0, 0))) := by show _ = _; rw [hz1, ← madeB_list w M]; show (z.heap.push _)[z.heap.size]? = _; simp
  obtain ⟨BG, hBG⟩ : ∃ q, q = z.heap.size := ⟨_, rfl⟩
  have HBG : Hid (BG = z.heap.size) := hBG
  rw [← hBG] at HZh
  have HBG2 : Hid (w.heap.size + 1 + 1 ≤ BG) := by show _ ≤ _; rw [hBG, hz]; simp
  have i0 : (k : Int) ≤ (k : Int) + (N : Int) := by omega
  have i1 : (k : Int) + (N : Int) ≤ (l : Int) := by omega
  have i2 : (k : Int) + (N : Int) ≤ (c : Int) := by omega
  have i3' : (0 : Int) ≤ (k : Int) := by omega
  have i4 : (0 : Int) ≤ (k : Int) + (N : Int) := by omega
  have i5 : IntKind.i64.wrap ((k : Int) + (N : Int)) = (k : Int) + (N : Int) := by rw [IntKind.wrap_i64]; omega
  have i6 : (k : Int) ≤ (c : Int) := by omega
  have hck : ¬ c = k := by omega
  have hNb : Hid ((0 : Int) ≤ (N : Int) ∧ (N : Int) ≤ 9223372036854775807 ∧ ((k : Int) + (N : Int)).toNat - k = N) := by show _ ∧ _; omega
  have em2 : IntKind.i64.wrap (8 * (((N : Int) + 7) / 8)) = (M : Int) := by rw [IntKind.wrap_i64]; omega
  obtain ⟨y0, y1, y2, y3, y4, y5⟩ := Y0.six
  obtain ⟨u0, u1, u2, u3, u4, u5⟩ := Y1.six
  have HFIN : Hid (∀ w2 : World, w2.heap[BG]? = some (.cells (splice (List.replicate M (Value.bool false)) 0 X).toArray 4 (0, 0)) → OwnB w2 w.heap.size (.slice (some ⟨BG, 0, none⟩) M M) ((bs.drop k).take N ++ List.replicate (8 * ((N + 7) / 8) - N) false)) := by
    intro w2 h2
    have e : splice (List.replicate M (Value.bool false)) 0 X = ((bs.drop k).take N ++ List.replicate (8 * ((N + 7) / 8) - N) false).map Value.bool := by
      unfold splice
      rw [hXl.out, hX, ← hM]
      simp
    rw [e] at h2
    refine OwnB.ofHeap h2 ?_ ?_ ?_
    · rw [List.length_append, List.length_replicate, List.length_take, List.length_drop, ← hM]; omega
    · have := HBG2.out; omega
    · unfold maxLen; omega
  clear hz hl hs0 hX hz1 hM hBG Y0 R0 b0
  go_enter Try.func96, Try.ntmps96
  go_upto_region 1 with fail
  rw [← HZ.out]
  go_wp2_with fail
  refine (bytesFor_any (N : Int) _ hNb.out.1 hNb.out.2.1).mono ?_
  rintro e wx ⟨rfl, hwx⟩
  obtain rfl : z = wx := hwx.symm
  clear hwx
  go_upto_region 2 with fail
  rw [← HZ1.out]
  simp only [← HBG.out]
  clear hmk em em2
  go_wp2_with ((refine wpList_copy_splice rfl (.tmp 11) (.tmp 20) 24 24 rfl 4 Try.underlying24 szq4 _ _ _ _ _ _ rfl rfl BG 0 (List.replicate M (Value.bool false)) 4 HZh.out X (by rw [hXl.out]; first | exact (Nat.min_eq_left HM.out.2.1).symm | (rw [Nat.add_sub_cancel_left]; exact (Nat.min_eq_left HM.out.2.1).symm) | (rw [hNb.out.2.2]; exact (Nat.min_eq_left HM.out.2.1).symm)) (fun h => ⟨rfl, _, rfl, HP.out⟩) (by rw [hXl.out]; simp; exact HM.out.2.1) hone BG z1 (Below.refl _ _) (Nat.le_refl _) ?_); intro w2 H2 b2; have Y2 := Y1.belowB b2 (by have := HBG2.out; omega); have R2 := R1.belowB b2 (by have := HBG2.out; omega); obtain ⟨v0, v1, v2, v3, v4, v5⟩ := Y2.six; obtain ⟨r0, r1, r2, r3, r4, r5⟩ := R2.six; have f2 := R2.fro; have g0 := f2 0; have g1 := f2 1; have g2 := f2 2; have g3' := f2 3; have g4 := f2 4; have g5 := f2 5; have HH : Hid (OwnB w2 w.heap.size (.slice (some ⟨BG, 0, none⟩) M M) ((bs.drop k).take N ++ List.replicate (8 * ((N + 7) / 8) - N) false) ∧ ExB w2 (w.heap.size + 1) 37 ∧ Below w.heap.size w w2) := ⟨HFIN.out w2 H2.out, ⟨_, R2⟩, b1.trans (b2.mono (by have := HBG2.out; omega))⟩)
  refine bodyPost_ret (v := rp kd 0 0 0 none (some ⟨BG, 0, none⟩) 0 M 0 M) (by simp [results, Try.results96, go_sem, r0, r1, r2, r3, r4, r5]) rfl ?_
  obtain ⟨o1, o3, o4⟩ := HH.out
  exact ⟨_, _, _, _, _, _, rfl, ownI_nil0 _ _, rowp_set6 o1 o3 (by decide), belp_set6 o4 (by omega)⟩
end Go.Proofs.Ytfdddkjonjpgpaa
namespace Go.Proofs.Ytfdddkjonjpgpaa
open Go.RowKit
set_option linter.unusedVariables false
set_option linter.unusedSimpArgs false
theorem OwnI.cap {w : World} {B n cap : Nat} {a : Option Addr} {zs : List Int} (h : OwnI w B (.slice a n cap) zs) (h0 : 0 < n) : ∃ g, a = some ⟨g, 0, none⟩ ∧ n ≤ cap := by
  obtain ⟨g, cur, e, _, _, _, hle, _⟩ := h.cells h0
  exact ⟨g, e, hle⟩
theorem OwnB.cap {w : World} {B n cap : Nat} {a : Option Addr} {zs : List Bool} (h : OwnB w B (.slice a n cap) zs) (h0 : 0 < n) : ∃ g, a = some ⟨g, 0, none⟩ ∧ n ≤ cap := by
  obtain ⟨g, cur, e, _, _, _, hle, _⟩ := h.cells h0
  exact ⟨g, e, hle⟩
set_option maxRecDepth 20000 in
set_option maxHeartbeats 8000000 in
theorem tellCoils_any (a1 a2 a3 a4 : Option Addr) (l1 l2 l3 l4 c1 c2 c3 c4 : Nat) (cs is : List Bool) (hs rs : List Int) (kd wa : Int) (k N : Nat) (q1 q2 : Option Addr) (m1 m2 k1 k2 : Nat) (W0 w : World) (hB : Below W0.heap.size W0 w) (hD : OwnD w W0.heap.size a1 a2 a3 a4 l1 l2 l3 l4 c1 c2 c3 c4 cs is hs rs) (hk : k + N ≤ l1) (h3 : l1 ≤ 2000000) (h65 : k ≤ 65535) (hN : 1 ≤ N) :
    Calls Try.prog 77 #[dv a1 a2 a3 a4 l1 l2 l3 l4 c1 c2 c3 c4, rq kd (k : Int) (N : Int) wa q1 q2 m1 m2 k1 k2] w fun e w' => SV W0 w w' e a1 a2 a3 a4 l1 l2 l3 l4 c1 c2 c3 c4 cs is hs rs kd 0 0 0 ([]) ((cs.drop k).take N ++ List.replicate (8 * ((N + 7) / 8) - N) false) := by
  obtain ⟨z, hz⟩ : ∃ z, z = ((w.alloc (.cells #[.slice a1 l1 c1, .slice a2 l2 c2, .slice a3 l3 c3, .slice a4 l4 c4] 27)).alloc (.cells #[.int .i64 kd, .int .i64 (k : Int), .int .i64 (N : Int), .slice q1 m1 k1, .slice q2 m2 k2, .int .i64 wa] 57)).alloc (.cells #[.int .i64 0, .int .i64 0, .int .i64 0, .int .i64 0, .slice none 0 0, .slice none 0 0] 37) := ⟨_, rfl⟩
  have HZ : Hid (z = _) := hz
  have b0 : Below w.heap.size w z := by rw [hz]; exact bel_next (bel_next (bel_alloc w _) (bel_alloc _ _)) (bel_alloc _ _)
  have X0 : Blk z w.heap.size 27 #[.slice a1 l1 c1, .slice a2 l2 c2, .slice a3 l3 c3, .slice a4 l4 c4] := by rw [hz]; exact ((Blk.new w _ _).below (bel_alloc _ _)).below (bel_alloc _ _)
  have Y0 : Blk z (w.heap.size + 1) 57 #[.int .i64 kd, .int .i64 (k : Int), .int .i64 (N : Int), .slice q1 m1 k1, .slice q2 m2 k2, .int .i64 wa] := by rw [hz]; have := (Blk.new (w.alloc (.cells #[.slice a1 l1 c1, .slice a2 l2 c2, .slice a3 l3 c3, .slice a4 l4 c4] 27)) #[.int .i64 kd, .int .i64 (k : Int), .int .i64 (N : Int), .slice q1 m1 k1, .slice q2 m2 k2, .int .i64 wa] 57).below (bel_alloc _ (.cells #[.int .i64 0, .int .i64 0, .int .i64 0, .int .i64 0, .slice none 0 0, .slice none 0 0] 37)); simpa using this
  have R0 : Blk z (w.heap.size + 1 + 1) 37 #[.int .i64 0, .int .i64 0, .int .i64 0, .int .i64 0, .slice none 0 0, .slice none 0 0] := by rw [hz]; have := Blk.new ((w.alloc (.cells #[.slice a1 l1 c1, .slice a2 l2 c2, .slice a3 l3 c3, .slice a4 l4 c4] 27)).alloc (.cells #[.int .i64 kd, .int .i64 (k : Int), .int .i64 (N : Int), .slice q1 m1 k1, .slice q2 m2 k2, .int .i64 wa] 57)) #[.int .i64 0, .int .i64 0, .int .i64 0, .int .i64 0, .slice none 0 0, .slice none 0 0] 37; simpa using this
  have HB0 : Hid (Below W0.heap.size W0 w) := hB
  have D0 := hD.below b0
  obtain ⟨g, ea, hcap⟩ := D0.1.cap (by omega)
  subst ea
  have HQ : Hid (l1 = cs.length ∧ SlB z (some ⟨g, 0, none⟩) cs ∧ l1 ≤ c1 ∧ k + N ≤ l1 ∧ l1 ≤ 2000000 ∧ k ≤ 65535 ∧ 1 ≤ N) := ⟨D0.1.sl.1, D0.1.sl.2, hcap, hk, h3, h65, hN⟩
  have HD0 : Hid (OwnD z W0.heap.size (some ⟨g, 0, none⟩) a2 a3 a4 l1 l2 l3 l4 c1 c2 c3 c4 cs is hs rs) := D0
  obtain ⟨x0, x1, x2, x3⟩ := X0.four
  obtain ⟨y0, y1, y2, y3, y4, y5⟩ := Y0.six
  clear hz hB hD D0 hk h3 h65 hN
  go_enter Try.func77, Try.ntmps77
  go_upto_region 1 with fail
  rw [← HZ.out]
  go_wp2_with fail
  refine (tellBits_any kd wa k N q1 q2 m1 m2 k1 k2 g l1 c1 cs _ HQ.out.1 HQ.out.2.1 HQ.out.2.2.1 HQ.out.2.2.2.1 HQ.out.2.2.2.2.1 HQ.out.2.2.2.2.2.1 HQ.out.2.2.2.2.2.2).mono ?_
  rintro e w3 ⟨r1, r2, n1, n2, e1, e2, rfl, o1, o2, b'⟩
  have R3 := R0.below b'
  obtain ⟨s0, s1, s2, s3, s4, s5⟩ := R3.six
  have f3 := R3.fro
  have HH : Hid (OwnI w3 w.heap.size (.slice r1 n1 e1) ([]) ∧ OwnB w3 w.heap.size (.slice r2 n2 e2) ((cs.drop k).take N ++ List.replicate (8 * ((N + 7) / 8) - N) false) ∧ OwnD w3 W0.heap.size (some ⟨g, 0, none⟩) a2 a3 a4 l1 l2 l3 l4 c1 c2 c3 c4 cs is hs rs ∧ Below w.heap.size w w3 ∧ ExB w3 (w.heap.size + 1 + 1) 37) := ⟨o1.mono b0.size, o2.mono b0.size, HD0.out.below b', bel_next b0 b', ⟨_, R3⟩⟩
  clear o1 o2 b' R3 R0 x0 x1 x2 x3 y0 y1 y2 y3 y4 y5 X0 Y0
  go_wp2
  refine bodyPost_ret (v := rp kd 0 0 0 r1 r2 n1 n2 e1 e2) (by simp [results, Try.results77, go_sem, s0, s1, s2, s3, s4, s5]) rfl ?_
  obtain ⟨o1, o2, o3, o4, o5⟩ := HH.out
  exact ⟨_, _, _, _, _, _, rfl, rowp_set6 o1 o5 (by decide), rowp_set6 o2 o5 (by decide), o3.set6 o5 (by decide) (by decide), belp_set6 (HB0.out.trans (o4.mono HB0.out.size)) (by have := HB0.out.size; omega), (Chg.ofBelow o4).set6 (by omega)⟩
set_option maxRecDepth 20000 in
set_option maxHeartbeats 8000000 in
theorem tellInputs_any (a1 a2 a3 a4 : Option Addr) (l1 l2 l3 l4 c1 c2 c3 c4 : Nat) (cs is : List Bool) (hs rs : List Int) (kd wa : Int) (k N : Nat) (q1 q2 : Option Addr) (m1 m2 k1 k2 : Nat) (W0 w : World) (hB : Below W0.heap.size W0 w) (hD : OwnD w W0.heap.size a1 a2 a3 a4 l1 l2 l3 l4 c1 c2 c3 c4 cs is hs rs) (hk : k + N ≤ l2) (h3 : l2 ≤ 2000000) (h65 : k ≤ 65535) (hN : 1 ≤ N) :
    Calls Try.prog 78 #[dv a1 a2 a3 a4 l1 l2 l3 l4 c1 c2 c3 c4, rq kd (k : Int) (N : Int) wa q1 q2 m1 m2 k1 k2] w fun e w' => SV W0 w w' e a1 a2 a3 a4 l1 l2 l3 l4 c1 c2 c3 c4 cs is hs rs kd 0 0 0 ([]) ((is.drop k).take N ++ List.replicate (8 * ((N + 7) / 8) - N) false) := by
  obtain ⟨z, hz⟩ : ∃ z, z = ((w.alloc (.cells #[.slice a1 l1 c1, .slice a2 l2 c2, .slice a3 l3 c3, .slice a4 l4 c4] 27)).alloc (.cells #[.int .i64 kd, .int .i64 (k : Int), .int .i64 (N : Int), .slice q1 m1 k1, .slice q2 m2 k2, .int .i64 wa] 57)).alloc (.cells #[.int .i64 0, .int .i64 0, .int .i64 0, .int .i64 0, .slice none 0 0, .slice none 0 0] 37) := ⟨_, rfl⟩
  have HZ : Hid (z = _) := hz
  have b0 : Below w.heap.size w z := by rw [hz]; exact bel_next (bel_next (bel_alloc w _) (bel_alloc _ _)) (bel_alloc _ _)
  have X0 : Blk z w.heap.size 27 #[.slice a1 l1 c1, .slice a2 l2 c2, .slice a3 l3 c3, .slice a4 l4 c4] := by rw [hz]; exact ((Blk.new w _ _).below (bel_alloc _ _)).below (bel_alloc _ _)
  have Y0 : Blk z (w.heap.size + 1) 57 #[.int .i64 kd, .int .i64 (k : Int), .int .i64 (N : Int), .slice q1 m1 k1, .slice q2 m2 k2, .int .i64 wa] := by rw [hz]; have := (Blk.new (w.alloc (.cells #[.slice a1 l1 c1, .slice a2 l2 c2, .slice a3 l3 c3, .slice a4 l4 c4] 27)) #[.int .i64 kd, .int .i64 (k : Int), .int .i64 (N : Int), .slice q1 m1 k1, .slice q2 m2 k2, .int .i64 wa] 57).below (bel_alloc _ (.cells #[.int .i64 0, .int .i64 0, .int .i64 0, .int .i64 0, .slice none 0 0, .slice none 0 0] 37)); simpa using this
  have R0 : Blk z (w.heap.size + 1 + 1) 37 #[.int .i64 0, .int .i64 0, .int .i64 0, .int .i64 0, .slice none 0 0, .slice none 0 0] := by rw [hz]; have := Blk.new ((w.alloc (.cells #[.slice a1 l1 c1, .slice a2 l2 c2, .slice a3 l3 c3, .slice a4 l4 c4] 27)).alloc (.cells #[.int .i64 kd, .int .i64 (k : Int), .int .i64 (N : Int), .slice q1 m1 k1, .slice q2 m2 k2, .int .i64 wa] 57)) #[.int .i64 0, .int .i64 0, .int .i64 0, .int .i64 0, .slice none 0 0, .slice none 0 0] 37; simpa using this
  have HB0 : Hid (Below W0.heap.size W0 w) := hB
  have D0 := hD.below b0
  obtain ⟨g, ea, hcap⟩ := D0.2.1.cap (by omega)
  subst ea
  have HQ : Hid (l2 = is.length ∧ SlB z (some ⟨g, 0, none⟩) is ∧ l2 ≤ c2 ∧ k + N ≤ l2 ∧ l2 ≤ 2000000 ∧ k ≤ 65535 ∧ 1 ≤ N) := ⟨D0.2.1.sl.1, D0.2.1.sl.2, hcap, hk, h3, h65, hN⟩
  have HD0 : Hid (OwnD z W0.heap.size a1 (some ⟨g, 0, none⟩) a3 a4 l1 l2 l3 l4 c1 c2 c3 c4 cs is hs rs) := D0
  obtain ⟨x0, x1, x2, x3⟩ := X0.four
  obtain ⟨y0, y1, y2, y3, y4, y5⟩ := Y0.six
  clear hz hB hD D0 hk h3 h65 hN
  go_enter Try.func78, Try.ntmps78
  go_upto_region 1 with fail
  rw [← HZ.out]
  go_wp2_with fail
  refine (tellBits_any kd wa k N q1 q2 m1 m2 k1 k2 g l2 c2 is _ HQ.out.1 HQ.out.2.1 HQ.out.2.2.1 HQ.out.2.2.2.1 HQ.out.2.2.2.2.1 HQ.out.2.2.2.2.2.1 HQ.out.2.2.2.2.2.2).mono ?_
  rintro e w3 ⟨r1, r2, n1, n2, e1, e2, rfl, o1, o2, b'⟩
  have R3 := R0.below b'
  obtain ⟨s0, s1, s2, s3, s4, s5⟩ := R3.six
  have f3 := R3.fro
  have HH : Hid (OwnI w3 w.heap.size (.slice r1 n1 e1) ([]) ∧ OwnB w3 w.heap.size (.slice r2 n2 e2) ((is.drop k).take N ++ List.replicate (8 * ((N + 7) / 8) - N) false) ∧ OwnD w3 W0.heap.size a1 (some ⟨g, 0, none⟩) a3 a4 l1 l2 l3 l4 c1 c2 c3 c4 cs is hs rs ∧ Below w.heap.size w w3 ∧ ExB w3 (w.heap.size + 1 + 1) 37) := ⟨o1.mono b0.size, o2.mono b0.size, HD0.out.below b', bel_next b0 b', ⟨_, R3⟩⟩
  clear o1 o2 b' R3 R0 x0 x1 x2 x3 y0 y1 y2 y3 y4 y5 X0 Y0
  go_wp2
  refine bodyPost_ret (v := rp kd 0 0 0 r1 r2 n1 n2 e1 e2) (by simp [results, Try.results78, go_sem, s0, s1, s2, s3, s4, s5]) rfl ?_
  obtain ⟨o1, o2, o3, o4, o5⟩ := HH.out
  exact ⟨_, _, _, _, _, _, rfl, rowp_set6 o1 o5 (by decide), rowp_set6 o2 o5 (by decide), o3.set6 o5 (by decide) (by decide), belp_set6 (HB0.out.trans (o4.mono HB0.out.size)) (by have := HB0.out.size; omega), (Chg.ofBelow o4).set6 (by omega)⟩
set_option maxRecDepth 20000 in
set_option maxHeartbeats 8000000 in
theorem tellHolding_any (a1 a2 a3 a4 : Option Addr) (l1 l2 l3 l4 c1 c2 c3 c4 : Nat) (cs is : List Bool) (hs rs : List Int) (kd wa : Int) (k N : Nat) (q1 q2 : Option Addr) (m1 m2 k1 k2 : Nat) (W0 w : World) (hB : Below W0.heap.size W0 w) (hD : OwnD w W0.heap.size a1 a2 a3 a4 l1 l2 l3 l4 c1 c2 c3 c4 cs is hs rs) (hk : k + N ≤ l3) (h3 : l3 ≤ 2000000) (h65 : k ≤ 65535) (hN : 1 ≤ N) :
    Calls Try.prog 79 #[dv a1 a2 a3 a4 l1 l2 l3 l4 c1 c2 c3 c4, rq kd (k : Int) (N : Int) wa q1 q2 m1 m2 k1 k2] w fun e w' => SV W0 w w' e a1 a2 a3 a4 l1 l2 l3 l4 c1 c2 c3 c4 cs is hs rs kd 0 0 0 ((hs.drop k).take N) ([]) := by
  obtain ⟨z, hz⟩ : ∃ z, z = ((w.alloc (.cells #[.slice a1 l1 c1, .slice a2 l2 c2, .slice a3 l3 c3, .slice a4 l4 c4] 27)).alloc (.cells #[.int .i64 kd, .int .i64 (k : Int), .int .i64 (N : Int), .slice q1 m1 k1, .slice q2 m2 k2, .int .i64 wa] 57)).alloc (.cells #[.int .i64 0, .int .i64 0, .int .i64 0, .int .i64 0, .slice none 0 0, .slice none 0 0] 37) := ⟨_, rfl⟩
  have HZ : Hid (z = _) := hz
  have b0 : Below w.heap.size w z := by rw [hz]; exact bel_next (bel_next (bel_alloc w _) (bel_alloc _ _)) (bel_alloc _ _)
  have X0 : Blk z w.heap.size 27 #[.slice a1 l1 c1, .slice a2 l2 c2, .slice a3 l3 c3, .slice a4 l4 c4] := by rw [hz]; exact ((Blk.new w _ _).below (bel_alloc _ _)).below (bel_alloc _ _)
  have Y0 : Blk z (w.heap.size + 1) 57 #[.int .i64 kd, .int .i64 (k : Int), .int .i64 (N : Int), .slice q1 m1 k1, .slice q2 m2 k2, .int .i64 wa] := by rw [hz]; have := (Blk.new (w.alloc (.cells #[.slice a1 l1 c1, .slice a2 l2 c2, .slice a3 l3 c3, .slice a4 l4 c4] 27)) #[.int .i64 kd, .int .i64 (k : Int), .int .i64 (N : Int), .slice q1 m1 k1, .slice q2 m2 k2, .int .i64 wa] 57).below (bel_alloc _ (.cells #[.int .i64 0, .int .i64 0, .int .i64 0, .int .i64 0, .slice none 0 0, .slice none 0 0] 37)); simpa using this
  have R0 : Blk z (w.heap.size + 1 + 1) 37 #[.int .i64 0, .int .i64 0, .int .i64 0, .int .i64 0, .slice none 0 0, .slice none 0 0] := by rw [hz]; have := Blk.new ((w.alloc (.cells #[.slice a1 l1 c1, .slice a2 l2 c2, .slice a3 l3 c3, .slice a4 l4 c4] 27)).alloc (.cells #[.int .i64 kd, .int .i64 (k : Int), .int .i64 (N : Int), .slice q1 m1 k1, .slice q2 m2 k2, .int .i64 wa] 57)) #[.int .i64 0, .int .i64 0, .int .i64 0, .int .i64 0, .slice none 0 0, .slice none 0 0] 37; simpa using this
  have HB0 : Hid (Below W0.heap.size W0 w) := hB
  have D0 := hD.below b0
  obtain ⟨g, ea, hcap⟩ := D0.2.2.1.cap (by omega)
  subst ea
  have HQ : Hid (l3 = hs.length ∧ SlI z (some ⟨g, 0, none⟩) hs ∧ l3 ≤ c3 ∧ k + N ≤ l3 ∧ l3 ≤ 2000000 ∧ k ≤ 65535 ∧ 1 ≤ N) := ⟨D0.2.2.1.sl.1, D0.2.2.1.sl.2, hcap, hk, h3, h65, hN⟩
  have HD0 : Hid (OwnD z W0.heap.size a1 a2 (some ⟨g, 0, none⟩) a4 l1 l2 l3 l4 c1 c2 c3 c4 cs is hs rs) := D0
  obtain ⟨x0, x1, x2, x3⟩ := X0.four
  obtain ⟨y0, y1, y2, y3, y4, y5⟩ := Y0.six
  clear hz hB hD D0 hk h3 h65 hN
  go_enter Try.func79, Try.ntmps79
  go_upto_region 1 with fail
  rw [← HZ.out]
  go_wp2_with fail
  refine (tellRun_any kd wa k N q1 q2 m1 m2 k1 k2 g l3 c3 hs _ HQ.out.1 HQ.out.2.1 HQ.out.2.2.1 HQ.out.2.2.2.1 HQ.out.2.2.2.2.1 HQ.out.2.2.2.2.2.1 HQ.out.2.2.2.2.2.2).mono ?_
  rintro e w3 ⟨r1, r2, n1, n2, e1, e2, rfl, o1, o2, b'⟩
  have R3 := R0.below b'
  obtain ⟨s0, s1, s2, s3, s4, s5⟩ := R3.six
  have f3 := R3.fro
  have HH : Hid (OwnI w3 w.heap.size (.slice r1 n1 e1) ((hs.drop k).take N) ∧ OwnB w3 w.heap.size (.slice r2 n2 e2) ([]) ∧ OwnD w3 W0.heap.size a1 a2 (some ⟨g, 0, none⟩) a4 l1 l2 l3 l4 c1 c2 c3 c4 cs is hs rs ∧ Below w.heap.size w w3 ∧ ExB w3 (w.heap.size + 1 + 1) 37) := ⟨o1.mono b0.size, o2.mono b0.size, HD0.out.below b', bel_next b0 b', ⟨_, R3⟩⟩
  clear o1 o2 b' R3 R0 x0 x1 x2 x3 y0 y1 y2 y3 y4 y5 X0 Y0
  go_wp2
  refine bodyPost_ret (v := rp kd 0 0 0 r1 r2 n1 n2 e1 e2) (by simp [results, Try.results79, go_sem, s0, s1, s2, s3, s4, s5]) rfl ?_
  obtain ⟨o1, o2, o3, o4, o5⟩ := HH.out
  exact ⟨_, _, _, _, _, _, rfl, rowp_set6 o1 o5 (by decide), rowp_set6 o2 o5 (by decide), o3.set6 o5 (by decide) (by decide), belp_set6 (HB0.out.trans (o4.mono HB0.out.size)) (by have := HB0.out.size; omega), (Chg.ofBelow o4).set6 (by omega)⟩
set_option maxRecDepth 20000 in
set_option maxHeartbeats 8000000 in
theorem tellWords_any (a1 a2 a3 a4 : Option Addr) (l1 l2 l3 l4 c1 c2 c3 c4 : Nat) (cs is : List Bool) (hs rs : List Int) (kd wa : Int) (k N : Nat) (q1 q2 : Option Addr) (m1 m2 k1 k2 : Nat) (W0 w : World) (hB : Below W0.heap.size W0 w) (hD : OwnD w W0.heap.size a1 a2 a3 a4 l1 l2 l3 l4 c1 c2 c3 c4 cs is hs rs) (hk : k + N ≤ l4) (h3 : l4 ≤ 2000000) (h65 : k ≤ 65535) (hN : 1 ≤ N) :
    Calls Try.prog 80 #[dv a1 a2 a3 a4 l1 l2 l3 l4 c1 c2 c3 c4, rq kd (k : Int) (N : Int) wa q1 q2 m1 m2 k1 k2] w fun e w' => SV W0 w w' e a1 a2 a3 a4 l1 l2 l3 l4 c1 c2 c3 c4 cs is hs rs kd 0 0 0 ((rs.drop k).take N) ([]) := by
  obtain ⟨z, hz⟩ : ∃ z, z = ((w.alloc (.cells #[.slice a1 l1 c1, .slice a2 l2 c2, .slice a3 l3 c3, .slice a4 l4 c4] 27)).alloc (.cells #[.int .i64 kd, .int .i64 (k : Int), .int .i64 (N : Int), .slice q1 m1 k1, .slice q2 m2 k2, .int .i64 wa] 57)).alloc (.cells #[.int .i64 0, .int .i64 0, .int .i64 0, .int .i64 0, .slice none 0 0, .slice none 0 0] 37) := ⟨_, rfl⟩
  have HZ : Hid (z = _) := hz
  have b0 : Below w.heap.size w z := by rw [hz]; exact bel_next (bel_next (bel_alloc w _) (bel_alloc _ _)) (bel_alloc _ _)
  have X0 : Blk z w.heap.size 27 #[.slice a1 l1 c1, .slice a2 l2 c2, .slice a3 l3 c3, .slice a4 l4 c4] := by rw [hz]; exact ((Blk.new w _ _).below (bel_alloc _ _)).below (bel_alloc _ _)
  have Y0 : Blk z (w.heap.size + 1) 57 #[.int .i64 kd, .int .i64 (k : Int), .int .i64 (N : Int), .slice q1 m1 k1, .slice q2 m2 k2, .int .i64 wa] := by rw [hz]; have := (Blk.new (w.alloc (.cells #[.slice a1 l1 c1, .slice a2 l2 c2, .slice a3 l3 c3, .slice a4 l4 c4] 27)) #[.int .i64 kd, .int .i64 (k : Int), .int .i64 (N : Int), .slice q1 m1 k1, .slice q2 m2 k2, .int .i64 wa] 57).below (bel_alloc _ (.cells #[.int .i64 0, .int .i64 0, .int .i64 0, .int .i64 0, .slice none 0 0, .slice none 0 0] 37)); simpa using this
  have R0 : Blk z (w.heap.size + 1 + 1) 37 #[.int .i64 0, .int .i64 0, .int .i64 0, .int .i64 0, .slice none 0 0, .slice none 0 0] := by rw [hz]; have := Blk.new ((w.alloc (.cells #[.slice a1 l1 c1, .slice a2 l2 c2, .slice a3 l3 c3, .slice a4 l4 c4] 27)).alloc (.cells #[.int .i64 kd, .int .i64 (k : Int), .int .i64 (N : Int), .slice q1 m1 k1, .slice q2 m2 k2, .int .i64 wa] 57)) #[.int .i64 0, .int .i64 0, .int .i64 0, .int .i64 0, .slice none 0 0, .slice none 0 0] 37; simpa using this
  have HB0 : Hid (Below W0.heap.size W0 w) := hB
  have D0 := hD.below b0
  obtain ⟨g, ea, hcap⟩ := D0.2.2.2.1.cap (by omega)
  subst ea
  have HQ : Hid (l4 = rs.length ∧ SlI z (some ⟨g, 0, none⟩) rs ∧ l4 ≤ c4 ∧ k + N ≤ l4 ∧ l4 ≤ 2000000 ∧ k ≤ 65535 ∧ 1 ≤ N) := ⟨D0.2.2.2.1.sl.1, D0.2.2.2.1.sl.2, hcap, hk, h3, h65, hN⟩
  have HD0 : Hid (OwnD z W0.heap.size a1 a2 a3 (some ⟨g, 0, none⟩) l1 l2 l3 l4 c1 c2 c3 c4 cs is hs rs) := D0
  obtain ⟨x0, x1, x2, x3⟩ := X0.four
  obtain ⟨y0, y1, y2, y3, y4, y5⟩ := Y0.six
  clear hz hB hD D0 hk h3 h65 hN
  go_enter Try.func80, Try.ntmps80
  go_upto_region 1 with fail
  rw [← HZ.out]
  go_wp2_with fail
  refine (tellRun_any kd wa k N q1 q2 m1 m2 k1 k2 g l4 c4 rs _ HQ.out.1 HQ.out.2.1 HQ.out.2.2.1 HQ.out.2.2.2.1 HQ.out.2.2.2.2.1 HQ.out.2.2.2.2.2.1 HQ.out.2.2.2.2.2.2).mono ?_
  rintro e w3 ⟨r1, r2, n1, n2, e1, e2, rfl, o1, o2, b'⟩
  have R3 := R0.below b'
  obtain ⟨s0, s1, s2, s3, s4, s5⟩ := R3.six
  have f3 := R3.fro
  have HH : Hid (OwnI w3 w.heap.size (.slice r1 n1 e1) ((rs.drop k).take N) ∧ OwnB w3 w.heap.size (.slice r2 n2 e2) ([]) ∧ OwnD w3 W0.heap.size a1 a2 a3 (some ⟨g, 0, none⟩) l1 l2 l3 l4 c1 c2 c3 c4 cs is hs rs ∧ Below w.heap.size w w3 ∧ ExB w3 (w.heap.size + 1 + 1) 37) := ⟨o1.mono b0.size, o2.mono b0.size, HD0.out.below b', bel_next b0 b', ⟨_, R3⟩⟩
  clear o1 o2 b' R3 R0 x0 x1 x2 x3 y0 y1 y2 y3 y4 y5 X0 Y0
  go_wp2
  refine bodyPost_ret (v := rp kd 0 0 0 r1 r2 n1 n2 e1 e2) (by simp [results, Try.results80, go_sem, s0, s1, s2, s3, s4, s5]) rfl ?_
  obtain ⟨o1, o2, o3, o4, o5⟩ := HH.out
  exact ⟨_, _, _, _, _, _, rfl, rowp_set6 o1 o5 (by decide), rowp_set6 o2 o5 (by decide), o3.set6 o5 (by decide) (by decide), belp_set6 (HB0.out.trans (o4.mono HB0.out.size)) (by have := HB0.out.size; omega), (Chg.ofBelow o4).set6 (by omega)⟩
end Go.Proofs.Ytfdddkjonjpgpaa
