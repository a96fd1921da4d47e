/- New ports. -/
import Derived.Test.YtimgohnnapaafaaPort5a
namespace Go.Proofs.Ytimgohnnapaafaa
open Go.RowKit

set_option linter.unusedVariables false

set_option linter.unusedSimpArgs false

theorem ps2_nil (w : World) : PS2 w none none none 0 0 0 0 [] [] [] := ⟨ps_nil w, Nat.le_refl _, by simp⟩

theorem specRtuNew_w (wt : Int) (w : World) : Calls Try.prog 25 #[.int .i64 2, .int .i64 wt] w fun e w' => e = .returned (if 2 ≤ wt ∧ wt ≤ 1000 then rt none 0 0 0 false 2 wt else rt none 0 0 0 false 0 0) ∧ Below w.heap.size w w' := by
  refine (specRtuNew_any 2 wt w).mono ?_
  rintro e w' ⟨rfl, b⟩
  refine ⟨?_, b⟩
  by_cases h : 2 ≤ wt ∧ wt ≤ 1000
  · rw [if_pos h, show okSl 2 wt = true from decide_eq_true ⟨by omega, by omega, by omega, by omega⟩]; rfl
  · rw [if_neg h, show okSl 2 wt = false from decide_eq_false (by omega)]; rfl

theorem implRtuNew_w (wt : Int) (w : World) : Calls Try.prog 27 #[.int .i64 2, .int .i64 wt] w fun e w' => e = .returned (if 2 ≤ wt ∧ wt ≤ 1000 then rt none 0 0 0 false 2 wt else rt none 0 0 0 false 0 0) ∧ Below w.heap.size w w' := by
  refine (implRtuNew_any 2 wt w).mono ?_
  rintro e w' ⟨rfl, b⟩
  refine ⟨?_, b⟩
  by_cases h : 2 ≤ wt ∧ wt ≤ 1000
  · rw [if_pos h, show okSl 2 wt = true from decide_eq_true ⟨by omega, by omega, by omega, by omega⟩]; rfl
  · rw [if_neg h, show okSl 2 wt = false from decide_eq_false (by omega)]; rfl

theorem specAsciiNew_w (wt : Int) (w : World) : Calls Try.prog 26 #[.int .i64 wt] w fun e w' => e = .returned (if 1 ≤ wt ∧ wt ≤ 1000 then sc none 0 0 false 0 wt else sc none 0 0 false 0 0) ∧ Below w.heap.size w w' := by
  refine (specAsciiNew_any wt w).mono ?_
  rintro e w' ⟨rfl, b⟩
  refine ⟨?_, b⟩
  by_cases h : 1 ≤ wt ∧ wt ≤ 1000
  · rw [if_pos h, if_pos h]
  · rw [if_neg h, if_neg h]

theorem implAsciiNew_w (wt : Int) (w : World) : Calls Try.prog 28 #[.int .i64 wt] w fun e w' => e = .returned (if 1 ≤ wt ∧ wt ≤ 1000 then sc none 0 0 false 0 wt else sc none 0 0 false 0 0) ∧ Below w.heap.size w w' := by
  refine (implAsciiNew_any wt w).mono ?_
  rintro e w' ⟨rfl, b⟩
  refine ⟨?_, b⟩
  by_cases h : 1 ≤ wt ∧ wt ≤ 1000
  · rw [if_pos h, if_pos h]
  · rw [if_neg h, if_neg h]

set_option maxRecDepth 20000 in
set_option maxHeartbeats 2000000 in
theorem specPortNew_1y (kd wt : Int) (w : World) (h : 2 ≤ wt ∧ wt ≤ 1000) :
    Calls Try.prog 6 #[.int .i64 1, .int .i64 wt] w fun e w' => e = .returned (pn 1 2 wt 0) ∧ Below w.heap.size w w' := by
  have B0 := bel_alloc w (.cells #[.int .i64 0, .slice none 0 0, .int .i64 0, .bool false, .int .i64 0, .int .i64 0, .slice none 0 0, .bool false, .int .i64 0, .int .i64 0, .slice none 0 0, .bool false, .int .i64 0] 30)
  have X0 := Blk.new w #[.int .i64 0, .slice none 0 0, .int .i64 0, .bool false, .int .i64 0, .int .i64 0, .slice none 0 0, .bool false, .int .i64 0, .int .i64 0, .slice none 0 0, .bool false, .int .i64 0] 30
  go_enter Try.func6, Try.ntmps6
  go_wp2_with (first | (go_at_call 24; go_in) | fail)
  refine (specRtuNew_w wt _).mono ?_
  rintro e w1 ⟨he, b'⟩
  rw [if_pos h] at he
  subst he
  have B1 := bel_next B0 b'
  have X1 := X0.below b'
  have f1 := X1.fro
  clear X0 B0 b'
  obtain ⟨x0, x1, x2, x3, x4, x5, x6, x7, x8, x9, x10, x11, x12⟩ := X1.n13
  obtain ⟨wz, hwz⟩ : ∃ wz, wz = set13 w1 w.heap.size (.int .i64 1) (.slice none 0 0) (.int .i64 0) (.bool false) (.int .i64 2) (.int .i64 wt) (.slice none 0 0) (.bool false) (.int .i64 0) (.int .i64 0) (.slice none 0 0) (.bool false) (.int .i64 0) := ⟨_, rfl⟩
  have XZ : Blk wz w.heap.size 30 #[.int .i64 1, .slice none 0 0, .int .i64 0, .bool false, .int .i64 2, .int .i64 wt, .slice none 0 0, .bool false, .int .i64 0, .int .i64 0, .slice none 0 0, .bool false, .int .i64 0] := by rw [hwz]; exact X1.set13 _ _ _ _ _ _ _ _ _ _ _ _ _
  have BZ : Below w.heap.size w wz := by rw [hwz]; exact bel_set13 B1 (Nat.le_refl _)
  have HWZ : Hid (wz = (((((((((((((w1.setCell ⟨w.heap.size, 0, none⟩ (.int .i64 1)).setCell ⟨w.heap.size, 1, none⟩ (.slice none 0 0)).setCell ⟨w.heap.size, 2, none⟩ (.int .i64 0)).setCell ⟨w.heap.size, 3, none⟩ (.bool false)).setCell ⟨w.heap.size, 4, none⟩ (.int .i64 2)).setCell ⟨w.heap.size, 5, none⟩ (.int .i64 wt)).setCell ⟨w.heap.size, 6, none⟩ (.slice none 0 0)).setCell ⟨w.heap.size, 7, none⟩ (.bool false)).setCell ⟨w.heap.size, 8, none⟩ (.int .i64 0)).setCell ⟨w.heap.size, 9, none⟩ (.int .i64 0)).setCell ⟨w.heap.size, 10, none⟩ (.slice none 0 0)).setCell ⟨w.heap.size, 11, none⟩ (.bool false)).setCell ⟨w.heap.size, 12, none⟩ (.int .i64 0))) := hwz
  clear hwz
  obtain ⟨t0, t1, t2, t3, t4, t5, t6, t7, t8, t9, t10, t11, t12⟩ := XZ.n13
  clear XZ
  go_wp2
  rw [← HWZ.out]
  refine bodyPost_ret (v := pn 1 2 wt 0) (by simp [results, Try.results6, go_sem, t0, t1, t2, t3, t4, t5, t6, t7, t8, t9, t10, t11, t12]) rfl ?_
  exact ⟨rfl, BZ⟩

set_option maxRecDepth 20000 in
set_option maxHeartbeats 2000000 in
theorem specPortNew_2y (kd wt : Int) (w : World) (h : 1 ≤ wt ∧ wt ≤ 1000) :
    Calls Try.prog 6 #[.int .i64 2, .int .i64 wt] w fun e w' => e = .returned (pn 2 0 0 wt) ∧ Below w.heap.size w w' := by
  have B0 := bel_alloc w (.cells #[.int .i64 0, .slice none 0 0, .int .i64 0, .bool false, .int .i64 0, .int .i64 0, .slice none 0 0, .bool false, .int .i64 0, .int .i64 0, .slice none 0 0, .bool false, .int .i64 0] 30)
  have X0 := Blk.new w #[.int .i64 0, .slice none 0 0, .int .i64 0, .bool false, .int .i64 0, .int .i64 0, .slice none 0 0, .bool false, .int .i64 0, .int .i64 0, .slice none 0 0, .bool false, .int .i64 0] 30
  go_enter Try.func6, Try.ntmps6
  go_wp2_with (first | (go_at_call 24; go_in) | fail)
  refine (specAsciiNew_w wt _).mono ?_
  rintro e w1 ⟨he, b'⟩
  rw [if_pos h] at he
  subst he
  have B1 := bel_next B0 b'
  have X1 := X0.below b'
  have f1 := X1.fro
  clear X0 B0 b'
  obtain ⟨x0, x1, x2, x3, x4, x5, x6, x7, x8, x9, x10, x11, x12⟩ := X1.n13
  obtain ⟨wz, hwz⟩ : ∃ wz, wz = set13 w1 w.heap.size (.int .i64 2) (.slice none 0 0) (.int .i64 0) (.bool false) (.int .i64 0) (.int .i64 0) (.slice none 0 0) (.bool false) (.int .i64 0) (.int .i64 wt) (.slice none 0 0) (.bool false) (.int .i64 0) := ⟨_, rfl⟩
  have XZ : Blk wz w.heap.size 30 #[.int .i64 2, .slice none 0 0, .int .i64 0, .bool false, .int .i64 0, .int .i64 0, .slice none 0 0, .bool false, .int .i64 0, .int .i64 wt, .slice none 0 0, .bool false, .int .i64 0] := by rw [hwz]; exact X1.set13 _ _ _ _ _ _ _ _ _ _ _ _ _
  have BZ : Below w.heap.size w wz := by rw [hwz]; exact bel_set13 B1 (Nat.le_refl _)
  have HWZ : Hid (wz = (((((((((((((w1.setCell ⟨w.heap.size, 0, none⟩ (.int .i64 2)).setCell ⟨w.heap.size, 1, none⟩ (.slice none 0 0)).setCell ⟨w.heap.size, 2, none⟩ (.int .i64 0)).setCell ⟨w.heap.size, 3, none⟩ (.bool false)).setCell ⟨w.heap.size, 4, none⟩ (.int .i64 0)).setCell ⟨w.heap.size, 5, none⟩ (.int .i64 0)).setCell ⟨w.heap.size, 6, none⟩ (.slice none 0 0)).setCell ⟨w.heap.size, 7, none⟩ (.bool false)).setCell ⟨w.heap.size, 8, none⟩ (.int .i64 0)).setCell ⟨w.heap.size, 9, none⟩ (.int .i64 wt)).setCell ⟨w.heap.size, 10, none⟩ (.slice none 0 0)).setCell ⟨w.heap.size, 11, none⟩ (.bool false)).setCell ⟨w.heap.size, 12, none⟩ (.int .i64 0))) := hwz
  clear hwz
  obtain ⟨t0, t1, t2, t3, t4, t5, t6, t7, t8, t9, t10, t11, t12⟩ := XZ.n13
  clear XZ
  go_wp2
  rw [← HWZ.out]
  refine bodyPost_ret (v := pn 2 0 0 wt) (by simp [results, Try.results6, go_sem, t0, t1, t2, t3, t4, t5, t6, t7, t8, t9, t10, t11, t12]) rfl ?_
  exact ⟨rfl, BZ⟩

set_option maxRecDepth 20000 in
set_option maxHeartbeats 2000000 in
theorem specPortNew_3 (kd wt : Int) (w : World)  :
    Calls Try.prog 6 #[.int .i64 3, .int .i64 wt] w fun e w' => e = .returned (pn 3 0 0 0) ∧ Below w.heap.size w w' := by
  have B0 := bel_alloc w (.cells #[.int .i64 0, .slice none 0 0, .int .i64 0, .bool false, .int .i64 0, .int .i64 0, .slice none 0 0, .bool false, .int .i64 0, .int .i64 0, .slice none 0 0, .bool false, .int .i64 0] 30)
  go_enter Try.func6, Try.ntmps6
  go_wp2_with (first | (go_at_call 24; go_in) | fail)
  refine bodyPost_ret (v := pn 3 0 0 0) (by simp [results, Try.results6, go_sem]) rfl ?_
  exact ⟨rfl, bel_alloc _ _⟩

set_option maxRecDepth 20000 in
set_option maxHeartbeats 2000000 in
theorem specPortNew_1n (kd wt : Int) (w : World) (h : ¬ (2 ≤ wt))  :
    Calls Try.prog 6 #[.int .i64 1, .int .i64 wt] w fun e w' => e = .returned (pn 0 0 0 0) ∧ Below w.heap.size w w' := by
  have B0 := bel_alloc w (.cells #[.int .i64 0, .slice none 0 0, .int .i64 0, .bool false, .int .i64 0, .int .i64 0, .slice none 0 0, .bool false, .int .i64 0, .int .i64 0, .slice none 0 0, .bool false, .int .i64 0] 30)
  go_enter Try.func6, Try.ntmps6
  go_wp2_with (first | (go_at_call 24; go_in) | fail)
  refine bodyPost_ret (v := pn 0 0 0 0) (by simp [results, Try.results6, go_sem]) rfl ?_
  exact ⟨rfl, bel_alloc _ _⟩

set_option maxRecDepth 20000 in
set_option maxHeartbeats 2000000 in
theorem specPortNew_1m (kd wt : Int) (w : World) (h0 : 2 ≤ wt) (h : ¬ wt ≤ 1000) :
    Calls Try.prog 6 #[.int .i64 1, .int .i64 wt] w fun e w' => e = .returned (pn 0 0 0 0) ∧ Below w.heap.size w w' := by
  have B0 := bel_alloc w (.cells #[.int .i64 0, .slice none 0 0, .int .i64 0, .bool false, .int .i64 0, .int .i64 0, .slice none 0 0, .bool false, .int .i64 0, .int .i64 0, .slice none 0 0, .bool false, .int .i64 0] 30)
  go_enter Try.func6, Try.ntmps6
  go_wp2_with (first | (go_at_call 24; go_in) | fail)
  refine bodyPost_ret (v := pn 0 0 0 0) (by simp [results, Try.results6, go_sem]) rfl ?_
  exact ⟨rfl, bel_alloc _ _⟩

set_option maxRecDepth 20000 in
set_option maxHeartbeats 2000000 in
theorem specPortNew_2n (kd wt : Int) (w : World) (h : ¬ 1 ≤ wt) :
    Calls Try.prog 6 #[.int .i64 2, .int .i64 wt] w fun e w' => e = .returned (pn 0 0 0 0) ∧ Below w.heap.size w w' := by
  have B0 := bel_alloc w (.cells #[.int .i64 0, .slice none 0 0, .int .i64 0, .bool false, .int .i64 0, .int .i64 0, .slice none 0 0, .bool false, .int .i64 0, .int .i64 0, .slice none 0 0, .bool false, .int .i64 0] 30)
  go_enter Try.func6, Try.ntmps6
  go_wp2_with (first | (go_at_call 24; go_in) | fail)
  refine bodyPost_ret (v := pn 0 0 0 0) (by simp [results, Try.results6, go_sem]) rfl ?_
  exact ⟨rfl, bel_alloc _ _⟩

set_option maxRecDepth 20000 in
set_option maxHeartbeats 2000000 in
theorem specPortNew_2m (kd wt : Int) (w : World) (h0 : 1 ≤ wt) (h : ¬ wt ≤ 1000) :
    Calls Try.prog 6 #[.int .i64 2, .int .i64 wt] w fun e w' => e = .returned (pn 0 0 0 0) ∧ Below w.heap.size w w' := by
  have B0 := bel_alloc w (.cells #[.int .i64 0, .slice none 0 0, .int .i64 0, .bool false, .int .i64 0, .int .i64 0, .slice none 0 0, .bool false, .int .i64 0, .int .i64 0, .slice none 0 0, .bool false, .int .i64 0] 30)
  go_enter Try.func6, Try.ntmps6
  go_wp2_with (first | (go_at_call 24; go_in) | fail)
  refine bodyPost_ret (v := pn 0 0 0 0) (by simp [results, Try.results6, go_sem]) rfl ?_
  exact ⟨rfl, bel_alloc _ _⟩

set_option maxRecDepth 20000 in
set_option maxHeartbeats 2000000 in
theorem specPortNew_0 (kd wt : Int) (w : World) (h1 : ¬ kd = 1) (h2 : ¬ kd = 2) (h3 : ¬ kd = 3) :
    Calls Try.prog 6 #[.int .i64 kd, .int .i64 wt] w fun e w' => e = .returned (pn 0 0 0 0) ∧ Below w.heap.size w w' := by
  have B0 := bel_alloc w (.cells #[.int .i64 0, .slice none 0 0, .int .i64 0, .bool false, .int .i64 0, .int .i64 0, .slice none 0 0, .bool false, .int .i64 0, .int .i64 0, .slice none 0 0, .bool false, .int .i64 0] 30)
  go_enter Try.func6, Try.ntmps6
  go_wp2_with (first | (go_at_call 24; go_in) | fail)
  refine bodyPost_ret (v := pn 0 0 0 0) (by simp [results, Try.results6, go_sem]) rfl ?_
  exact ⟨rfl, bel_alloc _ _⟩

set_option maxRecDepth 20000 in
set_option maxHeartbeats 2000000 in
theorem implPortNew_1y (kd wt : Int) (w : World) (h : 2 ≤ wt ∧ wt ≤ 1000) :
    Calls Try.prog 7 #[.int .i64 1, .int .i64 wt] w fun e w' => e = .returned (pn 1 2 wt 0) ∧ Below w.heap.size w w' := by
  obtain ⟨W0, hW0⟩ : ∃ W0, W0 = (w.alloc (.cells #[.int .i64 0, .slice none 0 0, .int .i64 0, .bool false, .int .i64 0, .int .i64 0, .slice none 0 0, .bool false, .int .i64 0, .int .i64 0, .slice none 0 0, .bool false, .int .i64 0] 30)).alloc (.cells #[.int .i64 1, .slice none 0 0, .int .i64 0, .bool false, .int .i64 0, .int .i64 0, .slice none 0 0, .bool false, .int .i64 0, .int .i64 0, .slice none 0 0, .bool false, .int .i64 0] 30) := ⟨_, rfl⟩
  have B0 : Below w.heap.size w W0 := by rw [hW0]; exact bel_next (bel_alloc _ _) (bel_alloc _ _)
  have R0 : Blk W0 w.heap.size 30 #[.int .i64 0, .slice none 0 0, .int .i64 0, .bool false, .int .i64 0, .int .i64 0, .slice none 0 0, .bool false, .int .i64 0, .int .i64 0, .slice none 0 0, .bool false, .int .i64 0] := by rw [hW0]; exact (Blk.new _ _ _).below (bel_alloc _ _)
  have X0 : Blk W0 (w.heap.size + 1) 30 #[.int .i64 1, .slice none 0 0, .int .i64 0, .bool false, .int .i64 0, .int .i64 0, .slice none 0 0, .bool false, .int .i64 0, .int .i64 0, .slice none 0 0, .bool false, .int .i64 0] := by
    rw [hW0]; have := Blk.new (w.alloc (.cells #[.int .i64 0, .slice none 0 0, .int .i64 0, .bool false, .int .i64 0, .int .i64 0, .slice none 0 0, .bool false, .int .i64 0, .int .i64 0, .slice none 0 0, .bool false, .int .i64 0] 30)) #[.int .i64 1, .slice none 0 0, .int .i64 0, .bool false, .int .i64 0, .int .i64 0, .slice none 0 0, .bool false, .int .i64 0, .int .i64 0, .slice none 0 0, .bool false, .int .i64 0] 30; simpa using this
  have HW0 : Hid (W0 = _) := hW0
  clear hW0
  have hokp : okPi ⟨1, 0, false, 2, wt, false, 0, 0, false, 0⟩ 0 0 0 [] [] = true := by simp [okPi, noA, noS, ctd, okT]; omega
  have HOKP : Hid (_ = _) := hokp
  clear hokp
  obtain ⟨x0, x1, x2, x3, x4, x5, x6, x7, x8, x9, x10, x11, x12⟩ := X0.n13
  go_enter Try.func7, Try.ntmps7
  go_wp2_with fail
  rw [← HW0.out]
  refine (implRtuNew_w wt _).mono ?_
  rintro e w1 ⟨he, b'⟩
  rw [if_pos h] at he
  subst he
  have B1 := bel_next B0 b'
  have X1 := X0.below b'
  have R1 := R0.below b'
  have f1 := X1.fro
  clear b' B0 X0 R0 x0 x1 x2 x3 x4 x5 x6 x7 x8 x9 x10 x11 x12
  obtain ⟨x0, x1, x2, x3, x4, x5, x6, x7, x8, x9, x10, x11, x12⟩ := X1.n13
  have Xa1 : Blk _ (w.heap.size + 1) 30 #[.int .i64 1, .slice none 0 0, .int .i64 0, .bool false, .int .i64 0, .int .i64 0, .slice none 0 0, .bool false, .int .i64 0, .int .i64 0, .slice none 0 0, .bool false, .int .i64 0] := Blk.setA (k := 1) (y := .slice none 0 0) X1 rfl
  have Xa2 : Blk _ (w.heap.size + 1) 30 #[.int .i64 1, .slice none 0 0, .int .i64 0, .bool false, .int .i64 0, .int .i64 0, .slice none 0 0, .bool false, .int .i64 0, .int .i64 0, .slice none 0 0, .bool false, .int .i64 0] := Blk.setA (k := 2) (y := .int .i64 0) Xa1 rfl
  have Xa3 : Blk _ (w.heap.size + 1) 30 #[.int .i64 1, .slice none 0 0, .int .i64 0, .bool false, .int .i64 0, .int .i64 0, .slice none 0 0, .bool false, .int .i64 0, .int .i64 0, .slice none 0 0, .bool false, .int .i64 0] := Blk.setA (k := 3) (y := .bool false) Xa2 rfl
  have Xa4 : Blk _ (w.heap.size + 1) 30 #[.int .i64 1, .slice none 0 0, .int .i64 0, .bool false, .int .i64 2, .int .i64 0, .slice none 0 0, .bool false, .int .i64 0, .int .i64 0, .slice none 0 0, .bool false, .int .i64 0] := Blk.setA (k := 4) (y := .int .i64 2) Xa3 rfl
  have Xa5 : Blk _ (w.heap.size + 1) 30 #[.int .i64 1, .slice none 0 0, .int .i64 0, .bool false, .int .i64 2, .int .i64 wt, .slice none 0 0, .bool false, .int .i64 0, .int .i64 0, .slice none 0 0, .bool false, .int .i64 0] := Blk.setA (k := 5) (y := .int .i64 wt) Xa4 rfl
  have X2 := Xa5
  have R2 := (((((R1.setNe (g' := w.heap.size + 1) (j := 1) (y := .slice none 0 0) (by omega)).setNe (g' := w.heap.size + 1) (j := 2) (y := .int .i64 0) (by omega)).setNe (g' := w.heap.size + 1) (j := 3) (y := .bool false) (by omega)).setNe (g' := w.heap.size + 1) (j := 4) (y := .int .i64 2) (by omega)).setNe (g' := w.heap.size + 1) (j := 5) (y := .int .i64 wt) (by omega))
  have B2 : Below w.heap.size w _ := (bel_setP (k := 5) (v := .int .i64 wt) (bel_setP (k := 4) (v := .int .i64 2) (bel_setP (k := 3) (v := .bool false) (bel_setP (k := 2) (v := .int .i64 0) (bel_setP (k := 1) (v := .slice none 0 0) B1 (Nat.le_succ _)) (Nat.le_succ _)) (Nat.le_succ _)) (Nat.le_succ _)) (Nat.le_succ _))
  have X2' : Blk _ (w.heap.size + 1) 30 #[.int .i64 1, .slice none 0 0, .int .i64 0, .bool false, .int .i64 2, .int .i64 wt, .slice none 0 0, .bool false, .int .i64 0, .int .i64 0, .slice none 0 0, .bool false, .int .i64 0] := X2
  clear Xa1 Xa2 Xa3 Xa4 Xa5
  obtain ⟨z0, z1, z2, z3, z4, z5, z6, z7, z8, z9, z10, z11, z12⟩ := X2'.n13
  go_wp2_with fail
  refine (implPortOk_any ⟨1, 0, false, 2, wt, false, 0, 0, false, 0⟩ none none none 0 0 0 0 0 0 [] [] [] _ (ps2_nil _) _ HOKP.out).mono ?_
  rintro e w3 ⟨rfl, b'⟩
  have B3 := bel_next B2 b'
  have X3 := Blk.below X2' b'
  have R3 := Blk.below R2 b'
  have f3 := R3.fro
  clear b'
  clear X1 X2 X2' R1 R2 B1 B2 f1 z0 z1 z2 z3 z4 z5 z6 z7 z8 z9 z10 z11 z12 x0 x1 x2 x3 x4 x5 x6 x7 x8 x9 x10 x11 x12
  obtain ⟨x0, x1, x2, x3, x4, x5, x6, x7, x8, x9, x10, x11, x12⟩ := X3.n13
  obtain ⟨r0, r1, r2, r3, r4, r5, r6, r7, r8, r9, r10, r11, r12⟩ := R3.n13
  obtain ⟨wz, hwz⟩ : ∃ wz, wz = set13 w3 w.heap.size (.int .i64 1) (.slice none 0 0) (.int .i64 0) (.bool false) (.int .i64 2) (.int .i64 wt) (.slice none 0 0) (.bool false) (.int .i64 0) (.int .i64 0) (.slice none 0 0) (.bool false) (.int .i64 0) := ⟨_, rfl⟩
  have XZ : Blk wz w.heap.size 30 #[.int .i64 1, .slice none 0 0, .int .i64 0, .bool false, .int .i64 2, .int .i64 wt, .slice none 0 0, .bool false, .int .i64 0, .int .i64 0, .slice none 0 0, .bool false, .int .i64 0] := by rw [hwz]; exact R3.set13 _ _ _ _ _ _ _ _ _ _ _ _ _
  have BZ : Below w.heap.size w wz := by rw [hwz]; exact bel_set13 B3 (Nat.le_refl _)
  have HWZ : Hid (wz = (((((((((((((w3.setCell ⟨w.heap.size, 0, none⟩ (.int .i64 1)).setCell ⟨w.heap.size, 1, none⟩ (.slice none 0 0)).setCell ⟨w.heap.size, 2, none⟩ (.int .i64 0)).setCell ⟨w.heap.size, 3, none⟩ (.bool false)).setCell ⟨w.heap.size, 4, none⟩ (.int .i64 2)).setCell ⟨w.heap.size, 5, none⟩ (.int .i64 wt)).setCell ⟨w.heap.size, 6, none⟩ (.slice none 0 0)).setCell ⟨w.heap.size, 7, none⟩ (.bool false)).setCell ⟨w.heap.size, 8, none⟩ (.int .i64 0)).setCell ⟨w.heap.size, 9, none⟩ (.int .i64 0)).setCell ⟨w.heap.size, 10, none⟩ (.slice none 0 0)).setCell ⟨w.heap.size, 11, none⟩ (.bool false)).setCell ⟨w.heap.size, 12, none⟩ (.int .i64 0))) := hwz
  clear hwz
  obtain ⟨t0, t1, t2, t3, t4, t5, t6, t7, t8, t9, t10, t11, t12⟩ := XZ.n13
  clear XZ
  go_wp2
  rw [← HWZ.out]
  refine bodyPost_ret (v := pn 1 2 wt 0) (by simp [results, Try.results7, go_sem, t0, t1, t2, t3, t4, t5, t6, t7, t8, t9, t10, t11, t12]) rfl ?_
  exact ⟨rfl, BZ⟩

set_option maxRecDepth 20000 in
set_option maxHeartbeats 2000000 in
theorem implPortNew_1n (kd wt : Int) (w : World) (h : ¬ (2 ≤ wt ∧ wt ≤ 1000)) :
    Calls Try.prog 7 #[.int .i64 1, .int .i64 wt] w fun e w' => e = .returned (pn 0 0 0 0) ∧ Below w.heap.size w w' := by
  obtain ⟨W0, hW0⟩ : ∃ W0, W0 = (w.alloc (.cells #[.int .i64 0, .slice none 0 0, .int .i64 0, .bool false, .int .i64 0, .int .i64 0, .slice none 0 0, .bool false, .int .i64 0, .int .i64 0, .slice none 0 0, .bool false, .int .i64 0] 30)).alloc (.cells #[.int .i64 1, .slice none 0 0, .int .i64 0, .bool false, .int .i64 0, .int .i64 0, .slice none 0 0, .bool false, .int .i64 0, .int .i64 0, .slice none 0 0, .bool false, .int .i64 0] 30) := ⟨_, rfl⟩
  have B0 : Below w.heap.size w W0 := by rw [hW0]; exact bel_next (bel_alloc _ _) (bel_alloc _ _)
  have R0 : Blk W0 w.heap.size 30 #[.int .i64 0, .slice none 0 0, .int .i64 0, .bool false, .int .i64 0, .int .i64 0, .slice none 0 0, .bool false, .int .i64 0, .int .i64 0, .slice none 0 0, .bool false, .int .i64 0] := by rw [hW0]; exact (Blk.new _ _ _).below (bel_alloc _ _)
  have X0 : Blk W0 (w.heap.size + 1) 30 #[.int .i64 1, .slice none 0 0, .int .i64 0, .bool false, .int .i64 0, .int .i64 0, .slice none 0 0, .bool false, .int .i64 0, .int .i64 0, .slice none 0 0, .bool false, .int .i64 0] := by
    rw [hW0]; have := Blk.new (w.alloc (.cells #[.int .i64 0, .slice none 0 0, .int .i64 0, .bool false, .int .i64 0, .int .i64 0, .slice none 0 0, .bool false, .int .i64 0, .int .i64 0, .slice none 0 0, .bool false, .int .i64 0] 30)) #[.int .i64 1, .slice none 0 0, .int .i64 0, .bool false, .int .i64 0, .int .i64 0, .slice none 0 0, .bool false, .int .i64 0, .int .i64 0, .slice none 0 0, .bool false, .int .i64 0] 30; simpa using this
  have HW0 : Hid (W0 = _) := hW0
  clear hW0
  have hokp : okPi ⟨1, 0, false, 0, 0, false, 0, 0, false, 0⟩ 0 0 0 [] [] = false := by simp [okPi, noA, noS, ctd, okT]
  have HOKP : Hid (_ = _) := hokp
  clear hokp
  obtain ⟨x0, x1, x2, x3, x4, x5, x6, x7, x8, x9, x10, x11, x12⟩ := X0.n13
  go_enter Try.func7, Try.ntmps7
  go_wp2_with fail
  rw [← HW0.out]
  refine (implRtuNew_w wt _).mono ?_
  rintro e w1 ⟨he, b'⟩
  rw [if_neg h] at he
  subst he
  have B1 := bel_next B0 b'
  have X1 := X0.below b'
  have R1 := R0.below b'
  have f1 := X1.fro
  clear b' B0 X0 R0 x0 x1 x2 x3 x4 x5 x6 x7 x8 x9 x10 x11 x12
  obtain ⟨x0, x1, x2, x3, x4, x5, x6, x7, x8, x9, x10, x11, x12⟩ := X1.n13
  have Xa1 : Blk _ (w.heap.size + 1) 30 #[.int .i64 1, .slice none 0 0, .int .i64 0, .bool false, .int .i64 0, .int .i64 0, .slice none 0 0, .bool false, .int .i64 0, .int .i64 0, .slice none 0 0, .bool false, .int .i64 0] := Blk.setA (k := 1) (y := .slice none 0 0) X1 rfl
  have Xa2 : Blk _ (w.heap.size + 1) 30 #[.int .i64 1, .slice none 0 0, .int .i64 0, .bool false, .int .i64 0, .int .i64 0, .slice none 0 0, .bool false, .int .i64 0, .int .i64 0, .slice none 0 0, .bool false, .int .i64 0] := Blk.setA (k := 2) (y := .int .i64 0) Xa1 rfl
  have Xa3 : Blk _ (w.heap.size + 1) 30 #[.int .i64 1, .slice none 0 0, .int .i64 0, .bool false, .int .i64 0, .int .i64 0, .slice none 0 0, .bool false, .int .i64 0, .int .i64 0, .slice none 0 0, .bool false, .int .i64 0] := Blk.setA (k := 3) (y := .bool false) Xa2 rfl
  have Xa4 : Blk _ (w.heap.size + 1) 30 #[.int .i64 1, .slice none 0 0, .int .i64 0, .bool false, .int .i64 0, .int .i64 0, .slice none 0 0, .bool false, .int .i64 0, .int .i64 0, .slice none 0 0, .bool false, .int .i64 0] := Blk.setA (k := 4) (y := .int .i64 0) Xa3 rfl
  have Xa5 : Blk _ (w.heap.size + 1) 30 #[.int .i64 1, .slice none 0 0, .int .i64 0, .bool false, .int .i64 0, .int .i64 0, .slice none 0 0, .bool false, .int .i64 0, .int .i64 0, .slice none 0 0, .bool false, .int .i64 0] := Blk.setA (k := 5) (y := .int .i64 0) Xa4 rfl
  have X2 := Xa5
  have R2 := (((((R1.setNe (g' := w.heap.size + 1) (j := 1) (y := .slice none 0 0) (by omega)).setNe (g' := w.heap.size + 1) (j := 2) (y := .int .i64 0) (by omega)).setNe (g' := w.heap.size + 1) (j := 3) (y := .bool false) (by omega)).setNe (g' := w.heap.size + 1) (j := 4) (y := .int .i64 0) (by omega)).setNe (g' := w.heap.size + 1) (j := 5) (y := .int .i64 0) (by omega))
  have B2 : Below w.heap.size w _ := (bel_setP (k := 5) (v := .int .i64 0) (bel_setP (k := 4) (v := .int .i64 0) (bel_setP (k := 3) (v := .bool false) (bel_setP (k := 2) (v := .int .i64 0) (bel_setP (k := 1) (v := .slice none 0 0) B1 (Nat.le_succ _)) (Nat.le_succ _)) (Nat.le_succ _)) (Nat.le_succ _)) (Nat.le_succ _))
  have X2' : Blk _ (w.heap.size + 1) 30 #[.int .i64 1, .slice none 0 0, .int .i64 0, .bool false, .int .i64 0, .int .i64 0, .slice none 0 0, .bool false, .int .i64 0, .int .i64 0, .slice none 0 0, .bool false, .int .i64 0] := X2
  clear Xa1 Xa2 Xa3 Xa4 Xa5
  obtain ⟨z0, z1, z2, z3, z4, z5, z6, z7, z8, z9, z10, z11, z12⟩ := X2'.n13
  go_wp2_with fail
  refine (implPortOk_any ⟨1, 0, false, 0, 0, false, 0, 0, false, 0⟩ none none none 0 0 0 0 0 0 [] [] [] _ (ps2_nil _) _ HOKP.out).mono ?_
  rintro e w3 ⟨rfl, b'⟩
  have B3 := bel_next B2 b'
  have X3 := Blk.below X2' b'
  have R3 := Blk.below R2 b'
  have f3 := R3.fro
  clear b'
  clear X1 X2 X2' R1 R2 B1 B2 f1 z0 z1 z2 z3 z4 z5 z6 z7 z8 z9 z10 z11 z12 x0 x1 x2 x3 x4 x5 x6 x7 x8 x9 x10 x11 x12
  obtain ⟨x0, x1, x2, x3, x4, x5, x6, x7, x8, x9, x10, x11, x12⟩ := X3.n13
  obtain ⟨r0, r1, r2, r3, r4, r5, r6, r7, r8, r9, r10, r11, r12⟩ := R3.n13
  obtain ⟨wz, hwz⟩ : ∃ wz, wz = set13 w3 w.heap.size (.int .i64 0) (.slice none 0 0) (.int .i64 0) (.bool false) (.int .i64 0) (.int .i64 0) (.slice none 0 0) (.bool false) (.int .i64 0) (.int .i64 0) (.slice none 0 0) (.bool false) (.int .i64 0) := ⟨_, rfl⟩
  have XZ : Blk wz w.heap.size 30 #[.int .i64 0, .slice none 0 0, .int .i64 0, .bool false, .int .i64 0, .int .i64 0, .slice none 0 0, .bool false, .int .i64 0, .int .i64 0, .slice none 0 0, .bool false, .int .i64 0] := by rw [hwz]; exact R3.set13 _ _ _ _ _ _ _ _ _ _ _ _ _
  have BZ : Below w.heap.size w wz := by rw [hwz]; exact bel_set13 B3 (Nat.le_refl _)
  have HWZ : Hid (wz = (((((((((((((w3.setCell ⟨w.heap.size, 0, none⟩ (.int .i64 0)).setCell ⟨w.heap.size, 1, none⟩ (.slice none 0 0)).setCell ⟨w.heap.size, 2, none⟩ (.int .i64 0)).setCell ⟨w.heap.size, 3, none⟩ (.bool false)).setCell ⟨w.heap.size, 4, none⟩ (.int .i64 0)).setCell ⟨w.heap.size, 5, none⟩ (.int .i64 0)).setCell ⟨w.heap.size, 6, none⟩ (.slice none 0 0)).setCell ⟨w.heap.size, 7, none⟩ (.bool false)).setCell ⟨w.heap.size, 8, none⟩ (.int .i64 0)).setCell ⟨w.heap.size, 9, none⟩ (.int .i64 0)).setCell ⟨w.heap.size, 10, none⟩ (.slice none 0 0)).setCell ⟨w.heap.size, 11, none⟩ (.bool false)).setCell ⟨w.heap.size, 12, none⟩ (.int .i64 0))) := hwz
  clear hwz
  obtain ⟨t0, t1, t2, t3, t4, t5, t6, t7, t8, t9, t10, t11, t12⟩ := XZ.n13
  clear XZ
  go_wp2
  rw [← HWZ.out]
  refine bodyPost_ret (v := pn 0 0 0 0) (by simp [results, Try.results7, go_sem, t0, t1, t2, t3, t4, t5, t6, t7, t8, t9, t10, t11, t12]) rfl ?_
  exact ⟨rfl, BZ⟩

set_option maxRecDepth 20000 in
set_option maxHeartbeats 2000000 in
theorem implPortNew_2y (kd wt : Int) (w : World) (h : 1 ≤ wt ∧ wt ≤ 1000) :
    Calls Try.prog 7 #[.int .i64 2, .int .i64 wt] w fun e w' => e = .returned (pn 2 0 0 wt) ∧ Below w.heap.size w w' := by
  obtain ⟨W0, hW0⟩ : ∃ W0, W0 = (w.alloc (.cells #[.int .i64 0, .slice none 0 0, .int .i64 0, .bool false, .int .i64 0, .int .i64 0, .slice none 0 0, .bool false, .int .i64 0, .int .i64 0, .slice none 0 0, .bool false, .int .i64 0] 30)).alloc (.cells #[.int .i64 2, .slice none 0 0, .int .i64 0, .bool false, .int .i64 0, .int .i64 0, .slice none 0 0, .bool false, .int .i64 0, .int .i64 0, .slice none 0 0, .bool false, .int .i64 0] 30) := ⟨_, rfl⟩
  have B0 : Below w.heap.size w W0 := by rw [hW0]; exact bel_next (bel_alloc _ _) (bel_alloc _ _)
  have R0 : Blk W0 w.heap.size 30 #[.int .i64 0, .slice none 0 0, .int .i64 0, .bool false, .int .i64 0, .int .i64 0, .slice none 0 0, .bool false, .int .i64 0, .int .i64 0, .slice none 0 0, .bool false, .int .i64 0] := by rw [hW0]; exact (Blk.new _ _ _).below (bel_alloc _ _)
  have X0 : Blk W0 (w.heap.size + 1) 30 #[.int .i64 2, .slice none 0 0, .int .i64 0, .bool false, .int .i64 0, .int .i64 0, .slice none 0 0, .bool false, .int .i64 0, .int .i64 0, .slice none 0 0, .bool false, .int .i64 0] := by
    rw [hW0]; have := Blk.new (w.alloc (.cells #[.int .i64 0, .slice none 0 0, .int .i64 0, .bool false, .int .i64 0, .int .i64 0, .slice none 0 0, .bool false, .int .i64 0, .int .i64 0, .slice none 0 0, .bool false, .int .i64 0] 30)) #[.int .i64 2, .slice none 0 0, .int .i64 0, .bool false, .int .i64 0, .int .i64 0, .slice none 0 0, .bool false, .int .i64 0, .int .i64 0, .slice none 0 0, .bool false, .int .i64 0] 30; simpa using this
  have HW0 : Hid (W0 = _) := hW0
  clear hW0
  have hokp : okPi ⟨2, 0, false, 0, 0, false, 0, wt, false, 0⟩ 0 0 0 [] [] = true := by simp [okPi, noR, noS, ctd, okAk]; omega
  have HOKP : Hid (_ = _) := hokp
  clear hokp
  obtain ⟨x0, x1, x2, x3, x4, x5, x6, x7, x8, x9, x10, x11, x12⟩ := X0.n13
  go_enter Try.func7, Try.ntmps7
  go_wp2_with fail
  rw [← HW0.out]
  refine (implAsciiNew_w wt _).mono ?_
  rintro e w1 ⟨he, b'⟩
  rw [if_pos h] at he
  subst he
  have B1 := bel_next B0 b'
  have X1 := X0.below b'
  have R1 := R0.below b'
  have f1 := X1.fro
  clear b' B0 X0 R0 x0 x1 x2 x3 x4 x5 x6 x7 x8 x9 x10 x11 x12
  obtain ⟨x0, x1, x2, x3, x4, x5, x6, x7, x8, x9, x10, x11, x12⟩ := X1.n13
  have Xa6 : Blk _ (w.heap.size + 1) 30 #[.int .i64 2, .slice none 0 0, .int .i64 0, .bool false, .int .i64 0, .int .i64 0, .slice none 0 0, .bool false, .int .i64 0, .int .i64 0, .slice none 0 0, .bool false, .int .i64 0] := Blk.setA (k := 6) (y := .slice none 0 0) X1 rfl
  have Xa7 : Blk _ (w.heap.size + 1) 30 #[.int .i64 2, .slice none 0 0, .int .i64 0, .bool false, .int .i64 0, .int .i64 0, .slice none 0 0, .bool false, .int .i64 0, .int .i64 0, .slice none 0 0, .bool false, .int .i64 0] := Blk.setA (k := 7) (y := .bool false) Xa6 rfl
  have Xa8 : Blk _ (w.heap.size + 1) 30 #[.int .i64 2, .slice none 0 0, .int .i64 0, .bool false, .int .i64 0, .int .i64 0, .slice none 0 0, .bool false, .int .i64 0, .int .i64 0, .slice none 0 0, .bool false, .int .i64 0] := Blk.setA (k := 8) (y := .int .i64 0) Xa7 rfl
  have Xa9 : Blk _ (w.heap.size + 1) 30 #[.int .i64 2, .slice none 0 0, .int .i64 0, .bool false, .int .i64 0, .int .i64 0, .slice none 0 0, .bool false, .int .i64 0, .int .i64 wt, .slice none 0 0, .bool false, .int .i64 0] := Blk.setA (k := 9) (y := .int .i64 wt) Xa8 rfl
  have X2 := Xa9
  have R2 := ((((R1.setNe (g' := w.heap.size + 1) (j := 6) (y := .slice none 0 0) (by omega)).setNe (g' := w.heap.size + 1) (j := 7) (y := .bool false) (by omega)).setNe (g' := w.heap.size + 1) (j := 8) (y := .int .i64 0) (by omega)).setNe (g' := w.heap.size + 1) (j := 9) (y := .int .i64 wt) (by omega))
  have B2 : Below w.heap.size w _ := (bel_setP (k := 9) (v := .int .i64 wt) (bel_setP (k := 8) (v := .int .i64 0) (bel_setP (k := 7) (v := .bool false) (bel_setP (k := 6) (v := .slice none 0 0) B1 (Nat.le_succ _)) (Nat.le_succ _)) (Nat.le_succ _)) (Nat.le_succ _))
  have X2' : Blk _ (w.heap.size + 1) 30 #[.int .i64 2, .slice none 0 0, .int .i64 0, .bool false, .int .i64 0, .int .i64 0, .slice none 0 0, .bool false, .int .i64 0, .int .i64 wt, .slice none 0 0, .bool false, .int .i64 0] := X2
  clear Xa6 Xa7 Xa8 Xa9
  obtain ⟨z0, z1, z2, z3, z4, z5, z6, z7, z8, z9, z10, z11, z12⟩ := X2'.n13
  go_wp2_with fail
  refine (implPortOk_any ⟨2, 0, false, 0, 0, false, 0, wt, false, 0⟩ none none none 0 0 0 0 0 0 [] [] [] _ (ps2_nil _) _ HOKP.out).mono ?_
  rintro e w3 ⟨rfl, b'⟩
  have B3 := bel_next B2 b'
  have X3 := Blk.below X2' b'
  have R3 := Blk.below R2 b'
  have f3 := R3.fro
  clear b'
  clear X1 X2 X2' R1 R2 B1 B2 f1 z0 z1 z2 z3 z4 z5 z6 z7 z8 z9 z10 z11 z12 x0 x1 x2 x3 x4 x5 x6 x7 x8 x9 x10 x11 x12
  obtain ⟨x0, x1, x2, x3, x4, x5, x6, x7, x8, x9, x10, x11, x12⟩ := X3.n13
  obtain ⟨r0, r1, r2, r3, r4, r5, r6, r7, r8, r9, r10, r11, r12⟩ := R3.n13
  obtain ⟨wz, hwz⟩ : ∃ wz, wz = set13 w3 w.heap.size (.int .i64 2) (.slice none 0 0) (.int .i64 0) (.bool false) (.int .i64 0) (.int .i64 0) (.slice none 0 0) (.bool false) (.int .i64 0) (.int .i64 wt) (.slice none 0 0) (.bool false) (.int .i64 0) := ⟨_, rfl⟩
  have XZ : Blk wz w.heap.size 30 #[.int .i64 2, .slice none 0 0, .int .i64 0, .bool false, .int .i64 0, .int .i64 0, .slice none 0 0, .bool false, .int .i64 0, .int .i64 wt, .slice none 0 0, .bool false, .int .i64 0] := by rw [hwz]; exact R3.set13 _ _ _ _ _ _ _ _ _ _ _ _ _
  have BZ : Below w.heap.size w wz := by rw [hwz]; exact bel_set13 B3 (Nat.le_refl _)
  have HWZ : Hid (wz = (((((((((((((w3.setCell ⟨w.heap.size, 0, none⟩ (.int .i64 2)).setCell ⟨w.heap.size, 1, none⟩ (.slice none 0 0)).setCell ⟨w.heap.size, 2, none⟩ (.int .i64 0)).setCell ⟨w.heap.size, 3, none⟩ (.bool false)).setCell ⟨w.heap.size, 4, none⟩ (.int .i64 0)).setCell ⟨w.heap.size, 5, none⟩ (.int .i64 0)).setCell ⟨w.heap.size, 6, none⟩ (.slice none 0 0)).setCell ⟨w.heap.size, 7, none⟩ (.bool false)).setCell ⟨w.heap.size, 8, none⟩ (.int .i64 0)).setCell ⟨w.heap.size, 9, none⟩ (.int .i64 wt)).setCell ⟨w.heap.size, 10, none⟩ (.slice none 0 0)).setCell ⟨w.heap.size, 11, none⟩ (.bool false)).setCell ⟨w.heap.size, 12, none⟩ (.int .i64 0))) := hwz
  clear hwz
  obtain ⟨t0, t1, t2, t3, t4, t5, t6, t7, t8, t9, t10, t11, t12⟩ := XZ.n13
  clear XZ
  go_wp2
  rw [← HWZ.out]
  refine bodyPost_ret (v := pn 2 0 0 wt) (by simp [results, Try.results7, go_sem, t0, t1, t2, t3, t4, t5, t6, t7, t8, t9, t10, t11, t12]) rfl ?_
  exact ⟨rfl, BZ⟩

set_option maxRecDepth 20000 in
set_option maxHeartbeats 2000000 in
theorem implPortNew_2n (kd wt : Int) (w : World) (h : ¬ (1 ≤ wt ∧ wt ≤ 1000)) :
    Calls Try.prog 7 #[.int .i64 2, .int .i64 wt] w fun e w' => e = .returned (pn 0 0 0 0) ∧ Below w.heap.size w w' := by
  obtain ⟨W0, hW0⟩ : ∃ W0, W0 = (w.alloc (.cells #[.int .i64 0, .slice none 0 0, .int .i64 0, .bool false, .int .i64 0, .int .i64 0, .slice none 0 0, .bool false, .int .i64 0, .int .i64 0, .slice none 0 0, .bool false, .int .i64 0] 30)).alloc (.cells #[.int .i64 2, .slice none 0 0, .int .i64 0, .bool false, .int .i64 0, .int .i64 0, .slice none 0 0, .bool false, .int .i64 0, .int .i64 0, .slice none 0 0, .bool false, .int .i64 0] 30) := ⟨_, rfl⟩
  have B0 : Below w.heap.size w W0 := by rw [hW0]; exact bel_next (bel_alloc _ _) (bel_alloc _ _)
  have R0 : Blk W0 w.heap.size 30 #[.int .i64 0, .slice none 0 0, .int .i64 0, .bool false, .int .i64 0, .int .i64 0, .slice none 0 0, .bool false, .int .i64 0, .int .i64 0, .slice none 0 0, .bool false, .int .i64 0] := by rw [hW0]; exact (Blk.new _ _ _).below (bel_alloc _ _)
  have X0 : Blk W0 (w.heap.size + 1) 30 #[.int .i64 2, .slice none 0 0, .int .i64 0, .bool false, .int .i64 0, .int .i64 0, .slice none 0 0, .bool false, .int .i64 0, .int .i64 0, .slice none 0 0, .bool false, .int .i64 0] := by
    rw [hW0]; have := Blk.new (w.alloc (.cells #[.int .i64 0, .slice none 0 0, .int .i64 0, .bool false, .int .i64 0, .int .i64 0, .slice none 0 0, .bool false, .int .i64 0, .int .i64 0, .slice none 0 0, .bool false, .int .i64 0] 30)) #[.int .i64 2, .slice none 0 0, .int .i64 0, .bool false, .int .i64 0, .int .i64 0, .slice none 0 0, .bool false, .int .i64 0, .int .i64 0, .slice none 0 0, .bool false, .int .i64 0] 30; simpa using this
  have HW0 : Hid (W0 = _) := hW0
  clear hW0
  have hokp : okPi ⟨2, 0, false, 0, 0, false, 0, 0, false, 0⟩ 0 0 0 [] [] = false := by simp [okPi, noR, noS, ctd, okAk]
  have HOKP : Hid (_ = _) := hokp
  clear hokp
  obtain ⟨x0, x1, x2, x3, x4, x5, x6, x7, x8, x9, x10, x11, x12⟩ := X0.n13
  go_enter Try.func7, Try.ntmps7
  go_wp2_with fail
  rw [← HW0.out]
  refine (implAsciiNew_w wt _).mono ?_
  rintro e w1 ⟨he, b'⟩
  rw [if_neg h] at he
  subst he
  have B1 := bel_next B0 b'
  have X1 := X0.below b'
  have R1 := R0.below b'
  have f1 := X1.fro
  clear b' B0 X0 R0 x0 x1 x2 x3 x4 x5 x6 x7 x8 x9 x10 x11 x12
  obtain ⟨x0, x1, x2, x3, x4, x5, x6, x7, x8, x9, x10, x11, x12⟩ := X1.n13
  have Xa6 : Blk _ (w.heap.size + 1) 30 #[.int .i64 2, .slice none 0 0, .int .i64 0, .bool false, .int .i64 0, .int .i64 0, .slice none 0 0, .bool false, .int .i64 0, .int .i64 0, .slice none 0 0, .bool false, .int .i64 0] := Blk.setA (k := 6) (y := .slice none 0 0) X1 rfl
  have Xa7 : Blk _ (w.heap.size + 1) 30 #[.int .i64 2, .slice none 0 0, .int .i64 0, .bool false, .int .i64 0, .int .i64 0, .slice none 0 0, .bool false, .int .i64 0, .int .i64 0, .slice none 0 0, .bool false, .int .i64 0] := Blk.setA (k := 7) (y := .bool false) Xa6 rfl
  have Xa8 : Blk _ (w.heap.size + 1) 30 #[.int .i64 2, .slice none 0 0, .int .i64 0, .bool false, .int .i64 0, .int .i64 0, .slice none 0 0, .bool false, .int .i64 0, .int .i64 0, .slice none 0 0, .bool false, .int .i64 0] := Blk.setA (k := 8) (y := .int .i64 0) Xa7 rfl
  have Xa9 : Blk _ (w.heap.size + 1) 30 #[.int .i64 2, .slice none 0 0, .int .i64 0, .bool false, .int .i64 0, .int .i64 0, .slice none 0 0, .bool false, .int .i64 0, .int .i64 0, .slice none 0 0, .bool false, .int .i64 0] := Blk.setA (k := 9) (y := .int .i64 0) Xa8 rfl
  have X2 := Xa9
  have R2 := ((((R1.setNe (g' := w.heap.size + 1) (j := 6) (y := .slice none 0 0) (by omega)).setNe (g' := w.heap.size + 1) (j := 7) (y := .bool false) (by omega)).setNe (g' := w.heap.size + 1) (j := 8) (y := .int .i64 0) (by omega)).setNe (g' := w.heap.size + 1) (j := 9) (y := .int .i64 0) (by omega))
  have B2 : Below w.heap.size w _ := (bel_setP (k := 9) (v := .int .i64 0) (bel_setP (k := 8) (v := .int .i64 0) (bel_setP (k := 7) (v := .bool false) (bel_setP (k := 6) (v := .slice none 0 0) B1 (Nat.le_succ _)) (Nat.le_succ _)) (Nat.le_succ _)) (Nat.le_succ _))
  have X2' : Blk _ (w.heap.size + 1) 30 #[.int .i64 2, .slice none 0 0, .int .i64 0, .bool false, .int .i64 0, .int .i64 0, .slice none 0 0, .bool false, .int .i64 0, .int .i64 0, .slice none 0 0, .bool false, .int .i64 0] := X2
  clear Xa6 Xa7 Xa8 Xa9
  obtain ⟨z0, z1, z2, z3, z4, z5, z6, z7, z8, z9, z10, z11, z12⟩ := X2'.n13
  go_wp2_with fail
  refine (implPortOk_any ⟨2, 0, false, 0, 0, false, 0, 0, false, 0⟩ none none none 0 0 0 0 0 0 [] [] [] _ (ps2_nil _) _ HOKP.out).mono ?_
  rintro e w3 ⟨rfl, b'⟩
  have B3 := bel_next B2 b'
  have X3 := Blk.below X2' b'
  have R3 := Blk.below R2 b'
  have f3 := R3.fro
  clear b'
  clear X1 X2 X2' R1 R2 B1 B2 f1 z0 z1 z2 z3 z4 z5 z6 z7 z8 z9 z10 z11 z12 x0 x1 x2 x3 x4 x5 x6 x7 x8 x9 x10 x11 x12
  obtain ⟨x0, x1, x2, x3, x4, x5, x6, x7, x8, x9, x10, x11, x12⟩ := X3.n13
  obtain ⟨r0, r1, r2, r3, r4, r5, r6, r7, r8, r9, r10, r11, r12⟩ := R3.n13
  obtain ⟨wz, hwz⟩ : ∃ wz, wz = set13 w3 w.heap.size (.int .i64 0) (.slice none 0 0) (.int .i64 0) (.bool false) (.int .i64 0) (.int .i64 0) (.slice none 0 0) (.bool false) (.int .i64 0) (.int .i64 0) (.slice none 0 0) (.bool false) (.int .i64 0) := ⟨_, rfl⟩
  have XZ : Blk wz w.heap.size 30 #[.int .i64 0, .slice none 0 0, .int .i64 0, .bool false, .int .i64 0, .int .i64 0, .slice none 0 0, .bool false, .int .i64 0, .int .i64 0, .slice none 0 0, .bool false, .int .i64 0] := by rw [hwz]; exact R3.set13 _ _ _ _ _ _ _ _ _ _ _ _ _
  have BZ : Below w.heap.size w wz := by rw [hwz]; exact bel_set13 B3 (Nat.le_refl _)
  have HWZ : Hid (wz = (((((((((((((w3.setCell ⟨w.heap.size, 0, none⟩ (.int .i64 0)).setCell ⟨w.heap.size, 1, none⟩ (.slice none 0 0)).setCell ⟨w.heap.size, 2, none⟩ (.int .i64 0)).setCell ⟨w.heap.size, 3, none⟩ (.bool false)).setCell ⟨w.heap.size, 4, none⟩ (.int .i64 0)).setCell ⟨w.heap.size, 5, none⟩ (.int .i64 0)).setCell ⟨w.heap.size, 6, none⟩ (.slice none 0 0)).setCell ⟨w.heap.size, 7, none⟩ (.bool false)).setCell ⟨w.heap.size, 8, none⟩ (.int .i64 0)).setCell ⟨w.heap.size, 9, none⟩ (.int .i64 0)).setCell ⟨w.heap.size, 10, none⟩ (.slice none 0 0)).setCell ⟨w.heap.size, 11, none⟩ (.bool false)).setCell ⟨w.heap.size, 12, none⟩ (.int .i64 0))) := hwz
  clear hwz
  obtain ⟨t0, t1, t2, t3, t4, t5, t6, t7, t8, t9, t10, t11, t12⟩ := XZ.n13
  clear XZ
  go_wp2
  rw [← HWZ.out]
  refine bodyPost_ret (v := pn 0 0 0 0) (by simp [results, Try.results7, go_sem, t0, t1, t2, t3, t4, t5, t6, t7, t8, t9, t10, t11, t12]) rfl ?_
  exact ⟨rfl, BZ⟩

set_option maxRecDepth 20000 in
set_option maxHeartbeats 2000000 in
theorem implPortNew_3 (kd wt : Int) (w : World)  :
    Calls Try.prog 7 #[.int .i64 3, .int .i64 wt] w fun e w' => e = .returned (pn 3 0 0 0) ∧ Below w.heap.size w w' := by
  obtain ⟨W0, hW0⟩ : ∃ W0, W0 = (w.alloc (.cells #[.int .i64 0, .slice none 0 0, .int .i64 0, .bool false, .int .i64 0, .int .i64 0, .slice none 0 0, .bool false, .int .i64 0, .int .i64 0, .slice none 0 0, .bool false, .int .i64 0] 30)).alloc (.cells #[.int .i64 3, .slice none 0 0, .int .i64 0, .bool false, .int .i64 0, .int .i64 0, .slice none 0 0, .bool false, .int .i64 0, .int .i64 0, .slice none 0 0, .bool false, .int .i64 0] 30) := ⟨_, rfl⟩
  have B0 : Below w.heap.size w W0 := by rw [hW0]; exact bel_next (bel_alloc _ _) (bel_alloc _ _)
  have R0 : Blk W0 w.heap.size 30 #[.int .i64 0, .slice none 0 0, .int .i64 0, .bool false, .int .i64 0, .int .i64 0, .slice none 0 0, .bool false, .int .i64 0, .int .i64 0, .slice none 0 0, .bool false, .int .i64 0] := by rw [hW0]; exact (Blk.new _ _ _).below (bel_alloc _ _)
  have X0 : Blk W0 (w.heap.size + 1) 30 #[.int .i64 3, .slice none 0 0, .int .i64 0, .bool false, .int .i64 0, .int .i64 0, .slice none 0 0, .bool false, .int .i64 0, .int .i64 0, .slice none 0 0, .bool false, .int .i64 0] := by
    rw [hW0]; have := Blk.new (w.alloc (.cells #[.int .i64 0, .slice none 0 0, .int .i64 0, .bool false, .int .i64 0, .int .i64 0, .slice none 0 0, .bool false, .int .i64 0, .int .i64 0, .slice none 0 0, .bool false, .int .i64 0] 30)) #[.int .i64 3, .slice none 0 0, .int .i64 0, .bool false, .int .i64 0, .int .i64 0, .slice none 0 0, .bool false, .int .i64 0, .int .i64 0, .slice none 0 0, .bool false, .int .i64 0] 30; simpa using this
  have HW0 : Hid (W0 = _) := hW0
  clear hW0
  have hokp : okPi ⟨3, 0, false, 0, 0, false, 0, 0, false, 0⟩ 0 0 0 [] [] = true := by simp [okPi, noR, noA, ctd, okSt]; decide
  have HOKP : Hid (_ = _) := hokp
  clear hokp
  obtain ⟨x0, x1, x2, x3, x4, x5, x6, x7, x8, x9, x10, x11, x12⟩ := X0.n13
  go_enter Try.func7, Try.ntmps7
  go_wp2_with fail
  rw [← HW0.out]
  refine (implPortOk_any ⟨3, 0, false, 0, 0, false, 0, 0, false, 0⟩ none none none 0 0 0 0 0 0 [] [] [] _ (ps2_nil _) _ HOKP.out).mono ?_
  rintro e w3 ⟨rfl, b'⟩
  have B3 := bel_next B0 b'
  have X3 := Blk.below X0 b'
  have R3 := Blk.below R0 b'
  have f3 := R3.fro
  clear b'
  clear B0 X0 R0 x0 x1 x2 x3 x4 x5 x6 x7 x8 x9 x10 x11 x12
  obtain ⟨x0, x1, x2, x3, x4, x5, x6, x7, x8, x9, x10, x11, x12⟩ := X3.n13
  obtain ⟨r0, r1, r2, r3, r4, r5, r6, r7, r8, r9, r10, r11, r12⟩ := R3.n13
  obtain ⟨wz, hwz⟩ : ∃ wz, wz = set13 w3 w.heap.size (.int .i64 3) (.slice none 0 0) (.int .i64 0) (.bool false) (.int .i64 0) (.int .i64 0) (.slice none 0 0) (.bool false) (.int .i64 0) (.int .i64 0) (.slice none 0 0) (.bool false) (.int .i64 0) := ⟨_, rfl⟩
  have XZ : Blk wz w.heap.size 30 #[.int .i64 3, .slice none 0 0, .int .i64 0, .bool false, .int .i64 0, .int .i64 0, .slice none 0 0, .bool false, .int .i64 0, .int .i64 0, .slice none 0 0, .bool false, .int .i64 0] := by rw [hwz]; exact R3.set13 _ _ _ _ _ _ _ _ _ _ _ _ _
  have BZ : Below w.heap.size w wz := by rw [hwz]; exact bel_set13 B3 (Nat.le_refl _)
  have HWZ : Hid (wz = (((((((((((((w3.setCell ⟨w.heap.size, 0, none⟩ (.int .i64 3)).setCell ⟨w.heap.size, 1, none⟩ (.slice none 0 0)).setCell ⟨w.heap.size, 2, none⟩ (.int .i64 0)).setCell ⟨w.heap.size, 3, none⟩ (.bool false)).setCell ⟨w.heap.size, 4, none⟩ (.int .i64 0)).setCell ⟨w.heap.size, 5, none⟩ (.int .i64 0)).setCell ⟨w.heap.size, 6, none⟩ (.slice none 0 0)).setCell ⟨w.heap.size, 7, none⟩ (.bool false)).setCell ⟨w.heap.size, 8, none⟩ (.int .i64 0)).setCell ⟨w.heap.size, 9, none⟩ (.int .i64 0)).setCell ⟨w.heap.size, 10, none⟩ (.slice none 0 0)).setCell ⟨w.heap.size, 11, none⟩ (.bool false)).setCell ⟨w.heap.size, 12, none⟩ (.int .i64 0))) := hwz
  clear hwz
  obtain ⟨t0, t1, t2, t3, t4, t5, t6, t7, t8, t9, t10, t11, t12⟩ := XZ.n13
  clear XZ
  go_wp2
  rw [← HWZ.out]
  refine bodyPost_ret (v := pn 3 0 0 0) (by simp [results, Try.results7, go_sem, t0, t1, t2, t3, t4, t5, t6, t7, t8, t9, t10, t11, t12]) rfl ?_
  exact ⟨rfl, BZ⟩

set_option maxRecDepth 20000 in
set_option maxHeartbeats 2000000 in
theorem implPortNew_0 (kd wt : Int) (w : World) (h1 : ¬ kd = 1) (h2 : ¬ kd = 2) (h3 : ¬ kd = 3) :
    Calls Try.prog 7 #[.int .i64 kd, .int .i64 wt] w fun e w' => e = .returned (pn 0 0 0 0) ∧ Below w.heap.size w w' := by
  obtain ⟨W0, hW0⟩ : ∃ W0, W0 = (w.alloc (.cells #[.int .i64 0, .slice none 0 0, .int .i64 0, .bool false, .int .i64 0, .int .i64 0, .slice none 0 0, .bool false, .int .i64 0, .int .i64 0, .slice none 0 0, .bool false, .int .i64 0] 30)).alloc (.cells #[.int .i64 kd, .slice none 0 0, .int .i64 0, .bool false, .int .i64 0, .int .i64 0, .slice none 0 0, .bool false, .int .i64 0, .int .i64 0, .slice none 0 0, .bool false, .int .i64 0] 30) := ⟨_, rfl⟩
  have B0 : Below w.heap.size w W0 := by rw [hW0]; exact bel_next (bel_alloc _ _) (bel_alloc _ _)
  have R0 : Blk W0 w.heap.size 30 #[.int .i64 0, .slice none 0 0, .int .i64 0, .bool false, .int .i64 0, .int .i64 0, .slice none 0 0, .bool false, .int .i64 0, .int .i64 0, .slice none 0 0, .bool false, .int .i64 0] := by rw [hW0]; exact (Blk.new _ _ _).below (bel_alloc _ _)
  have X0 : Blk W0 (w.heap.size + 1) 30 #[.int .i64 kd, .slice none 0 0, .int .i64 0, .bool false, .int .i64 0, .int .i64 0, .slice none 0 0, .bool false, .int .i64 0, .int .i64 0, .slice none 0 0, .bool false, .int .i64 0] := by
    rw [hW0]; have := Blk.new (w.alloc (.cells #[.int .i64 0, .slice none 0 0, .int .i64 0, .bool false, .int .i64 0, .int .i64 0, .slice none 0 0, .bool false, .int .i64 0, .int .i64 0, .slice none 0 0, .bool false, .int .i64 0] 30)) #[.int .i64 kd, .slice none 0 0, .int .i64 0, .bool false, .int .i64 0, .int .i64 0, .slice none 0 0, .bool false, .int .i64 0, .int .i64 0, .slice none 0 0, .bool false, .int .i64 0] 30; simpa using this
  have HW0 : Hid (W0 = _) := hW0
  clear hW0
  have hokp : okPi ⟨kd, 0, false, 0, 0, false, 0, 0, false, 0⟩ 0 0 0 [] [] = false := by simp [okPi, h1, h2, h3]
  have HOKP : Hid (_ = _) := hokp
  clear hokp
  obtain ⟨x0, x1, x2, x3, x4, x5, x6, x7, x8, x9, x10, x11, x12⟩ := X0.n13
  go_enter Try.func7, Try.ntmps7
  go_wp2_with fail
  rw [← HW0.out]
  refine (implPortOk_any ⟨kd, 0, false, 0, 0, false, 0, 0, false, 0⟩ none none none 0 0 0 0 0 0 [] [] [] _ (ps2_nil _) _ HOKP.out).mono ?_
  rintro e w3 ⟨rfl, b'⟩
  have B3 := bel_next B0 b'
  have X3 := Blk.below X0 b'
  have R3 := Blk.below R0 b'
  have f3 := R3.fro
  clear b'
  clear B0 X0 R0 x0 x1 x2 x3 x4 x5 x6 x7 x8 x9 x10 x11 x12
  obtain ⟨x0, x1, x2, x3, x4, x5, x6, x7, x8, x9, x10, x11, x12⟩ := X3.n13
  obtain ⟨r0, r1, r2, r3, r4, r5, r6, r7, r8, r9, r10, r11, r12⟩ := R3.n13
  obtain ⟨wz, hwz⟩ : ∃ wz, wz = set13 w3 w.heap.size (.int .i64 0) (.slice none 0 0) (.int .i64 0) (.bool false) (.int .i64 0) (.int .i64 0) (.slice none 0 0) (.bool false) (.int .i64 0) (.int .i64 0) (.slice none 0 0) (.bool false) (.int .i64 0) := ⟨_, rfl⟩
  have XZ : Blk wz w.heap.size 30 #[.int .i64 0, .slice none 0 0, .int .i64 0, .bool false, .int .i64 0, .int .i64 0, .slice none 0 0, .bool false, .int .i64 0, .int .i64 0, .slice none 0 0, .bool false, .int .i64 0] := by rw [hwz]; exact R3.set13 _ _ _ _ _ _ _ _ _ _ _ _ _
  have BZ : Below w.heap.size w wz := by rw [hwz]; exact bel_set13 B3 (Nat.le_refl _)
  have HWZ : Hid (wz = (((((((((((((w3.setCell ⟨w.heap.size, 0, none⟩ (.int .i64 0)).setCell ⟨w.heap.size, 1, none⟩ (.slice none 0 0)).setCell ⟨w.heap.size, 2, none⟩ (.int .i64 0)).setCell ⟨w.heap.size, 3, none⟩ (.bool false)).setCell ⟨w.heap.size, 4, none⟩ (.int .i64 0)).setCell ⟨w.heap.size, 5, none⟩ (.int .i64 0)).setCell ⟨w.heap.size, 6, none⟩ (.slice none 0 0)).setCell ⟨w.heap.size, 7, none⟩ (.bool false)).setCell ⟨w.heap.size, 8, none⟩ (.int .i64 0)).setCell ⟨w.heap.size, 9, none⟩ (.int .i64 0)).setCell ⟨w.heap.size, 10, none⟩ (.slice none 0 0)).setCell ⟨w.heap.size, 11, none⟩ (.bool false)).setCell ⟨w.heap.size, 12, none⟩ (.int .i64 0))) := hwz
  clear hwz
  obtain ⟨t0, t1, t2, t3, t4, t5, t6, t7, t8, t9, t10, t11, t12⟩ := XZ.n13
  clear XZ
  go_wp2
  rw [← HWZ.out]
  refine bodyPost_ret (v := pn 0 0 0 0) (by simp [results, Try.results7, go_sem, t0, t1, t2, t3, t4, t5, t6, t7, t8, t9, t10, t11, t12]) rfl ?_
  exact ⟨rfl, BZ⟩

end Go.Proofs.Ytimgohnnapaafaa
