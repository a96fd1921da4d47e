/- The law of FnExactDeviceNew, walked. -/
import Derived.Test.YtjfnghobnlpemaaDev3
import Derived.Test.YtjfnghobnlpemaaDev4
namespace Go.Proofs.Ytjfnghobnlpemaa
open Go.RowKit

set_option linter.unusedVariables false

set_option maxRecDepth 20000 in
set_option maxHeartbeats 16000000 in
theorem deviceNew_law (n : Int) (m : Nat) (hm : dnN n = m) (w : World) :
    Calls Try.prog 9 #[.int .i64 n] w fun e w' => e = .returned (.bool true) ∧ Below w.heap.size w w' := by
  have hml : m ≤ 64 := by rw [← hm]; unfold dnN; split <;> omega
  have HM : Hid (dnN n = m) := hm
  have HL : Hid (SmD 2000000 (List.replicate m false) (List.replicate m false) (List.replicate m (0 : Int)) (List.replicate m (0 : Int))) := by simp [SmD, Hid]; omega
  clear hm
  obtain ⟨w0, hw0⟩ : ∃ x, x = w := ⟨_, rfl⟩
  have b0 : Below w.heap.size w w0 := by rw [hw0]; exact Below.refl _ _
  go_enter Try.func9, Try.ntmps9
  have HW0 : Hid (w0 = w) := hw0
  rw [← hw0]
  clear hw0
  go_wp2_with fail
  refine (specNew_any n m HM.out _).mono ?_
  rintro e w1 ⟨a1s, a2s, a3s, a4s, l1s, l2s, l3s, l4s, c1s, c2s, c3s, c4s, rfl, q', b'⟩
  have HEs : Hid (LnD l1s l2s l3s l4s (List.replicate m false) (List.replicate m false) (List.replicate m (0 : Int)) (List.replicate m (0 : Int)) ∧ l1s ≤ 2000000 ∧ l2s ≤ 2000000 ∧ l3s ≤ 2000000 ∧ l4s ≤ 2000000) := by obtain ⟨e1, e2, e3, e4⟩ := q'.sl.1; simp at e1 e2 e3 e4; exact ⟨q'.sl.1, by omega, by omega, by omega, by omega⟩
  have HRs : Hid (∀ g, Of4 (.slice a1s l1s c1s) (.slice a2s l2s c2s) (.slice a3s l3s c3s) (.slice a4s l4s c4s) g → w0.heap.size ≤ g ∧ g < w1.heap.size) := q'.of4
  have HZs : Hid (w.heap.size ≤ w0.heap.size) := b0.size
  have b1 := bel_next b0 b'
  clear b' b0 
  have I1 := q'
  clear q'
  have b' := bel_alloc w1 (.cells #[.slice a1s l1s c1s, .slice a2s l2s c2s, .slice a3s l3s c3s, .slice a4s l4s c4s] 36)
  have Q' := Blk.new w1 #[.slice a1s l1s c1s, .slice a2s l2s c2s, .slice a3s l3s c3s, .slice a4s l4s c4s] 36
  obtain ⟨w2, hw2⟩ : ∃ x, x = w1.alloc (.cells #[.slice a1s l1s c1s, .slice a2s l2s c2s, .slice a3s l3s c3s, .slice a4s l4s c4s] 36) := ⟨_, rfl⟩
  rw [← hw2] at b' Q'
  have HW2 : Hid (w2 = _) := hw2
  obtain ⟨BX, hBX⟩ : ∃ x, x = w1.heap.size := ⟨_, rfl⟩
  rw [← hBX] at Q'
  have HBX : Hid (BX = w1.heap.size) := hBX
  clear hw2 hBX
  have b2 := bel_next b1 b'
  have I2 := I1.below b'
  clear b' b1 I1 
  have X2 := Q'
  clear Q'
  obtain ⟨x0, x1, x2, x3⟩ := X2.four
  go_upto_region 2 with fail
  rw [← HW2.out]
  simp only [← HBX.out]
  go_wp2_with fail
  refine (implNew_any n m HM.out _).mono ?_
  rintro e w3 ⟨a1i, a2i, a3i, a4i, l1i, l2i, l3i, l4i, c1i, c2i, c3i, c4i, rfl, q', b'⟩
  have HEi : Hid (LnD l1i l2i l3i l4i (List.replicate m false) (List.replicate m false) (List.replicate m (0 : Int)) (List.replicate m (0 : Int)) ∧ l1i ≤ 2000000 ∧ l2i ≤ 2000000 ∧ l3i ≤ 2000000 ∧ l4i ≤ 2000000) := by obtain ⟨e1, e2, e3, e4⟩ := q'.sl.1; simp at e1 e2 e3 e4; exact ⟨q'.sl.1, by omega, by omega, by omega, by omega⟩
  have HRi : Hid (∀ g, Of4 (.slice a1i l1i c1i) (.slice a2i l2i c2i) (.slice a3i l3i c3i) (.slice a4i l4i c4i) g → w2.heap.size ≤ g ∧ g < w3.heap.size) := q'.of4
  have HZi : Hid (w.heap.size ≤ w2.heap.size) := b2.size
  have b3 := bel_next b2 b'
  have I3 := I2.below b'
  have X3 := X2.below b'
  clear b' b2 I2 X2 x0 x1 x2 x3 
  obtain ⟨x0, x1, x2, x3⟩ := X3.four
  have J3 := q'
  clear q'
  have HO : Hid (∀ g, Of4 (.slice a1s l1s c1s) (.slice a2s l2s c2s) (.slice a3s l3s c3s) (.slice a4s l4s c4s) g → ¬ Of4 (.slice a1i l1i c1i) (.slice a2i l2i c2i) (.slice a3i l3i c3i) (.slice a4i l4i c4i) g) := by
    intro g h1 h2
    have q1 := (HRs.out g h1).2
    have q2 := (HRi.out g h2).1
    have q3 : w1.heap.size ≤ w2.heap.size := by have := HW2.out; rw [this]; simp
    omega
  have b' := bel_alloc w3 (.cells #[.slice a1i l1i c1i, .slice a2i l2i c2i, .slice a3i l3i c3i, .slice a4i l4i c4i] 36)
  have Q' := Blk.new w3 #[.slice a1i l1i c1i, .slice a2i l2i c2i, .slice a3i l3i c3i, .slice a4i l4i c4i] 36
  obtain ⟨w4, hw4⟩ : ∃ x, x = w3.alloc (.cells #[.slice a1i l1i c1i, .slice a2i l2i c2i, .slice a3i l3i c3i, .slice a4i l4i c4i] 36) := ⟨_, rfl⟩
  rw [← hw4] at b' Q'
  have HW4 : Hid (w4 = _) := hw4
  obtain ⟨BY, hBY⟩ : ∃ x, x = w3.heap.size := ⟨_, rfl⟩
  rw [← hBY] at Q'
  have HBY : Hid (BY = w3.heap.size) := hBY
  clear hw4 hBY
  have b4 := bel_next b3 b'
  have I4 := I3.below b'
  have J4 := J3.below b'
  have X4 := X3.below b'
  clear b' b3 I3 J3 X3 x0 x1 x2 x3 
  obtain ⟨x0, x1, x2, x3⟩ := X4.four
  have Y4 := Q'
  clear Q'
  obtain ⟨y0, y1, y2, y3⟩ := Y4.four
  go_upto_region 3 with fail
  rw [← HW4.out]
  simp only [← HBY.out]
  go_wp2_with fail
  refine (eqDevice_true a1i a2i a3i a4i l1i l2i l3i l4i c1i c2i c3i c4i a1s a2s a3s a4s l1s l2s l3s l4s c1s c2s c3s c4s _ _ _ _ _ HEi.out.1 HEs.out.1 J4.sl.2 I4.sl.2 HL.out).mono ?_
  rintro e w5 ⟨rfl, b'⟩
  have b5 := bel_next b4 b'
  have I5 := I4.below b'
  have J5 := J4.below b'
  have X5 := X4.below b'
  have Y5 := Y4.below b'
  clear b' b4 I4 J4 X4 x0 x1 x2 x3 Y4 y0 y1 y2 y3 
  obtain ⟨x0, x1, x2, x3⟩ := X5.four
  obtain ⟨y0, y1, y2, y3⟩ := Y5.four
  go_wp2_with fail
  refine (markDevice_s a1i a2i a3i a4i l1i l2i l3i l4i c1i c2i c3i c4i 1 _ _ _ _ _ _ _ rfl J5.1 J5.2.1 J5.2.2.1 J5.2.2.2.1 J5.2.2.2.2.1 J5.2.2.2.2.2 HEi.out.2.1 HEi.out.2.2.1 HEi.out.2.2.2.1 HEi.out.2.2.2.2 (by omega)).mono ?_
  rintro e w6 ⟨rfl, ⟨m1, m2, m3, m4⟩, ch⟩
  have I6 := I5.chg ch HO.out
  have HK : Hid (SlB w6 a1i _ ∧ SlB w6 a2i _ ∧ SlI w6 a3i _ ∧ SlI w6 a4i _) := ⟨m1.sl.2, m2.sl.2, m3.sl.2, m4.sl.2⟩
  have X6 := X5.chg ch (J5.noBlk X5 (by decide) (by decide))
  have Y6 := Y5.chg ch (J5.noBlk Y5 (by decide) (by decide))
  have b6 := Chg.below b5 ch (fun g hg => by have := (HRi.out g hg).1; have := HZi.out; omega) b5.size
  clear m1 m2 m3 m4 ch I5 J5 X5 Y5 b5 x0 x1 x2 x3 y0 y1 y2 y3
  obtain ⟨x0, x1, x2, x3⟩ := X6.four
  obtain ⟨y0, y1, y2, y3⟩ := Y6.four
  have f2 : ¬ (((1 : Nat) : Int) + (l1i : Int) + (l2i : Int) + (l3i : Int) + (l4i : Int) < 0) := by omega
  go_wp2_with fail
  refine (heldDevice_s a1i a2i a3i a4i l1i l2i l3i l4i c1i c2i c3i c4i 1 _ _ rfl HK.out.1 HK.out.2.1 HK.out.2.2.1 HK.out.2.2.2 HEi.out.2.1 HEi.out.2.2.1 HEi.out.2.2.2.1 HEi.out.2.2.2.2 (by omega)).mono ?_
  rintro e w7 ⟨rfl, b'⟩
  have HK' : Hid (SlB w7 a1i _ ∧ SlB w7 a2i _ ∧ SlI w7 a3i _ ∧ SlI w7 a4i _) := ⟨HK.out.1.below b', HK.out.2.1.below b', HK.out.2.2.1.below b', HK.out.2.2.2.below b'⟩
  clear HK
  have HK := HK'
  clear HK'
  have b7 := bel_next b6 b'
  have I7 := I6.below b'
  have X7 := X6.below b'
  have Y7 := Y6.below b'
  clear b' b6 I6 X6 x0 x1 x2 x3 Y6 y0 y1 y2 y3 
  obtain ⟨x0, x1, x2, x3⟩ := X7.four
  obtain ⟨y0, y1, y2, y3⟩ := Y7.four
  go_wp2_with fail
  refine (implNew_any n m HM.out _).mono ?_
  rintro e w8 ⟨a1h, a2h, a3h, a4h, l1h, l2h, l3h, l4h, c1h, c2h, c3h, c4h, rfl, q', b'⟩
  have HEh : Hid (LnD l1h l2h l3h l4h (List.replicate m false) (List.replicate m false) (List.replicate m (0 : Int)) (List.replicate m (0 : Int)) ∧ l1h ≤ 2000000 ∧ l2h ≤ 2000000 ∧ l3h ≤ 2000000 ∧ l4h ≤ 2000000) := by obtain ⟨e1, e2, e3, e4⟩ := q'.sl.1; simp at e1 e2 e3 e4; exact ⟨q'.sl.1, by omega, by omega, by omega, by omega⟩
  have HRh : Hid (∀ g, Of4 (.slice a1h l1h c1h) (.slice a2h l2h c2h) (.slice a3h l3h c3h) (.slice a4h l4h c4h) g → w7.heap.size ≤ g ∧ g < w8.heap.size) := q'.of4
  have HZh : Hid (w.heap.size ≤ w7.heap.size) := b7.size
  have HK' : Hid (SlB w8 a1i _ ∧ SlB w8 a2i _ ∧ SlI w8 a3i _ ∧ SlI w8 a4i _) := ⟨HK.out.1.below b', HK.out.2.1.below b', HK.out.2.2.1.below b', HK.out.2.2.2.below b'⟩
  clear HK
  have HK := HK'
  clear HK'
  have b8 := bel_next b7 b'
  have I8 := I7.below b'
  have X8 := X7.below b'
  have Y8 := Y7.below b'
  clear b' b7 I7 X7 x0 x1 x2 x3 Y7 y0 y1 y2 y3 
  obtain ⟨x0, x1, x2, x3⟩ := X8.four
  obtain ⟨y0, y1, y2, y3⟩ := Y8.four
  have V8 := q'
  clear q'
  have b' := bel_alloc w8 (.cells #[.slice a1h l1h c1h, .slice a2h l2h c2h, .slice a3h l3h c3h, .slice a4h l4h c4h] 36)
  have Q' := Blk.new w8 #[.slice a1h l1h c1h, .slice a2h l2h c2h, .slice a3h l3h c3h, .slice a4h l4h c4h] 36
  obtain ⟨w9, hw9⟩ : ∃ x, x = w8.alloc (.cells #[.slice a1h l1h c1h, .slice a2h l2h c2h, .slice a3h l3h c3h, .slice a4h l4h c4h] 36) := ⟨_, rfl⟩
  rw [← hw9] at b' Q'
  have HW9 : Hid (w9 = _) := hw9
  obtain ⟨BZ, hBZ⟩ : ∃ x, x = w8.heap.size := ⟨_, rfl⟩
  rw [← hBZ] at Q'
  have HBZ : Hid (BZ = w8.heap.size) := hBZ
  clear hw9 hBZ
  have HK' : Hid (SlB w9 a1i _ ∧ SlB w9 a2i _ ∧ SlI w9 a3i _ ∧ SlI w9 a4i _) := ⟨HK.out.1.below b', HK.out.2.1.below b', HK.out.2.2.1.below b', HK.out.2.2.2.below b'⟩
  clear HK
  have HK := HK'
  clear HK'
  have b9 := bel_next b8 b'
  have I9 := I8.below b'
  have V9 := V8.below b'
  have X9 := X8.below b'
  have Y9 := Y8.below b'
  clear b' b8 I8 V8 X8 x0 x1 x2 x3 Y8 y0 y1 y2 y3 
  obtain ⟨x0, x1, x2, x3⟩ := X9.four
  obtain ⟨y0, y1, y2, y3⟩ := Y9.four
  have Z9 := Q'
  clear Q'
  obtain ⟨z0, z1, z2, z3⟩ := Z9.four
  go_upto_region 14 with fail
  rw [← HW9.out]
  simp only [← HBZ.out]
  go_wp2_with fail
  refine (eqDevice_true a1h a2h a3h a4h l1h l2h l3h l4h c1h c2h c3h c4h a1s a2s a3s a4s l1s l2s l3s l4s c1s c2s c3s c4s _ _ _ _ _ HEh.out.1 HEs.out.1 V9.sl.2 I9.sl.2 HL.out).mono ?_
  rintro e w10 ⟨rfl, b'⟩
  have HK' : Hid (SlB w10 a1i _ ∧ SlB w10 a2i _ ∧ SlI w10 a3i _ ∧ SlI w10 a4i _) := ⟨HK.out.1.below b', HK.out.2.1.below b', HK.out.2.2.1.below b', HK.out.2.2.2.below b'⟩
  clear HK
  have HK := HK'
  clear HK'
  have b10 := bel_next b9 b'
  have I10 := I9.below b'
  have V10 := V9.below b'
  have X10 := X9.below b'
  have Y10 := Y9.below b'
  have Z10 := Z9.below b'
  clear b' b9 I9 V9 X9 x0 x1 x2 x3 Y9 y0 y1 y2 y3 Z9 z0 z1 z2 z3 
  obtain ⟨x0, x1, x2, x3⟩ := X10.four
  obtain ⟨y0, y1, y2, y3⟩ := Y10.four
  obtain ⟨z0, z1, z2, z3⟩ := Z10.four
  go_wp2_with fail
  refine (heldDevice_s a1i a2i a3i a4i l1i l2i l3i l4i c1i c2i c3i c4i 1 _ _ rfl HK.out.1 HK.out.2.1 HK.out.2.2.1 HK.out.2.2.2 HEi.out.2.1 HEi.out.2.2.1 HEi.out.2.2.2.1 HEi.out.2.2.2.2 (by omega)).mono ?_
  rintro e w11 ⟨rfl, b'⟩
  have HK' : Hid (SlB w11 a1i _ ∧ SlB w11 a2i _ ∧ SlI w11 a3i _ ∧ SlI w11 a4i _) := ⟨HK.out.1.below b', HK.out.2.1.below b', HK.out.2.2.1.below b', HK.out.2.2.2.below b'⟩
  clear HK
  have HK := HK'
  clear HK'
  have b11 := bel_next b10 b'
  have I11 := I10.below b'
  have V11 := V10.below b'
  have X11 := X10.below b'
  have Y11 := Y10.below b'
  have Z11 := Z10.below b'
  clear b' b10 I10 V10 X10 x0 x1 x2 x3 Y10 y0 y1 y2 y3 Z10 z0 z1 z2 z3 
  obtain ⟨x0, x1, x2, x3⟩ := X11.four
  obtain ⟨y0, y1, y2, y3⟩ := Y11.four
  obtain ⟨z0, z1, z2, z3⟩ := Z11.four
  obtain rfl := HW0.out
  go_wp2
  go_ret
  exact ⟨rfl, b11⟩

end Go.Proofs.Ytjfnghobnlpemaa
