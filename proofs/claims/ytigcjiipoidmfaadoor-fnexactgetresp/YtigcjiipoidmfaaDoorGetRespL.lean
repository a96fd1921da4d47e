/- The law of GetResp, walked. -/
import Derived.Test.YtigcjiipoidmfaaDoorGF
import Derived.Test.YtigcjiipoidmfaaDoorMarkP
import Derived.Test.YtigcjiipoidmfaaDoorG7
namespace Go.Proofs.YtigcjiipoidmfaaDoor
open Go.RowKit

set_option linter.unusedVariables false

set_option maxRecDepth 20000 in
set_option maxHeartbeats 8000000 in
theorem getResp_law (a : Option Addr) (n cap : Nat) (zs : List Int) (w : World) (hn : n = zs.length) (hs : Sl w a zs) (hr : ∀ z ∈ zs, 0 ≤ z ∧ z ≤ 255) (hl : n ≤ 1048576) (hE : Eh w) :
    Calls Tryd.prog 4 #[.slice a n cap] w fun e w' => e = .returned (.bool true) ∧ Below w.heap.size w w' := by
  obtain ⟨kd, fl, pl, nn, ws, bs, code, hform, hlw, hlb⟩ := gz_form zs
  have HF : Hid (∀ w w' e, GZ zs w w' e → GPA w w' e kd fl pl nn ws bs code) := hform
  have HN : Hid (n = zs.length ∧ zs.length ≤ 2000000 ∧ n ≤ 2000000 ∧ n ≤ 3000000) := by show _ ∧ _; omega
  have HR : Hid (∀ z ∈ zs, 0 ≤ z ∧ z ≤ 255) := hr
  have HS : Hid (Sl w a zs) := hs
  have HL : Hid (ws.length ≤ 2000000 ∧ bs.length ≤ 2000000) := by show _ ∧ _; omega
  have H5 : Hid (n ≤ 1048576) := hl
  have HEh : Hid (Eh w) := hE
  have f0 : ¬ ((n : Int) > 1048576) := by omega
  clear hform hn hs hr hlw hlb hE
  have b0 : Below w.heap.size w w := Below.refl _ _
  go_enter Tryd.func4, Tryd.ntmps4
  go_wp2_with fail
  refine (toB_ok a n cap zs _ HN.out.1 (HS.out.below b0) HN.out.2.1).mono ?_
  rintro e w1 ⟨t1, rfl, o1, b'⟩
  have b1 := bel_next b0 b'
  clear b0 b' 
  go_wp2_with fail
  refine (specGetA_q _ n n zs _ HN.out.1 o1.sl.2 HR.out H5.out (Nat.le_refl _)).mono ?_
  rintro e w2 h'
  obtain ⟨a1s, a2s, l1s, l2s, c1s, c2s, rfl, e1', e2', i', j', b'⟩ := HF.out _ _ _ h'
  have HEs : Hid (l1s = ws.length ∧ l2s = bs.length ∧ l1s ≤ 2000000 ∧ l2s ≤ 2000000) := by have := HL.out; show _ ∧ _; omega
  have hBs : Hid (w.heap.size ≤ w1.heap.size) := b1.size
  clear h' e1' e2' o1
  have b2 := bel_next b1 b'
  clear b1 b' 
  have I2 := i'
  have J2 := j'
  clear i' j'
  have b' := bel_alloc w2 (.cells #[.int .i64 kd, .int .i64 fl, .int .i64 pl, .int .i64 nn, .slice a1s l1s c1s, .slice a2s l2s c2s] 27)
  have X' := Blk.new w2 #[.int .i64 kd, .int .i64 fl, .int .i64 pl, .int .i64 nn, .slice a1s l1s c1s, .slice a2s l2s c2s] 27
  have b3 := bel_next b2 b'
  have I3 := I2.below b'
  have J3 := J2.below b'
  have X3 := X'
  clear b' X' b2 I2 J2
  obtain ⟨x0, x1, x2, x3, x4, x5⟩ := X3.six
  go_wp2_with fail
  refine (toB_ok a n cap zs _ HN.out.1 (HS.out.below b3) HN.out.2.1).mono ?_
  rintro e w4 ⟨t2, rfl, o2, b'⟩
  have o2' := own_mono o2 b3.size
  have b4 := bel_next b3 b'
  have I4 := I3.below b'
  have J4 := J3.below b'
  have X4 := X3.below b'
  clear b3 I3 J3 X3 x0 x1 x2 x3 x4 x5 b' o2
  obtain ⟨x0, x1, x2, x3, x4, x5⟩ := X4.six
  have T4 := o2'
  clear o2'
  go_wp2_with fail
  refine (implGetA_q _ n n zs _ HN.out.1 T4.sl.2 HR.out H5.out (Nat.le_refl _) (HEh.out.below b4)).mono ?_
  rintro e w5 h'
  obtain ⟨a1i, a2i, l1i, l2i, c1i, c2i, rfl, e1', e2', i', j', b'⟩ := HF.out _ _ _ h'
  have HEi : Hid (l1i = ws.length ∧ l2i = bs.length ∧ l1i ≤ 2000000 ∧ l2i ≤ 2000000) := by have := HL.out; show _ ∧ _; omega
  have hBi : Hid (w.heap.size ≤ w4.heap.size) := b4.size
  have neI := neq_lt (fun k e => (World.ownsRow.lt I4 k e).2) (fun k e => (World.ownsRow.lt i' k e).1)
  have neJ := neq_lt (fun k e => (World.ownsRow.lt J4 k e).2) (fun k e => (World.ownsRow.lt j' k e).1)
  clear h' e1' e2'
  have b5 := bel_next b4 b'
  have I5 := I4.below b'
  have J5 := J4.below b'
  have T5 := T4.below b'
  have X5 := X4.below b'
  clear b4 I4 J4 T4 X4 x0 x1 x2 x3 x4 x5 b' 
  obtain ⟨x0, x1, x2, x3, x4, x5⟩ := X5.six
  have M5 := i'
  have N5 := j'
  clear i' j'
  have b' := bel_alloc w5 (.cells #[.int .i64 kd, .int .i64 fl, .int .i64 pl, .int .i64 nn, .slice a1i l1i c1i, .slice a2i l2i c2i] 27)
  have X' := Blk.new w5 #[.int .i64 kd, .int .i64 fl, .int .i64 pl, .int .i64 nn, .slice a1i l1i c1i, .slice a2i l2i c2i] 27
  have b6 := bel_next b5 b'
  have I6 := I5.below b'
  have J6 := J5.below b'
  have T6 := T5.below b'
  have M6 := M5.below b'
  have N6 := N5.below b'
  have X6 := X5.below b'
  have Y6 := X'
  clear b' X' b5 I5 J5 T5 M5 N5 X5 x0 x1 x2 x3 x4 x5
  obtain ⟨x0, x1, x2, x3, x4, x5⟩ := X6.six
  obtain ⟨y0, y1, y2, y3, y4, y5⟩ := Y6.six
  go_wp2_with fail
  refine (eqP_ok kd fl pl nn _ _ _ _ _ _ _ _ _ _ _ _ ws bs _ _ _ HEi.out.1 HEi.out.2.1 HEs.out.1 HEs.out.2.1 M6 N6 I6 J6 HL.out.1 HL.out.2).mono ?_
  rintro e w7 ⟨rfl, b'⟩
  have b7 := bel_next b6 b'
  have I7 := I6.below b'
  have J7 := J6.below b'
  have T7 := T6.below b'
  have M7 := M6.below b'
  have N7 := N6.below b'
  have X7 := X6.below b'
  have Y7 := Y6.below b'
  clear b6 I6 J6 T6 M6 N6 X6 x0 x1 x2 x3 x4 x5 Y6 y0 y1 y2 y3 y4 y5 b' 
  obtain ⟨x0, x1, x2, x3, x4, x5⟩ := X7.six
  obtain ⟨y0, y1, y2, y3, y4, y5⟩ := Y7.six
  go_wp2_with fail
  refine (toB_ok a n cap zs _ HN.out.1 (HS.out.below b7) HN.out.2.1).mono ?_
  rintro e w8 ⟨t3, rfl, o3, b'⟩
  have b8 := bel_next b7 b'
  have I8 := I7.below b'
  have J8 := J7.below b'
  have T8 := T7.below b'
  have M8 := M7.below b'
  have N8 := N7.below b'
  have X8 := X7.below b'
  have Y8 := Y7.below b'
  clear b7 I7 J7 T7 M7 N7 X7 x0 x1 x2 x3 x4 x5 Y7 y0 y1 y2 y3 y4 y5 b' 
  obtain ⟨x0, x1, x2, x3, x4, x5⟩ := X8.six
  obtain ⟨y0, y1, y2, y3, y4, y5⟩ := Y8.six
  go_wp2_with fail
  refine (eqB_any _ _ _ _ _ _ zs _ HN.out.1 HN.out.1 T8.sl.2 o3.sl.2 HN.out.2.1).mono ?_
  rintro e w9 ⟨rfl, b'⟩
  have b9 := bel_next b8 b'
  have I9 := I8.below b'
  have J9 := J8.below b'
  have T9 := T8.below b'
  have M9 := M8.below b'
  have N9 := N8.below b'
  have X9 := X8.below b'
  have Y9 := Y8.below b'
  clear b8 I8 J8 T8 M8 N8 X8 x0 x1 x2 x3 x4 x5 Y8 y0 y1 y2 y3 y4 y5 b' o3
  obtain ⟨x0, x1, x2, x3, x4, x5⟩ := X9.six
  obtain ⟨y0, y1, y2, y3, y4, y5⟩ := Y9.six
  go_wp2_with fail
  refine (markByteS_any _ _ _ _ zs _ T9 HN.out.2.2.2).mono ?_
  rintro e w10 ⟨rfl, _, gr⟩
  have b10 := bel_grown b9 T9 gr (Nat.le_refl _) b9.size
  have I10 := OwnI.kept I9 gr (ne_types I9 T9 (by decide))
  have J10 := OwnB.kept J9 gr (ne_types J9 T9 (by decide))
  have M10 := OwnI.kept M9 gr (ne_types M9 T9 (by decide))
  have N10 := OwnB.kept N9 gr (ne_types N9 T9 (by decide))
  have X10 := X9.row T9 gr (by decide)
  have Y10 := Y9.row T9 gr (by decide)
  clear b9 T9 gr I9 J9 M9 N9 X9 Y9 x0 x1 x2 x3 x4 x5 y0 y1 y2 y3 y4 y5
  obtain ⟨x0, x1, x2, x3, x4, x5⟩ := X10.six
  obtain ⟨y0, y1, y2, y3, y4, y5⟩ := Y10.six
  have f1 : ¬ ((n : Int) + 1 < 0) := by omega
  go_wp2_with fail
  refine (eqP_ok kd fl pl nn _ _ _ _ _ _ _ _ _ _ _ _ ws bs _ _ _ HEi.out.1 HEi.out.2.1 HEs.out.1 HEs.out.2.1 M10 N10 I10 J10 HL.out.1 HL.out.2).mono ?_
  rintro e w11 ⟨rfl, b'⟩
  have b11 := bel_next b10 b'
  have I11 := I10.below b'
  have J11 := J10.below b'
  have M11 := M10.below b'
  have N11 := N10.below b'
  have X11 := X10.below b'
  have Y11 := Y10.below b'
  clear b10 I10 J10 M10 N10 X10 x0 x1 x2 x3 x4 x5 Y10 y0 y1 y2 y3 y4 y5 b' 
  obtain ⟨x0, x1, x2, x3, x4, x5⟩ := X11.six
  obtain ⟨y0, y1, y2, y3, y4, y5⟩ := Y11.six
  go_wp2_with fail
  refine (markResp_2 kd fl pl nn _ _ _ _ _ _ _ _ ws bs _ M11 N11 HEi.out.2.2.1 HEi.out.2.2.2).mono ?_
  rintro e w12 ⟨rfl, mI, mB, kI, kJ, _, kB, kL⟩
  have b12 := kL _ _ b11 hBi.out hBi.out b11.size
  have I12 := kI _ _ _ I11 neI
  have J12 := kJ _ _ _ J11 neJ
  have X12 := kB _ _ _ X11 (by decide) (by decide)
  have Y12 := kB _ _ _ Y11 (by decide) (by decide)
  have M12 := mI
  have N12 := mB
  clear b11 mI mB kI kJ kB kL I11 J11 M11 N11 X11 Y11 x0 x1 x2 x3 x4 x5 y0 y1 y2 y3 y4 y5
  obtain ⟨x0, x1, x2, x3, x4, x5⟩ := X12.six
  obtain ⟨y0, y1, y2, y3, y4, y5⟩ := Y12.six
  have f2 : ¬ ((1 : Int) + (l1i : Int) + (l2i : Int) < 0) := by omega
  go_wp2_with fail
  refine (heldResp_any kd fl pl nn _ _ _ _ _ _ _ M12.sl.2 N12.sl.2 HEi.out.2.2.1 HEi.out.2.2.2).mono ?_
  rintro e w13 ⟨rfl, b'⟩
  have b13 := bel_next b12 b'
  have I13 := I12.below b'
  have J13 := J12.below b'
  have M13 := M12.below b'
  have N13 := N12.below b'
  have X13 := X12.below b'
  have Y13 := Y12.below b'
  clear b12 I12 J12 M12 N12 X12 x0 x1 x2 x3 x4 x5 Y12 y0 y1 y2 y3 y4 y5 b' 
  obtain ⟨x0, x1, x2, x3, x4, x5⟩ := X13.six
  obtain ⟨y0, y1, y2, y3, y4, y5⟩ := Y13.six
  go_wp2_with fail
  refine (toB_ok a n cap zs _ HN.out.1 (HS.out.below b13) HN.out.2.1).mono ?_
  rintro e w14 ⟨t4, rfl, o4, b'⟩
  have b14 := bel_next b13 b'
  have I14 := I13.below b'
  have J14 := J13.below b'
  have M14 := M13.below b'
  have N14 := N13.below b'
  have X14 := X13.below b'
  have Y14 := Y13.below b'
  clear b13 I13 J13 M13 N13 X13 x0 x1 x2 x3 x4 x5 Y13 y0 y1 y2 y3 y4 y5 b' 
  obtain ⟨x0, x1, x2, x3, x4, x5⟩ := X14.six
  obtain ⟨y0, y1, y2, y3, y4, y5⟩ := Y14.six
  go_wp2_with fail
  refine (implGetA_q _ n n zs _ HN.out.1 o4.sl.2 HR.out H5.out (Nat.le_refl _) (HEh.out.below b14)).mono ?_
  rintro e w15 h'
  obtain ⟨a1h, a2h, l1h, l2h, c1h, c2h, rfl, e1', e2', i', j', b'⟩ := HF.out _ _ _ h'
  have HEh : Hid (l1h = ws.length ∧ l2h = bs.length ∧ l1h ≤ 2000000 ∧ l2h ≤ 2000000) := by have := HL.out; show _ ∧ _; omega
  have hBh : Hid (w.heap.size ≤ w14.heap.size) := b14.size
  clear h' e1' e2' o4
  have b15 := bel_next b14 b'
  have I15 := I14.below b'
  have J15 := J14.below b'
  have M15 := M14.below b'
  have N15 := N14.below b'
  have X15 := X14.below b'
  have Y15 := Y14.below b'
  clear b14 I14 J14 M14 N14 X14 x0 x1 x2 x3 x4 x5 Y14 y0 y1 y2 y3 y4 y5 b' 
  obtain ⟨x0, x1, x2, x3, x4, x5⟩ := X15.six
  obtain ⟨y0, y1, y2, y3, y4, y5⟩ := Y15.six
  have U15 := i'
  have V15 := j'
  clear i' j'
  have b' := bel_alloc w15 (.cells #[.int .i64 kd, .int .i64 fl, .int .i64 pl, .int .i64 nn, .slice a1h l1h c1h, .slice a2h l2h c2h] 27)
  have X' := Blk.new w15 #[.int .i64 kd, .int .i64 fl, .int .i64 pl, .int .i64 nn, .slice a1h l1h c1h, .slice a2h l2h c2h] 27
  have b16 := bel_next b15 b'
  have I16 := I15.below b'
  have J16 := J15.below b'
  have M16 := M15.below b'
  have N16 := N15.below b'
  have U16 := U15.below b'
  have V16 := V15.below b'
  have X16 := X15.below b'
  have Y16 := Y15.below b'
  have Z16 := X'
  clear b' X' b15 I15 J15 M15 N15 U15 V15 X15 x0 x1 x2 x3 x4 x5 Y15 y0 y1 y2 y3 y4 y5
  obtain ⟨x0, x1, x2, x3, x4, x5⟩ := X16.six
  obtain ⟨y0, y1, y2, y3, y4, y5⟩ := Y16.six
  obtain ⟨z0, z1, z2, z3, z4, z5⟩ := Z16.six
  go_wp2_with fail
  refine (eqP_ok kd fl pl nn _ _ _ _ _ _ _ _ _ _ _ _ ws bs _ _ _ HEh.out.1 HEh.out.2.1 HEs.out.1 HEs.out.2.1 U16 V16 I16 J16 HL.out.1 HL.out.2).mono ?_
  rintro e w17 ⟨rfl, b'⟩
  have b17 := bel_next b16 b'
  have I17 := I16.below b'
  have J17 := J16.below b'
  have M17 := M16.below b'
  have N17 := N16.below b'
  have U17 := U16.below b'
  have V17 := V16.below b'
  have X17 := X16.below b'
  have Y17 := Y16.below b'
  have Z17 := Z16.below b'
  clear b16 I16 J16 M16 N16 U16 V16 X16 x0 x1 x2 x3 x4 x5 Y16 y0 y1 y2 y3 y4 y5 Z16 z0 z1 z2 z3 z4 z5 b' 
  obtain ⟨x0, x1, x2, x3, x4, x5⟩ := X17.six
  obtain ⟨y0, y1, y2, y3, y4, y5⟩ := Y17.six
  obtain ⟨z0, z1, z2, z3, z4, z5⟩ := Z17.six
  go_wp2_with fail
  refine (heldResp_any kd fl pl nn _ _ _ _ _ _ _ M17.sl.2 N17.sl.2 HEi.out.2.2.1 HEi.out.2.2.2).mono ?_
  rintro e w18 ⟨rfl, b'⟩
  have b18 := bel_next b17 b'
  have I18 := I17.below b'
  have J18 := J17.below b'
  have M18 := M17.below b'
  have N18 := N17.below b'
  have U18 := U17.below b'
  have V18 := V17.below b'
  have X18 := X17.below b'
  have Y18 := Y17.below b'
  have Z18 := Z17.below b'
  clear b17 I17 J17 M17 N17 U17 V17 X17 x0 x1 x2 x3 x4 x5 Y17 y0 y1 y2 y3 y4 y5 Z17 z0 z1 z2 z3 z4 z5 b' 
  obtain ⟨x0, x1, x2, x3, x4, x5⟩ := X18.six
  obtain ⟨y0, y1, y2, y3, y4, y5⟩ := Y18.six
  obtain ⟨z0, z1, z2, z3, z4, z5⟩ := Z18.six
  go_wp2
  go_ret
  exact ⟨rfl, b18⟩

end Go.Proofs.YtigcjiipoidmfaaDoor
