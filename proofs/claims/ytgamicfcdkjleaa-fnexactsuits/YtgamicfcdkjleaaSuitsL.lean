/- The law of Suits, walked. -/
import Derived.Test.YtgamicfcdkjleaaArgP
import Derived.Test.YtgamicfcdkjleaaS2
import Derived.Test.YtgamicfcdkjleaaS3
import Derived.Deep.RegionWith
import Derived.Deep.RegionHeld3
namespace Go.Proofs.Ytgamicfcdkjleaa
open Go.RowKit

set_option linter.unusedVariables false

set_option maxRecDepth 20000 in
set_option maxHeartbeats 8000000 in
theorem suits_law (kd pl nn wa : Int) (q1 q2 : Option Addr) (m1 m2 k1 k2 : Nat) (qs : List Int) (qb : List Bool) (kd' fl ap an : Int) (a1 a2 : Option Addr) (l1 l2 c1 c2 : Nat) (ws : List Int) (bs : List Bool) (w : World) (hq : InReq w kd pl nn wa q1 q2 m1 m2 qs qb) (ha : InResp w kd' fl ap an a1 a2 l1 l2 ws bs) (hl : m1 + m2 + l1 + l2 ≤ 1048576) :
    Calls Try.prog 6 #[.agg #[.int .i64 kd, .int .i64 pl, .int .i64 nn, .slice q1 m1 k1, .slice q2 m2 k2, .int .i64 wa], .agg #[.int .i64 kd', .int .i64 fl, .int .i64 ap, .int .i64 an, .slice a1 l1 c1, .slice a2 l2 c2]] w fun e w' => e = .returned (.bool true) ∧ Below w.heap.size w w' := by
  obtain ⟨⟨g1, _, t1, _⟩, ⟨g2, t2⟩, _, _⟩ := hq
  obtain ⟨⟨h1, _, s1, _⟩, ⟨h2, s2⟩, _, _⟩ := ha
  have HL : Hid (m1 = qs.length ∧ m2 = qb.length ∧ l1 = ws.length ∧ l2 = bs.length) := ⟨g1.symm, g2.symm, h1.symm, h2.symm⟩
  have HM : Hid (m1 ≤ 2000000 ∧ m2 ≤ 2000000 ∧ l1 ≤ 2000000 ∧ l2 ≤ 2000000) := by show _ ∧ _; omega
  have HN : Hid (qs.length ≤ 2000000 ∧ qb.length ≤ 2000000 ∧ ws.length ≤ 2000000 ∧ bs.length ≤ 2000000) := by show _ ∧ _; omega
  have HZ : Hid (m1 + m2 ≤ 1048576) := by show m1 + m2 ≤ 1048576; omega
  have T1 : Hid (SlI w q1 qs ∧ SlB w q2 qb) := ⟨t1, t2⟩
  have S1 : Hid (SlI w a1 ws ∧ SlB w a2 bs) := ⟨s1, s2⟩
  have f0 : ¬ (1048576 - (m1 : Int) - (m2 : Int) < 0) := by omega
  have f1 : ¬ (1048576 - (m1 : Int) - (m2 : Int) - (l1 : Int) - (l2 : Int) < 0) := by omega
  have f2 : Hid (1048576 - (m1 : Int) - (m2 : Int) ≤ 1048576 ∧ (l1 : Int) + (l2 : Int) ≤ 1048576 - (m1 : Int) - (m2 : Int)) := by show _ ∧ _; omega
  obtain ⟨V, hV⟩ : ∃ V, V = suB kd pl nn wa m1 m2 qs qb kd' fl ap an l1 l2 ws bs := ⟨_, rfl⟩
  have HV : Hid (V = suB kd pl nn wa m1 m2 qs qb kd' fl ap an l1 l2 ws bs) := hV
  clear g1 g2 h1 h2 t1 t2 s1 s2 hV hl
  obtain ⟨w0, hw0⟩ : ∃ w0, w0 = (w.alloc (.cells #[.int .i64 kd, .int .i64 pl, .int .i64 nn, .slice q1 m1 k1, .slice q2 m2 k2, .int .i64 wa] 48)).alloc (.cells #[.int .i64 kd', .int .i64 fl, .int .i64 ap, .int .i64 an, .slice a1 l1 c1, .slice a2 l2 c2] 37) := ⟨_, rfl⟩
  have HW0 : Hid (w0 = _) := hw0
  have b0 : Below w.heap.size w w0 := by rw [hw0]; exact bel_next (bel_alloc w _) (bel_alloc _ _)
  have A0 : Blk w0 w.heap.size 48 #[.int .i64 kd, .int .i64 pl, .int .i64 nn, .slice q1 m1 k1, .slice q2 m2 k2, .int .i64 wa] := by rw [hw0]; exact (Blk.new w _ _).below (bel_alloc _ _)
  have D0 : Blk w0 (w.heap.size + 1) 37 #[.int .i64 kd', .int .i64 fl, .int .i64 ap, .int .i64 an, .slice a1 l1 c1, .slice a2 l2 c2] := by
    rw [hw0]; have := Blk.new (w.alloc (.cells #[.int .i64 kd, .int .i64 pl, .int .i64 nn, .slice q1 m1 k1, .slice q2 m2 k2, .int .i64 wa] 48)) #[.int .i64 kd', .int .i64 fl, .int .i64 ap, .int .i64 an, .slice a1 l1 c1, .slice a2 l2 c2] 37; simpa using this
  clear hw0
  obtain ⟨x0, x1, x2, x3, x4, x5⟩ := A0.six
  obtain ⟨d0, d1, d2, d3, d4, d5⟩ := D0.six
  go_enter Try.func6, Try.ntmps6
  go_upto_region 1 with fail
  rw [← HW0.out]
  go_wp2_with fail
  refine (szReq_fits kd pl nn wa q1 q2 m1 m2 k1 k2 _ HZ.out).mono ?_
  rintro e w1 ⟨rfl, b'⟩
  have b1 := bel_next b0 b'
  have A1 := A0.below b'
  have D1 := D0.below b'
  clear b0 A0 D0 x0 x1 x2 x3 x4 x5 d0 d1 d2 d3 d4 d5 b'
  obtain ⟨x0, x1, x2, x3, x4, x5⟩ := A1.six
  obtain ⟨d0, d1, d2, d3, d4, d5⟩ := D1.six
  go_wp2_with fail
  refine (szResp_at kd' fl ap an a1 a2 l1 l2 c1 c2 _ _ f2.out.1 f2.out.2).mono ?_
  rintro e w2 ⟨rfl, b'⟩
  have b2 := bel_next b1 b'
  have A2 := A1.below b'
  have D2 := D1.below b'
  clear b1 A1 D1 x0 x1 x2 x3 x4 x5 d0 d1 d2 d3 d4 d5 b'
  obtain ⟨x0, x1, x2, x3, x4, x5⟩ := A2.six
  obtain ⟨d0, d1, d2, d3, d4, d5⟩ := D2.six
  go_upto_region 8 with fail
  go_cut [6] (fun s6 wx => s6 = .bool V ∧ Below w2.heap.size w2 wx)
  case first =>
    have e2 : Below w2.heap.size w2 w2.drew := (Below.refl _ _).drew
    go_region_held3 (fun w' => w'.cell? ⟨w.heap.size, 0, none⟩ = some (.int .i64 kd) ∧ w'.cell? ⟨w.heap.size, 1, none⟩ = some (.int .i64 pl) ∧ w'.cell? ⟨w.heap.size, 2, none⟩ = some (.int .i64 nn) ∧ w'.cell? ⟨w.heap.size, 3, none⟩ = some (.slice q1 m1 k1) ∧ w'.cell? ⟨w.heap.size, 4, none⟩ = some (.slice q2 m2 k2) ∧ w'.cell? ⟨w.heap.size, 5, none⟩ = some (.int .i64 wa) ∧ w'.cell? ⟨w.heap.size + 1, 0, none⟩ = some (.int .i64 kd') ∧ w'.cell? ⟨w.heap.size + 1, 1, none⟩ = some (.int .i64 fl) ∧ w'.cell? ⟨w.heap.size + 1, 2, none⟩ = some (.int .i64 ap) ∧ w'.cell? ⟨w.heap.size + 1, 3, none⟩ = some (.int .i64 an) ∧ w'.cell? ⟨w.heap.size + 1, 4, none⟩ = some (.slice a1 l1 c1) ∧ w'.cell? ⟨w.heap.size + 1, 5, none⟩ = some (.slice a2 l2 c2)) (go_keep)
      (first
        | (go_at_call 29; refine (toReq_any kd pl nn wa q1 q2 m1 m2 k1 k2 qs qb _ HL.out.1 HL.out.2.1 (T1.out.1.below (by first | exact b2 | exact b2.drew)) (T1.out.2.below (by first | exact b2 | exact b2.drew)) HM.out.1 HM.out.2.1).mono ?_; rintro e wA ⟨g1, g2, rfl, iA, jA, bA⟩; have BA : Below w2.heap.size w2 wA := (by first | exact bel_next e2 bA | exact bA); obtain ⟨xa0, xa1, xa2, xa3, xa4, xa5⟩ := (A2.below BA).six; obtain ⟨da0, da1, da2, da3, da4, da5⟩ := (D2.below BA).six; clear bA)
        | (go_at_call 18; refine (toResp_any kd' fl ap an a1 a2 l1 l2 c1 c2 ws bs _ HL.out.2.2.1 HL.out.2.2.2 (S1.out.1.below (bel_next b2 BA)) (S1.out.2.below (bel_next b2 BA)) HM.out.2.2.1 HM.out.2.2.2).mono ?_; rintro e wB ⟨g3, g4, rfl, iB, jB, bB⟩; have BB := bel_next BA bB; have iA' := iA.below bB; have jA' := jA.below bB; obtain ⟨xb0, xb1, xb2, xb3, xb4, xb5⟩ := (A2.below BB).six; obtain ⟨db0, db1, db2, db3, db4, db5⟩ := (D2.below BB).six; clear bB)
        | (go_at_call 28; refine (specSuits_q kd kd' fl pl nn wa (some ⟨g1, 0, none⟩) (some ⟨g2, 0, none⟩) m1 m2 m1 m2 qs qb ap an (some ⟨g3, 0, none⟩) (some ⟨g4, 0, none⟩) l1 l2 l1 l2 ws bs _ HL.out.1 HL.out.2.1 iA'.sl.2 jA'.sl.2 HN.out.1 HN.out.2.1 HL.out.2.2.1 HL.out.2.2.2 iB.sl.2 jB.sl.2 HN.out.2.2.1 HN.out.2.2.2).mono ?_; rintro e wC ⟨he, bC⟩; rw [← HV.out] at he; subst he; have BC := bel_next BB bC; obtain ⟨xc0, xc1, xc2, xc3, xc4, xc5⟩ := (A2.below BC).six; obtain ⟨dc0, dc1, dc2, dc3, dc4, dc5⟩ := (D2.below BC).six; clear bC))
    all_goals (go_wp2_with fail; go_meet; exact ⟨rfl, BC⟩)
  case rest =>
  obtain ⟨rfl, b'⟩ := hcut
  obtain ⟨w3, hw3⟩ : ∃ w3, w3 = wc := ⟨_, rfl⟩
  rw [← hw3] at b' ⊢
  clear hw3
  have b3 := bel_next b2 b'
  have A3 := A2.below b'
  have D3 := D2.below b'
  clear b2 A2 D2 x0 x1 x2 x3 x4 x5 d0 d1 d2 d3 d4 d5 b'
  obtain ⟨x0, x1, x2, x3, x4, x5⟩ := A3.six
  obtain ⟨d0, d1, d2, d3, d4, d5⟩ := D3.six
  go_wp2_with fail
  refine (toReq_any kd pl nn wa q1 q2 m1 m2 k1 k2 qs qb _ HL.out.1 HL.out.2.1 (T1.out.1.below b3) (T1.out.2.below b3) HM.out.1 HM.out.2.1).mono ?_
  rintro e w4 ⟨g5, g6, rfl, i4, j4, b'⟩
  have b4 := bel_next b3 b'
  have A4 := A3.below b'
  have D4 := D3.below b'
  clear b3 A3 D3 x0 x1 x2 x3 x4 x5 d0 d1 d2 d3 d4 d5 b'
  obtain ⟨x0, x1, x2, x3, x4, x5⟩ := A4.six
  obtain ⟨d0, d1, d2, d3, d4, d5⟩ := D4.six
  have b' := bel_alloc w4 (.cells #[.int .i64 kd, .int .i64 pl, .int .i64 nn, .slice (some ⟨g5, 0, none⟩) m1 m1, .slice (some ⟨g6, 0, none⟩) m2 m2, .int .i64 wa] 27)
  have Q' := Blk.new w4 #[.int .i64 kd, .int .i64 pl, .int .i64 nn, .slice (some ⟨g5, 0, none⟩) m1 m1, .slice (some ⟨g6, 0, none⟩) m2 m2, .int .i64 wa] 27
  obtain ⟨w5, hw5⟩ : ∃ w5, w5 = w4.alloc (.cells #[.int .i64 kd, .int .i64 pl, .int .i64 nn, .slice (some ⟨g5, 0, none⟩) m1 m1, .slice (some ⟨g6, 0, none⟩) m2 m2, .int .i64 wa] 27) := ⟨_, rfl⟩
  rw [← hw5] at b' Q'
  have HW5 : Hid (w5 = _) := hw5
  obtain ⟨BX, hBX⟩ : ∃ BX, BX = w4.heap.size := ⟨_, rfl⟩
  rw [← hBX] at Q'
  have HBX : Hid (BX = w4.heap.size) := hBX
  clear hw5 hBX
  have b5 := bel_next b4 b'
  have i5 := i4.below b'
  have j5 := j4.below b'
  have A5 := A4.below b'
  have D5 := D4.below b'
  clear b4 i4 j4 A4 D4 x0 x1 x2 x3 x4 x5 d0 d1 d2 d3 d4 d5 b'
  obtain ⟨x0, x1, x2, x3, x4, x5⟩ := A5.six
  obtain ⟨d0, d1, d2, d3, d4, d5⟩ := D5.six
  have X5 := Q'
  clear Q'
  obtain ⟨y0, y1, y2, y3, y4, y5⟩ := X5.six
  go_upto_region 10 with fail
  rw [← HW5.out]
  simp only [← HBX.out]
  go_wp2_with fail
  refine (toResp_any kd' fl ap an a1 a2 l1 l2 c1 c2 ws bs _ HL.out.2.2.1 HL.out.2.2.2 (S1.out.1.below b5) (S1.out.2.below b5) HM.out.2.2.1 HM.out.2.2.2).mono ?_
  rintro e w6 ⟨g7, g8, rfl, u6', v6', b'⟩
  have r6 := u6'
  have s6 := v6'
  clear u6' v6'
  have b6 := bel_next b5 b'
  have i6 := i5.below b'
  have j6 := j5.below b'
  have A6 := A5.below b'
  have D6 := D5.below b'
  have X6 := X5.below b'
  clear b5 i5 j5 A5 D5 X5 x0 x1 x2 x3 x4 x5 d0 d1 d2 d3 d4 d5 y0 y1 y2 y3 y4 y5 b'
  obtain ⟨x0, x1, x2, x3, x4, x5⟩ := A6.six
  obtain ⟨d0, d1, d2, d3, d4, d5⟩ := D6.six
  obtain ⟨y0, y1, y2, y3, y4, y5⟩ := X6.six
  have b' := bel_alloc w6 (.cells #[.int .i64 kd', .int .i64 fl, .int .i64 ap, .int .i64 an, .slice (some ⟨g7, 0, none⟩) l1 l1, .slice (some ⟨g8, 0, none⟩) l2 l2] 40)
  have Q' := Blk.new w6 #[.int .i64 kd', .int .i64 fl, .int .i64 ap, .int .i64 an, .slice (some ⟨g7, 0, none⟩) l1 l1, .slice (some ⟨g8, 0, none⟩) l2 l2] 40
  obtain ⟨w7, hw7⟩ : ∃ w7, w7 = w6.alloc (.cells #[.int .i64 kd', .int .i64 fl, .int .i64 ap, .int .i64 an, .slice (some ⟨g7, 0, none⟩) l1 l1, .slice (some ⟨g8, 0, none⟩) l2 l2] 40) := ⟨_, rfl⟩
  rw [← hw7] at b' Q'
  have HW7 : Hid (w7 = _) := hw7
  obtain ⟨BY, hBY⟩ : ∃ BY, BY = w6.heap.size := ⟨_, rfl⟩
  rw [← hBY] at Q'
  have HBY : Hid (BY = w6.heap.size) := hBY
  clear hw7 hBY
  have b7 := bel_next b6 b'
  have i7 := i6.below b'
  have j7 := j6.below b'
  have r7 := r6.below b'
  have s7 := s6.below b'
  have A7 := A6.below b'
  have D7 := D6.below b'
  have X7 := X6.below b'
  clear b6 i6 j6 r6 s6 A6 D6 X6 x0 x1 x2 x3 x4 x5 d0 d1 d2 d3 d4 d5 y0 y1 y2 y3 y4 y5 b'
  obtain ⟨x0, x1, x2, x3, x4, x5⟩ := A7.six
  obtain ⟨d0, d1, d2, d3, d4, d5⟩ := D7.six
  obtain ⟨y0, y1, y2, y3, y4, y5⟩ := X7.six
  have Y7 := Q'
  clear Q'
  obtain ⟨z0, z1, z2, z3, z4, z5⟩ := Y7.six
  go_upto_region 11 with fail
  rw [← HW7.out]
  simp only [← HBY.out]
  go_wp2_with fail
  refine (implSuits_q kd kd' fl pl nn wa (some ⟨g5, 0, none⟩) (some ⟨g6, 0, none⟩) m1 m2 m1 m2 qs qb ap an (some ⟨g7, 0, none⟩) (some ⟨g8, 0, none⟩) l1 l2 l1 l2 ws bs _ HL.out.1 HL.out.2.1 i7.sl.2 j7.sl.2 HN.out.1 HN.out.2.1 HL.out.2.2.1 HL.out.2.2.2 r7.sl.2 s7.sl.2 HN.out.2.2.1 HN.out.2.2.2 (Nat.le_refl _)).mono ?_
  rintro e w8 ⟨he, b'⟩
  rw [← HV.out] at he
  subst he
  have b8 := bel_next b7 b'
  have i8 := i7.below b'
  have j8 := j7.below b'
  have r8 := r7.below b'
  have s8 := s7.below b'
  have A8 := A7.below b'
  have D8 := D7.below b'
  have X8 := X7.below b'
  have Y8 := Y7.below b'
  clear b7 i7 j7 r7 s7 A7 D7 X7 Y7 x0 x1 x2 x3 x4 x5 d0 d1 d2 d3 d4 d5 y0 y1 y2 y3 y4 y5 z0 z1 z2 z3 z4 z5 b'
  obtain ⟨x0, x1, x2, x3, x4, x5⟩ := A8.six
  obtain ⟨d0, d1, d2, d3, d4, d5⟩ := D8.six
  obtain ⟨y0, y1, y2, y3, y4, y5⟩ := X8.six
  obtain ⟨z0, z1, z2, z3, z4, z5⟩ := Y8.six
  go_upto_region 14 with fail
  go_cut [39] (fun sX wx => sX = .bool false ∧ Below w8.heap.size w8 wx)
  case first =>
    go_region_with (first
      | (go_at_call 29; refine (toReq_any kd pl nn wa q1 q2 m1 m2 k1 k2 qs qb _ HL.out.1 HL.out.2.1 (T1.out.1.below (by first | exact b8 | exact b8.drew | exact b8.drew.drew | exact b8.drew.drew.drew)) (T1.out.2.below (by first | exact b8 | exact b8.drew | exact b8.drew.drew | exact b8.drew.drew.drew)) HM.out.1 HM.out.2.1).mono ?_; rintro e wa' ⟨gg1, gg2, rfl, ia, ja, ba'⟩; have ba := bel_next (Below.refl _ w8).drew ba'; have i6' := i8.below ba; have j6' := j8.below ba; obtain ⟨q0, q1', q2', q3, q4, q5⟩ := (X8.below ba).six; clear ba')
      | (go_at_call 31; refine (eqReq_true kd pl nn wa _ _ _ _ _ _ _ _ _ _ _ _ qs qb _ HL.out.1 HL.out.2.1 HL.out.1 HL.out.2.1 ?_ ?_ ?_ ?_ HN.out.1 (by have := HN.out; omega)).mono ?_; (first | exact i6'.sl.2 | exact (i6'.below (Below.refl _ _).drew).sl.2 | exact (i6'.below (Below.refl _ _).drew.drew).sl.2); (first | exact j6'.sl.2 | exact (j6'.below (Below.refl _ _).drew).sl.2 | exact (j6'.below (Below.refl _ _).drew.drew).sl.2); (first | exact ia.sl.2 | exact (ia.below (Below.refl _ _).drew).sl.2 | exact (ia.below (Below.refl _ _).drew.drew).sl.2); (first | exact ja.sl.2 | exact (ja.below (Below.refl _ _).drew).sl.2 | exact (ja.below (Below.refl _ _).drew.drew).sl.2); rintro e wb' ⟨rfl, bb'⟩; have bb := bel_next (by first | exact ba | exact ba.drew | exact ba.drew.drew) bb'; clear bb'))
    all_goals (go_wp2_with fail; go_meet; exact ⟨rfl, bb⟩)
  case rest =>
  obtain ⟨rfl, b'⟩ := hcut
  obtain ⟨w9, hw9⟩ : ∃ w9, w9 = wc := ⟨_, rfl⟩
  rw [← hw9] at b' ⊢
  clear hw9
  have b9 := bel_next b8 b'
  have i9 := i8.below b'
  have j9 := j8.below b'
  have r9 := r8.below b'
  have s9 := s8.below b'
  have A9 := A8.below b'
  have D9 := D8.below b'
  have X9 := X8.below b'
  have Y9 := Y8.below b'
  clear b8 i8 j8 r8 s8 A8 D8 X8 Y8 x0 x1 x2 x3 x4 x5 d0 d1 d2 d3 d4 d5 y0 y1 y2 y3 y4 y5 z0 z1 z2 z3 z4 z5 b'
  obtain ⟨x0, x1, x2, x3, x4, x5⟩ := A9.six
  obtain ⟨d0, d1, d2, d3, d4, d5⟩ := D9.six
  obtain ⟨y0, y1, y2, y3, y4, y5⟩ := X9.six
  obtain ⟨z0, z1, z2, z3, z4, z5⟩ := Y9.six
  go_upto_region 16 with fail
  go_cut [44] (fun sX wx => sX = .bool false ∧ Below w9.heap.size w9 wx)
  case first =>
    go_region_with (first
      | (go_at_call 18; refine (toResp_any kd' fl ap an a1 a2 l1 l2 c1 c2 ws bs _ HL.out.2.2.1 HL.out.2.2.2 (S1.out.1.below (by first | exact b9 | exact b9.drew | exact b9.drew.drew | exact b9.drew.drew.drew)) (S1.out.2.below (by first | exact b9 | exact b9.drew | exact b9.drew.drew | exact b9.drew.drew.drew)) HM.out.2.2.1 HM.out.2.2.2).mono ?_; rintro e wa' ⟨gg1, gg2, rfl, ia, ja, ba'⟩; have ba := bel_next (Below.refl _ w9).drew ba'; have i6' := r9.below ba; have j6' := s9.below ba; obtain ⟨q0, q1', q2', q3, q4, q5⟩ := (Y9.below ba).six; clear ba')
      | (go_at_call 20; refine (eqResp_true kd' fl ap an _ _ _ _ _ _ _ _ _ _ _ _ ws bs _ HL.out.2.2.1 HL.out.2.2.2 HL.out.2.2.1 HL.out.2.2.2 ?_ ?_ ?_ ?_ HN.out.2.2.1 HN.out.2.2.2).mono ?_; (first | exact i6'.sl.2 | exact (i6'.below (Below.refl _ _).drew).sl.2 | exact (i6'.below (Below.refl _ _).drew.drew).sl.2); (first | exact j6'.sl.2 | exact (j6'.below (Below.refl _ _).drew).sl.2 | exact (j6'.below (Below.refl _ _).drew.drew).sl.2); (first | exact ia.sl.2 | exact (ia.below (Below.refl _ _).drew).sl.2 | exact (ia.below (Below.refl _ _).drew.drew).sl.2); (first | exact ja.sl.2 | exact (ja.below (Below.refl _ _).drew).sl.2 | exact (ja.below (Below.refl _ _).drew.drew).sl.2); rintro e wb' ⟨rfl, bb'⟩; have bb := bel_next (by first | exact ba | exact ba.drew | exact ba.drew.drew) bb'; clear bb'))
    all_goals (go_wp2_with fail; go_meet; exact ⟨rfl, bb⟩)
  case rest =>
  obtain ⟨rfl, b'⟩ := hcut
  obtain ⟨w10, hw10⟩ : ∃ w10, w10 = wc := ⟨_, rfl⟩
  rw [← hw10] at b' ⊢
  clear hw10
  have b10 := bel_next b9 b'
  have i10 := i9.below b'
  have j10 := j9.below b'
  have r10 := r9.below b'
  have s10 := s9.below b'
  have A10 := A9.below b'
  have D10 := D9.below b'
  have X10 := X9.below b'
  have Y10 := Y9.below b'
  clear b9 i9 j9 r9 s9 A9 D9 X9 Y9 x0 x1 x2 x3 x4 x5 d0 d1 d2 d3 d4 d5 y0 y1 y2 y3 y4 y5 z0 z1 z2 z3 z4 z5 b'
  obtain ⟨x0, x1, x2, x3, x4, x5⟩ := A10.six
  obtain ⟨d0, d1, d2, d3, d4, d5⟩ := D10.six
  obtain ⟨y0, y1, y2, y3, y4, y5⟩ := X10.six
  obtain ⟨z0, z1, z2, z3, z4, z5⟩ := Y10.six
  go_wp2
  go_ret
  exact ⟨rfl, b10⟩

end Go.Proofs.Ytgamicfcdkjleaa
