/- The law of FaultOf, walked. -/
import Derived.Test.YtgamicfcdkjleabArgQ
import Derived.Test.YtgamicfcdkjleabF1
import Derived.Test.YtgamicfcdkjleabMarkF
import Derived.Deep.RegionWith
namespace Go.Proofs.Ytgamicfcdkjleab
open Go.RowKit

set_option linter.unusedVariables false

set_option maxRecDepth 20000 in
set_option maxHeartbeats 8000000 in
theorem faultOf_law (kd pl nn wa : Int) (a1 a2 : Option Addr) (l1 l2 c1 c2 : Nat) (ws : List Int) (bs : List Bool) (x : Int) (w : World) (hq : InReq w kd pl nn wa a1 a2 l1 l2 ws bs) (hl : l1 + l2 ≤ 1048576) :
    Calls Try.prog 3 #[.agg #[.int .i64 kd, .int .i64 pl, .int .i64 nn, .slice a1 l1 c1, .slice a2 l2 c2, .int .i64 wa], .int .i64 x] w fun e w' => e = .returned (.bool true) ∧ Below w.heap.size w w' := by
  obtain ⟨⟨h1, _, s1, _⟩, ⟨h2, s2⟩, _, _⟩ := hq
  have H1 : Hid (l1 = ws.length) := h1.symm
  have H2 : Hid (l2 = bs.length) := h2.symm
  have HL : Hid (l1 ≤ 2000000 ∧ l2 ≤ 2000000 ∧ ws.length ≤ 2000000 ∧ bs.length ≤ 2000000 ∧ bs.length ≤ 20000000) := by show _ ∧ _; omega
  have S1 : Hid (SlI w a1 ws) := s1
  have S2 : Hid (SlB w a2 bs) := s2
  have f0 : ¬ (1048576 - (l1 : Int) - (l2 : Int) < 0) := by omega
  obtain ⟨fk, fx, hfv⟩ : ∃ fk fx, foV (okR kd pl nn wa ws l1 l2 && inB x 1 255) kd x = rp fk fx 0 0 none none 0 0 0 0 := ⟨_, _, rfl⟩
  have HV : Hid (foV (okR kd pl nn wa ws l1 l2 && inB x 1 255) kd x = rp fk fx 0 0 none none 0 0 0 0) := hfv
  clear h1 h2 s1 s2 hfv
  have b0 := bel_alloc w (.cells #[.int .i64 kd, .int .i64 pl, .int .i64 nn, .slice a1 l1 c1, .slice a2 l2 c2, .int .i64 wa] 25)
  have A0 := Blk.new w #[.int .i64 kd, .int .i64 pl, .int .i64 nn, .slice a1 l1 c1, .slice a2 l2 c2, .int .i64 wa] 25
  obtain ⟨x0, x1, x2, x3, x4, x5⟩ := A0.six
  go_enter Try.func3, Try.ntmps3
  go_wp2_with fail
  refine (szReq_fits kd pl nn wa a1 a2 l1 l2 c1 c2 _ hl).mono ?_
  rintro e w1 ⟨rfl, b'⟩
  have b1 := bel_next b0 b'
  have A1 := A0.below b'
  clear b0 A0 x0 x1 x2 x3 x4 x5 b'
  obtain ⟨x0, x1, x2, x3, x4, x5⟩ := A1.six
  go_wp2_with fail
  refine (toReq_any kd pl nn wa a1 a2 l1 l2 c1 c2 ws bs _ H1.out H2.out (S1.out.below b1) (S2.out.below b1) HL.out.1 HL.out.2.1).mono ?_
  rintro e w2 ⟨g1, g2, rfl, i1, i2, b'⟩
  have b2 := bel_next b1 b'
  have A2 := A1.below b'
  clear b1 A1 x0 x1 x2 x3 x4 x5 b'
  obtain ⟨x0, x1, x2, x3, x4, x5⟩ := A2.six
  go_wp2_with fail
  refine (specFaultOf_q kd pl nn wa (some ⟨g1, 0, none⟩) (some ⟨g2, 0, none⟩) l1 l2 l1 l2 ws bs x _ H1.out H2.out i1.sl.2 i2.sl.2 HL.out.2.2.1 HL.out.2.2.2.1).mono ?_
  rintro e w3 ⟨he, b'⟩
  rw [HV.out] at he
  subst he
  clear i1 i2
  have b3 := bel_next b2 b'
  have A3 := A2.below b'
  clear b2 A2 x0 x1 x2 x3 x4 x5 b'
  obtain ⟨x0, x1, x2, x3, x4, x5⟩ := A3.six
  have b' := bel_alloc w3 (.cells #[.int .i64 fk, .int .i64 fx, .int .i64 0, .int .i64 0, .slice none 0 0, .slice none 0 0] 28)
  have Q' := Blk.new w3 #[.int .i64 fk, .int .i64 fx, .int .i64 0, .int .i64 0, .slice none 0 0, .slice none 0 0] 28
  obtain ⟨w4, hw4⟩ : ∃ w4, w4 = w3.alloc (.cells #[.int .i64 fk, .int .i64 fx, .int .i64 0, .int .i64 0, .slice none 0 0, .slice none 0 0] 28) := ⟨_, rfl⟩
  rw [← hw4] at b' Q'
  have HW4 : Hid (w4 = _) := hw4
  obtain ⟨BW, hBW⟩ : ∃ BW, BW = w3.heap.size := ⟨_, rfl⟩
  rw [← hBW] at Q'
  have HBW : Hid (BW = w3.heap.size) := hBW
  clear hw4 hBW
  have b4 := bel_next b3 b'
  have A4 := A3.below b'
  clear b3 A3 x0 x1 x2 x3 x4 x5 b'
  obtain ⟨x0, x1, x2, x3, x4, x5⟩ := A4.six
  have W4 := Q'
  clear Q'
  obtain ⟨y0, y1, y2, y3, y4, y5⟩ := W4.six
  go_upto_region 6 with fail
  rw [← HW4.out]
  simp only [← HBW.out]
  go_wp2_with fail
  refine (toReq_any kd pl nn wa a1 a2 l1 l2 c1 c2 ws bs _ H1.out H2.out (S1.out.below b4) (S2.out.below b4) HL.out.1 HL.out.2.1).mono ?_
  rintro e w5 ⟨g3, g4, rfl, i5, j5, b'⟩
  have hB5 : Hid (w.heap.size ≤ w4.heap.size) := b4.size
  have b5 := bel_next b4 b'
  have A5 := A4.below b'
  have W5 := W4.below b'
  clear b4 A4 W4 x0 x1 x2 x3 x4 x5 y0 y1 y2 y3 y4 y5 b'
  obtain ⟨x0, x1, x2, x3, x4, x5⟩ := A5.six
  obtain ⟨y0, y1, y2, y3, y4, y5⟩ := W5.six
  have b' := bel_alloc w5 (.cells #[.int .i64 kd, .int .i64 pl, .int .i64 nn, .slice (some ⟨g3, 0, none⟩) l1 l1, .slice (some ⟨g4, 0, none⟩) l2 l2, .int .i64 wa] 30)
  have Q' := Blk.new w5 #[.int .i64 kd, .int .i64 pl, .int .i64 nn, .slice (some ⟨g3, 0, none⟩) l1 l1, .slice (some ⟨g4, 0, none⟩) l2 l2, .int .i64 wa] 30
  obtain ⟨w6, hw6⟩ : ∃ w6, w6 = w5.alloc (.cells #[.int .i64 kd, .int .i64 pl, .int .i64 nn, .slice (some ⟨g3, 0, none⟩) l1 l1, .slice (some ⟨g4, 0, none⟩) l2 l2, .int .i64 wa] 30) := ⟨_, rfl⟩
  rw [← hw6] at b' Q'
  have HW6 : Hid (w6 = _) := hw6
  obtain ⟨BX, hBX⟩ : ∃ BX, BX = w5.heap.size := ⟨_, rfl⟩
  rw [← hBX] at Q'
  have HBX : Hid (BX = w5.heap.size) := hBX
  clear hw6 hBX
  have b6 := bel_next b5 b'
  have i6 := i5.below b'
  have j6 := j5.below b'
  have A6 := A5.below b'
  have W6 := W5.below b'
  clear b5 i5 j5 A5 W5 x0 x1 x2 x3 x4 x5 y0 y1 y2 y3 y4 y5 b'
  obtain ⟨x0, x1, x2, x3, x4, x5⟩ := A6.six
  obtain ⟨y0, y1, y2, y3, y4, y5⟩ := W6.six
  have X6 := Q'
  clear Q'
  obtain ⟨z0, z1, z2, z3, z4, z5⟩ := X6.six
  go_upto_region 7 with fail
  rw [← HW6.out]
  simp only [← HBX.out]
  go_wp2_with fail
  refine (implFaultOf_q kd pl nn wa (some ⟨g3, 0, none⟩) (some ⟨g4, 0, none⟩) l1 l2 l1 l2 ws bs x _ H1.out H2.out i6.sl.2 j6.sl.2 HL.out.2.2.1 HL.out.2.2.2.1).mono ?_
  rintro e w7 ⟨he, b'⟩
  rw [HV.out] at he
  subst he
  have b7 := bel_next b6 b'
  have i7 := i6.below b'
  have j7 := j6.below b'
  have A7 := A6.below b'
  have W7 := W6.below b'
  have X7 := X6.below b'
  clear b6 i6 j6 A6 W6 X6 x0 x1 x2 x3 x4 x5 y0 y1 y2 y3 y4 y5 z0 z1 z2 z3 z4 z5 b'
  obtain ⟨x0, x1, x2, x3, x4, x5⟩ := A7.six
  obtain ⟨y0, y1, y2, y3, y4, y5⟩ := W7.six
  obtain ⟨z0, z1, z2, z3, z4, z5⟩ := X7.six
  have b' := bel_alloc w7 (.cells #[.int .i64 fk, .int .i64 fx, .int .i64 0, .int .i64 0, .slice none 0 0, .slice none 0 0] 28)
  have Q' := Blk.new w7 #[.int .i64 fk, .int .i64 fx, .int .i64 0, .int .i64 0, .slice none 0 0, .slice none 0 0] 28
  obtain ⟨w8, hw8⟩ : ∃ w8, w8 = w7.alloc (.cells #[.int .i64 fk, .int .i64 fx, .int .i64 0, .int .i64 0, .slice none 0 0, .slice none 0 0] 28) := ⟨_, rfl⟩
  rw [← hw8] at b' Q'
  have HW8 : Hid (w8 = _) := hw8
  obtain ⟨BG, hBG⟩ : ∃ BG, BG = w7.heap.size := ⟨_, rfl⟩
  rw [← hBG] at Q'
  have HBG : Hid (BG = w7.heap.size) := hBG
  clear hw8 hBG
  have b8 := bel_next b7 b'
  have i8 := i7.below b'
  have j8 := j7.below b'
  have A8 := A7.below b'
  have W8 := W7.below b'
  have X8 := X7.below b'
  clear b7 i7 j7 A7 W7 X7 x0 x1 x2 x3 x4 x5 y0 y1 y2 y3 y4 y5 z0 z1 z2 z3 z4 z5 b'
  obtain ⟨x0, x1, x2, x3, x4, x5⟩ := A8.six
  obtain ⟨y0, y1, y2, y3, y4, y5⟩ := W8.six
  obtain ⟨z0, z1, z2, z3, z4, z5⟩ := X8.six
  have G8 := Q'
  clear Q'
  obtain ⟨v0, v1, v2, v3, v4, v5⟩ := G8.six
  go_upto_region 8 with fail
  rw [← HW8.out]
  simp only [← HBG.out]
  go_wp2_with fail
  refine (eqResp_true fk fx 0 0 none none none none 0 0 0 0 0 0 0 0 [] [] _ rfl rfl rfl rfl (.inl rfl) (.inl rfl) (.inl rfl) (.inl rfl) (by simp) (by simp)).mono ?_
  rintro e w9 ⟨rfl, b'⟩
  have b9 := bel_next b8 b'
  have i9 := i8.below b'
  have j9 := j8.below b'
  have A9 := A8.below b'
  have W9 := W8.below b'
  have X9 := X8.below b'
  have G9 := G8.below b'
  clear b8 i8 j8 A8 W8 X8 G8 x0 x1 x2 x3 x4 x5 y0 y1 y2 y3 y4 y5 z0 z1 z2 z3 z4 z5 v0 v1 v2 v3 v4 v5 b'
  obtain ⟨x0, x1, x2, x3, x4, x5⟩ := A9.six
  obtain ⟨y0, y1, y2, y3, y4, y5⟩ := W9.six
  obtain ⟨z0, z1, z2, z3, z4, z5⟩ := X9.six
  obtain ⟨v0, v1, v2, v3, v4, v5⟩ := G9.six
  go_upto_region 10 with fail
  go_cut [35] (fun sX wx => sX = .bool false ∧ Below w9.heap.size w9 wx)
  case first =>
    go_region_with (first
      | (go_at_call 6; refine (toReq_any kd pl nn wa a1 a2 l1 l2 c1 c2 ws bs _ H1.out H2.out (S1.out.below ?_) (S2.out.below ?_) HL.out.1 HL.out.2.1).mono ?_; (first | exact b9 | exact b9.drew | exact b9.drew.drew | exact b9.drew.drew.drew); (first | exact b9 | exact b9.drew | exact b9.drew.drew | exact b9.drew.drew.drew); rintro e wa' ⟨g5, g6, rfl, ia, ja, ba'⟩; have ba := bel_next (Below.refl _ w9).drew ba'; have i6' := i9.below ba; have j6' := j9.below ba; obtain ⟨q0, q1, q2, q3, q4, q5⟩ := (X9.below ba).six; clear ba')
      | (go_at_call 9; refine (eqReq_true kd pl nn wa _ _ _ _ _ _ _ _ _ _ _ _ ws bs _ H1.out H2.out H1.out H2.out ?_ ?_ ?_ ?_ HL.out.2.2.1 HL.out.2.2.2.2).mono ?_; (first | exact i6'.sl.2 | exact (i6'.below (Below.refl _ _).drew).sl.2 | exact (i6'.below (Below.refl _ _).drew.drew).sl.2); (first | exact j6'.sl.2 | exact (j6'.below (Below.refl _ _).drew).sl.2 | exact (j6'.below (Below.refl _ _).drew.drew).sl.2); (first | exact ia.sl.2 | exact (ia.below (Below.refl _ _).drew).sl.2 | exact (ia.below (Below.refl _ _).drew.drew).sl.2); (first | exact ja.sl.2 | exact (ja.below (Below.refl _ _).drew).sl.2 | exact (ja.below (Below.refl _ _).drew.drew).sl.2); rintro e wb' ⟨rfl, bb'⟩; have bb := bel_next (by first | exact ba | exact ba.drew | exact ba.drew.drew) bb'; clear bb'))
    all_goals (go_wp2_with fail; go_meet; exact ⟨rfl, bb⟩)
  case rest =>
  obtain ⟨rfl, b'⟩ := hcut
  have b10 := bel_next b9 b'
  have i10 := i9.below b'
  have j10 := j9.below b'
  have A10 := A9.below b'
  have W10 := W9.below b'
  have X10 := X9.below b'
  have G10 := G9.below b'
  clear b9 i9 j9 A9 W9 X9 G9 x0 x1 x2 x3 x4 x5 y0 y1 y2 y3 y4 y5 z0 z1 z2 z3 z4 z5 v0 v1 v2 v3 v4 v5 b'
  obtain ⟨x0, x1, x2, x3, x4, x5⟩ := A10.six
  obtain ⟨y0, y1, y2, y3, y4, y5⟩ := W10.six
  obtain ⟨z0, z1, z2, z3, z4, z5⟩ := X10.six
  obtain ⟨v0, v1, v2, v3, v4, v5⟩ := G10.six
  go_wp2_with fail
  refine (markReq_any kd pl nn wa _ _ _ _ _ _ _ _ ws bs _ i10 j10 HL.out.1 HL.out.2.1).mono ?_
  rintro e wm ⟨rfl, _, _, kO, kB, kL⟩
  have b11 := kL _ _ b10 hB5.out hB5.out b10.size
  have A11 := kB _ _ _ A10 (by decide) (by decide)
  have W11 := kB _ _ _ W10 (by decide) (by decide)
  have G11 := kB _ _ _ G10 (by decide) (by decide)
  have f1 : ¬ ((1 : Int) + (l1 : Int) + (l2 : Int) < 0) := by omega
  clear b10 A10 W10 G10 X10 i10 j10 kO kB kL x0 y0 z0 v0 x1 y1 z1 v1 x2 y2 z2 v2 x3 y3 z3 v3 x4 y4 z4 v4 x5 y5 z5 v5
  obtain ⟨x0, x1, x2, x3, x4, x5⟩ := A11.six
  obtain ⟨y0, y1, y2, y3, y4, y5⟩ := W11.six
  obtain ⟨v0, v1, v2, v3, v4, v5⟩ := G11.six
  go_wp2_with fail
  refine (eqResp_true fk fx 0 0 none none none none 0 0 0 0 0 0 0 0 [] [] _ rfl rfl rfl rfl (.inl rfl) (.inl rfl) (.inl rfl) (.inl rfl) (by simp) (by simp)).mono ?_
  rintro e w12 ⟨rfl, b'⟩
  have b12 := bel_next b11 b'
  have A12 := A11.below b'
  have W12 := W11.below b'
  have G12 := G11.below b'
  clear b11 A11 W11 G11 x0 x1 x2 x3 x4 x5 y0 y1 y2 y3 y4 y5 v0 v1 v2 v3 v4 v5 b'
  obtain ⟨x0, x1, x2, x3, x4, x5⟩ := A12.six
  obtain ⟨y0, y1, y2, y3, y4, y5⟩ := W12.six
  obtain ⟨v0, v1, v2, v3, v4, v5⟩ := G12.six
  go_wp2_with fail
  refine (markResp_0 fk fx _).mono ?_
  rintro e w13 ⟨rfl, b'⟩
  have b13 := bel_next b12 b'
  have A13 := A12.below b'
  have W13 := W12.below b'
  have G13 := G12.below b'
  clear b12 A12 W12 G12 x0 x1 x2 x3 x4 x5 y0 y1 y2 y3 y4 y5 v0 v1 v2 v3 v4 v5 b'
  obtain ⟨x0, x1, x2, x3, x4, x5⟩ := A13.six
  obtain ⟨y0, y1, y2, y3, y4, y5⟩ := W13.six
  obtain ⟨v0, v1, v2, v3, v4, v5⟩ := G13.six
  go_wp2_with fail
  refine (heldResp_0 fk fx _).mono ?_
  rintro e w14 ⟨rfl, b'⟩
  have b14 := bel_next b13 b'
  have A14 := A13.below b'
  have W14 := W13.below b'
  have G14 := G13.below b'
  clear b13 A13 W13 G13 x0 x1 x2 x3 x4 x5 y0 y1 y2 y3 y4 y5 v0 v1 v2 v3 v4 v5 b'
  obtain ⟨x0, x1, x2, x3, x4, x5⟩ := A14.six
  obtain ⟨y0, y1, y2, y3, y4, y5⟩ := W14.six
  obtain ⟨v0, v1, v2, v3, v4, v5⟩ := G14.six
  go_wp2_with fail
  refine (toReq_any kd pl nn wa a1 a2 l1 l2 c1 c2 ws bs _ H1.out H2.out (S1.out.below b14) (S2.out.below b14) HL.out.1 HL.out.2.1).mono ?_
  rintro e w15 ⟨g7, g8, rfl, i7, j7, b'⟩
  have b15 := bel_next b14 b'
  have A15 := A14.below b'
  have W15 := W14.below b'
  have G15 := G14.below b'
  clear b14 A14 W14 G14 x0 x1 x2 x3 x4 x5 y0 y1 y2 y3 y4 y5 v0 v1 v2 v3 v4 v5 b'
  obtain ⟨x0, x1, x2, x3, x4, x5⟩ := A15.six
  obtain ⟨y0, y1, y2, y3, y4, y5⟩ := W15.six
  obtain ⟨v0, v1, v2, v3, v4, v5⟩ := G15.six
  go_wp2_with fail
  refine (implFaultOf_q kd pl nn wa (some ⟨g7, 0, none⟩) (some ⟨g8, 0, none⟩) l1 l2 l1 l2 ws bs x _ H1.out H2.out i7.sl.2 j7.sl.2 HL.out.2.2.1 HL.out.2.2.2.1).mono ?_
  rintro e w16 ⟨he, b'⟩
  rw [HV.out] at he
  subst he
  clear i7 j7
  have b16 := bel_next b15 b'
  have A16 := A15.below b'
  have W16 := W15.below b'
  have G16 := G15.below b'
  clear b15 A15 W15 G15 x0 x1 x2 x3 x4 x5 y0 y1 y2 y3 y4 y5 v0 v1 v2 v3 v4 v5 b'
  obtain ⟨x0, x1, x2, x3, x4, x5⟩ := A16.six
  obtain ⟨y0, y1, y2, y3, y4, y5⟩ := W16.six
  obtain ⟨v0, v1, v2, v3, v4, v5⟩ := G16.six
  have b' := bel_alloc w16 (.cells #[.int .i64 fk, .int .i64 fx, .int .i64 0, .int .i64 0, .slice none 0 0, .slice none 0 0] 28)
  have Q' := Blk.new w16 #[.int .i64 fk, .int .i64 fx, .int .i64 0, .int .i64 0, .slice none 0 0, .slice none 0 0] 28
  have b17 := bel_next b16 b'
  have A17 := A16.below b'
  have W17 := W16.below b'
  have G17 := G16.below b'
  clear b16 A16 W16 G16 x0 x1 x2 x3 x4 x5 y0 y1 y2 y3 y4 y5 v0 v1 v2 v3 v4 v5 b'
  obtain ⟨x0, x1, x2, x3, x4, x5⟩ := A17.six
  obtain ⟨y0, y1, y2, y3, y4, y5⟩ := W17.six
  obtain ⟨v0, v1, v2, v3, v4, v5⟩ := G17.six
  have H17 := Q'
  clear Q'
  obtain ⟨r0, r1, r2, r3, r4, r5⟩ := H17.six
  go_wp2_with fail
  refine (eqResp_true fk fx 0 0 none none none none 0 0 0 0 0 0 0 0 [] [] _ rfl rfl rfl rfl (.inl rfl) (.inl rfl) (.inl rfl) (.inl rfl) (by simp) (by simp)).mono ?_
  rintro e w18 ⟨rfl, b'⟩
  have b18 := bel_next b17 b'
  have A18 := A17.below b'
  have W18 := W17.below b'
  have G18 := G17.below b'
  have H18 := H17.below b'
  clear b17 A17 W17 G17 H17 x0 x1 x2 x3 x4 x5 y0 y1 y2 y3 y4 y5 v0 v1 v2 v3 v4 v5 r0 r1 r2 r3 r4 r5 b'
  obtain ⟨x0, x1, x2, x3, x4, x5⟩ := A18.six
  obtain ⟨y0, y1, y2, y3, y4, y5⟩ := W18.six
  obtain ⟨v0, v1, v2, v3, v4, v5⟩ := G18.six
  obtain ⟨r0, r1, r2, r3, r4, r5⟩ := H18.six
  go_wp2_with fail
  refine (heldResp_0 fk fx _).mono ?_
  rintro e w19 ⟨rfl, b'⟩
  have b19 := bel_next b18 b'
  have A19 := A18.below b'
  have W19 := W18.below b'
  have G19 := G18.below b'
  have H19 := H18.below b'
  clear b18 A18 W18 G18 H18 x0 x1 x2 x3 x4 x5 y0 y1 y2 y3 y4 y5 v0 v1 v2 v3 v4 v5 r0 r1 r2 r3 r4 r5 b'
  obtain ⟨x0, x1, x2, x3, x4, x5⟩ := A19.six
  obtain ⟨y0, y1, y2, y3, y4, y5⟩ := W19.six
  obtain ⟨v0, v1, v2, v3, v4, v5⟩ := G19.six
  obtain ⟨r0, r1, r2, r3, r4, r5⟩ := H19.six
  go_wp2
  go_ret
  exact ⟨rfl, b19⟩

end Go.Proofs.Ytgamicfcdkjleab
