/- The law of PutResp, walked. -/
import Derived.Test.YtgamicfcdkjleaaArgP
import Derived.Test.YtgamicfcdkjleaaP7
import Derived.Test.YtgamicfcdkjleaaMarkP
import Derived.Deep.RegionWith
namespace Go.Proofs.Ytgamicfcdkjleaa
open Go.RowKit

set_option linter.unusedVariables false

theorem putAV_len (kd fl pl nn : Int) (ws : List Int) (bs : List Bool) (l1 l2 : Nat) (h1 : l1 = ws.length) (h2 : l2 = bs.length) : (putAV (okA kd fl pl nn ws l1 l2) kd fl pl nn ws bs).length ≤ 300 := by
  cases hb : okA kd fl pl nn ws l1 l2
  · simp [putAV]
  · have hk : kindB kd = true := by unfold okA at hb; simp only [Bool.and_eq_true] at hb; exact hb.1
    by_cases h0 : fl = 0
    · subst h0
      obtain rfl | rfl | rfl | rfl | rfl | rfl | rfl | rfl | rfl | rfl := of_decide_eq_true hk
      all_goals (simp [okA, okAK, kindB, inB, zr4] at hb; simp [putAV, putA, wbs, wbs_length, packL_length]; try omega)
    · simp [putAV, putA, h0]

set_option maxRecDepth 20000 in
set_option maxHeartbeats 8000000 in
theorem putResp_law (kd fl pl nn : Int) (a1 a2 : Option Addr) (l1 l2 c1 c2 : Nat) (ws : List Int) (bs : List Bool) (w : World) (hq : InResp w kd fl pl nn a1 a2 l1 l2 ws bs) (hl : l1 + l2 ≤ 1048576) :
    Calls Try.prog 5 #[.agg #[.int .i64 kd, .int .i64 fl, .int .i64 pl, .int .i64 nn, .slice a1 l1 c1, .slice a2 l2 c2]] w fun e w' => e = .returned (.bool true) ∧ Below w.heap.size w w' := by
  obtain ⟨⟨h1, _, s1, _⟩, ⟨h2, s2⟩, _, _⟩ := hq
  have H1 : Hid (l1 = ws.length) := h1.symm
  have H2 : Hid (l2 = bs.length) := h2.symm
  have HL : Hid (l1 ≤ 2000000 ∧ l2 ≤ 2000000 ∧ ws.length ≤ 2000000 ∧ bs.length ≤ 2000000 ∧ bs.length ≤ 20000000) := by show _ ∧ _; omega
  have S1 : Hid (SlI w a1 ws) := s1
  have S2 : Hid (SlB w a2 bs) := s2
  have f0 : ¬ (1048576 - (l1 : Int) - (l2 : Int) < 0) := by omega
  obtain ⟨R, hR⟩ : ∃ R, R = putAV (okA kd fl pl nn ws l1 l2) kd fl pl nn ws bs := ⟨_, rfl⟩
  have HR : Hid (R = putAV (okA kd fl pl nn ws l1 l2) kd fl pl nn ws bs) := hR
  have HRl : Hid (R.length ≤ 300) := by show R.length ≤ 300; rw [hR]; exact putAV_len kd fl pl nn ws bs l1 l2 h1.symm h2.symm
  clear h1 h2 s1 s2 hR
  have b0 := bel_alloc w (.cells #[.int .i64 kd, .int .i64 fl, .int .i64 pl, .int .i64 nn, .slice a1 l1 c1, .slice a2 l2 c2] 37)
  have A0 := Blk.new w #[.int .i64 kd, .int .i64 fl, .int .i64 pl, .int .i64 nn, .slice a1 l1 c1, .slice a2 l2 c2] 37
  obtain ⟨x0, x1, x2, x3, x4, x5⟩ := A0.six
  go_enter Try.func5, Try.ntmps5
  go_wp2_with fail
  refine (szResp_at kd fl pl nn a1 a2 l1 l2 c1 c2 1048576 _ (by omega) (by omega)).mono ?_
  rintro e w1 ⟨rfl, b'⟩
  have b1 := bel_next b0 b'
  have A1 := A0.below b'
  clear b0 A0 x0 x1 x2 x3 x4 x5 b'
  obtain ⟨x0, x1, x2, x3, x4, x5⟩ := A1.six
  go_wp2_with fail
  refine (toResp_any kd fl pl nn a1 a2 l1 l2 c1 c2 ws bs _ H1.out H2.out (S1.out.below b1) (S2.out.below b1) HL.out.1 HL.out.2.1).mono ?_
  rintro e w2 ⟨g1, g2, rfl, i1, i2, b'⟩
  have b2 := bel_next b1 b'
  have A2 := A1.below b'
  clear b1 A1 x0 x1 x2 x3 x4 x5 b'
  obtain ⟨x0, x1, x2, x3, x4, x5⟩ := A2.six
  go_wp2_with fail
  refine (specPutA_q kd fl pl nn (some ⟨g1, 0, none⟩) (some ⟨g2, 0, none⟩) l1 l2 l1 l2 ws bs _ H1.out H2.out i1.sl.2 i2.sl.2 HL.out.2.2.1 HL.out.2.2.2.1).mono ?_
  rintro e w3 ⟨ao, co, no, rfl, hno, ro, b'⟩
  rw [← HR.out] at hno ro
  have HO : Hid (no = R.length) := hno
  clear hno i1 i2
  have b3 := bel_next b2 b'
  have A3 := A2.below b'
  clear b2 A2 x0 x1 x2 x3 x4 x5 b'
  obtain ⟨x0, x1, x2, x3, x4, x5⟩ := A3.six
  have O3 := ro
  clear ro
  have hB3 : Hid (w.heap.size ≤ w3.heap.size) := b3.size
  go_wp2_with fail
  refine (toResp_any kd fl pl nn a1 a2 l1 l2 c1 c2 ws bs _ H1.out H2.out (S1.out.below b3) (S2.out.below b3) HL.out.1 HL.out.2.1).mono ?_
  rintro e w4 ⟨g3, g4, rfl, I4, J4, b'⟩
  have b4 := bel_next b3 b'
  have O4 := O3.below b'
  have A4 := A3.below b'
  clear b3 O3 A3 x0 x1 x2 x3 x4 x5 b'
  obtain ⟨x0, x1, x2, x3, x4, x5⟩ := A4.six
  have hBi : Hid (w.heap.size ≤ w3.heap.size) := hB3.out
  have hBj : Hid (w.heap.size ≤ w3.heap.size) := hB3.out
  have i4 := I4
  have j4 := J4
  clear I4 J4
  have b' := bel_alloc w4 (.cells #[.int .i64 kd, .int .i64 fl, .int .i64 pl, .int .i64 nn, .slice (some ⟨g3, 0, none⟩) l1 l1, .slice (some ⟨g4, 0, none⟩) l2 l2] 40)
  have X' := Blk.new w4 #[.int .i64 kd, .int .i64 fl, .int .i64 pl, .int .i64 nn, .slice (some ⟨g3, 0, none⟩) l1 l1, .slice (some ⟨g4, 0, none⟩) l2 l2] 40
  have b5 := bel_next b4 b'
  have O5 := O4.below b'
  have i5 := i4.below b'
  have j5 := j4.below b'
  have A5 := A4.below b'
  clear b4 O4 i4 j4 A4 x0 x1 x2 x3 x4 x5 b'
  obtain ⟨x0, x1, x2, x3, x4, x5⟩ := A5.six
  have X5 := X'
  clear X'
  obtain ⟨y0, y1, y2, y3, y4, y5⟩ := X5.six
  go_wp2_with fail
  refine (implPutA_q kd fl pl nn (some ⟨g3, 0, none⟩) (some ⟨g4, 0, none⟩) l1 l2 l1 l2 ws bs _ H1.out H2.out i5.sl.2 j5.sl.2 HL.out.2.2.1 HL.out.2.2.2.1).mono ?_
  rintro e w6 ⟨ag, cg, ng, rfl, hng, rg, b'⟩
  rw [← HR.out] at hng rg
  have HG : Hid (ng = R.length) := hng
  have neOG := own_ne O5 rg (Nat.le_refl _)
  have sBG := b5.size
  have hng3 : Hid (ng ≤ 3000000) := by show ng ≤ 3000000; have := HRl.out; omega
  clear hng
  have b6 := bel_next b5 b'
  have O6 := O5.below b'
  have i6 := i5.below b'
  have j6 := j5.below b'
  have A6 := A5.below b'
  have X6 := X5.below b'
  clear b5 O5 i5 j5 A5 X5 x0 x1 x2 x3 x4 x5 y0 y1 y2 y3 y4 y5 b'
  obtain ⟨x0, x1, x2, x3, x4, x5⟩ := A6.six
  obtain ⟨y0, y1, y2, y3, y4, y5⟩ := X6.six
  have G6 := own_mono rg sBG
  clear rg sBG
  go_wp2_with fail
  refine (eqB_ok _ _ _ _ _ _ R _ HG.out HO.out G6.sl.2 O6.sl.2 HRl.out).mono ?_
  rintro e w7 ⟨rfl, b'⟩
  have b7 := bel_next b6 b'
  have O7 := O6.below b'
  have i7 := i6.below b'
  have j7 := j6.below b'
  have G7 := G6.below b'
  have A7 := A6.below b'
  have X7 := X6.below b'
  clear b6 O6 i6 j6 G6 A6 X6 x0 x1 x2 x3 x4 x5 y0 y1 y2 y3 y4 y5 b'
  obtain ⟨x0, x1, x2, x3, x4, x5⟩ := A7.six
  obtain ⟨y0, y1, y2, y3, y4, y5⟩ := X7.six
  go_upto_region 10 with fail
  go_cut [31] (fun sX wx => sX = .bool false ∧ Below w7.heap.size w7 wx)
  case first =>
    go_region_with (first
      | (go_at_call 18; refine (toResp_any kd fl pl nn a1 a2 l1 l2 c1 c2 ws bs _ H1.out H2.out (S1.out.below ?_) (S2.out.below ?_) HL.out.1 HL.out.2.1).mono ?_; (first | exact b7 | exact b7.drew | exact b7.drew.drew | exact b7.drew.drew.drew); (first | exact b7 | exact b7.drew | exact b7.drew.drew | exact b7.drew.drew.drew); rintro e wa' ⟨g5, g6, rfl, ia, ja, ba'⟩; have ba := bel_next (Below.refl _ w7).drew ba'; have Xa := X7.below ba; have i6' := i7.below ba; have j6' := j7.below ba; obtain ⟨u0, u1, u2, u3, u4, u5⟩ := Xa.six; clear ba' Xa)
      | (go_at_call 20; refine (eqResp_true kd fl pl nn _ _ _ _ _ _ _ _ _ _ _ _ ws bs _ H1.out H2.out H1.out H2.out ?_ ?_ ?_ ?_ HL.out.2.2.1 HL.out.2.2.2.1).mono ?_; (first | exact i6'.sl.2 | exact (i6'.below (Below.refl _ _).drew).sl.2 | exact (i6'.below (Below.refl _ _).drew.drew).sl.2); (first | exact j6'.sl.2 | exact (j6'.below (Below.refl _ _).drew).sl.2 | exact (j6'.below (Below.refl _ _).drew.drew).sl.2); (first | exact ia.sl.2 | exact (ia.below (Below.refl _ _).drew).sl.2 | exact (ia.below (Below.refl _ _).drew.drew).sl.2); (first | exact ja.sl.2 | exact (ja.below (Below.refl _ _).drew).sl.2 | exact (ja.below (Below.refl _ _).drew.drew).sl.2); rintro e wb' ⟨rfl, bb'⟩; have bb := bel_next (by first | exact ba | exact ba.drew | exact ba.drew.drew) bb'; clear bb'))
    all_goals (go_wp2_with fail; go_meet; exact ⟨rfl, bb⟩)
  case rest =>
  obtain ⟨rfl, b'⟩ := hcut
  have b8 := bel_next b7 b'
  have O8 := O7.below b'
  have i8 := i7.below b'
  have j8 := j7.below b'
  have G8 := G7.below b'
  have A8 := A7.below b'
  have X8 := X7.below b'
  clear b7 O7 i7 j7 G7 A7 X7 x0 x1 x2 x3 x4 x5 y0 y1 y2 y3 y4 y5 b'
  obtain ⟨x0, x1, x2, x3, x4, x5⟩ := A8.six
  obtain ⟨y0, y1, y2, y3, y4, y5⟩ := X8.six
  go_wp2_with fail
  refine (markResp_2 kd fl pl nn _ _ _ _ _ _ _ _ ws bs _ i8 j8 HL.out.1 HL.out.2.1).mono ?_
  rintro e wm ⟨rfl, _, _, _, _, kO, kB, kL⟩
  have b9 := kL _ _ b8 hBi.out hBj.out b8.size
  have O9 := kO _ _ _ O8
  have G9 := kO _ _ _ G8
  have A9 := kB _ _ _ A8 (by decide) (by decide)
  have f1 : ¬ ((1 : Int) + (l1 : Int) + (l2 : Int) < 0) := by omega
  clear b8 O8 G8 A8 X8 i8 j8 kO kB kL x0 y0 x1 y1 x2 y2 x3 y3 x4 y4 x5 y5
  obtain ⟨x0, x1, x2, x3, x4, x5⟩ := A9.six
  go_wp2_with fail
  refine (eqB_ok _ _ _ _ _ _ R _ HG.out HO.out G9.sl.2 O9.sl.2 HRl.out).mono ?_
  rintro e w10 ⟨rfl, b'⟩
  have b10 := bel_next b9 b'
  have O10 := O9.below b'
  have G10 := G9.below b'
  have A10 := A9.below b'
  clear b9 O9 G9 A9 x0 x1 x2 x3 x4 x5 b'
  obtain ⟨x0, x1, x2, x3, x4, x5⟩ := A10.six
  go_wp2_with fail
  refine (markByteS_any _ _ _ _ R _ G10 hng3.out).mono ?_
  rintro e wn ⟨rfl, rG, gr⟩
  have b11 := bel_grown b10 G10 gr (Nat.le_refl _) b10.size
  have O11 := O10.kept gr neOG.1
  have A11 := A10.row G10 gr (by decide)
  have G11 := rG
  clear b10 O10 A10 G10 rG gr x0 x1 x2 x3 x4 x5
  obtain ⟨x0, x1, x2, x3, x4, x5⟩ := A11.six
  go_wp2_with fail
  refine (heldByteS_any _ _ _ _ G11.sl.2 hng3.out).mono ?_
  rintro e wh11 ⟨rfl, rfl⟩
  have f2 : ¬ ((ng : Int) + 1 < 0) := by omega
  go_wp2_with fail
  refine (toResp_any kd fl pl nn a1 a2 l1 l2 c1 c2 ws bs _ H1.out H2.out (S1.out.below b11) (S2.out.below b11) HL.out.1 HL.out.2.1).mono ?_
  rintro e w12 ⟨g7, g8, rfl, i7, j7, b'⟩
  have I7 := i7
  have J7 := j7
  clear i7 j7
  have b12 := bel_next b11 b'
  have O12 := O11.below b'
  have G12 := G11.below b'
  have A12 := A11.below b'
  clear b11 O11 G11 A11 x0 x1 x2 x3 x4 x5 b'
  obtain ⟨x0, x1, x2, x3, x4, x5⟩ := A12.six
  go_wp2_with fail
  refine (implPutA_q kd fl pl nn (some ⟨g7, 0, none⟩) (some ⟨g8, 0, none⟩) l1 l2 l1 l2 ws bs _ H1.out H2.out I7.sl.2 J7.sl.2 HL.out.2.2.1 HL.out.2.2.2.1).mono ?_
  rintro e w13 ⟨ah, ch, nh, rfl, hnh, rh, b'⟩
  rw [← HR.out] at hnh rh
  have HH : Hid (nh = R.length) := hnh
  clear hnh I7 J7
  have b13 := bel_next b12 b'
  have O13 := O12.below b'
  have G13 := G12.below b'
  have A13 := A12.below b'
  clear b12 O12 G12 A12 x0 x1 x2 x3 x4 x5 b'
  obtain ⟨x0, x1, x2, x3, x4, x5⟩ := A13.six
  have Z13 := rh
  clear rh
  go_wp2_with fail
  refine (eqB_ok _ _ _ _ _ _ R _ HH.out HO.out Z13.sl.2 O13.sl.2 HRl.out).mono ?_
  rintro e w14 ⟨rfl, b'⟩
  have b14 := bel_next b13 b'
  have O14 := O13.below b'
  have G14 := G13.below b'
  have Z14 := Z13.below b'
  have A14 := A13.below b'
  clear b13 O13 G13 Z13 A13 x0 x1 x2 x3 x4 x5 b'
  obtain ⟨x0, x1, x2, x3, x4, x5⟩ := A14.six
  go_wp2_with fail
  refine (heldByteS_any _ _ _ _ G14.sl.2 hng3.out).mono ?_
  rintro e wh14 ⟨rfl, rfl⟩
  go_wp2
  go_ret
  exact ⟨rfl, b14⟩

end Go.Proofs.Ytgamicfcdkjleaa
