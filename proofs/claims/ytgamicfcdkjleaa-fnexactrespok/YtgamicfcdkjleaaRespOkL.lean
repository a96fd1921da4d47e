/- The law of FnExactRespOk, walked. -/
import Derived.Test.YtgamicfcdkjleaaP5
import Derived.Test.YtgamicfcdkjleaaArgP
import Derived.Deep.RegionWith
namespace Go.Proofs.Ytgamicfcdkjleaa
open Go.RowKit

set_option maxRecDepth 20000 in
set_option maxHeartbeats 8000000 in
theorem respOk_law (kd fl pl nn : Int) (a1 a2 : Option Addr) (l1 l2 c1 c2 : Nat) (ws : List Int) (bs : List Bool) (w : World) (hq : InResp w kd fl pl nn a1 a2 l1 l2 ws bs) (hl : l1 + l2 ≤ 1048576) :
    Calls Try.prog 4 #[.agg #[.int .i64 kd, .int .i64 fl, .int .i64 pl, .int .i64 nn, .slice a1 l1 c1, .slice a2 l2 c2]] w fun e w' => e = .returned (.bool true) ∧ Below w.heap.size w w' := by
  obtain ⟨⟨h1, _, s1, wf1⟩, ⟨h2, s2⟩, _, wf0⟩ := hq
  have H1 : Hid (l1 = ws.length) := h1.symm
  have H2 : Hid (l2 = bs.length) := h2.symm
  have HL : Hid (l1 ≤ 2000000 ∧ l2 ≤ 2000000 ∧ ws.length ≤ 2000000 ∧ bs.length ≤ 20000000) := by show _ ∧ _; omega
  have HB : Hid (bs.length ≤ 2000000) := by show bs.length ≤ 2000000; omega
  have S1 : Hid (SlI w a1 ws) := s1
  have S2 : Hid (SlB w a2 bs) := s2
  have WF : Hid ((∀ n ∈ ws, -9223372036854775808 ≤ n ∧ n ≤ 9223372036854775807) ∧ (Lit.int .i64 kd).wf = true ∧ (Lit.int .i64 fl).wf = true ∧ (Lit.int .i64 pl).wf = true ∧ (Lit.int .i64 nn).wf = true) := ⟨wf1, wf0⟩
  have f0 : ¬ (1048576 - (l1 : Int) - (l2 : Int) < 0) := by omega
  clear h1 h2 s1 s2 wf1 wf0
  have b0 := bel_alloc w (.cells #[.int .i64 kd, .int .i64 fl, .int .i64 pl, .int .i64 nn, .slice a1 l1 c1, .slice a2 l2 c2] 37)
  have A0 := Blk.new w #[.int .i64 kd, .int .i64 fl, .int .i64 pl, .int .i64 nn, .slice a1 l1 c1, .slice a2 l2 c2] 37
  obtain ⟨x0, x1, x2, x3, x4, x5⟩ := A0.six
  go_enter Try.func4, Try.ntmps4
  go_wp2_with fail
  refine (szResp_at kd fl pl nn a1 a2 l1 l2 c1 c2 1048576 _ (by omega) (by omega)).mono ?_
  rintro e w1 ⟨rfl, b'⟩
  have b1 := bel_next b0 b'
  have A1 := A0.below b'
  clear b' b0 A0
  clear x0 x1 x2 x3 x4 x5
  obtain ⟨x0, x1, x2, x3, x4, x5⟩ := A1.six
  go_wp2_with fail
  refine (toResp_any kd fl pl nn a1 a2 l1 l2 c1 c2 ws bs _ H1.out H2.out (S1.out.below b1) (S2.out.below b1) HL.out.1 HL.out.2.1).mono ?_
  rintro e w2 ⟨g1, g2, rfl, i1, i2, b'⟩
  have b2 := bel_next b1 b'
  have A2 := A1.below b'
  clear b' b1 A1
  clear x0 x1 x2 x3 x4 x5
  have SS : Hid (SlI w2 (some ⟨g1, 0, none⟩) ws ∧ SlB w2 (some ⟨g2, 0, none⟩) bs) := ⟨i1.sl.2, i2.sl.2⟩
  clear i1 i2
  go_wp2_with fail
  refine (specRespOk_q kd fl pl nn (some ⟨g1, 0, none⟩) (some ⟨g2, 0, none⟩) l1 l2 l1 l2 ws bs _ H1.out H2.out SS.out.1 SS.out.2 HL.out.2.2.1 HB.out).mono ?_
  rintro e w3 ⟨rfl, b'⟩
  clear SS
  have b3 := bel_next b2 b'
  have A3 := A2.below b'
  clear b' b2 A2
  obtain ⟨x0, x1, x2, x3, x4, x5⟩ := A3.six
  go_wp2_with fail
  refine (toResp_any kd fl pl nn a1 a2 l1 l2 c1 c2 ws bs _ H1.out H2.out (S1.out.below b3) (S2.out.below b3) HL.out.1 HL.out.2.1).mono ?_
  rintro e w4 ⟨g3, g4, rfl, i4, j4, b'⟩
  have b4 := bel_next b3 b'
  have A4 := A3.below b'
  clear b' b3 A3
  clear x0 x1 x2 x3 x4 x5
  have b' := bel_alloc w4 (.cells #[.int .i64 kd, .int .i64 fl, .int .i64 pl, .int .i64 nn, .slice (some ⟨g3, 0, none⟩) l1 l1, .slice (some ⟨g4, 0, none⟩) l2 l2] 40)
  have X5 := Blk.new w4 #[.int .i64 kd, .int .i64 fl, .int .i64 pl, .int .i64 nn, .slice (some ⟨g3, 0, none⟩) l1 l1, .slice (some ⟨g4, 0, none⟩) l2 l2] 40
  have b5 := bel_next b4 b'
  have i5 := i4.below b'
  have j5 := j4.below b'
  have A5 := A4.below b'
  clear b' b4 i4 j4 A4
  obtain ⟨y0, y1, y2, y3, y4, y5⟩ := X5.six
  go_wp2_with fail
  refine (implRespOk_q kd fl pl nn (some ⟨g3, 0, none⟩) (some ⟨g4, 0, none⟩) l1 l2 l1 l2 ws bs _ H1.out H2.out i5.sl.2 j5.sl.2 HL.out.2.2.1 HB.out).mono ?_
  rintro e w6 ⟨rfl, b'⟩
  clear y0 y1 y2 y3 y4 y5
  have b6 := bel_next b5 b'
  have i6 := i5.below b'
  have j6 := j5.below b'
  have A6 := A5.below b'
  have X6 := X5.below b'
  clear b' b5 i5 j5 A5 X5
  obtain ⟨x0, x1, x2, x3, x4, x5⟩ := A6.six
  obtain ⟨y0, y1, y2, y3, y4, y5⟩ := X6.six
  go_upto_region 10 with fail
  go_cut [26] (fun sX wx => sX = .bool false ∧ Below w.heap.size w wx)
  case first =>
    go_region_with (first
      | (go_at_call 18; refine (toResp_any kd fl pl nn a1 a2 l1 l2 c1 c2 ws bs _ H1.out H2.out (S1.out.below ?_) (S2.out.below ?_) HL.out.1 HL.out.2.1).mono ?_; (first | exact b6 | exact b6.drew | exact b6.drew.drew | exact b6.drew.drew.drew); (first | exact b6 | exact b6.drew | exact b6.drew.drew | exact b6.drew.drew.drew); rintro e w7 ⟨g5, g6, rfl, i7, j7, b7'⟩; have b7 := bel_next b6.drew b7'; have X7 := (X6.below (Below.refl _ _).drew).below b7'; have i6' := (i6.below (Below.refl _ _).drew).below b7'; have j6' := (j6.below (Below.refl _ _).drew).below b7'; obtain ⟨u0, u1, u2, u3, u4, u5⟩ := X7.six; clear b7' X7)
      | (go_at_call 20; refine (eqResp_true kd fl pl nn _ _ _ _ _ _ _ _ _ _ _ _ ws bs _ H1.out H2.out H1.out H2.out ?_ ?_ ?_ ?_ HL.out.2.2.1 HB.out).mono ?_; (first | exact i6'.sl.2 | exact (i6'.below (Below.refl _ _).drew).sl.2 | exact (i6'.below (Below.refl _ _).drew.drew).sl.2); (first | exact j6'.sl.2 | exact (j6'.below (Below.refl _ _).drew).sl.2 | exact (j6'.below (Below.refl _ _).drew.drew).sl.2); (first | exact i7.sl.2 | exact (i7.below (Below.refl _ _).drew).sl.2 | exact (i7.below (Below.refl _ _).drew.drew).sl.2); (first | exact j7.sl.2 | exact (j7.below (Below.refl _ _).drew).sl.2 | exact (j7.below (Below.refl _ _).drew.drew).sl.2); rintro e w8 ⟨rfl, b8'⟩; have b8 := bel_next (by first | exact b7 | exact b7.drew | exact b7.drew.drew) b8'; clear b8'))
    all_goals (go_wp2_with fail; go_meet; exact ⟨rfl, b8⟩)
  case rest =>
  obtain ⟨rfl, b9⟩ := hcut
  go_wp2
  go_ret
  exact ⟨rfl, b9⟩

end Go.Proofs.Ytgamicfcdkjleaa
