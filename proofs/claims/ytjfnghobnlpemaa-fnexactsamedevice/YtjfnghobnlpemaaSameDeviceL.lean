/- The law of FnExactSameDevice, walked. -/
import Derived.Test.YtjfnghobnlpemaaDev2
import Derived.Test.YtjfnghobnlpemaaArgD
import Derived.Deep.RegionWith
import Derived.Deep.RegionHeld3
import Derived.Deep.Cut
import Derived.Deep.CutRange
namespace Go.Proofs.Ytjfnghobnlpemaa
open Go.RowKit

set_option linter.unusedVariables false

set_option maxRecDepth 20000 in
set_option maxHeartbeats 16000000 in
theorem sameDevice_law (a1 a2 a3 a4 : Option Addr) (l1 l2 l3 l4 c1 c2 c3 c4 : Nat) (cs is : List Bool) (hs rs : List Int) (x1 x2 x3 x4 : Option Addr) (m1 m2 m3 m4 d1 d2 d3 d4 : Nat) (cs2 is2 : List Bool) (hs2 rs2 : List Int) (w : World) (hq : InDev w a1 a2 a3 a4 l1 l2 l3 l4 cs is hs rs) (hq2 : InDev w x1 x2 x3 x4 m1 m2 m3 m4 cs2 is2 hs2 rs2) (hl : (l1 : Int) + (l2 : Int) + (l3 : Int) + (l4 : Int) + (m1 : Int) + (m2 : Int) + (m3 : Int) + (m4 : Int) ≤ 1048576) :
    Calls Try.prog 11 #[.agg #[.slice a1 l1 c1, .slice a2 l2 c2, .slice a3 l3 c3, .slice a4 l4 c4], .agg #[.slice x1 m1 d1, .slice x2 m2 d2, .slice x3 m3 d3, .slice x4 m4 d4]] w fun e w' => e = .returned (.bool true) ∧ Below w.heap.size w w' := by
  obtain ⟨⟨⟨h1, s1⟩, _⟩, ⟨⟨h2, s2⟩, _⟩, ⟨h3, _, s3, _⟩, h4, _, s4, _⟩ := hq
  obtain ⟨⟨⟨k1, t1⟩, _⟩, ⟨⟨k2, t2⟩, _⟩, ⟨k3, _, t3, _⟩, k4, _, t4, _⟩ := hq2
  have HN : Hid (LnD l1 l2 l3 l4 cs is hs rs ∧ LnD m1 m2 m3 m4 cs2 is2 hs2 rs2) := ⟨⟨h1.symm, h2.symm, h3.symm, h4.symm⟩, k1.symm, k2.symm, k3.symm, k4.symm⟩
  have HL : Hid (SmD 2000000 cs is hs rs ∧ SmD 2000000 cs2 is2 hs2 rs2) := by unfold SmD; show _ ∧ _; omega
  have HS : Hid (SlD w a1 a2 a3 a4 cs is hs rs ∧ SlD w x1 x2 x3 x4 cs2 is2 hs2 rs2) := ⟨⟨s1, s2, s3, s4⟩, t1, t2, t3, t4⟩
  have f0 : ¬ (1048576 - (l1 : Int) - (l2 : Int) - (l3 : Int) - (l4 : Int) < 0) := by omega
  have f1 : ¬ (1048576 - (l1 : Int) - (l2 : Int) - (l3 : Int) - (l4 : Int) - (m1 : Int) - (m2 : Int) - (m3 : Int) - (m4 : Int) < 0) := by omega
  have F2 : Hid ((l1 : Int) + (l2 : Int) + (l3 : Int) + (l4 : Int) ≤ 1048576 ∧ 1048576 - (l1 : Int) - (l2 : Int) - (l3 : Int) - (l4 : Int) ≤ 1048576 ∧ (m1 : Int) + (m2 : Int) + (m3 : Int) + (m4 : Int) ≤ 1048576 - (l1 : Int) - (l2 : Int) - (l3 : Int) - (l4 : Int)) := by show _ ∧ _; omega
  obtain ⟨V, hV⟩ : ∃ V, V = sdB cs is hs rs cs2 is2 hs2 rs2 := ⟨_, rfl⟩
  have HV : Hid (V = _) := hV
  clear h1 h2 h3 h4 s1 s2 s3 s4 k1 k2 k3 k4 t1 t2 t3 t4 hV hl
  obtain ⟨w0, hw0⟩ : ∃ x, x = (w.alloc (.cells #[.slice a1 l1 c1, .slice a2 l2 c2, .slice a3 l3 c3, .slice a4 l4 c4] 57)).alloc (.cells #[.slice x1 m1 d1, .slice x2 m2 d2, .slice x3 m3 d3, .slice x4 m4 d4] 57) := ⟨_, rfl⟩
  have HW0 : Hid (w0 = _) := hw0
  have b0 : Below w.heap.size w w0 := by rw [hw0]; exact bel_next (bel_alloc w _) (bel_alloc _ _)
  have A0 : Blk w0 w.heap.size 57 #[.slice a1 l1 c1, .slice a2 l2 c2, .slice a3 l3 c3, .slice a4 l4 c4] := by rw [hw0]; exact (Blk.new w _ _).below (bel_alloc _ _)
  have D0 : Blk w0 (w.heap.size + 1) 57 #[.slice x1 m1 d1, .slice x2 m2 d2, .slice x3 m3 d3, .slice x4 m4 d4] := by rw [hw0]; have := Blk.new (w.alloc (.cells #[.slice a1 l1 c1, .slice a2 l2 c2, .slice a3 l3 c3, .slice a4 l4 c4] 57)) #[.slice x1 m1 d1, .slice x2 m2 d2, .slice x3 m3 d3, .slice x4 m4 d4] 57; simpa using this
  clear hw0
  obtain ⟨ca0, ca1, ca2, ca3⟩ := A0.four
  obtain ⟨cd0, cd1, cd2, cd3⟩ := D0.four
  go_enter Try.func11, Try.ntmps11
  go_upto_region 1 with fail
  rw [← HW0.out]
  go_wp2_with fail
  refine (szDevice_at a1 a2 a3 a4 l1 l2 l3 l4 c1 c2 c3 c4 1048576 _ (by omega) F2.out.1).mono ?_
  rintro e w1 ⟨rfl, b'⟩
  have b1 := bel_next b0 b'
  have A1 := A0.below b'
  have D1 := D0.below b'
  clear b' b0 A0 ca0 ca1 ca2 ca3 D0 cd0 cd1 cd2 cd3 
  obtain ⟨ca0, ca1, ca2, ca3⟩ := A1.four
  obtain ⟨cd0, cd1, cd2, cd3⟩ := D1.four
  go_wp2_with fail
  refine (szDevice_at x1 x2 x3 x4 m1 m2 m3 m4 d1 d2 d3 d4 _ _ F2.out.2.1 F2.out.2.2).mono ?_
  rintro e w2 ⟨rfl, b'⟩
  have b2 := bel_next b1 b'
  have A2 := A1.below b'
  have D2 := D1.below b'
  clear b' b1 A1 ca0 ca1 ca2 ca3 D1 cd0 cd1 cd2 cd3 
  obtain ⟨ca0, ca1, ca2, ca3⟩ := A2.four
  obtain ⟨cd0, cd1, cd2, cd3⟩ := D2.four
  go_upto_region 8 with fail
  go_cut [6] (fun s6 wx => s6 = .bool V ∧ Below w2.heap.size w2 wx)
  case first =>
    have e2 : Below w2.heap.size w2 w2.drew := (Below.refl _ _).drew
    go_region_held3 (fun w' => w'.cell? ⟨w.heap.size, 0, none⟩ = some (.slice a1 l1 c1) ∧ w'.cell? ⟨w.heap.size, 1, none⟩ = some (.slice a2 l2 c2) ∧ w'.cell? ⟨w.heap.size, 2, none⟩ = some (.slice a3 l3 c3) ∧ w'.cell? ⟨w.heap.size, 3, none⟩ = some (.slice a4 l4 c4) ∧ w'.cell? ⟨w.heap.size + 1, 0, none⟩ = some (.slice x1 m1 d1) ∧ w'.cell? ⟨w.heap.size + 1, 1, none⟩ = some (.slice x2 m2 d2) ∧ w'.cell? ⟨w.heap.size + 1, 2, none⟩ = some (.slice x3 m3 d3) ∧ w'.cell? ⟨w.heap.size + 1, 3, none⟩ = some (.slice x4 m4 d4)) (go_keep)
      (first
        | (go_at_call 35; have BA' := BA; clear BA'; refine (toDevice_any x1 x2 x3 x4 m1 m2 m3 m4 d1 d2 d3 d4 cs2 is2 hs2 rs2 _ HN.out.2 (HS.out.2.below (bel_next b2 BA)) HL.out.2).mono ?_; rintro e wB ⟨h1, h2, h3, h4, rfl, iB, bB⟩; have BB := bel_next BA bB; have iA' := iA.below bB; obtain ⟨xb0, xb1, xb2, xb3⟩ := (A2.below BB).four; obtain ⟨db0, db1, db2, db3⟩ := (D2.below BB).four; clear bB)
        | (go_at_call 35; refine (toDevice_any a1 a2 a3 a4 l1 l2 l3 l4 c1 c2 c3 c4 cs is hs rs _ HN.out.1 (HS.out.1.below (by first | exact b2 | exact b2.drew)) HL.out.1).mono ?_; rintro e wA ⟨g1, g2, g3, g4, rfl, iA, bA⟩; have BA : Below w2.heap.size w2 wA := (by first | exact bel_next e2 bA | exact bA); obtain ⟨xa0, xa1, xa2, xa3⟩ := (A2.below BA).four; obtain ⟨da0, da1, da2, da3⟩ := (D2.below BA).four; clear bA)
        | (go_at_call 47; refine (specSame_any (some ⟨g1, 0, none⟩) (some ⟨g2, 0, none⟩) (some ⟨g3, 0, none⟩) (some ⟨g4, 0, none⟩) l1 l2 l3 l4 l1 l2 l3 l4 (some ⟨h1, 0, none⟩) (some ⟨h2, 0, none⟩) (some ⟨h3, 0, none⟩) (some ⟨h4, 0, none⟩) m1 m2 m3 m4 m1 m2 m3 m4 cs is hs rs cs2 is2 hs2 rs2 _ HN.out.1 HN.out.2 iA'.sl.2 iB.sl.2 HL.out.1 HL.out.2 _ HV.out.symm).mono ?_; rintro e wC ⟨rfl, bC⟩; have BC := bel_next BB bC; obtain ⟨xc0, xc1, xc2, xc3⟩ := (A2.below BC).four; obtain ⟨dc0, dc1, dc2, dc3⟩ := (D2.below BC).four; clear bC))
    all_goals (go_wp2_with fail; go_meet; exact ⟨rfl, BC⟩)
  case rest =>
  obtain ⟨rfl, b'⟩ := hcut
  obtain ⟨w3, hw3⟩ : ∃ x, x = wc := ⟨_, rfl⟩
  rw [← hw3] at b' ⊢
  clear hw3
  have b3 := bel_next b2 b'
  have A3 := A2.below b'
  have D3 := D2.below b'
  clear b' b2 A2 ca0 ca1 ca2 ca3 D2 cd0 cd1 cd2 cd3 
  obtain ⟨ca0, ca1, ca2, ca3⟩ := A3.four
  obtain ⟨cd0, cd1, cd2, cd3⟩ := D3.four
  go_wp2_with fail
  refine (toDevice_any a1 a2 a3 a4 l1 l2 l3 l4 c1 c2 c3 c4 cs is hs rs _ HN.out.1 (HS.out.1.below b3) HL.out.1).mono ?_
  rintro e w4 ⟨k1, k2, k3, k4, rfl, q', b'⟩
  have b4 := bel_next b3 b'
  have A4 := A3.below b'
  have D4 := D3.below b'
  clear b' b3 A3 ca0 ca1 ca2 ca3 D3 cd0 cd1 cd2 cd3 
  obtain ⟨ca0, ca1, ca2, ca3⟩ := A4.four
  obtain ⟨cd0, cd1, cd2, cd3⟩ := D4.four
  have I4 := q'
  clear q'
  have b' := bel_alloc w4 (.cells #[.slice (some ⟨k1, 0, none⟩) l1 l1, .slice (some ⟨k2, 0, none⟩) l2 l2, .slice (some ⟨k3, 0, none⟩) l3 l3, .slice (some ⟨k4, 0, none⟩) l4 l4] 36)
  have Q' := Blk.new w4 #[.slice (some ⟨k1, 0, none⟩) l1 l1, .slice (some ⟨k2, 0, none⟩) l2 l2, .slice (some ⟨k3, 0, none⟩) l3 l3, .slice (some ⟨k4, 0, none⟩) l4 l4] 36
  obtain ⟨w5, hw5⟩ : ∃ x, x = w4.alloc (.cells #[.slice (some ⟨k1, 0, none⟩) l1 l1, .slice (some ⟨k2, 0, none⟩) l2 l2, .slice (some ⟨k3, 0, none⟩) l3 l3, .slice (some ⟨k4, 0, none⟩) l4 l4] 36) := ⟨_, rfl⟩
  rw [← hw5] at b' Q'
  have HW5 : Hid (w5 = _) := hw5
  obtain ⟨BX, hBX⟩ : ∃ x, x = w4.heap.size := ⟨_, rfl⟩
  rw [← hBX] at Q'
  have HBX : Hid (BX = w4.heap.size) := hBX
  clear hw5 hBX
  have b5 := bel_next b4 b'
  have I5 := I4.below b'
  have A5 := A4.below b'
  have D5 := D4.below b'
  clear b' b4 I4 A4 ca0 ca1 ca2 ca3 D4 cd0 cd1 cd2 cd3 
  obtain ⟨ca0, ca1, ca2, ca3⟩ := A5.four
  obtain ⟨cd0, cd1, cd2, cd3⟩ := D5.four
  have X5 := Q'
  clear Q'
  obtain ⟨u0, u1, u2, u3⟩ := X5.four
  go_upto_region 10 with fail
  rw [← HW5.out]
  simp only [← HBX.out]
  go_wp2_with fail
  refine (toDevice_any x1 x2 x3 x4 m1 m2 m3 m4 d1 d2 d3 d4 cs2 is2 hs2 rs2 _ HN.out.2 (HS.out.2.below b5) HL.out.2).mono ?_
  rintro e w6 ⟨n1, n2, n3, n4, rfl, q', b'⟩
  have b6 := bel_next b5 b'
  have I6 := I5.below b'
  have A6 := A5.below b'
  have D6 := D5.below b'
  have X6 := X5.below b'
  clear b' b5 I5 A5 ca0 ca1 ca2 ca3 D5 cd0 cd1 cd2 cd3 X5 u0 u1 u2 u3 
  obtain ⟨ca0, ca1, ca2, ca3⟩ := A6.four
  obtain ⟨cd0, cd1, cd2, cd3⟩ := D6.four
  obtain ⟨u0, u1, u2, u3⟩ := X6.four
  have J6 := q'
  clear q'
  have b' := bel_alloc w6 (.cells #[.slice (some ⟨n1, 0, none⟩) m1 m1, .slice (some ⟨n2, 0, none⟩) m2 m2, .slice (some ⟨n3, 0, none⟩) m3 m3, .slice (some ⟨n4, 0, none⟩) m4 m4] 36)
  have Q' := Blk.new w6 #[.slice (some ⟨n1, 0, none⟩) m1 m1, .slice (some ⟨n2, 0, none⟩) m2 m2, .slice (some ⟨n3, 0, none⟩) m3 m3, .slice (some ⟨n4, 0, none⟩) m4 m4] 36
  obtain ⟨w7, hw7⟩ : ∃ x, x = w6.alloc (.cells #[.slice (some ⟨n1, 0, none⟩) m1 m1, .slice (some ⟨n2, 0, none⟩) m2 m2, .slice (some ⟨n3, 0, none⟩) m3 m3, .slice (some ⟨n4, 0, none⟩) m4 m4] 36) := ⟨_, rfl⟩
  rw [← hw7] at b' Q'
  have HW7 : Hid (w7 = _) := hw7
  obtain ⟨BY, hBY⟩ : ∃ x, x = w6.heap.size := ⟨_, rfl⟩
  rw [← hBY] at Q'
  have HBY : Hid (BY = w6.heap.size) := hBY
  clear hw7 hBY
  have b7 := bel_next b6 b'
  have I7 := I6.below b'
  have J7 := J6.below b'
  have A7 := A6.below b'
  have D7 := D6.below b'
  have X7 := X6.below b'
  clear b' b6 I6 J6 A6 ca0 ca1 ca2 ca3 D6 cd0 cd1 cd2 cd3 X6 u0 u1 u2 u3 
  obtain ⟨ca0, ca1, ca2, ca3⟩ := A7.four
  obtain ⟨cd0, cd1, cd2, cd3⟩ := D7.four
  obtain ⟨u0, u1, u2, u3⟩ := X7.four
  have Y7 := Q'
  clear Q'
  obtain ⟨v0, v1, v2, v3⟩ := Y7.four
  go_upto_region 11 with fail
  rw [← HW7.out]
  simp only [← HBY.out]
  go_wp2_with fail
  refine (implSame_any (some ⟨k1, 0, none⟩) (some ⟨k2, 0, none⟩) (some ⟨k3, 0, none⟩) (some ⟨k4, 0, none⟩) l1 l2 l3 l4 l1 l2 l3 l4 (some ⟨n1, 0, none⟩) (some ⟨n2, 0, none⟩) (some ⟨n3, 0, none⟩) (some ⟨n4, 0, none⟩) m1 m2 m3 m4 m1 m2 m3 m4 cs is hs rs cs2 is2 hs2 rs2 _ HN.out.1 HN.out.2 I7.sl.2 J7.sl.2 HL.out.1 HL.out.2 _ HV.out.symm).mono ?_
  rintro e w8 ⟨rfl, b'⟩
  have b8 := bel_next b7 b'
  have I8 := I7.below b'
  have J8 := J7.below b'
  have A8 := A7.below b'
  have D8 := D7.below b'
  have X8 := X7.below b'
  have Y8 := Y7.below b'
  clear b' b7 I7 J7 A7 ca0 ca1 ca2 ca3 D7 cd0 cd1 cd2 cd3 X7 u0 u1 u2 u3 Y7 v0 v1 v2 v3 
  obtain ⟨ca0, ca1, ca2, ca3⟩ := A8.four
  obtain ⟨cd0, cd1, cd2, cd3⟩ := D8.four
  obtain ⟨u0, u1, u2, u3⟩ := X8.four
  obtain ⟨v0, v1, v2, v3⟩ := Y8.four
  go_upto_region 14 with fail
  go_cut [39] (fun sX wx => sX = .bool false ∧ Below w8.heap.size w8 wx)
  case first =>
    go_region_with (first
      | (go_at_call 35; refine (toDevice_any a1 a2 a3 a4 l1 l2 l3 l4 c1 c2 c3 c4 cs is hs rs _ HN.out.1 (HS.out.1.below (by first | exact b8 | exact b8.drew | exact b8.drew.drew | exact b8.drew.drew.drew)) HL.out.1).mono ?_; rintro e w7 ⟨y1', y2', y3', y4', rfl, i7, b7'⟩; have b7 := bel_next (Below.refl _ w8).drew b7'; have i6' := I8.below b7; obtain ⟨z0, z1, z2, z3⟩ := (X8.below b7).four; clear b7')
      | (go_at_call 36; refine (eqDevice_true _ _ _ _ _ _ _ _ _ _ _ _ _ _ _ _ _ _ _ _ _ _ _ _ cs is hs rs _ HN.out.1 HN.out.1 ?_ ?_ HL.out.1).mono ?_; (first | exact i6'.sl.2 | exact (i6'.below (Below.refl _ _).drew).sl.2 | exact (i6'.below (Below.refl _ _).drew.drew).sl.2); (first | exact i7.sl.2 | exact (i7.below (Below.refl _ _).drew).sl.2 | exact (i7.below (Below.refl _ _).drew.drew).sl.2); rintro e w8 ⟨rfl, b8'⟩; have b8 := bel_next (by first | exact b7 | exact b7.drew | exact b7.drew.drew) b8'; clear b8'))
    all_goals (go_wp2_with fail; go_meet; exact ⟨rfl, b8⟩)
  case rest =>
  obtain ⟨rfl, b'⟩ := hcut
  obtain ⟨w9, hw9⟩ : ∃ x, x = wc := ⟨_, rfl⟩
  rw [← hw9] at b' ⊢
  clear hw9
  have b9 := bel_next b8 b'
  have I9 := I8.below b'
  have J9 := J8.below b'
  have A9 := A8.below b'
  have D9 := D8.below b'
  have X9 := X8.below b'
  have Y9 := Y8.below b'
  clear b' b8 I8 J8 A8 ca0 ca1 ca2 ca3 D8 cd0 cd1 cd2 cd3 X8 u0 u1 u2 u3 Y8 v0 v1 v2 v3 
  obtain ⟨ca0, ca1, ca2, ca3⟩ := A9.four
  obtain ⟨cd0, cd1, cd2, cd3⟩ := D9.four
  obtain ⟨u0, u1, u2, u3⟩ := X9.four
  obtain ⟨v0, v1, v2, v3⟩ := Y9.four
  go_upto_region 16 with fail
  go_cut [44] (fun sX wx => sX = .bool false ∧ Below w9.heap.size w9 wx)
  case first =>
    go_region_with (first
      | (go_at_call 35; refine (toDevice_any x1 x2 x3 x4 m1 m2 m3 m4 d1 d2 d3 d4 cs2 is2 hs2 rs2 _ HN.out.2 (HS.out.2.below (by first | exact b9 | exact b9.drew | exact b9.drew.drew | exact b9.drew.drew.drew)) HL.out.2).mono ?_; rintro e w7 ⟨y1', y2', y3', y4', rfl, i7, b7'⟩; have b7 := bel_next (Below.refl _ w9).drew b7'; have i6' := J9.below b7; obtain ⟨z0, z1, z2, z3⟩ := (Y9.below b7).four; clear b7')
      | (go_at_call 36; refine (eqDevice_true _ _ _ _ _ _ _ _ _ _ _ _ _ _ _ _ _ _ _ _ _ _ _ _ cs2 is2 hs2 rs2 _ HN.out.2 HN.out.2 ?_ ?_ HL.out.2).mono ?_; (first | exact i6'.sl.2 | exact (i6'.below (Below.refl _ _).drew).sl.2 | exact (i6'.below (Below.refl _ _).drew.drew).sl.2); (first | exact i7.sl.2 | exact (i7.below (Below.refl _ _).drew).sl.2 | exact (i7.below (Below.refl _ _).drew.drew).sl.2); rintro e w8 ⟨rfl, b8'⟩; have b8 := bel_next (by first | exact b7 | exact b7.drew | exact b7.drew.drew) b8'; clear b8'))
    all_goals (go_wp2_with fail; go_meet; exact ⟨rfl, b8⟩)
  case rest =>
  obtain ⟨rfl, b'⟩ := hcut
  obtain ⟨w10, hw10⟩ : ∃ x, x = wc := ⟨_, rfl⟩
  rw [← hw10] at b' ⊢
  clear hw10
  have b10 := bel_next b9 b'
  have I10 := I9.below b'
  have J10 := J9.below b'
  have A10 := A9.below b'
  have D10 := D9.below b'
  have X10 := X9.below b'
  have Y10 := Y9.below b'
  clear b' b9 I9 J9 A9 ca0 ca1 ca2 ca3 D9 cd0 cd1 cd2 cd3 X9 u0 u1 u2 u3 Y9 v0 v1 v2 v3 
  obtain ⟨ca0, ca1, ca2, ca3⟩ := A10.four
  obtain ⟨cd0, cd1, cd2, cd3⟩ := D10.four
  obtain ⟨u0, u1, u2, u3⟩ := X10.four
  obtain ⟨v0, v1, v2, v3⟩ := Y10.four
  go_wp2
  go_ret
  exact ⟨rfl, b10⟩

end Go.Proofs.Ytjfnghobnlpemaa
