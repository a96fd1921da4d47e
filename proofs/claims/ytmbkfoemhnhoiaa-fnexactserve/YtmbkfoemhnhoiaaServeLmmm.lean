/- The law of FnExactServe, walked. -/
import Derived.Test.YtmbkfoemhnhoiaaMC
import Derived.Deep.RegionWith
import Derived.Deep.RegionHeld3
import Derived.Deep.Cut
import Derived.Deep.CutRange
namespace Go.Proofs.Ytmbkfoemhnhoiaa
open Go.RowKit

set_option linter.unusedVariables false

set_option maxRecDepth 20000 in
set_option maxHeartbeats 16000000 in
theorem serve_law (a1 a2 a3 a4 : Option Addr) (l1 l2 l3 l4 c1 c2 c3 c4 : Nat) (cs is : List Bool) (hs rs : List Int) (kd pl nn wa : Int) (q1 q2 : Option Addr) (m1 m2 k1 k2 : Nat) (ws : List Int) (bs : List Bool) (w : World) (hq : InDev w a1 a2 a3 a4 l1 l2 l3 l4 cs is hs rs) (hq2 : InReq w kd pl nn wa q1 q2 m1 m2 ws bs) (hl : (l1 : Int) + (l2 : Int) + (l3 : Int) + (l4 : Int) + (m1 : Int) + (m2 : Int) ≤ 1048576) (V : SvR) (hV : svV l1 l2 l3 l4 cs is hs rs kd pl nn wa m1 m2 ws bs = V) :
    Calls Try.prog 7 #[.agg #[.slice a1 l1 c1, .slice a2 l2 c2, .slice a3 l3 c3, .slice a4 l4 c4], .agg #[.int .i64 kd, .int .i64 pl, .int .i64 nn, .slice q1 m1 k1, .slice q2 m2 k2, .int .i64 wa]] w fun e w' => e = .returned (.bool true) ∧ Below w.heap.size w w' := by
  obtain ⟨⟨⟨h1, s1⟩, _⟩, ⟨⟨h2, s2⟩, _⟩, ⟨h3, _, s3, _⟩, h4, _, s4, _⟩ := hq
  obtain ⟨⟨j1, _, t1, _⟩, ⟨j2, t2⟩, _⟩ := hq2
  have HN : Hid (LnD l1 l2 l3 l4 cs is hs rs ∧ SmD 2000000 cs is hs rs ∧ SlD w a1 a2 a3 a4 cs is hs rs ∧ SlI w q1 ws ∧ SlB w q2 bs) := ⟨⟨h1.symm, h2.symm, h3.symm, h4.symm⟩, by unfold SmD; omega, ⟨s1, s2, s3, s4⟩, t1, t2⟩
  have HQ : Hid (m1 = ws.length ∧ m2 = bs.length ∧ ws.length ≤ 2000000 ∧ bs.length ≤ 2000000 ∧ m1 ≤ 2000000 ∧ m2 ≤ 2000000) := ⟨j1.symm, j2.symm, by omega, by omega, by omega, by omega⟩
  have HV : Hid (svV l1 l2 l3 l4 cs is hs rs kd pl nn wa m1 m2 ws bs = V) := hV
  have f0 : ¬ (1048576 - (l1 : Int) - (l2 : Int) - (l3 : Int) - (l4 : Int) < 0) := by omega
  have f1 : ¬ (1048576 - (l1 : Int) - (l2 : Int) - (l3 : Int) - (l4 : Int) - (m1 : Int) - (m2 : Int) < 0) := by omega
  have F2 : Hid ((l1 : Int) + (l2 : Int) + (l3 : Int) + (l4 : Int) ≤ 1048576 ∧ 1048576 - (l1 : Int) - (l2 : Int) - (l3 : Int) - (l4 : Int) ≤ 1048576 ∧ (m1 : Int) + (m2 : Int) ≤ 1048576 - (l1 : Int) - (l2 : Int) - (l3 : Int) - (l4 : Int)) := by show _ ∧ _; omega
  clear h1 h2 h3 h4 s1 s2 s3 s4 j1 j2 t1 t2 hV hl
  obtain ⟨w0, hw0⟩ : ∃ x, x = (w.alloc (.cells #[.slice a1 l1 c1, .slice a2 l2 c2, .slice a3 l3 c3, .slice a4 l4 c4] 56)).alloc (.cells #[.int .i64 kd, .int .i64 pl, .int .i64 nn, .slice q1 m1 k1, .slice q2 m2 k2, .int .i64 wa] 57) := ⟨_, rfl⟩
  have HW0 : Hid (w0 = _) := hw0
  have b0 : Below w.heap.size w w0 := by rw [hw0]; exact bel_next (bel_alloc w _) (bel_alloc _ _)
  have A0 : Blk w0 w.heap.size 56 #[.slice a1 l1 c1, .slice a2 l2 c2, .slice a3 l3 c3, .slice a4 l4 c4] := by rw [hw0]; exact (Blk.new w _ _).below (bel_alloc _ _)
  have D0 : Blk w0 (w.heap.size + 1) 57 #[.int .i64 kd, .int .i64 pl, .int .i64 nn, .slice q1 m1 k1, .slice q2 m2 k2, .int .i64 wa] := by rw [hw0]; have := Blk.new (w.alloc (.cells #[.slice a1 l1 c1, .slice a2 l2 c2, .slice a3 l3 c3, .slice a4 l4 c4] 56)) #[.int .i64 kd, .int .i64 pl, .int .i64 nn, .slice q1 m1 k1, .slice q2 m2 k2, .int .i64 wa] 57; simpa using this
  clear hw0
  obtain ⟨ca0, ca1, ca2, ca3⟩ := A0.four
  obtain ⟨cd0, cd1, cd2, cd3, cd4, cd5⟩ := D0.six
  go_enter Try.func7, Try.ntmps7
  go_upto_region 1 with fail
  rw [← HW0.out]
  go_wp2_with fail
  refine (szDevice_at a1 a2 a3 a4 l1 l2 l3 l4 c1 c2 c3 c4 1048576 _ (by omega) F2.out.1).mono ?_
  rintro e w1 ⟨rfl, b'⟩
  have b1 := bel_next b0 b'
  have A1 := A0.below b'
  have D1 := D0.below b'
  clear b' b0 A0 ca0 ca1 ca2 ca3 D0 cd0 cd1 cd2 cd3 cd4 cd5 
  obtain ⟨ca0, ca1, ca2, ca3⟩ := A1.four
  obtain ⟨cd0, cd1, cd2, cd3, cd4, cd5⟩ := D1.six
  go_wp2_with fail
  refine (szReq_at kd pl nn wa q1 q2 m1 m2 k1 k2 _ _ F2.out.2.1 F2.out.2.2).mono ?_
  rintro e w2 ⟨rfl, b'⟩
  have b2 := bel_next b1 b'
  have A2 := A1.below b'
  have D2 := D1.below b'
  clear b' b1 A1 ca0 ca1 ca2 ca3 D1 cd0 cd1 cd2 cd3 cd4 cd5 
  obtain ⟨ca0, ca1, ca2, ca3⟩ := A2.four
  obtain ⟨cd0, cd1, cd2, cd3, cd4, cd5⟩ := D2.six
  go_upto_region 8 with fail
  go_cut [6, 7] (fun s6 s7 wx => ∃ B6 B7, s6 = .pointer (some ⟨B6, 0, none⟩) ∧ s7 = .pointer (some ⟨B7, 0, none⟩) ∧ w2.heap.size ≤ B6 ∧ w2.heap.size ≤ B7 ∧ SRb wx w2.heap.size B6 B7 is rs V ∧ Below w2.heap.size w2 wx)
  case first =>
    have HB : Hid (Below w.heap.size w w2) := b2
    have HA : Hid (Blk w2 w.heap.size 56 #[.slice a1 l1 c1, .slice a2 l2 c2, .slice a3 l3 c3, .slice a4 l4 c4]) := A2
    have HD : Hid (Blk w2 (w.heap.size + 1) 57 #[.int .i64 kd, .int .i64 pl, .int .i64 nn, .slice q1 m1 k1, .slice q2 m2 k2, .int .i64 wa]) := D2
    clear ca0 ca1 ca2 ca3 cd0 cd1 cd2 cd3 cd4 cd5
    refine wp_region_any (by kernel_rfl) ?_
    refine wpAny_inv_at (RInv8 w2 a1 a2 a3 a4 l1 l2 l3 l4 c1 c2 c3 c4 cs is hs rs kd pl nn wa q1 q2 m1 m2 k1 k2 ws bs V) (by kernel_rfl) ?_ ?_ _ _ rfl (by decide) ?_
    · rintro l act u ⟨b0, b1, b2, b3, b4, b5, b6, b7, b8, b9, b10, b11, rfl, tA, tB, tC, tD, tS, tM, tE, tF, tX, tY, rfl, F⟩ hall
      obtain rfl : b0 = true := hall 0 (by simp)
      obtain rfl : b1 = true := hall 1 (by simp)
      obtain rfl : b2 = true := hall 2 (by simp)
      obtain rfl : b3 = true := hall 3 (by simp)
      obtain rfl : b4 = true := hall 4 (by simp)
      obtain rfl : b5 = true := hall 5 (by simp)
      obtain rfl : b6 = true := hall 6 (by simp)
      obtain rfl : b7 = true := hall 7 (by simp)
      obtain rfl : b8 = true := hall 8 (by simp)
      obtain rfl : b9 = true := hall 9 (by simp)
      obtain rfl : b10 = true := hall 10 (by simp)
      obtain rfl : b11 = true := hall 11 (by simp)
      obtain ⟨x1, x2, x3, x4, y1, y2, y3, y4, d1, d2, d3, d4, r1, r2, p1, p2, k1', k2', e, o1, o2, o3, o4⟩ := F.f4 rfl
      obtain ⟨B6, eX, hB6, _, z6⟩ := F.f8 rfl
      obtain ⟨B7, eY, hB7, _, z7⟩ := F.f9 rfl
      have eM := (F.f5 rfl).2.trans e
      have eE := (F.f6 rfl).2 _ _ eM
      have eF := (F.f7 rfl).2 _ _ eM
      have Z6 := z6 rfl _ eE
      have Z7 := z7 rfl _ eF
      have R : SRb u w2.heap.size B6 B7 is rs V := ⟨x1, x2, x3, x4, y1, y2, y3, y4, d1, d2, d3, d4, r1, r2, p1, p2, k1', k2', Z6, Z7, o1, o2, o3, o4⟩
      have hbel := F.bel
      subst eX
      subst eY
      clear F o1 o2 o3 o4 z6 z7 Z6 Z7 e eM eE eF
      simp only [putS8]
      go_simp
      go_wp2_with fail
      go_meet
      exact ⟨B6, B7, rfl, rfl, hB6, hB7, R, hbel⟩
    · rintro l act u i o ⟨b0, b1, b2, b3, b4, b5, b6, b7, b8, b9, b10, b11, rfl, tA, tB, tC, tD, tS, tM, tE, tF, tX, tY, rfl, F⟩ ho hl hd K hK
      have hi : i < 12 := by
        have := (Array.getElem?_eq_some_iff.1 ho).1
        simpa using this
      obtain ⟨x1, x2, x3, x4, y1, y2, y3, y4, d1, d2, d3, d4, r1, r2, p1, p2, k1', k2', eM0⟩ : ∃ (x1 x2 x3 x4 : Option Addr) (y1 y2 y3 y4 d1 d2 d3 d4 : Nat) (r1 r2 : Option Addr) (p1 p2 k1' k2' : Nat), b5 = true → tM = .tuple #[dv x1 x2 x3 x4 y1 y2 y3 y4 d1 d2 d3 d4, rp V.kd V.fl V.pl V.nn r1 r2 p1 p2 k1' k2'] := by
        cases hb : b5
        · exact ⟨none, none, none, none, 0, 0, 0, 0, 0, 0, 0, 0, none, none, 0, 0, 0, 0, fun h => absurd h (by decide)⟩
        · obtain ⟨x1, x2, x3, x4, y1, y2, y3, y4, d1, d2, d3, d4, r1, r2, p1, p2, k1', k2', eS, _⟩ := F.f4 (F.f5 hb).1
          exact ⟨x1, x2, x3, x4, y1, y2, y3, y4, d1, d2, d3, d4, r1, r2, p1, p2, k1', k2', fun _ => (F.f5 hb).2.trans eS⟩
      obtain ⟨B6, h80⟩ : ∃ B6, b8 = true → tX = .pointer (some ⟨B6, 0, none⟩) ∧ w2.heap.size ≤ B6 ∧ (b10 = false → Blk u B6 36 #[.slice none 0 0, .slice none 0 0, .slice none 0 0, .slice none 0 0]) := by
        cases hb : b8
        · exact ⟨0, fun h => absurd h (by decide)⟩
        · obtain ⟨B6, e1, e2, e3, _⟩ := F.f8 hb
          exact ⟨B6, fun _ => ⟨e1, e2, e3⟩⟩
      obtain ⟨B7, h90⟩ : ∃ B7, b9 = true → tY = .pointer (some ⟨B7, 0, none⟩) ∧ w2.heap.size ≤ B7 ∧ (b11 = false → Blk u B7 29 #[.int .i64 0, .int .i64 0, .int .i64 0, .int .i64 0, .slice none 0 0, .slice none 0 0]) := by
        cases hb : b9
        · exact ⟨0, fun h => absurd h (by decide)⟩
        · obtain ⟨B7, e1, e2, e3, _⟩ := F.f9 hb
          exact ⟨B7, fun _ => ⟨e1, e2, e3⟩⟩
      obtain rfl | rfl | rfl | rfl | rfl | rfl | rfl | rfl | rfl | rfl | rfl | rfl : i = 0 ∨ i = 1 ∨ i = 2 ∨ i = 3 ∨ i = 4 ∨ i = 5 ∨ i = 6 ∨ i = 7 ∨ i = 8 ∨ i = 9 ∨ i = 10 ∨ i = 11 := by omega
      all_goals (simp only [List.getElem?_toArray, List.getElem?_cons_zero, List.getElem?_cons_succ, Option.some.injEq] at ho; subst ho; simp only [putS8])
      · -- 0
        have ee := (HA.out.below F.bel).four
        have e0 := ee.1
        have e1 := ee.2.1
        have e2 := ee.2.2.1
        have e3 := ee.2.2.2
        clear ee
        go_simp
        refine hK _ _ ?_
        exact ⟨true, _, _, _, _, _, _, _, _, _, _, _, rfl, _, _, _, _, _, _, _, _, _, _, by simp [putS8, Act.put], { bel := F.bel, f0 := fun _ => rfl, f1 := F.f1, f2 := F.f2, f3 := F.f3, f4 := F.f4, f5 := F.f5, f6 := F.f6, f7 := F.f7, f8 := F.f8, f9 := F.f9, g10 := F.g10, g11 := F.g11 }⟩
      · -- 1
        obtain rfl := F.f0 (hd ⟨0, .data⟩ (by simp) rfl)
        have hb4 : b1 = false := hl
        go_wp2_with fail
        refine (toDevice_any a1 a2 a3 a4 l1 l2 l3 l4 c1 c2 c3 c4 cs is hs rs _ HN.out.1 (HN.out.2.2.1.below (bel_next HB.out F.bel)) HN.out.2.1).mono ?_
        rintro e u' ⟨g1, g2, g3, g4, rfl, oD, b'⟩
        have G' := F.below b'
        go_simp
        refine hK _ _ ?_
        exact ⟨_, true, _, _, _, _, _, _, _, _, _, _, rfl, _, _, _, _, _, _, _, _, _, _, by simp [putS8, Act.put], { bel := G'.bel, f0 := G'.f0, f1 := fun _ => ⟨g1, g2, g3, g4, rfl, oD.mono F.bel.size⟩, f2 := G'.f2, f3 := G'.f3, f4 := G'.f4, f5 := G'.f5, f6 := G'.f6, f7 := G'.f7, f8 := G'.f8, f9 := G'.f9, g10 := G'.g10, g11 := G'.g11 }⟩
      · -- 2
        have ee := (HD.out.below F.bel).six
        have e0 := ee.1
        have e1 := ee.2.1
        have e2 := ee.2.2.1
        have e3 := ee.2.2.2.1
        have e4 := ee.2.2.2.2.1
        have e5 := ee.2.2.2.2.2
        clear ee
        go_simp
        refine hK _ _ ?_
        exact ⟨_, _, true, _, _, _, _, _, _, _, _, _, rfl, _, _, _, _, _, _, _, _, _, _, by simp [putS8, Act.put], { bel := F.bel, f0 := F.f0, f1 := F.f1, f2 := fun _ => rfl, f3 := F.f3, f4 := F.f4, f5 := F.f5, f6 := F.f6, f7 := F.f7, f8 := F.f8, f9 := F.f9, g10 := F.g10, g11 := F.g11 }⟩
      · -- 3
        obtain rfl := F.f2 (hd ⟨2, .data⟩ (by simp) rfl)
        go_wp2_with fail
        refine (toReq_any kd pl nn wa q1 q2 m1 m2 k1 k2 ws bs _ HQ.out.1 HQ.out.2.1 (HN.out.2.2.2.1.below (bel_next HB.out F.bel)) (HN.out.2.2.2.2.below (bel_next HB.out F.bel)) HQ.out.2.2.2.2.1 HQ.out.2.2.2.2.2).mono ?_
        rintro e u' ⟨g5, g6, rfl, oI, oB, b'⟩
        have G' := F.below b'
        go_simp
        refine hK _ _ ?_
        exact ⟨_, _, _, true, _, _, _, _, _, _, _, _, rfl, _, _, _, _, _, _, _, _, _, _, by simp [putS8, Act.put], { bel := G'.bel, f0 := G'.f0, f1 := G'.f1, f2 := G'.f2, f3 := fun _ => ⟨g5, g6, rfl, oI.mono F.bel.size, oB.mono F.bel.size⟩, f4 := G'.f4, f5 := G'.f5, f6 := G'.f6, f7 := G'.f7, f8 := G'.f8, f9 := G'.f9, g10 := G'.g10, g11 := G'.g11 }⟩
      · -- 4
        obtain ⟨g1, g2, g3, g4, rfl, oD⟩ := F.f1 (hd ⟨1, .data⟩ (by simp) rfl)
        obtain ⟨g5, g6, rfl, oI, oB⟩ := F.f3 (hd ⟨3, .data⟩ (by simp) rfl)
        have hb4 : b4 = false := hl
        have nb5 : b5 = false := by cases hx : b5; rfl; have := (F.f5 hx).1; rw [hb4] at this; exact absurd this (by decide)
        go_wp2_with fail
        refine (specServe_q _ _ _ _ l1 l2 l3 l4 l1 l2 l3 l4 cs is hs rs kd pl nn wa _ _ m1 m2 m1 m2 ws bs _ HN.out.1 oD.sl.2 HN.out.2.1 ⟨Nat.le_refl _, Nat.le_refl _, Nat.le_refl _, Nat.le_refl _⟩ oI.sl.2 oB.sl.2 HQ.out.1 HQ.out.2.1 HQ.out.2.2.1 HQ.out.2.2.2.1 V HV.out).mono ?_
        rintro e u' ⟨x1, x2, x3, x4, y1, y2, y3, y4, d1, d2, d3, d4, r1, r2, p1, p2, k1', k2', rfl, o1, o2, o3, o4, b'⟩
        have G' := F.below b'
        go_simp
        refine hK _ _ ?_
        exact ⟨_, _, _, _, true, _, _, _, _, _, _, _, rfl, _, _, _, _, _, _, _, _, _, _, by simp [putS8, Act.put], { bel := G'.bel, f0 := G'.f0, f1 := G'.f1, f2 := G'.f2, f3 := G'.f3, f4 := fun _ => ⟨x1, x2, x3, x4, y1, y2, y3, y4, d1, d2, d3, d4, r1, r2, p1, p2, k1', k2', rfl, o1.mono F.bel.size, o2.mono F.bel.size, o3.mono F.bel.size, o4⟩, f5 := fun h => absurd (h.symm.trans nb5) (by decide), f6 := G'.f6, f7 := G'.f7, f8 := G'.f8, f9 := G'.f9, g10 := G'.g10, g11 := G'.g11 }⟩
      · -- 5
        have hs5 : b5 = false := hl
        have nb6 : b6 = false := by cases hx : b6; rfl; have := (F.f6 hx).1; rw [hs5] at this; exact absurd this (by decide)
        have nb7 : b7 = false := by cases hx : b7; rfl; have := (F.f7 hx).1; rw [hs5] at this; exact absurd this (by decide)
        go_simp
        refine hK _ _ ?_
        exact ⟨_, _, _, _, _, true, _, _, _, _, _, _, rfl, _, _, _, _, _, _, _, _, _, _, by simp [putS8, Act.put], { bel := F.bel, f0 := F.f0, f1 := F.f1, f2 := F.f2, f3 := F.f3, f4 := F.f4, f5 := fun _ => ⟨hd ⟨4, .data⟩ (by simp) rfl, rfl⟩, f6 := fun h => absurd (h.symm.trans nb6) (by decide), f7 := fun h => absurd (h.symm.trans nb7) (by decide), f8 := F.f8, f9 := F.f9, g10 := F.g10, g11 := F.g11 }⟩
      · -- 6
        have hself : b6 = false := hl
        have hb5 : b5 = true := hd ⟨5, .data⟩ (by simp) rfl
        have nbk : b10 = false := by cases hx : b10; rfl; have := (F.g10 hx).2; rw [hself] at this; exact absurd this (by decide)
        have eM := eM0 hb5
        subst eM
        go_simp
        refine hK _ _ ?_
        exact ⟨_, _, _, _, _, _, true, _, _, _, _, _, rfl, tA, tB, tC, tD, tS, (.tuple #[(dv x1 x2 x3 x4 y1 y2 y3 y4 d1 d2 d3 d4), (rp V.kd V.fl V.pl V.nn r1 r2 p1 p2 k1' k2')]), (dv x1 x2 x3 x4 y1 y2 y3 y4 d1 d2 d3 d4), tF, tX, tY, by simp [putS8, Act.put], { bel := F.bel, f0 := F.f0, f1 := F.f1, f2 := F.f2, f3 := F.f3, f4 := F.f4, f5 := F.f5, f6 := fun _ => ⟨hb5, fun x y e => by simp at e; first | exact e.1 | exact e.2⟩, f7 := F.f7, f8 := fun h => by obtain ⟨B, e, l, z, y⟩ := F.f8 h; exact ⟨B, e, l, z, fun k => absurd (k.symm.trans nbk) (by decide)⟩, f9 := F.f9, g10 := fun k => absurd (k.symm.trans nbk) (by decide), g11 := F.g11 }⟩
      · -- 7
        have hself : b7 = false := hl
        have hb5 : b5 = true := hd ⟨5, .data⟩ (by simp) rfl
        have nbk : b11 = false := by cases hx : b11; rfl; have := (F.g11 hx).2; rw [hself] at this; exact absurd this (by decide)
        have eM := eM0 hb5
        subst eM
        go_simp
        refine hK _ _ ?_
        exact ⟨_, _, _, _, _, _, _, true, _, _, _, _, rfl, tA, tB, tC, tD, tS, (.tuple #[(dv x1 x2 x3 x4 y1 y2 y3 y4 d1 d2 d3 d4), (rp V.kd V.fl V.pl V.nn r1 r2 p1 p2 k1' k2')]), tE, (rp V.kd V.fl V.pl V.nn r1 r2 p1 p2 k1' k2'), tX, tY, by simp [putS8, Act.put], { bel := F.bel, f0 := F.f0, f1 := F.f1, f2 := F.f2, f3 := F.f3, f4 := F.f4, f5 := F.f5, f6 := F.f6, f7 := fun _ => ⟨hb5, fun x y e => by simp at e; first | exact e.1 | exact e.2⟩, f8 := F.f8, f9 := fun h => by obtain ⟨B, e, l, z, y⟩ := F.f9 h; exact ⟨B, e, l, z, fun k => absurd (k.symm.trans nbk) (by decide)⟩, g10 := F.g10, g11 := fun k => absurd (k.symm.trans nbk) (by decide) }⟩
      · -- 8
        have hself : b8 = false := hl
        have nbk : b10 = false := by cases hx : b10; rfl; have := (F.g10 hx).1; rw [hself] at this; exact absurd this (by decide)
        have b' := bel_alloc u (.cells #[.slice none 0 0, .slice none 0 0, .slice none 0 0, .slice none 0 0] 36)
        have G' := F.below b'
        have N' := Blk.new u #[.slice none 0 0, .slice none 0 0, .slice none 0 0, .slice none 0 0] 36
        go_simp
        refine hK _ _ ?_
        exact ⟨_, _, _, _, _, _, _, _, true, _, _, _, rfl, _, _, _, _, _, _, _, _, _, _, by simp [putS8, Act.put], { bel := G'.bel, f0 := G'.f0, f1 := G'.f1, f2 := G'.f2, f3 := G'.f3, f4 := G'.f4, f5 := G'.f5, f6 := G'.f6, f7 := G'.f7, f8 := fun _ => ⟨u.heap.size, rfl, F.bel.size, fun _ => N', fun k => absurd (k.symm.trans nbk) (by decide)⟩, f9 := G'.f9, g10 := fun k => absurd (k.symm.trans nbk) (by decide), g11 := G'.g11 }⟩
      · -- 9
        have hself : b9 = false := hl
        have nbk : b11 = false := by cases hx : b11; rfl; have := (F.g11 hx).1; rw [hself] at this; exact absurd this (by decide)
        have b' := bel_alloc u (.cells #[.int .i64 0, .int .i64 0, .int .i64 0, .int .i64 0, .slice none 0 0, .slice none 0 0] 29)
        have G' := F.below b'
        have N' := Blk.new u #[.int .i64 0, .int .i64 0, .int .i64 0, .int .i64 0, .slice none 0 0, .slice none 0 0] 29
        go_simp
        refine hK _ _ ?_
        exact ⟨_, _, _, _, _, _, _, _, _, true, _, _, rfl, _, _, _, _, _, _, _, _, _, _, by simp [putS8, Act.put], { bel := G'.bel, f0 := G'.f0, f1 := G'.f1, f2 := G'.f2, f3 := G'.f3, f4 := G'.f4, f5 := G'.f5, f6 := G'.f6, f7 := G'.f7, f8 := G'.f8, f9 := fun _ => ⟨u.heap.size, rfl, F.bel.size, fun _ => N', fun k => absurd (k.symm.trans nbk) (by decide)⟩, g10 := G'.g10, g11 := fun k => absurd (k.symm.trans nbk) (by decide) }⟩
      · -- 10
        have hself : b10 = false := hl
        have hb8 : b8 = true := hd ⟨8, .data⟩ (by simp) rfl
        have hb6 : b6 = true := hd ⟨6, .data⟩ (by simp) rfl
        have hb5 := (F.f6 hb6).1
        have eM := eM0 hb5
        have eE := (F.f6 hb6).2 _ _ eM
        have h8 := h80 hb8
        have eX := h8.1
        have hB6 := h8.2.1
        have z6 := h8.2.2
        clear h8
        have Z6 := z6 hself
        have s0 := Z6.cell 0 rfl
        have s1 := Z6.cell 1 rfl
        have s2 := Z6.cell 2 rfl
        have s3 := Z6.cell 3 rfl
        have fr0 := Z6.fro 0
        have fr1 := Z6.fro 1
        have fr2 := Z6.fro 2
        have fr3 := Z6.fro 3
        clear eM eM0
        subst eX
        subst eE
        have xB : ExB u B6 36 := ⟨_, Z6⟩
        go_simp
        refine hK _ _ ?_
        exact ⟨_, _, _, _, _, _, _, _, _, _, true, _, rfl, tA, tB, tC, tD, tS, tM, (dv x1 x2 x3 x4 y1 y2 y3 y4 d1 d2 d3 d4), tF, (.pointer (some ⟨B6, 0, none⟩)), tY, by simp [putS8, Act.put], { bel := bel_set4 F.bel hB6, f0 := F.f0, f1 := fun h => by obtain ⟨g1, g2, g3, g4, e, o⟩ := F.f1 h; exact ⟨g1, g2, g3, g4, e, o.set4 xB (by decide) (by decide)⟩, f2 := F.f2, f3 := fun h => by obtain ⟨g5, g6, e, o, o'⟩ := F.f3 h; exact ⟨g5, g6, e, row_set4 o xB (by decide), row_set4 o' xB (by decide)⟩, f4 := fun h => by obtain ⟨x1, x2, x3, x4, y1, y2, y3, y4, d1, d2, d3, d4, r1, r2, p1, p2, k1', k2', e, o1, o2, o3, o4⟩ := F.f4 h; exact ⟨x1, x2, x3, x4, y1, y2, y3, y4, d1, d2, d3, d4, r1, r2, p1, p2, k1', k2', e, o1.set4 xB (by decide) (by decide), row_set4 o2 xB (by decide), row_set4 o3 xB (by decide), o4⟩, f5 := F.f5, f6 := F.f6, f7 := F.f7, f8 := fun _ => ⟨B6, rfl, hB6, fun k => absurd k (by decide), fun _ zs ez => blk_agg (blk_set4 Z6) ez⟩, f9 := fun h => by obtain ⟨B7, e, l, z, y⟩ := F.f9 h; exact ⟨B7, e, l, fun k => by have hne := blk_neT (z k) Z6 (by decide); exact ((((z k).setNe hne).setNe hne).setNe hne).setNe hne, fun k zs ez => by have hne := blk_neT (y k zs ez) Z6 (by decide); exact ((((y k zs ez).setNe hne).setNe hne).setNe hne).setNe hne⟩, g10 := fun _ => ⟨hb8, hb6⟩, g11 := F.g11 }⟩
      · -- 11
        have hself : b11 = false := hl
        have hb9 : b9 = true := hd ⟨9, .data⟩ (by simp) rfl
        have hb7 : b7 = true := hd ⟨7, .data⟩ (by simp) rfl
        have hb5 := (F.f7 hb7).1
        have eM := eM0 hb5
        have eF := (F.f7 hb7).2 _ _ eM
        have h9 := h90 hb9
        have eY := h9.1
        have hB7 := h9.2.1
        have z7 := h9.2.2
        clear h9
        have Z7 := z7 hself
        have s0 := Z7.cell 0 rfl
        have s1 := Z7.cell 1 rfl
        have s2 := Z7.cell 2 rfl
        have s3 := Z7.cell 3 rfl
        have s4 := Z7.cell 4 rfl
        have s5 := Z7.cell 5 rfl
        have fr0 := Z7.fro 0
        have fr1 := Z7.fro 1
        have fr2 := Z7.fro 2
        have fr3 := Z7.fro 3
        have fr4 := Z7.fro 4
        have fr5 := Z7.fro 5
        clear eM eM0
        subst eY
        subst eF
        have xB : ExB u B7 29 := ⟨_, Z7⟩
        go_simp
        refine hK _ _ ?_
        exact ⟨_, _, _, _, _, _, _, _, _, _, _, true, rfl, tA, tB, tC, tD, tS, tM, tE, (rp V.kd V.fl V.pl V.nn r1 r2 p1 p2 k1' k2'), tX, (.pointer (some ⟨B7, 0, none⟩)), by simp [putS8, Act.put], { bel := belp_set6 F.bel hB7, f0 := F.f0, f1 := fun h => by obtain ⟨g1, g2, g3, g4, e, o⟩ := F.f1 h; exact ⟨g1, g2, g3, g4, e, o.set6 xB (by decide) (by decide)⟩, f2 := F.f2, f3 := fun h => by obtain ⟨g5, g6, e, o, o'⟩ := F.f3 h; exact ⟨g5, g6, e, rowp_set6 o xB (by decide), rowp_set6 o' xB (by decide)⟩, f4 := fun h => by obtain ⟨x1, x2, x3, x4, y1, y2, y3, y4, d1, d2, d3, d4, r1, r2, p1, p2, k1', k2', e, o1, o2, o3, o4⟩ := F.f4 h; exact ⟨x1, x2, x3, x4, y1, y2, y3, y4, d1, d2, d3, d4, r1, r2, p1, p2, k1', k2', e, o1.set6 xB (by decide) (by decide), rowp_set6 o2 xB (by decide), rowp_set6 o3 xB (by decide), o4⟩, f5 := F.f5, f6 := F.f6, f7 := F.f7, f8 := fun h => by obtain ⟨B6, e, l, z, y⟩ := F.f8 h; exact ⟨B6, e, l, fun k => by have hne := blk_neT (z k) Z7 (by decide); exact ((((((z k).setNe hne).setNe hne).setNe hne).setNe hne).setNe hne).setNe hne, fun k zs ez => by have hne := blk_neT (y k zs ez) Z7 (by decide); exact ((((((y k zs ez).setNe hne).setNe hne).setNe hne).setNe hne).setNe hne).setNe hne⟩, f9 := fun _ => ⟨B7, rfl, hB7, fun k => absurd k (by decide), fun _ zs ez => blk_agg (blk_set6 Z7) ez⟩, g10 := F.g10, g11 := fun _ => ⟨hb9, hb7⟩ }⟩
    · refine ⟨false, false, false, false, false, false, false, false, false, false, false, false, rfl, undef, undef, undef, undef, undef, undef, undef, undef, undef, undef, by simp [putS8, Act.put], ?_⟩
      exact { bel := (Below.refl _ _).drew, f0 := fun h => absurd h (by decide), f1 := fun h => absurd h (by decide), f2 := fun h => absurd h (by decide), f3 := fun h => absurd h (by decide), f4 := fun h => absurd h (by decide), f5 := fun h => absurd h (by decide), f6 := fun h => absurd h (by decide), f7 := fun h => absurd h (by decide), f8 := fun h => absurd h (by decide), f9 := fun h => absurd h (by decide), g10 := fun h => absurd h (by decide), g11 := fun h => absurd h (by decide) }
  case rest =>
  obtain ⟨BX, BY, rfl, rfl, hBX, hBY, R', b'⟩ := hcut
  obtain ⟨w3, hw3⟩ : ∃ x, x = wc := ⟨_, rfl⟩
  rw [← hw3] at b' R' ⊢
  clear hw3
  obtain ⟨a1s, a2s, a3s, a4s, l1s, l2s, l3s, l4s, c1s, c2s, c3s, c4s, r1s, r2s, p1s, p2s, t1s, t2s, X', Y', o1', o2', o3', o4'⟩ := R'
  have HLs : Hid (w2.heap.size ≤ BX ∧ w2.heap.size ≤ BY) := ⟨hBX, hBY⟩
  have HAps : Hid (∀ g, Of4 (.slice a1s l1s c1s) (.slice a2s l2s c2s) (.slice a3s l3s c3s) (.slice a4s l4s c4s) g → ¬ Of2 (.slice r1s p1s t1s) (.slice r2s p2s t2s) g) := o4'
  clear hBX hBY o4'
  have b3 := bel_next b2 b'
  have A3 := A2.below b'
  have D3 := D2.below b'
  clear b' b2 A2 ca0 ca1 ca2 ca3 D2 cd0 cd1 cd2 cd3 cd4 cd5 
  obtain ⟨ca0, ca1, ca2, ca3⟩ := A3.four
  obtain ⟨cd0, cd1, cd2, cd3, cd4, cd5⟩ := D3.six
  have X3 := X'
  have Y3 := Y'
  have I3 := o1'
  have IW3 := o2'
  have IB3 := o3'
  clear X' Y' o1' o2' o3'
  obtain ⟨cxx0, cxx1, cxx2, cxx3⟩ := X3.four
  obtain ⟨cyy0, cyy1, cyy2, cyy3, cyy4, cyy5⟩ := Y3.six
  have HRs : Hid (∀ g, (Of4 (.slice a1s l1s c1s) (.slice a2s l2s c2s) (.slice a3s l3s c3s) (.slice a4s l4s c4s) g ∨ Of2 (.slice r1s p1s t1s) (.slice r2s p2s t2s) g) → g < w3.heap.size) := by
    intro g hg
    rcases hg with hg | hg | hg
    · exact (I3.of4 g hg).2
    · exact (World.ownsRow.lt IW3 g hg).2
    · exact (World.ownsRow.lt IB3 g hg).2
  have HB3 : Hid (w.heap.size ≤ w3.heap.size) := b3.size
  go_wp2_with fail
  refine (toDevice_any a1 a2 a3 a4 l1 l2 l3 l4 c1 c2 c3 c4 cs is hs rs _ HN.out.1 (HN.out.2.2.1.below b3) HN.out.2.1).mono ?_
  rintro e w4 ⟨g1, g2, g3, g4, rfl, q', b'⟩
  have HRo : Hid (∀ g, Of4 (.slice (some ⟨g1, 0, none⟩) l1 l1) (.slice (some ⟨g2, 0, none⟩) l2 l2) (.slice (some ⟨g3, 0, none⟩) l3 l3) (.slice (some ⟨g4, 0, none⟩) l4 l4) g → w3.heap.size ≤ g ∧ g < w4.heap.size) := q'.of4
  have HZ4 : Hid (w3.heap.size ≤ w4.heap.size) := b'.size
  have b4 := bel_next b3 b'
  have I4 := I3.below b'
  have IW4 := IW3.below b'
  have IB4 := IB3.below b'
  have A4 := A3.below b'
  have D4 := D3.below b'
  have X4 := X3.below b'
  have Y4 := Y3.below b'
  clear b' b3 I3 IW3 IB3 A3 ca0 ca1 ca2 ca3 D3 cd0 cd1 cd2 cd3 cd4 cd5 X3 cxx0 cxx1 cxx2 cxx3 Y3 cyy0 cyy1 cyy2 cyy3 cyy4 cyy5 
  obtain ⟨ca0, ca1, ca2, ca3⟩ := A4.four
  obtain ⟨cd0, cd1, cd2, cd3, cd4, cd5⟩ := D4.six
  obtain ⟨cxx0, cxx1, cxx2, cxx3⟩ := X4.four
  obtain ⟨cyy0, cyy1, cyy2, cyy3, cyy4, cyy5⟩ := Y4.six
  have O4 := q'
  clear q'
  have b' := bel_alloc w4 (.cells #[.slice (some ⟨g1, 0, none⟩) l1 l1, .slice (some ⟨g2, 0, none⟩) l2 l2, .slice (some ⟨g3, 0, none⟩) l3 l3, .slice (some ⟨g4, 0, none⟩) l4 l4] 36)
  have Q' := Blk.new w4 #[.slice (some ⟨g1, 0, none⟩) l1 l1, .slice (some ⟨g2, 0, none⟩) l2 l2, .slice (some ⟨g3, 0, none⟩) l3 l3, .slice (some ⟨g4, 0, none⟩) l4 l4] 36
  obtain ⟨w5, hw5⟩ : ∃ x, x = w4.alloc (.cells #[.slice (some ⟨g1, 0, none⟩) l1 l1, .slice (some ⟨g2, 0, none⟩) l2 l2, .slice (some ⟨g3, 0, none⟩) l3 l3, .slice (some ⟨g4, 0, none⟩) l4 l4] 36) := ⟨_, rfl⟩
  rw [← hw5] at b' Q'
  have HW5 : Hid (w5 = _) := hw5
  obtain ⟨BE, hBE⟩ : ∃ x, x = w4.heap.size := ⟨_, rfl⟩
  rw [← hBE] at Q'
  have HBE : Hid (BE = w4.heap.size) := hBE
  clear hw5 hBE
  have HZ5 : Hid (w4.heap.size ≤ w5.heap.size) := b'.size
  have b5 := bel_next b4 b'
  have I5 := I4.below b'
  have IW5 := IW4.below b'
  have IB5 := IB4.below b'
  have O5 := O4.below b'
  have A5 := A4.below b'
  have D5 := D4.below b'
  have X5 := X4.below b'
  have Y5 := Y4.below b'
  clear b' b4 I4 IW4 IB4 O4 A4 ca0 ca1 ca2 ca3 D4 cd0 cd1 cd2 cd3 cd4 cd5 X4 cxx0 cxx1 cxx2 cxx3 Y4 cyy0 cyy1 cyy2 cyy3 cyy4 cyy5 
  obtain ⟨ca0, ca1, ca2, ca3⟩ := A5.four
  obtain ⟨cd0, cd1, cd2, cd3, cd4, cd5⟩ := D5.six
  obtain ⟨cxx0, cxx1, cxx2, cxx3⟩ := X5.four
  obtain ⟨cyy0, cyy1, cyy2, cyy3, cyy4, cyy5⟩ := Y5.six
  have E5 := Q'
  clear Q'
  obtain ⟨ce0, ce1, ce2, ce3⟩ := E5.four
  go_upto_region 10 with fail
  rw [← HW5.out]
  simp only [← HBE.out]
  go_wp2_with fail
  refine (toReq_any kd pl nn wa q1 q2 m1 m2 k1 k2 ws bs _ HQ.out.1 HQ.out.2.1 (HN.out.2.2.2.1.below b5) (HN.out.2.2.2.2.below b5) HQ.out.2.2.2.2.1 HQ.out.2.2.2.2.2).mono ?_
  rintro e w6 ⟨g5, g6, rfl, q', q'', b'⟩
  have HRq : Hid (∀ g, Of2 (.slice (some ⟨g5, 0, none⟩) m1 m1) (.slice (some ⟨g6, 0, none⟩) m2 m2) g → w5.heap.size ≤ g ∧ g < w6.heap.size) := by
    intro g hg
    rcases hg with hg | hg
    · exact World.ownsRow.lt q' g hg
    · exact World.ownsRow.lt q'' g hg
  have HZ6 : Hid (w5.heap.size ≤ w6.heap.size) := b'.size
  have b6 := bel_next b5 b'
  have I6 := I5.below b'
  have IW6 := IW5.below b'
  have IB6 := IB5.below b'
  have O6 := O5.below b'
  have A6 := A5.below b'
  have D6 := D5.below b'
  have X6 := X5.below b'
  have Y6 := Y5.below b'
  have E6 := E5.below b'
  clear b' b5 I5 IW5 IB5 O5 A5 ca0 ca1 ca2 ca3 D5 cd0 cd1 cd2 cd3 cd4 cd5 X5 cxx0 cxx1 cxx2 cxx3 Y5 cyy0 cyy1 cyy2 cyy3 cyy4 cyy5 E5 ce0 ce1 ce2 ce3 
  obtain ⟨ca0, ca1, ca2, ca3⟩ := A6.four
  obtain ⟨cd0, cd1, cd2, cd3, cd4, cd5⟩ := D6.six
  obtain ⟨cxx0, cxx1, cxx2, cxx3⟩ := X6.four
  obtain ⟨cyy0, cyy1, cyy2, cyy3, cyy4, cyy5⟩ := Y6.six
  obtain ⟨ce0, ce1, ce2, ce3⟩ := E6.four
  have OQ6 := q'
  clear q'
  have OR6 := q''
  clear q''
  have b' := bel_alloc w6 (.cells #[.int .i64 kd, .int .i64 pl, .int .i64 nn, .slice (some ⟨g5, 0, none⟩) m1 m1, .slice (some ⟨g6, 0, none⟩) m2 m2, .int .i64 wa] 27)
  have Q' := Blk.new w6 #[.int .i64 kd, .int .i64 pl, .int .i64 nn, .slice (some ⟨g5, 0, none⟩) m1 m1, .slice (some ⟨g6, 0, none⟩) m2 m2, .int .i64 wa] 27
  obtain ⟨w7, hw7⟩ : ∃ x, x = w6.alloc (.cells #[.int .i64 kd, .int .i64 pl, .int .i64 nn, .slice (some ⟨g5, 0, none⟩) m1 m1, .slice (some ⟨g6, 0, none⟩) m2 m2, .int .i64 wa] 27) := ⟨_, rfl⟩
  rw [← hw7] at b' Q'
  have HW7 : Hid (w7 = _) := hw7
  obtain ⟨BF, hBF⟩ : ∃ x, x = w6.heap.size := ⟨_, rfl⟩
  rw [← hBF] at Q'
  have HBF : Hid (BF = w6.heap.size) := hBF
  clear hw7 hBF
  have HZ7 : Hid (w6.heap.size ≤ w7.heap.size) := b'.size
  have b7 := bel_next b6 b'
  have I7 := I6.below b'
  have IW7 := IW6.below b'
  have IB7 := IB6.below b'
  have O7 := O6.below b'
  have OQ7 := OQ6.below b'
  have OR7 := OR6.below b'
  have A7 := A6.below b'
  have D7 := D6.below b'
  have X7 := X6.below b'
  have Y7 := Y6.below b'
  have E7 := E6.below b'
  clear b' b6 I6 IW6 IB6 O6 OQ6 OR6 A6 ca0 ca1 ca2 ca3 D6 cd0 cd1 cd2 cd3 cd4 cd5 X6 cxx0 cxx1 cxx2 cxx3 Y6 cyy0 cyy1 cyy2 cyy3 cyy4 cyy5 E6 ce0 ce1 ce2 ce3 
  obtain ⟨ca0, ca1, ca2, ca3⟩ := A7.four
  obtain ⟨cd0, cd1, cd2, cd3, cd4, cd5⟩ := D7.six
  obtain ⟨cxx0, cxx1, cxx2, cxx3⟩ := X7.four
  obtain ⟨cyy0, cyy1, cyy2, cyy3, cyy4, cyy5⟩ := Y7.six
  obtain ⟨ce0, ce1, ce2, ce3⟩ := E7.four
  have F7 := Q'
  clear Q'
  obtain ⟨cf0, cf1, cf2, cf3, cf4, cf5⟩ := F7.six
  go_upto_region 11 with fail
  rw [← HW7.out]
  simp only [← HBF.out]
  go_wp2_with fail
  refine (implServe_q (some ⟨g1, 0, none⟩) (some ⟨g2, 0, none⟩) (some ⟨g3, 0, none⟩) (some ⟨g4, 0, none⟩) l1 l2 l3 l4 l1 l2 l3 l4 cs is hs rs kd pl nn wa (some ⟨g5, 0, none⟩) (some ⟨g6, 0, none⟩) m1 m2 m1 m2 ws bs _ HN.out.1 O7.sl.2 HN.out.2.1 OQ7.sl.2 OR7.sl.2 HQ.out.1 HQ.out.2.1 HQ.out.2.2.1 HQ.out.2.2.2.1 V HV.out).mono ?_
  rintro e w8 ⟨a1i, a2i, a3i, a4i, l1i, l2i, l3i, l4i, c1i, c2i, c3i, c4i, r1i, r2i, p1i, p2i, t1i, t2i, rfl, o1', o2', o3', o4', b'⟩
  have HApi : Hid (∀ g, Of4 (.slice a1i l1i c1i) (.slice a2i l2i c2i) (.slice a3i l3i c3i) (.slice a4i l4i c4i) g → ¬ Of2 (.slice r1i p1i t1i) (.slice r2i p2i t2i) g) := o4'
  clear o4'
  have HRi : Hid (∀ g, (Of4 (.slice a1i l1i c1i) (.slice a2i l2i c2i) (.slice a3i l3i c3i) (.slice a4i l4i c4i) g ∨ Of2 (.slice r1i p1i t1i) (.slice r2i p2i t2i) g) → w7.heap.size ≤ g) := by
    intro g hg
    rcases hg with hg | hg | hg
    · exact (o1'.of4 g hg).1
    · exact (World.ownsRow.lt o2' g hg).1
    · exact (World.ownsRow.lt o3' g hg).1
  have HZ8 : Hid (w7.heap.size ≤ w8.heap.size) := b'.size
  have b8 := bel_next b7 b'
  have I8 := I7.below b'
  have IW8 := IW7.below b'
  have IB8 := IB7.below b'
  have O8 := O7.below b'
  have OQ8 := OQ7.below b'
  have OR8 := OR7.below b'
  have A8 := A7.below b'
  have D8 := D7.below b'
  have X8 := X7.below b'
  have Y8 := Y7.below b'
  have E8 := E7.below b'
  have F8 := F7.below b'
  clear b' b7 I7 IW7 IB7 O7 OQ7 OR7 A7 ca0 ca1 ca2 ca3 D7 cd0 cd1 cd2 cd3 cd4 cd5 X7 cxx0 cxx1 cxx2 cxx3 Y7 cyy0 cyy1 cyy2 cyy3 cyy4 cyy5 E7 ce0 ce1 ce2 ce3 F7 cf0 cf1 cf2 cf3 cf4 cf5 
  obtain ⟨ca0, ca1, ca2, ca3⟩ := A8.four
  obtain ⟨cd0, cd1, cd2, cd3, cd4, cd5⟩ := D8.six
  obtain ⟨cxx0, cxx1, cxx2, cxx3⟩ := X8.four
  obtain ⟨cyy0, cyy1, cyy2, cyy3, cyy4, cyy5⟩ := Y8.six
  obtain ⟨ce0, ce1, ce2, ce3⟩ := E8.four
  obtain ⟨cf0, cf1, cf2, cf3, cf4, cf5⟩ := F8.six
  have J8 := o1'
  clear o1'
  have JW8 := o2'
  clear o2'
  have JB8 := o3'
  clear o3'
  have b' := bel_alloc w8 (.cells #[.slice a1i l1i c1i, .slice a2i l2i c2i, .slice a3i l3i c3i, .slice a4i l4i c4i] 36)
  have Q' := Blk.new w8 #[.slice a1i l1i c1i, .slice a2i l2i c2i, .slice a3i l3i c3i, .slice a4i l4i c4i] 36
  obtain ⟨w9, hw9⟩ : ∃ x, x = w8.alloc (.cells #[.slice a1i l1i c1i, .slice a2i l2i c2i, .slice a3i l3i c3i, .slice a4i l4i c4i] 36) := ⟨_, rfl⟩
  rw [← hw9] at b' Q'
  have HW9 : Hid (w9 = _) := hw9
  obtain ⟨BM, hBM⟩ : ∃ x, x = w8.heap.size := ⟨_, rfl⟩
  rw [← hBM] at Q'
  have HBM : Hid (BM = w8.heap.size) := hBM
  clear hw9 hBM
  have HZ9 : Hid (w8.heap.size ≤ w9.heap.size) := b'.size
  have b9 := bel_next b8 b'
  have I9 := I8.below b'
  have IW9 := IW8.below b'
  have IB9 := IB8.below b'
  have O9 := O8.below b'
  have OQ9 := OQ8.below b'
  have OR9 := OR8.below b'
  have J9 := J8.below b'
  have JW9 := JW8.below b'
  have JB9 := JB8.below b'
  have A9 := A8.below b'
  have D9 := D8.below b'
  have X9 := X8.below b'
  have Y9 := Y8.below b'
  have E9 := E8.below b'
  have F9 := F8.below b'
  clear b' b8 I8 IW8 IB8 O8 OQ8 OR8 J8 JW8 JB8 A8 ca0 ca1 ca2 ca3 D8 cd0 cd1 cd2 cd3 cd4 cd5 X8 cxx0 cxx1 cxx2 cxx3 Y8 cyy0 cyy1 cyy2 cyy3 cyy4 cyy5 E8 ce0 ce1 ce2 ce3 F8 cf0 cf1 cf2 cf3 cf4 cf5 
  obtain ⟨ca0, ca1, ca2, ca3⟩ := A9.four
  obtain ⟨cd0, cd1, cd2, cd3, cd4, cd5⟩ := D9.six
  obtain ⟨cxx0, cxx1, cxx2, cxx3⟩ := X9.four
  obtain ⟨cyy0, cyy1, cyy2, cyy3, cyy4, cyy5⟩ := Y9.six
  obtain ⟨ce0, ce1, ce2, ce3⟩ := E9.four
  obtain ⟨cf0, cf1, cf2, cf3, cf4, cf5⟩ := F9.six
  have M9 := Q'
  clear Q'
  obtain ⟨cm0, cm1, cm2, cm3⟩ := M9.four
  have b' := bel_alloc w9 (.cells #[.int .i64 V.kd, .int .i64 V.fl, .int .i64 V.pl, .int .i64 V.nn, .slice r1i p1i t1i, .slice r2i p2i t2i] 29)
  have Q' := Blk.new w9 #[.int .i64 V.kd, .int .i64 V.fl, .int .i64 V.pl, .int .i64 V.nn, .slice r1i p1i t1i, .slice r2i p2i t2i] 29
  obtain ⟨w10, hw10⟩ : ∃ x, x = w9.alloc (.cells #[.int .i64 V.kd, .int .i64 V.fl, .int .i64 V.pl, .int .i64 V.nn, .slice r1i p1i t1i, .slice r2i p2i t2i] 29) := ⟨_, rfl⟩
  rw [← hw10] at b' Q'
  have HW10 : Hid (w10 = _) := hw10
  obtain ⟨BU, hBU⟩ : ∃ x, x = w9.heap.size := ⟨_, rfl⟩
  rw [← hBU] at Q'
  have HBU : Hid (BU = w9.heap.size) := hBU
  clear hw10 hBU
  have HZ10 : Hid (w9.heap.size ≤ w10.heap.size) := b'.size
  have b10 := bel_next b9 b'
  have I10 := I9.below b'
  have IW10 := IW9.below b'
  have IB10 := IB9.below b'
  have O10 := O9.below b'
  have OQ10 := OQ9.below b'
  have OR10 := OR9.below b'
  have J10 := J9.below b'
  have JW10 := JW9.below b'
  have JB10 := JB9.below b'
  have A10 := A9.below b'
  have D10 := D9.below b'
  have X10 := X9.below b'
  have Y10 := Y9.below b'
  have E10 := E9.below b'
  have F10 := F9.below b'
  have M10 := M9.below b'
  clear b' b9 I9 IW9 IB9 O9 OQ9 OR9 J9 JW9 JB9 A9 ca0 ca1 ca2 ca3 D9 cd0 cd1 cd2 cd3 cd4 cd5 X9 cxx0 cxx1 cxx2 cxx3 Y9 cyy0 cyy1 cyy2 cyy3 cyy4 cyy5 E9 ce0 ce1 ce2 ce3 F9 cf0 cf1 cf2 cf3 cf4 cf5 M9 cm0 cm1 cm2 cm3 
  obtain ⟨ca0, ca1, ca2, ca3⟩ := A10.four
  obtain ⟨cd0, cd1, cd2, cd3, cd4, cd5⟩ := D10.six
  obtain ⟨cxx0, cxx1, cxx2, cxx3⟩ := X10.four
  obtain ⟨cyy0, cyy1, cyy2, cyy3, cyy4, cyy5⟩ := Y10.six
  obtain ⟨ce0, ce1, ce2, ce3⟩ := E10.four
  obtain ⟨cf0, cf1, cf2, cf3, cf4, cf5⟩ := F10.six
  obtain ⟨cm0, cm1, cm2, cm3⟩ := M10.four
  have U10 := Q'
  clear Q'
  obtain ⟨cu0, cu1, cu2, cu3, cu4, cu5⟩ := U10.six
  go_upto_region 12 with fail
  rw [← HW9.out, ← HW10.out]
  simp only [← HBM.out]
  have hBU : BM + 1 = BU := by rw [HBU.out, HW9.out, HBM.out]; simp
  simp only [hBU]
  clear hBU
  have HSV : Hid (SmD 2000000 V.cs is V.hs rs ∧ V.ws.length ≤ 2000000 ∧ V.bs.length ≤ 2000000) := by
    have hv := svV_len HN.out.1 HQ.out.1 HQ.out.2.1 HV.out
    obtain ⟨n1', n2', n3', n4'⟩ := HN.out.1
    have := F2.out
    unfold SmD
    show (_ ∧ _ ∧ _ ∧ _) ∧ _ ∧ _
    have := HQ.out
    omega
  go_wp2_with fail
  refine (eqDevice_true a1i a2i a3i a4i l1i l2i l3i l4i c1i c2i c3i c4i a1s a2s a3s a4s l1s l2s l3s l4s c1s c2s c3s c4s V.cs is V.hs rs _ J10.sl.1 I10.sl.1 J10.sl.2 I10.sl.2 HSV.out.1).mono ?_
  rintro e w11 ⟨rfl, b'⟩
  have HZ11 : Hid (w10.heap.size ≤ w11.heap.size) := b'.size
  have b11 := bel_next b10 b'
  have I11 := I10.below b'
  have IW11 := IW10.below b'
  have IB11 := IB10.below b'
  have O11 := O10.below b'
  have OQ11 := OQ10.below b'
  have OR11 := OR10.below b'
  have J11 := J10.below b'
  have JW11 := JW10.below b'
  have JB11 := JB10.below b'
  have A11 := A10.below b'
  have D11 := D10.below b'
  have X11 := X10.below b'
  have Y11 := Y10.below b'
  have E11 := E10.below b'
  have F11 := F10.below b'
  have M11 := M10.below b'
  have U11 := U10.below b'
  clear b' b10 I10 IW10 IB10 O10 OQ10 OR10 J10 JW10 JB10 A10 ca0 ca1 ca2 ca3 D10 cd0 cd1 cd2 cd3 cd4 cd5 X10 cxx0 cxx1 cxx2 cxx3 Y10 cyy0 cyy1 cyy2 cyy3 cyy4 cyy5 E10 ce0 ce1 ce2 ce3 F10 cf0 cf1 cf2 cf3 cf4 cf5 M10 cm0 cm1 cm2 cm3 U10 cu0 cu1 cu2 cu3 cu4 cu5 
  obtain ⟨ca0, ca1, ca2, ca3⟩ := A11.four
  obtain ⟨cd0, cd1, cd2, cd3, cd4, cd5⟩ := D11.six
  obtain ⟨cxx0, cxx1, cxx2, cxx3⟩ := X11.four
  obtain ⟨cyy0, cyy1, cyy2, cyy3, cyy4, cyy5⟩ := Y11.six
  obtain ⟨ce0, ce1, ce2, ce3⟩ := E11.four
  obtain ⟨cf0, cf1, cf2, cf3, cf4, cf5⟩ := F11.six
  obtain ⟨cm0, cm1, cm2, cm3⟩ := M11.four
  obtain ⟨cu0, cu1, cu2, cu3, cu4, cu5⟩ := U11.six
  go_wp2_with fail
  refine (eqResp_true V.kd V.fl V.pl V.nn r1i r2i r1s r2s p1i p2i p1s p2s t1i t2i t1s t2s V.ws V.bs _ JW11.sl.1 JB11.sl.1 IW11.sl.1 IB11.sl.1 JW11.sl.2 JB11.sl.2 IW11.sl.2 IB11.sl.2 HSV.out.2.1 HSV.out.2.2).mono ?_
  rintro e w12 ⟨rfl, b'⟩
  have HZ12 : Hid (w11.heap.size ≤ w12.heap.size) := b'.size
  have b12 := bel_next b11 b'
  have I12 := I11.below b'
  have IW12 := IW11.below b'
  have IB12 := IB11.below b'
  have O12 := O11.below b'
  have OQ12 := OQ11.below b'
  have OR12 := OR11.below b'
  have J12 := J11.below b'
  have JW12 := JW11.below b'
  have JB12 := JB11.below b'
  have A12 := A11.below b'
  have D12 := D11.below b'
  have X12 := X11.below b'
  have Y12 := Y11.below b'
  have E12 := E11.below b'
  have F12 := F11.below b'
  have M12 := M11.below b'
  have U12 := U11.below b'
  clear b' b11 I11 IW11 IB11 O11 OQ11 OR11 J11 JW11 JB11 A11 ca0 ca1 ca2 ca3 D11 cd0 cd1 cd2 cd3 cd4 cd5 X11 cxx0 cxx1 cxx2 cxx3 Y11 cyy0 cyy1 cyy2 cyy3 cyy4 cyy5 E11 ce0 ce1 ce2 ce3 F11 cf0 cf1 cf2 cf3 cf4 cf5 M11 cm0 cm1 cm2 cm3 U11 cu0 cu1 cu2 cu3 cu4 cu5 
  obtain ⟨ca0, ca1, ca2, ca3⟩ := A12.four
  obtain ⟨cd0, cd1, cd2, cd3, cd4, cd5⟩ := D12.six
  obtain ⟨cxx0, cxx1, cxx2, cxx3⟩ := X12.four
  obtain ⟨cyy0, cyy1, cyy2, cyy3, cyy4, cyy5⟩ := Y12.six
  obtain ⟨ce0, ce1, ce2, ce3⟩ := E12.four
  obtain ⟨cf0, cf1, cf2, cf3, cf4, cf5⟩ := F12.six
  obtain ⟨cm0, cm1, cm2, cm3⟩ := M12.four
  obtain ⟨cu0, cu1, cu2, cu3, cu4, cu5⟩ := U12.six
  go_upto_region 14 with fail
  go_upto_region 14 with fail
  go_cut [59] (fun sX wx => sX = .bool false ∧ Below w12.heap.size w12 wx)
  case first =>
    go_region_with (first
      | (go_at_call 32; refine (toDevice_any a1 a2 a3 a4 l1 l2 l3 l4 c1 c2 c3 c4 cs is hs rs _ HN.out.1 (HN.out.2.2.1.below (by first | exact b12 | exact b12.drew | exact b12.drew.drew | exact b12.drew.drew.drew)) HN.out.2.1).mono ?_; rintro e w7x ⟨y1', y2', y3', y4', rfl, i7, b7'⟩; have b7 := bel_next (Below.refl _ w12).drew b7'; have i6' := O12.below b7; obtain ⟨z0, z1, z2, z3⟩ := (E12.below b7).four; clear b7')
      | (go_at_call 34; refine (eqDevice_true _ _ _ _ _ _ _ _ _ _ _ _ _ _ _ _ _ _ _ _ _ _ _ _ cs is hs rs _ HN.out.1 HN.out.1 ?_ ?_ HN.out.2.1).mono ?_; (first | exact i6'.sl.2 | exact (i6'.below (Below.refl _ _).drew).sl.2 | exact (i6'.below (Below.refl _ _).drew.drew).sl.2); (first | exact i7.sl.2 | exact (i7.below (Below.refl _ _).drew).sl.2 | exact (i7.below (Below.refl _ _).drew.drew).sl.2); rintro e w8x ⟨rfl, b8'⟩; have b8x := bel_next (by first | exact b7 | exact b7.drew | exact b7.drew.drew) b8'; clear b8'))
    all_goals (go_wp2_with fail; go_meet; exact ⟨rfl, b8x⟩)
  case rest =>
  obtain ⟨rfl, b'⟩ := hcut
  obtain ⟨w13, hw13⟩ : ∃ x, x = wc := ⟨_, rfl⟩
  rw [← hw13] at b' ⊢
  clear hw13
  have HZ13 : Hid (w12.heap.size ≤ w13.heap.size) := b'.size
  have b13 := bel_next b12 b'
  have I13 := I12.below b'
  have IW13 := IW12.below b'
  have IB13 := IB12.below b'
  have O13 := O12.below b'
  have OQ13 := OQ12.below b'
  have OR13 := OR12.below b'
  have J13 := J12.below b'
  have JW13 := JW12.below b'
  have JB13 := JB12.below b'
  have A13 := A12.below b'
  have D13 := D12.below b'
  have X13 := X12.below b'
  have Y13 := Y12.below b'
  have E13 := E12.below b'
  have F13 := F12.below b'
  have M13 := M12.below b'
  have U13 := U12.below b'
  clear b' b12 I12 IW12 IB12 O12 OQ12 OR12 J12 JW12 JB12 A12 ca0 ca1 ca2 ca3 D12 cd0 cd1 cd2 cd3 cd4 cd5 X12 cxx0 cxx1 cxx2 cxx3 Y12 cyy0 cyy1 cyy2 cyy3 cyy4 cyy5 E12 ce0 ce1 ce2 ce3 F12 cf0 cf1 cf2 cf3 cf4 cf5 M12 cm0 cm1 cm2 cm3 U12 cu0 cu1 cu2 cu3 cu4 cu5 
  obtain ⟨ca0, ca1, ca2, ca3⟩ := A13.four
  obtain ⟨cd0, cd1, cd2, cd3, cd4, cd5⟩ := D13.six
  obtain ⟨cxx0, cxx1, cxx2, cxx3⟩ := X13.four
  obtain ⟨cyy0, cyy1, cyy2, cyy3, cyy4, cyy5⟩ := Y13.six
  obtain ⟨ce0, ce1, ce2, ce3⟩ := E13.four
  obtain ⟨cf0, cf1, cf2, cf3, cf4, cf5⟩ := F13.six
  obtain ⟨cm0, cm1, cm2, cm3⟩ := M13.four
  obtain ⟨cu0, cu1, cu2, cu3, cu4, cu5⟩ := U13.six
  go_upto_region 16 with fail
  go_cut [64] (fun sX wx => sX = .bool false ∧ Below w13.heap.size w13 wx)
  case first =>
    go_region_with (first
      | (go_at_call 33; refine (toReq_any kd pl nn wa q1 q2 m1 m2 k1 k2 ws bs _ HQ.out.1 HQ.out.2.1 (HN.out.2.2.2.1.below (by first | exact b13 | exact b13.drew | exact b13.drew.drew | exact b13.drew.drew.drew)) (HN.out.2.2.2.2.below (by first | exact b13 | exact b13.drew | exact b13.drew.drew | exact b13.drew.drew.drew)) HQ.out.2.2.2.2.1 HQ.out.2.2.2.2.2).mono ?_; rintro e w7x ⟨y1', y2', rfl, i7, j7, b7'⟩; have b7 := bel_next (Below.refl _ w13).drew b7'; have i6' := OQ13.below b7; have j6' := OR13.below b7; obtain ⟨z0, z1, z2, z3, z4, z5⟩ := (F13.below b7).six; clear b7')
      | (go_at_call 36; refine (eqReq_true kd pl nn wa _ _ _ _ _ _ _ _ _ _ _ _ ws bs _ HQ.out.1 HQ.out.2.1 HQ.out.1 HQ.out.2.1 ?_ ?_ ?_ ?_ HQ.out.2.2.1 (by have := HQ.out; omega)).mono ?_; (first | exact i6'.sl.2 | exact (i6'.below (Below.refl _ _).drew).sl.2 | exact (i6'.below (Below.refl _ _).drew.drew).sl.2); (first | exact j6'.sl.2 | exact (j6'.below (Below.refl _ _).drew).sl.2 | exact (j6'.below (Below.refl _ _).drew.drew).sl.2); (first | exact i7.sl.2 | exact (i7.below (Below.refl _ _).drew).sl.2 | exact (i7.below (Below.refl _ _).drew.drew).sl.2); (first | exact j7.sl.2 | exact (j7.below (Below.refl _ _).drew).sl.2 | exact (j7.below (Below.refl _ _).drew.drew).sl.2); rintro e w8x ⟨rfl, b8'⟩; have b8x := bel_next (by first | exact b7 | exact b7.drew | exact b7.drew.drew) b8'; clear b8'))
    all_goals (go_wp2_with fail; go_meet; exact ⟨rfl, b8x⟩)
  case rest =>
  obtain ⟨rfl, b'⟩ := hcut
  obtain ⟨w14, hw14⟩ : ∃ x, x = wc := ⟨_, rfl⟩
  rw [← hw14] at b' ⊢
  clear hw14
  have HZ14 : Hid (w13.heap.size ≤ w14.heap.size) := b'.size
  have b14 := bel_next b13 b'
  have I14 := I13.below b'
  have IW14 := IW13.below b'
  have IB14 := IB13.below b'
  have O14 := O13.below b'
  have OQ14 := OQ13.below b'
  have OR14 := OR13.below b'
  have J14 := J13.below b'
  have JW14 := JW13.below b'
  have JB14 := JB13.below b'
  have A14 := A13.below b'
  have D14 := D13.below b'
  have X14 := X13.below b'
  have Y14 := Y13.below b'
  have E14 := E13.below b'
  have F14 := F13.below b'
  have M14 := M13.below b'
  have U14 := U13.below b'
  clear b' b13 I13 IW13 IB13 O13 OQ13 OR13 J13 JW13 JB13 A13 ca0 ca1 ca2 ca3 D13 cd0 cd1 cd2 cd3 cd4 cd5 X13 cxx0 cxx1 cxx2 cxx3 Y13 cyy0 cyy1 cyy2 cyy3 cyy4 cyy5 E13 ce0 ce1 ce2 ce3 F13 cf0 cf1 cf2 cf3 cf4 cf5 M13 cm0 cm1 cm2 cm3 U13 cu0 cu1 cu2 cu3 cu4 cu5 
  obtain ⟨ca0, ca1, ca2, ca3⟩ := A14.four
  obtain ⟨cd0, cd1, cd2, cd3, cd4, cd5⟩ := D14.six
  obtain ⟨cxx0, cxx1, cxx2, cxx3⟩ := X14.four
  obtain ⟨cyy0, cyy1, cyy2, cyy3, cyy4, cyy5⟩ := Y14.six
  obtain ⟨ce0, ce1, ce2, ce3⟩ := E14.four
  obtain ⟨cf0, cf1, cf2, cf3, cf4, cf5⟩ := F14.six
  obtain ⟨cm0, cm1, cm2, cm3⟩ := M14.four
  obtain ⟨cu0, cu1, cu2, cu3, cu4, cu5⟩ := U14.six
  have DsO : Hid (∀ g, Of4 (.slice a1s l1s c1s) (.slice a2s l2s c2s) (.slice a3s l3s c3s) (.slice a4s l4s c4s) g → ¬ Of4 (.slice (some ⟨g1, 0, none⟩) l1 l1) (.slice (some ⟨g2, 0, none⟩) l2 l2) (.slice (some ⟨g3, 0, none⟩) l3 l3) (.slice (some ⟨g4, 0, none⟩) l4 l4) g) := by
    intro g h1 h2
    have q1 := HRs.out g (.inl h1)
    have q2 := HRo.out g h2
    have z5 := HZ5.out; have z6 := HZ6.out; have z7 := HZ7.out; have z8 := HZ8.out
    omega
  have DtO : Hid (∀ g, Of2 (.slice r1s p1s t1s) (.slice r2s p2s t2s) g → ¬ Of4 (.slice (some ⟨g1, 0, none⟩) l1 l1) (.slice (some ⟨g2, 0, none⟩) l2 l2) (.slice (some ⟨g3, 0, none⟩) l3 l3) (.slice (some ⟨g4, 0, none⟩) l4 l4) g) := by
    intro g h1 h2
    have q1 := HRs.out g (.inr h1)
    have q2 := HRo.out g h2
    have z5 := HZ5.out; have z6 := HZ6.out; have z7 := HZ7.out; have z8 := HZ8.out
    omega
  have DiO : Hid (∀ g, Of4 (.slice a1i l1i c1i) (.slice a2i l2i c2i) (.slice a3i l3i c3i) (.slice a4i l4i c4i) g → ¬ Of4 (.slice (some ⟨g1, 0, none⟩) l1 l1) (.slice (some ⟨g2, 0, none⟩) l2 l2) (.slice (some ⟨g3, 0, none⟩) l3 l3) (.slice (some ⟨g4, 0, none⟩) l4 l4) g) := by
    intro g h1 h2
    have q1 := HRi.out g (.inl h1)
    have q2 := HRo.out g h2
    have z5 := HZ5.out; have z6 := HZ6.out; have z7 := HZ7.out; have z8 := HZ8.out
    omega
  have DjO : Hid (∀ g, Of2 (.slice r1i p1i t1i) (.slice r2i p2i t2i) g → ¬ Of4 (.slice (some ⟨g1, 0, none⟩) l1 l1) (.slice (some ⟨g2, 0, none⟩) l2 l2) (.slice (some ⟨g3, 0, none⟩) l3 l3) (.slice (some ⟨g4, 0, none⟩) l4 l4) g) := by
    intro g h1 h2
    have q1 := HRi.out g (.inr h1)
    have q2 := HRo.out g h2
    have z5 := HZ5.out; have z6 := HZ6.out; have z7 := HZ7.out; have z8 := HZ8.out
    omega
  have DqO : Hid (∀ g, Of2 (.slice (some ⟨g5, 0, none⟩) m1 m1) (.slice (some ⟨g6, 0, none⟩) m2 m2) g → ¬ Of4 (.slice (some ⟨g1, 0, none⟩) l1 l1) (.slice (some ⟨g2, 0, none⟩) l2 l2) (.slice (some ⟨g3, 0, none⟩) l3 l3) (.slice (some ⟨g4, 0, none⟩) l4 l4) g) := by
    intro g h1 h2
    have q1 := HRq.out g h1
    have q2 := HRo.out g h2
    have z5 := HZ5.out; have z6 := HZ6.out; have z7 := HZ7.out; have z8 := HZ8.out
    omega
  have DsQ : Hid (∀ g, Of4 (.slice a1s l1s c1s) (.slice a2s l2s c2s) (.slice a3s l3s c3s) (.slice a4s l4s c4s) g → ¬ Of2 (.slice (some ⟨g5, 0, none⟩) m1 m1) (.slice (some ⟨g6, 0, none⟩) m2 m2) g) := by
    intro g h1 h2
    have q1 := HRs.out g (.inl h1)
    have q2 := HRq.out g h2
    have z4 := HRo; have z5 := HZ5.out; have z6 := HZ6.out; have z7 := HZ7.out; have z8 := HZ8.out; have z34 : w3.heap.size ≤ w4.heap.size := HZ4.out
    omega
  have DtQ : Hid (∀ g, Of2 (.slice r1s p1s t1s) (.slice r2s p2s t2s) g → ¬ Of2 (.slice (some ⟨g5, 0, none⟩) m1 m1) (.slice (some ⟨g6, 0, none⟩) m2 m2) g) := by
    intro g h1 h2
    have q1 := HRs.out g (.inr h1)
    have q2 := HRq.out g h2
    have z4 := HRo; have z5 := HZ5.out; have z6 := HZ6.out; have z7 := HZ7.out; have z8 := HZ8.out; have z34 : w3.heap.size ≤ w4.heap.size := HZ4.out
    omega
  have DiQ : Hid (∀ g, Of4 (.slice a1i l1i c1i) (.slice a2i l2i c2i) (.slice a3i l3i c3i) (.slice a4i l4i c4i) g → ¬ Of2 (.slice (some ⟨g5, 0, none⟩) m1 m1) (.slice (some ⟨g6, 0, none⟩) m2 m2) g) := by
    intro g h1 h2
    have q1 := HRi.out g (.inl h1)
    have q2 := HRq.out g h2
    have z4 := HRo; have z5 := HZ5.out; have z6 := HZ6.out; have z7 := HZ7.out; have z8 := HZ8.out; have z34 : w3.heap.size ≤ w4.heap.size := HZ4.out
    omega
  have DjQ : Hid (∀ g, Of2 (.slice r1i p1i t1i) (.slice r2i p2i t2i) g → ¬ Of2 (.slice (some ⟨g5, 0, none⟩) m1 m1) (.slice (some ⟨g6, 0, none⟩) m2 m2) g) := by
    intro g h1 h2
    have q1 := HRi.out g (.inr h1)
    have q2 := HRq.out g h2
    have z4 := HRo; have z5 := HZ5.out; have z6 := HZ6.out; have z7 := HZ7.out; have z8 := HZ8.out; have z34 : w3.heap.size ≤ w4.heap.size := HZ4.out
    omega
  have DsI : Hid (∀ g, Of4 (.slice a1s l1s c1s) (.slice a2s l2s c2s) (.slice a3s l3s c3s) (.slice a4s l4s c4s) g → ¬ Of4 (.slice a1i l1i c1i) (.slice a2i l2i c2i) (.slice a3i l3i c3i) (.slice a4i l4i c4i) g) := by
    intro g h1 h2
    have q1 := HRs.out g (.inl h1)
    have q2 := HRi.out g (.inl h2)
    have z4 := HRo; have z5 := HZ5.out; have z6 := HZ6.out; have z7 := HZ7.out; have z8 := HZ8.out; have z34 : w3.heap.size ≤ w4.heap.size := HZ4.out
    omega
  have DtI : Hid (∀ g, Of2 (.slice r1s p1s t1s) (.slice r2s p2s t2s) g → ¬ Of4 (.slice a1i l1i c1i) (.slice a2i l2i c2i) (.slice a3i l3i c3i) (.slice a4i l4i c4i) g) := by
    intro g h1 h2
    have q1 := HRs.out g (.inr h1)
    have q2 := HRi.out g (.inl h2)
    have z4 := HRo; have z5 := HZ5.out; have z6 := HZ6.out; have z7 := HZ7.out; have z8 := HZ8.out; have z34 : w3.heap.size ≤ w4.heap.size := HZ4.out
    omega
  have DsJ : Hid (∀ g, Of4 (.slice a1s l1s c1s) (.slice a2s l2s c2s) (.slice a3s l3s c3s) (.slice a4s l4s c4s) g → ¬ Of2 (.slice r1i p1i t1i) (.slice r2i p2i t2i) g) := by
    intro g h1 h2
    have q1 := HRs.out g (.inl h1)
    have q2 := HRi.out g (.inr h2)
    have z4 := HRo; have z5 := HZ5.out; have z6 := HZ6.out; have z7 := HZ7.out; have z8 := HZ8.out; have z34 : w3.heap.size ≤ w4.heap.size := HZ4.out
    omega
  have DtJ : Hid (∀ g, Of2 (.slice r1s p1s t1s) (.slice r2s p2s t2s) g → ¬ Of2 (.slice r1i p1i t1i) (.slice r2i p2i t2i) g) := by
    intro g h1 h2
    have q1 := HRs.out g (.inr h1)
    have q2 := HRi.out g (.inr h2)
    have z4 := HRo; have z5 := HZ5.out; have z6 := HZ6.out; have z7 := HZ7.out; have z8 := HZ8.out; have z34 : w3.heap.size ≤ w4.heap.size := HZ4.out
    omega
  have LB : Hid (w.heap.size ≤ w3.heap.size ∧ w.heap.size ≤ w5.heap.size ∧ w.heap.size ≤ w7.heap.size) := by have z0 := HB3.out; have z34 : w3.heap.size ≤ w4.heap.size := HZ4.out; have z5 := HZ5.out; have z6 := HZ6.out; have z7 := HZ7.out; show _ ∧ _ ∧ _; omega
  have LL : Hid (l1 ≤ 2000000 ∧ l2 ≤ 2000000 ∧ l3 ≤ 2000000 ∧ l4 ≤ 2000000 ∧ m1 ≤ 2000000 ∧ m2 ≤ 2000000) := by have := F2.out; show _ ∧ _ ∧ _ ∧ _ ∧ _ ∧ _; omega
  go_wp2_with fail
  refine (markDevice_s (some ⟨g1, 0, none⟩) (some ⟨g2, 0, none⟩) (some ⟨g3, 0, none⟩) (some ⟨g4, 0, none⟩) l1 l2 l3 l4 l1 l2 l3 l4 1 _ cs is hs rs _ _ rfl O14.1 O14.2.1 O14.2.2.1 O14.2.2.2.1 O14.2.2.2.2.1 O14.2.2.2.2.2 LL.out.1 LL.out.2.1 LL.out.2.2.1 LL.out.2.2.2.1 (by omega)).mono ?_
  rintro e w15 ⟨rfl, _, ch⟩
  have I15 := I14.chg ch DsO.out
  have IW15 : OwnI w15 _ _ _ := row_chg IW14 ch (fun g hg => DtO.out g (.inl hg))
  have IB15 : OwnB w15 _ _ _ := row_chg IB14 ch (fun g hg => DtO.out g (.inr hg))
  have J15 := J14.chg ch DiO.out
  have JW15 : OwnI w15 _ _ _ := row_chg JW14 ch (fun g hg => DjO.out g (.inl hg))
  have JB15 : OwnB w15 _ _ _ := row_chg JB14 ch (fun g hg => DjO.out g (.inr hg))
  have OQ15 : OwnI w15 _ _ _ := row_chg OQ14 ch (fun g hg => DqO.out g (.inl hg))
  have OR15 : OwnB w15 _ _ _ := row_chg OR14 ch (fun g hg => DqO.out g (.inr hg))
  have A15 := A14.chg ch (O14.noBlk A14 (by decide) (by decide))
  have D15 := D14.chg ch (O14.noBlk D14 (by decide) (by decide))
  have X15 := X14.chg ch (O14.noBlk X14 (by decide) (by decide))
  have Y15 := Y14.chg ch (O14.noBlk Y14 (by decide) (by decide))
  have E15 := E14.chg ch (O14.noBlk E14 (by decide) (by decide))
  have F15 := F14.chg ch (O14.noBlk F14 (by decide) (by decide))
  have M15 := M14.chg ch (O14.noBlk M14 (by decide) (by decide))
  have U15 := U14.chg ch (O14.noBlk U14 (by decide) (by decide))
  have b15 := Chg.below b14 ch (fun g hg => by have := (HRo.out g hg).1; have := LB.out; omega) b14.size
  clear b14 ch I14 IW14 IB14 O14 OQ14 OR14 J14 JW14 JB14 A14 ca0 ca1 ca2 ca3 D14 cd0 cd1 cd2 cd3 cd4 cd5 X14 cxx0 cxx1 cxx2 cxx3 Y14 cyy0 cyy1 cyy2 cyy3 cyy4 cyy5 E14 ce0 ce1 ce2 ce3 F14 cf0 cf1 cf2 cf3 cf4 cf5 M14 cm0 cm1 cm2 cm3 U14 cu0 cu1 cu2 cu3 cu4 cu5
  obtain ⟨ca0, ca1, ca2, ca3⟩ := A15.four
  obtain ⟨cd0, cd1, cd2, cd3, cd4, cd5⟩ := D15.six
  obtain ⟨cxx0, cxx1, cxx2, cxx3⟩ := X15.four
  obtain ⟨cyy0, cyy1, cyy2, cyy3, cyy4, cyy5⟩ := Y15.six
  obtain ⟨ce0, ce1, ce2, ce3⟩ := E15.four
  obtain ⟨cf0, cf1, cf2, cf3, cf4, cf5⟩ := F15.six
  obtain ⟨cm0, cm1, cm2, cm3⟩ := M15.four
  obtain ⟨cu0, cu1, cu2, cu3, cu4, cu5⟩ := U15.six
  obtain ⟨s1, hs1⟩ : ∃ s1 : Nat, s1 = 1 + l1 + l2 + l3 + l4 := ⟨_, rfl⟩
  have HS1 : Hid (s1 = 1 + l1 + l2 + l3 + l4 ∧ s1 ≤ 2000000) := ⟨hs1, by have := F2.out; omega⟩
  clear hs1
  go_wp2_with fail
  refine (markReq_s kd pl nn wa (some ⟨g5, 0, none⟩) (some ⟨g6, 0, none⟩) m1 m2 m1 m2 s1 _ ws bs _ _ (by have := HS1.out; omega) OQ15 OR15 LL.out.2.2.2.2.1 LL.out.2.2.2.2.2 HS1.out.2).mono ?_
  rintro e w16 ⟨rfl, _, ch⟩
  have I16 := I15.chg ch DsQ.out
  have IW16 : OwnI w16 _ _ _ := row_chg IW15 ch (fun g hg => DtQ.out g (.inl hg))
  have IB16 : OwnB w16 _ _ _ := row_chg IB15 ch (fun g hg => DtQ.out g (.inr hg))
  have J16 := J15.chg ch DiQ.out
  have JW16 : OwnI w16 _ _ _ := row_chg JW15 ch (fun g hg => DjQ.out g (.inl hg))
  have JB16 : OwnB w16 _ _ _ := row_chg JB15 ch (fun g hg => DjQ.out g (.inr hg))
  have A16 := A15.chg ch (noBlk2 OQ15 OR15 A15 (by decide) (by decide))
  have D16 := D15.chg ch (noBlk2 OQ15 OR15 D15 (by decide) (by decide))
  have X16 := X15.chg ch (noBlk2 OQ15 OR15 X15 (by decide) (by decide))
  have Y16 := Y15.chg ch (noBlk2 OQ15 OR15 Y15 (by decide) (by decide))
  have E16 := E15.chg ch (noBlk2 OQ15 OR15 E15 (by decide) (by decide))
  have F16 := F15.chg ch (noBlk2 OQ15 OR15 F15 (by decide) (by decide))
  have M16 := M15.chg ch (noBlk2 OQ15 OR15 M15 (by decide) (by decide))
  have U16 := U15.chg ch (noBlk2 OQ15 OR15 U15 (by decide) (by decide))
  have b16 := Chg.below b15 ch (fun g hg => by have := (HRq.out g hg).1; have := LB.out; omega) b15.size
  clear b15 ch I15 IW15 IB15 J15 JW15 JB15 OQ15 OR15 A15 ca0 ca1 ca2 ca3 D15 cd0 cd1 cd2 cd3 cd4 cd5 X15 cxx0 cxx1 cxx2 cxx3 Y15 cyy0 cyy1 cyy2 cyy3 cyy4 cyy5 E15 ce0 ce1 ce2 ce3 F15 cf0 cf1 cf2 cf3 cf4 cf5 M15 cm0 cm1 cm2 cm3 U15 cu0 cu1 cu2 cu3 cu4 cu5
  obtain ⟨ca0, ca1, ca2, ca3⟩ := A16.four
  obtain ⟨cd0, cd1, cd2, cd3, cd4, cd5⟩ := D16.six
  obtain ⟨cxx0, cxx1, cxx2, cxx3⟩ := X16.four
  obtain ⟨cyy0, cyy1, cyy2, cyy3, cyy4, cyy5⟩ := Y16.six
  obtain ⟨ce0, ce1, ce2, ce3⟩ := E16.four
  obtain ⟨cf0, cf1, cf2, cf3, cf4, cf5⟩ := F16.six
  obtain ⟨cm0, cm1, cm2, cm3⟩ := M16.four
  obtain ⟨cu0, cu1, cu2, cu3, cu4, cu5⟩ := U16.six
  have fk : ¬ ((s1 : Int) + (m1 : Int) + (m2 : Int) < 0) := by omega
  go_wp2_with fail
  refine (eqDevice_true a1i a2i a3i a4i l1i l2i l3i l4i c1i c2i c3i c4i a1s a2s a3s a4s l1s l2s l3s l4s c1s c2s c3s c4s V.cs is V.hs rs _ J16.sl.1 I16.sl.1 J16.sl.2 I16.sl.2 HSV.out.1).mono ?_
  rintro e w17 ⟨rfl, b'⟩
  have HZ17 : Hid (w16.heap.size ≤ w17.heap.size) := b'.size
  have b17 := bel_next b16 b'
  have I17 := I16.below b'
  have IW17 := IW16.below b'
  have IB17 := IB16.below b'
  have J17 := J16.below b'
  have JW17 := JW16.below b'
  have JB17 := JB16.below b'
  have A17 := A16.below b'
  have D17 := D16.below b'
  have X17 := X16.below b'
  have Y17 := Y16.below b'
  have E17 := E16.below b'
  have F17 := F16.below b'
  have M17 := M16.below b'
  have U17 := U16.below b'
  clear b' b16 I16 IW16 IB16 J16 JW16 JB16 A16 ca0 ca1 ca2 ca3 D16 cd0 cd1 cd2 cd3 cd4 cd5 X16 cxx0 cxx1 cxx2 cxx3 Y16 cyy0 cyy1 cyy2 cyy3 cyy4 cyy5 E16 ce0 ce1 ce2 ce3 F16 cf0 cf1 cf2 cf3 cf4 cf5 M16 cm0 cm1 cm2 cm3 U16 cu0 cu1 cu2 cu3 cu4 cu5 
  obtain ⟨ca0, ca1, ca2, ca3⟩ := A17.four
  obtain ⟨cd0, cd1, cd2, cd3, cd4, cd5⟩ := D17.six
  obtain ⟨cxx0, cxx1, cxx2, cxx3⟩ := X17.four
  obtain ⟨cyy0, cyy1, cyy2, cyy3, cyy4, cyy5⟩ := Y17.six
  obtain ⟨ce0, ce1, ce2, ce3⟩ := E17.four
  obtain ⟨cf0, cf1, cf2, cf3, cf4, cf5⟩ := F17.six
  obtain ⟨cm0, cm1, cm2, cm3⟩ := M17.four
  obtain ⟨cu0, cu1, cu2, cu3, cu4, cu5⟩ := U17.six
  go_wp2_with fail
  refine (eqResp_true V.kd V.fl V.pl V.nn r1i r2i r1s r2s p1i p2i p1s p2s t1i t2i t1s t2s V.ws V.bs _ JW17.sl.1 JB17.sl.1 IW17.sl.1 IB17.sl.1 JW17.sl.2 JB17.sl.2 IW17.sl.2 IB17.sl.2 HSV.out.2.1 HSV.out.2.2).mono ?_
  rintro e w18 ⟨rfl, b'⟩
  have HZ18 : Hid (w17.heap.size ≤ w18.heap.size) := b'.size
  have b18 := bel_next b17 b'
  have I18 := I17.below b'
  have IW18 := IW17.below b'
  have IB18 := IB17.below b'
  have J18 := J17.below b'
  have JW18 := JW17.below b'
  have JB18 := JB17.below b'
  have A18 := A17.below b'
  have D18 := D17.below b'
  have X18 := X17.below b'
  have Y18 := Y17.below b'
  have E18 := E17.below b'
  have F18 := F17.below b'
  have M18 := M17.below b'
  have U18 := U17.below b'
  clear b' b17 I17 IW17 IB17 J17 JW17 JB17 A17 ca0 ca1 ca2 ca3 D17 cd0 cd1 cd2 cd3 cd4 cd5 X17 cxx0 cxx1 cxx2 cxx3 Y17 cyy0 cyy1 cyy2 cyy3 cyy4 cyy5 E17 ce0 ce1 ce2 ce3 F17 cf0 cf1 cf2 cf3 cf4 cf5 M17 cm0 cm1 cm2 cm3 U17 cu0 cu1 cu2 cu3 cu4 cu5 
  obtain ⟨ca0, ca1, ca2, ca3⟩ := A18.four
  obtain ⟨cd0, cd1, cd2, cd3, cd4, cd5⟩ := D18.six
  obtain ⟨cxx0, cxx1, cxx2, cxx3⟩ := X18.four
  obtain ⟨cyy0, cyy1, cyy2, cyy3, cyy4, cyy5⟩ := Y18.six
  obtain ⟨ce0, ce1, ce2, ce3⟩ := E18.four
  obtain ⟨cf0, cf1, cf2, cf3, cf4, cf5⟩ := F18.six
  obtain ⟨cm0, cm1, cm2, cm3⟩ := M18.four
  obtain ⟨cu0, cu1, cu2, cu3, cu4, cu5⟩ := U18.six
  have LI : Hid (l1i ≤ 2000000 ∧ l2i ≤ 2000000 ∧ l3i ≤ 2000000 ∧ l4i ≤ 2000000 ∧ p1i ≤ 2000000 ∧ p2i ≤ 2000000 ∧ 1 + l1i + l2i + l3i + l4i ≤ 2000000) := by
    have hv := svV_len HN.out.1 HQ.out.1 HQ.out.2.1 HV.out
    obtain ⟨n1q, n2q, n3q, n4q⟩ := HN.out.1
    obtain ⟨m1q, m2q, m3q, m4q⟩ := J18.sl.1
    have e1 := JW18.sl.1
    have e2 := JB18.sl.1
    have := F2.out
    have := HQ.out
    have := HSV.out.2
    show _ ∧ _ ∧ _ ∧ _ ∧ _ ∧ _ ∧ _
    omega
  obtain ⟨s2, hs2⟩ : ∃ s2 : Nat, s2 = 1 + l1i + l2i + l3i + l4i := ⟨_, rfl⟩
  have HS2 : Hid (s2 = 1 + l1i + l2i + l3i + l4i ∧ s2 ≤ 2000000) := ⟨hs2, by have := LI.out; omega⟩
  have HS2i : Hid (((1 : Nat) : Int) + (l1i : Int) + (l2i : Int) + (l3i : Int) + (l4i : Int) = (s2 : Int)) := by show _ = _; omega
  clear hs2
  clear E18 ce0 ce1 ce2 ce3
  clear F18 cf0 cf1 cf2 cf3 cf4 cf5
  go_wp2_with fail
  refine (markDevice_s a1i a2i a3i a4i l1i l2i l3i l4i c1i c2i c3i c4i 1 _ V.cs is V.hs rs _ _ rfl J18.1 J18.2.1 J18.2.2.1 J18.2.2.2.1 J18.2.2.2.2.1 J18.2.2.2.2.2 LI.out.1 LI.out.2.1 LI.out.2.2.1 LI.out.2.2.2.1 (by omega)).mono ?_
  rintro e w19 ⟨rfl, ⟨n1', n2', n3', n4'⟩, ch⟩
  have I19 := I18.chg ch DsI.out
  have IW19 : OwnI w19 _ _ _ := row_chg IW18 ch (fun g hg => DtI.out g (.inl hg))
  have IB19 : OwnB w19 _ _ _ := row_chg IB18 ch (fun g hg => DtI.out g (.inr hg))
  have JW19 : OwnI w19 _ _ _ := row_chg JW18 ch (fun g hg h4 => HApi.out g h4 (.inl hg))
  have JB19 : OwnB w19 _ _ _ := row_chg JB18 ch (fun g hg h4 => HApi.out g h4 (.inr hg))
  have A19 := A18.chg ch (J18.noBlk A18 (by decide) (by decide))
  have D19 := D18.chg ch (J18.noBlk D18 (by decide) (by decide))
  have X19 := X18.chg ch (J18.noBlk X18 (by decide) (by decide))
  have Y19 := Y18.chg ch (J18.noBlk Y18 (by decide) (by decide))
  have M19 := M18.chg ch (J18.noBlk M18 (by decide) (by decide))
  have U19 := U18.chg ch (J18.noBlk U18 (by decide) (by decide))
  have b19 := Chg.below b18 ch (fun g hg => by have := HRi.out g (.inl hg); have := LB.out; omega) b18.size
  clear b18 ch I18 IW18 IB18 J18 JW18 JB18 A18 ca0 ca1 ca2 ca3 D18 cd0 cd1 cd2 cd3 cd4 cd5 X18 cxx0 cxx1 cxx2 cxx3 Y18 cyy0 cyy1 cyy2 cyy3 cyy4 cyy5 M18 cm0 cm1 cm2 cm3 U18 cu0 cu1 cu2 cu3 cu4 cu5
  obtain ⟨ca0, ca1, ca2, ca3⟩ := A19.four
  obtain ⟨cd0, cd1, cd2, cd3, cd4, cd5⟩ := D19.six
  obtain ⟨cxx0, cxx1, cxx2, cxx3⟩ := X19.four
  obtain ⟨cyy0, cyy1, cyy2, cyy3, cyy4, cyy5⟩ := Y19.six
  obtain ⟨cm0, cm1, cm2, cm3⟩ := M19.four
  obtain ⟨cu0, cu1, cu2, cu3, cu4, cu5⟩ := U19.six
  rw [HS2i.out]
  go_wp2_with fail
  refine (markResp_s V.kd V.fl V.pl V.nn r1i r2i p1i p2i t1i t2i s2 _ V.ws V.bs _ _ rfl JW19 JB19 LI.out.2.2.2.2.1 LI.out.2.2.2.2.2.1 HS2.out.2).mono ?_
  rintro e w20 ⟨rfl, ⟨n5', n6'⟩, ch⟩
  have I20 := I19.chg ch DsJ.out
  have IW20 : OwnI w20 _ _ _ := row_chg IW19 ch (fun g hg => DtJ.out g (.inl hg))
  have IB20 : OwnB w20 _ _ _ := row_chg IB19 ch (fun g hg => DtJ.out g (.inr hg))
  have A20 := A19.chg ch (noBlk2 JW19 JB19 A19 (by decide) (by decide))
  have D20 := D19.chg ch (noBlk2 JW19 JB19 D19 (by decide) (by decide))
  have X20 := X19.chg ch (noBlk2 JW19 JB19 X19 (by decide) (by decide))
  have Y20 := Y19.chg ch (noBlk2 JW19 JB19 Y19 (by decide) (by decide))
  have M20 := M19.chg ch (noBlk2 JW19 JB19 M19 (by decide) (by decide))
  have U20 := U19.chg ch (noBlk2 JW19 JB19 U19 (by decide) (by decide))
  have e1' : OwnB w20 _ _ _ := row_chg n1' ch (fun g hg h2 => HApi.out g (.inl hg) h2)
  have e2' : OwnB w20 _ _ _ := row_chg n2' ch (fun g hg h2 => HApi.out g (.inr (.inl hg)) h2)
  have e3' : OwnI w20 _ _ _ := row_chg n3' ch (fun g hg h2 => HApi.out g (.inr (.inr (.inl hg))) h2)
  have e4' : OwnI w20 _ _ _ := row_chg n4' ch (fun g hg h2 => HApi.out g (.inr (.inr (.inr hg))) h2)
  have HK : Hid ((SlB w20 a1i _ ∧ SlB w20 a2i _ ∧ SlI w20 a3i _ ∧ SlI w20 a4i _) ∧ (SlI w20 r1i _ ∧ SlB w20 r2i _)) := ⟨⟨e1'.sl.2, e2'.sl.2, e3'.sl.2, e4'.sl.2⟩, n5'.sl.2, n6'.sl.2⟩
  clear e1' e2' e3' e4' n1' n2' n3' n4' n5' n6'
  have b20 := Chg.below b19 ch (fun g hg => by have := HRi.out g (.inr hg); have := LB.out; omega) b19.size
  clear b19 ch I19 IW19 IB19 JW19 JB19 A19 ca0 ca1 ca2 ca3 D19 cd0 cd1 cd2 cd3 cd4 cd5 X19 cxx0 cxx1 cxx2 cxx3 Y19 cyy0 cyy1 cyy2 cyy3 cyy4 cyy5 M19 cm0 cm1 cm2 cm3 U19 cu0 cu1 cu2 cu3 cu4 cu5
  obtain ⟨ca0, ca1, ca2, ca3⟩ := A20.four
  obtain ⟨cd0, cd1, cd2, cd3, cd4, cd5⟩ := D20.six
  obtain ⟨cxx0, cxx1, cxx2, cxx3⟩ := X20.four
  obtain ⟨cyy0, cyy1, cyy2, cyy3, cyy4, cyy5⟩ := Y20.six
  obtain ⟨cm0, cm1, cm2, cm3⟩ := M20.four
  obtain ⟨cu0, cu1, cu2, cu3, cu4, cu5⟩ := U20.six
  have fq1 : ¬ ((s2 : Int) < 0) := by omega
  have fq2 : ¬ ((s2 : Int) + (p1i : Int) + (p2i : Int) < 0) := by omega
  go_wp2_with fail
  refine (heldDevice_s a1i a2i a3i a4i l1i l2i l3i l4i c1i c2i c3i c4i 1 _ _ rfl HK.out.1.1 HK.out.1.2.1 HK.out.1.2.2.1 HK.out.1.2.2.2 LI.out.1 LI.out.2.1 LI.out.2.2.1 LI.out.2.2.2.1 (by omega)).mono ?_
  rintro e w21 ⟨rfl, b'⟩
  rw [HS2i.out]
  have HK' : Hid ((SlB w21 a1i _ ∧ SlB w21 a2i _ ∧ SlI w21 a3i _ ∧ SlI w21 a4i _) ∧ (SlI w21 r1i _ ∧ SlB w21 r2i _)) := ⟨⟨HK.out.1.1.below b', HK.out.1.2.1.below b', HK.out.1.2.2.1.below b', HK.out.1.2.2.2.below b'⟩, HK.out.2.1.below b', HK.out.2.2.below b'⟩
  clear HK
  have HK := HK'
  clear HK'
  have HZ21 : Hid (w20.heap.size ≤ w21.heap.size) := b'.size
  have b21 := bel_next b20 b'
  have I21 := I20.below b'
  have IW21 := IW20.below b'
  have IB21 := IB20.below b'
  have A21 := A20.below b'
  have D21 := D20.below b'
  have X21 := X20.below b'
  have Y21 := Y20.below b'
  have M21 := M20.below b'
  have U21 := U20.below b'
  clear b' b20 I20 IW20 IB20 A20 ca0 ca1 ca2 ca3 D20 cd0 cd1 cd2 cd3 cd4 cd5 X20 cxx0 cxx1 cxx2 cxx3 Y20 cyy0 cyy1 cyy2 cyy3 cyy4 cyy5 M20 cm0 cm1 cm2 cm3 U20 cu0 cu1 cu2 cu3 cu4 cu5 
  obtain ⟨ca0, ca1, ca2, ca3⟩ := A21.four
  obtain ⟨cd0, cd1, cd2, cd3, cd4, cd5⟩ := D21.six
  obtain ⟨cxx0, cxx1, cxx2, cxx3⟩ := X21.four
  obtain ⟨cyy0, cyy1, cyy2, cyy3, cyy4, cyy5⟩ := Y21.six
  obtain ⟨cm0, cm1, cm2, cm3⟩ := M21.four
  obtain ⟨cu0, cu1, cu2, cu3, cu4, cu5⟩ := U21.six
  go_wp2_with fail
  refine (heldResp_s V.kd V.fl V.pl V.nn r1i r2i p1i p2i t1i t2i s2 _ _ rfl HK.out.2.1 HK.out.2.2 LI.out.2.2.2.2.1 LI.out.2.2.2.2.2.1 HS2.out.2).mono ?_
  rintro e w22 ⟨rfl, b'⟩
  have HK' : Hid ((SlB w22 a1i _ ∧ SlB w22 a2i _ ∧ SlI w22 a3i _ ∧ SlI w22 a4i _) ∧ (SlI w22 r1i _ ∧ SlB w22 r2i _)) := ⟨⟨HK.out.1.1.below b', HK.out.1.2.1.below b', HK.out.1.2.2.1.below b', HK.out.1.2.2.2.below b'⟩, HK.out.2.1.below b', HK.out.2.2.below b'⟩
  clear HK
  have HK := HK'
  clear HK'
  have HZ22 : Hid (w21.heap.size ≤ w22.heap.size) := b'.size
  have b22 := bel_next b21 b'
  have I22 := I21.below b'
  have IW22 := IW21.below b'
  have IB22 := IB21.below b'
  have A22 := A21.below b'
  have D22 := D21.below b'
  have X22 := X21.below b'
  have Y22 := Y21.below b'
  have M22 := M21.below b'
  have U22 := U21.below b'
  clear b' b21 I21 IW21 IB21 A21 ca0 ca1 ca2 ca3 D21 cd0 cd1 cd2 cd3 cd4 cd5 X21 cxx0 cxx1 cxx2 cxx3 Y21 cyy0 cyy1 cyy2 cyy3 cyy4 cyy5 M21 cm0 cm1 cm2 cm3 U21 cu0 cu1 cu2 cu3 cu4 cu5 
  obtain ⟨ca0, ca1, ca2, ca3⟩ := A22.four
  obtain ⟨cd0, cd1, cd2, cd3, cd4, cd5⟩ := D22.six
  obtain ⟨cxx0, cxx1, cxx2, cxx3⟩ := X22.four
  obtain ⟨cyy0, cyy1, cyy2, cyy3, cyy4, cyy5⟩ := Y22.six
  obtain ⟨cm0, cm1, cm2, cm3⟩ := M22.four
  obtain ⟨cu0, cu1, cu2, cu3, cu4, cu5⟩ := U22.six
  go_upto_region 35 with fail
  go_cut [15, 16] (fun s6 s7 wx => ∃ B6 B7, s6 = .pointer (some ⟨B6, 0, none⟩) ∧ s7 = .pointer (some ⟨B7, 0, none⟩) ∧ w22.heap.size ≤ B6 ∧ w22.heap.size ≤ B7 ∧ SRb wx w22.heap.size B6 B7 is rs V ∧ Below w22.heap.size w22 wx)
  case first =>
    have HB : Hid (Below w.heap.size w w22) := b22
    have HA : Hid (Blk w22 w.heap.size 56 #[.slice a1 l1 c1, .slice a2 l2 c2, .slice a3 l3 c3, .slice a4 l4 c4]) := A22
    have HD : Hid (Blk w22 (w.heap.size + 1) 57 #[.int .i64 kd, .int .i64 pl, .int .i64 nn, .slice q1 m1 k1, .slice q2 m2 k2, .int .i64 wa]) := D22
    clear ca0 ca1 ca2 ca3 cd0 cd1 cd2 cd3 cd4 cd5
    refine wp_region_any (by kernel_rfl) ?_
    refine wpAny_inv_at (RInv35 w22 a1 a2 a3 a4 l1 l2 l3 l4 c1 c2 c3 c4 cs is hs rs kd pl nn wa q1 q2 m1 m2 k1 k2 ws bs V) (by kernel_rfl) ?_ ?_ _ _ rfl (by decide) ?_
    · rintro l act u ⟨b0, b1, b2, b3, b4, b5, b6, b7, b8, b9, b10, b11, rfl, tA, tB, tC, tD, tS, tM, tE, tF, tX, tY, rfl, F⟩ hall
      obtain rfl : b0 = true := hall 0 (by simp)
      obtain rfl : b1 = true := hall 1 (by simp)
      obtain rfl : b2 = true := hall 2 (by simp)
      obtain rfl : b3 = true := hall 3 (by simp)
      obtain rfl : b4 = true := hall 4 (by simp)
      obtain rfl : b5 = true := hall 5 (by simp)
      obtain rfl : b6 = true := hall 6 (by simp)
      obtain rfl : b7 = true := hall 7 (by simp)
      obtain rfl : b8 = true := hall 8 (by simp)
      obtain rfl : b9 = true := hall 9 (by simp)
      obtain rfl : b10 = true := hall 10 (by simp)
      obtain rfl : b11 = true := hall 11 (by simp)
      obtain ⟨x1, x2, x3, x4, y1, y2, y3, y4, d1, d2, d3, d4, r1, r2, p1, p2, k1', k2', e, o1, o2, o3, o4⟩ := F.f4 rfl
      obtain ⟨B6, eX, hB6, _, z6⟩ := F.f8 rfl
      obtain ⟨B7, eY, hB7, _, z7⟩ := F.f9 rfl
      have eM := (F.f5 rfl).2.trans e
      have eE := (F.f6 rfl).2 _ _ eM
      have eF := (F.f7 rfl).2 _ _ eM
      have Z6 := z6 rfl _ eE
      have Z7 := z7 rfl _ eF
      have R : SRb u w22.heap.size B6 B7 is rs V := ⟨x1, x2, x3, x4, y1, y2, y3, y4, d1, d2, d3, d4, r1, r2, p1, p2, k1', k2', Z6, Z7, o1, o2, o3, o4⟩
      have hbel := F.bel
      subst eX
      subst eY
      clear F o1 o2 o3 o4 z6 z7 Z6 Z7 e eM eE eF
      simp only [putS35]
      go_simp
      go_wp2_with fail
      go_meet
      exact ⟨B6, B7, rfl, rfl, hB6, hB7, R, hbel⟩
    · rintro l act u i o ⟨b0, b1, b2, b3, b4, b5, b6, b7, b8, b9, b10, b11, rfl, tA, tB, tC, tD, tS, tM, tE, tF, tX, tY, rfl, F⟩ ho hl hd K hK
      have hi : i < 12 := by
        have := (Array.getElem?_eq_some_iff.1 ho).1
        simpa using this
      obtain ⟨x1, x2, x3, x4, y1, y2, y3, y4, d1, d2, d3, d4, r1, r2, p1, p2, k1', k2', eM0⟩ : ∃ (x1 x2 x3 x4 : Option Addr) (y1 y2 y3 y4 d1 d2 d3 d4 : Nat) (r1 r2 : Option Addr) (p1 p2 k1' k2' : Nat), b5 = true → tM = .tuple #[dv x1 x2 x3 x4 y1 y2 y3 y4 d1 d2 d3 d4, rp V.kd V.fl V.pl V.nn r1 r2 p1 p2 k1' k2'] := by
        cases hb : b5
        · exact ⟨none, none, none, none, 0, 0, 0, 0, 0, 0, 0, 0, none, none, 0, 0, 0, 0, fun h => absurd h (by decide)⟩
        · obtain ⟨x1, x2, x3, x4, y1, y2, y3, y4, d1, d2, d3, d4, r1, r2, p1, p2, k1', k2', eS, _⟩ := F.f4 (F.f5 hb).1
          exact ⟨x1, x2, x3, x4, y1, y2, y3, y4, d1, d2, d3, d4, r1, r2, p1, p2, k1', k2', fun _ => (F.f5 hb).2.trans eS⟩
      obtain ⟨B6, h80⟩ : ∃ B6, b8 = true → tX = .pointer (some ⟨B6, 0, none⟩) ∧ w22.heap.size ≤ B6 ∧ (b10 = false → Blk u B6 36 #[.slice none 0 0, .slice none 0 0, .slice none 0 0, .slice none 0 0]) := by
        cases hb : b8
        · exact ⟨0, fun h => absurd h (by decide)⟩
        · obtain ⟨B6, e1, e2, e3, _⟩ := F.f8 hb
          exact ⟨B6, fun _ => ⟨e1, e2, e3⟩⟩
      obtain ⟨B7, h90⟩ : ∃ B7, b9 = true → tY = .pointer (some ⟨B7, 0, none⟩) ∧ w22.heap.size ≤ B7 ∧ (b11 = false → Blk u B7 29 #[.int .i64 0, .int .i64 0, .int .i64 0, .int .i64 0, .slice none 0 0, .slice none 0 0]) := by
        cases hb : b9
        · exact ⟨0, fun h => absurd h (by decide)⟩
        · obtain ⟨B7, e1, e2, e3, _⟩ := F.f9 hb
          exact ⟨B7, fun _ => ⟨e1, e2, e3⟩⟩
      obtain rfl | rfl | rfl | rfl | rfl | rfl | rfl | rfl | rfl | rfl | rfl | rfl : i = 0 ∨ i = 1 ∨ i = 2 ∨ i = 3 ∨ i = 4 ∨ i = 5 ∨ i = 6 ∨ i = 7 ∨ i = 8 ∨ i = 9 ∨ i = 10 ∨ i = 11 := by omega
      all_goals (simp only [List.getElem?_toArray, List.getElem?_cons_zero, List.getElem?_cons_succ, Option.some.injEq] at ho; subst ho; simp only [putS35])
      · -- 0
        have ee := (HA.out.below F.bel).four
        have e0 := ee.1
        have e1 := ee.2.1
        have e2 := ee.2.2.1
        have e3 := ee.2.2.2
        clear ee
        go_simp
        refine hK _ _ ?_
        exact ⟨true, _, _, _, _, _, _, _, _, _, _, _, rfl, _, _, _, _, _, _, _, _, _, _, by simp [putS35, Act.put], { bel := F.bel, f0 := fun _ => rfl, f1 := F.f1, f2 := F.f2, f3 := F.f3, f4 := F.f4, f5 := F.f5, f6 := F.f6, f7 := F.f7, f8 := F.f8, f9 := F.f9, g10 := F.g10, g11 := F.g11 }⟩
      · -- 1
        obtain rfl := F.f0 (hd ⟨0, .data⟩ (by simp) rfl)
        have hb4 : b1 = false := hl
        go_wp2_with fail
        refine (toDevice_any a1 a2 a3 a4 l1 l2 l3 l4 c1 c2 c3 c4 cs is hs rs _ HN.out.1 (HN.out.2.2.1.below (bel_next HB.out F.bel)) HN.out.2.1).mono ?_
        rintro e u' ⟨g1, g2, g3, g4, rfl, oD, b'⟩
        have G' := F.below b'
        go_simp
        refine hK _ _ ?_
        exact ⟨_, true, _, _, _, _, _, _, _, _, _, _, rfl, _, _, _, _, _, _, _, _, _, _, by simp [putS35, Act.put], { bel := G'.bel, f0 := G'.f0, f1 := fun _ => ⟨g1, g2, g3, g4, rfl, oD.mono F.bel.size⟩, f2 := G'.f2, f3 := G'.f3, f4 := G'.f4, f5 := G'.f5, f6 := G'.f6, f7 := G'.f7, f8 := G'.f8, f9 := G'.f9, g10 := G'.g10, g11 := G'.g11 }⟩
      · -- 2
        have ee := (HD.out.below F.bel).six
        have e0 := ee.1
        have e1 := ee.2.1
        have e2 := ee.2.2.1
        have e3 := ee.2.2.2.1
        have e4 := ee.2.2.2.2.1
        have e5 := ee.2.2.2.2.2
        clear ee
        go_simp
        refine hK _ _ ?_
        exact ⟨_, _, true, _, _, _, _, _, _, _, _, _, rfl, _, _, _, _, _, _, _, _, _, _, by simp [putS35, Act.put], { bel := F.bel, f0 := F.f0, f1 := F.f1, f2 := fun _ => rfl, f3 := F.f3, f4 := F.f4, f5 := F.f5, f6 := F.f6, f7 := F.f7, f8 := F.f8, f9 := F.f9, g10 := F.g10, g11 := F.g11 }⟩
      · -- 3
        obtain rfl := F.f2 (hd ⟨2, .data⟩ (by simp) rfl)
        go_wp2_with fail
        refine (toReq_any kd pl nn wa q1 q2 m1 m2 k1 k2 ws bs _ HQ.out.1 HQ.out.2.1 (HN.out.2.2.2.1.below (bel_next HB.out F.bel)) (HN.out.2.2.2.2.below (bel_next HB.out F.bel)) HQ.out.2.2.2.2.1 HQ.out.2.2.2.2.2).mono ?_
        rintro e u' ⟨g5, g6, rfl, oI, oB, b'⟩
        have G' := F.below b'
        go_simp
        refine hK _ _ ?_
        exact ⟨_, _, _, true, _, _, _, _, _, _, _, _, rfl, _, _, _, _, _, _, _, _, _, _, by simp [putS35, Act.put], { bel := G'.bel, f0 := G'.f0, f1 := G'.f1, f2 := G'.f2, f3 := fun _ => ⟨g5, g6, rfl, oI.mono F.bel.size, oB.mono F.bel.size⟩, f4 := G'.f4, f5 := G'.f5, f6 := G'.f6, f7 := G'.f7, f8 := G'.f8, f9 := G'.f9, g10 := G'.g10, g11 := G'.g11 }⟩
      · -- 4
        obtain ⟨g1, g2, g3, g4, rfl, oD⟩ := F.f1 (hd ⟨1, .data⟩ (by simp) rfl)
        obtain ⟨g5, g6, rfl, oI, oB⟩ := F.f3 (hd ⟨3, .data⟩ (by simp) rfl)
        have hb4 : b4 = false := hl
        have nb5 : b5 = false := by cases hx : b5; rfl; have := (F.f5 hx).1; rw [hb4] at this; exact absurd this (by decide)
        go_wp2_with fail
        refine (implServe_q _ _ _ _ l1 l2 l3 l4 l1 l2 l3 l4 cs is hs rs kd pl nn wa _ _ m1 m2 m1 m2 ws bs _ HN.out.1 oD.sl.2 HN.out.2.1 oI.sl.2 oB.sl.2 HQ.out.1 HQ.out.2.1 HQ.out.2.2.1 HQ.out.2.2.2.1 V HV.out).mono ?_
        rintro e u' ⟨x1, x2, x3, x4, y1, y2, y3, y4, d1, d2, d3, d4, r1, r2, p1, p2, k1', k2', rfl, o1, o2, o3, o4, b'⟩
        have G' := F.below b'
        go_simp
        refine hK _ _ ?_
        exact ⟨_, _, _, _, true, _, _, _, _, _, _, _, rfl, _, _, _, _, _, _, _, _, _, _, by simp [putS35, Act.put], { bel := G'.bel, f0 := G'.f0, f1 := G'.f1, f2 := G'.f2, f3 := G'.f3, f4 := fun _ => ⟨x1, x2, x3, x4, y1, y2, y3, y4, d1, d2, d3, d4, r1, r2, p1, p2, k1', k2', rfl, o1.mono F.bel.size, o2.mono F.bel.size, o3.mono F.bel.size, o4⟩, f5 := fun h => absurd (h.symm.trans nb5) (by decide), f6 := G'.f6, f7 := G'.f7, f8 := G'.f8, f9 := G'.f9, g10 := G'.g10, g11 := G'.g11 }⟩
      · -- 5
        have hs5 : b5 = false := hl
        have nb6 : b6 = false := by cases hx : b6; rfl; have := (F.f6 hx).1; rw [hs5] at this; exact absurd this (by decide)
        have nb7 : b7 = false := by cases hx : b7; rfl; have := (F.f7 hx).1; rw [hs5] at this; exact absurd this (by decide)
        go_simp
        refine hK _ _ ?_
        exact ⟨_, _, _, _, _, true, _, _, _, _, _, _, rfl, _, _, _, _, _, _, _, _, _, _, by simp [putS35, Act.put], { bel := F.bel, f0 := F.f0, f1 := F.f1, f2 := F.f2, f3 := F.f3, f4 := F.f4, f5 := fun _ => ⟨hd ⟨4, .data⟩ (by simp) rfl, rfl⟩, f6 := fun h => absurd (h.symm.trans nb6) (by decide), f7 := fun h => absurd (h.symm.trans nb7) (by decide), f8 := F.f8, f9 := F.f9, g10 := F.g10, g11 := F.g11 }⟩
      · -- 6
        have hself : b6 = false := hl
        have hb5 : b5 = true := hd ⟨5, .data⟩ (by simp) rfl
        have nbk : b10 = false := by cases hx : b10; rfl; have := (F.g10 hx).2; rw [hself] at this; exact absurd this (by decide)
        have eM := eM0 hb5
        subst eM
        go_simp
        refine hK _ _ ?_
        exact ⟨_, _, _, _, _, _, true, _, _, _, _, _, rfl, tA, tB, tC, tD, tS, (.tuple #[(dv x1 x2 x3 x4 y1 y2 y3 y4 d1 d2 d3 d4), (rp V.kd V.fl V.pl V.nn r1 r2 p1 p2 k1' k2')]), (dv x1 x2 x3 x4 y1 y2 y3 y4 d1 d2 d3 d4), tF, tX, tY, by simp [putS35, Act.put], { bel := F.bel, f0 := F.f0, f1 := F.f1, f2 := F.f2, f3 := F.f3, f4 := F.f4, f5 := F.f5, f6 := fun _ => ⟨hb5, fun x y e => by simp at e; first | exact e.1 | exact e.2⟩, f7 := F.f7, f8 := fun h => by obtain ⟨B, e, l, z, y⟩ := F.f8 h; exact ⟨B, e, l, z, fun k => absurd (k.symm.trans nbk) (by decide)⟩, f9 := F.f9, g10 := fun k => absurd (k.symm.trans nbk) (by decide), g11 := F.g11 }⟩
      · -- 7
        have hself : b7 = false := hl
        have hb5 : b5 = true := hd ⟨5, .data⟩ (by simp) rfl
        have nbk : b11 = false := by cases hx : b11; rfl; have := (F.g11 hx).2; rw [hself] at this; exact absurd this (by decide)
        have eM := eM0 hb5
        subst eM
        go_simp
        refine hK _ _ ?_
        exact ⟨_, _, _, _, _, _, _, true, _, _, _, _, rfl, tA, tB, tC, tD, tS, (.tuple #[(dv x1 x2 x3 x4 y1 y2 y3 y4 d1 d2 d3 d4), (rp V.kd V.fl V.pl V.nn r1 r2 p1 p2 k1' k2')]), tE, (rp V.kd V.fl V.pl V.nn r1 r2 p1 p2 k1' k2'), tX, tY, by simp [putS35, Act.put], { bel := F.bel, f0 := F.f0, f1 := F.f1, f2 := F.f2, f3 := F.f3, f4 := F.f4, f5 := F.f5, f6 := F.f6, f7 := fun _ => ⟨hb5, fun x y e => by simp at e; first | exact e.1 | exact e.2⟩, f8 := F.f8, f9 := fun h => by obtain ⟨B, e, l, z, y⟩ := F.f9 h; exact ⟨B, e, l, z, fun k => absurd (k.symm.trans nbk) (by decide)⟩, g10 := F.g10, g11 := fun k => absurd (k.symm.trans nbk) (by decide) }⟩
      · -- 8
        have hself : b8 = false := hl
        have nbk : b10 = false := by cases hx : b10; rfl; have := (F.g10 hx).1; rw [hself] at this; exact absurd this (by decide)
        have b' := bel_alloc u (.cells #[.slice none 0 0, .slice none 0 0, .slice none 0 0, .slice none 0 0] 36)
        have G' := F.below b'
        have N' := Blk.new u #[.slice none 0 0, .slice none 0 0, .slice none 0 0, .slice none 0 0] 36
        go_simp
        refine hK _ _ ?_
        exact ⟨_, _, _, _, _, _, _, _, true, _, _, _, rfl, _, _, _, _, _, _, _, _, _, _, by simp [putS35, Act.put], { bel := G'.bel, f0 := G'.f0, f1 := G'.f1, f2 := G'.f2, f3 := G'.f3, f4 := G'.f4, f5 := G'.f5, f6 := G'.f6, f7 := G'.f7, f8 := fun _ => ⟨u.heap.size, rfl, F.bel.size, fun _ => N', fun k => absurd (k.symm.trans nbk) (by decide)⟩, f9 := G'.f9, g10 := fun k => absurd (k.symm.trans nbk) (by decide), g11 := G'.g11 }⟩
      · -- 9
        have hself : b9 = false := hl
        have nbk : b11 = false := by cases hx : b11; rfl; have := (F.g11 hx).1; rw [hself] at this; exact absurd this (by decide)
        have b' := bel_alloc u (.cells #[.int .i64 0, .int .i64 0, .int .i64 0, .int .i64 0, .slice none 0 0, .slice none 0 0] 29)
        have G' := F.below b'
        have N' := Blk.new u #[.int .i64 0, .int .i64 0, .int .i64 0, .int .i64 0, .slice none 0 0, .slice none 0 0] 29
        go_simp
        refine hK _ _ ?_
        exact ⟨_, _, _, _, _, _, _, _, _, true, _, _, rfl, _, _, _, _, _, _, _, _, _, _, by simp [putS35, Act.put], { bel := G'.bel, f0 := G'.f0, f1 := G'.f1, f2 := G'.f2, f3 := G'.f3, f4 := G'.f4, f5 := G'.f5, f6 := G'.f6, f7 := G'.f7, f8 := G'.f8, f9 := fun _ => ⟨u.heap.size, rfl, F.bel.size, fun _ => N', fun k => absurd (k.symm.trans nbk) (by decide)⟩, g10 := G'.g10, g11 := fun k => absurd (k.symm.trans nbk) (by decide) }⟩
      · -- 10
        have hself : b10 = false := hl
        have hb8 : b8 = true := hd ⟨8, .data⟩ (by simp) rfl
        have hb6 : b6 = true := hd ⟨6, .data⟩ (by simp) rfl
        have hb5 := (F.f6 hb6).1
        have eM := eM0 hb5
        have eE := (F.f6 hb6).2 _ _ eM
        have h8 := h80 hb8
        have eX := h8.1
        have hB6 := h8.2.1
        have z6 := h8.2.2
        clear h8
        have Z6 := z6 hself
        have s0 := Z6.cell 0 rfl
        have s1 := Z6.cell 1 rfl
        have s2 := Z6.cell 2 rfl
        have s3 := Z6.cell 3 rfl
        have fr0 := Z6.fro 0
        have fr1 := Z6.fro 1
        have fr2 := Z6.fro 2
        have fr3 := Z6.fro 3
        clear eM eM0
        subst eX
        subst eE
        have xB : ExB u B6 36 := ⟨_, Z6⟩
        go_simp
        refine hK _ _ ?_
        exact ⟨_, _, _, _, _, _, _, _, _, _, true, _, rfl, tA, tB, tC, tD, tS, tM, (dv x1 x2 x3 x4 y1 y2 y3 y4 d1 d2 d3 d4), tF, (.pointer (some ⟨B6, 0, none⟩)), tY, by simp [putS35, Act.put], { bel := bel_set4 F.bel hB6, f0 := F.f0, f1 := fun h => by obtain ⟨g1, g2, g3, g4, e, o⟩ := F.f1 h; exact ⟨g1, g2, g3, g4, e, o.set4 xB (by decide) (by decide)⟩, f2 := F.f2, f3 := fun h => by obtain ⟨g5, g6, e, o, o'⟩ := F.f3 h; exact ⟨g5, g6, e, row_set4 o xB (by decide), row_set4 o' xB (by decide)⟩, f4 := fun h => by obtain ⟨x1, x2, x3, x4, y1, y2, y3, y4, d1, d2, d3, d4, r1, r2, p1, p2, k1', k2', e, o1, o2, o3, o4⟩ := F.f4 h; exact ⟨x1, x2, x3, x4, y1, y2, y3, y4, d1, d2, d3, d4, r1, r2, p1, p2, k1', k2', e, o1.set4 xB (by decide) (by decide), row_set4 o2 xB (by decide), row_set4 o3 xB (by decide), o4⟩, f5 := F.f5, f6 := F.f6, f7 := F.f7, f8 := fun _ => ⟨B6, rfl, hB6, fun k => absurd k (by decide), fun _ zs ez => blk_agg (blk_set4 Z6) ez⟩, f9 := fun h => by obtain ⟨B7, e, l, z, y⟩ := F.f9 h; exact ⟨B7, e, l, fun k => by have hne := blk_neT (z k) Z6 (by decide); exact ((((z k).setNe hne).setNe hne).setNe hne).setNe hne, fun k zs ez => by have hne := blk_neT (y k zs ez) Z6 (by decide); exact ((((y k zs ez).setNe hne).setNe hne).setNe hne).setNe hne⟩, g10 := fun _ => ⟨hb8, hb6⟩, g11 := F.g11 }⟩
      · -- 11
        have hself : b11 = false := hl
        have hb9 : b9 = true := hd ⟨9, .data⟩ (by simp) rfl
        have hb7 : b7 = true := hd ⟨7, .data⟩ (by simp) rfl
        have hb5 := (F.f7 hb7).1
        have eM := eM0 hb5
        have eF := (F.f7 hb7).2 _ _ eM
        have h9 := h90 hb9
        have eY := h9.1
        have hB7 := h9.2.1
        have z7 := h9.2.2
        clear h9
        have Z7 := z7 hself
        have s0 := Z7.cell 0 rfl
        have s1 := Z7.cell 1 rfl
        have s2 := Z7.cell 2 rfl
        have s3 := Z7.cell 3 rfl
        have s4 := Z7.cell 4 rfl
        have s5 := Z7.cell 5 rfl
        have fr0 := Z7.fro 0
        have fr1 := Z7.fro 1
        have fr2 := Z7.fro 2
        have fr3 := Z7.fro 3
        have fr4 := Z7.fro 4
        have fr5 := Z7.fro 5
        clear eM eM0
        subst eY
        subst eF
        have xB : ExB u B7 29 := ⟨_, Z7⟩
        go_simp
        refine hK _ _ ?_
        exact ⟨_, _, _, _, _, _, _, _, _, _, _, true, rfl, tA, tB, tC, tD, tS, tM, tE, (rp V.kd V.fl V.pl V.nn r1 r2 p1 p2 k1' k2'), tX, (.pointer (some ⟨B7, 0, none⟩)), by simp [putS35, Act.put], { bel := belp_set6 F.bel hB7, f0 := F.f0, f1 := fun h => by obtain ⟨g1, g2, g3, g4, e, o⟩ := F.f1 h; exact ⟨g1, g2, g3, g4, e, o.set6 xB (by decide) (by decide)⟩, f2 := F.f2, f3 := fun h => by obtain ⟨g5, g6, e, o, o'⟩ := F.f3 h; exact ⟨g5, g6, e, rowp_set6 o xB (by decide), rowp_set6 o' xB (by decide)⟩, f4 := fun h => by obtain ⟨x1, x2, x3, x4, y1, y2, y3, y4, d1, d2, d3, d4, r1, r2, p1, p2, k1', k2', e, o1, o2, o3, o4⟩ := F.f4 h; exact ⟨x1, x2, x3, x4, y1, y2, y3, y4, d1, d2, d3, d4, r1, r2, p1, p2, k1', k2', e, o1.set6 xB (by decide) (by decide), rowp_set6 o2 xB (by decide), rowp_set6 o3 xB (by decide), o4⟩, f5 := F.f5, f6 := F.f6, f7 := F.f7, f8 := fun h => by obtain ⟨B6, e, l, z, y⟩ := F.f8 h; exact ⟨B6, e, l, fun k => by have hne := blk_neT (z k) Z7 (by decide); exact ((((((z k).setNe hne).setNe hne).setNe hne).setNe hne).setNe hne).setNe hne, fun k zs ez => by have hne := blk_neT (y k zs ez) Z7 (by decide); exact ((((((y k zs ez).setNe hne).setNe hne).setNe hne).setNe hne).setNe hne).setNe hne⟩, f9 := fun _ => ⟨B7, rfl, hB7, fun k => absurd k (by decide), fun _ zs ez => blk_agg (blk_set6 Z7) ez⟩, g10 := F.g10, g11 := fun _ => ⟨hb9, hb7⟩ }⟩
    · refine ⟨false, false, false, false, false, false, false, false, false, false, false, false, rfl, u105, u106, u107, u108, u109, u104, u110, u111, undef, undef, by simp [putS35, Act.put], ?_⟩
      exact { bel := (Below.refl _ _).drew, f0 := fun h => absurd h (by decide), f1 := fun h => absurd h (by decide), f2 := fun h => absurd h (by decide), f3 := fun h => absurd h (by decide), f4 := fun h => absurd h (by decide), f5 := fun h => absurd h (by decide), f6 := fun h => absurd h (by decide), f7 := fun h => absurd h (by decide), f8 := fun h => absurd h (by decide), f9 := fun h => absurd h (by decide), g10 := fun h => absurd h (by decide), g11 := fun h => absurd h (by decide) }
  case rest =>
  obtain ⟨BK, BN, rfl, rfl, hBK, hBN, R', b'⟩ := hcut
  obtain ⟨w23, hw23⟩ : ∃ x, x = wc := ⟨_, rfl⟩
  rw [← hw23] at b' R' ⊢
  clear hw23
  obtain ⟨a1h, a2h, a3h, a4h, l1h, l2h, l3h, l4h, c1h, c2h, c3h, c4h, r1h, r2h, p1h, p2h, t1h, t2h, X', Y', o1', o2', o3', o4'⟩ := R'
  have HLh : Hid (w22.heap.size ≤ BK ∧ w22.heap.size ≤ BN) := ⟨hBK, hBN⟩
  have HAph : Hid (∀ g, Of4 (.slice a1h l1h c1h) (.slice a2h l2h c2h) (.slice a3h l3h c3h) (.slice a4h l4h c4h) g → ¬ Of2 (.slice r1h p1h t1h) (.slice r2h p2h t2h) g) := o4'
  clear hBK hBN o4'
  have HK' : Hid ((SlB w23 a1i _ ∧ SlB w23 a2i _ ∧ SlI w23 a3i _ ∧ SlI w23 a4i _) ∧ (SlI w23 r1i _ ∧ SlB w23 r2i _)) := ⟨⟨HK.out.1.1.below b', HK.out.1.2.1.below b', HK.out.1.2.2.1.below b', HK.out.1.2.2.2.below b'⟩, HK.out.2.1.below b', HK.out.2.2.below b'⟩
  clear HK
  have HK := HK'
  clear HK'
  have HZ23 : Hid (w22.heap.size ≤ w23.heap.size) := b'.size
  have b23 := bel_next b22 b'
  have I23 := I22.below b'
  have IW23 := IW22.below b'
  have IB23 := IB22.below b'
  have A23 := A22.below b'
  have D23 := D22.below b'
  have X23 := X22.below b'
  have Y23 := Y22.below b'
  have M23 := M22.below b'
  have U23 := U22.below b'
  clear b' b22 I22 IW22 IB22 A22 ca0 ca1 ca2 ca3 D22 cd0 cd1 cd2 cd3 cd4 cd5 X22 cxx0 cxx1 cxx2 cxx3 Y22 cyy0 cyy1 cyy2 cyy3 cyy4 cyy5 M22 cm0 cm1 cm2 cm3 U22 cu0 cu1 cu2 cu3 cu4 cu5 
  obtain ⟨ca0, ca1, ca2, ca3⟩ := A23.four
  obtain ⟨cd0, cd1, cd2, cd3, cd4, cd5⟩ := D23.six
  obtain ⟨cxx0, cxx1, cxx2, cxx3⟩ := X23.four
  obtain ⟨cyy0, cyy1, cyy2, cyy3, cyy4, cyy5⟩ := Y23.six
  obtain ⟨cm0, cm1, cm2, cm3⟩ := M23.four
  obtain ⟨cu0, cu1, cu2, cu3, cu4, cu5⟩ := U23.six
  have K23 := X'
  have N23 := Y'
  have VV23 := o1'
  have VW23 := o2'
  have VB23 := o3'
  clear X' Y' o1' o2' o3'
  obtain ⟨ckx0, ckx1, ckx2, ckx3⟩ := K23.four
  obtain ⟨cny0, cny1, cny2, cny3, cny4, cny5⟩ := N23.six
  go_upto_region 36 with fail
  go_wp2_with fail
  refine (eqDevice_true a1h a2h a3h a4h l1h l2h l3h l4h c1h c2h c3h c4h a1s a2s a3s a4s l1s l2s l3s l4s c1s c2s c3s c4s V.cs is V.hs rs _ VV23.sl.1 I23.sl.1 VV23.sl.2 I23.sl.2 HSV.out.1).mono ?_
  rintro e w24 ⟨rfl, b'⟩
  have HK' : Hid ((SlB w24 a1i _ ∧ SlB w24 a2i _ ∧ SlI w24 a3i _ ∧ SlI w24 a4i _) ∧ (SlI w24 r1i _ ∧ SlB w24 r2i _)) := ⟨⟨HK.out.1.1.below b', HK.out.1.2.1.below b', HK.out.1.2.2.1.below b', HK.out.1.2.2.2.below b'⟩, HK.out.2.1.below b', HK.out.2.2.below b'⟩
  clear HK
  have HK := HK'
  clear HK'
  have HZ24 : Hid (w23.heap.size ≤ w24.heap.size) := b'.size
  have b24 := bel_next b23 b'
  have I24 := I23.below b'
  have IW24 := IW23.below b'
  have IB24 := IB23.below b'
  have VV24 := VV23.below b'
  have VW24 := VW23.below b'
  have VB24 := VB23.below b'
  have A24 := A23.below b'
  have D24 := D23.below b'
  have X24 := X23.below b'
  have Y24 := Y23.below b'
  have M24 := M23.below b'
  have U24 := U23.below b'
  have K24 := K23.below b'
  have N24 := N23.below b'
  clear b' b23 I23 IW23 IB23 VV23 VW23 VB23 A23 ca0 ca1 ca2 ca3 D23 cd0 cd1 cd2 cd3 cd4 cd5 X23 cxx0 cxx1 cxx2 cxx3 Y23 cyy0 cyy1 cyy2 cyy3 cyy4 cyy5 M23 cm0 cm1 cm2 cm3 U23 cu0 cu1 cu2 cu3 cu4 cu5 K23 ckx0 ckx1 ckx2 ckx3 N23 cny0 cny1 cny2 cny3 cny4 cny5 
  obtain ⟨ca0, ca1, ca2, ca3⟩ := A24.four
  obtain ⟨cd0, cd1, cd2, cd3, cd4, cd5⟩ := D24.six
  obtain ⟨cxx0, cxx1, cxx2, cxx3⟩ := X24.four
  obtain ⟨cyy0, cyy1, cyy2, cyy3, cyy4, cyy5⟩ := Y24.six
  obtain ⟨cm0, cm1, cm2, cm3⟩ := M24.four
  obtain ⟨cu0, cu1, cu2, cu3, cu4, cu5⟩ := U24.six
  obtain ⟨ckx0, ckx1, ckx2, ckx3⟩ := K24.four
  obtain ⟨cny0, cny1, cny2, cny3, cny4, cny5⟩ := N24.six
  go_wp2_with fail
  refine (eqResp_true V.kd V.fl V.pl V.nn r1h r2h r1s r2s p1h p2h p1s p2s t1h t2h t1s t2s V.ws V.bs _ VW24.sl.1 VB24.sl.1 IW24.sl.1 IB24.sl.1 VW24.sl.2 VB24.sl.2 IW24.sl.2 IB24.sl.2 HSV.out.2.1 HSV.out.2.2).mono ?_
  rintro e w25 ⟨rfl, b'⟩
  have HK' : Hid ((SlB w25 a1i _ ∧ SlB w25 a2i _ ∧ SlI w25 a3i _ ∧ SlI w25 a4i _) ∧ (SlI w25 r1i _ ∧ SlB w25 r2i _)) := ⟨⟨HK.out.1.1.below b', HK.out.1.2.1.below b', HK.out.1.2.2.1.below b', HK.out.1.2.2.2.below b'⟩, HK.out.2.1.below b', HK.out.2.2.below b'⟩
  clear HK
  have HK := HK'
  clear HK'
  have HZ25 : Hid (w24.heap.size ≤ w25.heap.size) := b'.size
  have b25 := bel_next b24 b'
  have I25 := I24.below b'
  have IW25 := IW24.below b'
  have IB25 := IB24.below b'
  have VV25 := VV24.below b'
  have VW25 := VW24.below b'
  have VB25 := VB24.below b'
  have A25 := A24.below b'
  have D25 := D24.below b'
  have X25 := X24.below b'
  have Y25 := Y24.below b'
  have M25 := M24.below b'
  have U25 := U24.below b'
  have K25 := K24.below b'
  have N25 := N24.below b'
  clear b' b24 I24 IW24 IB24 VV24 VW24 VB24 A24 ca0 ca1 ca2 ca3 D24 cd0 cd1 cd2 cd3 cd4 cd5 X24 cxx0 cxx1 cxx2 cxx3 Y24 cyy0 cyy1 cyy2 cyy3 cyy4 cyy5 M24 cm0 cm1 cm2 cm3 U24 cu0 cu1 cu2 cu3 cu4 cu5 K24 ckx0 ckx1 ckx2 ckx3 N24 cny0 cny1 cny2 cny3 cny4 cny5 
  obtain ⟨ca0, ca1, ca2, ca3⟩ := A25.four
  obtain ⟨cd0, cd1, cd2, cd3, cd4, cd5⟩ := D25.six
  obtain ⟨cxx0, cxx1, cxx2, cxx3⟩ := X25.four
  obtain ⟨cyy0, cyy1, cyy2, cyy3, cyy4, cyy5⟩ := Y25.six
  obtain ⟨cm0, cm1, cm2, cm3⟩ := M25.four
  obtain ⟨cu0, cu1, cu2, cu3, cu4, cu5⟩ := U25.six
  obtain ⟨ckx0, ckx1, ckx2, ckx3⟩ := K25.four
  obtain ⟨cny0, cny1, cny2, cny3, cny4, cny5⟩ := N25.six
  go_wp2_with fail
  refine (heldDevice_s a1i a2i a3i a4i l1i l2i l3i l4i c1i c2i c3i c4i 1 _ _ rfl HK.out.1.1 HK.out.1.2.1 HK.out.1.2.2.1 HK.out.1.2.2.2 LI.out.1 LI.out.2.1 LI.out.2.2.1 LI.out.2.2.2.1 (by omega)).mono ?_
  rintro e w26 ⟨rfl, b'⟩
  rw [HS2i.out]
  have HK' : Hid ((SlB w26 a1i _ ∧ SlB w26 a2i _ ∧ SlI w26 a3i _ ∧ SlI w26 a4i _) ∧ (SlI w26 r1i _ ∧ SlB w26 r2i _)) := ⟨⟨HK.out.1.1.below b', HK.out.1.2.1.below b', HK.out.1.2.2.1.below b', HK.out.1.2.2.2.below b'⟩, HK.out.2.1.below b', HK.out.2.2.below b'⟩
  clear HK
  have HK := HK'
  clear HK'
  have HZ26 : Hid (w25.heap.size ≤ w26.heap.size) := b'.size
  have b26 := bel_next b25 b'
  have I26 := I25.below b'
  have IW26 := IW25.below b'
  have IB26 := IB25.below b'
  have VV26 := VV25.below b'
  have VW26 := VW25.below b'
  have VB26 := VB25.below b'
  have A26 := A25.below b'
  have D26 := D25.below b'
  have X26 := X25.below b'
  have Y26 := Y25.below b'
  have M26 := M25.below b'
  have U26 := U25.below b'
  have K26 := K25.below b'
  have N26 := N25.below b'
  clear b' b25 I25 IW25 IB25 VV25 VW25 VB25 A25 ca0 ca1 ca2 ca3 D25 cd0 cd1 cd2 cd3 cd4 cd5 X25 cxx0 cxx1 cxx2 cxx3 Y25 cyy0 cyy1 cyy2 cyy3 cyy4 cyy5 M25 cm0 cm1 cm2 cm3 U25 cu0 cu1 cu2 cu3 cu4 cu5 K25 ckx0 ckx1 ckx2 ckx3 N25 cny0 cny1 cny2 cny3 cny4 cny5 
  obtain ⟨ca0, ca1, ca2, ca3⟩ := A26.four
  obtain ⟨cd0, cd1, cd2, cd3, cd4, cd5⟩ := D26.six
  obtain ⟨cxx0, cxx1, cxx2, cxx3⟩ := X26.four
  obtain ⟨cyy0, cyy1, cyy2, cyy3, cyy4, cyy5⟩ := Y26.six
  obtain ⟨cm0, cm1, cm2, cm3⟩ := M26.four
  obtain ⟨cu0, cu1, cu2, cu3, cu4, cu5⟩ := U26.six
  obtain ⟨ckx0, ckx1, ckx2, ckx3⟩ := K26.four
  obtain ⟨cny0, cny1, cny2, cny3, cny4, cny5⟩ := N26.six
  go_wp2_with fail
  refine (heldResp_s V.kd V.fl V.pl V.nn r1i r2i p1i p2i t1i t2i s2 _ _ rfl HK.out.2.1 HK.out.2.2 LI.out.2.2.2.2.1 LI.out.2.2.2.2.2.1 HS2.out.2).mono ?_
  rintro e w27 ⟨rfl, b'⟩
  have HK' : Hid ((SlB w27 a1i _ ∧ SlB w27 a2i _ ∧ SlI w27 a3i _ ∧ SlI w27 a4i _) ∧ (SlI w27 r1i _ ∧ SlB w27 r2i _)) := ⟨⟨HK.out.1.1.below b', HK.out.1.2.1.below b', HK.out.1.2.2.1.below b', HK.out.1.2.2.2.below b'⟩, HK.out.2.1.below b', HK.out.2.2.below b'⟩
  clear HK
  have HK := HK'
  clear HK'
  have HZ27 : Hid (w26.heap.size ≤ w27.heap.size) := b'.size
  have b27 := bel_next b26 b'
  have I27 := I26.below b'
  have IW27 := IW26.below b'
  have IB27 := IB26.below b'
  have VV27 := VV26.below b'
  have VW27 := VW26.below b'
  have VB27 := VB26.below b'
  have A27 := A26.below b'
  have D27 := D26.below b'
  have X27 := X26.below b'
  have Y27 := Y26.below b'
  have M27 := M26.below b'
  have U27 := U26.below b'
  have K27 := K26.below b'
  have N27 := N26.below b'
  clear b' b26 I26 IW26 IB26 VV26 VW26 VB26 A26 ca0 ca1 ca2 ca3 D26 cd0 cd1 cd2 cd3 cd4 cd5 X26 cxx0 cxx1 cxx2 cxx3 Y26 cyy0 cyy1 cyy2 cyy3 cyy4 cyy5 M26 cm0 cm1 cm2 cm3 U26 cu0 cu1 cu2 cu3 cu4 cu5 K26 ckx0 ckx1 ckx2 ckx3 N26 cny0 cny1 cny2 cny3 cny4 cny5 
  obtain ⟨ca0, ca1, ca2, ca3⟩ := A27.four
  obtain ⟨cd0, cd1, cd2, cd3, cd4, cd5⟩ := D27.six
  obtain ⟨cxx0, cxx1, cxx2, cxx3⟩ := X27.four
  obtain ⟨cyy0, cyy1, cyy2, cyy3, cyy4, cyy5⟩ := Y27.six
  obtain ⟨cm0, cm1, cm2, cm3⟩ := M27.four
  obtain ⟨cu0, cu1, cu2, cu3, cu4, cu5⟩ := U27.six
  obtain ⟨ckx0, ckx1, ckx2, ckx3⟩ := K27.four
  obtain ⟨cny0, cny1, cny2, cny3, cny4, cny5⟩ := N27.six
  go_wp2
  go_ret
  exact ⟨rfl, b27⟩

end Go.Proofs.Ytmbkfoemhnhoiaa
