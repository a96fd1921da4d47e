/- Serve of the program. -/
import Derived.Test.YtmbkfoemhnhoiaaDev10
namespace Go.Proofs.Ytmbkfoemhnhoiaa
open Go.RowKit

set_option linter.unusedVariables false

set_option linter.unusedSimpArgs false

/-- What Serve ends with. -/
def SR (w w' : World) (e : Ending) (cs is : List Bool) (hs rs : List Int) (kd fl pl nn : Int) (ws : List Int) (bs : List Bool) : Prop :=
  ∃ a1 a2 a3 a4 l1 l2 l3 l4 c1 c2 c3 c4 r1 r2 m1 m2 k1 k2, e = .returned (.tuple #[dv a1 a2 a3 a4 l1 l2 l3 l4 c1 c2 c3 c4, rp kd fl pl nn r1 r2 m1 m2 k1 k2]) ∧ OwnD w' w.heap.size a1 a2 a3 a4 l1 l2 l3 l4 c1 c2 c3 c4 cs is hs rs ∧ OwnI w' w.heap.size (.slice r1 m1 k1) ws ∧ OwnB w' w.heap.size (.slice r2 m2 k2) bs ∧
    (∀ g, Of4 (.slice a1 l1 c1) (.slice a2 l2 c2) (.slice a3 l3 c3) (.slice a4 l4 c4) g → ¬ Of2 (.slice r1 m1 k1) (.slice r2 m2 k2) g) ∧ Below w.heap.size w w'

set_option maxRecDepth 20000 in
set_option maxHeartbeats 8000000 in
theorem implServe_of (a1 a2 a3 a4 : Option Addr) (l1 l2 l3 l4 c1 c2 c3 c4 : Nat) (cs is : List Bool) (hs rs : List Int) (kd pl nn wa : Int) (q1 q2 : Option Addr) (m1 m2 k1 k2 : Nat) (ws : List Int) (bs : List Bool) (w : World) (hn : LnD l1 l2 l3 l4 cs is hs rs) (hs0 : SlD w a1 a2 a3 a4 cs is hs rs) (hsm : SmD 2000000 cs is hs rs) (hq : SlI w q1 ws) (hq2 : SlB w q2 bs)
    (cs' is' : List Bool) (hs' rs' : List Int) (kd' fl' pl' nn' : Int) (ws' : List Int) (bs' : List Bool)
    (hsv : ∀ (W0 w : World) (g1 g2 g3 g4 : Nat), Below W0.heap.size W0 w → OwnD w W0.heap.size (some ⟨g1, 0, none⟩) (some ⟨g2, 0, none⟩) (some ⟨g3, 0, none⟩) (some ⟨g4, 0, none⟩) l1 l2 l3 l4 l1 l2 l3 l4 cs is hs rs → SlI W0 q1 ws → SlB W0 q2 bs → Calls Try.prog 68 #[dv (some ⟨g1, 0, none⟩) (some ⟨g2, 0, none⟩) (some ⟨g3, 0, none⟩) (some ⟨g4, 0, none⟩) l1 l2 l3 l4 l1 l2 l3 l4, rq kd pl nn wa q1 q2 m1 m2 k1 k2] w fun e w' => SV W0 w w' e (some ⟨g1, 0, none⟩) (some ⟨g2, 0, none⟩) (some ⟨g3, 0, none⟩) (some ⟨g4, 0, none⟩) l1 l2 l3 l4 l1 l2 l3 l4 cs' is' hs' rs' kd' fl' pl' nn' ws' bs') :
    Calls Try.prog 15 #[dv a1 a2 a3 a4 l1 l2 l3 l4 c1 c2 c3 c4, rq kd pl nn wa q1 q2 m1 m2 k1 k2] w fun e w' => SR w w' e cs' is' hs' rs' kd' fl' pl' nn' ws' bs' := by
  obtain ⟨z, hz⟩ : ∃ z, z = (((w.alloc (.cells #[.slice a1 l1 c1, .slice a2 l2 c2, .slice a3 l3 c3, .slice a4 l4 c4] 36)).alloc (.cells #[.int .i64 kd, .int .i64 pl, .int .i64 nn, .slice q1 m1 k1, .slice q2 m2 k2, .int .i64 wa] 27)).alloc (.cells #[.slice none 0 0, .slice none 0 0, .slice none 0 0, .slice none 0 0] 36)).alloc (.cells #[.int .i64 0, .int .i64 0, .int .i64 0, .int .i64 0, .slice none 0 0, .slice none 0 0] 29) := ⟨_, rfl⟩
  have HZ : Hid (z = _) := hz
  have b0 : Below w.heap.size w z := by rw [hz]; exact bel_next (bel_next (bel_next (bel_alloc w _) (bel_alloc _ _)) (bel_alloc _ _)) (bel_alloc _ _)
  have X0 : Blk z w.heap.size 36 #[.slice a1 l1 c1, .slice a2 l2 c2, .slice a3 l3 c3, .slice a4 l4 c4] := by rw [hz]; exact (((Blk.new w _ _).below (bel_alloc _ _)).below (bel_alloc _ _)).below (bel_alloc _ _)
  have Y0 : Blk z (w.heap.size + 1) 27 #[.int .i64 kd, .int .i64 pl, .int .i64 nn, .slice q1 m1 k1, .slice q2 m2 k2, .int .i64 wa] := by rw [hz]; have := ((Blk.new (w.alloc (.cells #[.slice a1 l1 c1, .slice a2 l2 c2, .slice a3 l3 c3, .slice a4 l4 c4] 36)) #[.int .i64 kd, .int .i64 pl, .int .i64 nn, .slice q1 m1 k1, .slice q2 m2 k2, .int .i64 wa] 27).below (bel_alloc _ (.cells #[.slice none 0 0, .slice none 0 0, .slice none 0 0, .slice none 0 0] 36))).below (bel_alloc _ (.cells #[.int .i64 0, .int .i64 0, .int .i64 0, .int .i64 0, .slice none 0 0, .slice none 0 0] 29)); simpa using this
  have P0 : Blk z (w.heap.size + 1 + 1) 36 #[.slice none 0 0, .slice none 0 0, .slice none 0 0, .slice none 0 0] := by rw [hz]; have := (Blk.new ((w.alloc (.cells #[.slice a1 l1 c1, .slice a2 l2 c2, .slice a3 l3 c3, .slice a4 l4 c4] 36)).alloc (.cells #[.int .i64 kd, .int .i64 pl, .int .i64 nn, .slice q1 m1 k1, .slice q2 m2 k2, .int .i64 wa] 27)) #[.slice none 0 0, .slice none 0 0, .slice none 0 0, .slice none 0 0] 36).below (bel_alloc _ (.cells #[.int .i64 0, .int .i64 0, .int .i64 0, .int .i64 0, .slice none 0 0, .slice none 0 0] 29)); simpa using this
  have Q0 : Blk z (w.heap.size + 1 + 1 + 1) 29 #[.int .i64 0, .int .i64 0, .int .i64 0, .int .i64 0, .slice none 0 0, .slice none 0 0] := by rw [hz]; have := Blk.new (((w.alloc (.cells #[.slice a1 l1 c1, .slice a2 l2 c2, .slice a3 l3 c3, .slice a4 l4 c4] 36)).alloc (.cells #[.int .i64 kd, .int .i64 pl, .int .i64 nn, .slice q1 m1 k1, .slice q2 m2 k2, .int .i64 wa] 27)).alloc (.cells #[.slice none 0 0, .slice none 0 0, .slice none 0 0, .slice none 0 0] 36)) #[.int .i64 0, .int .i64 0, .int .i64 0, .int .i64 0, .slice none 0 0, .slice none 0 0] 29; simpa using this
  have HN : Hid (LnD l1 l2 l3 l4 cs is hs rs ∧ SmD 2000000 cs is hs rs ∧ SlD z a1 a2 a3 a4 cs is hs rs ∧ SlI z q1 ws ∧ SlB z q2 bs) := ⟨hn, hsm, hs0.below b0, hq.below b0, hq2.below b0⟩
  have HSV : Hid _ := hsv
  have HZS : Hid (z.heap.size = w.heap.size + 1 + 1 + 1 + 1) := by show _ = _; rw [hz]; simp
  obtain ⟨x0, x1, x2, x3⟩ := X0.four
  clear hz hn hs0 hsm hq hq2 hsv
  go_enter Try.func15, Try.ntmps15
  go_upto_region 1 with fail
  rw [← HZ.out]
  go_wp2_with fail
  refine (copyDevice_any a1 a2 a3 a4 l1 l2 l3 l4 c1 c2 c3 c4 cs is hs rs _ HN.out.1 HN.out.2.2.1 HN.out.2.1).mono ?_
  rintro e w1 ⟨g1, g2, g3, g4, rfl, o1, b'⟩
  have b1 := bel_next b0 b'
  have Bz1 := b'
  have Y1 := Y0.below b'
  have P1 := P0.below b'
  have Q1 := Q0.below b'
  clear x0 x1 x2 x3 X0 Y0 P0 Q0 b0 b'
  have b' := bel_alloc w1 (.cells #[.slice (some ⟨g1, 0, none⟩) l1 l1, .slice (some ⟨g2, 0, none⟩) l2 l2, .slice (some ⟨g3, 0, none⟩) l3 l3, .slice (some ⟨g4, 0, none⟩) l4 l4] 36)
  have N' := Blk.new w1 #[.slice (some ⟨g1, 0, none⟩) l1 l1, .slice (some ⟨g2, 0, none⟩) l2 l2, .slice (some ⟨g3, 0, none⟩) l3 l3, .slice (some ⟨g4, 0, none⟩) l4 l4] 36
  obtain ⟨w2, hw2⟩ : ∃ x, x = w1.alloc (.cells #[.slice (some ⟨g1, 0, none⟩) l1 l1, .slice (some ⟨g2, 0, none⟩) l2 l2, .slice (some ⟨g3, 0, none⟩) l3 l3, .slice (some ⟨g4, 0, none⟩) l4 l4] 36) := ⟨_, rfl⟩
  rw [← hw2] at b' N'
  have HW2 : Hid (w2 = _) := hw2
  obtain ⟨BN, hBN⟩ : ∃ x, x = w1.heap.size := ⟨_, rfl⟩
  rw [← hBN] at N'
  have HBN : Hid (BN = w1.heap.size) := hBN
  have HLN : Hid (w.heap.size + 1 + 1 + 1 + 1 ≤ BN) := by show _ ≤ _; have := HZS.out; have := Bz1.size; omega
  have b2 := bel_next b1 b'
  have Bz2 := bel_next Bz1 b'
  have Y2 := Y1.below b'
  have P2 := P1.below b'
  have Q2 := Q1.below b'
  have o2 := o1.below b'
  clear hw2 hBN b1 Bz1 Y1 P1 Q1 o1 b'
  obtain ⟨n0, n1, n2, n3⟩ := N'.four
  obtain ⟨y0, y1, y2, y3, y4, y5⟩ := Y2.six
  go_upto_region 2 with fail
  rw [← HW2.out]
  simp only [← HBN.out]
  go_wp2_with fail
  refine (HSV.out z _ g1 g2 g3 g4 Bz2 o2 HN.out.2.2.2.1 HN.out.2.2.2.2).mono ?_
  rintro e w3 ⟨r1, r2, p1, p2, t1, t2, rfl, i3, j3, o3, Bz3, ch⟩
  have N3 := N'.chg ch (o2.noBlk N' (by decide) (by decide))
  have P3 := P2.chg ch (o2.noBlk P2 (by decide) (by decide))
  have Q3 := Q2.chg ch (o2.noBlk Q2 (by decide) (by decide))
  have HAp : Hid (∀ g, Of4 (.slice (some ⟨g1, 0, none⟩) l1 l1) (.slice (some ⟨g2, 0, none⟩) l2 l2) (.slice (some ⟨g3, 0, none⟩) l3 l3) (.slice (some ⟨g4, 0, none⟩) l4 l4) g → ¬ Of2 (.slice r1 p1 t1) (.slice r2 p2 t2) g) := by
    intro g h1 h2
    have q1 := (o2.of4 g h1).2
    rcases h2 with h2 | h2
    · have := (World.ownsRow.lt i3 g h2).1; omega
    · have := (World.ownsRow.lt j3 g h2).1; omega
  have HS2 : Hid (w.heap.size ≤ w2.heap.size) := b2.size
  have b3 : Below w.heap.size w w3 := Chg.below b2 ch (fun g hg => by have := (o2.of4 g hg).1; have := HZS.out; omega) b2.size
  clear n0 n1 n2 n3 y0 y1 y2 y3 y4 y5 N' Y2 P2 Q2 o2 b2 Bz2 ch Bz3
  have b' := bel_alloc w3 (.cells #[.int .i64 kd', .int .i64 fl', .int .i64 pl', .int .i64 nn', .slice r1 p1 t1, .slice r2 p2 t2] 29)
  have T' := Blk.new w3 #[.int .i64 kd', .int .i64 fl', .int .i64 pl', .int .i64 nn', .slice r1 p1 t1, .slice r2 p2 t2] 29
  obtain ⟨w4, hw4⟩ : ∃ x, x = w3.alloc (.cells #[.int .i64 kd', .int .i64 fl', .int .i64 pl', .int .i64 nn', .slice r1 p1 t1, .slice r2 p2 t2] 29) := ⟨_, rfl⟩
  rw [← hw4] at b' T'
  have HW4 : Hid (w4 = _) := hw4
  obtain ⟨BT, hBT⟩ : ∃ x, x = w3.heap.size := ⟨_, rfl⟩
  rw [← hBT] at T'
  have HBT : Hid (BT = w3.heap.size) := hBT
  have HLT : Hid (w.heap.size + 1 + 1 + 1 + 1 ≤ BT) := by show _ ≤ _; have := HLN.out; have := N3.lt; omega
  have b4 := bel_next b3 b'
  have N4 := N3.below b'
  have P4 := P3.below b'
  have Q4 := Q3.below b'
  have HH : Hid (OwnD w4 w.heap.size (some ⟨g1, 0, none⟩) (some ⟨g2, 0, none⟩) (some ⟨g3, 0, none⟩) (some ⟨g4, 0, none⟩) l1 l2 l3 l4 l1 l2 l3 l4 cs' is' hs' rs' ∧ OwnI w4 w.heap.size (.slice r1 p1 t1) ws' ∧ OwnB w4 w.heap.size (.slice r2 p2 t2) bs' ∧ Below w.heap.size w w4 ∧ ExB w4 (w.heap.size + 1 + 1) 36 ∧ ExB w4 (w.heap.size + 1 + 1 + 1) 29) := ⟨(o3.below b').mono (by have := HZS.out; omega), (i3.below b').mono HS2.out, (j3.below b').mono HS2.out, b4, ⟨_, P4⟩, ⟨_, Q4⟩⟩
  clear hw4 hBT b3 N3 P3 Q3 o3 i3 j3 b'
  obtain ⟨n0, n1, n2, n3⟩ := N4.four
  obtain ⟨t0', t1', t2', t3', t4', t5'⟩ := T'.six
  obtain ⟨p0', p1', p2', p3'⟩ := P4.four
  obtain ⟨q0', q1', q2', q3', q4', q5'⟩ := Q4.six
  have fp := P4.fro
  have fq := Q4.fro
  have fp0 := fp 0
  have fp1 := fp 1
  have fp2 := fp 2
  have fp3 := fp 3
  have fq0 := fq 0
  have fq1 := fq 1
  have fq2 := fq 2
  have fq3 := fq 3
  have fq4 := fq 4
  have fq5 := fq 5
  have lN := HLN.out
  have lT := HLT.out
  have e1 : ¬ (BN = w.heap.size + 1 + 1) := by omega
  have e2 : ¬ (BN = w.heap.size + 1 + 1 + 1) := by omega
  have e3 : ¬ (BT = w.heap.size + 1 + 1) := by omega
  have e4 : ¬ (BT = w.heap.size + 1 + 1 + 1) := by omega
  have e1' : ¬ (w.heap.size + 1 + 1 = BN) := by omega
  have e2' : ¬ (w.heap.size + 1 + 1 + 1 = BN) := by omega
  have e3' : ¬ (w.heap.size + 1 + 1 = BT) := by omega
  have e4' : ¬ (w.heap.size + 1 + 1 + 1 = BT) := by omega
  clear lN lT
  obtain ⟨W5, hW5⟩ : ∃ x, x = ((((((((((w4.setCell ⟨w.heap.size + 1 + 1, 0, none⟩ (.slice (some ⟨g1, 0, none⟩) l1 l1)).setCell ⟨w.heap.size + 1 + 1, 1, none⟩ (.slice (some ⟨g2, 0, none⟩) l2 l2)).setCell ⟨w.heap.size + 1 + 1, 2, none⟩ (.slice (some ⟨g3, 0, none⟩) l3 l3)).setCell ⟨w.heap.size + 1 + 1, 3, none⟩ (.slice (some ⟨g4, 0, none⟩) l4 l4)).setCell ⟨w.heap.size + 1 + 1 + 1, 0, none⟩ (.int .i64 kd')).setCell ⟨w.heap.size + 1 + 1 + 1, 1, none⟩ (.int .i64 fl')).setCell ⟨w.heap.size + 1 + 1 + 1, 2, none⟩ (.int .i64 pl')).setCell ⟨w.heap.size + 1 + 1 + 1, 3, none⟩ (.int .i64 nn')).setCell ⟨w.heap.size + 1 + 1 + 1, 4, none⟩ (.slice r1 p1 t1)).setCell ⟨w.heap.size + 1 + 1 + 1, 5, none⟩ (.slice r2 p2 t2)) := ⟨_, rfl⟩
  have HW5 : Hid (W5 = _) := hW5
  have HF : Hid (OwnD W5 w.heap.size (some ⟨g1, 0, none⟩) (some ⟨g2, 0, none⟩) (some ⟨g3, 0, none⟩) (some ⟨g4, 0, none⟩) l1 l2 l3 l4 l1 l2 l3 l4 cs' is' hs' rs' ∧ OwnI W5 w.heap.size (.slice r1 p1 t1) ws' ∧ OwnB W5 w.heap.size (.slice r2 p2 t2) bs' ∧ Below w.heap.size w W5) := by
    obtain ⟨o1, o2, o3, o4, o5, o6⟩ := HH.out
    have x6 : ∀ v0 v1 v2 v3 : Value, ExB ((((w4.setCell ⟨w.heap.size + 1 + 1, 0, none⟩ v0).setCell ⟨w.heap.size + 1 + 1, 1, none⟩ v1).setCell ⟨w.heap.size + 1 + 1, 2, none⟩ v2).setCell ⟨w.heap.size + 1 + 1, 3, none⟩ v3) (w.heap.size + 1 + 1 + 1) 29 := fun _ _ _ _ => ExB.set (ExB.set (ExB.set (ExB.set o6)))
    rw [hW5]
    exact ⟨(o1.set4 o5 (by decide) (by decide)).set6 (x6 _ _ _ _) (by decide) (by decide), rowp_set6 (row_set4 o2 o5 (by decide)) (x6 _ _ _ _) (by decide), rowp_set6 (row_set4 o3 o5 (by decide)) (x6 _ _ _ _) (by decide), belp_set6 (bel_set4 o4 (by omega)) (by omega)⟩
  have HPQ : Hid (Blk W5 (w.heap.size + 1 + 1) 36 #[.slice (some ⟨g1, 0, none⟩) l1 l1, .slice (some ⟨g2, 0, none⟩) l2 l2, .slice (some ⟨g3, 0, none⟩) l3 l3, .slice (some ⟨g4, 0, none⟩) l4 l4] ∧ Blk W5 (w.heap.size + 1 + 1 + 1) 29 #[.int .i64 kd', .int .i64 fl', .int .i64 pl', .int .i64 nn', .slice r1 p1 t1, .slice r2 p2 t2]) := by
    have a1' := (((P4.set 0 (.slice (some ⟨g1, 0, none⟩) l1 l1)).set 1 (.slice (some ⟨g2, 0, none⟩) l2 l2)).set 2 (.slice (some ⟨g3, 0, none⟩) l3 l3)).set 3 (.slice (some ⟨g4, 0, none⟩) l4 l4)
    have a2' := (((((a1'.setNe (g' := w.heap.size + 1 + 1 + 1) (j := 0) (y := .int .i64 kd') (by omega)).setNe (g' := w.heap.size + 1 + 1 + 1) (j := 1) (y := .int .i64 fl') (by omega)).setNe (g' := w.heap.size + 1 + 1 + 1) (j := 2) (y := .int .i64 pl') (by omega)).setNe (g' := w.heap.size + 1 + 1 + 1) (j := 3) (y := .int .i64 nn') (by omega)).setNe (g' := w.heap.size + 1 + 1 + 1) (j := 4) (y := .slice r1 p1 t1) (by omega)).setNe (g' := w.heap.size + 1 + 1 + 1) (j := 5) (y := .slice r2 p2 t2) (by omega)
    have c1' := (((Q4.setNe (g' := w.heap.size + 1 + 1) (j := 0) (y := .slice (some ⟨g1, 0, none⟩) l1 l1) (by omega)).setNe (g' := w.heap.size + 1 + 1) (j := 1) (y := .slice (some ⟨g2, 0, none⟩) l2 l2) (by omega)).setNe (g' := w.heap.size + 1 + 1) (j := 2) (y := .slice (some ⟨g3, 0, none⟩) l3 l3) (by omega)).setNe (g' := w.heap.size + 1 + 1) (j := 3) (y := .slice (some ⟨g4, 0, none⟩) l4 l4) (by omega)
    have c2' := (((((c1'.set 0 (.int .i64 kd')).set 1 (.int .i64 fl')).set 2 (.int .i64 pl')).set 3 (.int .i64 nn')).set 4 (.slice r1 p1 t1)).set 5 (.slice r2 p2 t2)
    rw [hW5]
    exact ⟨a2', c2'⟩
  clear hW5
  go_upto_region 3 with fail
  rw [← HW4.out]
  simp only [← HBT.out]
  go_region
  rw [← HW5.out]
  obtain ⟨u0, u1, u2, u3⟩ := HPQ.out.1.four
  obtain ⟨v0, v1, v2, v3, v4, v5⟩ := HPQ.out.2.six
  clear p0' p1' p2' p3' q0' q1' q2' q3' q4' q5' fp fq fp0 fp1 fp2 fp3 fq0 fq1 fq2 fq3 fq4 fq5 n0 n1 n2 n3 t0' t1' t2' t3' t4' t5'
  go_wp2
  refine bodyPost_ret (v := .tuple #[dv (some ⟨g1, 0, none⟩) (some ⟨g2, 0, none⟩) (some ⟨g3, 0, none⟩) (some ⟨g4, 0, none⟩) l1 l2 l3 l4 l1 l2 l3 l4, rp kd' fl' pl' nn' r1 r2 p1 p2 t1 t2]) (by simp [results, Try.results15, go_sem, u0, u1, u2, u3, v0, v1, v2, v3, v4, v5]) rfl ?_
  obtain ⟨o1, o2, o3, o4⟩ := HF.out
  exact ⟨_, _, _, _, _, _, _, _, _, _, _, _, _, _, _, _, _, _, rfl, o1.drew, o2.below (Below.refl _ _).drew, o3.below (Below.refl _ _).drew, HAp.out, o4.drew⟩

end Go.Proofs.Ytmbkfoemhnhoiaa
