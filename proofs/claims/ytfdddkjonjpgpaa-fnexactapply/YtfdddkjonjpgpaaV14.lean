/- Texts that the proof needs, joined: Dev27e Dev27f. -/
import Derived.Test.YtfdddkjonjpgpaaV12
import Derived.BigRegion
import Derived.Lib.AppendZeros
namespace Go.Proofs.Ytfdddkjonjpgpaa
open Go.RowKit
set_option linter.unusedVariables false
set_option linter.unusedSimpArgs false
set_option maxRecDepth 20000 in
set_option maxHeartbeats 4000000 in
theorem specServe_dev (a1 a2 a3 a4 : Option Addr) (l1 l2 l3 l4 c1 c2 c3 c4 : Nat) (cs is : List Bool) (hs rs : List Int) (kd pl nn wa : Int) (q1 q2 : Option Addr) (m1 m2 k1 k2 : Nat) (ws : List Int) (bs : List Bool) (w : World) (hn : LnD l1 l2 l3 l4 cs is hs rs) (hs0 : SlD w a1 a2 a3 a4 cs is hs rs) (hsm : SmD 2000000 cs is hs rs) (hq : SlI w q1 ws) (hq2 : SlB w q2 bs) (h1 : m1 = ws.length) (h2 : m2 = bs.length) (hl : ws.length ≤ 2000000) (hl2 : bs.length ≤ 2000000) (hok : okR kd pl nn wa ws m1 m2 = true) (hd : okD l1 l2 l3 l4 hs rs = false) :
    Calls Try.prog 42 #[dv a1 a2 a3 a4 l1 l2 l3 l4 c1 c2 c3 c4, .agg #[.int .i64 kd, .int .i64 pl, .int .i64 nn, .slice q1 m1 k1, .slice q2 m2 k2, .int .i64 wa]] w fun e w' => SR w w' e cs is hs rs kd 4 0 0 [] [] := by
  obtain ⟨z, hz⟩ : ∃ z, z = (((w.alloc (.cells #[.slice a1 l1 c1, .slice a2 l2 c2, .slice a3 l3 c3, .slice a4 l4 c4] 27)).alloc (.cells #[.int .i64 kd, .int .i64 pl, .int .i64 nn, .slice q1 m1 k1, .slice q2 m2 k2, .int .i64 wa] 57)).alloc (.cells #[.slice none 0 0, .slice none 0 0, .slice none 0 0, .slice none 0 0] 27)).alloc (.cells #[.int .i64 0, .int .i64 0, .int .i64 0, .int .i64 0, .slice none 0 0, .slice none 0 0] 37) := ⟨_, rfl⟩
  have HZ : Hid (z = _) := hz
  have b0 : Below w.heap.size w z := by rw [hz]; exact bel_next (bel_next (bel_next (bel_alloc w _) (bel_alloc _ _)) (bel_alloc _ _)) (bel_alloc _ _)
  have X0 : Blk z w.heap.size 27 #[.slice a1 l1 c1, .slice a2 l2 c2, .slice a3 l3 c3, .slice a4 l4 c4] := by rw [hz]; exact (((Blk.new w _ _).below (bel_alloc _ _)).below (bel_alloc _ _)).below (bel_alloc _ _)
  have Y0 : Blk z (w.heap.size + 1) 57 #[.int .i64 kd, .int .i64 pl, .int .i64 nn, .slice q1 m1 k1, .slice q2 m2 k2, .int .i64 wa] := by rw [hz]; have := ((Blk.new (w.alloc (.cells #[.slice a1 l1 c1, .slice a2 l2 c2, .slice a3 l3 c3, .slice a4 l4 c4] 27)) #[.int .i64 kd, .int .i64 pl, .int .i64 nn, .slice q1 m1 k1, .slice q2 m2 k2, .int .i64 wa] 57).below (bel_alloc _ (.cells #[.slice none 0 0, .slice none 0 0, .slice none 0 0, .slice none 0 0] 27))).below (bel_alloc _ (.cells #[.int .i64 0, .int .i64 0, .int .i64 0, .int .i64 0, .slice none 0 0, .slice none 0 0] 37)); simpa using this
  have P0 : Blk z (w.heap.size + 1 + 1) 27 #[.slice none 0 0, .slice none 0 0, .slice none 0 0, .slice none 0 0] := by rw [hz]; have := (Blk.new ((w.alloc (.cells #[.slice a1 l1 c1, .slice a2 l2 c2, .slice a3 l3 c3, .slice a4 l4 c4] 27)).alloc (.cells #[.int .i64 kd, .int .i64 pl, .int .i64 nn, .slice q1 m1 k1, .slice q2 m2 k2, .int .i64 wa] 57)) #[.slice none 0 0, .slice none 0 0, .slice none 0 0, .slice none 0 0] 27).below (bel_alloc _ (.cells #[.int .i64 0, .int .i64 0, .int .i64 0, .int .i64 0, .slice none 0 0, .slice none 0 0] 37)); simpa using this
  have Q0 : Blk z (w.heap.size + 1 + 1 + 1) 37 #[.int .i64 0, .int .i64 0, .int .i64 0, .int .i64 0, .slice none 0 0, .slice none 0 0] := by rw [hz]; have := Blk.new (((w.alloc (.cells #[.slice a1 l1 c1, .slice a2 l2 c2, .slice a3 l3 c3, .slice a4 l4 c4] 27)).alloc (.cells #[.int .i64 kd, .int .i64 pl, .int .i64 nn, .slice q1 m1 k1, .slice q2 m2 k2, .int .i64 wa] 57)).alloc (.cells #[.slice none 0 0, .slice none 0 0, .slice none 0 0, .slice none 0 0] 27)) #[.int .i64 0, .int .i64 0, .int .i64 0, .int .i64 0, .slice none 0 0, .slice none 0 0] 37; simpa using this
  have HN : Hid (LnD l1 l2 l3 l4 cs is hs rs ∧ SmD 2000000 cs is hs rs ∧ SlD w a1 a2 a3 a4 cs is hs rs ∧ SlI w q1 ws ∧ SlB w q2 bs) := ⟨hn, hsm, hs0, hq, hq2⟩
  have HQ : Hid (m1 = ws.length ∧ m2 = bs.length ∧ ws.length ≤ 2000000 ∧ bs.length ≤ 2000000) := ⟨h1, h2, hl, hl2⟩
  have HB0 : Hid (Below w.heap.size w z) := b0
  have HZS : Hid (z.heap.size = w.heap.size + 1 + 1 + 1 + 1) := by show _ = _; rw [hz]; simp
  obtain ⟨x0', x1', x2', x3'⟩ := X0.four
  clear hz hn hs0 hsm hq hq2 h1 h2 hl hl2
  go_enter Try.func42, Try.ntmps42
  go_upto_region 1 with fail
  rw [← HZ.out]
  go_wp2_with fail
  refine (l5Copy_any a1 a2 a3 a4 l1 l2 l3 l4 c1 c2 c3 c4 cs is hs rs _ HN.out.1 (HN.out.2.2.1.below b0) HN.out.2.1).mono ?_
  rintro e w1 ⟨x1, x2, x3, x4, d1, d2, d3, d4, rfl, o1, b'⟩
  have b1 := bel_next b0 b'
  have bz1 := b'
  have X1 := X0.below b'
  have Y1 := Y0.below b'
  have P1 := P0.below b'
  have Q1 := Q0.below b'
  have HG6 : Hid (z.heap.size ≤ w1.heap.size) := b'.size
  clear x0' x1' x2' x3' X0 Y0 P0 Q0 b0 b'
  have b' := bel_alloc w1 (.cells #[.slice x1 l1 d1, .slice x2 l2 d2, .slice x3 l3 d3, .slice x4 l4 d4] 27)
  have N' := Blk.new w1 #[.slice x1 l1 d1, .slice x2 l2 d2, .slice x3 l3 d3, .slice x4 l4 d4] 27
  obtain ⟨w2, hw2⟩ : ∃ x, x = w1.alloc (.cells #[.slice x1 l1 d1, .slice x2 l2 d2, .slice x3 l3 d3, .slice x4 l4 d4] 27) := ⟨_, rfl⟩
  rw [← hw2] at b' N'
  have HW2 : Hid (w2 = _) := hw2
  obtain ⟨G6, hBN⟩ : ∃ x, x = w1.heap.size := ⟨_, rfl⟩
  rw [← hBN] at N'
  have HBN : Hid (G6 = w1.heap.size) := hBN
  have S2 : ∀ G7 tc, G6 < G7 → Blk w2 G7 37 tc → True := fun _ _ _ _ => trivial
  have b2 := bel_next b1 b'
  have bz2 := bel_next bz1 b'
  have X2 := X1.below b'
  have Y2 := Y1.below b'
  have P2 := P1.below b'
  have Q2 := Q1.below b'
  have o2 := o1.below b'
  clear hw2 hBN b1 bz1 X1 Y1 P1 Q1 o1 b' S2
  obtain ⟨x0', x1', x2', x3'⟩ := X2.four
  go_upto_region 2 with fail
  rw [← HW2.out]
  simp only [← HBN.out]
  have HOK : Hid _ := hok
  have HD : Hid _ := hd
  clear hok hd
  go_wp2_with fail
  refine (specDeviceOk_any a1 a2 a3 a4 l1 l2 l3 l4 c1 c2 c3 c4 cs is hs rs _ HN.out.1 (HN.out.2.2.1.below b2) HN.out.2.1 false HD.out).mono ?_
  rintro e w3 ⟨rfl, b'⟩
  have b3 := bel_next b2 b'
  have bz3 := bel_next bz2 b'
  have X3 := X2.below b'
  have Y3 := Y2.below b'
  have P3 := P2.below b'
  have Q3 := Q2.below b'
  have N3 := N'.below b'
  have o3 := o2.below b'
  clear x0' x1' x2' x3' X2 Y2 P2 Q2 N' o2 b2 bz2 b'
  obtain ⟨x0', x1', x2', x3'⟩ := X3.four
  obtain ⟨y0', y1', y2', y3', y4', y5'⟩ := Y3.six
  obtain ⟨n0, n1, n2, n3⟩ := N3.four
  obtain ⟨p0', p1', p2', p3'⟩ := P3.four
  obtain ⟨q0', q1', q2', q3', q4', q5'⟩ := Q3.six
  have lN : w.heap.size + 1 + 1 + 1 + 1 ≤ G6 := by have := HZS.out; have := HG6.out; have := HBN.out; omega
  have e1 : ¬ (G6 = w.heap.size + 1 + 1) := by omega
  have e2 : ¬ (G6 = w.heap.size + 1 + 1 + 1) := by omega
  have e1' : ¬ (w.heap.size + 1 + 1 = G6) := by omega
  have e2' : ¬ (w.heap.size + 1 + 1 + 1 = G6) := by omega
  have e5 : ¬ (w.heap.size = w.heap.size + 1 + 1) := by omega
  have e5' : ¬ (w.heap.size + 1 + 1 = w.heap.size) := by omega
  have e3 : ¬ (w.heap.size + 1 = w.heap.size + 1 + 1) := by omega
  have e3' : ¬ (w.heap.size + 1 + 1 = w.heap.size + 1) := by omega
  have e4 : ¬ (w.heap.size + 1 = w.heap.size + 1 + 1 + 1) := by omega
  have e4' : ¬ (w.heap.size + 1 + 1 + 1 = w.heap.size + 1) := by omega
  go_upto_region 3 with fail
  have dz : Below w3.heap.size w3 w3.drew := (Below.refl _ _).drew
  go_region_held3 (fun w' => w'.cell? ⟨G6, 0, none⟩ = some (.slice x1 l1 d1) ∧ w'.cell? ⟨G6, 1, none⟩ = some (.slice x2 l2 d2) ∧ w'.cell? ⟨G6, 2, none⟩ = some (.slice x3 l3 d3) ∧ w'.cell? ⟨G6, 3, none⟩ = some (.slice x4 l4 d4) ∧ w'.cell? ⟨w.heap.size + 1, 0, none⟩ = some (.int .i64 kd) ∧ w'.cell? ⟨w.heap.size + 1, 1, none⟩ = some (.int .i64 pl) ∧ w'.cell? ⟨w.heap.size + 1, 2, none⟩ = some (.int .i64 nn) ∧ w'.cell? ⟨w.heap.size + 1, 3, none⟩ = some (.slice q1 m1 k1) ∧ w'.cell? ⟨w.heap.size + 1, 4, none⟩ = some (.slice q2 m2 k2) ∧ w'.cell? ⟨w.heap.size + 1, 5, none⟩ = some (.int .i64 wa)) (go_keep)
    (first | (go_at_call 69; refine (specFaultOf_q kd pl nn wa q1 q2 m1 m2 k1 k2 ws bs _ _ HQ.out.1 HQ.out.2.1 (HN.out.2.2.2.1.below (by first | exact b3 | exact b3.drew)) (HN.out.2.2.2.2.below (by first | exact b3 | exact b3.drew)) HQ.out.2.2.1 HQ.out.2.2.2).mono ?_; rintro e w7 ⟨he, b'⟩; have he' : e = .returned (rp kd 4 0 0 none none 0 0 0 0) := (by rw [HOK.out] at he; exact he); subst he'; clear he; have B7 : Below w3.heap.size w3 w7 := (by first | exact b' | exact bel_next dz b'); obtain ⟨n0q, n1q, n2q, n3q⟩ := (N3.below B7).four; obtain ⟨y0q, y1q, y2q, y3q, y4q, y5q⟩ := (Y3.below B7).six; have PB := P3.below B7; have QB := Q3.below B7; obtain ⟨p0q, p1q, p2q, p3q⟩ := PB.four; obtain ⟨q0q, q1q, q2q, q3q, q4q, q5q⟩ := QB.six; have fp0 := PB.fro 0; have fp1 := PB.fro 1; have fp2 := PB.fro 2; have fp3 := PB.fro 3; have fq0 := QB.fro 0; have fq1 := QB.fro 1; have fq2 := QB.fro 2; have fq3 := QB.fro 3; have fq4 := QB.fro 4; have fq5 := QB.fro 5; clear b'))
  all_goals (
    obtain ⟨W5, hW5⟩ : ∃ x, x = ((((((((((w7.setCell ⟨w.heap.size + 1 + 1, 0, none⟩ (.slice x1 l1 d1)).setCell ⟨w.heap.size + 1 + 1, 1, none⟩ (.slice x2 l2 d2)).setCell ⟨w.heap.size + 1 + 1, 2, none⟩ (.slice x3 l3 d3)).setCell ⟨w.heap.size + 1 + 1, 3, none⟩ (.slice x4 l4 d4)).setCell ⟨w.heap.size + 1 + 1 + 1, 0, none⟩ (.int .i64 (kd))).setCell ⟨w.heap.size + 1 + 1 + 1, 1, none⟩ (.int .i64 (4))).setCell ⟨w.heap.size + 1 + 1 + 1, 2, none⟩ (.int .i64 0)).setCell ⟨w.heap.size + 1 + 1 + 1, 3, none⟩ (.int .i64 0)).setCell ⟨w.heap.size + 1 + 1 + 1, 4, none⟩ (.slice none 0 0)).setCell ⟨w.heap.size + 1 + 1 + 1, 5, none⟩ (.slice none 0 0)) := ⟨_, rfl⟩
    have HW5 : Hid (W5 = _) := hW5
    have HF : Hid (OwnD W5 w.heap.size x1 x2 x3 x4 l1 l2 l3 l4 d1 d2 d3 d4 cs is hs rs ∧ Below w.heap.size w W5) := by
      have o1 := (o3.below B7).mono (B' := w.heap.size) (by have := HZS.out; omega)
      have o6 : ExB w7 (w.heap.size + 1 + 1 + 1) 37 := ⟨_, QB⟩
      have o5 : ExB w7 (w.heap.size + 1 + 1) 27 := ⟨_, PB⟩
      have x6 : ∀ v0 v1 v2 v3 : Value, ExB ((((w7.setCell ⟨w.heap.size + 1 + 1, 0, none⟩ v0).setCell ⟨w.heap.size + 1 + 1, 1, none⟩ v1).setCell ⟨w.heap.size + 1 + 1, 2, none⟩ v2).setCell ⟨w.heap.size + 1 + 1, 3, none⟩ v3) (w.heap.size + 1 + 1 + 1) 37 := fun _ _ _ _ => ExB.set (ExB.set (ExB.set (ExB.set o6)))
      rw [hW5]
      exact ⟨(o1.set4 o5 (by decide) (by decide)).set6 (x6 _ _ _ _) (by decide) (by decide), belp_set6 (bel_set4 (bel_next b3 B7) (by omega)) (by omega)⟩
    have HPQ : Hid (Blk W5 (w.heap.size + 1 + 1) 27 #[.slice x1 l1 d1, .slice x2 l2 d2, .slice x3 l3 d3, .slice x4 l4 d4] ∧ Blk W5 (w.heap.size + 1 + 1 + 1) 37 #[.int .i64 (kd), .int .i64 (4), .int .i64 0, .int .i64 0, .slice none 0 0, .slice none 0 0]) := by
      have a1' := (((PB.set 0 (.slice x1 l1 d1)).set 1 (.slice x2 l2 d2)).set 2 (.slice x3 l3 d3)).set 3 (.slice x4 l4 d4)
      have a2' := (((((a1'.setNe (g' := w.heap.size + 1 + 1 + 1) (j := 0) (y := .int .i64 (kd)) (by omega)).setNe (g' := w.heap.size + 1 + 1 + 1) (j := 1) (y := .int .i64 (4)) (by omega)).setNe (g' := w.heap.size + 1 + 1 + 1) (j := 2) (y := .int .i64 0) (by omega)).setNe (g' := w.heap.size + 1 + 1 + 1) (j := 3) (y := .int .i64 0) (by omega)).setNe (g' := w.heap.size + 1 + 1 + 1) (j := 4) (y := .slice none 0 0) (by omega)).setNe (g' := w.heap.size + 1 + 1 + 1) (j := 5) (y := .slice none 0 0) (by omega)
      have c1' := (((QB.setNe (g' := w.heap.size + 1 + 1) (j := 0) (y := .slice x1 l1 d1) (by omega)).setNe (g' := w.heap.size + 1 + 1) (j := 1) (y := .slice x2 l2 d2) (by omega)).setNe (g' := w.heap.size + 1 + 1) (j := 2) (y := .slice x3 l3 d3) (by omega)).setNe (g' := w.heap.size + 1 + 1) (j := 3) (y := .slice x4 l4 d4) (by omega)
      have c2' := (((((c1'.set 0 (.int .i64 (kd))).set 1 (.int .i64 (4))).set 2 (.int .i64 0)).set 3 (.int .i64 0)).set 4 (.slice none 0 0)).set 5 (.slice none 0 0)
      rw [hW5]
      exact ⟨a2', c2'⟩
    clear hW5
    have HAp : Hid (∀ g, (Of4 (.slice x1 l1 d1) (.slice x2 l2 d2) (.slice x3 l3 d3) (.slice x4 l4 d4)) g → ¬ Of2 (.slice none 0 0) (.slice none 0 0) g) := (by intro g _ h2; rcases h2 with h2 | h2 <;> cases h2)
    first | rw [← HW5.out] | skip
    obtain ⟨u0, u1, u2, u3⟩ := HPQ.out.1.four
    obtain ⟨v0, v1, v2, v3, v4, v5⟩ := HPQ.out.2.six
    clear p0' p1' p2' p3' q0' q1' q2' q3' q4' q5' fp0 fp1 fp2 fp3 fq0 fq1 fq2 fq3 fq4 fq5 n0 n1 n2 n3 p0q p1q p2q p3q q0q q1q q2q q3q q4q q5q n0q n1q n2q n3q y0q y1q y2q y3q y4q y5q
    go_wp2
    refine bodyPost_ret (v := .tuple #[dv x1 x2 x3 x4 l1 l2 l3 l4 d1 d2 d3 d4, rp (kd) (4) 0 0 none none 0 0 0 0]) (by simp [results, Try.results42, go_sem, u0, u1, u2, u3, v0, v1, v2, v3, v4, v5]) rfl ?_
    obtain ⟨o1, o4⟩ := HF.out
    exact ⟨_, _, _, _, _, _, _, _, _, _, _, _, _, _, _, _, _, _, rfl, by first | exact o1 | exact o1.drew, ownI_nil0 _ _, ownB_nil0 _ _, HAp.out, by first | exact o4 | exact o4.drew⟩)
set_option maxRecDepth 20000 in
set_option maxHeartbeats 4000000 in
theorem specServe_no1 (a1 a2 a3 a4 : Option Addr) (l1 l2 l3 l4 c1 c2 c3 c4 : Nat) (cs is : List Bool) (hs rs : List Int) (kd pl nn wa : Int) (q1 q2 : Option Addr) (m1 m2 k1 k2 : Nat) (ws : List Int) (bs : List Bool) (w : World) (hn : LnD l1 l2 l3 l4 cs is hs rs) (hs0 : SlD w a1 a2 a3 a4 cs is hs rs) (hsm : SmD 2000000 cs is hs rs) (hq : SlI w q1 ws) (hq2 : SlB w q2 bs) (h1 : m1 = ws.length) (h2 : m2 = bs.length) (hl : ws.length ≤ 2000000) (hl2 : bs.length ≤ 2000000) (hok : okR kd pl nn wa ws m1 m2 = false) (hd : okD l1 l2 l3 l4 hs rs = true) :
    Calls Try.prog 42 #[dv a1 a2 a3 a4 l1 l2 l3 l4 c1 c2 c3 c4, .agg #[.int .i64 kd, .int .i64 pl, .int .i64 nn, .slice q1 m1 k1, .slice q2 m2 k2, .int .i64 wa]] w fun e w' => SR w w' e cs is hs rs 0 0 0 0 [] [] := by
  obtain ⟨z, hz⟩ : ∃ z, z = (((w.alloc (.cells #[.slice a1 l1 c1, .slice a2 l2 c2, .slice a3 l3 c3, .slice a4 l4 c4] 27)).alloc (.cells #[.int .i64 kd, .int .i64 pl, .int .i64 nn, .slice q1 m1 k1, .slice q2 m2 k2, .int .i64 wa] 57)).alloc (.cells #[.slice none 0 0, .slice none 0 0, .slice none 0 0, .slice none 0 0] 27)).alloc (.cells #[.int .i64 0, .int .i64 0, .int .i64 0, .int .i64 0, .slice none 0 0, .slice none 0 0] 37) := ⟨_, rfl⟩
  have HZ : Hid (z = _) := hz
  have b0 : Below w.heap.size w z := by rw [hz]; exact bel_next (bel_next (bel_next (bel_alloc w _) (bel_alloc _ _)) (bel_alloc _ _)) (bel_alloc _ _)
  have X0 : Blk z w.heap.size 27 #[.slice a1 l1 c1, .slice a2 l2 c2, .slice a3 l3 c3, .slice a4 l4 c4] := by rw [hz]; exact (((Blk.new w _ _).below (bel_alloc _ _)).below (bel_alloc _ _)).below (bel_alloc _ _)
  have Y0 : Blk z (w.heap.size + 1) 57 #[.int .i64 kd, .int .i64 pl, .int .i64 nn, .slice q1 m1 k1, .slice q2 m2 k2, .int .i64 wa] := by rw [hz]; have := ((Blk.new (w.alloc (.cells #[.slice a1 l1 c1, .slice a2 l2 c2, .slice a3 l3 c3, .slice a4 l4 c4] 27)) #[.int .i64 kd, .int .i64 pl, .int .i64 nn, .slice q1 m1 k1, .slice q2 m2 k2, .int .i64 wa] 57).below (bel_alloc _ (.cells #[.slice none 0 0, .slice none 0 0, .slice none 0 0, .slice none 0 0] 27))).below (bel_alloc _ (.cells #[.int .i64 0, .int .i64 0, .int .i64 0, .int .i64 0, .slice none 0 0, .slice none 0 0] 37)); simpa using this
  have P0 : Blk z (w.heap.size + 1 + 1) 27 #[.slice none 0 0, .slice none 0 0, .slice none 0 0, .slice none 0 0] := by rw [hz]; have := (Blk.new ((w.alloc (.cells #[.slice a1 l1 c1, .slice a2 l2 c2, .slice a3 l3 c3, .slice a4 l4 c4] 27)).alloc (.cells #[.int .i64 kd, .int .i64 pl, .int .i64 nn, .slice q1 m1 k1, .slice q2 m2 k2, .int .i64 wa] 57)) #[.slice none 0 0, .slice none 0 0, .slice none 0 0, .slice none 0 0] 27).below (bel_alloc _ (.cells #[.int .i64 0, .int .i64 0, .int .i64 0, .int .i64 0, .slice none 0 0, .slice none 0 0] 37)); simpa using this
  have Q0 : Blk z (w.heap.size + 1 + 1 + 1) 37 #[.int .i64 0, .int .i64 0, .int .i64 0, .int .i64 0, .slice none 0 0, .slice none 0 0] := by rw [hz]; have := Blk.new (((w.alloc (.cells #[.slice a1 l1 c1, .slice a2 l2 c2, .slice a3 l3 c3, .slice a4 l4 c4] 27)).alloc (.cells #[.int .i64 kd, .int .i64 pl, .int .i64 nn, .slice q1 m1 k1, .slice q2 m2 k2, .int .i64 wa] 57)).alloc (.cells #[.slice none 0 0, .slice none 0 0, .slice none 0 0, .slice none 0 0] 27)) #[.int .i64 0, .int .i64 0, .int .i64 0, .int .i64 0, .slice none 0 0, .slice none 0 0] 37; simpa using this
  have HN : Hid (LnD l1 l2 l3 l4 cs is hs rs ∧ SmD 2000000 cs is hs rs ∧ SlD w a1 a2 a3 a4 cs is hs rs ∧ SlI w q1 ws ∧ SlB w q2 bs) := ⟨hn, hsm, hs0, hq, hq2⟩
  have HQ : Hid (m1 = ws.length ∧ m2 = bs.length ∧ ws.length ≤ 2000000 ∧ bs.length ≤ 2000000) := ⟨h1, h2, hl, hl2⟩
  have HB0 : Hid (Below w.heap.size w z) := b0
  have HZS : Hid (z.heap.size = w.heap.size + 1 + 1 + 1 + 1) := by show _ = _; rw [hz]; simp
  obtain ⟨x0', x1', x2', x3'⟩ := X0.four
  clear hz hn hs0 hsm hq hq2 h1 h2 hl hl2
  go_enter Try.func42, Try.ntmps42
  go_upto_region 1 with fail
  rw [← HZ.out]
  go_wp2_with fail
  refine (l5Copy_any a1 a2 a3 a4 l1 l2 l3 l4 c1 c2 c3 c4 cs is hs rs _ HN.out.1 (HN.out.2.2.1.below b0) HN.out.2.1).mono ?_
  rintro e w1 ⟨x1, x2, x3, x4, d1, d2, d3, d4, rfl, o1, b'⟩
  have b1 := bel_next b0 b'
  have bz1 := b'
  have X1 := X0.below b'
  have Y1 := Y0.below b'
  have P1 := P0.below b'
  have Q1 := Q0.below b'
  have HG6 : Hid (z.heap.size ≤ w1.heap.size) := b'.size
  clear x0' x1' x2' x3' X0 Y0 P0 Q0 b0 b'
  have b' := bel_alloc w1 (.cells #[.slice x1 l1 d1, .slice x2 l2 d2, .slice x3 l3 d3, .slice x4 l4 d4] 27)
  have N' := Blk.new w1 #[.slice x1 l1 d1, .slice x2 l2 d2, .slice x3 l3 d3, .slice x4 l4 d4] 27
  obtain ⟨w2, hw2⟩ : ∃ x, x = w1.alloc (.cells #[.slice x1 l1 d1, .slice x2 l2 d2, .slice x3 l3 d3, .slice x4 l4 d4] 27) := ⟨_, rfl⟩
  rw [← hw2] at b' N'
  have HW2 : Hid (w2 = _) := hw2
  obtain ⟨G6, hBN⟩ : ∃ x, x = w1.heap.size := ⟨_, rfl⟩
  rw [← hBN] at N'
  have HBN : Hid (G6 = w1.heap.size) := hBN
  have S2 : ∀ G7 tc, G6 < G7 → Blk w2 G7 37 tc → True := fun _ _ _ _ => trivial
  have b2 := bel_next b1 b'
  have bz2 := bel_next bz1 b'
  have X2 := X1.below b'
  have Y2 := Y1.below b'
  have P2 := P1.below b'
  have Q2 := Q1.below b'
  have o2 := o1.below b'
  clear hw2 hBN b1 bz1 X1 Y1 P1 Q1 o1 b' S2
  obtain ⟨x0', x1', x2', x3'⟩ := X2.four
  go_upto_region 2 with fail
  rw [← HW2.out]
  simp only [← HBN.out]
  have HOK : Hid _ := hok
  have HD : Hid _ := hd
  clear hok hd
  go_wp2_with fail
  refine (specDeviceOk_any a1 a2 a3 a4 l1 l2 l3 l4 c1 c2 c3 c4 cs is hs rs _ HN.out.1 (HN.out.2.2.1.below b2) HN.out.2.1 true HD.out).mono ?_
  rintro e w3 ⟨rfl, b'⟩
  have b3 := bel_next b2 b'
  have bz3 := bel_next bz2 b'
  have X3 := X2.below b'
  have Y3 := Y2.below b'
  have P3 := P2.below b'
  have Q3 := Q2.below b'
  have N3 := N'.below b'
  have o3 := o2.below b'
  clear x0' x1' x2' x3' X2 Y2 P2 Q2 N' o2 b2 bz2 b'
  obtain ⟨x0', x1', x2', x3'⟩ := X3.four
  obtain ⟨y0', y1', y2', y3', y4', y5'⟩ := Y3.six
  go_wp2_with fail
  refine (specReqOk_q kd pl nn wa q1 q2 m1 m2 k1 k2 ws bs _ HQ.out.1 HQ.out.2.1 (HN.out.2.2.2.1.below b3) (HN.out.2.2.2.2.below b3) HQ.out.2.2.1 HQ.out.2.2.2).mono ?_
  rintro e w4 ⟨he, b'⟩
  rw [HOK.out] at he
  subst he
  have b4 := bel_next b3 b'
  have bz4 := bel_next bz3 b'
  have X4 := X3.below b'
  have Y4 := Y3.below b'
  have P4 := P3.below b'
  have Q4 := Q3.below b'
  have N4 := N3.below b'
  have o4 := o3.below b'
  clear x0' x1' x2' x3' y0' y1' y2' y3' y4' y5' X3 Y3 P3 Q3 N3 o3 b3 bz3 b'
  obtain ⟨x0', x1', x2', x3'⟩ := X4.four
  obtain ⟨y0', y1', y2', y3', y4', y5'⟩ := Y4.six
  obtain ⟨n0, n1, n2, n3⟩ := N4.four
  obtain ⟨p0', p1', p2', p3'⟩ := P4.four
  obtain ⟨q0', q1', q2', q3', q4', q5'⟩ := Q4.six
  have lN : w.heap.size + 1 + 1 + 1 + 1 ≤ G6 := by have := HZS.out; have := HG6.out; have := HBN.out; omega
  have e1 : ¬ (G6 = w.heap.size + 1 + 1) := by omega
  have e2 : ¬ (G6 = w.heap.size + 1 + 1 + 1) := by omega
  have e1' : ¬ (w.heap.size + 1 + 1 = G6) := by omega
  have e2' : ¬ (w.heap.size + 1 + 1 + 1 = G6) := by omega
  have e5 : ¬ (w.heap.size = w.heap.size + 1 + 1) := by omega
  have e5' : ¬ (w.heap.size + 1 + 1 = w.heap.size) := by omega
  have e3 : ¬ (w.heap.size + 1 = w.heap.size + 1 + 1) := by omega
  have e3' : ¬ (w.heap.size + 1 + 1 = w.heap.size + 1) := by omega
  have e4 : ¬ (w.heap.size + 1 = w.heap.size + 1 + 1 + 1) := by omega
  have e4' : ¬ (w.heap.size + 1 + 1 + 1 = w.heap.size + 1) := by omega
  go_upto_region 3 with fail
  have dz : Below w4.heap.size w4 w4.drew := (Below.refl _ _).drew
  go_region_held3 (fun w' => w'.cell? ⟨G6, 0, none⟩ = some (.slice x1 l1 d1) ∧ w'.cell? ⟨G6, 1, none⟩ = some (.slice x2 l2 d2) ∧ w'.cell? ⟨G6, 2, none⟩ = some (.slice x3 l3 d3) ∧ w'.cell? ⟨G6, 3, none⟩ = some (.slice x4 l4 d4) ∧ w'.cell? ⟨w.heap.size + 1, 0, none⟩ = some (.int .i64 kd) ∧ w'.cell? ⟨w.heap.size + 1, 1, none⟩ = some (.int .i64 pl) ∧ w'.cell? ⟨w.heap.size + 1, 2, none⟩ = some (.int .i64 nn) ∧ w'.cell? ⟨w.heap.size + 1, 3, none⟩ = some (.slice q1 m1 k1) ∧ w'.cell? ⟨w.heap.size + 1, 4, none⟩ = some (.slice q2 m2 k2) ∧ w'.cell? ⟨w.heap.size + 1, 5, none⟩ = some (.int .i64 wa)) (go_keep)
    (first | (go_at_call 69; refine (specFaultOf_q kd pl nn wa q1 q2 m1 m2 k1 k2 ws bs _ _ HQ.out.1 HQ.out.2.1 (HN.out.2.2.2.1.below (by first | exact b4 | exact b4.drew)) (HN.out.2.2.2.2.below (by first | exact b4 | exact b4.drew)) HQ.out.2.2.1 HQ.out.2.2.2).mono ?_; rintro e w7 ⟨he, b'⟩; have he' : e = .returned (rp 0 0 0 0 none none 0 0 0 0) := (by rw [HOK.out] at he; exact he); subst he'; clear he; have B7 : Below w4.heap.size w4 w7 := (by first | exact b' | exact bel_next dz b'); obtain ⟨n0q, n1q, n2q, n3q⟩ := (N4.below B7).four; obtain ⟨y0q, y1q, y2q, y3q, y4q, y5q⟩ := (Y4.below B7).six; have PB := P4.below B7; have QB := Q4.below B7; obtain ⟨p0q, p1q, p2q, p3q⟩ := PB.four; obtain ⟨q0q, q1q, q2q, q3q, q4q, q5q⟩ := QB.six; have fp0 := PB.fro 0; have fp1 := PB.fro 1; have fp2 := PB.fro 2; have fp3 := PB.fro 3; have fq0 := QB.fro 0; have fq1 := QB.fro 1; have fq2 := QB.fro 2; have fq3 := QB.fro 3; have fq4 := QB.fro 4; have fq5 := QB.fro 5; clear b'))
  all_goals (
    obtain ⟨W5, hW5⟩ : ∃ x, x = ((((((((((w7.setCell ⟨w.heap.size + 1 + 1, 0, none⟩ (.slice x1 l1 d1)).setCell ⟨w.heap.size + 1 + 1, 1, none⟩ (.slice x2 l2 d2)).setCell ⟨w.heap.size + 1 + 1, 2, none⟩ (.slice x3 l3 d3)).setCell ⟨w.heap.size + 1 + 1, 3, none⟩ (.slice x4 l4 d4)).setCell ⟨w.heap.size + 1 + 1 + 1, 0, none⟩ (.int .i64 (0))).setCell ⟨w.heap.size + 1 + 1 + 1, 1, none⟩ (.int .i64 (0))).setCell ⟨w.heap.size + 1 + 1 + 1, 2, none⟩ (.int .i64 0)).setCell ⟨w.heap.size + 1 + 1 + 1, 3, none⟩ (.int .i64 0)).setCell ⟨w.heap.size + 1 + 1 + 1, 4, none⟩ (.slice none 0 0)).setCell ⟨w.heap.size + 1 + 1 + 1, 5, none⟩ (.slice none 0 0)) := ⟨_, rfl⟩
    have HW5 : Hid (W5 = _) := hW5
    have HF : Hid (OwnD W5 w.heap.size x1 x2 x3 x4 l1 l2 l3 l4 d1 d2 d3 d4 cs is hs rs ∧ Below w.heap.size w W5) := by
      have o1 := (o4.below B7).mono (B' := w.heap.size) (by have := HZS.out; omega)
      have o6 : ExB w7 (w.heap.size + 1 + 1 + 1) 37 := ⟨_, QB⟩
      have o5 : ExB w7 (w.heap.size + 1 + 1) 27 := ⟨_, PB⟩
      have x6 : ∀ v0 v1 v2 v3 : Value, ExB ((((w7.setCell ⟨w.heap.size + 1 + 1, 0, none⟩ v0).setCell ⟨w.heap.size + 1 + 1, 1, none⟩ v1).setCell ⟨w.heap.size + 1 + 1, 2, none⟩ v2).setCell ⟨w.heap.size + 1 + 1, 3, none⟩ v3) (w.heap.size + 1 + 1 + 1) 37 := fun _ _ _ _ => ExB.set (ExB.set (ExB.set (ExB.set o6)))
      rw [hW5]
      exact ⟨(o1.set4 o5 (by decide) (by decide)).set6 (x6 _ _ _ _) (by decide) (by decide), belp_set6 (bel_set4 (bel_next b4 B7) (by omega)) (by omega)⟩
    have HPQ : Hid (Blk W5 (w.heap.size + 1 + 1) 27 #[.slice x1 l1 d1, .slice x2 l2 d2, .slice x3 l3 d3, .slice x4 l4 d4] ∧ Blk W5 (w.heap.size + 1 + 1 + 1) 37 #[.int .i64 (0), .int .i64 (0), .int .i64 0, .int .i64 0, .slice none 0 0, .slice none 0 0]) := by
      have a1' := (((PB.set 0 (.slice x1 l1 d1)).set 1 (.slice x2 l2 d2)).set 2 (.slice x3 l3 d3)).set 3 (.slice x4 l4 d4)
      have a2' := (((((a1'.setNe (g' := w.heap.size + 1 + 1 + 1) (j := 0) (y := .int .i64 (0)) (by omega)).setNe (g' := w.heap.size + 1 + 1 + 1) (j := 1) (y := .int .i64 (0)) (by omega)).setNe (g' := w.heap.size + 1 + 1 + 1) (j := 2) (y := .int .i64 0) (by omega)).setNe (g' := w.heap.size + 1 + 1 + 1) (j := 3) (y := .int .i64 0) (by omega)).setNe (g' := w.heap.size + 1 + 1 + 1) (j := 4) (y := .slice none 0 0) (by omega)).setNe (g' := w.heap.size + 1 + 1 + 1) (j := 5) (y := .slice none 0 0) (by omega)
      have c1' := (((QB.setNe (g' := w.heap.size + 1 + 1) (j := 0) (y := .slice x1 l1 d1) (by omega)).setNe (g' := w.heap.size + 1 + 1) (j := 1) (y := .slice x2 l2 d2) (by omega)).setNe (g' := w.heap.size + 1 + 1) (j := 2) (y := .slice x3 l3 d3) (by omega)).setNe (g' := w.heap.size + 1 + 1) (j := 3) (y := .slice x4 l4 d4) (by omega)
      have c2' := (((((c1'.set 0 (.int .i64 (0))).set 1 (.int .i64 (0))).set 2 (.int .i64 0)).set 3 (.int .i64 0)).set 4 (.slice none 0 0)).set 5 (.slice none 0 0)
      rw [hW5]
      exact ⟨a2', c2'⟩
    clear hW5
    have HAp : Hid (∀ g, (Of4 (.slice x1 l1 d1) (.slice x2 l2 d2) (.slice x3 l3 d3) (.slice x4 l4 d4)) g → ¬ Of2 (.slice none 0 0) (.slice none 0 0) g) := (by intro g _ h2; rcases h2 with h2 | h2 <;> cases h2)
    first | rw [← HW5.out] | skip
    obtain ⟨u0, u1, u2, u3⟩ := HPQ.out.1.four
    obtain ⟨v0, v1, v2, v3, v4, v5⟩ := HPQ.out.2.six
    clear p0' p1' p2' p3' q0' q1' q2' q3' q4' q5' fp0 fp1 fp2 fp3 fq0 fq1 fq2 fq3 fq4 fq5 n0 n1 n2 n3 p0q p1q p2q p3q q0q q1q q2q q3q q4q q5q n0q n1q n2q n3q y0q y1q y2q y3q y4q y5q
    go_wp2
    refine bodyPost_ret (v := .tuple #[dv x1 x2 x3 x4 l1 l2 l3 l4 d1 d2 d3 d4, rp (0) (0) 0 0 none none 0 0 0 0]) (by simp [results, Try.results42, go_sem, u0, u1, u2, u3, v0, v1, v2, v3, v4, v5]) rfl ?_
    obtain ⟨o1, o4⟩ := HF.out
    exact ⟨_, _, _, _, _, _, _, _, _, _, _, _, _, _, _, _, _, _, rfl, by first | exact o1 | exact o1.drew, ownI_nil0 _ _, ownB_nil0 _ _, HAp.out, by first | exact o4 | exact o4.drew⟩)
set_option maxRecDepth 20000 in
set_option maxHeartbeats 4000000 in
theorem specServe_no2 (a1 a2 a3 a4 : Option Addr) (l1 l2 l3 l4 c1 c2 c3 c4 : Nat) (cs is : List Bool) (hs rs : List Int) (kd pl nn wa : Int) (q1 q2 : Option Addr) (m1 m2 k1 k2 : Nat) (ws : List Int) (bs : List Bool) (w : World) (hn : LnD l1 l2 l3 l4 cs is hs rs) (hs0 : SlD w a1 a2 a3 a4 cs is hs rs) (hsm : SmD 2000000 cs is hs rs) (hq : SlI w q1 ws) (hq2 : SlB w q2 bs) (h1 : m1 = ws.length) (h2 : m2 = bs.length) (hl : ws.length ≤ 2000000) (hl2 : bs.length ≤ 2000000) (hok : okR kd pl nn wa ws m1 m2 = false) (hd : okD l1 l2 l3 l4 hs rs = false) :
    Calls Try.prog 42 #[dv a1 a2 a3 a4 l1 l2 l3 l4 c1 c2 c3 c4, .agg #[.int .i64 kd, .int .i64 pl, .int .i64 nn, .slice q1 m1 k1, .slice q2 m2 k2, .int .i64 wa]] w fun e w' => SR w w' e cs is hs rs 0 0 0 0 [] [] := by
  obtain ⟨z, hz⟩ : ∃ z, z = (((w.alloc (.cells #[.slice a1 l1 c1, .slice a2 l2 c2, .slice a3 l3 c3, .slice a4 l4 c4] 27)).alloc (.cells #[.int .i64 kd, .int .i64 pl, .int .i64 nn, .slice q1 m1 k1, .slice q2 m2 k2, .int .i64 wa] 57)).alloc (.cells #[.slice none 0 0, .slice none 0 0, .slice none 0 0, .slice none 0 0] 27)).alloc (.cells #[.int .i64 0, .int .i64 0, .int .i64 0, .int .i64 0, .slice none 0 0, .slice none 0 0] 37) := ⟨_, rfl⟩
  have HZ : Hid (z = _) := hz
  have b0 : Below w.heap.size w z := by rw [hz]; exact bel_next (bel_next (bel_next (bel_alloc w _) (bel_alloc _ _)) (bel_alloc _ _)) (bel_alloc _ _)
  have X0 : Blk z w.heap.size 27 #[.slice a1 l1 c1, .slice a2 l2 c2, .slice a3 l3 c3, .slice a4 l4 c4] := by rw [hz]; exact (((Blk.new w _ _).below (bel_alloc _ _)).below (bel_alloc _ _)).below (bel_alloc _ _)
  have Y0 : Blk z (w.heap.size + 1) 57 #[.int .i64 kd, .int .i64 pl, .int .i64 nn, .slice q1 m1 k1, .slice q2 m2 k2, .int .i64 wa] := by rw [hz]; have := ((Blk.new (w.alloc (.cells #[.slice a1 l1 c1, .slice a2 l2 c2, .slice a3 l3 c3, .slice a4 l4 c4] 27)) #[.int .i64 kd, .int .i64 pl, .int .i64 nn, .slice q1 m1 k1, .slice q2 m2 k2, .int .i64 wa] 57).below (bel_alloc _ (.cells #[.slice none 0 0, .slice none 0 0, .slice none 0 0, .slice none 0 0] 27))).below (bel_alloc _ (.cells #[.int .i64 0, .int .i64 0, .int .i64 0, .int .i64 0, .slice none 0 0, .slice none 0 0] 37)); simpa using this
  have P0 : Blk z (w.heap.size + 1 + 1) 27 #[.slice none 0 0, .slice none 0 0, .slice none 0 0, .slice none 0 0] := by rw [hz]; have := (Blk.new ((w.alloc (.cells #[.slice a1 l1 c1, .slice a2 l2 c2, .slice a3 l3 c3, .slice a4 l4 c4] 27)).alloc (.cells #[.int .i64 kd, .int .i64 pl, .int .i64 nn, .slice q1 m1 k1, .slice q2 m2 k2, .int .i64 wa] 57)) #[.slice none 0 0, .slice none 0 0, .slice none 0 0, .slice none 0 0] 27).below (bel_alloc _ (.cells #[.int .i64 0, .int .i64 0, .int .i64 0, .int .i64 0, .slice none 0 0, .slice none 0 0] 37)); simpa using this
  have Q0 : Blk z (w.heap.size + 1 + 1 + 1) 37 #[.int .i64 0, .int .i64 0, .int .i64 0, .int .i64 0, .slice none 0 0, .slice none 0 0] := by rw [hz]; have := Blk.new (((w.alloc (.cells #[.slice a1 l1 c1, .slice a2 l2 c2, .slice a3 l3 c3, .slice a4 l4 c4] 27)).alloc (.cells #[.int .i64 kd, .int .i64 pl, .int .i64 nn, .slice q1 m1 k1, .slice q2 m2 k2, .int .i64 wa] 57)).alloc (.cells #[.slice none 0 0, .slice none 0 0, .slice none 0 0, .slice none 0 0] 27)) #[.int .i64 0, .int .i64 0, .int .i64 0, .int .i64 0, .slice none 0 0, .slice none 0 0] 37; simpa using this
  have HN : Hid (LnD l1 l2 l3 l4 cs is hs rs ∧ SmD 2000000 cs is hs rs ∧ SlD w a1 a2 a3 a4 cs is hs rs ∧ SlI w q1 ws ∧ SlB w q2 bs) := ⟨hn, hsm, hs0, hq, hq2⟩
  have HQ : Hid (m1 = ws.length ∧ m2 = bs.length ∧ ws.length ≤ 2000000 ∧ bs.length ≤ 2000000) := ⟨h1, h2, hl, hl2⟩
  have HB0 : Hid (Below w.heap.size w z) := b0
  have HZS : Hid (z.heap.size = w.heap.size + 1 + 1 + 1 + 1) := by show _ = _; rw [hz]; simp
  obtain ⟨x0', x1', x2', x3'⟩ := X0.four
  clear hz hn hs0 hsm hq hq2 h1 h2 hl hl2
  go_enter Try.func42, Try.ntmps42
  go_upto_region 1 with fail
  rw [← HZ.out]
  go_wp2_with fail
  refine (l5Copy_any a1 a2 a3 a4 l1 l2 l3 l4 c1 c2 c3 c4 cs is hs rs _ HN.out.1 (HN.out.2.2.1.below b0) HN.out.2.1).mono ?_
  rintro e w1 ⟨x1, x2, x3, x4, d1, d2, d3, d4, rfl, o1, b'⟩
  have b1 := bel_next b0 b'
  have bz1 := b'
  have X1 := X0.below b'
  have Y1 := Y0.below b'
  have P1 := P0.below b'
  have Q1 := Q0.below b'
  have HG6 : Hid (z.heap.size ≤ w1.heap.size) := b'.size
  clear x0' x1' x2' x3' X0 Y0 P0 Q0 b0 b'
  have b' := bel_alloc w1 (.cells #[.slice x1 l1 d1, .slice x2 l2 d2, .slice x3 l3 d3, .slice x4 l4 d4] 27)
  have N' := Blk.new w1 #[.slice x1 l1 d1, .slice x2 l2 d2, .slice x3 l3 d3, .slice x4 l4 d4] 27
  obtain ⟨w2, hw2⟩ : ∃ x, x = w1.alloc (.cells #[.slice x1 l1 d1, .slice x2 l2 d2, .slice x3 l3 d3, .slice x4 l4 d4] 27) := ⟨_, rfl⟩
  rw [← hw2] at b' N'
  have HW2 : Hid (w2 = _) := hw2
  obtain ⟨G6, hBN⟩ : ∃ x, x = w1.heap.size := ⟨_, rfl⟩
  rw [← hBN] at N'
  have HBN : Hid (G6 = w1.heap.size) := hBN
  have S2 : ∀ G7 tc, G6 < G7 → Blk w2 G7 37 tc → True := fun _ _ _ _ => trivial
  have b2 := bel_next b1 b'
  have bz2 := bel_next bz1 b'
  have X2 := X1.below b'
  have Y2 := Y1.below b'
  have P2 := P1.below b'
  have Q2 := Q1.below b'
  have o2 := o1.below b'
  clear hw2 hBN b1 bz1 X1 Y1 P1 Q1 o1 b' S2
  obtain ⟨x0', x1', x2', x3'⟩ := X2.four
  go_upto_region 2 with fail
  rw [← HW2.out]
  simp only [← HBN.out]
  have HOK : Hid _ := hok
  have HD : Hid _ := hd
  clear hok hd
  go_wp2_with fail
  refine (specDeviceOk_any a1 a2 a3 a4 l1 l2 l3 l4 c1 c2 c3 c4 cs is hs rs _ HN.out.1 (HN.out.2.2.1.below b2) HN.out.2.1 false HD.out).mono ?_
  rintro e w3 ⟨rfl, b'⟩
  have b3 := bel_next b2 b'
  have bz3 := bel_next bz2 b'
  have X3 := X2.below b'
  have Y3 := Y2.below b'
  have P3 := P2.below b'
  have Q3 := Q2.below b'
  have N3 := N'.below b'
  have o3 := o2.below b'
  clear x0' x1' x2' x3' X2 Y2 P2 Q2 N' o2 b2 bz2 b'
  obtain ⟨x0', x1', x2', x3'⟩ := X3.four
  obtain ⟨y0', y1', y2', y3', y4', y5'⟩ := Y3.six
  obtain ⟨n0, n1, n2, n3⟩ := N3.four
  obtain ⟨p0', p1', p2', p3'⟩ := P3.four
  obtain ⟨q0', q1', q2', q3', q4', q5'⟩ := Q3.six
  have lN : w.heap.size + 1 + 1 + 1 + 1 ≤ G6 := by have := HZS.out; have := HG6.out; have := HBN.out; omega
  have e1 : ¬ (G6 = w.heap.size + 1 + 1) := by omega
  have e2 : ¬ (G6 = w.heap.size + 1 + 1 + 1) := by omega
  have e1' : ¬ (w.heap.size + 1 + 1 = G6) := by omega
  have e2' : ¬ (w.heap.size + 1 + 1 + 1 = G6) := by omega
  have e5 : ¬ (w.heap.size = w.heap.size + 1 + 1) := by omega
  have e5' : ¬ (w.heap.size + 1 + 1 = w.heap.size) := by omega
  have e3 : ¬ (w.heap.size + 1 = w.heap.size + 1 + 1) := by omega
  have e3' : ¬ (w.heap.size + 1 + 1 = w.heap.size + 1) := by omega
  have e4 : ¬ (w.heap.size + 1 = w.heap.size + 1 + 1 + 1) := by omega
  have e4' : ¬ (w.heap.size + 1 + 1 + 1 = w.heap.size + 1) := by omega
  go_upto_region 3 with fail
  have dz : Below w3.heap.size w3 w3.drew := (Below.refl _ _).drew
  go_region_held3 (fun w' => w'.cell? ⟨G6, 0, none⟩ = some (.slice x1 l1 d1) ∧ w'.cell? ⟨G6, 1, none⟩ = some (.slice x2 l2 d2) ∧ w'.cell? ⟨G6, 2, none⟩ = some (.slice x3 l3 d3) ∧ w'.cell? ⟨G6, 3, none⟩ = some (.slice x4 l4 d4) ∧ w'.cell? ⟨w.heap.size + 1, 0, none⟩ = some (.int .i64 kd) ∧ w'.cell? ⟨w.heap.size + 1, 1, none⟩ = some (.int .i64 pl) ∧ w'.cell? ⟨w.heap.size + 1, 2, none⟩ = some (.int .i64 nn) ∧ w'.cell? ⟨w.heap.size + 1, 3, none⟩ = some (.slice q1 m1 k1) ∧ w'.cell? ⟨w.heap.size + 1, 4, none⟩ = some (.slice q2 m2 k2) ∧ w'.cell? ⟨w.heap.size + 1, 5, none⟩ = some (.int .i64 wa)) (go_keep)
    (first | (go_at_call 69; refine (specFaultOf_q kd pl nn wa q1 q2 m1 m2 k1 k2 ws bs _ _ HQ.out.1 HQ.out.2.1 (HN.out.2.2.2.1.below (by first | exact b3 | exact b3.drew)) (HN.out.2.2.2.2.below (by first | exact b3 | exact b3.drew)) HQ.out.2.2.1 HQ.out.2.2.2).mono ?_; rintro e w7 ⟨he, b'⟩; have he' : e = .returned (rp 0 0 0 0 none none 0 0 0 0) := (by rw [HOK.out] at he; exact he); subst he'; clear he; have B7 : Below w3.heap.size w3 w7 := (by first | exact b' | exact bel_next dz b'); obtain ⟨n0q, n1q, n2q, n3q⟩ := (N3.below B7).four; obtain ⟨y0q, y1q, y2q, y3q, y4q, y5q⟩ := (Y3.below B7).six; have PB := P3.below B7; have QB := Q3.below B7; obtain ⟨p0q, p1q, p2q, p3q⟩ := PB.four; obtain ⟨q0q, q1q, q2q, q3q, q4q, q5q⟩ := QB.six; have fp0 := PB.fro 0; have fp1 := PB.fro 1; have fp2 := PB.fro 2; have fp3 := PB.fro 3; have fq0 := QB.fro 0; have fq1 := QB.fro 1; have fq2 := QB.fro 2; have fq3 := QB.fro 3; have fq4 := QB.fro 4; have fq5 := QB.fro 5; clear b'))
  all_goals (
    obtain ⟨W5, hW5⟩ : ∃ x, x = ((((((((((w7.setCell ⟨w.heap.size + 1 + 1, 0, none⟩ (.slice x1 l1 d1)).setCell ⟨w.heap.size + 1 + 1, 1, none⟩ (.slice x2 l2 d2)).setCell ⟨w.heap.size + 1 + 1, 2, none⟩ (.slice x3 l3 d3)).setCell ⟨w.heap.size + 1 + 1, 3, none⟩ (.slice x4 l4 d4)).setCell ⟨w.heap.size + 1 + 1 + 1, 0, none⟩ (.int .i64 (0))).setCell ⟨w.heap.size + 1 + 1 + 1, 1, none⟩ (.int .i64 (0))).setCell ⟨w.heap.size + 1 + 1 + 1, 2, none⟩ (.int .i64 0)).setCell ⟨w.heap.size + 1 + 1 + 1, 3, none⟩ (.int .i64 0)).setCell ⟨w.heap.size + 1 + 1 + 1, 4, none⟩ (.slice none 0 0)).setCell ⟨w.heap.size + 1 + 1 + 1, 5, none⟩ (.slice none 0 0)) := ⟨_, rfl⟩
    have HW5 : Hid (W5 = _) := hW5
    have HF : Hid (OwnD W5 w.heap.size x1 x2 x3 x4 l1 l2 l3 l4 d1 d2 d3 d4 cs is hs rs ∧ Below w.heap.size w W5) := by
      have o1 := (o3.below B7).mono (B' := w.heap.size) (by have := HZS.out; omega)
      have o6 : ExB w7 (w.heap.size + 1 + 1 + 1) 37 := ⟨_, QB⟩
      have o5 : ExB w7 (w.heap.size + 1 + 1) 27 := ⟨_, PB⟩
      have x6 : ∀ v0 v1 v2 v3 : Value, ExB ((((w7.setCell ⟨w.heap.size + 1 + 1, 0, none⟩ v0).setCell ⟨w.heap.size + 1 + 1, 1, none⟩ v1).setCell ⟨w.heap.size + 1 + 1, 2, none⟩ v2).setCell ⟨w.heap.size + 1 + 1, 3, none⟩ v3) (w.heap.size + 1 + 1 + 1) 37 := fun _ _ _ _ => ExB.set (ExB.set (ExB.set (ExB.set o6)))
      rw [hW5]
      exact ⟨(o1.set4 o5 (by decide) (by decide)).set6 (x6 _ _ _ _) (by decide) (by decide), belp_set6 (bel_set4 (bel_next b3 B7) (by omega)) (by omega)⟩
    have HPQ : Hid (Blk W5 (w.heap.size + 1 + 1) 27 #[.slice x1 l1 d1, .slice x2 l2 d2, .slice x3 l3 d3, .slice x4 l4 d4] ∧ Blk W5 (w.heap.size + 1 + 1 + 1) 37 #[.int .i64 (0), .int .i64 (0), .int .i64 0, .int .i64 0, .slice none 0 0, .slice none 0 0]) := by
      have a1' := (((PB.set 0 (.slice x1 l1 d1)).set 1 (.slice x2 l2 d2)).set 2 (.slice x3 l3 d3)).set 3 (.slice x4 l4 d4)
      have a2' := (((((a1'.setNe (g' := w.heap.size + 1 + 1 + 1) (j := 0) (y := .int .i64 (0)) (by omega)).setNe (g' := w.heap.size + 1 + 1 + 1) (j := 1) (y := .int .i64 (0)) (by omega)).setNe (g' := w.heap.size + 1 + 1 + 1) (j := 2) (y := .int .i64 0) (by omega)).setNe (g' := w.heap.size + 1 + 1 + 1) (j := 3) (y := .int .i64 0) (by omega)).setNe (g' := w.heap.size + 1 + 1 + 1) (j := 4) (y := .slice none 0 0) (by omega)).setNe (g' := w.heap.size + 1 + 1 + 1) (j := 5) (y := .slice none 0 0) (by omega)
      have c1' := (((QB.setNe (g' := w.heap.size + 1 + 1) (j := 0) (y := .slice x1 l1 d1) (by omega)).setNe (g' := w.heap.size + 1 + 1) (j := 1) (y := .slice x2 l2 d2) (by omega)).setNe (g' := w.heap.size + 1 + 1) (j := 2) (y := .slice x3 l3 d3) (by omega)).setNe (g' := w.heap.size + 1 + 1) (j := 3) (y := .slice x4 l4 d4) (by omega)
      have c2' := (((((c1'.set 0 (.int .i64 (0))).set 1 (.int .i64 (0))).set 2 (.int .i64 0)).set 3 (.int .i64 0)).set 4 (.slice none 0 0)).set 5 (.slice none 0 0)
      rw [hW5]
      exact ⟨a2', c2'⟩
    clear hW5
    have HAp : Hid (∀ g, (Of4 (.slice x1 l1 d1) (.slice x2 l2 d2) (.slice x3 l3 d3) (.slice x4 l4 d4)) g → ¬ Of2 (.slice none 0 0) (.slice none 0 0) g) := (by intro g _ h2; rcases h2 with h2 | h2 <;> cases h2)
    first | rw [← HW5.out] | skip
    obtain ⟨u0, u1, u2, u3⟩ := HPQ.out.1.four
    obtain ⟨v0, v1, v2, v3, v4, v5⟩ := HPQ.out.2.six
    clear p0' p1' p2' p3' q0' q1' q2' q3' q4' q5' fp0 fp1 fp2 fp3 fq0 fq1 fq2 fq3 fq4 fq5 n0 n1 n2 n3 p0q p1q p2q p3q q0q q1q q2q q3q q4q q5q n0q n1q n2q n3q y0q y1q y2q y3q y4q y5q
    go_wp2
    refine bodyPost_ret (v := .tuple #[dv x1 x2 x3 x4 l1 l2 l3 l4 d1 d2 d3 d4, rp (0) (0) 0 0 none none 0 0 0 0]) (by simp [results, Try.results42, go_sem, u0, u1, u2, u3, v0, v1, v2, v3, v4, v5]) rfl ?_
    obtain ⟨o1, o4⟩ := HF.out
    exact ⟨_, _, _, _, _, _, _, _, _, _, _, _, _, _, _, _, _, _, rfl, by first | exact o1 | exact o1.drew, ownI_nil0 _ _, ownB_nil0 _ _, HAp.out, by first | exact o4 | exact o4.drew⟩)
end Go.Proofs.Ytfdddkjonjpgpaa
namespace Go.Proofs.Ytfdddkjonjpgpaa
open Go.RowKit
set_option linter.unusedVariables false
set_option linter.unusedSimpArgs false
set_option maxRecDepth 20000 in
set_option maxHeartbeats 4000000 in
theorem specServe_at (a1 a2 a3 a4 : Option Addr) (l1 l2 l3 l4 c1 c2 c3 c4 : Nat) (cs is : List Bool) (hs rs : List Int) (kd pl nn wa : Int) (q1 q2 : Option Addr) (m1 m2 k1 k2 : Nat) (ws : List Int) (bs : List Bool) (w : World) (hn : LnD l1 l2 l3 l4 cs is hs rs) (hs0 : SlD w a1 a2 a3 a4 cs is hs rs) (hsm : SmD 2000000 cs is hs rs) (hq : SlI w q1 ws) (hq2 : SlB w q2 bs) (h1 : m1 = ws.length) (h2 : m2 = bs.length) (hl : ws.length ≤ 2000000) (hl2 : bs.length ≤ 2000000) (hok : okR kd pl nn wa ws m1 m2 = true) (hd : okD l1 l2 l3 l4 hs rs = true) (hal : svAll l1 l2 l3 l4 kd pl nn wa m1 m2 = false) :
    Calls Try.prog 42 #[dv a1 a2 a3 a4 l1 l2 l3 l4 c1 c2 c3 c4, .agg #[.int .i64 kd, .int .i64 pl, .int .i64 nn, .slice q1 m1 k1, .slice q2 m2 k2, .int .i64 wa]] w fun e w' => SR w w' e cs is hs rs kd 2 0 0 [] [] := by
  obtain ⟨z, hz⟩ : ∃ z, z = (((w.alloc (.cells #[.slice a1 l1 c1, .slice a2 l2 c2, .slice a3 l3 c3, .slice a4 l4 c4] 27)).alloc (.cells #[.int .i64 kd, .int .i64 pl, .int .i64 nn, .slice q1 m1 k1, .slice q2 m2 k2, .int .i64 wa] 57)).alloc (.cells #[.slice none 0 0, .slice none 0 0, .slice none 0 0, .slice none 0 0] 27)).alloc (.cells #[.int .i64 0, .int .i64 0, .int .i64 0, .int .i64 0, .slice none 0 0, .slice none 0 0] 37) := ⟨_, rfl⟩
  have HZ : Hid (z = _) := hz
  have b0 : Below w.heap.size w z := by rw [hz]; exact bel_next (bel_next (bel_next (bel_alloc w _) (bel_alloc _ _)) (bel_alloc _ _)) (bel_alloc _ _)
  have X0 : Blk z w.heap.size 27 #[.slice a1 l1 c1, .slice a2 l2 c2, .slice a3 l3 c3, .slice a4 l4 c4] := by rw [hz]; exact (((Blk.new w _ _).below (bel_alloc _ _)).below (bel_alloc _ _)).below (bel_alloc _ _)
  have Y0 : Blk z (w.heap.size + 1) 57 #[.int .i64 kd, .int .i64 pl, .int .i64 nn, .slice q1 m1 k1, .slice q2 m2 k2, .int .i64 wa] := by rw [hz]; have := ((Blk.new (w.alloc (.cells #[.slice a1 l1 c1, .slice a2 l2 c2, .slice a3 l3 c3, .slice a4 l4 c4] 27)) #[.int .i64 kd, .int .i64 pl, .int .i64 nn, .slice q1 m1 k1, .slice q2 m2 k2, .int .i64 wa] 57).below (bel_alloc _ (.cells #[.slice none 0 0, .slice none 0 0, .slice none 0 0, .slice none 0 0] 27))).below (bel_alloc _ (.cells #[.int .i64 0, .int .i64 0, .int .i64 0, .int .i64 0, .slice none 0 0, .slice none 0 0] 37)); simpa using this
  have P0 : Blk z (w.heap.size + 1 + 1) 27 #[.slice none 0 0, .slice none 0 0, .slice none 0 0, .slice none 0 0] := by rw [hz]; have := (Blk.new ((w.alloc (.cells #[.slice a1 l1 c1, .slice a2 l2 c2, .slice a3 l3 c3, .slice a4 l4 c4] 27)).alloc (.cells #[.int .i64 kd, .int .i64 pl, .int .i64 nn, .slice q1 m1 k1, .slice q2 m2 k2, .int .i64 wa] 57)) #[.slice none 0 0, .slice none 0 0, .slice none 0 0, .slice none 0 0] 27).below (bel_alloc _ (.cells #[.int .i64 0, .int .i64 0, .int .i64 0, .int .i64 0, .slice none 0 0, .slice none 0 0] 37)); simpa using this
  have Q0 : Blk z (w.heap.size + 1 + 1 + 1) 37 #[.int .i64 0, .int .i64 0, .int .i64 0, .int .i64 0, .slice none 0 0, .slice none 0 0] := by rw [hz]; have := Blk.new (((w.alloc (.cells #[.slice a1 l1 c1, .slice a2 l2 c2, .slice a3 l3 c3, .slice a4 l4 c4] 27)).alloc (.cells #[.int .i64 kd, .int .i64 pl, .int .i64 nn, .slice q1 m1 k1, .slice q2 m2 k2, .int .i64 wa] 57)).alloc (.cells #[.slice none 0 0, .slice none 0 0, .slice none 0 0, .slice none 0 0] 27)) #[.int .i64 0, .int .i64 0, .int .i64 0, .int .i64 0, .slice none 0 0, .slice none 0 0] 37; simpa using this
  have HN : Hid (LnD l1 l2 l3 l4 cs is hs rs ∧ SmD 2000000 cs is hs rs ∧ SlD w a1 a2 a3 a4 cs is hs rs ∧ SlI w q1 ws ∧ SlB w q2 bs) := ⟨hn, hsm, hs0, hq, hq2⟩
  have HQ : Hid (m1 = ws.length ∧ m2 = bs.length ∧ ws.length ≤ 2000000 ∧ bs.length ≤ 2000000) := ⟨h1, h2, hl, hl2⟩
  have HB0 : Hid (Below w.heap.size w z) := b0
  have HZS : Hid (z.heap.size = w.heap.size + 1 + 1 + 1 + 1) := by show _ = _; rw [hz]; simp
  obtain ⟨x0', x1', x2', x3'⟩ := X0.four
  clear hz hn hs0 hsm hq hq2 h1 h2 hl hl2
  go_enter Try.func42, Try.ntmps42
  go_upto_region 1 with fail
  rw [← HZ.out]
  go_wp2_with fail
  refine (l5Copy_any a1 a2 a3 a4 l1 l2 l3 l4 c1 c2 c3 c4 cs is hs rs _ HN.out.1 (HN.out.2.2.1.below b0) HN.out.2.1).mono ?_
  rintro e w1 ⟨x1, x2, x3, x4, d1, d2, d3, d4, rfl, o1, b'⟩
  have b1 := bel_next b0 b'
  have bz1 := b'
  have X1 := X0.below b'
  have Y1 := Y0.below b'
  have P1 := P0.below b'
  have Q1 := Q0.below b'
  have HG6 : Hid (z.heap.size ≤ w1.heap.size) := b'.size
  clear x0' x1' x2' x3' X0 Y0 P0 Q0 b0 b'
  have b' := bel_alloc w1 (.cells #[.slice x1 l1 d1, .slice x2 l2 d2, .slice x3 l3 d3, .slice x4 l4 d4] 27)
  have N' := Blk.new w1 #[.slice x1 l1 d1, .slice x2 l2 d2, .slice x3 l3 d3, .slice x4 l4 d4] 27
  obtain ⟨w2, hw2⟩ : ∃ x, x = w1.alloc (.cells #[.slice x1 l1 d1, .slice x2 l2 d2, .slice x3 l3 d3, .slice x4 l4 d4] 27) := ⟨_, rfl⟩
  rw [← hw2] at b' N'
  have HW2 : Hid (w2 = _) := hw2
  obtain ⟨G6, hBN⟩ : ∃ x, x = w1.heap.size := ⟨_, rfl⟩
  rw [← hBN] at N'
  have HBN : Hid (G6 = w1.heap.size) := hBN
  have S2 : ∀ G7 tc, G6 < G7 → Blk w2 G7 37 tc → True := fun _ _ _ _ => trivial
  have b2 := bel_next b1 b'
  have bz2 := bel_next bz1 b'
  have X2 := X1.below b'
  have Y2 := Y1.below b'
  have P2 := P1.below b'
  have Q2 := Q1.below b'
  have o2 := o1.below b'
  clear hw2 hBN b1 bz1 X1 Y1 P1 Q1 o1 b' S2
  obtain ⟨x0', x1', x2', x3'⟩ := X2.four
  go_upto_region 2 with fail
  rw [← HW2.out]
  simp only [← HBN.out]
  have HOK : Hid _ := hok
  have HD : Hid _ := hd
  clear hok hd
  have HAL : Hid _ := hal
  have HLM : Hid (l1 ≤ 2000000 ∧ l2 ≤ 2000000 ∧ l3 ≤ 2000000 ∧ l4 ≤ 2000000) := by have := okD_len HD.out; show _ ∧ _ ∧ _ ∧ _; omega
  clear hal
  go_wp2_with fail
  refine (specDeviceOk_any a1 a2 a3 a4 l1 l2 l3 l4 c1 c2 c3 c4 cs is hs rs _ HN.out.1 (HN.out.2.2.1.below b2) HN.out.2.1 true HD.out).mono ?_
  rintro e w3 ⟨rfl, b'⟩
  have b3 := bel_next b2 b'
  have bz3 := bel_next bz2 b'
  have X3 := X2.below b'
  have Y3 := Y2.below b'
  have P3 := P2.below b'
  have Q3 := Q2.below b'
  have N3 := N'.below b'
  have o3 := o2.below b'
  clear x0' x1' x2' x3' X2 Y2 P2 Q2 N' o2 b2 bz2 b'
  obtain ⟨x0', x1', x2', x3'⟩ := X3.four
  obtain ⟨y0', y1', y2', y3', y4', y5'⟩ := Y3.six
  go_wp2_with fail
  refine (specReqOk_q kd pl nn wa q1 q2 m1 m2 k1 k2 ws bs _ HQ.out.1 HQ.out.2.1 (HN.out.2.2.2.1.below b3) (HN.out.2.2.2.2.below b3) HQ.out.2.2.1 HQ.out.2.2.2).mono ?_
  rintro e w4 ⟨he, b'⟩
  rw [HOK.out] at he
  subst he
  have b4 := bel_next b3 b'
  have bz4 := bel_next bz3 b'
  have X4 := X3.below b'
  have Y4 := Y3.below b'
  have P4 := P3.below b'
  have Q4 := Q3.below b'
  have N4 := N3.below b'
  have o4 := o3.below b'
  clear x0' x1' x2' x3' y0' y1' y2' y3' y4' y5' X3 Y3 P3 Q3 N3 o3 b3 bz3 b'
  obtain ⟨x0', x1', x2', x3'⟩ := X4.four
  obtain ⟨y0', y1', y2', y3', y4', y5'⟩ := Y4.six
  go_wp2_with fail
  refine (l5There_any a1 a2 a3 a4 l1 l2 l3 l4 c1 c2 c3 c4 kd pl nn wa q1 q2 m1 m2 k1 k2 ws bs _ HQ.out.1 HQ.out.2.1 (HN.out.2.2.2.1.below b4) (HN.out.2.2.2.2.below b4) HQ.out.2.2.1 HQ.out.2.2.2 HOK.out HLM.out.1 HLM.out.2.1 HLM.out.2.2.1 HLM.out.2.2.2 false HAL.out).mono ?_
  rintro e w5 ⟨rfl, b'⟩
  have b5 := bel_next b4 b'
  have bz5 := bel_next bz4 b'
  have X5 := X4.below b'
  have Y5 := Y4.below b'
  have P5 := P4.below b'
  have Q5 := Q4.below b'
  have N5 := N4.below b'
  have o5 := o4.below b'
  clear x0' x1' x2' x3' y0' y1' y2' y3' y4' y5' X4 Y4 P4 Q4 N4 o4 b4 bz4 b'
  obtain ⟨y0', y1', y2', y3', y4', y5'⟩ := Y5.six
  obtain ⟨n0, n1, n2, n3⟩ := N5.four
  obtain ⟨p0', p1', p2', p3'⟩ := P5.four
  obtain ⟨q0', q1', q2', q3', q4', q5'⟩ := Q5.six
  have lN : w.heap.size + 1 + 1 + 1 + 1 ≤ G6 := by have := HZS.out; have := HG6.out; have := HBN.out; omega
  have e1 : ¬ (G6 = w.heap.size + 1 + 1) := by omega
  have e2 : ¬ (G6 = w.heap.size + 1 + 1 + 1) := by omega
  have e1' : ¬ (w.heap.size + 1 + 1 = G6) := by omega
  have e2' : ¬ (w.heap.size + 1 + 1 + 1 = G6) := by omega
  have e5 : ¬ (w.heap.size = w.heap.size + 1 + 1) := by omega
  have e5' : ¬ (w.heap.size + 1 + 1 = w.heap.size) := by omega
  have e3 : ¬ (w.heap.size + 1 = w.heap.size + 1 + 1) := by omega
  have e3' : ¬ (w.heap.size + 1 + 1 = w.heap.size + 1) := by omega
  have e4 : ¬ (w.heap.size + 1 = w.heap.size + 1 + 1 + 1) := by omega
  have e4' : ¬ (w.heap.size + 1 + 1 + 1 = w.heap.size + 1) := by omega
  go_upto_region 5 with fail
  have dz : Below w5.heap.size w5 w5.drew := (Below.refl _ _).drew
  go_region_held3 (fun w' => w'.cell? ⟨G6, 0, none⟩ = some (.slice x1 l1 d1) ∧ w'.cell? ⟨G6, 1, none⟩ = some (.slice x2 l2 d2) ∧ w'.cell? ⟨G6, 2, none⟩ = some (.slice x3 l3 d3) ∧ w'.cell? ⟨G6, 3, none⟩ = some (.slice x4 l4 d4) ∧ w'.cell? ⟨w.heap.size + 1, 0, none⟩ = some (.int .i64 kd) ∧ w'.cell? ⟨w.heap.size + 1, 1, none⟩ = some (.int .i64 pl) ∧ w'.cell? ⟨w.heap.size + 1, 2, none⟩ = some (.int .i64 nn) ∧ w'.cell? ⟨w.heap.size + 1, 3, none⟩ = some (.slice q1 m1 k1) ∧ w'.cell? ⟨w.heap.size + 1, 4, none⟩ = some (.slice q2 m2 k2) ∧ w'.cell? ⟨w.heap.size + 1, 5, none⟩ = some (.int .i64 wa)) (go_keep)
    (first | (go_at_call 69; refine (specFaultOf_q kd pl nn wa q1 q2 m1 m2 k1 k2 ws bs _ _ HQ.out.1 HQ.out.2.1 (HN.out.2.2.2.1.below (by first | exact b5 | exact b5.drew)) (HN.out.2.2.2.2.below (by first | exact b5 | exact b5.drew)) HQ.out.2.2.1 HQ.out.2.2.2).mono ?_; rintro e w7 ⟨he, b'⟩; have he' : e = .returned (rp kd 2 0 0 none none 0 0 0 0) := (by rw [HOK.out] at he; exact he); subst he'; clear he; have B7 : Below w5.heap.size w5 w7 := (by first | exact b' | exact bel_next dz b'); obtain ⟨n0q, n1q, n2q, n3q⟩ := (N5.below B7).four; obtain ⟨y0q, y1q, y2q, y3q, y4q, y5q⟩ := (Y5.below B7).six; have PB := P5.below B7; have QB := Q5.below B7; obtain ⟨p0q, p1q, p2q, p3q⟩ := PB.four; obtain ⟨q0q, q1q, q2q, q3q, q4q, q5q⟩ := QB.six; have fp0 := PB.fro 0; have fp1 := PB.fro 1; have fp2 := PB.fro 2; have fp3 := PB.fro 3; have fq0 := QB.fro 0; have fq1 := QB.fro 1; have fq2 := QB.fro 2; have fq3 := QB.fro 3; have fq4 := QB.fro 4; have fq5 := QB.fro 5; clear b'))
  all_goals (
    obtain ⟨W5, hW5⟩ : ∃ x, x = ((((((((((w7.setCell ⟨w.heap.size + 1 + 1, 0, none⟩ (.slice x1 l1 d1)).setCell ⟨w.heap.size + 1 + 1, 1, none⟩ (.slice x2 l2 d2)).setCell ⟨w.heap.size + 1 + 1, 2, none⟩ (.slice x3 l3 d3)).setCell ⟨w.heap.size + 1 + 1, 3, none⟩ (.slice x4 l4 d4)).setCell ⟨w.heap.size + 1 + 1 + 1, 0, none⟩ (.int .i64 (kd))).setCell ⟨w.heap.size + 1 + 1 + 1, 1, none⟩ (.int .i64 (2))).setCell ⟨w.heap.size + 1 + 1 + 1, 2, none⟩ (.int .i64 0)).setCell ⟨w.heap.size + 1 + 1 + 1, 3, none⟩ (.int .i64 0)).setCell ⟨w.heap.size + 1 + 1 + 1, 4, none⟩ (.slice none 0 0)).setCell ⟨w.heap.size + 1 + 1 + 1, 5, none⟩ (.slice none 0 0)) := ⟨_, rfl⟩
    have HW5 : Hid (W5 = _) := hW5
    have HF : Hid (OwnD W5 w.heap.size x1 x2 x3 x4 l1 l2 l3 l4 d1 d2 d3 d4 cs is hs rs ∧ Below w.heap.size w W5) := by
      have o1 := (o5.below B7).mono (B' := w.heap.size) (by have := HZS.out; omega)
      have o6 : ExB w7 (w.heap.size + 1 + 1 + 1) 37 := ⟨_, QB⟩
      have o5 : ExB w7 (w.heap.size + 1 + 1) 27 := ⟨_, PB⟩
      have x6 : ∀ v0 v1 v2 v3 : Value, ExB ((((w7.setCell ⟨w.heap.size + 1 + 1, 0, none⟩ v0).setCell ⟨w.heap.size + 1 + 1, 1, none⟩ v1).setCell ⟨w.heap.size + 1 + 1, 2, none⟩ v2).setCell ⟨w.heap.size + 1 + 1, 3, none⟩ v3) (w.heap.size + 1 + 1 + 1) 37 := fun _ _ _ _ => ExB.set (ExB.set (ExB.set (ExB.set o6)))
      rw [hW5]
      exact ⟨(o1.set4 o5 (by decide) (by decide)).set6 (x6 _ _ _ _) (by decide) (by decide), belp_set6 (bel_set4 (bel_next b5 B7) (by omega)) (by omega)⟩
    have HPQ : Hid (Blk W5 (w.heap.size + 1 + 1) 27 #[.slice x1 l1 d1, .slice x2 l2 d2, .slice x3 l3 d3, .slice x4 l4 d4] ∧ Blk W5 (w.heap.size + 1 + 1 + 1) 37 #[.int .i64 (kd), .int .i64 (2), .int .i64 0, .int .i64 0, .slice none 0 0, .slice none 0 0]) := by
      have a1' := (((PB.set 0 (.slice x1 l1 d1)).set 1 (.slice x2 l2 d2)).set 2 (.slice x3 l3 d3)).set 3 (.slice x4 l4 d4)
      have a2' := (((((a1'.setNe (g' := w.heap.size + 1 + 1 + 1) (j := 0) (y := .int .i64 (kd)) (by omega)).setNe (g' := w.heap.size + 1 + 1 + 1) (j := 1) (y := .int .i64 (2)) (by omega)).setNe (g' := w.heap.size + 1 + 1 + 1) (j := 2) (y := .int .i64 0) (by omega)).setNe (g' := w.heap.size + 1 + 1 + 1) (j := 3) (y := .int .i64 0) (by omega)).setNe (g' := w.heap.size + 1 + 1 + 1) (j := 4) (y := .slice none 0 0) (by omega)).setNe (g' := w.heap.size + 1 + 1 + 1) (j := 5) (y := .slice none 0 0) (by omega)
      have c1' := (((QB.setNe (g' := w.heap.size + 1 + 1) (j := 0) (y := .slice x1 l1 d1) (by omega)).setNe (g' := w.heap.size + 1 + 1) (j := 1) (y := .slice x2 l2 d2) (by omega)).setNe (g' := w.heap.size + 1 + 1) (j := 2) (y := .slice x3 l3 d3) (by omega)).setNe (g' := w.heap.size + 1 + 1) (j := 3) (y := .slice x4 l4 d4) (by omega)
      have c2' := (((((c1'.set 0 (.int .i64 (kd))).set 1 (.int .i64 (2))).set 2 (.int .i64 0)).set 3 (.int .i64 0)).set 4 (.slice none 0 0)).set 5 (.slice none 0 0)
      rw [hW5]
      exact ⟨a2', c2'⟩
    clear hW5
    have HAp : Hid (∀ g, (Of4 (.slice x1 l1 d1) (.slice x2 l2 d2) (.slice x3 l3 d3) (.slice x4 l4 d4)) g → ¬ Of2 (.slice none 0 0) (.slice none 0 0) g) := (by intro g _ h2; rcases h2 with h2 | h2 <;> cases h2)
    first | rw [← HW5.out] | skip
    obtain ⟨u0, u1, u2, u3⟩ := HPQ.out.1.four
    obtain ⟨v0, v1, v2, v3, v4, v5⟩ := HPQ.out.2.six
    clear p0' p1' p2' p3' q0' q1' q2' q3' q4' q5' fp0 fp1 fp2 fp3 fq0 fq1 fq2 fq3 fq4 fq5 n0 n1 n2 n3 p0q p1q p2q p3q q0q q1q q2q q3q q4q q5q n0q n1q n2q n3q y0q y1q y2q y3q y4q y5q
    go_wp2
    refine bodyPost_ret (v := .tuple #[dv x1 x2 x3 x4 l1 l2 l3 l4 d1 d2 d3 d4, rp (kd) (2) 0 0 none none 0 0 0 0]) (by simp [results, Try.results42, go_sem, u0, u1, u2, u3, v0, v1, v2, v3, v4, v5]) rfl ?_
    obtain ⟨o1, o4⟩ := HF.out
    exact ⟨_, _, _, _, _, _, _, _, _, _, _, _, _, _, _, _, _, _, rfl, by first | exact o1 | exact o1.drew, ownI_nil0 _ _, ownB_nil0 _ _, HAp.out, by first | exact o4 | exact o4.drew⟩)
end Go.Proofs.Ytfdddkjonjpgpaa
