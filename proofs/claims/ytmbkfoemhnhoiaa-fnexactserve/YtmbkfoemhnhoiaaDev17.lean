/- A coil that is set; words that are written, and others told. -/
import Derived.Test.YtmbkfoemhnhoiaaDev16
namespace Go.Proofs.Ytmbkfoemhnhoiaa
open Go.RowKit

set_option linter.unusedVariables false

set_option linter.unusedSimpArgs false

set_option maxRecDepth 20000 in
set_option maxHeartbeats 2000000 in
theorem setCoil_any (a1 a2 a3 a4 : Option Addr) (l1 l2 l3 l4 c1 c2 c3 c4 : Nat) (cs is : List Bool) (hs rs : List Int) (kd nn wa : Int) (k : Nat) (q1 q2 : Option Addr) (m1 m2 k1 k2 : Nat) (ws : List Int) (bs : List Bool) (W0 w : World) (hB : Below W0.heap.size W0 w) (hD : OwnD w W0.heap.size a1 a2 a3 a4 l1 l2 l3 l4 c1 c2 c3 c4 cs is hs rs) (hn : m2 = bs.length) (hq : SlB W0 q2 bs) (hk : k < l1) (h0 : 0 < bs.length) (hl : bs.length ≤ 2000000) (h3 : l1 ≤ 2000000) :
    Calls Try.prog 122 #[dv a1 a2 a3 a4 l1 l2 l3 l4 c1 c2 c3 c4, .agg #[.int .i64 kd, .int .i64 (k : Int), .int .i64 nn, .slice q1 m1 k1, .slice q2 m2 k2, .int .i64 wa]] w fun e w' => SV W0 w w' e a1 a2 a3 a4 l1 l2 l3 l4 c1 c2 c3 c4 (cs.set k (bs.getD 0 false)) is hs rs kd 0 (k : Int) 0 [] bs := by
  obtain ⟨z, hz⟩ : ∃ z, z = ((w.alloc (.cells #[.slice a1 l1 c1, .slice a2 l2 c2, .slice a3 l3 c3, .slice a4 l4 c4] 36)).alloc (.cells #[.int .i64 kd, .int .i64 (k : Int), .int .i64 nn, .slice q1 m1 k1, .slice q2 m2 k2, .int .i64 wa] 27)).alloc (.cells #[.int .i64 0, .int .i64 0, .int .i64 0, .int .i64 0, .slice none 0 0, .slice none 0 0] 29) := ⟨_, rfl⟩
  have HZ : Hid (z = _) := hz
  have b0 : Below w.heap.size w z := by rw [hz]; exact bel_next (bel_next (bel_alloc w _) (bel_alloc _ _)) (bel_alloc _ _)
  have X0 : Blk z w.heap.size 36 #[.slice a1 l1 c1, .slice a2 l2 c2, .slice a3 l3 c3, .slice a4 l4 c4] := by rw [hz]; exact ((Blk.new w _ _).below (bel_alloc _ _)).below (bel_alloc _ _)
  have Y0 : Blk z (w.heap.size + 1) 27 #[.int .i64 kd, .int .i64 (k : Int), .int .i64 nn, .slice q1 m1 k1, .slice q2 m2 k2, .int .i64 wa] := by rw [hz]; have := (Blk.new (w.alloc (.cells #[.slice a1 l1 c1, .slice a2 l2 c2, .slice a3 l3 c3, .slice a4 l4 c4] 36)) #[.int .i64 kd, .int .i64 (k : Int), .int .i64 nn, .slice q1 m1 k1, .slice q2 m2 k2, .int .i64 wa] 27).below (bel_alloc _ (.cells #[.int .i64 0, .int .i64 0, .int .i64 0, .int .i64 0, .slice none 0 0, .slice none 0 0] 29)); simpa using this
  have R0 : Blk z (w.heap.size + 1 + 1) 29 #[.int .i64 0, .int .i64 0, .int .i64 0, .int .i64 0, .slice none 0 0, .slice none 0 0] := by rw [hz]; have := Blk.new ((w.alloc (.cells #[.slice a1 l1 c1, .slice a2 l2 c2, .slice a3 l3 c3, .slice a4 l4 c4] 36)).alloc (.cells #[.int .i64 kd, .int .i64 (k : Int), .int .i64 nn, .slice q1 m1 k1, .slice q2 m2 k2, .int .i64 wa] 27)) #[.int .i64 0, .int .i64 0, .int .i64 0, .int .i64 0, .slice none 0 0, .slice none 0 0] 29; simpa using this
  have HB0 : Hid (Below W0.heap.size W0 z) := hB.trans (b0.mono hB.size)
  have D0 := hD.below b0
  have C0 : Hid (Chg w z (Of4 (.slice a1 l1 c1) (.slice a2 l2 c2) (.slice a3 l3 c3) (.slice a4 l4 c4))) := Chg.ofBelow b0
  have HS0 : Hid (W0.heap.size ≤ w.heap.size) := hB.size
  have HQ : Hid (m2 = bs.length ∧ SlB W0 q2 bs ∧ bs.length ≤ 2000000) := ⟨hn, hq, hl⟩
  obtain ⟨b, ea1, hb, hlt, hc, hf, hset⟩ := D0.setCoil hk
  subst ea1
  obtain ⟨bq, off, eq1, hbq, hcq⟩ := cell_atB (hq.below HB0.out) h0
  have hcq0 : z.cell? ⟨bq, off, none⟩ = some (.bool (bs.getD 0 false)) := by simpa using hcq
  subst eq1
  generalize hx : bs.getD 0 false = x at *
  obtain ⟨D1, C1⟩ := hset x
  have Y1 := Y0.chg C1 (D0.noBlk Y0 (by decide) (by decide))
  have R1 := R0.chg C1 (D0.noBlk R0 (by decide) (by decide))
  have i0 : (k : Int) < (l1 : Int) := by omega
  have i1 : (0 : Int) < (m2 : Int) := by omega
  obtain ⟨x0, x1, x2, x3⟩ := X0.four
  obtain ⟨y0, y1, y2, y3, y4, y5⟩ := Y0.six
  have HH0 : Hid (OwnD (z.setCell ⟨b, k, none⟩ (.bool x)) W0.heap.size (some ⟨b, 0, none⟩) a2 a3 a4 l1 l2 l3 l4 c1 c2 c3 c4 (cs.set k x) is hs rs ∧ Chg w (z.setCell ⟨b, k, none⟩ (.bool x)) (Of4 (.slice (some ⟨b, 0, none⟩) l1 c1) (.slice a2 l2 c2) (.slice a3 l3 c3) (.slice a4 l4 c4)) ∧ Below W0.heap.size W0 (z.setCell ⟨b, k, none⟩ (.bool x))) := ⟨D1, C0.out.trans C1, bel_setG HB0.out hb⟩
  clear hz hset D1 C1 D0 hD hcq hq hn hl hk hlt
  go_enter Try.func122, Try.ntmps122
  go_upto_region 1 with fail
  rw [← HZ.out]
  go_region
  clear hc hf hcq0 x0 x1 x2 x3 y0 y1 y2 y3 y4 y5
  go_upto_region 2 with fail
  obtain ⟨z2, hz2⟩ : ∃ z2, z2 = (z.setCell ⟨b, k, none⟩ (.bool x)).drew := ⟨_, rfl⟩
  have Y2 := Y1.drew
  have R2 := R1.drew
  rw [← hz2] at Y2 R2
  have D2 : OwnD z2 W0.heap.size (some ⟨b, 0, none⟩) a2 a3 a4 l1 l2 l3 l4 c1 c2 c3 c4 (cs.set k x) is hs rs := by rw [hz2]; exact HH0.out.1.drew
  have C2 : Hid (Chg w z2 (Of4 (.slice (some ⟨b, 0, none⟩) l1 c1) (.slice a2 l2 c2) (.slice a3 l3 c3) (.slice a4 l4 c4))) := by rw [hz2]; exact HH0.out.2.1.drew
  have HB2 : Hid (Below W0.heap.size W0 z2) := by rw [hz2]; exact HH0.out.2.2.drew
  simp only [← hz2]
  clear hz2 Y1 R1 HH0
  obtain ⟨y0, y1, y2, y3, y4, y5⟩ := Y2.six
  have dz : Below z2.heap.size z2 z2.drew := (Below.refl _ _).drew
  go_region_held3 (fun w' => w'.cell? ⟨w.heap.size + 1, 0, none⟩ = some (.int .i64 kd) ∧ w'.cell? ⟨w.heap.size + 1, 1, none⟩ = some (.int .i64 (k : Int)) ∧ w'.cell? ⟨w.heap.size + 1, 4, none⟩ = some (.slice (some ⟨bq, off, none⟩) m2 k2)) (go_keep)
    (first | (go_at_call 103; refine (copyOfB (some ⟨bq, off, none⟩) m2 k2 bs _ HQ.out.1 (HQ.out.2.1.below (by first | exact HB2.out | exact HB2.out.drew)) HQ.out.2.2).mono ?_; rintro e w3 ⟨g, rfl, i3, b'⟩; have B3 : Below z2.heap.size z2 w3 := (by first | exact b' | exact bel_next dz b'); obtain ⟨v0, v1, v2, v3, v4, v5⟩ := (Y2.below B3).six; obtain ⟨r0, r1, r2, r3, r4, r5⟩ := (R2.below B3).six; have f3 := (R2.below B3).fro; have g0 := f3 0; have g1 := f3 1; have g2 := f3 2; have g3 := f3 3; have g4 := f3 4; have g5 := f3 5; have zs3 : Hid (z2.heap.size ≤ w3.heap.size) := B3.size; clear b'))
  all_goals (
    have D3 := D2.below B3
    have HH : Hid (OwnB w3 w.heap.size (.slice (some ⟨g, 0, none⟩) m2 m2) bs ∧ OwnD w3 W0.heap.size (some ⟨b, 0, none⟩) a2 a3 a4 l1 l2 l3 l4 c1 c2 c3 c4 _ is hs rs ∧ ExB w3 (w.heap.size + 1 + 1) 29 ∧ Below W0.heap.size W0 w3 ∧ Chg w w3 _) := ⟨OwnB.mono i3 (by exact C2.out.2.2.2.1), D3, ⟨_, R2.below B3⟩, HB2.out.trans (B3.mono (by have := HB2.out.size; omega)), C2.out.trans (Chg.ofBelow B3)⟩
    clear i3 D3
    go_wp2
    refine bodyPost_ret (v := rp kd 0 (k : Int) 0 none (some ⟨g, 0, none⟩) 0 m2 0 m2) (by simp [results, Try.results122, go_sem, r0, r1, r2, r3, r4, r5]) rfl ?_
    obtain ⟨o1, o2, o3, o4, o5⟩ := HH.out
    exact ⟨_, _, _, _, _, _, rfl, ownI_nil0 _ _, rowp_set6 o1 o3 (by decide), o2.set6 o3 (by decide) (by decide), belp_set6 o4 (by have := HS0.out; omega), o5.set6 (by omega)⟩)

set_option maxRecDepth 20000 in
set_option maxHeartbeats 2000000 in
theorem setAndTell_any (a1 a2 a3 a4 : Option Addr) (l1 l2 l3 l4 c1 c2 c3 c4 : Nat) (cs is : List Bool) (hs rs : List Int) (kd nn wa : Int) (k : Nat) (q1 q2 : Option Addr) (m1 m2 k1 k2 : Nat) (ws : List Int) (bs : List Bool) (W0 w : World) (hB : Below W0.heap.size W0 w) (hD : OwnD w W0.heap.size a1 a2 a3 a4 l1 l2 l3 l4 c1 c2 c3 c4 cs is hs rs) (N j : Nat) (hn : m1 = ws.length) (hq : SlI W0 q1 ws) (hj : j + ws.length ≤ l3) (hk : k + N ≤ l3) (hN : 1 ≤ N) (h0 : 0 < ws.length) (h3 : l3 ≤ 2000000) (h65 : k ≤ 65535) (hj65 : j ≤ 65535) :
    Calls Try.prog 127 #[dv a1 a2 a3 a4 l1 l2 l3 l4 c1 c2 c3 c4, .agg #[.int .i64 kd, .int .i64 (k : Int), .int .i64 (N : Int), .slice q1 m1 k1, .slice q2 m2 k2, .int .i64 (j : Int)]] w fun e w' => SV W0 w w' e a1 a2 a3 a4 l1 l2 l3 l4 c1 c2 c3 c4 cs is (wr hs j ws) rs kd 0 0 0 (((wr hs j ws).drop k).take N) [] := by
  obtain ⟨z, hz⟩ : ∃ z, z = ((w.alloc (.cells #[.slice a1 l1 c1, .slice a2 l2 c2, .slice a3 l3 c3, .slice a4 l4 c4] 36)).alloc (.cells #[.int .i64 kd, .int .i64 (k : Int), .int .i64 (N : Int), .slice q1 m1 k1, .slice q2 m2 k2, .int .i64 (j : Int)] 27)).alloc (.cells #[.int .i64 0, .int .i64 0, .int .i64 0, .int .i64 0, .slice none 0 0, .slice none 0 0] 29) := ⟨_, rfl⟩
  have HZ : Hid (z = _) := hz
  have b0 : Below w.heap.size w z := by rw [hz]; exact bel_next (bel_next (bel_alloc w _) (bel_alloc _ _)) (bel_alloc _ _)
  have X0 : Blk z w.heap.size 36 #[.slice a1 l1 c1, .slice a2 l2 c2, .slice a3 l3 c3, .slice a4 l4 c4] := by rw [hz]; exact ((Blk.new w _ _).below (bel_alloc _ _)).below (bel_alloc _ _)
  have Y0 : Blk z (w.heap.size + 1) 27 #[.int .i64 kd, .int .i64 (k : Int), .int .i64 (N : Int), .slice q1 m1 k1, .slice q2 m2 k2, .int .i64 (j : Int)] := by rw [hz]; have := (Blk.new (w.alloc (.cells #[.slice a1 l1 c1, .slice a2 l2 c2, .slice a3 l3 c3, .slice a4 l4 c4] 36)) #[.int .i64 kd, .int .i64 (k : Int), .int .i64 (N : Int), .slice q1 m1 k1, .slice q2 m2 k2, .int .i64 (j : Int)] 27).below (bel_alloc _ (.cells #[.int .i64 0, .int .i64 0, .int .i64 0, .int .i64 0, .slice none 0 0, .slice none 0 0] 29)); simpa using this
  have R0 : Blk z (w.heap.size + 1 + 1) 29 #[.int .i64 0, .int .i64 0, .int .i64 0, .int .i64 0, .slice none 0 0, .slice none 0 0] := by rw [hz]; have := Blk.new ((w.alloc (.cells #[.slice a1 l1 c1, .slice a2 l2 c2, .slice a3 l3 c3, .slice a4 l4 c4] 36)).alloc (.cells #[.int .i64 kd, .int .i64 (k : Int), .int .i64 (N : Int), .slice q1 m1 k1, .slice q2 m2 k2, .int .i64 (j : Int)] 27)) #[.int .i64 0, .int .i64 0, .int .i64 0, .int .i64 0, .slice none 0 0, .slice none 0 0] 29; simpa using this
  have HB0 : Hid (Below W0.heap.size W0 z) := hB.trans (b0.mono hB.size)
  have D0 := hD.below b0
  have C0 : Hid (Chg w z (Of4 (.slice a1 l1 c1) (.slice a2 l2 c2) (.slice a3 l3 c3) (.slice a4 l4 c4))) := Chg.ofBelow b0
  have HS0 : Hid (W0.heap.size ≤ w.heap.size) := hB.size
  obtain ⟨b, ea, hcap⟩ := D0.2.2.1.cap (by omega)
  subst ea
  obtain ⟨bq, off, eq1, hbq, hcq⟩ := cell_atI (hq.below HB0.out) h0
  subst eq1
  have HQ : Hid (m1 = ws.length ∧ SlI z (some ⟨bq, off, none⟩) ws ∧ j + ws.length ≤ l3 ∧ 0 < l3) := ⟨hn, hq.below HB0.out, hj, by omega⟩
  have HQ2 : Hid (l3 ≤ c3 ∧ k + N ≤ l3 ∧ l3 ≤ 2000000 ∧ k ≤ 65535 ∧ 1 ≤ N) := ⟨hcap, hk, h3, h65, hN⟩
  have i0 : (j : Int) ≤ (l3 : Int) := by omega
  have i1 : (j : Int) ≤ (c3 : Int) := by omega
  have i2 : ¬ c3 = j := by omega
  have hmn : Hid (ws.length = Nat.min m1 (l3 - j)) := by show _ = _; rw [← hn]; exact (Nat.min_eq_left (by omega)).symm
  obtain ⟨x0, x1, x2, x3⟩ := X0.four
  obtain ⟨y0, y1, y2, y3, y4, y5⟩ := Y0.six
  have HD0 : Hid (OwnD z W0.heap.size a1 a2 (some ⟨b, 0, none⟩) a4 l1 l2 l3 l4 c1 c2 c3 c4 cs is hs rs) := D0
  have nx := D0.noBlk X0 (by decide) (by decide)
  have ny := D0.noBlk Y0 (by decide) (by decide)
  have nr := D0.noBlk R0 (by decide) (by decide)
  have HY : Hid (∀ z2, Chg z z2 (Of4 (.slice a1 l1 c1) (.slice a2 l2 c2) (.slice (some ⟨b, 0, none⟩) l3 c3) (.slice a4 l4 c4)) → Blk z2 w.heap.size 36 #[.slice a1 l1 c1, .slice a2 l2 c2, .slice (some ⟨b, 0, none⟩) l3 c3, .slice a4 l4 c4] ∧ Blk z2 (w.heap.size + 1) 27 #[.int .i64 kd, .int .i64 (k : Int), .int .i64 (N : Int), .slice (some ⟨bq, off, none⟩) m1 k1, .slice q2 m2 k2, .int .i64 (j : Int)] ∧ Blk z2 (w.heap.size + 1 + 1) 29 #[.int .i64 0, .int .i64 0, .int .i64 0, .int .i64 0, .slice none 0 0, .slice none 0 0]) := fun z2 hc => ⟨X0.chg hc nx, Y0.chg hc ny, R0.chg hc nr⟩
  clear hz hD D0 hn hq hk h0 hcq nx ny nr hB b0 hcap h3 hj hN h65 hj65
  go_enter Try.func127, Try.ntmps127
  go_upto_region 1 with fail
  rw [← HZ.out]
  have HDz : Hid (OwnD z.drew W0.heap.size a1 a2 (some ⟨b, 0, none⟩) a4 l1 l2 l3 l4 c1 c2 c3 c4 cs is hs rs) := HD0.out.drew
  have HQz : Hid (SlI z.drew (some ⟨bq, off, none⟩) ws) := HQ.out.2.1.below (Below.refl _ _).drew
  have HCz : Hid (∀ z2, Chg z.drew z2 (Of4 (.slice a1 l1 c1) (.slice a2 l2 c2) (.slice (some ⟨b, 0, none⟩) l3 c3) (.slice a4 l4 c4)) → Chg z z2 (Of4 (.slice a1 l1 c1) (.slice a2 l2 c2) (.slice (some ⟨b, 0, none⟩) l3 c3) (.slice a4 l4 c4))) := fun z2 h => (show Chg z z.drew _ from Chg.ofBelow (Below.refl _ _).drew).trans h
  go_region_law ((refine step_copyH rfl (.tmp 9) (.tmp 11) rfl HDz.out (l3 - j) _ m1 k1 ⟨bq, off, none⟩ ws rfl rfl HQz.out hmn.out HQ.out.2.2.1 HQ.out.2.2.2 ?_); intro z2 D2 C2')
  all_goals (have C2 := HCz.out z2 C2'; obtain ⟨X2, Y2, R2⟩ := HY.out z2 C2; have HC2 : Hid (Chg z z2 (Of4 (.slice a1 l1 c1) (.slice a2 l2 c2) (.slice (some ⟨b, 0, none⟩) l3 c3) (.slice a4 l4 c4))) := C2; obtain ⟨u0, u1, u2, u3, u4, u5⟩ := Y2.six; obtain ⟨v0, v1, v2, v3⟩ := X2.four; clear C2 C2' X2 Y2 HDz HQz HCz x0 x1 x2 x3 y0 y1 y2 y3 y4 y5)
  all_goals go_wp2_with fail
  all_goals (
    refine (tellRun_any kd (j : Int) k N (some ⟨bq, off, none⟩) q2 m1 m2 k1 k2 b l3 c3 (wr hs j ws) _ D2.2.2.1.sl.1 D2.2.2.1.sl.2 HQ2.out.1 HQ2.out.2.1 HQ2.out.2.2.1 HQ2.out.2.2.2.1 HQ2.out.2.2.2.2).mono ?_
    rintro e w3 ⟨r1, r2, n1, n2, e1, e2, rfl, o1, o2, b'⟩
    have R3 := R2.below b'
    obtain ⟨s0, s1, s2, s3, s4, s5⟩ := R3.six
    have f3 := R3.fro
    have HB2 : Below W0.heap.size W0 z2 := Chg.below HB0.out HC2.out (fun g hg => (HD0.out.of4 g hg).1) HB0.out.size
    have HH : Hid (OwnI w3 w.heap.size (.slice r1 n1 e1) (((wr hs j ws).drop k).take N) ∧ OwnB w3 w.heap.size (.slice r2 n2 e2) [] ∧ OwnD w3 W0.heap.size a1 a2 (some ⟨b, 0, none⟩) a4 l1 l2 l3 l4 c1 c2 c3 c4 cs is (wr hs j ws) rs ∧ Below W0.heap.size W0 w3 ∧ ExB w3 (w.heap.size + 1 + 1) 29 ∧ Chg w w3 (Of4 (.slice a1 l1 c1) (.slice a2 l2 c2) (.slice (some ⟨b, 0, none⟩) l3 c3) (.slice a4 l4 c4))) := ⟨o1.mono (C0.out.trans HC2.out).2.2.2.1, o2.mono (C0.out.trans HC2.out).2.2.2.1, D2.below b', HB2.trans (b'.mono HB2.size), ⟨_, R3⟩, (C0.out.trans HC2.out).trans (Chg.ofBelow b')⟩
    clear o1 o2 b' R3 R2 D2 HB2 u0 u1 u2 u3 u4 u5 v0 v1 v2 v3
    go_wp2
    refine bodyPost_ret (v := rp kd 0 0 0 r1 r2 n1 n2 e1 e2) (by simp [results, Try.results127, go_sem, s0, s1, s2, s3, s4, s5]) rfl ?_
    obtain ⟨o1, o2, o3, o4, o5, o6⟩ := HH.out
    exact ⟨_, _, _, _, _, _, rfl, rowp_set6 o1 o5 (by decide), rowp_set6 o2 o5 (by decide), o3.set6 o5 (by decide) (by decide), belp_set6 o4 (by have := HS0.out; omega), o6.set6 (by omega)⟩)

end Go.Proofs.Ytmbkfoemhnhoiaa
