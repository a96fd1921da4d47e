/- Texts that the proof needs, joined: Dev27c Dev27d. -/
import Derived.Test.YtfdddkjonjpgpaaV12
import Derived.BigRegion
import Derived.Lib.AppendZeros
namespace Go.Proofs.Ytfdddkjonjpgpaa
open Go.RowKit
set_option linter.unusedVariables false
set_option linter.unusedSimpArgs false
set_option maxRecDepth 20000 in
set_option maxHeartbeats 4000000 in
theorem specServe_16 (a1 a2 a3 a4 : Option Addr) (l1 l2 l3 l4 c1 c2 c3 c4 : Nat) (cs is : List Bool) (hs rs : List Int) (nn wa : Int) (q1 q2 : Option Addr) (m1 m2 k1 k2 : Nat) (ws : List Int) (bs : List Bool) (w : World) (hn : LnD l1 l2 l3 l4 cs is hs rs) (hs0 : SlD w a1 a2 a3 a4 cs is hs rs) (hsm : SmD 2000000 cs is hs rs) (hq : SlI w q1 ws) (hq2 : SlB w q2 bs) (h1 : m1 = ws.length) (h2 : m2 = bs.length) (hl : ws.length ≤ 2000000) (hl2 : bs.length ≤ 2000000) (k : Nat) (hpk : k + ws.length ≤ l3) (hok : okR 16 (k : Int) nn wa ws m1 m2 = true) (hd : okD l1 l2 l3 l4 hs rs = true) (hal : svAll l1 l2 l3 l4 16 (k : Int) nn wa m1 m2 = true) :
    Calls Try.prog 42 #[dv a1 a2 a3 a4 l1 l2 l3 l4 c1 c2 c3 c4, .agg #[.int .i64 16, .int .i64 (k : Int), .int .i64 nn, .slice q1 m1 k1, .slice q2 m2 k2, .int .i64 wa]] w fun e w' => SR w w' e cs is (wr hs k ws) rs 16 0 (k : Int) (m1 : Int) [] [] := by
  obtain ⟨z, hz⟩ : ∃ z, z = (((w.alloc (.cells #[.slice a1 l1 c1, .slice a2 l2 c2, .slice a3 l3 c3, .slice a4 l4 c4] 27)).alloc (.cells #[.int .i64 16, .int .i64 (k : Int), .int .i64 nn, .slice q1 m1 k1, .slice q2 m2 k2, .int .i64 wa] 57)).alloc (.cells #[.slice none 0 0, .slice none 0 0, .slice none 0 0, .slice none 0 0] 27)).alloc (.cells #[.int .i64 0, .int .i64 0, .int .i64 0, .int .i64 0, .slice none 0 0, .slice none 0 0] 37) := ⟨_, rfl⟩
  have HZ : Hid (z = _) := hz
  have b0 : Below w.heap.size w z := by rw [hz]; exact bel_next (bel_next (bel_next (bel_alloc w _) (bel_alloc _ _)) (bel_alloc _ _)) (bel_alloc _ _)
  have X0 : Blk z w.heap.size 27 #[.slice a1 l1 c1, .slice a2 l2 c2, .slice a3 l3 c3, .slice a4 l4 c4] := by rw [hz]; exact (((Blk.new w _ _).below (bel_alloc _ _)).below (bel_alloc _ _)).below (bel_alloc _ _)
  have Y0 : Blk z (w.heap.size + 1) 57 #[.int .i64 16, .int .i64 (k : Int), .int .i64 nn, .slice q1 m1 k1, .slice q2 m2 k2, .int .i64 wa] := by rw [hz]; have := ((Blk.new (w.alloc (.cells #[.slice a1 l1 c1, .slice a2 l2 c2, .slice a3 l3 c3, .slice a4 l4 c4] 27)) #[.int .i64 16, .int .i64 (k : Int), .int .i64 nn, .slice q1 m1 k1, .slice q2 m2 k2, .int .i64 wa] 57).below (bel_alloc _ (.cells #[.slice none 0 0, .slice none 0 0, .slice none 0 0, .slice none 0 0] 27))).below (bel_alloc _ (.cells #[.int .i64 0, .int .i64 0, .int .i64 0, .int .i64 0, .slice none 0 0, .slice none 0 0] 37)); simpa using this
  have P0 : Blk z (w.heap.size + 1 + 1) 27 #[.slice none 0 0, .slice none 0 0, .slice none 0 0, .slice none 0 0] := by rw [hz]; have := (Blk.new ((w.alloc (.cells #[.slice a1 l1 c1, .slice a2 l2 c2, .slice a3 l3 c3, .slice a4 l4 c4] 27)).alloc (.cells #[.int .i64 16, .int .i64 (k : Int), .int .i64 nn, .slice q1 m1 k1, .slice q2 m2 k2, .int .i64 wa] 57)) #[.slice none 0 0, .slice none 0 0, .slice none 0 0, .slice none 0 0] 27).below (bel_alloc _ (.cells #[.int .i64 0, .int .i64 0, .int .i64 0, .int .i64 0, .slice none 0 0, .slice none 0 0] 37)); simpa using this
  have Q0 : Blk z (w.heap.size + 1 + 1 + 1) 37 #[.int .i64 0, .int .i64 0, .int .i64 0, .int .i64 0, .slice none 0 0, .slice none 0 0] := by rw [hz]; have := Blk.new (((w.alloc (.cells #[.slice a1 l1 c1, .slice a2 l2 c2, .slice a3 l3 c3, .slice a4 l4 c4] 27)).alloc (.cells #[.int .i64 16, .int .i64 (k : Int), .int .i64 nn, .slice q1 m1 k1, .slice q2 m2 k2, .int .i64 wa] 57)).alloc (.cells #[.slice none 0 0, .slice none 0 0, .slice none 0 0, .slice none 0 0] 27)) #[.int .i64 0, .int .i64 0, .int .i64 0, .int .i64 0, .slice none 0 0, .slice none 0 0] 37; simpa using this
  have HN : Hid (LnD l1 l2 l3 l4 cs is hs rs ∧ SmD 2000000 cs is hs rs ∧ SlD w a1 a2 a3 a4 cs is hs rs ∧ SlI w q1 ws ∧ SlB w q2 bs) := ⟨hn, hsm, hs0, hq, hq2⟩
  have HQ : Hid (m1 = ws.length ∧ m2 = bs.length ∧ ws.length ≤ 2000000 ∧ bs.length ≤ 2000000) := ⟨h1, h2, hl, hl2⟩
  have HB0 : Hid (Below w.heap.size w z) := b0
  have HZS : Hid (z.heap.size = w.heap.size + 1 + 1 + 1 + 1) := by show _ = _; rw [hz]; simp
  obtain ⟨x0', x1', x2', x3'⟩ := X0.four
  clear hz hn hs0 hsm hq hq2 h1 h2 hl hl2
  go_enter Try.func42, Try.ntmps42
  go_upto_region 1 with fail
  rw [← HZ.out]
  go_wp2_with fail
  refine (l5Copy_any a1 a2 a3 a4 l1 l2 l3 l4 c1 c2 c3 c4 cs is hs rs _ HN.out.1 (HN.out.2.2.1.below b0) HN.out.2.1).mono ?_
  rintro e w1 ⟨x1, x2, x3, x4, d1, d2, d3, d4, rfl, o1, b'⟩
  have b1 := bel_next b0 b'
  have bz1 := b'
  have X1 := X0.below b'
  have Y1 := Y0.below b'
  have P1 := P0.below b'
  have Q1 := Q0.below b'
  have HG6 : Hid (z.heap.size ≤ w1.heap.size) := b'.size
  clear x0' x1' x2' x3' X0 Y0 P0 Q0 b0 b'
  have b' := bel_alloc w1 (.cells #[.slice x1 l1 d1, .slice x2 l2 d2, .slice x3 l3 d3, .slice x4 l4 d4] 27)
  have N' := Blk.new w1 #[.slice x1 l1 d1, .slice x2 l2 d2, .slice x3 l3 d3, .slice x4 l4 d4] 27
  obtain ⟨w2, hw2⟩ : ∃ x, x = w1.alloc (.cells #[.slice x1 l1 d1, .slice x2 l2 d2, .slice x3 l3 d3, .slice x4 l4 d4] 27) := ⟨_, rfl⟩
  rw [← hw2] at b' N'
  have HW2 : Hid (w2 = _) := hw2
  obtain ⟨G6, hBN⟩ : ∃ x, x = w1.heap.size := ⟨_, rfl⟩
  rw [← hBN] at N'
  have HBN : Hid (G6 = w1.heap.size) := hBN
  have S2 : ∀ G7 tc, G6 < G7 → Blk w2 G7 37 tc → True := fun _ _ _ _ => trivial
  have b2 := bel_next b1 b'
  have bz2 := bel_next bz1 b'
  have X2 := X1.below b'
  have Y2 := Y1.below b'
  have P2 := P1.below b'
  have Q2 := Q1.below b'
  have o2 := o1.below b'
  clear hw2 hBN b1 bz1 X1 Y1 P1 Q1 o1 b' S2
  obtain ⟨x0', x1', x2', x3'⟩ := X2.four
  go_upto_region 2 with fail
  rw [← HW2.out]
  simp only [← HBN.out]
  have HD : Hid (okD l1 l2 l3 l4 hs rs = true) := hd
  have HOK : Hid (okR 16 (k : Int) nn wa ws m1 m2 = true) := hok
  have HAL : Hid (svAll l1 l2 l3 l4 16 (k : Int) nn wa m1 m2 = true) := hal
  have HLM : Hid (l1 ≤ 2000000 ∧ l2 ≤ 2000000 ∧ l3 ≤ 2000000 ∧ l4 ≤ 2000000) := by have := okD_len hd; show _ ∧ _ ∧ _ ∧ _; omega
  clear hd hok hal
  go_wp2_with fail
  refine (specDeviceOk_any a1 a2 a3 a4 l1 l2 l3 l4 c1 c2 c3 c4 cs is hs rs _ HN.out.1 (HN.out.2.2.1.below b2) HN.out.2.1 true HD.out).mono ?_
  rintro e w3 ⟨rfl, b'⟩
  have b3 := bel_next b2 b'
  have bz3 := bel_next bz2 b'
  have X3 := X2.below b'
  have Y3 := Y2.below b'
  have P3 := P2.below b'
  have Q3 := Q2.below b'
  have N3 := N'.below b'
  have o3 := o2.below b'
  clear x0' x1' x2' x3' X2 Y2 P2 Q2 N' o2 b2 bz2 b'
  obtain ⟨x0', x1', x2', x3'⟩ := X3.four
  obtain ⟨y0', y1', y2', y3', y4', y5'⟩ := Y3.six
  go_wp2_with fail
  refine (specReqOk_q 16 (k : Int) nn wa q1 q2 m1 m2 k1 k2 ws bs _ HQ.out.1 HQ.out.2.1 (HN.out.2.2.2.1.below b3) (HN.out.2.2.2.2.below b3) HQ.out.2.2.1 HQ.out.2.2.2).mono ?_
  rintro e w4 ⟨he, b'⟩
  rw [HOK.out] at he
  subst he
  have b4 := bel_next b3 b'
  have bz4 := bel_next bz3 b'
  have X4 := X3.below b'
  have Y4 := Y3.below b'
  have P4 := P3.below b'
  have Q4 := Q3.below b'
  have N4 := N3.below b'
  have o4 := o3.below b'
  clear x0' x1' x2' x3' y0' y1' y2' y3' y4' y5' X3 Y3 P3 Q3 N3 o3 b3 bz3 b'
  obtain ⟨x0', x1', x2', x3'⟩ := X4.four
  obtain ⟨y0', y1', y2', y3', y4', y5'⟩ := Y4.six
  go_wp2_with fail
  refine (l5There_any a1 a2 a3 a4 l1 l2 l3 l4 c1 c2 c3 c4 16 (k : Int) nn wa q1 q2 m1 m2 k1 k2 ws bs _ HQ.out.1 HQ.out.2.1 (HN.out.2.2.2.1.below b4) (HN.out.2.2.2.2.below b4) HQ.out.2.2.1 HQ.out.2.2.2 HOK.out HLM.out.1 HLM.out.2.1 HLM.out.2.2.1 HLM.out.2.2.2 true HAL.out).mono ?_
  rintro e w5 ⟨rfl, b'⟩
  have b5 := bel_next b4 b'
  have bz5 := bel_next bz4 b'
  have X5 := X4.below b'
  have Y5 := Y4.below b'
  have P5 := P4.below b'
  have Q5 := Q4.below b'
  have N5 := N4.below b'
  have o5 := o4.below b'
  clear x0' x1' x2' x3' y0' y1' y2' y3' y4' y5' X4 Y4 P4 Q4 N4 o4 b4 bz4 b'
  obtain ⟨y0', y1', y2', y3', y4', y5'⟩ := Y5.six
  have b' := bel_alloc w5 (.cells #[.int .i64 16, .int .i64 0, .int .i64 0, .int .i64 0, .slice none 0 0, .slice none 0 0] 37)
  have T' := Blk.new w5 #[.int .i64 16, .int .i64 0, .int .i64 0, .int .i64 0, .slice none 0 0, .slice none 0 0] 37
  obtain ⟨w6, hw6⟩ : ∃ x, x = w5.alloc (.cells #[.int .i64 16, .int .i64 0, .int .i64 0, .int .i64 0, .slice none 0 0, .slice none 0 0] 37) := ⟨_, rfl⟩
  rw [← hw6] at b' T'
  have HW6 : Hid (w6 = _) := hw6
  obtain ⟨G7, hG7⟩ : ∃ x, x = w5.heap.size := ⟨_, rfl⟩
  rw [← hG7] at T'
  have HG7 : Hid (G7 = w5.heap.size) := hG7
  have S6 : SS w #[.slice a1 l1 c1, .slice a2 l2 c2, .slice a3 l3 c3, .slice a4 l4 c4] #[.int .i64 16, .int .i64 (k : Int), .int .i64 nn, .slice q1 m1 k1, .slice q2 m2 k2, .int .i64 wa] z G6 G7 x1 x2 x3 x4 l1 l2 l3 l4 d1 d2 d3 d4 is rs cs hs #[.int .i64 16, .int .i64 0, .int .i64 0, .int .i64 0, .slice none 0 0, .slice none 0 0] w6 := ⟨X5.below b', Y5.below b', P5.below b', Q5.below b', N5.below b', T', o5.below b', bel_next b5 b', bel_next bz5 b', HZS.out, by have := HG6.out; have := HBN.out; omega, by rw [hG7]; exact N5.lt⟩
  clear X5 Y5 P5 Q5 N5 o5 b5 bz5 b' T' hw6 hG7
  go_upto_region 7 with fail
  clear y0' y1' y2' y3' y4' y5'
  rw [← HW6.out]
  simp only [← HG7.out]
  clear HW6 HG7 HW2 HBN HZ
  have HK : Hid (k + ws.length ≤ l3) := hpk
  have HXL : Hid (ws.length ≤ 2000000) := HQ.out.2.2.1
  have im1 : (m1 : Int) ≤ 2000000 := by have := HQ.out; omega
  clear hpk
  obtain ⟨x0', x1', x2', x3'⟩ := S6.X.four
  obtain ⟨y0', y1', y2', y3', y4', y5'⟩ := S6.Y.six
  obtain ⟨n0', n1', n2', n3'⟩ := S6.N.four
  obtain ⟨t0', t1', t2', t3', t4', t5'⟩ := S6.T.six
  have ft0 := S6.T.fro 0
  have ft1 := S6.T.fro 1
  have ft2 := S6.T.fro 2
  have ft3 := S6.T.fro 3
  have ft4 := S6.T.fro 4
  have ft5 := S6.T.fro 5
  go_wp2_with fail
  refine (l5Write_any x1 x2 x3 x4 l1 l2 l3 l4 d1 d2 d3 d4 cs is hs rs k q1 m1 k1 ws z _ S6.belz S6.D HQ.out.1 (HN.out.2.2.2.1.below HB0.out) HK.out HLM.out.2.2.1).mono ?_
  rintro e w7 ⟨rfl, D7, _, C7⟩
  have S7 := S6.chg C7 D7
  clear D7 C7 S6
  clear x0' x1' x2' x3' y0' y1' y2' y3' y4' y5' n0' n1' n2' n3' t0' t1' t2' t3' t4' t5' ft0 ft1 ft2 ft3 ft4 ft5
  obtain ⟨x0', x1', x2', x3'⟩ := S7.X.four
  obtain ⟨y0', y1', y2', y3', y4', y5'⟩ := S7.Y.six
  obtain ⟨n0', n1', n2', n3'⟩ := S7.N.four
  obtain ⟨t0', t1', t2', t3', t4', t5'⟩ := S7.T.six
  have ft0 := S7.T.fro 0
  have ft1 := S7.T.fro 1
  have ft2 := S7.T.fro 2
  have ft3 := S7.T.fro 3
  have ft4 := S7.T.fro 4
  have ft5 := S7.T.fro 5
  go_upto_region 41 with fail
  have SB := (S7.setT 2 (.int .i64 (k : Int))).setT 3 (.int .i64 (m1 : Int))
  obtain ⟨w8, hw8⟩ : ∃ x, x = (w7.setCell ⟨G7, 2, none⟩ (.int .i64 (k : Int))).setCell ⟨G7, 3, none⟩ (.int .i64 (m1 : Int)) := ⟨_, rfl⟩
  rw [← hw8] at SB ⊢
  have S9 : SS w #[.slice a1 l1 c1, .slice a2 l2 c2, .slice a3 l3 c3, .slice a4 l4 c4] #[.int .i64 16, .int .i64 (k : Int), .int .i64 nn, .slice q1 m1 k1, .slice q2 m2 k2, .int .i64 wa] z G6 G7 x1 x2 x3 x4 l1 l2 l3 l4 d1 d2 d3 d4 is rs cs (wr hs k ws) #[.int .i64 16, .int .i64 0, .int .i64 (k : Int), .int .i64 (m1 : Int), .slice none 0 0, .slice none 0 0] w8 := SB
  clear hw8 SB S7
  clear x0' x1' x2' x3' y0' y1' y2' y3' y4' y5' n0' n1' n2' n3' t0' t1' t2' t3' t4' t5' ft0 ft1 ft2 ft3 ft4 ft5
  have HAp : Hid (∀ g, (Of4 (.slice x1 l1 d1) (.slice x2 l2 d2) (.slice x3 l3 d3) (.slice x4 l4 d4)) g → ¬ Of2 (.slice none 0 0) (.slice none 0 0) g) := S9.apart (ownI_nil0 w8 _) (ownB_nil0 w8 _)
  obtain ⟨r1, p1, t1, hr1, r2, p2, t2, hr2⟩ : ∃ (r1 : Option Addr) (p1 t1 : Nat) (_ : Value.slice r1 p1 t1 = .slice none 0 0) (r2 : Option Addr) (p2 t2 : Nat), Value.slice r2 p2 t2 = .slice none 0 0 := ⟨none, 0, 0, rfl, none, 0, 0, rfl⟩
  have OI : Hid (OwnI w8 w.heap.size (.slice r1 p1 t1) []) := by rw [hr1]; exact ownI_nil0 _ _
  have OB : Hid (OwnB w8 w.heap.size (.slice r2 p2 t2) []) := by rw [hr2]; exact ownB_nil0 _ _
  have S10 : SS w #[.slice a1 l1 c1, .slice a2 l2 c2, .slice a3 l3 c3, .slice a4 l4 c4] #[.int .i64 16, .int .i64 (k : Int), .int .i64 nn, .slice q1 m1 k1, .slice q2 m2 k2, .int .i64 wa] z G6 G7 x1 x2 x3 x4 l1 l2 l3 l4 d1 d2 d3 d4 is rs cs (wr hs k ws) #[.int .i64 16, .int .i64 0, .int .i64 (k : Int), .int .i64 (m1 : Int), .slice r1 p1 t1, .slice r2 p2 t2] w8 := by rw [hr1, hr2]; exact S9
  have HAp' : Hid (∀ g, (Of4 (.slice x1 l1 d1) (.slice x2 l2 d2) (.slice x3 l3 d3) (.slice x4 l4 d4)) g → ¬ Of2 (.slice r1 p1 t1) (.slice r2 p2 t2) g) := by rw [hr1, hr2]; exact HAp
  clear HAp S9
  have HAp := HAp'
  clear HAp' hr1 hr2
  have N4 := S10.N
  have T' := S10.T
  have P4 := S10.P
  have Q4 := S10.Q
  have HH : Hid (OwnD w8 w.heap.size x1 x2 x3 x4 l1 l2 l3 l4 d1 d2 d3 d4 cs is (wr hs k ws) rs ∧ OwnI w8 w.heap.size (.slice r1 p1 t1) [] ∧ OwnB w8 w.heap.size (.slice r2 p2 t2) [] ∧ Below w.heap.size w w8 ∧ ExB w8 (w.heap.size + 1 + 1) 27 ∧ ExB w8 (w.heap.size + 1 + 1 + 1) 37) := ⟨S10.D.mono (by have := S10.zb0; omega), OI.out, OB.out, S10.bel, ⟨_, P4⟩, ⟨_, Q4⟩⟩
  have lN : w.heap.size + 1 + 1 + 1 + 1 ≤ G6 := by have := S10.zb0; have := S10.g6; omega
  have lT : w.heap.size + 1 + 1 + 1 + 1 ≤ G7 := by have := S10.g7; omega
  obtain ⟨n0, n1, n2, n3⟩ := N4.four
  obtain ⟨t0', t1', t2', t3', t4', t5'⟩ := T'.six
  obtain ⟨p0', p1', p2', p3'⟩ := P4.four
  obtain ⟨q0', q1', q2', q3', q4', q5'⟩ := Q4.six
  have fp0 := P4.fro 0
  have fp1 := P4.fro 1
  have fp2 := P4.fro 2
  have fp3 := P4.fro 3
  have fq0 := Q4.fro 0
  have fq1 := Q4.fro 1
  have fq2 := Q4.fro 2
  have fq3 := Q4.fro 3
  have fq4 := Q4.fro 4
  have fq5 := Q4.fro 5
  have e1 : ¬ (G6 = w.heap.size + 1 + 1) := by omega
  have e2 : ¬ (G6 = w.heap.size + 1 + 1 + 1) := by omega
  have e3 : ¬ (G7 = w.heap.size + 1 + 1) := by omega
  have e4 : ¬ (G7 = w.heap.size + 1 + 1 + 1) := by omega
  have e1' : ¬ (w.heap.size + 1 + 1 = G6) := by omega
  have e2' : ¬ (w.heap.size + 1 + 1 + 1 = G6) := by omega
  have e3' : ¬ (w.heap.size + 1 + 1 = G7) := by omega
  have e4' : ¬ (w.heap.size + 1 + 1 + 1 = G7) := by omega
  clear lN lT
  obtain ⟨W5, hW5⟩ : ∃ x, x = ((((((((((w8.setCell ⟨w.heap.size + 1 + 1, 0, none⟩ (.slice x1 l1 d1)).setCell ⟨w.heap.size + 1 + 1, 1, none⟩ (.slice x2 l2 d2)).setCell ⟨w.heap.size + 1 + 1, 2, none⟩ (.slice x3 l3 d3)).setCell ⟨w.heap.size + 1 + 1, 3, none⟩ (.slice x4 l4 d4)).setCell ⟨w.heap.size + 1 + 1 + 1, 0, none⟩ (.int .i64 (16))).setCell ⟨w.heap.size + 1 + 1 + 1, 1, none⟩ (.int .i64 (0))).setCell ⟨w.heap.size + 1 + 1 + 1, 2, none⟩ (.int .i64 ((k : Int)))).setCell ⟨w.heap.size + 1 + 1 + 1, 3, none⟩ (.int .i64 ((m1 : Int)))).setCell ⟨w.heap.size + 1 + 1 + 1, 4, none⟩ (.slice r1 p1 t1)).setCell ⟨w.heap.size + 1 + 1 + 1, 5, none⟩ (.slice r2 p2 t2)) := ⟨_, rfl⟩
  have HW5 : Hid (W5 = _) := hW5
  have HF : Hid (OwnD W5 w.heap.size x1 x2 x3 x4 l1 l2 l3 l4 d1 d2 d3 d4 cs is (wr hs k ws) rs ∧ OwnI W5 w.heap.size (.slice r1 p1 t1) [] ∧ OwnB W5 w.heap.size (.slice r2 p2 t2) [] ∧ Below w.heap.size w W5) := by
    obtain ⟨o1, o2, o3, o4, o5, o6⟩ := HH.out
    have x6 : ∀ v0 v1 v2 v3 : Value, ExB ((((w8.setCell ⟨w.heap.size + 1 + 1, 0, none⟩ v0).setCell ⟨w.heap.size + 1 + 1, 1, none⟩ v1).setCell ⟨w.heap.size + 1 + 1, 2, none⟩ v2).setCell ⟨w.heap.size + 1 + 1, 3, none⟩ v3) (w.heap.size + 1 + 1 + 1) 37 := fun _ _ _ _ => ExB.set (ExB.set (ExB.set (ExB.set o6)))
    rw [hW5]
    exact ⟨(o1.set4 o5 (by decide) (by decide)).set6 (x6 _ _ _ _) (by decide) (by decide), rowp_set6 (row_set4 o2 o5 (by decide)) (x6 _ _ _ _) (by decide), rowp_set6 (row_set4 o3 o5 (by decide)) (x6 _ _ _ _) (by decide), belp_set6 (bel_set4 o4 (by omega)) (by omega)⟩
  have HPQ : Hid (Blk W5 (w.heap.size + 1 + 1) 27 #[.slice x1 l1 d1, .slice x2 l2 d2, .slice x3 l3 d3, .slice x4 l4 d4] ∧ Blk W5 (w.heap.size + 1 + 1 + 1) 37 #[.int .i64 16, .int .i64 0, .int .i64 (k : Int), .int .i64 (m1 : Int), .slice r1 p1 t1, .slice r2 p2 t2]) := by
    have a1' := (((P4.set 0 (.slice x1 l1 d1)).set 1 (.slice x2 l2 d2)).set 2 (.slice x3 l3 d3)).set 3 (.slice x4 l4 d4)
    have a2' := (((((a1'.setNe (g' := w.heap.size + 1 + 1 + 1) (j := 0) (y := .int .i64 (16)) (by omega)).setNe (g' := w.heap.size + 1 + 1 + 1) (j := 1) (y := .int .i64 (0)) (by omega)).setNe (g' := w.heap.size + 1 + 1 + 1) (j := 2) (y := .int .i64 ((k : Int))) (by omega)).setNe (g' := w.heap.size + 1 + 1 + 1) (j := 3) (y := .int .i64 ((m1 : Int))) (by omega)).setNe (g' := w.heap.size + 1 + 1 + 1) (j := 4) (y := .slice r1 p1 t1) (by omega)).setNe (g' := w.heap.size + 1 + 1 + 1) (j := 5) (y := .slice r2 p2 t2) (by omega)
    have c1' := (((Q4.setNe (g' := w.heap.size + 1 + 1) (j := 0) (y := .slice x1 l1 d1) (by omega)).setNe (g' := w.heap.size + 1 + 1) (j := 1) (y := .slice x2 l2 d2) (by omega)).setNe (g' := w.heap.size + 1 + 1) (j := 2) (y := .slice x3 l3 d3) (by omega)).setNe (g' := w.heap.size + 1 + 1) (j := 3) (y := .slice x4 l4 d4) (by omega)
    have c2' := (((((c1'.set 0 (.int .i64 (16))).set 1 (.int .i64 (0))).set 2 (.int .i64 ((k : Int)))).set 3 (.int .i64 ((m1 : Int)))).set 4 (.slice r1 p1 t1)).set 5 (.slice r2 p2 t2)
    rw [hW5]
    exact ⟨a2', c2'⟩
  clear hW5 S10
  go_region
  rw [← HW5.out]
  obtain ⟨u0, u1, u2, u3⟩ := HPQ.out.1.four
  obtain ⟨v0, v1, v2, v3, v4, v5⟩ := HPQ.out.2.six
  clear p0' p1' p2' p3' q0' q1' q2' q3' q4' q5' fp0 fp1 fp2 fp3 fq0 fq1 fq2 fq3 fq4 fq5 n0 n1 n2 n3 t0' t1' t2' t3' t4' t5'
  go_wp2
  refine bodyPost_ret (v := .tuple #[dv x1 x2 x3 x4 l1 l2 l3 l4 d1 d2 d3 d4, rp (16) (0) ((k : Int)) ((m1 : Int)) r1 r2 p1 p2 t1 t2]) (by simp [results, Try.results42, go_sem, u0, u1, u2, u3, v0, v1, v2, v3, v4, v5]) rfl ?_
  obtain ⟨o1, o2, o3, o4⟩ := HF.out
  exact ⟨_, _, _, _, _, _, _, _, _, _, _, _, _, _, _, _, _, _, rfl, o1.drew, o2.below (Below.refl _ _).drew, o3.below (Below.refl _ _).drew, HAp.out, o4.drew⟩
set_option maxRecDepth 20000 in
set_option maxHeartbeats 4000000 in
theorem specServe_6 (a1 a2 a3 a4 : Option Addr) (l1 l2 l3 l4 c1 c2 c3 c4 : Nat) (cs is : List Bool) (hs rs : List Int) (nn wa : Int) (q1 q2 : Option Addr) (m1 m2 k1 k2 : Nat) (ws : List Int) (bs : List Bool) (w : World) (hn : LnD l1 l2 l3 l4 cs is hs rs) (hs0 : SlD w a1 a2 a3 a4 cs is hs rs) (hsm : SmD 2000000 cs is hs rs) (hq : SlI w q1 ws) (hq2 : SlB w q2 bs) (h1 : m1 = ws.length) (h2 : m2 = bs.length) (hl : ws.length ≤ 2000000) (hl2 : bs.length ≤ 2000000) (k : Nat) (hpk : k + ws.length ≤ l3) (hok : okR 6 (k : Int) nn wa ws m1 m2 = true) (hd : okD l1 l2 l3 l4 hs rs = true) (hal : svAll l1 l2 l3 l4 6 (k : Int) nn wa m1 m2 = true) :
    Calls Try.prog 42 #[dv a1 a2 a3 a4 l1 l2 l3 l4 c1 c2 c3 c4, .agg #[.int .i64 6, .int .i64 (k : Int), .int .i64 nn, .slice q1 m1 k1, .slice q2 m2 k2, .int .i64 wa]] w fun e w' => SR w w' e cs is (wr hs k ws) rs 6 0 (k : Int) 0 ws [] := by
  obtain ⟨z, hz⟩ : ∃ z, z = (((w.alloc (.cells #[.slice a1 l1 c1, .slice a2 l2 c2, .slice a3 l3 c3, .slice a4 l4 c4] 27)).alloc (.cells #[.int .i64 6, .int .i64 (k : Int), .int .i64 nn, .slice q1 m1 k1, .slice q2 m2 k2, .int .i64 wa] 57)).alloc (.cells #[.slice none 0 0, .slice none 0 0, .slice none 0 0, .slice none 0 0] 27)).alloc (.cells #[.int .i64 0, .int .i64 0, .int .i64 0, .int .i64 0, .slice none 0 0, .slice none 0 0] 37) := ⟨_, rfl⟩
  have HZ : Hid (z = _) := hz
  have b0 : Below w.heap.size w z := by rw [hz]; exact bel_next (bel_next (bel_next (bel_alloc w _) (bel_alloc _ _)) (bel_alloc _ _)) (bel_alloc _ _)
  have X0 : Blk z w.heap.size 27 #[.slice a1 l1 c1, .slice a2 l2 c2, .slice a3 l3 c3, .slice a4 l4 c4] := by rw [hz]; exact (((Blk.new w _ _).below (bel_alloc _ _)).below (bel_alloc _ _)).below (bel_alloc _ _)
  have Y0 : Blk z (w.heap.size + 1) 57 #[.int .i64 6, .int .i64 (k : Int), .int .i64 nn, .slice q1 m1 k1, .slice q2 m2 k2, .int .i64 wa] := by rw [hz]; have := ((Blk.new (w.alloc (.cells #[.slice a1 l1 c1, .slice a2 l2 c2, .slice a3 l3 c3, .slice a4 l4 c4] 27)) #[.int .i64 6, .int .i64 (k : Int), .int .i64 nn, .slice q1 m1 k1, .slice q2 m2 k2, .int .i64 wa] 57).below (bel_alloc _ (.cells #[.slice none 0 0, .slice none 0 0, .slice none 0 0, .slice none 0 0] 27))).below (bel_alloc _ (.cells #[.int .i64 0, .int .i64 0, .int .i64 0, .int .i64 0, .slice none 0 0, .slice none 0 0] 37)); simpa using this
  have P0 : Blk z (w.heap.size + 1 + 1) 27 #[.slice none 0 0, .slice none 0 0, .slice none 0 0, .slice none 0 0] := by rw [hz]; have := (Blk.new ((w.alloc (.cells #[.slice a1 l1 c1, .slice a2 l2 c2, .slice a3 l3 c3, .slice a4 l4 c4] 27)).alloc (.cells #[.int .i64 6, .int .i64 (k : Int), .int .i64 nn, .slice q1 m1 k1, .slice q2 m2 k2, .int .i64 wa] 57)) #[.slice none 0 0, .slice none 0 0, .slice none 0 0, .slice none 0 0] 27).below (bel_alloc _ (.cells #[.int .i64 0, .int .i64 0, .int .i64 0, .int .i64 0, .slice none 0 0, .slice none 0 0] 37)); simpa using this
  have Q0 : Blk z (w.heap.size + 1 + 1 + 1) 37 #[.int .i64 0, .int .i64 0, .int .i64 0, .int .i64 0, .slice none 0 0, .slice none 0 0] := by rw [hz]; have := Blk.new (((w.alloc (.cells #[.slice a1 l1 c1, .slice a2 l2 c2, .slice a3 l3 c3, .slice a4 l4 c4] 27)).alloc (.cells #[.int .i64 6, .int .i64 (k : Int), .int .i64 nn, .slice q1 m1 k1, .slice q2 m2 k2, .int .i64 wa] 57)).alloc (.cells #[.slice none 0 0, .slice none 0 0, .slice none 0 0, .slice none 0 0] 27)) #[.int .i64 0, .int .i64 0, .int .i64 0, .int .i64 0, .slice none 0 0, .slice none 0 0] 37; simpa using this
  have HN : Hid (LnD l1 l2 l3 l4 cs is hs rs ∧ SmD 2000000 cs is hs rs ∧ SlD w a1 a2 a3 a4 cs is hs rs ∧ SlI w q1 ws ∧ SlB w q2 bs) := ⟨hn, hsm, hs0, hq, hq2⟩
  have HQ : Hid (m1 = ws.length ∧ m2 = bs.length ∧ ws.length ≤ 2000000 ∧ bs.length ≤ 2000000) := ⟨h1, h2, hl, hl2⟩
  have HB0 : Hid (Below w.heap.size w z) := b0
  have HZS : Hid (z.heap.size = w.heap.size + 1 + 1 + 1 + 1) := by show _ = _; rw [hz]; simp
  obtain ⟨x0', x1', x2', x3'⟩ := X0.four
  clear hz hn hs0 hsm hq hq2 h1 h2 hl hl2
  go_enter Try.func42, Try.ntmps42
  go_upto_region 1 with fail
  rw [← HZ.out]
  go_wp2_with fail
  refine (l5Copy_any a1 a2 a3 a4 l1 l2 l3 l4 c1 c2 c3 c4 cs is hs rs _ HN.out.1 (HN.out.2.2.1.below b0) HN.out.2.1).mono ?_
  rintro e w1 ⟨x1, x2, x3, x4, d1, d2, d3, d4, rfl, o1, b'⟩
  have b1 := bel_next b0 b'
  have bz1 := b'
  have X1 := X0.below b'
  have Y1 := Y0.below b'
  have P1 := P0.below b'
  have Q1 := Q0.below b'
  have HG6 : Hid (z.heap.size ≤ w1.heap.size) := b'.size
  clear x0' x1' x2' x3' X0 Y0 P0 Q0 b0 b'
  have b' := bel_alloc w1 (.cells #[.slice x1 l1 d1, .slice x2 l2 d2, .slice x3 l3 d3, .slice x4 l4 d4] 27)
  have N' := Blk.new w1 #[.slice x1 l1 d1, .slice x2 l2 d2, .slice x3 l3 d3, .slice x4 l4 d4] 27
  obtain ⟨w2, hw2⟩ : ∃ x, x = w1.alloc (.cells #[.slice x1 l1 d1, .slice x2 l2 d2, .slice x3 l3 d3, .slice x4 l4 d4] 27) := ⟨_, rfl⟩
  rw [← hw2] at b' N'
  have HW2 : Hid (w2 = _) := hw2
  obtain ⟨G6, hBN⟩ : ∃ x, x = w1.heap.size := ⟨_, rfl⟩
  rw [← hBN] at N'
  have HBN : Hid (G6 = w1.heap.size) := hBN
  have S2 : ∀ G7 tc, G6 < G7 → Blk w2 G7 37 tc → True := fun _ _ _ _ => trivial
  have b2 := bel_next b1 b'
  have bz2 := bel_next bz1 b'
  have X2 := X1.below b'
  have Y2 := Y1.below b'
  have P2 := P1.below b'
  have Q2 := Q1.below b'
  have o2 := o1.below b'
  clear hw2 hBN b1 bz1 X1 Y1 P1 Q1 o1 b' S2
  obtain ⟨x0', x1', x2', x3'⟩ := X2.four
  go_upto_region 2 with fail
  rw [← HW2.out]
  simp only [← HBN.out]
  have HD : Hid (okD l1 l2 l3 l4 hs rs = true) := hd
  have HOK : Hid (okR 6 (k : Int) nn wa ws m1 m2 = true) := hok
  have HAL : Hid (svAll l1 l2 l3 l4 6 (k : Int) nn wa m1 m2 = true) := hal
  have HLM : Hid (l1 ≤ 2000000 ∧ l2 ≤ 2000000 ∧ l3 ≤ 2000000 ∧ l4 ≤ 2000000) := by have := okD_len hd; show _ ∧ _ ∧ _ ∧ _; omega
  clear hd hok hal
  go_wp2_with fail
  refine (specDeviceOk_any a1 a2 a3 a4 l1 l2 l3 l4 c1 c2 c3 c4 cs is hs rs _ HN.out.1 (HN.out.2.2.1.below b2) HN.out.2.1 true HD.out).mono ?_
  rintro e w3 ⟨rfl, b'⟩
  have b3 := bel_next b2 b'
  have bz3 := bel_next bz2 b'
  have X3 := X2.below b'
  have Y3 := Y2.below b'
  have P3 := P2.below b'
  have Q3 := Q2.below b'
  have N3 := N'.below b'
  have o3 := o2.below b'
  clear x0' x1' x2' x3' X2 Y2 P2 Q2 N' o2 b2 bz2 b'
  obtain ⟨x0', x1', x2', x3'⟩ := X3.four
  obtain ⟨y0', y1', y2', y3', y4', y5'⟩ := Y3.six
  go_wp2_with fail
  refine (specReqOk_q 6 (k : Int) nn wa q1 q2 m1 m2 k1 k2 ws bs _ HQ.out.1 HQ.out.2.1 (HN.out.2.2.2.1.below b3) (HN.out.2.2.2.2.below b3) HQ.out.2.2.1 HQ.out.2.2.2).mono ?_
  rintro e w4 ⟨he, b'⟩
  rw [HOK.out] at he
  subst he
  have b4 := bel_next b3 b'
  have bz4 := bel_next bz3 b'
  have X4 := X3.below b'
  have Y4 := Y3.below b'
  have P4 := P3.below b'
  have Q4 := Q3.below b'
  have N4 := N3.below b'
  have o4 := o3.below b'
  clear x0' x1' x2' x3' y0' y1' y2' y3' y4' y5' X3 Y3 P3 Q3 N3 o3 b3 bz3 b'
  obtain ⟨x0', x1', x2', x3'⟩ := X4.four
  obtain ⟨y0', y1', y2', y3', y4', y5'⟩ := Y4.six
  go_wp2_with fail
  refine (l5There_any a1 a2 a3 a4 l1 l2 l3 l4 c1 c2 c3 c4 6 (k : Int) nn wa q1 q2 m1 m2 k1 k2 ws bs _ HQ.out.1 HQ.out.2.1 (HN.out.2.2.2.1.below b4) (HN.out.2.2.2.2.below b4) HQ.out.2.2.1 HQ.out.2.2.2 HOK.out HLM.out.1 HLM.out.2.1 HLM.out.2.2.1 HLM.out.2.2.2 true HAL.out).mono ?_
  rintro e w5 ⟨rfl, b'⟩
  have b5 := bel_next b4 b'
  have bz5 := bel_next bz4 b'
  have X5 := X4.below b'
  have Y5 := Y4.below b'
  have P5 := P4.below b'
  have Q5 := Q4.below b'
  have N5 := N4.below b'
  have o5 := o4.below b'
  clear x0' x1' x2' x3' y0' y1' y2' y3' y4' y5' X4 Y4 P4 Q4 N4 o4 b4 bz4 b'
  obtain ⟨y0', y1', y2', y3', y4', y5'⟩ := Y5.six
  have b' := bel_alloc w5 (.cells #[.int .i64 6, .int .i64 0, .int .i64 0, .int .i64 0, .slice none 0 0, .slice none 0 0] 37)
  have T' := Blk.new w5 #[.int .i64 6, .int .i64 0, .int .i64 0, .int .i64 0, .slice none 0 0, .slice none 0 0] 37
  obtain ⟨w6, hw6⟩ : ∃ x, x = w5.alloc (.cells #[.int .i64 6, .int .i64 0, .int .i64 0, .int .i64 0, .slice none 0 0, .slice none 0 0] 37) := ⟨_, rfl⟩
  rw [← hw6] at b' T'
  have HW6 : Hid (w6 = _) := hw6
  obtain ⟨G7, hG7⟩ : ∃ x, x = w5.heap.size := ⟨_, rfl⟩
  rw [← hG7] at T'
  have HG7 : Hid (G7 = w5.heap.size) := hG7
  have S6 : SS w #[.slice a1 l1 c1, .slice a2 l2 c2, .slice a3 l3 c3, .slice a4 l4 c4] #[.int .i64 6, .int .i64 (k : Int), .int .i64 nn, .slice q1 m1 k1, .slice q2 m2 k2, .int .i64 wa] z G6 G7 x1 x2 x3 x4 l1 l2 l3 l4 d1 d2 d3 d4 is rs cs hs #[.int .i64 6, .int .i64 0, .int .i64 0, .int .i64 0, .slice none 0 0, .slice none 0 0] w6 := ⟨X5.below b', Y5.below b', P5.below b', Q5.below b', N5.below b', T', o5.below b', bel_next b5 b', bel_next bz5 b', HZS.out, by have := HG6.out; have := HBN.out; omega, by rw [hG7]; exact N5.lt⟩
  clear X5 Y5 P5 Q5 N5 o5 b5 bz5 b' T' hw6 hG7
  go_upto_region 7 with fail
  clear y0' y1' y2' y3' y4' y5'
  rw [← HW6.out]
  simp only [← HG7.out]
  clear HW6 HG7 HW2 HBN HZ
  have HK : Hid (k + ws.length ≤ l3) := hpk
  have HXL : Hid (ws.length ≤ 2000000) := HQ.out.2.2.1
  have im1 : (m1 : Int) ≤ 2000000 := by have := HQ.out; omega
  clear hpk
  obtain ⟨x0', x1', x2', x3'⟩ := S6.X.four
  obtain ⟨y0', y1', y2', y3', y4', y5'⟩ := S6.Y.six
  obtain ⟨n0', n1', n2', n3'⟩ := S6.N.four
  obtain ⟨t0', t1', t2', t3', t4', t5'⟩ := S6.T.six
  have ft0 := S6.T.fro 0
  have ft1 := S6.T.fro 1
  have ft2 := S6.T.fro 2
  have ft3 := S6.T.fro 3
  have ft4 := S6.T.fro 4
  have ft5 := S6.T.fro 5
  go_wp2_with fail
  refine (l5Write_any x1 x2 x3 x4 l1 l2 l3 l4 d1 d2 d3 d4 cs is hs rs k q1 m1 k1 ws z _ S6.belz S6.D HQ.out.1 (HN.out.2.2.2.1.below HB0.out) HK.out HLM.out.2.2.1).mono ?_
  rintro e w7 ⟨rfl, D7, _, C7⟩
  have S7 := S6.chg C7 D7
  clear D7 C7 S6
  clear x0' x1' x2' x3' y0' y1' y2' y3' y4' y5' n0' n1' n2' n3' t0' t1' t2' t3' t4' t5' ft0 ft1 ft2 ft3 ft4 ft5
  obtain ⟨x0', x1', x2', x3'⟩ := S7.X.four
  obtain ⟨y0', y1', y2', y3', y4', y5'⟩ := S7.Y.six
  obtain ⟨n0', n1', n2', n3'⟩ := S7.N.four
  obtain ⟨t0', t1', t2', t3', t4', t5'⟩ := S7.T.six
  have ft0 := S7.T.fro 0
  have ft1 := S7.T.fro 1
  have ft2 := S7.T.fro 2
  have ft3 := S7.T.fro 3
  have ft4 := S7.T.fro 4
  have ft5 := S7.T.fro 5
  go_upto_region 29 with fail
  have S8' := S7.setT 2 (.int .i64 (k : Int))
  obtain ⟨wq, hwq⟩ : ∃ x, x = w7.setCell ⟨G7, 2, none⟩ (.int .i64 (k : Int)) := ⟨_, rfl⟩
  rw [← hwq] at S8' ⊢
  have S8 : SS w #[.slice a1 l1 c1, .slice a2 l2 c2, .slice a3 l3 c3, .slice a4 l4 c4] #[.int .i64 6, .int .i64 (k : Int), .int .i64 nn, .slice q1 m1 k1, .slice q2 m2 k2, .int .i64 wa] z G6 G7 x1 x2 x3 x4 l1 l2 l3 l4 d1 d2 d3 d4 is rs cs (wr hs k ws) #[.int .i64 6, .int .i64 0, .int .i64 (k : Int), .int .i64 0, .slice none 0 0, .slice none 0 0] wq := S8'
  clear hwq S8' S7
  clear x0' x1' x2' x3' y0' y1' y2' y3' y4' y5' n0' n1' n2' n3' t0' t1' t2' t3' t4' t5' ft0 ft1 ft2 ft3 ft4 ft5
  have oL : OwnI (wq.alloc (.cells #[] 3)) wq.heap.size (.slice (some ⟨wq.heap.size, 0, none⟩) 0 0) [] := ⟨rfl, .inr ⟨wq.heap.size, 0, #[], rfl, Nat.le_refl _, Blk.new wq #[] 3, by simp, by simp, rfl, rfl⟩⟩
  have SL := S8.below (bel_alloc wq (.cells #[] 3))
  obtain ⟨x0', x1', x2', x3'⟩ := SL.X.four
  obtain ⟨y0', y1', y2', y3', y4', y5'⟩ := SL.Y.six
  obtain ⟨n0', n1', n2', n3'⟩ := SL.N.four
  obtain ⟨t0', t1', t2', t3', t4', t5'⟩ := SL.T.six
  have ft0 := SL.T.fro 0
  have ft1 := SL.T.fro 1
  have ft2 := SL.T.fro 2
  have ft3 := SL.T.fro 3
  have ft4 := SL.T.fro 4
  have ft5 := SL.T.fro 5
  go_upto_region 41 with (at_builtin; obtain ⟨vA, uA, hr, oA, bA, _, r1, t1, hv⟩ := app0I (wq.alloc (.cells #[] 3)) wq.heap.size wq.heap.size (q1) m1 (k1) ws HQ.out.1 (HN.out.2.2.2.1.below (bel_next S8.bel (bel_alloc _ _))) HXL.out (Nat.le_refl _) oL; refine Lib.wpList_append_run _ rfl (.tmp 133) (.tmp 135) _ _ rfl _ _ rfl rfl _ _ hr ?_; subst hv; have SA := SL.below bA; have HAp : Hid (∀ g, (Of4 (.slice x1 l1 d1) (.slice x2 l2 d2) (.slice x3 l3 d3) (.slice x4 l4 d4)) g → ¬ Of2 (.slice r1 m1 t1) (.slice none 0 0) g) := S8.apart oA (ownB_nil0 _ _); have HOA : Hid (OwnI (uA.setCell ⟨G7, 4, none⟩ (.slice r1 m1 t1)) w.heap.size (.slice r1 m1 t1) ws) := row_setE (oA.mono S8.bel.size) ⟨_, SA.T⟩ (by decide); have SB := SA.setT 4 (.slice r1 m1 t1); obtain ⟨s0', s1', s2', s3', s4', s5'⟩ := SA.T.six; have fs := SA.T.fro 4; clear hr oA bA oL)
  obtain ⟨w8, hw8⟩ : ∃ x, x = uA.setCell ⟨G7, 4, none⟩ (.slice r1 m1 t1) := ⟨_, rfl⟩
  rw [← hw8] at SB HOA ⊢
  have S9 : SS w #[.slice a1 l1 c1, .slice a2 l2 c2, .slice a3 l3 c3, .slice a4 l4 c4] #[.int .i64 6, .int .i64 (k : Int), .int .i64 nn, .slice q1 m1 k1, .slice q2 m2 k2, .int .i64 wa] z G6 G7 x1 x2 x3 x4 l1 l2 l3 l4 d1 d2 d3 d4 is rs cs (wr hs k ws) #[.int .i64 6, .int .i64 0, .int .i64 (k : Int), .int .i64 0, .slice r1 m1 t1, .slice none 0 0] w8 := SB
  clear hw8 SB SA SL S8 s0' s1' s2' s3' s4' s5' fs
  clear x0' x1' x2' x3' y0' y1' y2' y3' y4' y5' n0' n1' n2' n3' t0' t1' t2' t3' t4' t5' ft0 ft1 ft2 ft3 ft4 ft5
  have OI := HOA
  obtain ⟨r2, p2, t2, hr2⟩ : ∃ (r2 : Option Addr) (p2 t2 : Nat), Value.slice r2 p2 t2 = .slice none 0 0 := ⟨none, 0, 0, rfl⟩
  rw [← hr2] at S9 HAp
  have OB : Hid (OwnB w8 w.heap.size (.slice r2 p2 t2) []) := by rw [hr2]; exact ownB_nil0 _ _
  clear hr2
  obtain ⟨p1, hp1⟩ : ∃ p1, p1 = m1 := ⟨_, rfl⟩
  have S10 : SS w #[.slice a1 l1 c1, .slice a2 l2 c2, .slice a3 l3 c3, .slice a4 l4 c4] #[.int .i64 6, .int .i64 (k : Int), .int .i64 nn, .slice q1 m1 k1, .slice q2 m2 k2, .int .i64 wa] z G6 G7 x1 x2 x3 x4 l1 l2 l3 l4 d1 d2 d3 d4 is rs cs (wr hs k ws) #[.int .i64 6, .int .i64 0, .int .i64 (k : Int), .int .i64 0, .slice r1 p1 t1, .slice r2 p2 t2] w8 := by rw [hp1]; exact S9
  rw [← hp1] at HAp OI
  clear S9 HOA hp1
  have N4 := S10.N
  have T' := S10.T
  have P4 := S10.P
  have Q4 := S10.Q
  have HH : Hid (OwnD w8 w.heap.size x1 x2 x3 x4 l1 l2 l3 l4 d1 d2 d3 d4 cs is (wr hs k ws) rs ∧ OwnI w8 w.heap.size (.slice r1 p1 t1) ws ∧ OwnB w8 w.heap.size (.slice r2 p2 t2) [] ∧ Below w.heap.size w w8 ∧ ExB w8 (w.heap.size + 1 + 1) 27 ∧ ExB w8 (w.heap.size + 1 + 1 + 1) 37) := ⟨S10.D.mono (by have := S10.zb0; omega), OI.out, OB.out, S10.bel, ⟨_, P4⟩, ⟨_, Q4⟩⟩
  have lN : w.heap.size + 1 + 1 + 1 + 1 ≤ G6 := by have := S10.zb0; have := S10.g6; omega
  have lT : w.heap.size + 1 + 1 + 1 + 1 ≤ G7 := by have := S10.g7; omega
  obtain ⟨n0, n1, n2, n3⟩ := N4.four
  obtain ⟨t0', t1', t2', t3', t4', t5'⟩ := T'.six
  obtain ⟨p0', p1', p2', p3'⟩ := P4.four
  obtain ⟨q0', q1', q2', q3', q4', q5'⟩ := Q4.six
  have fp0 := P4.fro 0
  have fp1 := P4.fro 1
  have fp2 := P4.fro 2
  have fp3 := P4.fro 3
  have fq0 := Q4.fro 0
  have fq1 := Q4.fro 1
  have fq2 := Q4.fro 2
  have fq3 := Q4.fro 3
  have fq4 := Q4.fro 4
  have fq5 := Q4.fro 5
  have e1 : ¬ (G6 = w.heap.size + 1 + 1) := by omega
  have e2 : ¬ (G6 = w.heap.size + 1 + 1 + 1) := by omega
  have e3 : ¬ (G7 = w.heap.size + 1 + 1) := by omega
  have e4 : ¬ (G7 = w.heap.size + 1 + 1 + 1) := by omega
  have e1' : ¬ (w.heap.size + 1 + 1 = G6) := by omega
  have e2' : ¬ (w.heap.size + 1 + 1 + 1 = G6) := by omega
  have e3' : ¬ (w.heap.size + 1 + 1 = G7) := by omega
  have e4' : ¬ (w.heap.size + 1 + 1 + 1 = G7) := by omega
  clear lN lT
  obtain ⟨W5, hW5⟩ : ∃ x, x = ((((((((((w8.setCell ⟨w.heap.size + 1 + 1, 0, none⟩ (.slice x1 l1 d1)).setCell ⟨w.heap.size + 1 + 1, 1, none⟩ (.slice x2 l2 d2)).setCell ⟨w.heap.size + 1 + 1, 2, none⟩ (.slice x3 l3 d3)).setCell ⟨w.heap.size + 1 + 1, 3, none⟩ (.slice x4 l4 d4)).setCell ⟨w.heap.size + 1 + 1 + 1, 0, none⟩ (.int .i64 (6))).setCell ⟨w.heap.size + 1 + 1 + 1, 1, none⟩ (.int .i64 (0))).setCell ⟨w.heap.size + 1 + 1 + 1, 2, none⟩ (.int .i64 ((k : Int)))).setCell ⟨w.heap.size + 1 + 1 + 1, 3, none⟩ (.int .i64 (0))).setCell ⟨w.heap.size + 1 + 1 + 1, 4, none⟩ (.slice r1 p1 t1)).setCell ⟨w.heap.size + 1 + 1 + 1, 5, none⟩ (.slice r2 p2 t2)) := ⟨_, rfl⟩
  have HW5 : Hid (W5 = _) := hW5
  have HF : Hid (OwnD W5 w.heap.size x1 x2 x3 x4 l1 l2 l3 l4 d1 d2 d3 d4 cs is (wr hs k ws) rs ∧ OwnI W5 w.heap.size (.slice r1 p1 t1) ws ∧ OwnB W5 w.heap.size (.slice r2 p2 t2) [] ∧ Below w.heap.size w W5) := by
    obtain ⟨o1, o2, o3, o4, o5, o6⟩ := HH.out
    have x6 : ∀ v0 v1 v2 v3 : Value, ExB ((((w8.setCell ⟨w.heap.size + 1 + 1, 0, none⟩ v0).setCell ⟨w.heap.size + 1 + 1, 1, none⟩ v1).setCell ⟨w.heap.size + 1 + 1, 2, none⟩ v2).setCell ⟨w.heap.size + 1 + 1, 3, none⟩ v3) (w.heap.size + 1 + 1 + 1) 37 := fun _ _ _ _ => ExB.set (ExB.set (ExB.set (ExB.set o6)))
    rw [hW5]
    exact ⟨(o1.set4 o5 (by decide) (by decide)).set6 (x6 _ _ _ _) (by decide) (by decide), rowp_set6 (row_set4 o2 o5 (by decide)) (x6 _ _ _ _) (by decide), rowp_set6 (row_set4 o3 o5 (by decide)) (x6 _ _ _ _) (by decide), belp_set6 (bel_set4 o4 (by omega)) (by omega)⟩
  have HPQ : Hid (Blk W5 (w.heap.size + 1 + 1) 27 #[.slice x1 l1 d1, .slice x2 l2 d2, .slice x3 l3 d3, .slice x4 l4 d4] ∧ Blk W5 (w.heap.size + 1 + 1 + 1) 37 #[.int .i64 6, .int .i64 0, .int .i64 (k : Int), .int .i64 0, .slice r1 p1 t1, .slice r2 p2 t2]) := by
    have a1' := (((P4.set 0 (.slice x1 l1 d1)).set 1 (.slice x2 l2 d2)).set 2 (.slice x3 l3 d3)).set 3 (.slice x4 l4 d4)
    have a2' := (((((a1'.setNe (g' := w.heap.size + 1 + 1 + 1) (j := 0) (y := .int .i64 (6)) (by omega)).setNe (g' := w.heap.size + 1 + 1 + 1) (j := 1) (y := .int .i64 (0)) (by omega)).setNe (g' := w.heap.size + 1 + 1 + 1) (j := 2) (y := .int .i64 ((k : Int))) (by omega)).setNe (g' := w.heap.size + 1 + 1 + 1) (j := 3) (y := .int .i64 (0)) (by omega)).setNe (g' := w.heap.size + 1 + 1 + 1) (j := 4) (y := .slice r1 p1 t1) (by omega)).setNe (g' := w.heap.size + 1 + 1 + 1) (j := 5) (y := .slice r2 p2 t2) (by omega)
    have c1' := (((Q4.setNe (g' := w.heap.size + 1 + 1) (j := 0) (y := .slice x1 l1 d1) (by omega)).setNe (g' := w.heap.size + 1 + 1) (j := 1) (y := .slice x2 l2 d2) (by omega)).setNe (g' := w.heap.size + 1 + 1) (j := 2) (y := .slice x3 l3 d3) (by omega)).setNe (g' := w.heap.size + 1 + 1) (j := 3) (y := .slice x4 l4 d4) (by omega)
    have c2' := (((((c1'.set 0 (.int .i64 (6))).set 1 (.int .i64 (0))).set 2 (.int .i64 ((k : Int)))).set 3 (.int .i64 (0))).set 4 (.slice r1 p1 t1)).set 5 (.slice r2 p2 t2)
    rw [hW5]
    exact ⟨a2', c2'⟩
  clear hW5 S10
  go_region
  rw [← HW5.out]
  obtain ⟨u0, u1, u2, u3⟩ := HPQ.out.1.four
  obtain ⟨v0, v1, v2, v3, v4, v5⟩ := HPQ.out.2.six
  clear p0' p1' p2' p3' q0' q1' q2' q3' q4' q5' fp0 fp1 fp2 fp3 fq0 fq1 fq2 fq3 fq4 fq5 n0 n1 n2 n3 t0' t1' t2' t3' t4' t5'
  go_wp2
  refine bodyPost_ret (v := .tuple #[dv x1 x2 x3 x4 l1 l2 l3 l4 d1 d2 d3 d4, rp (6) (0) ((k : Int)) (0) r1 r2 p1 p2 t1 t2]) (by simp [results, Try.results42, go_sem, u0, u1, u2, u3, v0, v1, v2, v3, v4, v5]) rfl ?_
  obtain ⟨o1, o2, o3, o4⟩ := HF.out
  exact ⟨_, _, _, _, _, _, _, _, _, _, _, _, _, _, _, _, _, _, rfl, o1.drew, o2.below (Below.refl _ _).drew, o3.below (Below.refl _ _).drew, HAp.out, o4.drew⟩
end Go.Proofs.Ytfdddkjonjpgpaa
namespace Go.Proofs.Ytfdddkjonjpgpaa
open Go.RowKit
set_option linter.unusedVariables false
set_option linter.unusedSimpArgs false
set_option maxRecDepth 20000 in
set_option maxHeartbeats 4000000 in
theorem specServe_23 (a1 a2 a3 a4 : Option Addr) (l1 l2 l3 l4 c1 c2 c3 c4 : Nat) (cs is : List Bool) (hs rs : List Int)  (q1 q2 : Option Addr) (m1 m2 k1 k2 : Nat) (ws : List Int) (bs : List Bool) (w : World) (hn : LnD l1 l2 l3 l4 cs is hs rs) (hs0 : SlD w a1 a2 a3 a4 cs is hs rs) (hsm : SmD 2000000 cs is hs rs) (hq : SlI w q1 ws) (hq2 : SlB w q2 bs) (h1 : m1 = ws.length) (h2 : m2 = bs.length) (hl : ws.length ≤ 2000000) (hl2 : bs.length ≤ 2000000) (k N j : Nat) (hN : 1 ≤ N) (hpk : k + N ≤ l3) (hpj : j + ws.length ≤ l3) (xs : List Int) (hxs : ((wr hs j ws).drop k).take N = xs) (hok : okR 23 (k : Int) (N : Int) (j : Int) ws m1 m2 = true) (hd : okD l1 l2 l3 l4 hs rs = true) (hal : svAll l1 l2 l3 l4 23 (k : Int) (N : Int) (j : Int) m1 m2 = true) :
    Calls Try.prog 42 #[dv a1 a2 a3 a4 l1 l2 l3 l4 c1 c2 c3 c4, .agg #[.int .i64 23, .int .i64 (k : Int), .int .i64 (N : Int), .slice q1 m1 k1, .slice q2 m2 k2, .int .i64 (j : Int)]] w fun e w' => SR w w' e cs is (wr hs j ws) rs 23 0 0 0 xs [] := by
  obtain ⟨z, hz⟩ : ∃ z, z = (((w.alloc (.cells #[.slice a1 l1 c1, .slice a2 l2 c2, .slice a3 l3 c3, .slice a4 l4 c4] 27)).alloc (.cells #[.int .i64 23, .int .i64 (k : Int), .int .i64 (N : Int), .slice q1 m1 k1, .slice q2 m2 k2, .int .i64 (j : Int)] 57)).alloc (.cells #[.slice none 0 0, .slice none 0 0, .slice none 0 0, .slice none 0 0] 27)).alloc (.cells #[.int .i64 0, .int .i64 0, .int .i64 0, .int .i64 0, .slice none 0 0, .slice none 0 0] 37) := ⟨_, rfl⟩
  have HZ : Hid (z = _) := hz
  have b0 : Below w.heap.size w z := by rw [hz]; exact bel_next (bel_next (bel_next (bel_alloc w _) (bel_alloc _ _)) (bel_alloc _ _)) (bel_alloc _ _)
  have X0 : Blk z w.heap.size 27 #[.slice a1 l1 c1, .slice a2 l2 c2, .slice a3 l3 c3, .slice a4 l4 c4] := by rw [hz]; exact (((Blk.new w _ _).below (bel_alloc _ _)).below (bel_alloc _ _)).below (bel_alloc _ _)
  have Y0 : Blk z (w.heap.size + 1) 57 #[.int .i64 23, .int .i64 (k : Int), .int .i64 (N : Int), .slice q1 m1 k1, .slice q2 m2 k2, .int .i64 (j : Int)] := by rw [hz]; have := ((Blk.new (w.alloc (.cells #[.slice a1 l1 c1, .slice a2 l2 c2, .slice a3 l3 c3, .slice a4 l4 c4] 27)) #[.int .i64 23, .int .i64 (k : Int), .int .i64 (N : Int), .slice q1 m1 k1, .slice q2 m2 k2, .int .i64 (j : Int)] 57).below (bel_alloc _ (.cells #[.slice none 0 0, .slice none 0 0, .slice none 0 0, .slice none 0 0] 27))).below (bel_alloc _ (.cells #[.int .i64 0, .int .i64 0, .int .i64 0, .int .i64 0, .slice none 0 0, .slice none 0 0] 37)); simpa using this
  have P0 : Blk z (w.heap.size + 1 + 1) 27 #[.slice none 0 0, .slice none 0 0, .slice none 0 0, .slice none 0 0] := by rw [hz]; have := (Blk.new ((w.alloc (.cells #[.slice a1 l1 c1, .slice a2 l2 c2, .slice a3 l3 c3, .slice a4 l4 c4] 27)).alloc (.cells #[.int .i64 23, .int .i64 (k : Int), .int .i64 (N : Int), .slice q1 m1 k1, .slice q2 m2 k2, .int .i64 (j : Int)] 57)) #[.slice none 0 0, .slice none 0 0, .slice none 0 0, .slice none 0 0] 27).below (bel_alloc _ (.cells #[.int .i64 0, .int .i64 0, .int .i64 0, .int .i64 0, .slice none 0 0, .slice none 0 0] 37)); simpa using this
  have Q0 : Blk z (w.heap.size + 1 + 1 + 1) 37 #[.int .i64 0, .int .i64 0, .int .i64 0, .int .i64 0, .slice none 0 0, .slice none 0 0] := by rw [hz]; have := Blk.new (((w.alloc (.cells #[.slice a1 l1 c1, .slice a2 l2 c2, .slice a3 l3 c3, .slice a4 l4 c4] 27)).alloc (.cells #[.int .i64 23, .int .i64 (k : Int), .int .i64 (N : Int), .slice q1 m1 k1, .slice q2 m2 k2, .int .i64 (j : Int)] 57)).alloc (.cells #[.slice none 0 0, .slice none 0 0, .slice none 0 0, .slice none 0 0] 27)) #[.int .i64 0, .int .i64 0, .int .i64 0, .int .i64 0, .slice none 0 0, .slice none 0 0] 37; simpa using this
  have HN : Hid (LnD l1 l2 l3 l4 cs is hs rs ∧ SmD 2000000 cs is hs rs ∧ SlD w a1 a2 a3 a4 cs is hs rs ∧ SlI w q1 ws ∧ SlB w q2 bs) := ⟨hn, hsm, hs0, hq, hq2⟩
  have HQ : Hid (m1 = ws.length ∧ m2 = bs.length ∧ ws.length ≤ 2000000 ∧ bs.length ≤ 2000000) := ⟨h1, h2, hl, hl2⟩
  have HB0 : Hid (Below w.heap.size w z) := b0
  have HZS : Hid (z.heap.size = w.heap.size + 1 + 1 + 1 + 1) := by show _ = _; rw [hz]; simp
  obtain ⟨x0', x1', x2', x3'⟩ := X0.four
  clear hz hn hs0 hsm hq hq2 h1 h2 hl hl2
  go_enter Try.func42, Try.ntmps42
  go_upto_region 1 with fail
  rw [← HZ.out]
  go_wp2_with fail
  refine (l5Copy_any a1 a2 a3 a4 l1 l2 l3 l4 c1 c2 c3 c4 cs is hs rs _ HN.out.1 (HN.out.2.2.1.below b0) HN.out.2.1).mono ?_
  rintro e w1 ⟨x1, x2, x3, x4, d1, d2, d3, d4, rfl, o1, b'⟩
  have b1 := bel_next b0 b'
  have bz1 := b'
  have X1 := X0.below b'
  have Y1 := Y0.below b'
  have P1 := P0.below b'
  have Q1 := Q0.below b'
  have HG6 : Hid (z.heap.size ≤ w1.heap.size) := b'.size
  clear x0' x1' x2' x3' X0 Y0 P0 Q0 b0 b'
  have b' := bel_alloc w1 (.cells #[.slice x1 l1 d1, .slice x2 l2 d2, .slice x3 l3 d3, .slice x4 l4 d4] 27)
  have N' := Blk.new w1 #[.slice x1 l1 d1, .slice x2 l2 d2, .slice x3 l3 d3, .slice x4 l4 d4] 27
  obtain ⟨w2, hw2⟩ : ∃ x, x = w1.alloc (.cells #[.slice x1 l1 d1, .slice x2 l2 d2, .slice x3 l3 d3, .slice x4 l4 d4] 27) := ⟨_, rfl⟩
  rw [← hw2] at b' N'
  have HW2 : Hid (w2 = _) := hw2
  obtain ⟨G6, hBN⟩ : ∃ x, x = w1.heap.size := ⟨_, rfl⟩
  rw [← hBN] at N'
  have HBN : Hid (G6 = w1.heap.size) := hBN
  have S2 : ∀ G7 tc, G6 < G7 → Blk w2 G7 37 tc → True := fun _ _ _ _ => trivial
  have b2 := bel_next b1 b'
  have bz2 := bel_next bz1 b'
  have X2 := X1.below b'
  have Y2 := Y1.below b'
  have P2 := P1.below b'
  have Q2 := Q1.below b'
  have o2 := o1.below b'
  clear hw2 hBN b1 bz1 X1 Y1 P1 Q1 o1 b' S2
  obtain ⟨x0', x1', x2', x3'⟩ := X2.four
  go_upto_region 2 with fail
  rw [← HW2.out]
  simp only [← HBN.out]
  have HD : Hid (okD l1 l2 l3 l4 hs rs = true) := hd
  have HOK : Hid (okR 23 (k : Int) (N : Int) (j : Int) ws m1 m2 = true) := hok
  have HAL : Hid (svAll l1 l2 l3 l4 23 (k : Int) (N : Int) (j : Int) m1 m2 = true) := hal
  have HLM : Hid (l1 ≤ 2000000 ∧ l2 ≤ 2000000 ∧ l3 ≤ 2000000 ∧ l4 ≤ 2000000) := by have := okD_len hd; show _ ∧ _ ∧ _ ∧ _; omega
  clear hd hok hal
  go_wp2_with fail
  refine (specDeviceOk_any a1 a2 a3 a4 l1 l2 l3 l4 c1 c2 c3 c4 cs is hs rs _ HN.out.1 (HN.out.2.2.1.below b2) HN.out.2.1 true HD.out).mono ?_
  rintro e w3 ⟨rfl, b'⟩
  have b3 := bel_next b2 b'
  have bz3 := bel_next bz2 b'
  have X3 := X2.below b'
  have Y3 := Y2.below b'
  have P3 := P2.below b'
  have Q3 := Q2.below b'
  have N3 := N'.below b'
  have o3 := o2.below b'
  clear x0' x1' x2' x3' X2 Y2 P2 Q2 N' o2 b2 bz2 b'
  obtain ⟨x0', x1', x2', x3'⟩ := X3.four
  obtain ⟨y0', y1', y2', y3', y4', y5'⟩ := Y3.six
  go_wp2_with fail
  refine (specReqOk_q 23 (k : Int) (N : Int) (j : Int) q1 q2 m1 m2 k1 k2 ws bs _ HQ.out.1 HQ.out.2.1 (HN.out.2.2.2.1.below b3) (HN.out.2.2.2.2.below b3) HQ.out.2.2.1 HQ.out.2.2.2).mono ?_
  rintro e w4 ⟨he, b'⟩
  rw [HOK.out] at he
  subst he
  have b4 := bel_next b3 b'
  have bz4 := bel_next bz3 b'
  have X4 := X3.below b'
  have Y4 := Y3.below b'
  have P4 := P3.below b'
  have Q4 := Q3.below b'
  have N4 := N3.below b'
  have o4 := o3.below b'
  clear x0' x1' x2' x3' y0' y1' y2' y3' y4' y5' X3 Y3 P3 Q3 N3 o3 b3 bz3 b'
  obtain ⟨x0', x1', x2', x3'⟩ := X4.four
  obtain ⟨y0', y1', y2', y3', y4', y5'⟩ := Y4.six
  go_wp2_with fail
  refine (l5There_any a1 a2 a3 a4 l1 l2 l3 l4 c1 c2 c3 c4 23 (k : Int) (N : Int) (j : Int) q1 q2 m1 m2 k1 k2 ws bs _ HQ.out.1 HQ.out.2.1 (HN.out.2.2.2.1.below b4) (HN.out.2.2.2.2.below b4) HQ.out.2.2.1 HQ.out.2.2.2 HOK.out HLM.out.1 HLM.out.2.1 HLM.out.2.2.1 HLM.out.2.2.2 true HAL.out).mono ?_
  rintro e w5 ⟨rfl, b'⟩
  have b5 := bel_next b4 b'
  have bz5 := bel_next bz4 b'
  have X5 := X4.below b'
  have Y5 := Y4.below b'
  have P5 := P4.below b'
  have Q5 := Q4.below b'
  have N5 := N4.below b'
  have o5 := o4.below b'
  clear x0' x1' x2' x3' y0' y1' y2' y3' y4' y5' X4 Y4 P4 Q4 N4 o4 b4 bz4 b'
  obtain ⟨y0', y1', y2', y3', y4', y5'⟩ := Y5.six
  have b' := bel_alloc w5 (.cells #[.int .i64 23, .int .i64 0, .int .i64 0, .int .i64 0, .slice none 0 0, .slice none 0 0] 37)
  have T' := Blk.new w5 #[.int .i64 23, .int .i64 0, .int .i64 0, .int .i64 0, .slice none 0 0, .slice none 0 0] 37
  obtain ⟨w6, hw6⟩ : ∃ x, x = w5.alloc (.cells #[.int .i64 23, .int .i64 0, .int .i64 0, .int .i64 0, .slice none 0 0, .slice none 0 0] 37) := ⟨_, rfl⟩
  rw [← hw6] at b' T'
  have HW6 : Hid (w6 = _) := hw6
  obtain ⟨G7, hG7⟩ : ∃ x, x = w5.heap.size := ⟨_, rfl⟩
  rw [← hG7] at T'
  have HG7 : Hid (G7 = w5.heap.size) := hG7
  have S6 : SS w #[.slice a1 l1 c1, .slice a2 l2 c2, .slice a3 l3 c3, .slice a4 l4 c4] #[.int .i64 23, .int .i64 (k : Int), .int .i64 (N : Int), .slice q1 m1 k1, .slice q2 m2 k2, .int .i64 (j : Int)] z G6 G7 x1 x2 x3 x4 l1 l2 l3 l4 d1 d2 d3 d4 is rs cs hs #[.int .i64 23, .int .i64 0, .int .i64 0, .int .i64 0, .slice none 0 0, .slice none 0 0] w6 := ⟨X5.below b', Y5.below b', P5.below b', Q5.below b', N5.below b', T', o5.below b', bel_next b5 b', bel_next bz5 b', HZS.out, by have := HG6.out; have := HBN.out; omega, by rw [hG7]; exact N5.lt⟩
  clear X5 Y5 P5 Q5 N5 o5 b5 bz5 b' T' hw6 hG7
  go_upto_region 7 with fail
  clear y0' y1' y2' y3' y4' y5'
  rw [← HW6.out]
  simp only [← HG7.out]
  clear HW6 HG7 HW2 HBN HZ
  have HK : Hid (k + N ≤ l3 ∧ 1 ≤ N ∧ j + ws.length ≤ l3) := ⟨hpk, hN, hpj⟩
  clear hpk hN hpj
  obtain ⟨x0', x1', x2', x3'⟩ := S6.X.four
  obtain ⟨y0', y1', y2', y3', y4', y5'⟩ := S6.Y.six
  obtain ⟨n0', n1', n2', n3'⟩ := S6.N.four
  obtain ⟨t0', t1', t2', t3', t4', t5'⟩ := S6.T.six
  have ft0 := S6.T.fro 0
  have ft1 := S6.T.fro 1
  have ft2 := S6.T.fro 2
  have ft3 := S6.T.fro 3
  have ft4 := S6.T.fro 4
  have ft5 := S6.T.fro 5
  go_wp2_with fail
  refine (l5Write_any x1 x2 x3 x4 l1 l2 l3 l4 d1 d2 d3 d4 cs is hs rs j q1 m1 k1 ws z _ S6.belz S6.D HQ.out.1 (HN.out.2.2.2.1.below HB0.out) HK.out.2.2 HLM.out.2.2.1).mono ?_
  rintro e w7 ⟨rfl, D7, _, C7⟩
  have S7 := S6.chg C7 D7
  clear D7 C7 S6
  clear x0' x1' x2' x3' y0' y1' y2' y3' y4' y5' n0' n1' n2' n3' t0' t1' t2' t3' t4' t5' ft0 ft1 ft2 ft3 ft4 ft5
  have hlw : l3 = (wr hs j ws).length := S7.D.sl.1.2.2.1
  obtain ⟨bA', eA', hcap⟩ := S7.D.2.2.1.cap (by have := HK.out; omega)
  have HXS : Hid (SlI w7 (some ⟨bA', 0 + k, none⟩) (((wr hs j ws).drop k).take N) ∧ N = (((wr hs j ws).drop k).take N).length ∧ l3 ≤ d3) := by
    refine ⟨slI_subG (by rw [← eA']; exact S7.D.2.2.1.sl.2) (by have := HK.out; omega), ?_, hcap⟩
    have := HK.out; simp; omega
  have HXL : Hid ((((wr hs j ws).drop k).take N).length ≤ 2000000) := hide (by have := HXS.out.2.1; have := HK.out; have := HLM.out; omega)
  subst eA'
  clear hlw hcap
  rw [Nat.zero_add] at HXS
  rw [hxs] at HXS HXL
  clear hxs
  have i0 : (k : Int) ≤ (k : Int) + (N : Int) := by have := HK.out; have := HXS.out.2.2; omega
  have i1 : (k : Int) + (N : Int) ≤ (l3 : Int) := by have := HK.out; have := HXS.out.2.2; omega
  have i2 : (k : Int) + (N : Int) ≤ (d3 : Int) := by have := HK.out; have := HXS.out.2.2; omega
  have i3 : (0 : Int) ≤ (k : Int) := by omega
  have i4 : (0 : Int) ≤ (k : Int) + (N : Int) := by omega
  have i5 : IntKind.i64.wrap ((k : Int) + (N : Int)) = (k : Int) + (N : Int) := by have := HK.out; have := HXS.out.2.2; have := HLM.out; rw [IntKind.wrap_i64]; omega
  have i6 : (k : Int) ≤ (d3 : Int) := by have := HK.out; have := HXS.out.2.2; omega
  have i7 : ¬ d3 = k := by have := HK.out; have := HXS.out.2.2; omega
  have i8 : ((k : Int) + (N : Int)).toNat - k = N := by omega
  have oL : OwnI (w7.alloc (.cells #[] 3)) w7.heap.size (.slice (some ⟨w7.heap.size, 0, none⟩) 0 0) [] := ⟨rfl, .inr ⟨w7.heap.size, 0, #[], rfl, Nat.le_refl _, Blk.new w7 #[] 3, by simp, by simp, rfl, rfl⟩⟩
  have SL := S7.below (bel_alloc w7 (.cells #[] 3))
  obtain ⟨x0', x1', x2', x3'⟩ := SL.X.four
  obtain ⟨y0', y1', y2', y3', y4', y5'⟩ := SL.Y.six
  obtain ⟨n0', n1', n2', n3'⟩ := SL.N.four
  obtain ⟨t0', t1', t2', t3', t4', t5'⟩ := SL.T.six
  have ft0 := SL.T.fro 0
  have ft1 := SL.T.fro 1
  have ft2 := SL.T.fro 2
  have ft3 := SL.T.fro 3
  have ft4 := SL.T.fro 4
  have ft5 := SL.T.fro 5
  go_upto_region 41 with (at_builtin; obtain ⟨vA, uA, hr, oA, bA, _, r1, t1, hv⟩ := app0I (w7.alloc (.cells #[] 3)) w7.heap.size w7.heap.size (some ⟨bA', k, none⟩) N (d3 - k) xs HXS.out.2.1 (HXS.out.1.below (bel_alloc _ _)) HXL.out (Nat.le_refl _) oL; refine Lib.wpList_append_run _ rfl (.tmp 200) (.tmp 210) _ _ rfl _ _ rfl rfl _ _ hr ?_; subst hv; have SA := SL.below bA; have HAp : Hid (∀ g, (Of4 (.slice x1 l1 d1) (.slice x2 l2 d2) (.slice (some ⟨bA', 0, none⟩) l3 d3) (.slice x4 l4 d4)) g → ¬ Of2 (.slice r1 N t1) (.slice none 0 0) g) := S7.apart oA (ownB_nil0 _ _); have HOA : Hid (OwnI (uA.setCell ⟨G7, 4, none⟩ (.slice r1 N t1)) w.heap.size (.slice r1 N t1) xs) := row_setE (oA.mono S7.bel.size) ⟨_, SA.T⟩ (by decide); have SB := SA.setT 4 (.slice r1 N t1); obtain ⟨s0', s1', s2', s3', s4', s5'⟩ := SA.T.six; have fs := SA.T.fro 4; clear hr oA bA oL)
  obtain ⟨w8, hw8⟩ : ∃ x, x = uA.setCell ⟨G7, 4, none⟩ (.slice r1 N t1) := ⟨_, rfl⟩
  rw [← hw8] at SB HOA ⊢
  have S9 : SS w #[.slice a1 l1 c1, .slice a2 l2 c2, .slice a3 l3 c3, .slice a4 l4 c4] #[.int .i64 23, .int .i64 (k : Int), .int .i64 (N : Int), .slice q1 m1 k1, .slice q2 m2 k2, .int .i64 (j : Int)] z G6 G7 x1 x2 (some ⟨bA', 0, none⟩) x4 l1 l2 l3 l4 d1 d2 d3 d4 is rs cs (wr hs j ws) #[.int .i64 23, .int .i64 0, .int .i64 0, .int .i64 0, .slice r1 N t1, .slice none 0 0] w8 := SB
  clear hw8 SB SA SL S7 s0' s1' s2' s3' s4' s5' fs
  clear x0' x1' x2' x3' y0' y1' y2' y3' y4' y5' n0' n1' n2' n3' t0' t1' t2' t3' t4' t5' ft0 ft1 ft2 ft3 ft4 ft5
  have OI := HOA
  obtain ⟨r2, p2, t2, hr2⟩ : ∃ (r2 : Option Addr) (p2 t2 : Nat), Value.slice r2 p2 t2 = .slice none 0 0 := ⟨none, 0, 0, rfl⟩
  rw [← hr2] at S9 HAp
  have OB : Hid (OwnB w8 w.heap.size (.slice r2 p2 t2) []) := by rw [hr2]; exact ownB_nil0 _ _
  clear hr2
  obtain ⟨p1, hp1⟩ : ∃ p1, p1 = N := ⟨_, rfl⟩
  have S10 : SS w #[.slice a1 l1 c1, .slice a2 l2 c2, .slice a3 l3 c3, .slice a4 l4 c4] #[.int .i64 23, .int .i64 (k : Int), .int .i64 (N : Int), .slice q1 m1 k1, .slice q2 m2 k2, .int .i64 (j : Int)] z G6 G7 x1 x2 (some ⟨bA', 0, none⟩) x4 l1 l2 l3 l4 d1 d2 d3 d4 is rs cs (wr hs j ws) #[.int .i64 23, .int .i64 0, .int .i64 0, .int .i64 0, .slice r1 p1 t1, .slice r2 p2 t2] w8 := by rw [hp1]; exact S9
  rw [← hp1] at HAp OI
  clear S9 i0 i1 i2 i3 i4 i5 i6 i7 i8 HXS HXL HK HOA hp1 HOK HAL
  have N4 := S10.N
  have T' := S10.T
  have P4 := S10.P
  have Q4 := S10.Q
  have HH : Hid (OwnD w8 w.heap.size x1 x2 (some ⟨bA', 0, none⟩) x4 l1 l2 l3 l4 d1 d2 d3 d4 cs is (wr hs j ws) rs ∧ OwnI w8 w.heap.size (.slice r1 p1 t1) xs ∧ OwnB w8 w.heap.size (.slice r2 p2 t2) [] ∧ Below w.heap.size w w8 ∧ ExB w8 (w.heap.size + 1 + 1) 27 ∧ ExB w8 (w.heap.size + 1 + 1 + 1) 37) := ⟨S10.D.mono (by have := S10.zb0; omega), OI.out, OB.out, S10.bel, ⟨_, P4⟩, ⟨_, Q4⟩⟩
  have lN : w.heap.size + 1 + 1 + 1 + 1 ≤ G6 := by have := S10.zb0; have := S10.g6; omega
  have lT : w.heap.size + 1 + 1 + 1 + 1 ≤ G7 := by have := S10.g7; omega
  obtain ⟨n0, n1, n2, n3⟩ := N4.four
  obtain ⟨t0', t1', t2', t3', t4', t5'⟩ := T'.six
  obtain ⟨p0', p1', p2', p3'⟩ := P4.four
  obtain ⟨q0', q1', q2', q3', q4', q5'⟩ := Q4.six
  have fp0 := P4.fro 0
  have fp1 := P4.fro 1
  have fp2 := P4.fro 2
  have fp3 := P4.fro 3
  have fq0 := Q4.fro 0
  have fq1 := Q4.fro 1
  have fq2 := Q4.fro 2
  have fq3 := Q4.fro 3
  have fq4 := Q4.fro 4
  have fq5 := Q4.fro 5
  have e1 : ¬ (G6 = w.heap.size + 1 + 1) := by omega
  have e2 : ¬ (G6 = w.heap.size + 1 + 1 + 1) := by omega
  have e3 : ¬ (G7 = w.heap.size + 1 + 1) := by omega
  have e4 : ¬ (G7 = w.heap.size + 1 + 1 + 1) := by omega
  have e1' : ¬ (w.heap.size + 1 + 1 = G6) := by omega
  have e2' : ¬ (w.heap.size + 1 + 1 + 1 = G6) := by omega
  have e3' : ¬ (w.heap.size + 1 + 1 = G7) := by omega
  have e4' : ¬ (w.heap.size + 1 + 1 + 1 = G7) := by omega
  clear lN lT
  obtain ⟨W5, hW5⟩ : ∃ x, x = ((((((((((w8.setCell ⟨w.heap.size + 1 + 1, 0, none⟩ (.slice x1 l1 d1)).setCell ⟨w.heap.size + 1 + 1, 1, none⟩ (.slice x2 l2 d2)).setCell ⟨w.heap.size + 1 + 1, 2, none⟩ (.slice (some ⟨bA', 0, none⟩) l3 d3)).setCell ⟨w.heap.size + 1 + 1, 3, none⟩ (.slice x4 l4 d4)).setCell ⟨w.heap.size + 1 + 1 + 1, 0, none⟩ (.int .i64 (23))).setCell ⟨w.heap.size + 1 + 1 + 1, 1, none⟩ (.int .i64 (0))).setCell ⟨w.heap.size + 1 + 1 + 1, 2, none⟩ (.int .i64 (0))).setCell ⟨w.heap.size + 1 + 1 + 1, 3, none⟩ (.int .i64 (0))).setCell ⟨w.heap.size + 1 + 1 + 1, 4, none⟩ (.slice r1 p1 t1)).setCell ⟨w.heap.size + 1 + 1 + 1, 5, none⟩ (.slice r2 p2 t2)) := ⟨_, rfl⟩
  have HW5 : Hid (W5 = _) := hW5
  have HF : Hid (OwnD W5 w.heap.size x1 x2 (some ⟨bA', 0, none⟩) x4 l1 l2 l3 l4 d1 d2 d3 d4 cs is (wr hs j ws) rs ∧ OwnI W5 w.heap.size (.slice r1 p1 t1) xs ∧ OwnB W5 w.heap.size (.slice r2 p2 t2) [] ∧ Below w.heap.size w W5) := by
    obtain ⟨o1, o2, o3, o4, o5, o6⟩ := HH.out
    have x6 : ∀ v0 v1 v2 v3 : Value, ExB ((((w8.setCell ⟨w.heap.size + 1 + 1, 0, none⟩ v0).setCell ⟨w.heap.size + 1 + 1, 1, none⟩ v1).setCell ⟨w.heap.size + 1 + 1, 2, none⟩ v2).setCell ⟨w.heap.size + 1 + 1, 3, none⟩ v3) (w.heap.size + 1 + 1 + 1) 37 := fun _ _ _ _ => ExB.set (ExB.set (ExB.set (ExB.set o6)))
    rw [hW5]
    exact ⟨(o1.set4 o5 (by decide) (by decide)).set6 (x6 _ _ _ _) (by decide) (by decide), rowp_set6 (row_set4 o2 o5 (by decide)) (x6 _ _ _ _) (by decide), rowp_set6 (row_set4 o3 o5 (by decide)) (x6 _ _ _ _) (by decide), belp_set6 (bel_set4 o4 (by omega)) (by omega)⟩
  have HPQ : Hid (Blk W5 (w.heap.size + 1 + 1) 27 #[.slice x1 l1 d1, .slice x2 l2 d2, .slice (some ⟨bA', 0, none⟩) l3 d3, .slice x4 l4 d4] ∧ Blk W5 (w.heap.size + 1 + 1 + 1) 37 #[.int .i64 23, .int .i64 0, .int .i64 0, .int .i64 0, .slice r1 p1 t1, .slice r2 p2 t2]) := by
    have a1' := (((P4.set 0 (.slice x1 l1 d1)).set 1 (.slice x2 l2 d2)).set 2 (.slice (some ⟨bA', 0, none⟩) l3 d3)).set 3 (.slice x4 l4 d4)
    have a2' := (((((a1'.setNe (g' := w.heap.size + 1 + 1 + 1) (j := 0) (y := .int .i64 (23)) (by omega)).setNe (g' := w.heap.size + 1 + 1 + 1) (j := 1) (y := .int .i64 (0)) (by omega)).setNe (g' := w.heap.size + 1 + 1 + 1) (j := 2) (y := .int .i64 (0)) (by omega)).setNe (g' := w.heap.size + 1 + 1 + 1) (j := 3) (y := .int .i64 (0)) (by omega)).setNe (g' := w.heap.size + 1 + 1 + 1) (j := 4) (y := .slice r1 p1 t1) (by omega)).setNe (g' := w.heap.size + 1 + 1 + 1) (j := 5) (y := .slice r2 p2 t2) (by omega)
    have c1' := (((Q4.setNe (g' := w.heap.size + 1 + 1) (j := 0) (y := .slice x1 l1 d1) (by omega)).setNe (g' := w.heap.size + 1 + 1) (j := 1) (y := .slice x2 l2 d2) (by omega)).setNe (g' := w.heap.size + 1 + 1) (j := 2) (y := .slice (some ⟨bA', 0, none⟩) l3 d3) (by omega)).setNe (g' := w.heap.size + 1 + 1) (j := 3) (y := .slice x4 l4 d4) (by omega)
    have c2' := (((((c1'.set 0 (.int .i64 (23))).set 1 (.int .i64 (0))).set 2 (.int .i64 (0))).set 3 (.int .i64 (0))).set 4 (.slice r1 p1 t1)).set 5 (.slice r2 p2 t2)
    rw [hW5]
    exact ⟨a2', c2'⟩
  clear hW5 S10
  go_region
  rw [← HW5.out]
  obtain ⟨u0, u1, u2, u3⟩ := HPQ.out.1.four
  obtain ⟨v0, v1, v2, v3, v4, v5⟩ := HPQ.out.2.six
  clear p0' p1' p2' p3' q0' q1' q2' q3' q4' q5' fp0 fp1 fp2 fp3 fq0 fq1 fq2 fq3 fq4 fq5 n0 n1 n2 n3 t0' t1' t2' t3' t4' t5'
  go_wp2
  refine bodyPost_ret (v := .tuple #[dv x1 x2 (some ⟨bA', 0, none⟩) x4 l1 l2 l3 l4 d1 d2 d3 d4, rp (23) (0) (0) (0) r1 r2 p1 p2 t1 t2]) (by simp [results, Try.results42, go_sem, u0, u1, u2, u3, v0, v1, v2, v3, v4, v5]) rfl ?_
  obtain ⟨o1, o2, o3, o4⟩ := HF.out
  exact ⟨_, _, _, _, _, _, _, _, _, _, _, _, _, _, _, _, _, _, rfl, o1.drew, o2.below (Below.refl _ _).drew, o3.below (Below.refl _ _).drew, HAp.out, o4.drew⟩
end Go.Proofs.Ytfdddkjonjpgpaa
