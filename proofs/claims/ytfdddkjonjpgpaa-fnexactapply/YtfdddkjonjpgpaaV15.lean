/- Texts that the proof needs, joined: Dev27g Dev27h Dev28 ArgQ ArgD Dev29 Dev30. -/
import Derived.Test.YtfdddkjonjpgpaaV12
import Derived.BigRegion
import Derived.Lib.AppendZeros
import Derived.Test.YtfdddkjonjpgpaaV13
import Derived.Test.YtfdddkjonjpgpaaV14
import Derived.Test.YtfdddkjonjpgpaaV1
namespace Go.Proofs.Ytfdddkjonjpgpaa
open Go.RowKit
set_option linter.unusedVariables false
set_option linter.unusedSimpArgs false
set_option maxRecDepth 20000 in
set_option maxHeartbeats 4000000 in
theorem specServe_15 (a1 a2 a3 a4 : Option Addr) (l1 l2 l3 l4 c1 c2 c3 c4 : Nat) (cs is : List Bool) (hs rs : List Int) (nn wa : Int) (q1 q2 : Option Addr) (m1 m2 k1 k2 : Nat) (ws : List Int) (bs : List Bool) (w : World) (hn : LnD l1 l2 l3 l4 cs is hs rs) (hs0 : SlD w a1 a2 a3 a4 cs is hs rs) (hsm : SmD 2000000 cs is hs rs) (hq : SlI w q1 ws) (hq2 : SlB w q2 bs) (h1 : m1 = ws.length) (h2 : m2 = bs.length) (hl : ws.length ≤ 2000000) (hl2 : bs.length ≤ 2000000) (k : Nat) (hpk : k + bs.length ≤ l1) (hok : okR 15 (k : Int) nn wa ws m1 m2 = true) (hd : okD l1 l2 l3 l4 hs rs = true) (hal : svAll l1 l2 l3 l4 15 (k : Int) nn wa m1 m2 = true) :
    Calls Try.prog 42 #[dv a1 a2 a3 a4 l1 l2 l3 l4 c1 c2 c3 c4, .agg #[.int .i64 15, .int .i64 (k : Int), .int .i64 nn, .slice q1 m1 k1, .slice q2 m2 k2, .int .i64 wa]] w fun e w' => SR w w' e (wr cs k bs) is hs rs 15 0 (k : Int) (m2 : Int) [] [] := by
  obtain ⟨z, hz⟩ : ∃ z, z = (((w.alloc (.cells #[.slice a1 l1 c1, .slice a2 l2 c2, .slice a3 l3 c3, .slice a4 l4 c4] 27)).alloc (.cells #[.int .i64 15, .int .i64 (k : Int), .int .i64 nn, .slice q1 m1 k1, .slice q2 m2 k2, .int .i64 wa] 57)).alloc (.cells #[.slice none 0 0, .slice none 0 0, .slice none 0 0, .slice none 0 0] 27)).alloc (.cells #[.int .i64 0, .int .i64 0, .int .i64 0, .int .i64 0, .slice none 0 0, .slice none 0 0] 37) := ⟨_, rfl⟩
  have HZ : Hid (z = _) := hz
  have b0 : Below w.heap.size w z := by rw [hz]; exact bel_next (bel_next (bel_next (bel_alloc w _) (bel_alloc _ _)) (bel_alloc _ _)) (bel_alloc _ _)
  have X0 : Blk z w.heap.size 27 #[.slice a1 l1 c1, .slice a2 l2 c2, .slice a3 l3 c3, .slice a4 l4 c4] := by rw [hz]; exact (((Blk.new w _ _).below (bel_alloc _ _)).below (bel_alloc _ _)).below (bel_alloc _ _)
  have Y0 : Blk z (w.heap.size + 1) 57 #[.int .i64 15, .int .i64 (k : Int), .int .i64 nn, .slice q1 m1 k1, .slice q2 m2 k2, .int .i64 wa] := by rw [hz]; have := ((Blk.new (w.alloc (.cells #[.slice a1 l1 c1, .slice a2 l2 c2, .slice a3 l3 c3, .slice a4 l4 c4] 27)) #[.int .i64 15, .int .i64 (k : Int), .int .i64 nn, .slice q1 m1 k1, .slice q2 m2 k2, .int .i64 wa] 57).below (bel_alloc _ (.cells #[.slice none 0 0, .slice none 0 0, .slice none 0 0, .slice none 0 0] 27))).below (bel_alloc _ (.cells #[.int .i64 0, .int .i64 0, .int .i64 0, .int .i64 0, .slice none 0 0, .slice none 0 0] 37)); simpa using this
  have P0 : Blk z (w.heap.size + 1 + 1) 27 #[.slice none 0 0, .slice none 0 0, .slice none 0 0, .slice none 0 0] := by rw [hz]; have := (Blk.new ((w.alloc (.cells #[.slice a1 l1 c1, .slice a2 l2 c2, .slice a3 l3 c3, .slice a4 l4 c4] 27)).alloc (.cells #[.int .i64 15, .int .i64 (k : Int), .int .i64 nn, .slice q1 m1 k1, .slice q2 m2 k2, .int .i64 wa] 57)) #[.slice none 0 0, .slice none 0 0, .slice none 0 0, .slice none 0 0] 27).below (bel_alloc _ (.cells #[.int .i64 0, .int .i64 0, .int .i64 0, .int .i64 0, .slice none 0 0, .slice none 0 0] 37)); simpa using this
  have Q0 : Blk z (w.heap.size + 1 + 1 + 1) 37 #[.int .i64 0, .int .i64 0, .int .i64 0, .int .i64 0, .slice none 0 0, .slice none 0 0] := by rw [hz]; have := Blk.new (((w.alloc (.cells #[.slice a1 l1 c1, .slice a2 l2 c2, .slice a3 l3 c3, .slice a4 l4 c4] 27)).alloc (.cells #[.int .i64 15, .int .i64 (k : Int), .int .i64 nn, .slice q1 m1 k1, .slice q2 m2 k2, .int .i64 wa] 57)).alloc (.cells #[.slice none 0 0, .slice none 0 0, .slice none 0 0, .slice none 0 0] 27)) #[.int .i64 0, .int .i64 0, .int .i64 0, .int .i64 0, .slice none 0 0, .slice none 0 0] 37; simpa using this
  have HN : Hid (LnD l1 l2 l3 l4 cs is hs rs ∧ SmD 2000000 cs is hs rs ∧ SlD w a1 a2 a3 a4 cs is hs rs ∧ SlI w q1 ws ∧ SlB w q2 bs) := ⟨hn, hsm, hs0, hq, hq2⟩
  have HQ : Hid (m1 = ws.length ∧ m2 = bs.length ∧ ws.length ≤ 2000000 ∧ bs.length ≤ 2000000) := ⟨h1, h2, hl, hl2⟩
  have HB0 : Hid (Below w.heap.size w z) := b0
  have HZS : Hid (z.heap.size = w.heap.size + 1 + 1 + 1 + 1) := by show _ = _; rw [hz]; simp
  obtain ⟨x0', x1', x2', x3'⟩ := X0.four
  clear hz hn hs0 hsm hq hq2 h1 h2 hl hl2
  go_enter Try.func42, Try.ntmps42
  go_upto_region 1 with fail
  rw [← HZ.out]
  go_wp2_with fail
  refine (l5Copy_any a1 a2 a3 a4 l1 l2 l3 l4 c1 c2 c3 c4 cs is hs rs _ HN.out.1 (HN.out.2.2.1.below b0) HN.out.2.1).mono ?_
  rintro e w1 ⟨x1, x2, x3, x4, d1, d2, d3, d4, rfl, o1, b'⟩
  have b1 := bel_next b0 b'
  have bz1 := b'
  have X1 := X0.below b'
  have Y1 := Y0.below b'
  have P1 := P0.below b'
  have Q1 := Q0.below b'
  have HG6 : Hid (z.heap.size ≤ w1.heap.size) := b'.size
  clear x0' x1' x2' x3' X0 Y0 P0 Q0 b0 b'
  have b' := bel_alloc w1 (.cells #[.slice x1 l1 d1, .slice x2 l2 d2, .slice x3 l3 d3, .slice x4 l4 d4] 27)
  have N' := Blk.new w1 #[.slice x1 l1 d1, .slice x2 l2 d2, .slice x3 l3 d3, .slice x4 l4 d4] 27
  obtain ⟨w2, hw2⟩ : ∃ x, x = w1.alloc (.cells #[.slice x1 l1 d1, .slice x2 l2 d2, .slice x3 l3 d3, .slice x4 l4 d4] 27) := ⟨_, rfl⟩
  rw [← hw2] at b' N'
  have HW2 : Hid (w2 = _) := hw2
  obtain ⟨G6, hBN⟩ : ∃ x, x = w1.heap.size := ⟨_, rfl⟩
  rw [← hBN] at N'
  have HBN : Hid (G6 = w1.heap.size) := hBN
  have S2 : ∀ G7 tc, G6 < G7 → Blk w2 G7 37 tc → True := fun _ _ _ _ => trivial
  have b2 := bel_next b1 b'
  have bz2 := bel_next bz1 b'
  have X2 := X1.below b'
  have Y2 := Y1.below b'
  have P2 := P1.below b'
  have Q2 := Q1.below b'
  have o2 := o1.below b'
  clear hw2 hBN b1 bz1 X1 Y1 P1 Q1 o1 b' S2
  obtain ⟨x0', x1', x2', x3'⟩ := X2.four
  go_upto_region 2 with fail
  rw [← HW2.out]
  simp only [← HBN.out]
  have HD : Hid (okD l1 l2 l3 l4 hs rs = true) := hd
  have HOK : Hid (okR 15 (k : Int) nn wa ws m1 m2 = true) := hok
  have HAL : Hid (svAll l1 l2 l3 l4 15 (k : Int) nn wa m1 m2 = true) := hal
  have HLM : Hid (l1 ≤ 2000000 ∧ l2 ≤ 2000000 ∧ l3 ≤ 2000000 ∧ l4 ≤ 2000000) := by have := okD_len hd; show _ ∧ _ ∧ _ ∧ _; omega
  clear hd hok hal
  go_wp2_with fail
  refine (specDeviceOk_any a1 a2 a3 a4 l1 l2 l3 l4 c1 c2 c3 c4 cs is hs rs _ HN.out.1 (HN.out.2.2.1.below b2) HN.out.2.1 true HD.out).mono ?_
  rintro e w3 ⟨rfl, b'⟩
  have b3 := bel_next b2 b'
  have bz3 := bel_next bz2 b'
  have X3 := X2.below b'
  have Y3 := Y2.below b'
  have P3 := P2.below b'
  have Q3 := Q2.below b'
  have N3 := N'.below b'
  have o3 := o2.below b'
  clear x0' x1' x2' x3' X2 Y2 P2 Q2 N' o2 b2 bz2 b'
  obtain ⟨x0', x1', x2', x3'⟩ := X3.four
  obtain ⟨y0', y1', y2', y3', y4', y5'⟩ := Y3.six
  go_wp2_with fail
  refine (specReqOk_q 15 (k : Int) nn wa q1 q2 m1 m2 k1 k2 ws bs _ HQ.out.1 HQ.out.2.1 (HN.out.2.2.2.1.below b3) (HN.out.2.2.2.2.below b3) HQ.out.2.2.1 HQ.out.2.2.2).mono ?_
  rintro e w4 ⟨he, b'⟩
  rw [HOK.out] at he
  subst he
  have b4 := bel_next b3 b'
  have bz4 := bel_next bz3 b'
  have X4 := X3.below b'
  have Y4 := Y3.below b'
  have P4 := P3.below b'
  have Q4 := Q3.below b'
  have N4 := N3.below b'
  have o4 := o3.below b'
  clear x0' x1' x2' x3' y0' y1' y2' y3' y4' y5' X3 Y3 P3 Q3 N3 o3 b3 bz3 b'
  obtain ⟨x0', x1', x2', x3'⟩ := X4.four
  obtain ⟨y0', y1', y2', y3', y4', y5'⟩ := Y4.six
  go_wp2_with fail
  refine (l5There_any a1 a2 a3 a4 l1 l2 l3 l4 c1 c2 c3 c4 15 (k : Int) nn wa q1 q2 m1 m2 k1 k2 ws bs _ HQ.out.1 HQ.out.2.1 (HN.out.2.2.2.1.below b4) (HN.out.2.2.2.2.below b4) HQ.out.2.2.1 HQ.out.2.2.2 HOK.out HLM.out.1 HLM.out.2.1 HLM.out.2.2.1 HLM.out.2.2.2 true HAL.out).mono ?_
  rintro e w5 ⟨rfl, b'⟩
  have b5 := bel_next b4 b'
  have bz5 := bel_next bz4 b'
  have X5 := X4.below b'
  have Y5 := Y4.below b'
  have P5 := P4.below b'
  have Q5 := Q4.below b'
  have N5 := N4.below b'
  have o5 := o4.below b'
  clear x0' x1' x2' x3' y0' y1' y2' y3' y4' y5' X4 Y4 P4 Q4 N4 o4 b4 bz4 b'
  obtain ⟨y0', y1', y2', y3', y4', y5'⟩ := Y5.six
  have b' := bel_alloc w5 (.cells #[.int .i64 15, .int .i64 0, .int .i64 0, .int .i64 0, .slice none 0 0, .slice none 0 0] 37)
  have T' := Blk.new w5 #[.int .i64 15, .int .i64 0, .int .i64 0, .int .i64 0, .slice none 0 0, .slice none 0 0] 37
  obtain ⟨w6, hw6⟩ : ∃ x, x = w5.alloc (.cells #[.int .i64 15, .int .i64 0, .int .i64 0, .int .i64 0, .slice none 0 0, .slice none 0 0] 37) := ⟨_, rfl⟩
  rw [← hw6] at b' T'
  have HW6 : Hid (w6 = _) := hw6
  obtain ⟨G7, hG7⟩ : ∃ x, x = w5.heap.size := ⟨_, rfl⟩
  rw [← hG7] at T'
  have HG7 : Hid (G7 = w5.heap.size) := hG7
  have S6 : SS w #[.slice a1 l1 c1, .slice a2 l2 c2, .slice a3 l3 c3, .slice a4 l4 c4] #[.int .i64 15, .int .i64 (k : Int), .int .i64 nn, .slice q1 m1 k1, .slice q2 m2 k2, .int .i64 wa] z G6 G7 x1 x2 x3 x4 l1 l2 l3 l4 d1 d2 d3 d4 is rs cs hs #[.int .i64 15, .int .i64 0, .int .i64 0, .int .i64 0, .slice none 0 0, .slice none 0 0] w6 := ⟨X5.below b', Y5.below b', P5.below b', Q5.below b', N5.below b', T', o5.below b', bel_next b5 b', bel_next bz5 b', HZS.out, by have := HG6.out; have := HBN.out; omega, by rw [hG7]; exact N5.lt⟩
  clear X5 Y5 P5 Q5 N5 o5 b5 bz5 b' T' hw6 hG7
  go_upto_region 7 with fail
  clear y0' y1' y2' y3' y4' y5'
  rw [← HW6.out]
  simp only [← HG7.out]
  clear HW6 HG7 HW2 HBN HZ
  have HK : Hid (k + bs.length ≤ l1) := hpk
  have HXL : Hid (bs.length ≤ 2000000) := HQ.out.2.2.2
  clear hpk
  obtain ⟨x0', x1', x2', x3'⟩ := S6.X.four
  obtain ⟨y0', y1', y2', y3', y4', y5'⟩ := S6.Y.six
  obtain ⟨n0', n1', n2', n3'⟩ := S6.N.four
  obtain ⟨t0', t1', t2', t3', t4', t5'⟩ := S6.T.six
  have ft0 := S6.T.fro 0
  have ft1 := S6.T.fro 1
  have ft2 := S6.T.fro 2
  have ft3 := S6.T.fro 3
  have ft4 := S6.T.fro 4
  have ft5 := S6.T.fro 5
  go_wp2
  have HS6 : Hid (SS w #[.slice a1 l1 c1, .slice a2 l2 c2, .slice a3 l3 c3, .slice a4 l4 c4] #[.int .i64 15, .int .i64 (k : Int), .int .i64 nn, .slice q1 m1 k1, .slice q2 m2 k2, .int .i64 wa] z G6 G7 x1 x2 x3 x4 l1 l2 l3 l4 d1 d2 d3 d4 is rs cs hs #[.int .i64 15, .int .i64 0, .int .i64 0, .int .i64 0, .slice none 0 0, .slice none 0 0] w6) := S6
  clear S6
  clear x0' x1' x2' x3' y0' y1' y2' y3' y4' y5' n0' n1' n2' n3' t0' t1' t2' t3' t4' t5' ft0 ft1 ft2 ft3 ft4 ft5
  go_loopw [8] (fun i wx => ∃ j : Nat, j ≤ bs.length ∧ i = .int .i64 j ∧ SS w #[.slice a1 l1 c1, .slice a2 l2 c2, .slice a3 l3 c3, .slice a4 l4 c4] #[.int .i64 15, .int .i64 (k : Int), .int .i64 nn, .slice q1 m1 k1, .slice q2 m2 k2, .int .i64 wa] z G6 G7 x1 x2 x3 x4 l1 l2 l3 l4 d1 d2 d3 d4 is rs (wr cs k (bs.take j)) hs #[.int .i64 15, .int .i64 0, .int .i64 0, .int .i64 0, .slice none 0 0, .slice none 0 0] wx) (fun i _ => bs.length - (intOf i).toNat)
  case atStart => exact ⟨0, Nat.zero_le _, rfl, by rw [List.take_zero, wr_nil]; exact HS6.out⟩
  case round =>
  obtain ⟨j, hj, rfl, S7⟩ := hrel
  clear HS6
  have hm2 : (m2 : Int) = (bs.length : Int) := by rw [HQ.out.2.1]
  have hm2' : (m2 : Int) ≤ 2000000 := by have := HXL.out; omega
  obtain ⟨x0', x1', x2', x3'⟩ := S7.X.four
  obtain ⟨y0', y1', y2', y3', y4', y5'⟩ := S7.Y.six
  obtain ⟨n0', n1', n2', n3'⟩ := S7.N.four
  obtain ⟨t0', t1', t2', t3', t4', t5'⟩ := S7.T.six
  have ft0 := S7.T.fro 0
  have ft1 := S7.T.fro 1
  have ft2 := S7.T.fro 2
  have ft3 := S7.T.fro 3
  have ft4 := S7.T.fro 4
  have ft5 := S7.T.fro 5
  by_cases hlt : j < bs.length
  · obtain ⟨bq, off, eq, hbq, hcq⟩ := cell_atB (HN.out.2.2.2.2.below S7.bel) hlt
    subst eq
    obtain ⟨b, eb, hb, hbl, hc, hf, hset⟩ := S7.D.setCoil (k := k + j) (by have := HK.out; omega)
    subst eb
    obtain ⟨D1, C1⟩ := hset (bs.getD j false)
    have eL : (Ytfdddkjonjpgpaa.wr cs k (bs.take j)).set (k + j) (bs.getD j false) = Ytfdddkjonjpgpaa.wr cs k (bs.take (j + 1)) := by
      have h1 : (bs.take j).length = j := by simp; omega
      rw [take_snocG hlt false]
      have := wr_snoc cs k (bs.take j) (bs.getD j false) (by have := HK.out; have := HN.out.1.1; omega)
      rw [h1] at this
      exact this
    rw [eL] at D1
    have S8 := S7.chg C1 D1
    have S9 := S8.below (Below.refl _ _).drew
    have HS9 : Hid (SS w #[.slice a1 l1 c1, .slice a2 l2 c2, .slice a3 l3 c3, .slice a4 l4 c4] #[.int .i64 15, .int .i64 (k : Int), .int .i64 nn, .slice q1 m1 k1, .slice (some ⟨bq, off, none⟩) m2 k2, .int .i64 wa] z G6 G7 (some ⟨b, 0, none⟩) x2 x3 x4 l1 l2 l3 l4 d1 d2 d3 d4 is rs (Ytfdddkjonjpgpaa.wr cs k (bs.take (j + 1))) hs #[.int .i64 15, .int .i64 0, .int .i64 0, .int .i64 0, .slice none 0 0, .slice none 0 0] (wr.setCell ⟨b, k + j, none⟩ (.bool (bs.getD j false))).drew) := S9
    generalize bs.getD j false = x at *
    have i0 : (j : Int) < (m2 : Int) := by omega
    have i1 : (k : Int) + (j : Int) < (l1 : Int) := by have := HK.out; omega
    have i2 : IntKind.i64.wrap ((k : Int) + (j : Int)) = (k : Int) + (j : Int) := by have := HK.out; have := HLM.out; rw [IntKind.wrap_i64]; omega
    have i3 : ((k : Int) + (j : Int)).toNat = k + j := by omega
    have i4 : (0 : Int) ≤ (k : Int) + (j : Int) := by omega
    clear S7 S8 S9 D1 C1 hset eL hm2
    go_upto_region 21 with fail
    go_region
    all_goals go_wp2
    go_roundw
    case rel => exact ⟨j + 1, by omega, by go_num, HS9.out⟩
    case measure => simp [intOf]; omega
  have eT : bs.take j = bs := List.take_of_length_le (by omega)
  rw [eT] at S7
  have hi' : ¬ ((j : Int) < (m2 : Int)) := by omega
  clear eT hm2
  go_upto_region 41 with fail
  have SB := (S7.setT 2 (.int .i64 (k : Int))).setT 3 (.int .i64 (m2 : Int))
  obtain ⟨w8, hw8⟩ : ∃ x, x = (wr.setCell ⟨G7, 2, none⟩ (.int .i64 (k : Int))).setCell ⟨G7, 3, none⟩ (.int .i64 (m2 : Int)) := ⟨_, rfl⟩
  rw [← hw8] at SB ⊢
  have S9 : SS w #[.slice a1 l1 c1, .slice a2 l2 c2, .slice a3 l3 c3, .slice a4 l4 c4] #[.int .i64 15, .int .i64 (k : Int), .int .i64 nn, .slice q1 m1 k1, .slice q2 m2 k2, .int .i64 wa] z G6 G7 x1 x2 x3 x4 l1 l2 l3 l4 d1 d2 d3 d4 is rs (Ytfdddkjonjpgpaa.wr cs k bs) hs #[.int .i64 15, .int .i64 0, .int .i64 (k : Int), .int .i64 (m2 : Int), .slice none 0 0, .slice none 0 0] w8 := SB
  clear hw8 SB S7
  clear x0' x1' x2' x3' y0' y1' y2' y3' y4' y5' n0' n1' n2' n3' t0' t1' t2' t3' t4' t5' ft0 ft1 ft2 ft3 ft4 ft5
  have HAp : Hid (∀ g, (Of4 (.slice x1 l1 d1) (.slice x2 l2 d2) (.slice x3 l3 d3) (.slice x4 l4 d4)) g → ¬ Of2 (.slice none 0 0) (.slice none 0 0) g) := S9.apart (ownI_nil0 w8 _) (ownB_nil0 w8 _)
  obtain ⟨r1, p1, t1, hr1, r2, p2, t2, hr2⟩ : ∃ (r1 : Option Addr) (p1 t1 : Nat) (_ : Value.slice r1 p1 t1 = .slice none 0 0) (r2 : Option Addr) (p2 t2 : Nat), Value.slice r2 p2 t2 = .slice none 0 0 := ⟨none, 0, 0, rfl, none, 0, 0, rfl⟩
  have OI : Hid (OwnI w8 w.heap.size (.slice r1 p1 t1) []) := by rw [hr1]; exact ownI_nil0 _ _
  have OB : Hid (OwnB w8 w.heap.size (.slice r2 p2 t2) []) := by rw [hr2]; exact ownB_nil0 _ _
  have S10 : SS w #[.slice a1 l1 c1, .slice a2 l2 c2, .slice a3 l3 c3, .slice a4 l4 c4] #[.int .i64 15, .int .i64 (k : Int), .int .i64 nn, .slice q1 m1 k1, .slice q2 m2 k2, .int .i64 wa] z G6 G7 x1 x2 x3 x4 l1 l2 l3 l4 d1 d2 d3 d4 is rs (Ytfdddkjonjpgpaa.wr cs k bs) hs #[.int .i64 15, .int .i64 0, .int .i64 (k : Int), .int .i64 (m2 : Int), .slice r1 p1 t1, .slice r2 p2 t2] w8 := by rw [hr1, hr2]; exact S9
  have HAp' : Hid (∀ g, (Of4 (.slice x1 l1 d1) (.slice x2 l2 d2) (.slice x3 l3 d3) (.slice x4 l4 d4)) g → ¬ Of2 (.slice r1 p1 t1) (.slice r2 p2 t2) g) := by rw [hr1, hr2]; exact HAp
  clear HAp S9
  have HAp := HAp'
  clear HAp' hr1 hr2
  have N4 := S10.N
  have T' := S10.T
  have P4 := S10.P
  have Q4 := S10.Q
  have HH : Hid (OwnD w8 w.heap.size x1 x2 x3 x4 l1 l2 l3 l4 d1 d2 d3 d4 (Ytfdddkjonjpgpaa.wr cs k bs) is hs rs ∧ OwnI w8 w.heap.size (.slice r1 p1 t1) [] ∧ OwnB w8 w.heap.size (.slice r2 p2 t2) [] ∧ Below w.heap.size w w8 ∧ ExB w8 (w.heap.size + 1 + 1) 27 ∧ ExB w8 (w.heap.size + 1 + 1 + 1) 37) := ⟨S10.D.mono (by have := S10.zb0; omega), OI.out, OB.out, S10.bel, ⟨_, P4⟩, ⟨_, Q4⟩⟩
  have lN : w.heap.size + 1 + 1 + 1 + 1 ≤ G6 := by have := S10.zb0; have := S10.g6; omega
  have lT : w.heap.size + 1 + 1 + 1 + 1 ≤ G7 := by have := S10.g7; omega
  obtain ⟨n0, n1, n2, n3⟩ := N4.four
  obtain ⟨t0', t1', t2', t3', t4', t5'⟩ := T'.six
  obtain ⟨p0', p1', p2', p3'⟩ := P4.four
  obtain ⟨q0', q1', q2', q3', q4', q5'⟩ := Q4.six
  have fp0 := P4.fro 0
  have fp1 := P4.fro 1
  have fp2 := P4.fro 2
  have fp3 := P4.fro 3
  have fq0 := Q4.fro 0
  have fq1 := Q4.fro 1
  have fq2 := Q4.fro 2
  have fq3 := Q4.fro 3
  have fq4 := Q4.fro 4
  have fq5 := Q4.fro 5
  have e1 : ¬ (G6 = w.heap.size + 1 + 1) := by omega
  have e2 : ¬ (G6 = w.heap.size + 1 + 1 + 1) := by omega
  have e3 : ¬ (G7 = w.heap.size + 1 + 1) := by omega
  have e4 : ¬ (G7 = w.heap.size + 1 + 1 + 1) := by omega
  have e1' : ¬ (w.heap.size + 1 + 1 = G6) := by omega
  have e2' : ¬ (w.heap.size + 1 + 1 + 1 = G6) := by omega
  have e3' : ¬ (w.heap.size + 1 + 1 = G7) := by omega
  have e4' : ¬ (w.heap.size + 1 + 1 + 1 = G7) := by omega
  clear lN lT
  obtain ⟨W5, hW5⟩ : ∃ x, x = ((((((((((w8.setCell ⟨w.heap.size + 1 + 1, 0, none⟩ (.slice x1 l1 d1)).setCell ⟨w.heap.size + 1 + 1, 1, none⟩ (.slice x2 l2 d2)).setCell ⟨w.heap.size + 1 + 1, 2, none⟩ (.slice x3 l3 d3)).setCell ⟨w.heap.size + 1 + 1, 3, none⟩ (.slice x4 l4 d4)).setCell ⟨w.heap.size + 1 + 1 + 1, 0, none⟩ (.int .i64 (15))).setCell ⟨w.heap.size + 1 + 1 + 1, 1, none⟩ (.int .i64 (0))).setCell ⟨w.heap.size + 1 + 1 + 1, 2, none⟩ (.int .i64 ((k : Int)))).setCell ⟨w.heap.size + 1 + 1 + 1, 3, none⟩ (.int .i64 ((m2 : Int)))).setCell ⟨w.heap.size + 1 + 1 + 1, 4, none⟩ (.slice r1 p1 t1)).setCell ⟨w.heap.size + 1 + 1 + 1, 5, none⟩ (.slice r2 p2 t2)) := ⟨_, rfl⟩
  have HW5 : Hid (W5 = _) := hW5
  have HF : Hid (OwnD W5 w.heap.size x1 x2 x3 x4 l1 l2 l3 l4 d1 d2 d3 d4 (Ytfdddkjonjpgpaa.wr cs k bs) is hs rs ∧ OwnI W5 w.heap.size (.slice r1 p1 t1) [] ∧ OwnB W5 w.heap.size (.slice r2 p2 t2) [] ∧ Below w.heap.size w W5) := by
    obtain ⟨o1, o2, o3, o4, o5, o6⟩ := HH.out
    have x6 : ∀ v0 v1 v2 v3 : Value, ExB ((((w8.setCell ⟨w.heap.size + 1 + 1, 0, none⟩ v0).setCell ⟨w.heap.size + 1 + 1, 1, none⟩ v1).setCell ⟨w.heap.size + 1 + 1, 2, none⟩ v2).setCell ⟨w.heap.size + 1 + 1, 3, none⟩ v3) (w.heap.size + 1 + 1 + 1) 37 := fun _ _ _ _ => ExB.set (ExB.set (ExB.set (ExB.set o6)))
    rw [hW5]
    exact ⟨(o1.set4 o5 (by decide) (by decide)).set6 (x6 _ _ _ _) (by decide) (by decide), rowp_set6 (row_set4 o2 o5 (by decide)) (x6 _ _ _ _) (by decide), rowp_set6 (row_set4 o3 o5 (by decide)) (x6 _ _ _ _) (by decide), belp_set6 (bel_set4 o4 (by omega)) (by omega)⟩
  have HPQ : Hid (Blk W5 (w.heap.size + 1 + 1) 27 #[.slice x1 l1 d1, .slice x2 l2 d2, .slice x3 l3 d3, .slice x4 l4 d4] ∧ Blk W5 (w.heap.size + 1 + 1 + 1) 37 #[.int .i64 15, .int .i64 0, .int .i64 (k : Int), .int .i64 (m2 : Int), .slice r1 p1 t1, .slice r2 p2 t2]) := by
    have a1' := (((P4.set 0 (.slice x1 l1 d1)).set 1 (.slice x2 l2 d2)).set 2 (.slice x3 l3 d3)).set 3 (.slice x4 l4 d4)
    have a2' := (((((a1'.setNe (g' := w.heap.size + 1 + 1 + 1) (j := 0) (y := .int .i64 (15)) (by omega)).setNe (g' := w.heap.size + 1 + 1 + 1) (j := 1) (y := .int .i64 (0)) (by omega)).setNe (g' := w.heap.size + 1 + 1 + 1) (j := 2) (y := .int .i64 ((k : Int))) (by omega)).setNe (g' := w.heap.size + 1 + 1 + 1) (j := 3) (y := .int .i64 ((m2 : Int))) (by omega)).setNe (g' := w.heap.size + 1 + 1 + 1) (j := 4) (y := .slice r1 p1 t1) (by omega)).setNe (g' := w.heap.size + 1 + 1 + 1) (j := 5) (y := .slice r2 p2 t2) (by omega)
    have c1' := (((Q4.setNe (g' := w.heap.size + 1 + 1) (j := 0) (y := .slice x1 l1 d1) (by omega)).setNe (g' := w.heap.size + 1 + 1) (j := 1) (y := .slice x2 l2 d2) (by omega)).setNe (g' := w.heap.size + 1 + 1) (j := 2) (y := .slice x3 l3 d3) (by omega)).setNe (g' := w.heap.size + 1 + 1) (j := 3) (y := .slice x4 l4 d4) (by omega)
    have c2' := (((((c1'.set 0 (.int .i64 (15))).set 1 (.int .i64 (0))).set 2 (.int .i64 ((k : Int)))).set 3 (.int .i64 ((m2 : Int)))).set 4 (.slice r1 p1 t1)).set 5 (.slice r2 p2 t2)
    rw [hW5]
    exact ⟨a2', c2'⟩
  clear hW5 S10
  go_region
  rw [← HW5.out]
  obtain ⟨u0, u1, u2, u3⟩ := HPQ.out.1.four
  obtain ⟨v0, v1, v2, v3, v4, v5⟩ := HPQ.out.2.six
  clear p0' p1' p2' p3' q0' q1' q2' q3' q4' q5' fp0 fp1 fp2 fp3 fq0 fq1 fq2 fq3 fq4 fq5 n0 n1 n2 n3 t0' t1' t2' t3' t4' t5'
  go_wp2
  refine bodyPost_ret (v := .tuple #[dv x1 x2 x3 x4 l1 l2 l3 l4 d1 d2 d3 d4, rp (15) (0) ((k : Int)) ((m2 : Int)) r1 r2 p1 p2 t1 t2]) (by simp [results, Try.results42, go_sem, u0, u1, u2, u3, v0, v1, v2, v3, v4, v5]) rfl ?_
  obtain ⟨o1, o2, o3, o4⟩ := HF.out
  exact ⟨_, _, _, _, _, _, _, _, _, _, _, _, _, _, _, _, _, _, rfl, o1.drew, o2.below (Below.refl _ _).drew, o3.below (Below.refl _ _).drew, HAp.out, o4.drew⟩
set_option maxRecDepth 20000 in
set_option maxHeartbeats 4000000 in
theorem specServe_5 (a1 a2 a3 a4 : Option Addr) (l1 l2 l3 l4 c1 c2 c3 c4 : Nat) (cs is : List Bool) (hs rs : List Int) (nn wa : Int) (q1 q2 : Option Addr) (m1 m2 k1 k2 : Nat) (ws : List Int) (bs : List Bool) (w : World) (hn : LnD l1 l2 l3 l4 cs is hs rs) (hs0 : SlD w a1 a2 a3 a4 cs is hs rs) (hsm : SmD 2000000 cs is hs rs) (hq : SlI w q1 ws) (hq2 : SlB w q2 bs) (h1 : m1 = ws.length) (h2 : m2 = bs.length) (hl : ws.length ≤ 2000000) (hl2 : bs.length ≤ 2000000) (k : Nat) (hpk : k + bs.length ≤ l1) (hok : okR 5 (k : Int) nn wa ws m1 m2 = true) (hd : okD l1 l2 l3 l4 hs rs = true) (hal : svAll l1 l2 l3 l4 5 (k : Int) nn wa m1 m2 = true) :
    Calls Try.prog 42 #[dv a1 a2 a3 a4 l1 l2 l3 l4 c1 c2 c3 c4, .agg #[.int .i64 5, .int .i64 (k : Int), .int .i64 nn, .slice q1 m1 k1, .slice q2 m2 k2, .int .i64 wa]] w fun e w' => SR w w' e (wr cs k bs) is hs rs 5 0 (k : Int) 0 [] bs := by
  obtain ⟨z, hz⟩ : ∃ z, z = (((w.alloc (.cells #[.slice a1 l1 c1, .slice a2 l2 c2, .slice a3 l3 c3, .slice a4 l4 c4] 27)).alloc (.cells #[.int .i64 5, .int .i64 (k : Int), .int .i64 nn, .slice q1 m1 k1, .slice q2 m2 k2, .int .i64 wa] 57)).alloc (.cells #[.slice none 0 0, .slice none 0 0, .slice none 0 0, .slice none 0 0] 27)).alloc (.cells #[.int .i64 0, .int .i64 0, .int .i64 0, .int .i64 0, .slice none 0 0, .slice none 0 0] 37) := ⟨_, rfl⟩
  have HZ : Hid (z = _) := hz
  have b0 : Below w.heap.size w z := by rw [hz]; exact bel_next (bel_next (bel_next (bel_alloc w _) (bel_alloc _ _)) (bel_alloc _ _)) (bel_alloc _ _)
  have X0 : Blk z w.heap.size 27 #[.slice a1 l1 c1, .slice a2 l2 c2, .slice a3 l3 c3, .slice a4 l4 c4] := by rw [hz]; exact (((Blk.new w _ _).below (bel_alloc _ _)).below (bel_alloc _ _)).below (bel_alloc _ _)
  have Y0 : Blk z (w.heap.size + 1) 57 #[.int .i64 5, .int .i64 (k : Int), .int .i64 nn, .slice q1 m1 k1, .slice q2 m2 k2, .int .i64 wa] := by rw [hz]; have := ((Blk.new (w.alloc (.cells #[.slice a1 l1 c1, .slice a2 l2 c2, .slice a3 l3 c3, .slice a4 l4 c4] 27)) #[.int .i64 5, .int .i64 (k : Int), .int .i64 nn, .slice q1 m1 k1, .slice q2 m2 k2, .int .i64 wa] 57).below (bel_alloc _ (.cells #[.slice none 0 0, .slice none 0 0, .slice none 0 0, .slice none 0 0] 27))).below (bel_alloc _ (.cells #[.int .i64 0, .int .i64 0, .int .i64 0, .int .i64 0, .slice none 0 0, .slice none 0 0] 37)); simpa using this
  have P0 : Blk z (w.heap.size + 1 + 1) 27 #[.slice none 0 0, .slice none 0 0, .slice none 0 0, .slice none 0 0] := by rw [hz]; have := (Blk.new ((w.alloc (.cells #[.slice a1 l1 c1, .slice a2 l2 c2, .slice a3 l3 c3, .slice a4 l4 c4] 27)).alloc (.cells #[.int .i64 5, .int .i64 (k : Int), .int .i64 nn, .slice q1 m1 k1, .slice q2 m2 k2, .int .i64 wa] 57)) #[.slice none 0 0, .slice none 0 0, .slice none 0 0, .slice none 0 0] 27).below (bel_alloc _ (.cells #[.int .i64 0, .int .i64 0, .int .i64 0, .int .i64 0, .slice none 0 0, .slice none 0 0] 37)); simpa using this
  have Q0 : Blk z (w.heap.size + 1 + 1 + 1) 37 #[.int .i64 0, .int .i64 0, .int .i64 0, .int .i64 0, .slice none 0 0, .slice none 0 0] := by rw [hz]; have := Blk.new (((w.alloc (.cells #[.slice a1 l1 c1, .slice a2 l2 c2, .slice a3 l3 c3, .slice a4 l4 c4] 27)).alloc (.cells #[.int .i64 5, .int .i64 (k : Int), .int .i64 nn, .slice q1 m1 k1, .slice q2 m2 k2, .int .i64 wa] 57)).alloc (.cells #[.slice none 0 0, .slice none 0 0, .slice none 0 0, .slice none 0 0] 27)) #[.int .i64 0, .int .i64 0, .int .i64 0, .int .i64 0, .slice none 0 0, .slice none 0 0] 37; simpa using this
  have HN : Hid (LnD l1 l2 l3 l4 cs is hs rs ∧ SmD 2000000 cs is hs rs ∧ SlD w a1 a2 a3 a4 cs is hs rs ∧ SlI w q1 ws ∧ SlB w q2 bs) := ⟨hn, hsm, hs0, hq, hq2⟩
  have HQ : Hid (m1 = ws.length ∧ m2 = bs.length ∧ ws.length ≤ 2000000 ∧ bs.length ≤ 2000000) := ⟨h1, h2, hl, hl2⟩
  have HB0 : Hid (Below w.heap.size w z) := b0
  have HZS : Hid (z.heap.size = w.heap.size + 1 + 1 + 1 + 1) := by show _ = _; rw [hz]; simp
  obtain ⟨x0', x1', x2', x3'⟩ := X0.four
  clear hz hn hs0 hsm hq hq2 h1 h2 hl hl2
  go_enter Try.func42, Try.ntmps42
  go_upto_region 1 with fail
  rw [← HZ.out]
  go_wp2_with fail
  refine (l5Copy_any a1 a2 a3 a4 l1 l2 l3 l4 c1 c2 c3 c4 cs is hs rs _ HN.out.1 (HN.out.2.2.1.below b0) HN.out.2.1).mono ?_
  rintro e w1 ⟨x1, x2, x3, x4, d1, d2, d3, d4, rfl, o1, b'⟩
  have b1 := bel_next b0 b'
  have bz1 := b'
  have X1 := X0.below b'
  have Y1 := Y0.below b'
  have P1 := P0.below b'
  have Q1 := Q0.below b'
  have HG6 : Hid (z.heap.size ≤ w1.heap.size) := b'.size
  clear x0' x1' x2' x3' X0 Y0 P0 Q0 b0 b'
  have b' := bel_alloc w1 (.cells #[.slice x1 l1 d1, .slice x2 l2 d2, .slice x3 l3 d3, .slice x4 l4 d4] 27)
  have N' := Blk.new w1 #[.slice x1 l1 d1, .slice x2 l2 d2, .slice x3 l3 d3, .slice x4 l4 d4] 27
  obtain ⟨w2, hw2⟩ : ∃ x, x = w1.alloc (.cells #[.slice x1 l1 d1, .slice x2 l2 d2, .slice x3 l3 d3, .slice x4 l4 d4] 27) := ⟨_, rfl⟩
  rw [← hw2] at b' N'
  have HW2 : Hid (w2 = _) := hw2
  obtain ⟨G6, hBN⟩ : ∃ x, x = w1.heap.size := ⟨_, rfl⟩
  rw [← hBN] at N'
  have HBN : Hid (G6 = w1.heap.size) := hBN
  have S2 : ∀ G7 tc, G6 < G7 → Blk w2 G7 37 tc → True := fun _ _ _ _ => trivial
  have b2 := bel_next b1 b'
  have bz2 := bel_next bz1 b'
  have X2 := X1.below b'
  have Y2 := Y1.below b'
  have P2 := P1.below b'
  have Q2 := Q1.below b'
  have o2 := o1.below b'
  clear hw2 hBN b1 bz1 X1 Y1 P1 Q1 o1 b' S2
  obtain ⟨x0', x1', x2', x3'⟩ := X2.four
  go_upto_region 2 with fail
  rw [← HW2.out]
  simp only [← HBN.out]
  have HD : Hid (okD l1 l2 l3 l4 hs rs = true) := hd
  have HOK : Hid (okR 5 (k : Int) nn wa ws m1 m2 = true) := hok
  have HAL : Hid (svAll l1 l2 l3 l4 5 (k : Int) nn wa m1 m2 = true) := hal
  have HLM : Hid (l1 ≤ 2000000 ∧ l2 ≤ 2000000 ∧ l3 ≤ 2000000 ∧ l4 ≤ 2000000) := by have := okD_len hd; show _ ∧ _ ∧ _ ∧ _; omega
  clear hd hok hal
  go_wp2_with fail
  refine (specDeviceOk_any a1 a2 a3 a4 l1 l2 l3 l4 c1 c2 c3 c4 cs is hs rs _ HN.out.1 (HN.out.2.2.1.below b2) HN.out.2.1 true HD.out).mono ?_
  rintro e w3 ⟨rfl, b'⟩
  have b3 := bel_next b2 b'
  have bz3 := bel_next bz2 b'
  have X3 := X2.below b'
  have Y3 := Y2.below b'
  have P3 := P2.below b'
  have Q3 := Q2.below b'
  have N3 := N'.below b'
  have o3 := o2.below b'
  clear x0' x1' x2' x3' X2 Y2 P2 Q2 N' o2 b2 bz2 b'
  obtain ⟨x0', x1', x2', x3'⟩ := X3.four
  obtain ⟨y0', y1', y2', y3', y4', y5'⟩ := Y3.six
  go_wp2_with fail
  refine (specReqOk_q 5 (k : Int) nn wa q1 q2 m1 m2 k1 k2 ws bs _ HQ.out.1 HQ.out.2.1 (HN.out.2.2.2.1.below b3) (HN.out.2.2.2.2.below b3) HQ.out.2.2.1 HQ.out.2.2.2).mono ?_
  rintro e w4 ⟨he, b'⟩
  rw [HOK.out] at he
  subst he
  have b4 := bel_next b3 b'
  have bz4 := bel_next bz3 b'
  have X4 := X3.below b'
  have Y4 := Y3.below b'
  have P4 := P3.below b'
  have Q4 := Q3.below b'
  have N4 := N3.below b'
  have o4 := o3.below b'
  clear x0' x1' x2' x3' y0' y1' y2' y3' y4' y5' X3 Y3 P3 Q3 N3 o3 b3 bz3 b'
  obtain ⟨x0', x1', x2', x3'⟩ := X4.four
  obtain ⟨y0', y1', y2', y3', y4', y5'⟩ := Y4.six
  go_wp2_with fail
  refine (l5There_any a1 a2 a3 a4 l1 l2 l3 l4 c1 c2 c3 c4 5 (k : Int) nn wa q1 q2 m1 m2 k1 k2 ws bs _ HQ.out.1 HQ.out.2.1 (HN.out.2.2.2.1.below b4) (HN.out.2.2.2.2.below b4) HQ.out.2.2.1 HQ.out.2.2.2 HOK.out HLM.out.1 HLM.out.2.1 HLM.out.2.2.1 HLM.out.2.2.2 true HAL.out).mono ?_
  rintro e w5 ⟨rfl, b'⟩
  have b5 := bel_next b4 b'
  have bz5 := bel_next bz4 b'
  have X5 := X4.below b'
  have Y5 := Y4.below b'
  have P5 := P4.below b'
  have Q5 := Q4.below b'
  have N5 := N4.below b'
  have o5 := o4.below b'
  clear x0' x1' x2' x3' y0' y1' y2' y3' y4' y5' X4 Y4 P4 Q4 N4 o4 b4 bz4 b'
  obtain ⟨y0', y1', y2', y3', y4', y5'⟩ := Y5.six
  have b' := bel_alloc w5 (.cells #[.int .i64 5, .int .i64 0, .int .i64 0, .int .i64 0, .slice none 0 0, .slice none 0 0] 37)
  have T' := Blk.new w5 #[.int .i64 5, .int .i64 0, .int .i64 0, .int .i64 0, .slice none 0 0, .slice none 0 0] 37
  obtain ⟨w6, hw6⟩ : ∃ x, x = w5.alloc (.cells #[.int .i64 5, .int .i64 0, .int .i64 0, .int .i64 0, .slice none 0 0, .slice none 0 0] 37) := ⟨_, rfl⟩
  rw [← hw6] at b' T'
  have HW6 : Hid (w6 = _) := hw6
  obtain ⟨G7, hG7⟩ : ∃ x, x = w5.heap.size := ⟨_, rfl⟩
  rw [← hG7] at T'
  have HG7 : Hid (G7 = w5.heap.size) := hG7
  have S6 : SS w #[.slice a1 l1 c1, .slice a2 l2 c2, .slice a3 l3 c3, .slice a4 l4 c4] #[.int .i64 5, .int .i64 (k : Int), .int .i64 nn, .slice q1 m1 k1, .slice q2 m2 k2, .int .i64 wa] z G6 G7 x1 x2 x3 x4 l1 l2 l3 l4 d1 d2 d3 d4 is rs cs hs #[.int .i64 5, .int .i64 0, .int .i64 0, .int .i64 0, .slice none 0 0, .slice none 0 0] w6 := ⟨X5.below b', Y5.below b', P5.below b', Q5.below b', N5.below b', T', o5.below b', bel_next b5 b', bel_next bz5 b', HZS.out, by have := HG6.out; have := HBN.out; omega, by rw [hG7]; exact N5.lt⟩
  clear X5 Y5 P5 Q5 N5 o5 b5 bz5 b' T' hw6 hG7
  go_upto_region 7 with fail
  clear y0' y1' y2' y3' y4' y5'
  rw [← HW6.out]
  simp only [← HG7.out]
  clear HW6 HG7 HW2 HBN HZ
  have HK : Hid (k + bs.length ≤ l1) := hpk
  have HXL : Hid (bs.length ≤ 2000000) := HQ.out.2.2.2
  clear hpk
  obtain ⟨x0', x1', x2', x3'⟩ := S6.X.four
  obtain ⟨y0', y1', y2', y3', y4', y5'⟩ := S6.Y.six
  obtain ⟨n0', n1', n2', n3'⟩ := S6.N.four
  obtain ⟨t0', t1', t2', t3', t4', t5'⟩ := S6.T.six
  have ft0 := S6.T.fro 0
  have ft1 := S6.T.fro 1
  have ft2 := S6.T.fro 2
  have ft3 := S6.T.fro 3
  have ft4 := S6.T.fro 4
  have ft5 := S6.T.fro 5
  go_wp2
  have HS6 : Hid (SS w #[.slice a1 l1 c1, .slice a2 l2 c2, .slice a3 l3 c3, .slice a4 l4 c4] #[.int .i64 5, .int .i64 (k : Int), .int .i64 nn, .slice q1 m1 k1, .slice q2 m2 k2, .int .i64 wa] z G6 G7 x1 x2 x3 x4 l1 l2 l3 l4 d1 d2 d3 d4 is rs cs hs #[.int .i64 5, .int .i64 0, .int .i64 0, .int .i64 0, .slice none 0 0, .slice none 0 0] w6) := S6
  clear S6
  clear x0' x1' x2' x3' y0' y1' y2' y3' y4' y5' n0' n1' n2' n3' t0' t1' t2' t3' t4' t5' ft0 ft1 ft2 ft3 ft4 ft5
  go_loopw [8] (fun i wx => ∃ j : Nat, j ≤ bs.length ∧ i = .int .i64 j ∧ SS w #[.slice a1 l1 c1, .slice a2 l2 c2, .slice a3 l3 c3, .slice a4 l4 c4] #[.int .i64 5, .int .i64 (k : Int), .int .i64 nn, .slice q1 m1 k1, .slice q2 m2 k2, .int .i64 wa] z G6 G7 x1 x2 x3 x4 l1 l2 l3 l4 d1 d2 d3 d4 is rs (wr cs k (bs.take j)) hs #[.int .i64 5, .int .i64 0, .int .i64 0, .int .i64 0, .slice none 0 0, .slice none 0 0] wx) (fun i _ => bs.length - (intOf i).toNat)
  case atStart => exact ⟨0, Nat.zero_le _, rfl, by rw [List.take_zero, wr_nil]; exact HS6.out⟩
  case round =>
  obtain ⟨j, hj, rfl, S7⟩ := hrel
  clear HS6
  have hm2 : (m2 : Int) = (bs.length : Int) := by rw [HQ.out.2.1]
  have hm2' : (m2 : Int) ≤ 2000000 := by have := HXL.out; omega
  obtain ⟨x0', x1', x2', x3'⟩ := S7.X.four
  obtain ⟨y0', y1', y2', y3', y4', y5'⟩ := S7.Y.six
  obtain ⟨n0', n1', n2', n3'⟩ := S7.N.four
  obtain ⟨t0', t1', t2', t3', t4', t5'⟩ := S7.T.six
  have ft0 := S7.T.fro 0
  have ft1 := S7.T.fro 1
  have ft2 := S7.T.fro 2
  have ft3 := S7.T.fro 3
  have ft4 := S7.T.fro 4
  have ft5 := S7.T.fro 5
  by_cases hlt : j < bs.length
  · obtain ⟨bq, off, eq, hbq, hcq⟩ := cell_atB (HN.out.2.2.2.2.below S7.bel) hlt
    subst eq
    obtain ⟨b, eb, hb, hbl, hc, hf, hset⟩ := S7.D.setCoil (k := k + j) (by have := HK.out; omega)
    subst eb
    obtain ⟨D1, C1⟩ := hset (bs.getD j false)
    have eL : (Ytfdddkjonjpgpaa.wr cs k (bs.take j)).set (k + j) (bs.getD j false) = Ytfdddkjonjpgpaa.wr cs k (bs.take (j + 1)) := by
      have h1 : (bs.take j).length = j := by simp; omega
      rw [take_snocG hlt false]
      have := wr_snoc cs k (bs.take j) (bs.getD j false) (by have := HK.out; have := HN.out.1.1; omega)
      rw [h1] at this
      exact this
    rw [eL] at D1
    have S8 := S7.chg C1 D1
    have S9 := S8.below (Below.refl _ _).drew
    have HS9 : Hid (SS w #[.slice a1 l1 c1, .slice a2 l2 c2, .slice a3 l3 c3, .slice a4 l4 c4] #[.int .i64 5, .int .i64 (k : Int), .int .i64 nn, .slice q1 m1 k1, .slice (some ⟨bq, off, none⟩) m2 k2, .int .i64 wa] z G6 G7 (some ⟨b, 0, none⟩) x2 x3 x4 l1 l2 l3 l4 d1 d2 d3 d4 is rs (Ytfdddkjonjpgpaa.wr cs k (bs.take (j + 1))) hs #[.int .i64 5, .int .i64 0, .int .i64 0, .int .i64 0, .slice none 0 0, .slice none 0 0] (wr.setCell ⟨b, k + j, none⟩ (.bool (bs.getD j false))).drew) := S9
    generalize bs.getD j false = x at *
    have i0 : (j : Int) < (m2 : Int) := by omega
    have i1 : (k : Int) + (j : Int) < (l1 : Int) := by have := HK.out; omega
    have i2 : IntKind.i64.wrap ((k : Int) + (j : Int)) = (k : Int) + (j : Int) := by have := HK.out; have := HLM.out; rw [IntKind.wrap_i64]; omega
    have i3 : ((k : Int) + (j : Int)).toNat = k + j := by omega
    have i4 : (0 : Int) ≤ (k : Int) + (j : Int) := by omega
    clear S7 S8 S9 D1 C1 hset eL hm2
    go_upto_region 21 with fail
    go_region
    all_goals go_wp2
    go_roundw
    case rel => exact ⟨j + 1, by omega, by go_num, HS9.out⟩
    case measure => simp [intOf]; omega
  have eT : bs.take j = bs := List.take_of_length_le (by omega)
  rw [eT] at S7
  have hi' : ¬ ((j : Int) < (m2 : Int)) := by omega
  clear eT hm2
  go_upto_region 24 with fail
  have S8' := S7.setT 2 (.int .i64 (k : Int))
  obtain ⟨wq, hwq⟩ : ∃ x, x = wr.setCell ⟨G7, 2, none⟩ (.int .i64 (k : Int)) := ⟨_, rfl⟩
  rw [← hwq] at S8' ⊢
  have S8 : SS w #[.slice a1 l1 c1, .slice a2 l2 c2, .slice a3 l3 c3, .slice a4 l4 c4] #[.int .i64 5, .int .i64 (k : Int), .int .i64 nn, .slice q1 m1 k1, .slice q2 m2 k2, .int .i64 wa] z G6 G7 x1 x2 x3 x4 l1 l2 l3 l4 d1 d2 d3 d4 is rs (Ytfdddkjonjpgpaa.wr cs k bs) hs #[.int .i64 5, .int .i64 0, .int .i64 (k : Int), .int .i64 0, .slice none 0 0, .slice none 0 0] wq := S8'
  clear hwq S8' S7
  clear x0' x1' x2' x3' y0' y1' y2' y3' y4' y5' n0' n1' n2' n3' t0' t1' t2' t3' t4' t5' ft0 ft1 ft2 ft3 ft4 ft5
  have oL : OwnB (wq.alloc (.cells #[] 4)) wq.heap.size (.slice (some ⟨wq.heap.size, 0, none⟩) 0 0) [] := ⟨rfl, .inr ⟨wq.heap.size, 0, #[], rfl, Nat.le_refl _, Blk.new wq #[] 4, by simp, by simp, rfl, rfl⟩⟩
  have SL := S8.below (bel_alloc wq (.cells #[] 4))
  obtain ⟨x0', x1', x2', x3'⟩ := SL.X.four
  obtain ⟨y0', y1', y2', y3', y4', y5'⟩ := SL.Y.six
  obtain ⟨n0', n1', n2', n3'⟩ := SL.N.four
  obtain ⟨t0', t1', t2', t3', t4', t5'⟩ := SL.T.six
  have ft0 := SL.T.fro 0
  have ft1 := SL.T.fro 1
  have ft2 := SL.T.fro 2
  have ft3 := SL.T.fro 3
  have ft4 := SL.T.fro 4
  have ft5 := SL.T.fro 5
  go_upto_region 41 with (at_builtin; obtain ⟨vA, uA, hr, oA, bA, _, r2, t2, hv⟩ := app0B (wq.alloc (.cells #[] 4)) wq.heap.size wq.heap.size (q2) m2 (k2) bs HQ.out.2.1 (HN.out.2.2.2.2.below (bel_next S8.bel (bel_alloc _ _))) HXL.out (Nat.le_refl _) oL; refine Lib.wpList_append_run _ rfl (.tmp 112) (.tmp 114) _ _ rfl _ _ rfl rfl _ _ hr ?_; subst hv; have SA := SL.below bA; have HAp : Hid (∀ g, (Of4 (.slice x1 l1 d1) (.slice x2 l2 d2) (.slice x3 l3 d3) (.slice x4 l4 d4)) g → ¬ Of2 (.slice none 0 0) (.slice r2 m2 t2) g) := S8.apart (ownI_nil0 _ _) oA; have HOA : Hid (OwnB (uA.setCell ⟨G7, 5, none⟩ (.slice r2 m2 t2)) w.heap.size (.slice r2 m2 t2) bs) := row_setE (oA.mono S8.bel.size) ⟨_, SA.T⟩ (by decide); have SB := SA.setT 5 (.slice r2 m2 t2); obtain ⟨s0', s1', s2', s3', s4', s5'⟩ := SA.T.six; have fs := SA.T.fro 5; clear hr oA bA oL)
  obtain ⟨w8, hw8⟩ : ∃ x, x = uA.setCell ⟨G7, 5, none⟩ (.slice r2 m2 t2) := ⟨_, rfl⟩
  rw [← hw8] at SB HOA ⊢
  have S9 : SS w #[.slice a1 l1 c1, .slice a2 l2 c2, .slice a3 l3 c3, .slice a4 l4 c4] #[.int .i64 5, .int .i64 (k : Int), .int .i64 nn, .slice q1 m1 k1, .slice q2 m2 k2, .int .i64 wa] z G6 G7 x1 x2 x3 x4 l1 l2 l3 l4 d1 d2 d3 d4 is rs (Ytfdddkjonjpgpaa.wr cs k bs) hs #[.int .i64 5, .int .i64 0, .int .i64 (k : Int), .int .i64 0, .slice none 0 0, .slice r2 m2 t2] w8 := SB
  clear hw8 SB SA SL S8 s0' s1' s2' s3' s4' s5' fs
  clear x0' x1' x2' x3' y0' y1' y2' y3' y4' y5' n0' n1' n2' n3' t0' t1' t2' t3' t4' t5' ft0 ft1 ft2 ft3 ft4 ft5
  have OB := HOA
  obtain ⟨r1, p1, t1, hr1⟩ : ∃ (r1 : Option Addr) (p1 t1 : Nat), Value.slice r1 p1 t1 = .slice none 0 0 := ⟨none, 0, 0, rfl⟩
  rw [← hr1] at S9 HAp
  have OI : Hid (OwnI w8 w.heap.size (.slice r1 p1 t1) []) := by rw [hr1]; exact ownI_nil0 _ _
  clear hr1
  obtain ⟨p2, hp2⟩ : ∃ p2, p2 = m2 := ⟨_, rfl⟩
  have S10 : SS w #[.slice a1 l1 c1, .slice a2 l2 c2, .slice a3 l3 c3, .slice a4 l4 c4] #[.int .i64 5, .int .i64 (k : Int), .int .i64 nn, .slice q1 m1 k1, .slice q2 m2 k2, .int .i64 wa] z G6 G7 x1 x2 x3 x4 l1 l2 l3 l4 d1 d2 d3 d4 is rs (Ytfdddkjonjpgpaa.wr cs k bs) hs #[.int .i64 5, .int .i64 0, .int .i64 (k : Int), .int .i64 0, .slice r1 p1 t1, .slice r2 p2 t2] w8 := by rw [hp2]; exact S9
  rw [← hp2] at HAp OB
  clear S9 HOA hp2
  have N4 := S10.N
  have T' := S10.T
  have P4 := S10.P
  have Q4 := S10.Q
  have HH : Hid (OwnD w8 w.heap.size x1 x2 x3 x4 l1 l2 l3 l4 d1 d2 d3 d4 (Ytfdddkjonjpgpaa.wr cs k bs) is hs rs ∧ OwnI w8 w.heap.size (.slice r1 p1 t1) [] ∧ OwnB w8 w.heap.size (.slice r2 p2 t2) bs ∧ Below w.heap.size w w8 ∧ ExB w8 (w.heap.size + 1 + 1) 27 ∧ ExB w8 (w.heap.size + 1 + 1 + 1) 37) := ⟨S10.D.mono (by have := S10.zb0; omega), OI.out, OB.out, S10.bel, ⟨_, P4⟩, ⟨_, Q4⟩⟩
  have lN : w.heap.size + 1 + 1 + 1 + 1 ≤ G6 := by have := S10.zb0; have := S10.g6; omega
  have lT : w.heap.size + 1 + 1 + 1 + 1 ≤ G7 := by have := S10.g7; omega
  obtain ⟨n0, n1, n2, n3⟩ := N4.four
  obtain ⟨t0', t1', t2', t3', t4', t5'⟩ := T'.six
  obtain ⟨p0', p1', p2', p3'⟩ := P4.four
  obtain ⟨q0', q1', q2', q3', q4', q5'⟩ := Q4.six
  have fp0 := P4.fro 0
  have fp1 := P4.fro 1
  have fp2 := P4.fro 2
  have fp3 := P4.fro 3
  have fq0 := Q4.fro 0
  have fq1 := Q4.fro 1
  have fq2 := Q4.fro 2
  have fq3 := Q4.fro 3
  have fq4 := Q4.fro 4
  have fq5 := Q4.fro 5
  have e1 : ¬ (G6 = w.heap.size + 1 + 1) := by omega
  have e2 : ¬ (G6 = w.heap.size + 1 + 1 + 1) := by omega
  have e3 : ¬ (G7 = w.heap.size + 1 + 1) := by omega
  have e4 : ¬ (G7 = w.heap.size + 1 + 1 + 1) := by omega
  have e1' : ¬ (w.heap.size + 1 + 1 = G6) := by omega
  have e2' : ¬ (w.heap.size + 1 + 1 + 1 = G6) := by omega
  have e3' : ¬ (w.heap.size + 1 + 1 = G7) := by omega
  have e4' : ¬ (w.heap.size + 1 + 1 + 1 = G7) := by omega
  clear lN lT
  obtain ⟨W5, hW5⟩ : ∃ x, x = ((((((((((w8.setCell ⟨w.heap.size + 1 + 1, 0, none⟩ (.slice x1 l1 d1)).setCell ⟨w.heap.size + 1 + 1, 1, none⟩ (.slice x2 l2 d2)).setCell ⟨w.heap.size + 1 + 1, 2, none⟩ (.slice x3 l3 d3)).setCell ⟨w.heap.size + 1 + 1, 3, none⟩ (.slice x4 l4 d4)).setCell ⟨w.heap.size + 1 + 1 + 1, 0, none⟩ (.int .i64 (5))).setCell ⟨w.heap.size + 1 + 1 + 1, 1, none⟩ (.int .i64 (0))).setCell ⟨w.heap.size + 1 + 1 + 1, 2, none⟩ (.int .i64 ((k : Int)))).setCell ⟨w.heap.size + 1 + 1 + 1, 3, none⟩ (.int .i64 (0))).setCell ⟨w.heap.size + 1 + 1 + 1, 4, none⟩ (.slice r1 p1 t1)).setCell ⟨w.heap.size + 1 + 1 + 1, 5, none⟩ (.slice r2 p2 t2)) := ⟨_, rfl⟩
  have HW5 : Hid (W5 = _) := hW5
  have HF : Hid (OwnD W5 w.heap.size x1 x2 x3 x4 l1 l2 l3 l4 d1 d2 d3 d4 (Ytfdddkjonjpgpaa.wr cs k bs) is hs rs ∧ OwnI W5 w.heap.size (.slice r1 p1 t1) [] ∧ OwnB W5 w.heap.size (.slice r2 p2 t2) bs ∧ Below w.heap.size w W5) := by
    obtain ⟨o1, o2, o3, o4, o5, o6⟩ := HH.out
    have x6 : ∀ v0 v1 v2 v3 : Value, ExB ((((w8.setCell ⟨w.heap.size + 1 + 1, 0, none⟩ v0).setCell ⟨w.heap.size + 1 + 1, 1, none⟩ v1).setCell ⟨w.heap.size + 1 + 1, 2, none⟩ v2).setCell ⟨w.heap.size + 1 + 1, 3, none⟩ v3) (w.heap.size + 1 + 1 + 1) 37 := fun _ _ _ _ => ExB.set (ExB.set (ExB.set (ExB.set o6)))
    rw [hW5]
    exact ⟨(o1.set4 o5 (by decide) (by decide)).set6 (x6 _ _ _ _) (by decide) (by decide), rowp_set6 (row_set4 o2 o5 (by decide)) (x6 _ _ _ _) (by decide), rowp_set6 (row_set4 o3 o5 (by decide)) (x6 _ _ _ _) (by decide), belp_set6 (bel_set4 o4 (by omega)) (by omega)⟩
  have HPQ : Hid (Blk W5 (w.heap.size + 1 + 1) 27 #[.slice x1 l1 d1, .slice x2 l2 d2, .slice x3 l3 d3, .slice x4 l4 d4] ∧ Blk W5 (w.heap.size + 1 + 1 + 1) 37 #[.int .i64 5, .int .i64 0, .int .i64 (k : Int), .int .i64 0, .slice r1 p1 t1, .slice r2 p2 t2]) := by
    have a1' := (((P4.set 0 (.slice x1 l1 d1)).set 1 (.slice x2 l2 d2)).set 2 (.slice x3 l3 d3)).set 3 (.slice x4 l4 d4)
    have a2' := (((((a1'.setNe (g' := w.heap.size + 1 + 1 + 1) (j := 0) (y := .int .i64 (5)) (by omega)).setNe (g' := w.heap.size + 1 + 1 + 1) (j := 1) (y := .int .i64 (0)) (by omega)).setNe (g' := w.heap.size + 1 + 1 + 1) (j := 2) (y := .int .i64 ((k : Int))) (by omega)).setNe (g' := w.heap.size + 1 + 1 + 1) (j := 3) (y := .int .i64 (0)) (by omega)).setNe (g' := w.heap.size + 1 + 1 + 1) (j := 4) (y := .slice r1 p1 t1) (by omega)).setNe (g' := w.heap.size + 1 + 1 + 1) (j := 5) (y := .slice r2 p2 t2) (by omega)
    have c1' := (((Q4.setNe (g' := w.heap.size + 1 + 1) (j := 0) (y := .slice x1 l1 d1) (by omega)).setNe (g' := w.heap.size + 1 + 1) (j := 1) (y := .slice x2 l2 d2) (by omega)).setNe (g' := w.heap.size + 1 + 1) (j := 2) (y := .slice x3 l3 d3) (by omega)).setNe (g' := w.heap.size + 1 + 1) (j := 3) (y := .slice x4 l4 d4) (by omega)
    have c2' := (((((c1'.set 0 (.int .i64 (5))).set 1 (.int .i64 (0))).set 2 (.int .i64 ((k : Int)))).set 3 (.int .i64 (0))).set 4 (.slice r1 p1 t1)).set 5 (.slice r2 p2 t2)
    rw [hW5]
    exact ⟨a2', c2'⟩
  clear hW5 S10
  go_region
  rw [← HW5.out]
  obtain ⟨u0, u1, u2, u3⟩ := HPQ.out.1.four
  obtain ⟨v0, v1, v2, v3, v4, v5⟩ := HPQ.out.2.six
  clear p0' p1' p2' p3' q0' q1' q2' q3' q4' q5' fp0 fp1 fp2 fp3 fq0 fq1 fq2 fq3 fq4 fq5 n0 n1 n2 n3 t0' t1' t2' t3' t4' t5'
  go_wp2
  refine bodyPost_ret (v := .tuple #[dv x1 x2 x3 x4 l1 l2 l3 l4 d1 d2 d3 d4, rp (5) (0) ((k : Int)) (0) r1 r2 p1 p2 t1 t2]) (by simp [results, Try.results42, go_sem, u0, u1, u2, u3, v0, v1, v2, v3, v4, v5]) rfl ?_
  obtain ⟨o1, o2, o3, o4⟩ := HF.out
  exact ⟨_, _, _, _, _, _, _, _, _, _, _, _, _, _, _, _, _, _, rfl, o1.drew, o2.below (Below.refl _ _).drew, o3.below (Below.refl _ _).drew, HAp.out, o4.drew⟩
end Go.Proofs.Ytfdddkjonjpgpaa
namespace Go.Proofs.Ytfdddkjonjpgpaa
open Go.RowKit
set_option linter.unusedVariables false
set_option linter.unusedSimpArgs false
set_option maxRecDepth 20000 in
set_option maxHeartbeats 1000000 in
theorem specServe_22 (a1 a2 a3 a4 : Option Addr) (l1 l2 l3 l4 c1 c2 c3 c4 : Nat) (cs is : List Bool) (hs rs : List Int) (nn wa : Int) (q1 q2 : Option Addr) (m1 m2 k1 k2 : Nat) (ws : List Int) (bs : List Bool) (w : World) (hn : LnD l1 l2 l3 l4 cs is hs rs) (hs0 : SlD w a1 a2 a3 a4 cs is hs rs) (hsm : SmD 2000000 cs is hs rs) (hq : SlI w q1 ws) (hq2 : SlB w q2 bs) (h1 : m1 = ws.length) (h2 : m2 = bs.length) (hl : ws.length ≤ 2000000) (hl2 : bs.length ≤ 2000000) (k : Nat) (hpk : k < l3) (h2w : ws.length = 2) (hs' : List Int) (hhs : (hs.set k (mskI (hs.getD k 0) (ws.getD 0 0) (ws.getD 1 0))) = hs') (hok : okR 22 (k : Int) nn wa ws m1 m2 = true) (hd : okD l1 l2 l3 l4 hs rs = true) (hal : svAll l1 l2 l3 l4 22 (k : Int) nn wa m1 m2 = true) :
    Calls Try.prog 42 #[dv a1 a2 a3 a4 l1 l2 l3 l4 c1 c2 c3 c4, .agg #[.int .i64 22, .int .i64 (k : Int), .int .i64 nn, .slice q1 m1 k1, .slice q2 m2 k2, .int .i64 wa]] w fun e w' => SR w w' e cs is hs' rs 22 0 (k : Int) 0 ws [] := by
  obtain ⟨z, hz⟩ : ∃ z, z = (((w.alloc (.cells #[.slice a1 l1 c1, .slice a2 l2 c2, .slice a3 l3 c3, .slice a4 l4 c4] 27)).alloc (.cells #[.int .i64 22, .int .i64 (k : Int), .int .i64 nn, .slice q1 m1 k1, .slice q2 m2 k2, .int .i64 wa] 57)).alloc (.cells #[.slice none 0 0, .slice none 0 0, .slice none 0 0, .slice none 0 0] 27)).alloc (.cells #[.int .i64 0, .int .i64 0, .int .i64 0, .int .i64 0, .slice none 0 0, .slice none 0 0] 37) := ⟨_, rfl⟩
  have HZ : Hid (z = _) := hz
  have b0 : Below w.heap.size w z := by rw [hz]; exact bel_next (bel_next (bel_next (bel_alloc w _) (bel_alloc _ _)) (bel_alloc _ _)) (bel_alloc _ _)
  have X0 : Blk z w.heap.size 27 #[.slice a1 l1 c1, .slice a2 l2 c2, .slice a3 l3 c3, .slice a4 l4 c4] := by rw [hz]; exact (((Blk.new w _ _).below (bel_alloc _ _)).below (bel_alloc _ _)).below (bel_alloc _ _)
  have Y0 : Blk z (w.heap.size + 1) 57 #[.int .i64 22, .int .i64 (k : Int), .int .i64 nn, .slice q1 m1 k1, .slice q2 m2 k2, .int .i64 wa] := by rw [hz]; have := ((Blk.new (w.alloc (.cells #[.slice a1 l1 c1, .slice a2 l2 c2, .slice a3 l3 c3, .slice a4 l4 c4] 27)) #[.int .i64 22, .int .i64 (k : Int), .int .i64 nn, .slice q1 m1 k1, .slice q2 m2 k2, .int .i64 wa] 57).below (bel_alloc _ (.cells #[.slice none 0 0, .slice none 0 0, .slice none 0 0, .slice none 0 0] 27))).below (bel_alloc _ (.cells #[.int .i64 0, .int .i64 0, .int .i64 0, .int .i64 0, .slice none 0 0, .slice none 0 0] 37)); simpa using this
  have P0 : Blk z (w.heap.size + 1 + 1) 27 #[.slice none 0 0, .slice none 0 0, .slice none 0 0, .slice none 0 0] := by rw [hz]; have := (Blk.new ((w.alloc (.cells #[.slice a1 l1 c1, .slice a2 l2 c2, .slice a3 l3 c3, .slice a4 l4 c4] 27)).alloc (.cells #[.int .i64 22, .int .i64 (k : Int), .int .i64 nn, .slice q1 m1 k1, .slice q2 m2 k2, .int .i64 wa] 57)) #[.slice none 0 0, .slice none 0 0, .slice none 0 0, .slice none 0 0] 27).below (bel_alloc _ (.cells #[.int .i64 0, .int .i64 0, .int .i64 0, .int .i64 0, .slice none 0 0, .slice none 0 0] 37)); simpa using this
  have Q0 : Blk z (w.heap.size + 1 + 1 + 1) 37 #[.int .i64 0, .int .i64 0, .int .i64 0, .int .i64 0, .slice none 0 0, .slice none 0 0] := by rw [hz]; have := Blk.new (((w.alloc (.cells #[.slice a1 l1 c1, .slice a2 l2 c2, .slice a3 l3 c3, .slice a4 l4 c4] 27)).alloc (.cells #[.int .i64 22, .int .i64 (k : Int), .int .i64 nn, .slice q1 m1 k1, .slice q2 m2 k2, .int .i64 wa] 57)).alloc (.cells #[.slice none 0 0, .slice none 0 0, .slice none 0 0, .slice none 0 0] 27)) #[.int .i64 0, .int .i64 0, .int .i64 0, .int .i64 0, .slice none 0 0, .slice none 0 0] 37; simpa using this
  have HN : Hid (LnD l1 l2 l3 l4 cs is hs rs ∧ SmD 2000000 cs is hs rs ∧ SlD w a1 a2 a3 a4 cs is hs rs ∧ SlI w q1 ws ∧ SlB w q2 bs) := ⟨hn, hsm, hs0, hq, hq2⟩
  have HQ : Hid (m1 = ws.length ∧ m2 = bs.length ∧ ws.length ≤ 2000000 ∧ bs.length ≤ 2000000) := ⟨h1, h2, hl, hl2⟩
  have HB0 : Hid (Below w.heap.size w z) := b0
  have HZS : Hid (z.heap.size = w.heap.size + 1 + 1 + 1 + 1) := by show _ = _; rw [hz]; simp
  obtain ⟨x0', x1', x2', x3'⟩ := X0.four
  clear hz hn hs0 hsm hq hq2 h1 h2 hl hl2
  go_enter Try.func42, Try.ntmps42
  go_upto_region 1 with fail
  rw [← HZ.out]
  go_wp2_with fail
  refine (l5Copy_any a1 a2 a3 a4 l1 l2 l3 l4 c1 c2 c3 c4 cs is hs rs _ HN.out.1 (HN.out.2.2.1.below b0) HN.out.2.1).mono ?_
  rintro e w1 ⟨x1, x2, x3, x4, d1, d2, d3, d4, rfl, o1, b'⟩
  have b1 := bel_next b0 b'
  have bz1 := b'
  have X1 := X0.below b'
  have Y1 := Y0.below b'
  have P1 := P0.below b'
  have Q1 := Q0.below b'
  have HG6 : Hid (z.heap.size ≤ w1.heap.size) := b'.size
  clear x0' x1' x2' x3' X0 Y0 P0 Q0 b0 b'
  have b' := bel_alloc w1 (.cells #[.slice x1 l1 d1, .slice x2 l2 d2, .slice x3 l3 d3, .slice x4 l4 d4] 27)
  have N' := Blk.new w1 #[.slice x1 l1 d1, .slice x2 l2 d2, .slice x3 l3 d3, .slice x4 l4 d4] 27
  obtain ⟨w2, hw2⟩ : ∃ x, x = w1.alloc (.cells #[.slice x1 l1 d1, .slice x2 l2 d2, .slice x3 l3 d3, .slice x4 l4 d4] 27) := ⟨_, rfl⟩
  rw [← hw2] at b' N'
  have HW2 : Hid (w2 = _) := hw2
  obtain ⟨G6, hBN⟩ : ∃ x, x = w1.heap.size := ⟨_, rfl⟩
  rw [← hBN] at N'
  have HBN : Hid (G6 = w1.heap.size) := hBN
  have S2 : ∀ G7 tc, G6 < G7 → Blk w2 G7 37 tc → True := fun _ _ _ _ => trivial
  have b2 := bel_next b1 b'
  have bz2 := bel_next bz1 b'
  have X2 := X1.below b'
  have Y2 := Y1.below b'
  have P2 := P1.below b'
  have Q2 := Q1.below b'
  have o2 := o1.below b'
  clear hw2 hBN b1 bz1 X1 Y1 P1 Q1 o1 b' S2
  obtain ⟨x0', x1', x2', x3'⟩ := X2.four
  go_upto_region 2 with fail
  rw [← HW2.out]
  simp only [← HBN.out]
  have HD : Hid (okD l1 l2 l3 l4 hs rs = true) := hd
  have HOK : Hid (okR 22 (k : Int) nn wa ws m1 m2 = true) := hok
  have HAL : Hid (svAll l1 l2 l3 l4 22 (k : Int) nn wa m1 m2 = true) := hal
  have HLM : Hid (l1 ≤ 2000000 ∧ l2 ≤ 2000000 ∧ l3 ≤ 2000000 ∧ l4 ≤ 2000000) := by have := okD_len hd; show _ ∧ _ ∧ _ ∧ _; omega
  clear hd hok hal
  go_wp2_with fail
  refine (specDeviceOk_any a1 a2 a3 a4 l1 l2 l3 l4 c1 c2 c3 c4 cs is hs rs _ HN.out.1 (HN.out.2.2.1.below b2) HN.out.2.1 true HD.out).mono ?_
  rintro e w3 ⟨rfl, b'⟩
  have b3 := bel_next b2 b'
  have bz3 := bel_next bz2 b'
  have X3 := X2.below b'
  have Y3 := Y2.below b'
  have P3 := P2.below b'
  have Q3 := Q2.below b'
  have N3 := N'.below b'
  have o3 := o2.below b'
  clear x0' x1' x2' x3' X2 Y2 P2 Q2 N' o2 b2 bz2 b'
  obtain ⟨x0', x1', x2', x3'⟩ := X3.four
  obtain ⟨y0', y1', y2', y3', y4', y5'⟩ := Y3.six
  go_wp2_with fail
  refine (specReqOk_q 22 (k : Int) nn wa q1 q2 m1 m2 k1 k2 ws bs _ HQ.out.1 HQ.out.2.1 (HN.out.2.2.2.1.below b3) (HN.out.2.2.2.2.below b3) HQ.out.2.2.1 HQ.out.2.2.2).mono ?_
  rintro e w4 ⟨he, b'⟩
  rw [HOK.out] at he
  subst he
  have b4 := bel_next b3 b'
  have bz4 := bel_next bz3 b'
  have X4 := X3.below b'
  have Y4 := Y3.below b'
  have P4 := P3.below b'
  have Q4 := Q3.below b'
  have N4 := N3.below b'
  have o4 := o3.below b'
  clear x0' x1' x2' x3' y0' y1' y2' y3' y4' y5' X3 Y3 P3 Q3 N3 o3 b3 bz3 b'
  obtain ⟨x0', x1', x2', x3'⟩ := X4.four
  obtain ⟨y0', y1', y2', y3', y4', y5'⟩ := Y4.six
  go_wp2_with fail
  refine (l5There_any a1 a2 a3 a4 l1 l2 l3 l4 c1 c2 c3 c4 22 (k : Int) nn wa q1 q2 m1 m2 k1 k2 ws bs _ HQ.out.1 HQ.out.2.1 (HN.out.2.2.2.1.below b4) (HN.out.2.2.2.2.below b4) HQ.out.2.2.1 HQ.out.2.2.2 HOK.out HLM.out.1 HLM.out.2.1 HLM.out.2.2.1 HLM.out.2.2.2 true HAL.out).mono ?_
  rintro e w5 ⟨rfl, b'⟩
  have b5 := bel_next b4 b'
  have bz5 := bel_next bz4 b'
  have X5 := X4.below b'
  have Y5 := Y4.below b'
  have P5 := P4.below b'
  have Q5 := Q4.below b'
  have N5 := N4.below b'
  have o5 := o4.below b'
  clear x0' x1' x2' x3' y0' y1' y2' y3' y4' y5' X4 Y4 P4 Q4 N4 o4 b4 bz4 b'
  obtain ⟨y0', y1', y2', y3', y4', y5'⟩ := Y5.six
  have b' := bel_alloc w5 (.cells #[.int .i64 22, .int .i64 0, .int .i64 0, .int .i64 0, .slice none 0 0, .slice none 0 0] 37)
  have T' := Blk.new w5 #[.int .i64 22, .int .i64 0, .int .i64 0, .int .i64 0, .slice none 0 0, .slice none 0 0] 37
  obtain ⟨w6, hw6⟩ : ∃ x, x = w5.alloc (.cells #[.int .i64 22, .int .i64 0, .int .i64 0, .int .i64 0, .slice none 0 0, .slice none 0 0] 37) := ⟨_, rfl⟩
  rw [← hw6] at b' T'
  have HW6 : Hid (w6 = _) := hw6
  obtain ⟨G7, hG7⟩ : ∃ x, x = w5.heap.size := ⟨_, rfl⟩
  rw [← hG7] at T'
  have HG7 : Hid (G7 = w5.heap.size) := hG7
  have S6 : SS w #[.slice a1 l1 c1, .slice a2 l2 c2, .slice a3 l3 c3, .slice a4 l4 c4] #[.int .i64 22, .int .i64 (k : Int), .int .i64 nn, .slice q1 m1 k1, .slice q2 m2 k2, .int .i64 wa] z G6 G7 x1 x2 x3 x4 l1 l2 l3 l4 d1 d2 d3 d4 is rs cs hs #[.int .i64 22, .int .i64 0, .int .i64 0, .int .i64 0, .slice none 0 0, .slice none 0 0] w6 := ⟨X5.below b', Y5.below b', P5.below b', Q5.below b', N5.below b', T', o5.below b', bel_next b5 b', bel_next bz5 b', HZS.out, by have := HG6.out; have := HBN.out; omega, by rw [hG7]; exact N5.lt⟩
  clear X5 Y5 P5 Q5 N5 o5 b5 bz5 b' T' hw6 hG7
  go_upto_region 7 with fail
  clear y0' y1' y2' y3' y4' y5'
  rw [← HW6.out]
  simp only [← HG7.out]
  clear HW6 HG7 HW2 HBN HZ
  have HXL : Hid (ws.length ≤ 2000000) := HQ.out.2.2.1
  have hwW : ∀ i, i < ws.length → 0 ≤ ws.getD i 0 ∧ ws.getD i 0 ≤ 65535 := of_decide_eq_true (okR_w HOK.out)
  have hwH : ∀ i, i < hs.length → 0 ≤ hs.getD i 0 ∧ hs.getD i 0 ≤ 65535 := by
    have h := HD.out
    unfold okD at h
    simp only [Bool.and_eq_true] at h
    exact of_decide_eq_true h.2.1
  have hlh : l3 = hs.length := HN.out.1.2.2.1
  have rh := hwH k (by omega)
  have rx := hwW 0 (by omega)
  have ry := hwW 1 (by omega)
  have HMS := mskI_spec rh rx ry
  obtain ⟨bh, oh, eh, hbh, hch'⟩ := cell_atI HN.out.2.2.1.2.2.1 (k := k) (by omega)
  obtain ⟨bq, off, eq1, hbq, hcq0'⟩ := cell_atI HN.out.2.2.2.1 (k := 0) (by omega)
  obtain ⟨bq', off', eq2, _, hcq1'⟩ := cell_atI HN.out.2.2.2.1 (k := 1) (by omega)
  have hch : w6.cell? ⟨bh, oh + k, none⟩ = _ := (S6.bel.cell (p := ⟨bh, oh + k, none⟩) hbh).trans hch'
  have hcq0 : w6.cell? ⟨bq, off + 0, none⟩ = _ := (S6.bel.cell (p := ⟨bq, off + 0, none⟩) hbq).trans hcq0'
  have hcq1 : w6.cell? ⟨bq', off' + 1, none⟩ = _ := (S6.bel.cell (p := ⟨bq', off' + 1, none⟩) (by simp only [eq1, Option.some.injEq, Addr.mk.injEq, and_true] at eq2; rw [← eq2.1]; exact hbq)).trans hcq1'
  clear hch' hcq0' hcq1'
  have im1 : (m1 : Int) = 2 := by rw [HQ.out.1, h2w]; rfl
  obtain ⟨b, eb, hb, hbl, hc, hf, hset⟩ := S6.D.setWord hpk
  subst eh
  subst eq1
  simp only [Option.some.injEq, Addr.mk.injEq, and_true] at eq2
  obtain ⟨rfl, rfl⟩ := eq2
  subst eb
  rw [Nat.add_zero] at hcq0
  have nb6 : ¬ b = G6 := fun e => S6.D.noBlk S6.N (by decide) (by decide) (.inr (.inr (.inl (by show some b = some G6; rw [e]))))
  have nb6' : ¬ G6 = b := fun e => nb6 e.symm
  have nbz := S6.zb0
  have nb0 : ¬ b = w.heap.size := by omega
  have nb0' : ¬ w.heap.size = b := by omega
  have nb1 : ¬ b = w.heap.size + 1 := by omega
  have nb1' : ¬ w.heap.size + 1 = b := by omega
  have nbh : ¬ b = bh := by omega
  have nbh' : ¬ bh = b := by omega
  have nbq : ¬ b = bq := by omega
  have nbq' : ¬ bq = b := by omega
  clear nbz
  obtain ⟨D1, C1⟩ := hset (mskI (hs.getD k 0) (ws.getD 0 0) (ws.getD 1 0))
  rw [hhs] at D1
  have S7 := (S6.chg C1 D1).below (Below.refl _ _).drew
  have HMS' : Hid (bits .or .i64 (bits .and .i64 (hs.getD k 0) (ws.getD 0 0)) (bits .and .i64 (ws.getD 1 0) (bits .xor .i64 65535 (ws.getD 0 0))) = mskI (hs.getD k 0) (ws.getD 0 0) (ws.getD 1 0)) := HMS
  have i0 : (k : Int) < (l3 : Int) := by omega
  clear HMS hwW hwH hset D1 C1 hhs hlh
  generalize mskI (hs.getD k 0) (ws.getD 0 0) (ws.getD 1 0) = mv' at *
  generalize hs.getD k 0 = xh at *
  generalize ws.getD 0 0 = x at *
  generalize ws.getD 1 0 = y at *
  have HIM : Hid ((m1 : Int) = 2 ∧ ws.length = 2) := ⟨im1, h2w⟩
  have i1 : (0 : Int) < (m1 : Int) := by omega
  have i2 : (1 : Int) < (m1 : Int) := by omega
  have j1 : 0 < m1 := by omega
  have j1' : ¬ m1 = 0 := by omega
  clear im1 h2w
  obtain ⟨x0', x1', x2', x3'⟩ := S6.X.four
  obtain ⟨y0', y1', y2', y3', y4', y5'⟩ := S6.Y.six
  obtain ⟨n0', n1', n2', n3'⟩ := S6.N.four
  obtain ⟨t0', t1', t2', t3', t4', t5'⟩ := S6.T.six
  have ft0 := S6.T.fro 0
  have ft1 := S6.T.fro 1
  have ft2 := S6.T.fro 2
  have ft3 := S6.T.fro 3
  have ft4 := S6.T.fro 4
  have ft5 := S6.T.fro 5
  go_upto_region 35 with fail
  go_region_held3 (fun w' => w'.cell? ⟨w.heap.size, 2, none⟩ = some (.slice (some ⟨bh, oh, none⟩) l3 c3) ∧ w'.cell? ⟨w.heap.size + 1, 1, none⟩ = some (.int .i64 (k : Int)) ∧ w'.cell? ⟨w.heap.size + 1, 3, none⟩ = some (.slice (some ⟨bq, off, none⟩) m1 k1) ∧ w'.cell? ⟨G6, 2, none⟩ = some (.slice (some ⟨b, 0, none⟩) l3 d3) ∧ w'.cell? ⟨bh, oh + k, none⟩ = some (.int .i64 xh) ∧ w'.cell? ⟨bq, off, none⟩ = some (.int .i64 x) ∧ w'.cell? ⟨bq, off + 1, none⟩ = some (.int .i64 y)) (go_keep) (fail)
  clear hc hf hch hcq0 hcq1 S6
  clear x0' x1' x2' x3' y0' y1' y2' y3' y4' y5' n0' n1' n2' n3' t0' t1' t2' t3' t4' t5' ft0 ft1 ft2 ft3 ft4 ft5
  rw [HMS'.out]
  obtain ⟨w7, hw7⟩ : ∃ x, x = (w6.setCell ⟨b, k, none⟩ (.int .i64 mv')).drew := ⟨_, rfl⟩
  rw [← hw7] at S7 ⊢
  clear hw7
  obtain ⟨x0', x1', x2', x3'⟩ := S7.X.four
  obtain ⟨y0', y1', y2', y3', y4', y5'⟩ := S7.Y.six
  obtain ⟨n0', n1', n2', n3'⟩ := S7.N.four
  obtain ⟨t0', t1', t2', t3', t4', t5'⟩ := S7.T.six
  have ft0 := S7.T.fro 0
  have ft1 := S7.T.fro 1
  have ft2 := S7.T.fro 2
  have ft3 := S7.T.fro 3
  have ft4 := S7.T.fro 4
  have ft5 := S7.T.fro 5
  go_upto_region 37 with fail
  have S8' := S7.setT 2 (.int .i64 (k : Int))
  obtain ⟨wq, hwq⟩ : ∃ x, x = w7.setCell ⟨G7, 2, none⟩ (.int .i64 (k : Int)) := ⟨_, rfl⟩
  rw [← hwq] at S8' ⊢
  have S8 : SS w #[.slice a1 l1 c1, .slice a2 l2 c2, .slice (some ⟨bh, oh, none⟩) l3 c3, .slice a4 l4 c4] #[.int .i64 22, .int .i64 (k : Int), .int .i64 nn, .slice (some ⟨bq, off, none⟩) m1 k1, .slice q2 m2 k2, .int .i64 wa] z G6 G7 x1 x2 (some ⟨b, 0, none⟩) x4 l1 l2 l3 l4 d1 d2 d3 d4 is rs cs hs' #[.int .i64 22, .int .i64 0, .int .i64 (k : Int), .int .i64 0, .slice none 0 0, .slice none 0 0] wq := S8'
  clear hwq S8' S7
  clear x0' x1' x2' x3' y0' y1' y2' y3' y4' y5' n0' n1' n2' n3' t0' t1' t2' t3' t4' t5' ft0 ft1 ft2 ft3 ft4 ft5
  have oL : OwnI (wq.alloc (.cells #[] 3)) wq.heap.size (.slice (some ⟨wq.heap.size, 0, none⟩) 0 0) [] := ⟨rfl, .inr ⟨wq.heap.size, 0, #[], rfl, Nat.le_refl _, Blk.new wq #[] 3, by simp, by simp, rfl, rfl⟩⟩
  have SL := S8.below (bel_alloc wq (.cells #[] 3))
  obtain ⟨x0', x1', x2', x3'⟩ := SL.X.four
  obtain ⟨y0', y1', y2', y3', y4', y5'⟩ := SL.Y.six
  obtain ⟨n0', n1', n2', n3'⟩ := SL.N.four
  obtain ⟨t0', t1', t2', t3', t4', t5'⟩ := SL.T.six
  have ft0 := SL.T.fro 0
  have ft1 := SL.T.fro 1
  have ft2 := SL.T.fro 2
  have ft3 := SL.T.fro 3
  have ft4 := SL.T.fro 4
  have ft5 := SL.T.fro 5
  go_upto_region 41 with (at_builtin; obtain ⟨vA, uA, hr, oA, bA, _, r1, t1, hv⟩ := app0I (wq.alloc (.cells #[] 3)) wq.heap.size wq.heap.size (some ⟨bq, off, none⟩) m1 (k1) ws HQ.out.1 (HN.out.2.2.2.1.below (bel_next S8.bel (bel_alloc _ _))) HXL.out (Nat.le_refl _) oL; refine Lib.wpList_append_run _ rfl (.tmp 186) (.tmp 188) _ _ rfl _ _ rfl rfl _ _ hr ?_; subst hv; have SA := SL.below bA; have HAp : Hid (∀ g, (Of4 (.slice x1 l1 d1) (.slice x2 l2 d2) (.slice (some ⟨b, 0, none⟩) l3 d3) (.slice x4 l4 d4)) g → ¬ Of2 (.slice r1 m1 t1) (.slice none 0 0) g) := S8.apart oA (ownB_nil0 _ _); have HOA : Hid (OwnI (uA.setCell ⟨G7, 4, none⟩ (.slice r1 m1 t1)) w.heap.size (.slice r1 m1 t1) ws) := row_setE (oA.mono S8.bel.size) ⟨_, SA.T⟩ (by decide); have SB := SA.setT 4 (.slice r1 m1 t1); obtain ⟨s0', s1', s2', s3', s4', s5'⟩ := SA.T.six; have fs := SA.T.fro 4; clear hr oA bA oL)
  obtain ⟨w8, hw8⟩ : ∃ x, x = uA.setCell ⟨G7, 4, none⟩ (.slice r1 m1 t1) := ⟨_, rfl⟩
  rw [← hw8] at SB HOA ⊢
  have S9 : SS w #[.slice a1 l1 c1, .slice a2 l2 c2, .slice (some ⟨bh, oh, none⟩) l3 c3, .slice a4 l4 c4] #[.int .i64 22, .int .i64 (k : Int), .int .i64 nn, .slice (some ⟨bq, off, none⟩) m1 k1, .slice q2 m2 k2, .int .i64 wa] z G6 G7 x1 x2 (some ⟨b, 0, none⟩) x4 l1 l2 l3 l4 d1 d2 d3 d4 is rs cs hs' #[.int .i64 22, .int .i64 0, .int .i64 (k : Int), .int .i64 0, .slice r1 m1 t1, .slice none 0 0] w8 := SB
  clear hw8 SB SA SL S8 s0' s1' s2' s3' s4' s5' fs
  clear x0' x1' x2' x3' y0' y1' y2' y3' y4' y5' n0' n1' n2' n3' t0' t1' t2' t3' t4' t5' ft0 ft1 ft2 ft3 ft4 ft5
  have OI := HOA
  obtain ⟨r2, p2, t2, hr2⟩ : ∃ (r2 : Option Addr) (p2 t2 : Nat), Value.slice r2 p2 t2 = .slice none 0 0 := ⟨none, 0, 0, rfl⟩
  rw [← hr2] at S9 HAp
  have OB : Hid (OwnB w8 w.heap.size (.slice r2 p2 t2) []) := by rw [hr2]; exact ownB_nil0 _ _
  clear hr2
  obtain ⟨p1, hp1⟩ : ∃ p1, p1 = m1 := ⟨_, rfl⟩
  have S10 : SS w #[.slice a1 l1 c1, .slice a2 l2 c2, .slice (some ⟨bh, oh, none⟩) l3 c3, .slice a4 l4 c4] #[.int .i64 22, .int .i64 (k : Int), .int .i64 nn, .slice (some ⟨bq, off, none⟩) m1 k1, .slice q2 m2 k2, .int .i64 wa] z G6 G7 x1 x2 (some ⟨b, 0, none⟩) x4 l1 l2 l3 l4 d1 d2 d3 d4 is rs cs hs' #[.int .i64 22, .int .i64 0, .int .i64 (k : Int), .int .i64 0, .slice r1 p1 t1, .slice r2 p2 t2] w8 := by rw [hp1]; exact S9
  rw [← hp1] at HAp OI
  clear S9 HOA hp1
  have N4 := S10.N
  have T' := S10.T
  have P4 := S10.P
  have Q4 := S10.Q
  have HH : Hid (OwnD w8 w.heap.size x1 x2 (some ⟨b, 0, none⟩) x4 l1 l2 l3 l4 d1 d2 d3 d4 cs is hs' rs ∧ OwnI w8 w.heap.size (.slice r1 p1 t1) ws ∧ OwnB w8 w.heap.size (.slice r2 p2 t2) [] ∧ Below w.heap.size w w8 ∧ ExB w8 (w.heap.size + 1 + 1) 27 ∧ ExB w8 (w.heap.size + 1 + 1 + 1) 37) := ⟨S10.D.mono (by have := S10.zb0; omega), OI.out, OB.out, S10.bel, ⟨_, P4⟩, ⟨_, Q4⟩⟩
  have lN : w.heap.size + 1 + 1 + 1 + 1 ≤ G6 := by have := S10.zb0; have := S10.g6; omega
  have lT : w.heap.size + 1 + 1 + 1 + 1 ≤ G7 := by have := S10.g7; omega
  obtain ⟨n0, n1, n2, n3⟩ := N4.four
  obtain ⟨t0', t1', t2', t3', t4', t5'⟩ := T'.six
  obtain ⟨p0', p1', p2', p3'⟩ := P4.four
  obtain ⟨q0', q1', q2', q3', q4', q5'⟩ := Q4.six
  have fp0 := P4.fro 0
  have fp1 := P4.fro 1
  have fp2 := P4.fro 2
  have fp3 := P4.fro 3
  have fq0 := Q4.fro 0
  have fq1 := Q4.fro 1
  have fq2 := Q4.fro 2
  have fq3 := Q4.fro 3
  have fq4 := Q4.fro 4
  have fq5 := Q4.fro 5
  have e1 : ¬ (G6 = w.heap.size + 1 + 1) := by omega
  have e2 : ¬ (G6 = w.heap.size + 1 + 1 + 1) := by omega
  have e3 : ¬ (G7 = w.heap.size + 1 + 1) := by omega
  have e4 : ¬ (G7 = w.heap.size + 1 + 1 + 1) := by omega
  have e1' : ¬ (w.heap.size + 1 + 1 = G6) := by omega
  have e2' : ¬ (w.heap.size + 1 + 1 + 1 = G6) := by omega
  have e3' : ¬ (w.heap.size + 1 + 1 = G7) := by omega
  have e4' : ¬ (w.heap.size + 1 + 1 + 1 = G7) := by omega
  clear lN lT
  obtain ⟨W5, hW5⟩ : ∃ x, x = ((((((((((w8.setCell ⟨w.heap.size + 1 + 1, 0, none⟩ (.slice x1 l1 d1)).setCell ⟨w.heap.size + 1 + 1, 1, none⟩ (.slice x2 l2 d2)).setCell ⟨w.heap.size + 1 + 1, 2, none⟩ (.slice (some ⟨b, 0, none⟩) l3 d3)).setCell ⟨w.heap.size + 1 + 1, 3, none⟩ (.slice x4 l4 d4)).setCell ⟨w.heap.size + 1 + 1 + 1, 0, none⟩ (.int .i64 (22))).setCell ⟨w.heap.size + 1 + 1 + 1, 1, none⟩ (.int .i64 (0))).setCell ⟨w.heap.size + 1 + 1 + 1, 2, none⟩ (.int .i64 ((k : Int)))).setCell ⟨w.heap.size + 1 + 1 + 1, 3, none⟩ (.int .i64 (0))).setCell ⟨w.heap.size + 1 + 1 + 1, 4, none⟩ (.slice r1 p1 t1)).setCell ⟨w.heap.size + 1 + 1 + 1, 5, none⟩ (.slice r2 p2 t2)) := ⟨_, rfl⟩
  have HW5 : Hid (W5 = _) := hW5
  have HF : Hid (OwnD W5 w.heap.size x1 x2 (some ⟨b, 0, none⟩) x4 l1 l2 l3 l4 d1 d2 d3 d4 cs is hs' rs ∧ OwnI W5 w.heap.size (.slice r1 p1 t1) ws ∧ OwnB W5 w.heap.size (.slice r2 p2 t2) [] ∧ Below w.heap.size w W5) := by
    obtain ⟨o1, o2, o3, o4, o5, o6⟩ := HH.out
    have x6 : ∀ v0 v1 v2 v3 : Value, ExB ((((w8.setCell ⟨w.heap.size + 1 + 1, 0, none⟩ v0).setCell ⟨w.heap.size + 1 + 1, 1, none⟩ v1).setCell ⟨w.heap.size + 1 + 1, 2, none⟩ v2).setCell ⟨w.heap.size + 1 + 1, 3, none⟩ v3) (w.heap.size + 1 + 1 + 1) 37 := fun _ _ _ _ => ExB.set (ExB.set (ExB.set (ExB.set o6)))
    rw [hW5]
    exact ⟨(o1.set4 o5 (by decide) (by decide)).set6 (x6 _ _ _ _) (by decide) (by decide), rowp_set6 (row_set4 o2 o5 (by decide)) (x6 _ _ _ _) (by decide), rowp_set6 (row_set4 o3 o5 (by decide)) (x6 _ _ _ _) (by decide), belp_set6 (bel_set4 o4 (by omega)) (by omega)⟩
  have HPQ : Hid (Blk W5 (w.heap.size + 1 + 1) 27 #[.slice x1 l1 d1, .slice x2 l2 d2, .slice (some ⟨b, 0, none⟩) l3 d3, .slice x4 l4 d4] ∧ Blk W5 (w.heap.size + 1 + 1 + 1) 37 #[.int .i64 22, .int .i64 0, .int .i64 (k : Int), .int .i64 0, .slice r1 p1 t1, .slice r2 p2 t2]) := by
    have a1' := (((P4.set 0 (.slice x1 l1 d1)).set 1 (.slice x2 l2 d2)).set 2 (.slice (some ⟨b, 0, none⟩) l3 d3)).set 3 (.slice x4 l4 d4)
    have a2' := (((((a1'.setNe (g' := w.heap.size + 1 + 1 + 1) (j := 0) (y := .int .i64 (22)) (by omega)).setNe (g' := w.heap.size + 1 + 1 + 1) (j := 1) (y := .int .i64 (0)) (by omega)).setNe (g' := w.heap.size + 1 + 1 + 1) (j := 2) (y := .int .i64 ((k : Int))) (by omega)).setNe (g' := w.heap.size + 1 + 1 + 1) (j := 3) (y := .int .i64 (0)) (by omega)).setNe (g' := w.heap.size + 1 + 1 + 1) (j := 4) (y := .slice r1 p1 t1) (by omega)).setNe (g' := w.heap.size + 1 + 1 + 1) (j := 5) (y := .slice r2 p2 t2) (by omega)
    have c1' := (((Q4.setNe (g' := w.heap.size + 1 + 1) (j := 0) (y := .slice x1 l1 d1) (by omega)).setNe (g' := w.heap.size + 1 + 1) (j := 1) (y := .slice x2 l2 d2) (by omega)).setNe (g' := w.heap.size + 1 + 1) (j := 2) (y := .slice (some ⟨b, 0, none⟩) l3 d3) (by omega)).setNe (g' := w.heap.size + 1 + 1) (j := 3) (y := .slice x4 l4 d4) (by omega)
    have c2' := (((((c1'.set 0 (.int .i64 (22))).set 1 (.int .i64 (0))).set 2 (.int .i64 ((k : Int)))).set 3 (.int .i64 (0))).set 4 (.slice r1 p1 t1)).set 5 (.slice r2 p2 t2)
    rw [hW5]
    exact ⟨a2', c2'⟩
  clear hW5 S10
  go_region
  rw [← HW5.out]
  obtain ⟨u0, u1, u2, u3⟩ := HPQ.out.1.four
  obtain ⟨v0, v1, v2, v3, v4, v5⟩ := HPQ.out.2.six
  clear p0' p1' p2' p3' q0' q1' q2' q3' q4' q5' fp0 fp1 fp2 fp3 fq0 fq1 fq2 fq3 fq4 fq5 n0 n1 n2 n3 t0' t1' t2' t3' t4' t5'
  go_wp2
  refine bodyPost_ret (v := .tuple #[dv x1 x2 (some ⟨b, 0, none⟩) x4 l1 l2 l3 l4 d1 d2 d3 d4, rp (22) (0) ((k : Int)) (0) r1 r2 p1 p2 t1 t2]) (by simp [results, Try.results42, go_sem, u0, u1, u2, u3, v0, v1, v2, v3, v4, v5]) rfl ?_
  obtain ⟨o1, o2, o3, o4⟩ := HF.out
  exact ⟨_, _, _, _, _, _, _, _, _, _, _, _, _, _, _, _, _, _, rfl, o1.drew, o2.below (Below.refl _ _).drew, o3.below (Below.refl _ _).drew, HAp.out, o4.drew⟩
end Go.Proofs.Ytfdddkjonjpgpaa
namespace Go.Proofs.Ytfdddkjonjpgpaa
open Go.RowKit
set_option linter.unusedVariables false
set_option linter.unusedSimpArgs false
theorem one_of {α : Type} {l : List α} (h : l.length = 1) (d : α) : l = [l.getD 0 d] := by
  match l, h with
  | [x], _ => rfl
set_option maxRecDepth 20000 in
set_option maxHeartbeats 400000 in
theorem specServe_q (a1 a2 a3 a4 : Option Addr) (l1 l2 l3 l4 c1 c2 c3 c4 : Nat) (cs is : List Bool) (hs rs : List Int) (kd pl nn wa : Int) (q1 q2 : Option Addr) (m1 m2 k1 k2 : Nat) (ws : List Int) (bs : List Bool) (w : World) (hn : LnD l1 l2 l3 l4 cs is hs rs) (hs0 : SlD w a1 a2 a3 a4 cs is hs rs) (hsm : SmD 2000000 cs is hs rs) (hcap : l1 ≤ c1 ∧ l2 ≤ c2 ∧ l3 ≤ c3 ∧ l4 ≤ c4) (hq : SlI w q1 ws) (hq2 : SlB w q2 bs) (h1 : m1 = ws.length) (h2 : m2 = bs.length) (hl : ws.length ≤ 2000000) (hl2 : bs.length ≤ 2000000) (V : SvR) (hV : svV l1 l2 l3 l4 cs is hs rs kd pl nn wa m1 m2 ws bs = V) :
    Calls Try.prog 42 #[dv a1 a2 a3 a4 l1 l2 l3 l4 c1 c2 c3 c4, rq kd pl nn wa q1 q2 m1 m2 k1 k2] w fun e w' => SR w w' e V.cs is V.hs rs V.kd V.fl V.pl V.nn V.ws V.bs := by
  cases hok : okR kd pl nn wa ws m1 m2
  · obtain rfl : V = ⟨cs, hs, 0, 0, 0, 0, [], []⟩ := by rw [← hV]; unfold svV; rw [if_pos hok]
    cases hd : okD l1 l2 l3 l4 hs rs
    · exact specServe_no2 a1 a2 a3 a4 l1 l2 l3 l4 c1 c2 c3 c4 cs is hs rs kd pl nn wa q1 q2 m1 m2 k1 k2 ws bs w hn hs0 hsm hq hq2 h1 h2 hl hl2 hok hd
    · exact specServe_no1 a1 a2 a3 a4 l1 l2 l3 l4 c1 c2 c3 c4 cs is hs rs kd pl nn wa q1 q2 m1 m2 k1 k2 ws bs w hn hs0 hsm hq hq2 h1 h2 hl hl2 hok hd
  cases hd : okD l1 l2 l3 l4 hs rs
  · obtain rfl : V = ⟨cs, hs, kd, 4, 0, 0, [], []⟩ := by rw [← hV]; unfold svV; rw [hok, if_neg (by decide), if_pos hd]
    exact specServe_dev a1 a2 a3 a4 l1 l2 l3 l4 c1 c2 c3 c4 cs is hs rs kd pl nn wa q1 q2 m1 m2 k1 k2 ws bs w hn hs0 hsm hq hq2 h1 h2 hl hl2 hok hd
  cases ha : svAll l1 l2 l3 l4 kd pl nn wa m1 m2
  · obtain rfl : V = ⟨cs, hs, kd, 2, 0, 0, [], []⟩ := by rw [← hV]; unfold svV; rw [hok, if_neg (by decide), hd, if_neg (by decide), if_pos ha]
    exact specServe_at a1 a2 a3 a4 l1 l2 l3 l4 c1 c2 c3 c4 cs is hs rs kd pl nn wa q1 q2 m1 m2 k1 k2 ws bs w hn hs0 hsm hq hq2 h1 h2 hl hl2 hok hd ha
  have hVd : svDo cs is hs rs kd pl nn wa ws bs = V := by rw [← hV]; unfold svV; rw [hok, if_neg (by decide), hd, if_neg (by decide), ha, if_neg (by decide)]
  have hle := svAll_le ha
  have hlm := okD_len hd
  obtain ⟨hc1, hc2, hc3, hc4⟩ := hcap
  obtain ⟨⟨hp0, hp1⟩, hf⟩ := okR_f hok
  obtain ⟨k, rfl⟩ := Int.eq_ofNat_of_zero_le hp0
  clear hV
  rcases hf with h1 | h2 | h3 | h4 | h5 | h6 | h15 | h16 | h22 | h23
  · obtain ⟨rfl, hN1, hN2, hm1, hm2, rfl⟩ := h1
    obtain ⟨N, rfl⟩ := Int.eq_ofNat_of_zero_le (show 0 ≤ nn by omega)
    obtain rfl : V = ⟨cs, hs, 1, 0, 0, 0, [], tB8 cs k N⟩ := by rw [← hVd]; rfl
    have hle1 := hle.1
    have hle2 := hle.2
    simp [spc0, spcN] at hle1 hle2
    have := specServe_1 a1 a2 a3 a4 l1 l2 l3 l4 c1 c2 c3 c4 cs is hs rs 0 q1 q2 m1 m2 k1 k2 ws bs w hn hs0 hsm hq hq2 h1 h2 hl hl2 k N (by omega) (by omega) hc1 hok hd ha
    exact this
  · obtain ⟨rfl, hN1, hN2, hm1, hm2, rfl⟩ := h2
    obtain ⟨N, rfl⟩ := Int.eq_ofNat_of_zero_le (show 0 ≤ nn by omega)
    obtain rfl : V = ⟨cs, hs, 2, 0, 0, 0, [], tB8 is k N⟩ := by rw [← hVd]; rfl
    have hle1 := hle.1
    have hle2 := hle.2
    simp [spc0, spcN] at hle1 hle2
    have := specServe_2 a1 a2 a3 a4 l1 l2 l3 l4 c1 c2 c3 c4 cs is hs rs 0 q1 q2 m1 m2 k1 k2 ws bs w hn hs0 hsm hq hq2 h1 h2 hl hl2 k N (by omega) (by omega) hc2 hok hd ha
    exact this
  · obtain ⟨rfl, hN1, hN2, hm1, hm2, rfl⟩ := h3
    obtain ⟨N, rfl⟩ := Int.eq_ofNat_of_zero_le (show 0 ≤ nn by omega)
    obtain rfl : V = ⟨cs, hs, 3, 0, 0, 0, (hs.drop k).take N, []⟩ := by rw [← hVd]; rfl
    have hle1 := hle.1
    have hle2 := hle.2
    simp [spc0, spcN] at hle1 hle2
    have := specServe_3 a1 a2 a3 a4 l1 l2 l3 l4 c1 c2 c3 c4 cs is hs rs 0 q1 q2 m1 m2 k1 k2 ws bs w hn hs0 hsm hq hq2 h1 h2 hl hl2 k N (by omega) (by omega) hc3 _ rfl hok hd ha
    exact this
  · obtain ⟨rfl, hN1, hN2, hm1, hm2, rfl⟩ := h4
    obtain ⟨N, rfl⟩ := Int.eq_ofNat_of_zero_le (show 0 ≤ nn by omega)
    obtain rfl : V = ⟨cs, hs, 4, 0, 0, 0, (rs.drop k).take N, []⟩ := by rw [← hVd]; rfl
    have hle1 := hle.1
    have hle2 := hle.2
    simp [spc0, spcN] at hle1 hle2
    have := specServe_4 a1 a2 a3 a4 l1 l2 l3 l4 c1 c2 c3 c4 cs is hs rs 0 q1 q2 m1 m2 k1 k2 ws bs w hn hs0 hsm hq hq2 h1 h2 hl hl2 k N (by omega) (by omega) hc4 _ rfl hok hd ha
    exact this
  · obtain ⟨rfl, rfl, hm1, hm2, rfl⟩ := h5
    obtain rfl : V = ⟨cs.set k (bs.getD 0 false), hs, 5, 0, (k : Int), 0, [], bs⟩ := by rw [← hVd]; rfl
    have hle1 := hle.1
    have hle2 := hle.2
    simp [spc0, spcN] at hle1 hle2
    have := specServe_5 a1 a2 a3 a4 l1 l2 l3 l4 c1 c2 c3 c4 cs is hs rs 0 0 q1 q2 m1 m2 k1 k2 ws bs w hn hs0 hsm hq hq2 h1 h2 hl hl2 k (by omega) hok hd ha
    have e5 : wr cs k bs = cs.set k (bs.getD 0 false) := by rw [one_of (l := bs) (by omega) false]; exact wr_one cs k _ (by obtain ⟨e, _⟩ := hn; omega)
    rw [e5] at this
    exact this
  · obtain ⟨rfl, rfl, hm1, hm2, rfl⟩ := h6
    obtain rfl : V = ⟨cs, hs.set k (ws.getD 0 0), 6, 0, (k : Int), 0, ws, []⟩ := by rw [← hVd]; rfl
    have hle1 := hle.1
    have hle2 := hle.2
    simp [spc0, spcN] at hle1 hle2
    have := specServe_6 a1 a2 a3 a4 l1 l2 l3 l4 c1 c2 c3 c4 cs is hs rs 0 0 q1 q2 m1 m2 k1 k2 ws bs w hn hs0 hsm hq hq2 h1 h2 hl hl2 k (by omega) hok hd ha
    have e5 : wr hs k ws = hs.set k (ws.getD 0 0) := by rw [one_of (l := ws) (by omega) 0]; exact wr_one hs k _ (by obtain ⟨_, _, e, _⟩ := hn; omega)
    rw [e5] at this
    exact this
  · obtain ⟨rfl, rfl, hm1, hm2, hm3, rfl⟩ := h15
    obtain rfl : V = ⟨wr cs k bs, hs, 15, 0, (k : Int), (m2 : Int), [], []⟩ := by rw [← hVd, h2]; rfl
    have hle1 := hle.1
    have hle2 := hle.2
    simp [spc0, spcN] at hle1 hle2
    have := specServe_15 a1 a2 a3 a4 l1 l2 l3 l4 c1 c2 c3 c4 cs is hs rs 0 0 q1 q2 m1 m2 k1 k2 ws bs w hn hs0 hsm hq hq2 h1 h2 hl hl2 k (by omega) hok hd ha
    exact this
  · obtain ⟨rfl, rfl, hm2, hm1, hm3, rfl⟩ := h16
    obtain rfl : V = ⟨cs, wr hs k ws, 16, 0, (k : Int), (m1 : Int), [], []⟩ := by rw [← hVd, h1]; rfl
    have hle1 := hle.1
    have hle2 := hle.2
    simp [spc0, spcN] at hle1 hle2
    have := specServe_16 a1 a2 a3 a4 l1 l2 l3 l4 c1 c2 c3 c4 cs is hs rs 0 0 q1 q2 m1 m2 k1 k2 ws bs w hn hs0 hsm hq hq2 h1 h2 hl hl2 k (by omega) hok hd ha
    exact this
  · obtain ⟨rfl, rfl, hm1, hm2, rfl⟩ := h22
    obtain rfl : V = ⟨cs, hs.set k (mskI (hs.getD k 0) (ws.getD 0 0) (ws.getD 1 0)), 22, 0, (k : Int), 0, ws, []⟩ := by rw [← hVd]; rfl
    have hle1 := hle.1
    have hle2 := hle.2
    simp [spc0, spcN] at hle1 hle2
    have := specServe_22 a1 a2 a3 a4 l1 l2 l3 l4 c1 c2 c3 c4 cs is hs rs 0 0 q1 q2 m1 m2 k1 k2 ws bs w hn hs0 hsm hq hq2 h1 h2 hl hl2 k (by omega) (by omega) _ rfl hok hd ha
    exact this
  · obtain ⟨rfl, hN1, hN2, hm2, hm1, hm3, hw1, hw2⟩ := h23
    obtain ⟨N, rfl⟩ := Int.eq_ofNat_of_zero_le (show 0 ≤ nn by omega)
    obtain ⟨j, rfl⟩ := Int.eq_ofNat_of_zero_le hw1
    obtain rfl : V = ⟨cs, wr hs j ws, 23, 0, 0, 0, ((wr hs j ws).drop k).take N, []⟩ := by rw [← hVd]; rfl
    have hle1 := hle.1
    have hle2 := hle.2
    simp [spc0, spcN] at hle1 hle2
    have := specServe_23 a1 a2 a3 a4 l1 l2 l3 l4 c1 c2 c3 c4 cs is hs rs q1 q2 m1 m2 k1 k2 ws bs w hn hs0 hsm hq hq2 h1 h2 hl hl2 k N j (by omega) (by omega) (by omega) _ rfl hok hd ha
    exact this
end Go.Proofs.Ytfdddkjonjpgpaa
namespace Go.Proofs.Ytfdddkjonjpgpaa
open Go.ChangeShapes Go.WideShapes Go.ChangeAt Go.RowKit Go.Deep Go.Joins
def InIos (w : World) (a : Option Addr) (len : Nat) (zs : List Int) : Prop := zs.length = len ∧ len ≤ maxLen ∧ SlI w a zs ∧ ∀ n ∈ zs, -9223372036854775808 ≤ n ∧ n ≤ 9223372036854775807
theorem inIos_of {w : World} {x : Addr} {len cap : Nat} {z : List Int} (hl : len ≤ cap) (hm : cap ≤ maxLen) (hz : z.length = cap) (hcell : ∀ i, i < z.length → w.cell? (x.add i) = some (.int .i64 (z.getD i 0)))
    (hwz : ∀ n ∈ z, (Lit.int .i64 n).wf = true) : ∃ zs : List Int, InIos w (some x) len zs := by
  refine ⟨z.take len, by simp; omega, by omega, ?_, fun n hn => bounds_i64 (hwz n (List.mem_of_mem_take hn))⟩
  by_cases h0 : len = 0
  · subst h0; exact .inl (by simp)
  · obtain ⟨b, off, spot⟩ := x
    have hc := hcell 0 (by omega)
    have hspot : spot = none := by simpa [Addr.add] using World.cell?_spot hc
    subst hspot
    refine .inr ⟨b, off, rfl, World.block_lt_of_cell? _ _ hc, fun i hi => ?_⟩
    simp only [List.length_take] at hi
    have := hcell i (by omega)
    rw [List.getD_eq_getElem?_getD, List.getElem?_take, if_pos (by omega), ← List.getD_eq_getElem?_getD]
    by_cases e : i = 0
    · subst e; simpa [Addr.add] using this
    · simpa [Addr.add, e] using this
section
variable {H : Type} {enc : TypeId × Value → H} {P : Program} {w : World} {base : Nat} {held : Bool}
theorem opened_ios {t e : TypeId} {fuel : Nat} {a : Option Addr} {len cap : Nat} {x : DataW H × List MemPlace} (ht : P.underlying t = some (.slice e)) (he : P.underlying e = some (.int .i64)) (hc : P.cellsOf e = 1)
    (hf : DataW.trod enc P w base (fun _ => true) held fuel t [.slice a len cap] = some x) : ∃ zs : List Int, InIos w a len zs := by
  rcases open_ints ht he hc hf with ⟨hcs, _⟩ | ⟨x, l, c, zs, hcs, _, hl, hm, hz, _, hcell, hwz⟩
  · simp at hcs
    obtain ⟨rfl, rfl, rfl⟩ := hcs
    exact ⟨[], rfl, Nat.zero_le _, .inl rfl, fun n hn => by cases hn⟩
  · simp at hcs
    obtain ⟨rfl, rfl, rfl⟩ := hcs
    exact inIos_of hl hm (by simpa using hz) hcell hwz
theorem opened_bosm {t e : TypeId} {fuel : Nat} {a : Option Addr} {len cap : Nat} {x : DataW H × List MemPlace} (ht : P.underlying t = some (.slice e)) (he : P.underlying e = some .bool) (hc : P.cellsOf e = 1)
    (hf : DataW.trod enc P w base (fun _ => true) held fuel t [.slice a len cap] = some x) : (∃ zs : List Bool, InBos w a len zs) ∧ len ≤ maxLen := by
  refine ⟨opened_bos ht he hc hf, ?_⟩
  rcases open_bools ht he hc hf with ⟨hcs, _⟩ | ⟨x, l, c, B, hcs, _, hl, hm, _, hcell⟩
  · simp at hcs
    obtain ⟨rfl, rfl, rfl⟩ := hcs
    exact Nat.zero_le _
  · simp at hcs
    obtain ⟨rfl, rfl, rfl⟩ := hcs
    omega
def InReq (w : World) (kd pl nn wa : Int) (a b : Option Addr) (la lb : Nat) (ws : List Int) (bs : List Bool) : Prop :=
  InIos w a la ws ∧ InBos w b lb bs ∧ lb ≤ maxLen ∧ (Lit.int .i64 kd).wf = true ∧ (Lit.int .i64 pl).wf = true ∧ (Lit.int .i64 nn).wf = true ∧ (Lit.int .i64 wa).wf = true
end
end Go.Proofs.Ytfdddkjonjpgpaa
namespace Go.Proofs.Ytfdddkjonjpgpaa
open Go.ChangeShapes Go.WideShapes Go.ChangeAt Go.RowKit Go.Deep Go.Joins
section
variable {H : Type} {enc : TypeId × Value → H} {P : Program} {w : World} {base : Nat} {held : Bool}
theorem array4 {α : Type} {cs : Array α} (h : cs.size = 4) : ∃ c0 c1 c2 c3, cs = #[c0, c1, c2, c3] := by
  obtain ⟨l⟩ := cs
  match l, h with
  | [c0, c1, c2, c3], _ => exact ⟨c0, c1, c2, c3, rfl⟩
theorem opened_struct4 {r : Reach} {b0 : Nat} {t : TypeId} {f0 f1 f2 f3 : Field} {v : Value} {d : DataW H} {p : List MemPlace} {spare : Nat → Bool} (hs : P.underlying t = some (.struct #[f0, f1, f2, f3])) (hone : oneCellFields P #[f0, f1, f2, f3] = true) (hC : P.cellsOf t = 4)
    (hv : Value.okWide P w r b0 t v) (h : DataW.Trod enc P w base spare held t v d p) :
    ∃ c0 c1 c2 c3 n y0 y1 y2 y3, v = .agg #[c0, c1, c2, c3] ∧ DataW.trod enc P w base spare held n f0.type [c0] = some y0 ∧ DataW.trod enc P w base spare held n f1.type [c1] = some y1 ∧ DataW.trod enc P w base spare held n f2.type [c2] = some y2 ∧ DataW.trod enc P w base spare held n f3.type [c3] = some y3 := by
  obtain ⟨cs, rfl, hsz⟩ := okWide_struct hs hv
  obtain ⟨c0, c1, c2, c3, rfl⟩ := array4 (hsz.trans hC)
  obtain ⟨fuel, hf'⟩ := h
  obtain ⟨xs, n, _, hx, hl, hlen, hg⟩ := DataW.trod_struct hs hf'
  obtain ⟨o0, k0⟩ := hone_of hone 0 f0 rfl
  obtain ⟨o1, k1⟩ := hone_of hone 1 f1 rfl
  obtain ⟨o2, k2⟩ := hone_of hone 2 f2 rfl
  obtain ⟨o3, k3⟩ := hone_of hone 3 f3 rfl
  have h0 := hg 0 f0 rfl
  have h1 := hg 1 f1 rfl
  have h2 := hg 2 f2 rfl
  have h3 := hg 3 f3 rfl
  match xs, hlen with
  | [y0, y1, y2, y3], _ =>
    exact ⟨c0, c1, c2, c3, n, y0, y1, y2, y3, rfl, by simpa [Value.cells, o0, k0] using h0, by simpa [Value.cells, o1, k1] using h1, by simpa [Value.cells, o2, k2] using h2, by simpa [Value.cells, o3, k3] using h3⟩
def InDev (w : World) (a b c d : Option Addr) (la lb lc ld : Nat) (cs is : List Bool) (hs rs : List Int) : Prop :=
  (InBos w a la cs ∧ la ≤ maxLen) ∧ (InBos w b lb is ∧ lb ≤ maxLen) ∧ InIos w c lc hs ∧ InIos w d ld rs
theorem opened_dev {r : Reach} {b0 : Nat} {t i si sb tb : TypeId} {f0 f1 f2 f3 : Field} {v : Value} {d : DataW H} {p : List MemPlace} (hs : P.underlying t = some (.struct #[f0, f1, f2, f3])) (hone : oneCellFields P #[f0, f1, f2, f3] = true) (hC : P.cellsOf t = 4)
    (e0 : f0.type = sb) (e1 : f1.type = sb) (e2 : f2.type = si) (e3 : f3.type = si) (hi : P.underlying i = some (.int .i64)) (hsi : P.underlying si = some (.slice i)) (hsb : P.underlying sb = some (.slice tb)) (htb : P.underlying tb = some .bool) (hci : P.cellsOf i = 1) (hcb : P.cellsOf tb = 1)
    (hv : Value.okWide P w r b0 t v) (h : DataW.Trod enc P w base (fun _ => true) held t v d p) :
    ∃ xa xb xc xd la ca lb cb lc cc ld cd cs is hs rs, v = .agg #[.slice xa la ca, .slice xb lb cb, .slice xc lc cc, .slice xd ld cd] ∧ InDev w xa xb xc xd la lb lc ld cs is hs rs := by
  obtain ⟨c0, c1, c2, c3, n, y0, y1, y2, y3, rfl, h0, h1, h2, h3⟩ := opened_struct4 hs hone hC hv h
  rw [e0] at h0
  rw [e1] at h1
  rw [e2] at h2
  rw [e3] at h3
  obtain ⟨xa, la, ca, hcs⟩ := slice_form hsb h0
  simp at hcs
  subst hcs
  obtain ⟨xb, lb, cb, hcs⟩ := slice_form hsb h1
  simp at hcs
  subst hcs
  obtain ⟨xc, lc, cc, hcs⟩ := slice_form hsi h2
  simp at hcs
  subst hcs
  obtain ⟨xd, ld, cd, hcs⟩ := slice_form hsi h3
  simp at hcs
  subst hcs
  obtain ⟨⟨cs, hb0⟩, hm0⟩ := opened_bosm hsb htb hcb h0
  obtain ⟨⟨is, hb1⟩, hm1⟩ := opened_bosm hsb htb hcb h1
  obtain ⟨hs', hw2⟩ := opened_ios hsi hi hci h2
  obtain ⟨rs, hw3⟩ := opened_ios hsi hi hci h3
  exact ⟨xa, xb, xc, xd, la, ca, lb, cb, lc, cc, ld, cd, cs, is, hs', rs, rfl, ⟨hb0, hm0⟩, ⟨hb1, hm1⟩, hw2, hw3⟩
end
end Go.Proofs.Ytfdddkjonjpgpaa
namespace Go.Proofs.Ytfdddkjonjpgpaa
open Go.RowKit
set_option linter.unusedVariables false
set_option linter.unusedSimpArgs false
def SRv (u : World) (B : Nat) (is : List Bool) (rs : List Int) (V : SvR) (v : Value) : Prop :=
  ∃ a1 a2 a3 a4 l1 l2 l3 l4 c1 c2 c3 c4 r1 r2 m1 m2 k1 k2, v = .tuple #[dv a1 a2 a3 a4 l1 l2 l3 l4 c1 c2 c3 c4, rp V.kd V.fl V.pl V.nn r1 r2 m1 m2 k1 k2] ∧ OwnD u B a1 a2 a3 a4 l1 l2 l3 l4 c1 c2 c3 c4 V.cs is V.hs rs ∧ OwnI u B (.slice r1 m1 k1) V.ws ∧ OwnB u B (.slice r2 m2 k2) V.bs ∧
    (∀ g, Of4 (.slice a1 l1 c1) (.slice a2 l2 c2) (.slice a3 l3 c3) (.slice a4 l4 c4) g → ¬ Of2 (.slice r1 m1 k1) (.slice r2 m2 k2) g)
def SRb (u : World) (B B6 B7 : Nat) (is : List Bool) (rs : List Int) (V : SvR) : Prop :=
  ∃ a1 a2 a3 a4 l1 l2 l3 l4 c1 c2 c3 c4 r1 r2 m1 m2 k1 k2, Blk u B6 27 #[.slice a1 l1 c1, .slice a2 l2 c2, .slice a3 l3 c3, .slice a4 l4 c4] ∧ Blk u B7 37 #[.int .i64 V.kd, .int .i64 V.fl, .int .i64 V.pl, .int .i64 V.nn, .slice r1 m1 k1, .slice r2 m2 k2] ∧ OwnD u B a1 a2 a3 a4 l1 l2 l3 l4 c1 c2 c3 c4 V.cs is V.hs rs ∧ OwnI u B (.slice r1 m1 k1) V.ws ∧ OwnB u B (.slice r2 m2 k2) V.bs ∧
    (∀ g, Of4 (.slice a1 l1 c1) (.slice a2 l2 c2) (.slice a3 l3 c3) (.slice a4 l4 c4) g → ¬ Of2 (.slice r1 m1 k1) (.slice r2 m2 k2) g)
end Go.Proofs.Ytfdddkjonjpgpaa
namespace Go.Proofs.Ytfdddkjonjpgpaa
open Go.RowKit
set_option linter.unusedVariables false
set_option linter.unusedSimpArgs false
structure RI (W : World) (a1 a2 a3 a4 : Option Addr) (l1 l2 l3 l4 c1 c2 c3 c4 : Nat) (cs is : List Bool) (hs rs : List Int) (kd pl nn wa : Int) (q1 q2 : Option Addr) (m1 m2 k1 k2 : Nat) (ws : List Int) (bs : List Bool) (V : SvR) (b0 b1 b2 b3 b4 b5 b6 b7 b8 b9 b10 b11 : Bool) (tA tB tC tD tS tM tE tF tX tY : Value) (u : World) : Prop where
  bel : Below W.heap.size W u
  f0 : b0 = true → tA = .agg #[.slice a1 l1 c1, .slice a2 l2 c2, .slice a3 l3 c3, .slice a4 l4 c4]
  f1 : b1 = true → ∃ g1 g2 g3 g4, tB = .agg #[.slice (some ⟨g1, 0, none⟩) l1 l1, .slice (some ⟨g2, 0, none⟩) l2 l2, .slice (some ⟨g3, 0, none⟩) l3 l3, .slice (some ⟨g4, 0, none⟩) l4 l4] ∧ OwnD u W.heap.size (some ⟨g1, 0, none⟩) (some ⟨g2, 0, none⟩) (some ⟨g3, 0, none⟩) (some ⟨g4, 0, none⟩) l1 l2 l3 l4 l1 l2 l3 l4 cs is hs rs
  f2 : b2 = true → tC = .agg #[.int .i64 kd, .int .i64 pl, .int .i64 nn, .slice q1 m1 k1, .slice q2 m2 k2, .int .i64 wa]
  f3 : b3 = true → ∃ g5 g6, tD = .agg #[.int .i64 kd, .int .i64 pl, .int .i64 nn, .slice (some ⟨g5, 0, none⟩) m1 m1, .slice (some ⟨g6, 0, none⟩) m2 m2, .int .i64 wa] ∧ OwnI u W.heap.size (.slice (some ⟨g5, 0, none⟩) m1 m1) ws ∧ OwnB u W.heap.size (.slice (some ⟨g6, 0, none⟩) m2 m2) bs
  f4 : b4 = true → SRv u W.heap.size is rs V tS
  f5 : b5 = true → b4 = true ∧ tM = tS
  f6 : b6 = true → b5 = true ∧ ∀ x y, tM = .tuple #[x, y] → tE = x
  f7 : b7 = true → b5 = true ∧ ∀ x y, tM = .tuple #[x, y] → tF = y
  f8 : b8 = true → ∃ B6, tX = .pointer (some ⟨B6, 0, none⟩) ∧ W.heap.size ≤ B6 ∧ (b10 = false → Blk u B6 27 #[.slice none 0 0, .slice none 0 0, .slice none 0 0, .slice none 0 0]) ∧ (b10 = true → ∀ zs, tE = .agg zs → Blk u B6 27 zs)
  f9 : b9 = true → ∃ B7, tY = .pointer (some ⟨B7, 0, none⟩) ∧ W.heap.size ≤ B7 ∧ (b11 = false → Blk u B7 37 #[.int .i64 0, .int .i64 0, .int .i64 0, .int .i64 0, .slice none 0 0, .slice none 0 0]) ∧ (b11 = true → ∀ zs, tF = .agg zs → Blk u B7 37 zs)
  g10 : b10 = true → b8 = true ∧ b6 = true
  g11 : b11 = true → b9 = true ∧ b7 = true
def putS8 (a : Act) (tA tB tC tD tS tM tE tF tX tY : Value) : Act := ((((((((((a.put (some 28) tA).put (some 29) tB).put (some 30) tC).put (some 31) tD).put (some 32) tS).put (some 27) tM).put (some 33) tE).put (some 34) tF).put (some 6) tX).put (some 7) tY)
def putS35 (a : Act) (tA tB tC tD tS tM tE tF tX tY : Value) : Act := ((((((((((a.put (some 105) tA).put (some 106) tB).put (some 107) tC).put (some 108) tD).put (some 109) tS).put (some 104) tM).put (some 110) tE).put (some 111) tF).put (some 15) tX).put (some 16) tY)
def RInv8 (W : World) (a1 a2 a3 a4 : Option Addr) (l1 l2 l3 l4 c1 c2 c3 c4 : Nat) (cs is : List Bool) (hs rs : List Int) (kd pl nn wa : Int) (q1 q2 : Option Addr) (m1 m2 k1 k2 : Nat) (ws : List Int) (bs : List Bool) (V : SvR) (a0 : Act) (l : Array Bool) (act : Act) (u : World) : Prop :=
  ∃ b0 b1 b2 b3 b4 b5 b6 b7 b8 b9 b10 b11 : Bool, l = #[b0, b1, b2, b3, b4, b5, b6, b7, b8, b9, b10, b11] ∧ ∃ tA tB tC tD tS tM tE tF tX tY : Value, act = putS8 a0 tA tB tC tD tS tM tE tF tX tY ∧ RI W a1 a2 a3 a4 l1 l2 l3 l4 c1 c2 c3 c4 cs is hs rs kd pl nn wa q1 q2 m1 m2 k1 k2 ws bs V b0 b1 b2 b3 b4 b5 b6 b7 b8 b9 b10 b11 tA tB tC tD tS tM tE tF tX tY u
def RInv35 (W : World) (a1 a2 a3 a4 : Option Addr) (l1 l2 l3 l4 c1 c2 c3 c4 : Nat) (cs is : List Bool) (hs rs : List Int) (kd pl nn wa : Int) (q1 q2 : Option Addr) (m1 m2 k1 k2 : Nat) (ws : List Int) (bs : List Bool) (V : SvR) (a0 : Act) (l : Array Bool) (act : Act) (u : World) : Prop :=
  ∃ b0 b1 b2 b3 b4 b5 b6 b7 b8 b9 b10 b11 : Bool, l = #[b0, b1, b2, b3, b4, b5, b6, b7, b8, b9, b10, b11] ∧ ∃ tA tB tC tD tS tM tE tF tX tY : Value, act = putS35 a0 tA tB tC tD tS tM tE tF tX tY ∧ RI W a1 a2 a3 a4 l1 l2 l3 l4 c1 c2 c3 c4 cs is hs rs kd pl nn wa q1 q2 m1 m2 k1 k2 ws bs V b0 b1 b2 b3 b4 b5 b6 b7 b8 b9 b10 b11 tA tB tC tD tS tM tE tF tX tY u
end Go.Proofs.Ytfdddkjonjpgpaa
