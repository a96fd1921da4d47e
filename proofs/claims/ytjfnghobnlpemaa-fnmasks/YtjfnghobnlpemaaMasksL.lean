/- The law of masks, walked. -/
import Derived.Test.YtjfnghobnlpemaaDev12
import Derived.Test.YtjfnghobnlpemaaDev3
import Derived.Test.YtjfnghobnlpemaaMsk
import Derived.Test.YtjfnghobnlpemaaAt1
import Derived.Test.YtjfnghobnlpemaaArgS
namespace Go.Proofs.Ytjfnghobnlpemaa
open Go.RowKit

set_option linter.unusedVariables false

set_option linter.unusedSimpArgs false

theorem slI_lit1 (w : World) (x : Int) : SlI (w.alloc (.cells #[.int .i64 x] 3)) (some ⟨w.heap.size, 0, none⟩) [x] := by
  refine .inr ⟨_, _, rfl, by simp, fun i hi => ?_⟩
  have h0 : i = 0 := by simpa using hi
  subst h0
  simp

theorem slI_lit2 (w : World) (x y : Int) : SlI (w.alloc (.cells #[.int .i64 x, .int .i64 y] 3)) (some ⟨w.heap.size, 0, none⟩) [x, y] := by
  refine .inr ⟨_, _, rfl, by simp, fun i hi => ?_⟩
  have h0 : i = 0 ∨ i = 1 := by simp at hi; omega
  rcases h0 with rfl | rfl
  · simp
  · simp

theorem okD3 {l1 l2 l3 l4 : Nat} {x y z : Int} (h1 : l1 = 3) (h2 : l2 = 3) (h3 : l3 = 3) (h4 : l4 = 3) (hx : 0 ≤ x ∧ x ≤ 65535) (hy : 0 ≤ y ∧ y ≤ 65535) (hz : 0 ≤ z ∧ z ≤ 65535) : okD l1 l2 l3 l4 [x, y, z] [0, 0, 0] = true := by
  subst h1 h2 h3 h4
  have e1 : allW [x, y, z] = true := allW_of (by intro q hq; simp at hq; rcases hq with rfl | rfl | rfl; exact hx; exact hy; exact hz)
  have e2 : allW [0, 0, 0] = true := rfl
  unfold okD; rw [e1, e2]; rfl

set_option maxRecDepth 20000 in
set_option maxHeartbeats 16000000 in
theorem masks_law (a : Option Addr) (n cap : Nat) (zs : List Int) (w : World) (hn : n = zs.length) (hs : Sl w a zs) (hr : ∀ z ∈ zs, 0 ≤ z ∧ z ≤ 255) (hl : zs.length ≤ 1048576) :
    Calls Try.prog 6 #[.slice a n cap] w fun e w' => e = .returned (.bool true) ∧ Below w.heap.size w w' := by
  have HS : Hid (n = zs.length ∧ Sl w a zs ∧ (∀ z ∈ zs, 0 ≤ z ∧ z ≤ 255) ∧ zs.length ≤ 1048576) := ⟨hn, hs, hr, hl⟩
  have hl' : ¬ ((1048576 : Int) < (n : Int)) := by omega
  clear hn hs hr hl
  go_enter Try.func6, Try.ntmps6
  go_wp2_with (first | (go_at_call 13; go_in) | fail)
  refine (implNew_any 3 3 rfl _).mono ?_
  rintro e w1 ⟨a1, a2, a3, a4, l1, l2, l3, l4, c1, c2, c3, c4, rfl, o1, b1⟩
  have b' := bel_alloc w1 (.cells #[.slice a1 l1 c1, .slice a2 l2 c2, .slice a3 l3 c3, .slice a4 l4 c4] 36)
  have D' := Blk.new w1 #[.slice a1 l1 c1, .slice a2 l2 c2, .slice a3 l3 c3, .slice a4 l4 c4] 36
  obtain ⟨w2, hw2⟩ : ∃ x, x = w1.alloc (.cells #[.slice a1 l1 c1, .slice a2 l2 c2, .slice a3 l3 c3, .slice a4 l4 c4] 36) := ⟨_, rfl⟩
  rw [← hw2] at b' D'
  have HW2 : Hid (w2 = _) := hw2
  obtain ⟨BD, hBD⟩ : ∃ x, x = w1.heap.size := ⟨_, rfl⟩
  rw [← hBD] at D'
  have HBD : Hid (BD = w1.heap.size) := hBD
  have HB1 : Hid (w.heap.size ≤ w1.heap.size) := b1.size
  have b2 := bel_next b1 b'
  have o2 := o1.below b'
  clear hw2 hBD b1 o1 b'
  go_upto_region 4 with fail
  rw [← HW2.out]
  simp only [← HBD.out]
  have AT : Hid (∀ (u : World) (j : Int), 0 ≤ j → j ≤ 100 → Below w.heap.size w u → Calls Try.prog 21 #[.slice a n cap, .int .i64 j] u fun e w' => ∃ x : Int, e = .returned (.int .i64 x) ∧ 0 ≤ x ∧ x ≤ 255 ∧ u = w') := fun u j h0 h1 hb => (at_any u a n cap zs j h0 h1 HS.out.1 (HS.out.2.1.below hb) HS.out.2.2.1 HS.out.2.2.2).mono (fun e w' h => by obtain ⟨x, h1, h2, h3, h4⟩ := h; exact ⟨x, h1, h2, h3, h4.symm⟩)
  go_wp2_with fail
  refine (AT.out _ 2 (by omega) (by omega) b2).mono ?_
  rintro e wx ⟨v2, rfl, p2, q2, rfl⟩
  go_wp2_with fail
  refine (AT.out _ 3 (by omega) (by omega) b2).mono ?_
  rintro e wx ⟨v3, rfl, p3, q3, rfl⟩
  go_wp2_with fail
  refine (AT.out _ 4 (by omega) (by omega) b2).mono ?_
  rintro e wx ⟨v4, rfl, p4, q4, rfl⟩
  go_wp2_with fail
  refine (AT.out _ 5 (by omega) (by omega) b2).mono ?_
  rintro e wx ⟨v5, rfl, p5, q5, rfl⟩
  go_wp2_with fail
  refine (AT.out _ 6 (by omega) (by omega) b2).mono ?_
  rintro e wx ⟨v6, rfl, p6, q6, rfl⟩
  go_wp2_with fail
  refine (AT.out _ 7 (by omega) (by omega) b2).mono ?_
  rintro e wx ⟨v7, rfl, p7, q7, rfl⟩
  go_upto_region 7 with fail
  obtain ⟨x, hx⟩ : ∃ x, x = v2 * 256 + v3 := ⟨_, rfl⟩
  obtain ⟨y, hy⟩ : ∃ x, x = v4 * 256 + v5 := ⟨_, rfl⟩
  obtain ⟨z, hz⟩ : ∃ x, x = v6 * 256 + v7 := ⟨_, rfl⟩
  have rx : 0 ≤ x ∧ x ≤ 65535 := by omega
  have ry : 0 ≤ y ∧ y ≤ 65535 := by omega
  have rz : 0 ≤ z ∧ z ≤ 65535 := by omega
  simp only [← hx, ← hy, ← hz]
  clear hx hy hz p2 q2 p3 q3 p4 q4 p5 q5 p6 q6 p7 q7 AT
  obtain ⟨d0, d1, d2, d3⟩ := D'.four
  have e3 : Hid (l1 = 3 ∧ l2 = 3 ∧ l3 = 3 ∧ l4 = 3) := by obtain ⟨e1, e2, e3, e4⟩ := o2.sl.1; simp at e1 e2 e3 e4; exact ⟨e1, e2, e3, e4⟩
  go_wp2_with fail
  refine (implServe_6 a1 a2 a3 a4 l1 l2 l3 l4 c1 c2 c3 c4 _ _ _ _ 1 x _ _ _ o2.sl.1 (o2.below (bel_alloc _ _)).sl.2 (okD3 e3.out.1 e3.out.2.1 e3.out.2.2.1 e3.out.2.2.2 (by omega) (by omega) (by omega)) (by have := e3.out; omega) rx (slI_lit1 _ _)).mono ?_
  rintro e w3 ⟨f1, f2, f3, f4, m1, m2, m3, m4, k1, k2, k3, k4, r1, r2, n1, n2, t1, t2, rfl, o3, i3, j3, ap3, b3⟩
  have D3 := (D'.below (bel_alloc w2 (.cells #[.int .i64 x] 3))).below b3
  have hlt : BD < w3.heap.size := D3.lt
  have ne1 : ¬ BD = w3.heap.size := by omega
  have ne2 : ¬ w3.heap.size = BD := by omega
  have D4 := D3.below (bel_alloc w3 (.cells #[.int .i64 0, .int .i64 0, .int .i64 0, .int .i64 0, .slice none 0 0, .slice none 0 0] 29))
  obtain ⟨g0, g1, g2, g3⟩ := D4.four
  obtain ⟨h0, h1, h2, h3⟩ := D3.four
  have fg := D3.fro
  have fg0 := fg 0
  have fg1 := fg 1
  have fg2 := fg 2
  have fg3 := fg 3
  have ff := D4.fro
  have ff0 := ff 0
  have ff1 := ff 1
  have ff2 := ff 2
  have ff3 := ff 3
  clear d0 d1 d2 d3
  have o3' : OwnD w3 (w2.alloc (.cells #[.int .i64 x] 3)).heap.size f1 f2 f3 f4 m1 m2 m3 m4 k1 k2 k3 k4 [false, false, false] [false, false, false] [0, x, 0] [0, 0, 0] := o3
  obtain ⟨rfl, rfl, rfl, rfl⟩ : m1 = 3 ∧ m2 = 3 ∧ m3 = 3 ∧ m4 = 3 := o3'.sl.1
  have HBs : Hid (w.heap.size ≤ BD) := by show _ ≤ _; rw [HBD.out]; exact HB1.out
  have bu := bel_next (bel_next b2 (bel_alloc w2 (.cells #[.int .i64 x] 3))) b3
  obtain ⟨u3, hu3⟩ : ∃ q, q = (((w3.setCell ⟨BD, 0, none⟩ (.slice f1 3 k1)).setCell ⟨BD, 1, none⟩ (.slice f2 3 k2)).setCell ⟨BD, 2, none⟩ (.slice f3 3 k3)).setCell ⟨BD, 3, none⟩ (.slice f4 3 k4) := ⟨_, rfl⟩
  have HU3 : Hid (u3 = _) := hu3
  have su : Hid (u3.heap.size = w3.heap.size) := by show _ = _; rw [hu3]; simp [World.setCell]
  have ou : OwnD u3 w.heap.size f1 f2 f3 f4 3 3 3 3 k1 k2 k3 k4 [false, false, false] [false, false, false] [0, x, 0] [0, 0, 0] := by rw [hu3]; exact (o3'.set4 ⟨_, D3⟩ (by decide) (by decide)).mono (bel_next b2 (bel_alloc w2 (.cells #[.int .i64 x] 3))).size
  have Du : Blk u3 BD 36 #[.slice f1 3 k1, .slice f2 3 k2, .slice f3 3 k3, .slice f4 3 k4] := by rw [hu3]; exact (((D3.set 0 (.slice f1 3 k1)).set 1 (.slice f2 3 k2)).set 2 (.slice f3 3 k3)).set 3 (.slice f4 3 k4)
  have bu3 : Below w.heap.size w u3 := by rw [hu3]; exact bel_set4 bu HBs.out
  obtain ⟨w4, hw4⟩ : ∃ q, q = u3.alloc (.cells #[.int .i64 6, .int .i64 0, .int .i64 1, .int .i64 0, .slice r1 n1 t1, .slice r2 n2 t2] 29) := ⟨_, rfl⟩
  have HW4 : Hid (w4 = _) := hw4
  have b' := bel_alloc u3 (.cells #[.int .i64 6, .int .i64 0, .int .i64 1, .int .i64 0, .slice r1 n1 t1, .slice r2 n2 t2] 29)
  have T' := Blk.new u3 #[.int .i64 6, .int .i64 0, .int .i64 1, .int .i64 0, .slice r1 n1 t1, .slice r2 n2 t2] 29
  rw [← hw4] at b' T'
  obtain ⟨BT, hBT⟩ : ∃ q, q = w3.heap.size := ⟨_, rfl⟩
  have HBT : Hid (BT = w3.heap.size) := hBT
  have T4 : Blk w4 BT 29 #[.int .i64 6, .int .i64 0, .int .i64 1, .int .i64 0, .slice r1 n1 t1, .slice r2 n2 t2] := by rw [hBT, ← su.out]; exact T'
  have b4 := bel_next bu3 b'
  have O4 := ou.below b'
  have Q4 := Du.below b'
  clear hu3 hw4 hBT b' T' bu ou Du bu3 b2 o2 D' o3 o3' i3 j3 ap3 b3 D3
  go_upto_region 8 with fail
  rw [← HU3.out, ← HW4.out]
  simp only [← HBT.out]
  clear g0 g1 g2 g3 h0 h1 h2 h3 ff ff0 ff1 ff2 ff3 fg fg0 fg1 fg2 fg3 ne1 ne2 D4 hlt
  obtain ⟨d0, d1, d2, d3⟩ := Q4.four
  obtain ⟨s0, s1, s2, s3, s4, s5⟩ := T4.six
  go_wp2_with fail
  refine (implServe_22 f1 f2 f3 f4 3 3 3 3 k1 k2 k3 k4 [false, false, false] [false, false, false] [0, x, 0] [0, 0, 0] 1 y z _ _ _ ⟨rfl, rfl, rfl, rfl⟩ (O4.below (bel_alloc _ _)).sl.2 (okD3 rfl rfl rfl rfl (by omega) rx (by omega)) (by omega) ry rz (slI_lit2 _ _ _)).mono ?_
  rintro e w5 ⟨ma1, ma2, ma3, ma4, ml1, ml2, ml3, ml4, mc1, mc2, mc3, mc4, mr1, mr2, mn1, mn2, mt1, mt2, rfl, o', i', j', ap', bb⟩
  have q' : OwnD w5 _ ma1 ma2 ma3 ma4 ml1 ml2 ml3 ml4 mc1 mc2 mc3 mc4 [false, false, false] [false, false, false] [0, mskI x y z, 0] [0, 0, 0] := o'
  obtain ⟨rfl, rfl, rfl, rfl⟩ : ml1 = 3 ∧ ml2 = 3 ∧ ml3 = 3 ∧ ml4 = 3 := q'.sl.1
  have b' := bel_next (bel_alloc w4 (.cells #[.int .i64 y, .int .i64 z] 3)) bb
  have bs' : Hid (w4.heap.size ≤ (w4.alloc (.cells #[.int .i64 y, .int .i64 z] 3)).heap.size) := (bel_alloc _ _).size
  clear o' i' j' ap' bb
  have b5 := bel_next b4 b'
  have O5 := O4.below b'
  have Q5 := Q4.below b'
  have T5 := T4.below b'
  clear b' b4 O4 Q4 d0 d1 d2 d3 T4 s0 s1 s2 s3 s4 s5
  obtain ⟨d0, d1, d2, d3⟩ := Q5.four
  obtain ⟨s0, s1, s2, s3, s4, s5⟩ := T5.six
  have M5 := q'.mono (Nat.zero_le _)
  clear q' bs'
  have b' := bel_alloc w5 (.cells #[.slice ma1 3 mc1, .slice ma2 3 mc2, .slice ma3 3 mc3, .slice ma4 3 mc4] 36)
  have N' := Blk.new w5 #[.slice ma1 3 mc1, .slice ma2 3 mc2, .slice ma3 3 mc3, .slice ma4 3 mc4] 36
  obtain ⟨w6, hw⟩ : ∃ q, q = w5.alloc (.cells #[.slice ma1 3 mc1, .slice ma2 3 mc2, .slice ma3 3 mc3, .slice ma4 3 mc4] 36) := ⟨_, rfl⟩
  have sz' : Hid (w6.heap.size = w5.heap.size + 1) := by show _ = _; rw [hw]; simp
  rw [← hw] at b' N'
  have HW6 : Hid (w6 = _) := hw
  obtain ⟨BA, hB⟩ : ∃ q, q = w5.heap.size := ⟨_, rfl⟩
  rw [← hB] at N'
  have HBA : Hid (BA = w5.heap.size) := hB
  clear hw hB
  have b6 := bel_next b5 b'
  have O6 := O5.below b'
  have M6 := M5.below b'
  have Q6 := Q5.below b'
  have T6 := T5.below b'
  clear b' b5 O5 M5 Q5 d0 d1 d2 d3 T5 s0 s1 s2 s3 s4 s5
  obtain ⟨d0, d1, d2, d3⟩ := Q6.four
  obtain ⟨s0, s1, s2, s3, s4, s5⟩ := T6.six
  have A6 := N'
  clear N'
  obtain ⟨ma_0, ma_1, ma_2, ma_3⟩ := A6.four
  have b' := bel_alloc w6 (.cells #[.int .i64 22, .int .i64 0, .int .i64 1, .int .i64 0, .slice mr1 mn1 mt1, .slice mr2 mn2 mt2] 29)
  have N' := Blk.new w6 #[.int .i64 22, .int .i64 0, .int .i64 1, .int .i64 0, .slice mr1 mn1 mt1, .slice mr2 mn2 mt2] 29
  obtain ⟨w7, hw⟩ : ∃ q, q = w6.alloc (.cells #[.int .i64 22, .int .i64 0, .int .i64 1, .int .i64 0, .slice mr1 mn1 mt1, .slice mr2 mn2 mt2] 29) := ⟨_, rfl⟩
  rw [← hw] at b' N'
  have HW7 : Hid (w7 = _) := hw
  rw [sz'.out, ← HBA.out] at N'
  clear hw sz'
  have b7 := bel_next b6 b'
  have O7 := O6.below b'
  have M7 := M6.below b'
  have Q7 := Q6.below b'
  have T7 := T6.below b'
  have A7 := A6.below b'
  clear b' b6 O6 M6 Q6 d0 d1 d2 d3 T6 s0 s1 s2 s3 s4 s5 A6 ma_0 ma_1 ma_2 ma_3
  obtain ⟨d0, d1, d2, d3⟩ := Q7.four
  obtain ⟨s0, s1, s2, s3, s4, s5⟩ := T7.six
  obtain ⟨ma_0, ma_1, ma_2, ma_3⟩ := A7.four
  have C7 := N'
  clear N'
  obtain ⟨mc_0, mc_1, mc_2, mc_3, mc_4, mc_5⟩ := C7.six
  go_upto_region 9 with fail
  rw [← HW6.out, ← HW7.out]
  simp only [← HBA.out]
  go_wp2_with fail
  refine (implServe_22 f1 f2 f3 f4 3 3 3 3 k1 k2 k3 k4 [false, false, false] [false, false, false] [0, x, 0] [0, 0, 0] 1 65535 z _ _ _ ⟨rfl, rfl, rfl, rfl⟩ (O7.below (bel_alloc _ _)).sl.2 (okD3 rfl rfl rfl rfl (by omega) rx (by omega)) (by omega) (by omega) rz (slI_lit2 _ _ _)).mono ?_
  rintro e w8 ⟨sa1, sa2, sa3, sa4, sl1, sl2, sl3, sl4, sc1, sc2, sc3, sc4, sr1, sr2, sn1, sn2, st1, st2, rfl, o', i', j', ap', bb⟩
  have q' : OwnD w8 _ sa1 sa2 sa3 sa4 sl1 sl2 sl3 sl4 sc1 sc2 sc3 sc4 [false, false, false] [false, false, false] [0, mskI x 65535 z, 0] [0, 0, 0] := o'
  obtain ⟨rfl, rfl, rfl, rfl⟩ : sl1 = 3 ∧ sl2 = 3 ∧ sl3 = 3 ∧ sl4 = 3 := q'.sl.1
  have b' := bel_next (bel_alloc w7 (.cells #[.int .i64 65535, .int .i64 z] 3)) bb
  have bs' : Hid (w7.heap.size ≤ (w7.alloc (.cells #[.int .i64 65535, .int .i64 z] 3)).heap.size) := (bel_alloc _ _).size
  clear o' i' j' ap' bb
  have b8 := bel_next b7 b'
  have O8 := O7.below b'
  have M8 := M7.below b'
  have Q8 := Q7.below b'
  have T8 := T7.below b'
  have A8 := A7.below b'
  have C8 := C7.below b'
  clear b' b7 O7 M7 Q7 d0 d1 d2 d3 T7 s0 s1 s2 s3 s4 s5 A7 ma_0 ma_1 ma_2 ma_3 C7 mc_0 mc_1 mc_2 mc_3 mc_4 mc_5
  obtain ⟨d0, d1, d2, d3⟩ := Q8.four
  obtain ⟨s0, s1, s2, s3, s4, s5⟩ := T8.six
  obtain ⟨ma_0, ma_1, ma_2, ma_3⟩ := A8.four
  obtain ⟨mc_0, mc_1, mc_2, mc_3, mc_4, mc_5⟩ := C8.six
  have S8 := q'.mono (Nat.zero_le _)
  clear q' bs'
  have b' := bel_alloc w8 (.cells #[.slice sa1 3 sc1, .slice sa2 3 sc2, .slice sa3 3 sc3, .slice sa4 3 sc4] 36)
  have N' := Blk.new w8 #[.slice sa1 3 sc1, .slice sa2 3 sc2, .slice sa3 3 sc3, .slice sa4 3 sc4] 36
  obtain ⟨w9, hw⟩ : ∃ q, q = w8.alloc (.cells #[.slice sa1 3 sc1, .slice sa2 3 sc2, .slice sa3 3 sc3, .slice sa4 3 sc4] 36) := ⟨_, rfl⟩
  have sz' : Hid (w9.heap.size = w8.heap.size + 1) := by show _ = _; rw [hw]; simp
  rw [← hw] at b' N'
  have HW9 : Hid (w9 = _) := hw
  obtain ⟨BE, hB⟩ : ∃ q, q = w8.heap.size := ⟨_, rfl⟩
  rw [← hB] at N'
  have HBE : Hid (BE = w8.heap.size) := hB
  clear hw hB
  have b9 := bel_next b8 b'
  have O9 := O8.below b'
  have M9 := M8.below b'
  have S9 := S8.below b'
  have Q9 := Q8.below b'
  have T9 := T8.below b'
  have A9 := A8.below b'
  have C9 := C8.below b'
  clear b' b8 O8 M8 S8 Q8 d0 d1 d2 d3 T8 s0 s1 s2 s3 s4 s5 A8 ma_0 ma_1 ma_2 ma_3 C8 mc_0 mc_1 mc_2 mc_3 mc_4 mc_5
  obtain ⟨d0, d1, d2, d3⟩ := Q9.four
  obtain ⟨s0, s1, s2, s3, s4, s5⟩ := T9.six
  obtain ⟨ma_0, ma_1, ma_2, ma_3⟩ := A9.four
  obtain ⟨mc_0, mc_1, mc_2, mc_3, mc_4, mc_5⟩ := C9.six
  have E9 := N'
  clear N'
  obtain ⟨se_0, se_1, se_2, se_3⟩ := E9.four
  have b' := bel_alloc w9 (.cells #[.int .i64 22, .int .i64 0, .int .i64 1, .int .i64 0, .slice sr1 sn1 st1, .slice sr2 sn2 st2] 29)
  have N' := Blk.new w9 #[.int .i64 22, .int .i64 0, .int .i64 1, .int .i64 0, .slice sr1 sn1 st1, .slice sr2 sn2 st2] 29
  obtain ⟨w10, hw⟩ : ∃ q, q = w9.alloc (.cells #[.int .i64 22, .int .i64 0, .int .i64 1, .int .i64 0, .slice sr1 sn1 st1, .slice sr2 sn2 st2] 29) := ⟨_, rfl⟩
  rw [← hw] at b' N'
  have HW10 : Hid (w10 = _) := hw
  rw [sz'.out, ← HBE.out] at N'
  clear hw sz'
  have b10 := bel_next b9 b'
  have O10 := O9.below b'
  have M10 := M9.below b'
  have S10 := S9.below b'
  have Q10 := Q9.below b'
  have T10 := T9.below b'
  have A10 := A9.below b'
  have C10 := C9.below b'
  have E10 := E9.below b'
  clear b' b9 O9 M9 S9 Q9 d0 d1 d2 d3 T9 s0 s1 s2 s3 s4 s5 A9 ma_0 ma_1 ma_2 ma_3 C9 mc_0 mc_1 mc_2 mc_3 mc_4 mc_5 E9 se_0 se_1 se_2 se_3
  obtain ⟨d0, d1, d2, d3⟩ := Q10.four
  obtain ⟨s0, s1, s2, s3, s4, s5⟩ := T10.six
  obtain ⟨ma_0, ma_1, ma_2, ma_3⟩ := A10.four
  obtain ⟨mc_0, mc_1, mc_2, mc_3, mc_4, mc_5⟩ := C10.six
  obtain ⟨se_0, se_1, se_2, se_3⟩ := E10.four
  clear N'
  go_upto_region 10 with fail
  rw [← HW9.out, ← HW10.out]
  simp only [← HBE.out]
  go_wp2_with fail
  refine (implServe_22 f1 f2 f3 f4 3 3 3 3 k1 k2 k3 k4 [false, false, false] [false, false, false] [0, x, 0] [0, 0, 0] 1 0 z _ _ _ ⟨rfl, rfl, rfl, rfl⟩ (O10.below (bel_alloc _ _)).sl.2 (okD3 rfl rfl rfl rfl (by omega) rx (by omega)) (by omega) (by omega) rz (slI_lit2 _ _ _)).mono ?_
  rintro e w11 ⟨ta1, ta2, ta3, ta4, tl1, tl2, tl3, tl4, tc1, tc2, tc3, tc4, tr1, tr2, tn1, tn2, tt1, tt2, rfl, o', i', j', ap', bb⟩
  have q' : OwnD w11 _ ta1 ta2 ta3 ta4 tl1 tl2 tl3 tl4 tc1 tc2 tc3 tc4 [false, false, false] [false, false, false] [0, mskI x 0 z, 0] [0, 0, 0] := o'
  obtain ⟨rfl, rfl, rfl, rfl⟩ : tl1 = 3 ∧ tl2 = 3 ∧ tl3 = 3 ∧ tl4 = 3 := q'.sl.1
  have b' := bel_next (bel_alloc w10 (.cells #[.int .i64 0, .int .i64 z] 3)) bb
  have bs' : Hid (w10.heap.size ≤ (w10.alloc (.cells #[.int .i64 0, .int .i64 z] 3)).heap.size) := (bel_alloc _ _).size
  clear o' i' j' ap' bb
  have b11 := bel_next b10 b'
  have O11 := O10.below b'
  have M11 := M10.below b'
  have S11 := S10.below b'
  have Q11 := Q10.below b'
  have T11 := T10.below b'
  have A11 := A10.below b'
  have C11 := C10.below b'
  have E11 := E10.below b'
  clear b' b10 O10 M10 S10 Q10 d0 d1 d2 d3 T10 s0 s1 s2 s3 s4 s5 A10 ma_0 ma_1 ma_2 ma_3 C10 mc_0 mc_1 mc_2 mc_3 mc_4 mc_5 E10 se_0 se_1 se_2 se_3
  obtain ⟨d0, d1, d2, d3⟩ := Q11.four
  obtain ⟨s0, s1, s2, s3, s4, s5⟩ := T11.six
  obtain ⟨ma_0, ma_1, ma_2, ma_3⟩ := A11.four
  obtain ⟨mc_0, mc_1, mc_2, mc_3, mc_4, mc_5⟩ := C11.six
  obtain ⟨se_0, se_1, se_2, se_3⟩ := E11.four
  have V11 := q'.mono (Nat.zero_le _)
  clear q' bs'
  have b' := bel_alloc w11 (.cells #[.slice ta1 3 tc1, .slice ta2 3 tc2, .slice ta3 3 tc3, .slice ta4 3 tc4] 36)
  have N' := Blk.new w11 #[.slice ta1 3 tc1, .slice ta2 3 tc2, .slice ta3 3 tc3, .slice ta4 3 tc4] 36
  obtain ⟨w12, hw⟩ : ∃ q, q = w11.alloc (.cells #[.slice ta1 3 tc1, .slice ta2 3 tc2, .slice ta3 3 tc3, .slice ta4 3 tc4] 36) := ⟨_, rfl⟩
  have sz' : Hid (w12.heap.size = w11.heap.size + 1) := by show _ = _; rw [hw]; simp
  rw [← hw] at b' N'
  have HW12 : Hid (w12 = _) := hw
  obtain ⟨BF, hB⟩ : ∃ q, q = w11.heap.size := ⟨_, rfl⟩
  rw [← hB] at N'
  have HBF : Hid (BF = w11.heap.size) := hB
  clear hw hB
  have b12 := bel_next b11 b'
  have O12 := O11.below b'
  have M12 := M11.below b'
  have S12 := S11.below b'
  have V12 := V11.below b'
  have Q12 := Q11.below b'
  have T12 := T11.below b'
  have A12 := A11.below b'
  have C12 := C11.below b'
  have E12 := E11.below b'
  clear b' b11 O11 M11 S11 V11 Q11 d0 d1 d2 d3 T11 s0 s1 s2 s3 s4 s5 A11 ma_0 ma_1 ma_2 ma_3 C11 mc_0 mc_1 mc_2 mc_3 mc_4 mc_5 E11 se_0 se_1 se_2 se_3
  obtain ⟨d0, d1, d2, d3⟩ := Q12.four
  obtain ⟨s0, s1, s2, s3, s4, s5⟩ := T12.six
  obtain ⟨ma_0, ma_1, ma_2, ma_3⟩ := A12.four
  obtain ⟨mc_0, mc_1, mc_2, mc_3, mc_4, mc_5⟩ := C12.six
  obtain ⟨se_0, se_1, se_2, se_3⟩ := E12.four
  have F12 := N'
  clear N'
  obtain ⟨tf_0, tf_1, tf_2, tf_3⟩ := F12.four
  have b' := bel_alloc w12 (.cells #[.int .i64 22, .int .i64 0, .int .i64 1, .int .i64 0, .slice tr1 tn1 tt1, .slice tr2 tn2 tt2] 29)
  have N' := Blk.new w12 #[.int .i64 22, .int .i64 0, .int .i64 1, .int .i64 0, .slice tr1 tn1 tt1, .slice tr2 tn2 tt2] 29
  obtain ⟨w13, hw⟩ : ∃ q, q = w12.alloc (.cells #[.int .i64 22, .int .i64 0, .int .i64 1, .int .i64 0, .slice tr1 tn1 tt1, .slice tr2 tn2 tt2] 29) := ⟨_, rfl⟩
  rw [← hw] at b' N'
  have HW13 : Hid (w13 = _) := hw
  rw [sz'.out, ← HBF.out] at N'
  clear hw sz'
  have b13 := bel_next b12 b'
  have O13 := O12.below b'
  have M13 := M12.below b'
  have S13 := S12.below b'
  have V13 := V12.below b'
  have Q13 := Q12.below b'
  have T13 := T12.below b'
  have A13 := A12.below b'
  have C13 := C12.below b'
  have E13 := E12.below b'
  have F13 := F12.below b'
  clear b' b12 O12 M12 S12 V12 Q12 d0 d1 d2 d3 T12 s0 s1 s2 s3 s4 s5 A12 ma_0 ma_1 ma_2 ma_3 C12 mc_0 mc_1 mc_2 mc_3 mc_4 mc_5 E12 se_0 se_1 se_2 se_3 F12 tf_0 tf_1 tf_2 tf_3
  obtain ⟨d0, d1, d2, d3⟩ := Q13.four
  obtain ⟨s0, s1, s2, s3, s4, s5⟩ := T13.six
  obtain ⟨ma_0, ma_1, ma_2, ma_3⟩ := A13.four
  obtain ⟨mc_0, mc_1, mc_2, mc_3, mc_4, mc_5⟩ := C13.six
  obtain ⟨se_0, se_1, se_2, se_3⟩ := E13.four
  obtain ⟨tf_0, tf_1, tf_2, tf_3⟩ := F13.four
  clear N'
  go_upto_region 11 with fail
  rw [← HW12.out, ← HW13.out]
  simp only [← HBF.out]
  have rm := mskI_rg (x := y) rx rz
  go_wp2_with fail
  refine (implServe_22 ma1 ma2 ma3 ma4 3 3 3 3 mc1 mc2 mc3 mc4 [false, false, false] [false, false, false] [0, (mskI x y z), 0] [0, 0, 0] 1 y z _ _ _ ⟨rfl, rfl, rfl, rfl⟩ (M13.below (bel_alloc _ _)).sl.2 (okD3 rfl rfl rfl rfl (by omega) rm (by omega)) (by omega) ry rz (slI_lit2 _ _ _)).mono ?_
  rintro e w14 ⟨ga1, ga2, ga3, ga4, gl1, gl2, gl3, gl4, gc1, gc2, gc3, gc4, gr1, gr2, gn1, gn2, gt1, gt2, rfl, o', i', j', ap', bb⟩
  have q' : OwnD w14 _ ga1 ga2 ga3 ga4 gl1 gl2 gl3 gl4 gc1 gc2 gc3 gc4 [false, false, false] [false, false, false] [0, mskI (mskI x y z) y z, 0] [0, 0, 0] := o'
  obtain ⟨rfl, rfl, rfl, rfl⟩ : gl1 = 3 ∧ gl2 = 3 ∧ gl3 = 3 ∧ gl4 = 3 := q'.sl.1
  have b' := bel_next (bel_alloc w13 (.cells #[.int .i64 y, .int .i64 z] 3)) bb
  have bs' : Hid (w13.heap.size ≤ (w13.alloc (.cells #[.int .i64 y, .int .i64 z] 3)).heap.size) := (bel_alloc _ _).size
  clear o' i' j' ap' bb
  have b14 := bel_next b13 b'
  have O14 := O13.below b'
  have M14 := M13.below b'
  have S14 := S13.below b'
  have V14 := V13.below b'
  have Q14 := Q13.below b'
  have T14 := T13.below b'
  have A14 := A13.below b'
  have C14 := C13.below b'
  have E14 := E13.below b'
  have F14 := F13.below b'
  clear b' b13 O13 M13 S13 V13 Q13 d0 d1 d2 d3 T13 s0 s1 s2 s3 s4 s5 A13 ma_0 ma_1 ma_2 ma_3 C13 mc_0 mc_1 mc_2 mc_3 mc_4 mc_5 E13 se_0 se_1 se_2 se_3 F13 tf_0 tf_1 tf_2 tf_3
  obtain ⟨d0, d1, d2, d3⟩ := Q14.four
  obtain ⟨s0, s1, s2, s3, s4, s5⟩ := T14.six
  obtain ⟨ma_0, ma_1, ma_2, ma_3⟩ := A14.four
  obtain ⟨mc_0, mc_1, mc_2, mc_3, mc_4, mc_5⟩ := C14.six
  obtain ⟨se_0, se_1, se_2, se_3⟩ := E14.four
  obtain ⟨tf_0, tf_1, tf_2, tf_3⟩ := F14.four
  have U14 := q'.mono (Nat.zero_le _)
  clear q' bs'
  have b' := bel_alloc w14 (.cells #[.slice ga1 3 gc1, .slice ga2 3 gc2, .slice ga3 3 gc3, .slice ga4 3 gc4] 36)
  have N' := Blk.new w14 #[.slice ga1 3 gc1, .slice ga2 3 gc2, .slice ga3 3 gc3, .slice ga4 3 gc4] 36
  obtain ⟨w15, hw⟩ : ∃ q, q = w14.alloc (.cells #[.slice ga1 3 gc1, .slice ga2 3 gc2, .slice ga3 3 gc3, .slice ga4 3 gc4] 36) := ⟨_, rfl⟩
  have sz' : Hid (w15.heap.size = w14.heap.size + 1) := by show _ = _; rw [hw]; simp
  rw [← hw] at b' N'
  have HW15 : Hid (w15 = _) := hw
  obtain ⟨BH, hB⟩ : ∃ q, q = w14.heap.size := ⟨_, rfl⟩
  rw [← hB] at N'
  have HBH : Hid (BH = w14.heap.size) := hB
  clear hw hB
  have b15 := bel_next b14 b'
  have O15 := O14.below b'
  have M15 := M14.below b'
  have S15 := S14.below b'
  have V15 := V14.below b'
  have U15 := U14.below b'
  have Q15 := Q14.below b'
  have T15 := T14.below b'
  have A15 := A14.below b'
  have C15 := C14.below b'
  have E15 := E14.below b'
  have F15 := F14.below b'
  clear b' b14 O14 M14 S14 V14 U14 Q14 d0 d1 d2 d3 T14 s0 s1 s2 s3 s4 s5 A14 ma_0 ma_1 ma_2 ma_3 C14 mc_0 mc_1 mc_2 mc_3 mc_4 mc_5 E14 se_0 se_1 se_2 se_3 F14 tf_0 tf_1 tf_2 tf_3
  obtain ⟨d0, d1, d2, d3⟩ := Q15.four
  obtain ⟨s0, s1, s2, s3, s4, s5⟩ := T15.six
  obtain ⟨ma_0, ma_1, ma_2, ma_3⟩ := A15.four
  obtain ⟨mc_0, mc_1, mc_2, mc_3, mc_4, mc_5⟩ := C15.six
  obtain ⟨se_0, se_1, se_2, se_3⟩ := E15.four
  obtain ⟨tf_0, tf_1, tf_2, tf_3⟩ := F15.four
  have H15 := N'
  clear N'
  obtain ⟨gh_0, gh_1, gh_2, gh_3⟩ := H15.four
  have b' := bel_alloc w15 (.cells #[.int .i64 22, .int .i64 0, .int .i64 1, .int .i64 0, .slice gr1 gn1 gt1, .slice gr2 gn2 gt2] 29)
  have N' := Blk.new w15 #[.int .i64 22, .int .i64 0, .int .i64 1, .int .i64 0, .slice gr1 gn1 gt1, .slice gr2 gn2 gt2] 29
  obtain ⟨w16, hw⟩ : ∃ q, q = w15.alloc (.cells #[.int .i64 22, .int .i64 0, .int .i64 1, .int .i64 0, .slice gr1 gn1 gt1, .slice gr2 gn2 gt2] 29) := ⟨_, rfl⟩
  rw [← hw] at b' N'
  have HW16 : Hid (w16 = _) := hw
  rw [sz'.out, ← HBH.out] at N'
  clear hw sz'
  have b16 := bel_next b15 b'
  have O16 := O15.below b'
  have M16 := M15.below b'
  have S16 := S15.below b'
  have V16 := V15.below b'
  have U16 := U15.below b'
  have Q16 := Q15.below b'
  have T16 := T15.below b'
  have A16 := A15.below b'
  have C16 := C15.below b'
  have E16 := E15.below b'
  have F16 := F15.below b'
  have H16 := H15.below b'
  clear b' b15 O15 M15 S15 V15 U15 Q15 d0 d1 d2 d3 T15 s0 s1 s2 s3 s4 s5 A15 ma_0 ma_1 ma_2 ma_3 C15 mc_0 mc_1 mc_2 mc_3 mc_4 mc_5 E15 se_0 se_1 se_2 se_3 F15 tf_0 tf_1 tf_2 tf_3 H15 gh_0 gh_1 gh_2 gh_3
  obtain ⟨d0, d1, d2, d3⟩ := Q16.four
  obtain ⟨s0, s1, s2, s3, s4, s5⟩ := T16.six
  obtain ⟨ma_0, ma_1, ma_2, ma_3⟩ := A16.four
  obtain ⟨mc_0, mc_1, mc_2, mc_3, mc_4, mc_5⟩ := C16.six
  obtain ⟨se_0, se_1, se_2, se_3⟩ := E16.four
  obtain ⟨tf_0, tf_1, tf_2, tf_3⟩ := F16.four
  obtain ⟨gh_0, gh_1, gh_2, gh_3⟩ := H16.four
  clear N'
  go_upto_region 12 with fail
  rw [← HW15.out, ← HW16.out]
  simp only [← HBH.out]
  obtain ⟨bm, em, _, _, cm1, _⟩ := M16.2.2.1.place (k := 1) (by omega)
  obtain ⟨bm', em', _, _, cm0, _⟩ := M16.2.2.1.place (k := 0) (by omega)
  obtain ⟨bm'', em'', _, _, cm2, _⟩ := M16.2.2.1.place (k := 2) (by omega)
  obtain ⟨bs, es, _, _, cs1, _⟩ := S16.2.2.1.place (k := 1) (by omega)
  obtain ⟨bv, ev, _, _, cv1, _⟩ := V16.2.2.1.place (k := 1) (by omega)
  subst em es ev
  simp at em' em''
  subst em' em''
  have cm1' : w16.cell? ⟨bm, 1, none⟩ = some (.int .i64 (mskI x y z)) := cm1
  have cm0' : w16.cell? ⟨bm, 0, none⟩ = some (.int .i64 0) := cm0
  have cm2' : w16.cell? ⟨bm, 2, none⟩ = some (.int .i64 0) := cm2
  have cs1' : w16.cell? ⟨bs, 1, none⟩ = some (.int .i64 x) := by have h : w16.cell? ⟨bs, 1, none⟩ = some (.int .i64 (mskI x 65535 z)) := cs1; rw [mskI_ones rx rz] at h; exact h
  have cv1' : w16.cell? ⟨bv, 1, none⟩ = some (.int .i64 z) := by have h : w16.cell? ⟨bv, 1, none⟩ = some (.int .i64 (mskI x 0 z)) := cv1; rw [mskI_none rx rz] at h; exact h
  have HMU : Hid (OwnD w16 0 ma1 ma2 (some ⟨bm, 0, none⟩) ma4 3 3 3 3 mc1 mc2 mc3 mc4 [false, false, false] [false, false, false] [0, mskI x y z, 0] [0, 0, 0] ∧ OwnD w16 0 ga1 ga2 ga3 ga4 3 3 3 3 gc1 gc2 gc3 gc4 [false, false, false] [false, false, false] [0, mskI x y z, 0] [0, 0, 0]) := ⟨M16, by rw [mskI_again rx rz] at U16; exact U16⟩
  have HBIT : Hid (∀ k : Nat, k < 16 → bits .and .i64 (mskI x y z / 2 ^ k) 1 = if bits .and .i64 (y / 2 ^ k) 1 = 0 then bits .and .i64 (z / 2 ^ k) 1 else bits .and .i64 (x / 2 ^ k) 1) := by
    intro k hk
    rw [bit_form, bit_form, bit_form, bit_form]
    exact mskI_bit rx ry rz k hk
  generalize hmv : mskI x y z = mm at *
  clear cm1 cm0 cm2 cs1 cv1 M16 S16 V16 U16 O16 rm hmv HS
  go_wp2
  go_loop [16] (fun i => ∃ k : Nat, k ≤ 16 ∧ i = .int .i64 k) (fun i => 16 - (intOf i).toNat)
  case atStart => exact ⟨0, by omega, rfl⟩
  case round =>
    obtain ⟨k, hk, rfl⟩ := hrel
    by_cases hlt : k < 16
    · have hb := HBIT.out k hlt
      have hi : (k : Int) < 16 := by omega
      by_cases hy0 : bits .and .i64 (y / 2 ^ k) 1 = 0
      · rw [if_pos hy0] at hb
        go_wp2
        go_round
        case rel => exact ⟨k + 1, by omega, by go_num⟩
        case measure => simp [intOf]; omega
      · rw [if_neg hy0] at hb
        go_wp2
        go_round
        case rel => exact ⟨k + 1, by omega, by go_num⟩
        case measure => simp [intOf]; omega
    · obtain rfl : k = 16 := by omega
      go_wp2_with fail
      refine (implSame_any ga1 ga2 ga3 ga4 3 3 3 3 gc1 gc2 gc3 gc4 ma1 ma2 (some ⟨bm, 0, none⟩) ma4 3 3 3 3 mc1 mc2 mc3 mc4 _ _ _ _ _ _ _ _ _ ⟨rfl, rfl, rfl, rfl⟩ ⟨rfl, rfl, rfl, rfl⟩ HMU.out.2.sl.2 HMU.out.1.sl.2 (by simp [SmD]) (by simp [SmD]) true (by simp [sdB])).mono ?_
      rintro e w17 ⟨rfl, b'⟩
      have b17 := bel_next b16 b'
      have A17 := A16.below b'
      obtain ⟨ya0, ya1, ya2, ya3⟩ := A17.four
      have bmlt : bm < w16.heap.size := World.block_lt_of_cell? _ _ cm0'
      have c70 : w17.cell? ⟨bm, 0, none⟩ = some (.int .i64 0) := (b'.cell (p := ⟨bm, 0, none⟩) bmlt).trans cm0'
      have c72 : w17.cell? ⟨bm, 2, none⟩ = some (.int .i64 0) := (b'.cell (p := ⟨bm, 2, none⟩) bmlt).trans cm2'
      go_wp2
      go_ret
      exact ⟨rfl, b17⟩

set_option maxRecDepth 20000 in
set_option maxHeartbeats 4000000 in
theorem masks_big (a : Option Addr) (n cap : Nat) (w : World) (hbig : (1048576 : Int) < (n : Int)) :
    Calls Try.prog 6 #[.slice a n cap] w fun e w' => e = .returned (.bool true) ∧ Below w.heap.size w w' := by
  go_enter Try.func6, Try.ntmps6
  go_wp2
  go_ret
  exact ⟨rfl, Below.refl _ _⟩

end Go.Proofs.Ytjfnghobnlpemaa
