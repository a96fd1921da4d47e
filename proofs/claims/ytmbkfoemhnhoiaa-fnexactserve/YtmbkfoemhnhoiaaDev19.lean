/- What a device refuses. -/
import Derived.Test.YtmbkfoemhnhoiaaDev17
import Derived.Test.YtmbkfoemhnhoiaaF1
namespace Go.Proofs.Ytmbkfoemhnhoiaa
open Go.RowKit

set_option linter.unusedVariables false

set_option linter.unusedSimpArgs false

set_option maxRecDepth 20000 in
set_option maxHeartbeats 2000000 in
theorem serve_no (a1 a2 a3 a4 : Option Addr) (l1 l2 l3 l4 c1 c2 c3 c4 : Nat) (cs is : List Bool) (hs rs : List Int) (kd pl nn wa : Int) (q1 q2 : Option Addr) (m1 m2 k1 k2 : Nat) (ws : List Int) (bs : List Bool) (W0 w : World) (hB : Below W0.heap.size W0 w) (hD : OwnD w W0.heap.size a1 a2 a3 a4 l1 l2 l3 l4 c1 c2 c3 c4 cs is hs rs) (hn : m1 = ws.length) (hn2 : m2 = bs.length) (hq : SlI W0 q1 ws) (hq2 : SlB W0 q2 bs) (hl : ws.length ≤ 2000000) (hl2 : bs.length ≤ 2000000) (hsm : SmD 2000000 cs is hs rs) (hok : okR kd pl nn wa ws m1 m2 = false)
    : Calls Try.prog 68 #[dv a1 a2 a3 a4 l1 l2 l3 l4 c1 c2 c3 c4, rq kd pl nn wa q1 q2 m1 m2 k1 k2] w fun e w' => SV W0 w w' e a1 a2 a3 a4 l1 l2 l3 l4 c1 c2 c3 c4 cs is hs rs 0 0 0 0 [] [] := by
  obtain ⟨z, hz⟩ : ∃ z, z = ((w.alloc (.cells #[.slice a1 l1 c1, .slice a2 l2 c2, .slice a3 l3 c3, .slice a4 l4 c4] 36)).alloc (.cells #[.int .i64 kd, .int .i64 pl, .int .i64 nn, .slice q1 m1 k1, .slice q2 m2 k2, .int .i64 wa] 27)).alloc (.cells #[.int .i64 0, .int .i64 0, .int .i64 0, .int .i64 0, .slice none 0 0, .slice none 0 0] 29) := ⟨_, rfl⟩
  have HZ : Hid (z = _) := hz
  have b0 : Below w.heap.size w z := by rw [hz]; exact bel_next (bel_next (bel_alloc w _) (bel_alloc _ _)) (bel_alloc _ _)
  have X0 : Blk z w.heap.size 36 #[.slice a1 l1 c1, .slice a2 l2 c2, .slice a3 l3 c3, .slice a4 l4 c4] := by rw [hz]; exact ((Blk.new w _ _).below (bel_alloc _ _)).below (bel_alloc _ _)
  have Y0 : Blk z (w.heap.size + 1) 27 #[.int .i64 kd, .int .i64 pl, .int .i64 nn, .slice q1 m1 k1, .slice q2 m2 k2, .int .i64 wa] := by rw [hz]; have := (Blk.new (w.alloc (.cells #[.slice a1 l1 c1, .slice a2 l2 c2, .slice a3 l3 c3, .slice a4 l4 c4] 36)) #[.int .i64 kd, .int .i64 pl, .int .i64 nn, .slice q1 m1 k1, .slice q2 m2 k2, .int .i64 wa] 27).below (bel_alloc _ (.cells #[.int .i64 0, .int .i64 0, .int .i64 0, .int .i64 0, .slice none 0 0, .slice none 0 0] 29)); simpa using this
  have R0 : Blk z (w.heap.size + 1 + 1) 29 #[.int .i64 0, .int .i64 0, .int .i64 0, .int .i64 0, .slice none 0 0, .slice none 0 0] := by rw [hz]; have := Blk.new ((w.alloc (.cells #[.slice a1 l1 c1, .slice a2 l2 c2, .slice a3 l3 c3, .slice a4 l4 c4] 36)).alloc (.cells #[.int .i64 kd, .int .i64 pl, .int .i64 nn, .slice q1 m1 k1, .slice q2 m2 k2, .int .i64 wa] 27)) #[.int .i64 0, .int .i64 0, .int .i64 0, .int .i64 0, .slice none 0 0, .slice none 0 0] 29; simpa using this
  have HB0 : Hid (Below W0.heap.size W0 w) := hB
  have HD0 : Hid (OwnD w W0.heap.size a1 a2 a3 a4 l1 l2 l3 l4 c1 c2 c3 c4 cs is hs rs) := hD
  have HQ : Hid (m1 = ws.length ∧ m2 = bs.length ∧ SlI W0 q1 ws ∧ SlB W0 q2 bs ∧ ws.length ≤ 2000000 ∧ bs.length ≤ 2000000) := ⟨hn, hn2, hq, hq2, hl, hl2⟩
  have HOK : Hid _ := hok
  have HSM : Hid (SmD 2000000 cs is hs rs ∧ LnD l1 l2 l3 l4 cs is hs rs) := ⟨hsm, hD.sl.1⟩
  have BW : ∀ u : World, Below w.heap.size w u → Below W0.heap.size W0 u := fun u hu => HB0.out.trans (hu.mono HB0.out.size)
  obtain ⟨x0, x1, x2, x3⟩ := X0.four
  obtain ⟨y0, y1, y2, y3, y4, y5⟩ := Y0.six
  clear hz hB hD hn hn2 hq hq2 hl hl2 hok hsm
  go_enter Try.func68, Try.ntmps68
  go_upto_region 1 with fail
  rw [← HZ.out]
  go_wp2_with fail
  refine (implReqOk_q kd pl nn wa q1 q2 m1 m2 k1 k2 ws bs _ HQ.out.1 HQ.out.2.1 (HQ.out.2.2.1.below (BW _ b0)) (HQ.out.2.2.2.1.below (BW _ b0)) HQ.out.2.2.2.2.1 HQ.out.2.2.2.2.2).mono ?_
  rintro e w1 ⟨he, b'⟩
  rw [HOK.out] at he
  subst he
  have b1 := bel_next b0 b'
  have X1 := X0.below b'
  have Y1 := Y0.below b'
  have R1 := R0.below b'
  clear x0 x1 x2 x3 y0 y1 y2 y3 y4 y5 X0 Y0 R0 b0 b'
  obtain ⟨x0, x1, x2, x3⟩ := X1.four
  obtain ⟨y0, y1, y2, y3, y4, y5⟩ := Y1.six
  obtain ⟨s0, s1, s2, s3, s4, s5⟩ := R1.six
  have f0 := R1.fro 0
  have f1 := R1.fro 1
  have f2 := R1.fro 2
  have f3 := R1.fro 3
  have f4 := R1.fro 4
  have f5 := R1.fro 5
  have HR : Hid (ExB _ (w.heap.size + 1 + 1) 29) := ⟨_, R1⟩
  have HB : Hid (Below w.heap.size w _) := b1
  have HZ0 : Hid (W0.heap.size ≤ w.heap.size) := HB0.out.size
  go_wp2_with fail
  refine bodyPost_ret (v := rp 0 0 0 0 none none 0 0 0 0) (by simp [results, Try.results68, go_sem, s0, s1, s2, s3, s4, s5]) rfl ?_
  exact ⟨_, _, _, _, _, _, rfl, ownI_nil0 _ _, ownB_nil0 _ _, (HD0.out.below HB.out).set6 HR.out (by decide) (by decide), belp_set6 (BW _ HB.out) (by have := HZ0.out; omega), (Chg.ofBelow HB.out).set6 (by omega)⟩

set_option maxRecDepth 20000 in
set_option maxHeartbeats 2000000 in
theorem serve_dev (a1 a2 a3 a4 : Option Addr) (l1 l2 l3 l4 c1 c2 c3 c4 : Nat) (cs is : List Bool) (hs rs : List Int) (kd pl nn wa : Int) (q1 q2 : Option Addr) (m1 m2 k1 k2 : Nat) (ws : List Int) (bs : List Bool) (W0 w : World) (hB : Below W0.heap.size W0 w) (hD : OwnD w W0.heap.size a1 a2 a3 a4 l1 l2 l3 l4 c1 c2 c3 c4 cs is hs rs) (hn : m1 = ws.length) (hn2 : m2 = bs.length) (hq : SlI W0 q1 ws) (hq2 : SlB W0 q2 bs) (hl : ws.length ≤ 2000000) (hl2 : bs.length ≤ 2000000) (hsm : SmD 2000000 cs is hs rs) (hok : okR kd pl nn wa ws m1 m2 = true) (hd : okD l1 l2 l3 l4 hs rs = false)
    : Calls Try.prog 68 #[dv a1 a2 a3 a4 l1 l2 l3 l4 c1 c2 c3 c4, rq kd pl nn wa q1 q2 m1 m2 k1 k2] w fun e w' => SV W0 w w' e a1 a2 a3 a4 l1 l2 l3 l4 c1 c2 c3 c4 cs is hs rs kd 4 0 0 [] [] := by
  obtain ⟨z, hz⟩ : ∃ z, z = ((w.alloc (.cells #[.slice a1 l1 c1, .slice a2 l2 c2, .slice a3 l3 c3, .slice a4 l4 c4] 36)).alloc (.cells #[.int .i64 kd, .int .i64 pl, .int .i64 nn, .slice q1 m1 k1, .slice q2 m2 k2, .int .i64 wa] 27)).alloc (.cells #[.int .i64 0, .int .i64 0, .int .i64 0, .int .i64 0, .slice none 0 0, .slice none 0 0] 29) := ⟨_, rfl⟩
  have HZ : Hid (z = _) := hz
  have b0 : Below w.heap.size w z := by rw [hz]; exact bel_next (bel_next (bel_alloc w _) (bel_alloc _ _)) (bel_alloc _ _)
  have X0 : Blk z w.heap.size 36 #[.slice a1 l1 c1, .slice a2 l2 c2, .slice a3 l3 c3, .slice a4 l4 c4] := by rw [hz]; exact ((Blk.new w _ _).below (bel_alloc _ _)).below (bel_alloc _ _)
  have Y0 : Blk z (w.heap.size + 1) 27 #[.int .i64 kd, .int .i64 pl, .int .i64 nn, .slice q1 m1 k1, .slice q2 m2 k2, .int .i64 wa] := by rw [hz]; have := (Blk.new (w.alloc (.cells #[.slice a1 l1 c1, .slice a2 l2 c2, .slice a3 l3 c3, .slice a4 l4 c4] 36)) #[.int .i64 kd, .int .i64 pl, .int .i64 nn, .slice q1 m1 k1, .slice q2 m2 k2, .int .i64 wa] 27).below (bel_alloc _ (.cells #[.int .i64 0, .int .i64 0, .int .i64 0, .int .i64 0, .slice none 0 0, .slice none 0 0] 29)); simpa using this
  have R0 : Blk z (w.heap.size + 1 + 1) 29 #[.int .i64 0, .int .i64 0, .int .i64 0, .int .i64 0, .slice none 0 0, .slice none 0 0] := by rw [hz]; have := Blk.new ((w.alloc (.cells #[.slice a1 l1 c1, .slice a2 l2 c2, .slice a3 l3 c3, .slice a4 l4 c4] 36)).alloc (.cells #[.int .i64 kd, .int .i64 pl, .int .i64 nn, .slice q1 m1 k1, .slice q2 m2 k2, .int .i64 wa] 27)) #[.int .i64 0, .int .i64 0, .int .i64 0, .int .i64 0, .slice none 0 0, .slice none 0 0] 29; simpa using this
  have HB0 : Hid (Below W0.heap.size W0 w) := hB
  have HD0 : Hid (OwnD w W0.heap.size a1 a2 a3 a4 l1 l2 l3 l4 c1 c2 c3 c4 cs is hs rs) := hD
  have HQ : Hid (m1 = ws.length ∧ m2 = bs.length ∧ SlI W0 q1 ws ∧ SlB W0 q2 bs ∧ ws.length ≤ 2000000 ∧ bs.length ≤ 2000000) := ⟨hn, hn2, hq, hq2, hl, hl2⟩
  have HOK : Hid _ := hok
  have HSM : Hid (SmD 2000000 cs is hs rs ∧ LnD l1 l2 l3 l4 cs is hs rs) := ⟨hsm, hD.sl.1⟩
  have BW : ∀ u : World, Below w.heap.size w u → Below W0.heap.size W0 u := fun u hu => HB0.out.trans (hu.mono HB0.out.size)
  obtain ⟨x0, x1, x2, x3⟩ := X0.four
  obtain ⟨y0, y1, y2, y3, y4, y5⟩ := Y0.six
  have HDK : Hid _ := hd
  clear hz hB hD hn hn2 hq hq2 hl hl2 hok hsm hd
  go_enter Try.func68, Try.ntmps68
  go_upto_region 1 with fail
  rw [← HZ.out]
  go_wp2_with fail
  refine (implReqOk_q kd pl nn wa q1 q2 m1 m2 k1 k2 ws bs _ HQ.out.1 HQ.out.2.1 (HQ.out.2.2.1.below (BW _ b0)) (HQ.out.2.2.2.1.below (BW _ b0)) HQ.out.2.2.2.2.1 HQ.out.2.2.2.2.2).mono ?_
  rintro e w1 ⟨he, b'⟩
  rw [HOK.out] at he
  subst he
  have b1 := bel_next b0 b'
  have X1 := X0.below b'
  have Y1 := Y0.below b'
  have R1 := R0.below b'
  clear x0 x1 x2 x3 y0 y1 y2 y3 y4 y5 X0 Y0 R0 b0 b'
  obtain ⟨x0, x1, x2, x3⟩ := X1.four
  obtain ⟨y0, y1, y2, y3, y4, y5⟩ := Y1.six
  go_wp2_with fail
  refine (implDeviceOk_any a1 a2 a3 a4 l1 l2 l3 l4 c1 c2 c3 c4 cs is hs rs _ HSM.out.2 (HD0.out.below b1).sl.2 HSM.out.1 _ HDK.out).mono ?_
  rintro e w2 ⟨rfl, b'⟩
  have b2 := bel_next b1 b'
  have X2 := X1.below b'
  have Y2 := Y1.below b'
  have R2 := R1.below b'
  clear x0 x1 x2 x3 y0 y1 y2 y3 y4 y5 X1 Y1 R1 b1 b'
  obtain ⟨x0, x1, x2, x3⟩ := X2.four
  obtain ⟨y0, y1, y2, y3, y4, y5⟩ := Y2.six
  go_wp2_with fail
  refine (implFaultOf_q kd pl nn wa q1 q2 m1 m2 k1 k2 ws bs _ _ HQ.out.1 HQ.out.2.1 (HQ.out.2.2.1.below (BW _ b2)) (HQ.out.2.2.2.1.below (BW _ b2)) HQ.out.2.2.2.2.1 HQ.out.2.2.2.2.2).mono ?_
  rintro e w5 ⟨he, b'⟩
  rw [HOK.out] at he
  have he' : e = .returned (rp kd 4 0 0 none none 0 0 0 0) := he
  subst he'
  clear he
  have b5 := bel_next b2 b'
  have R5 := R2.below b'
  clear x0 x1 x2 x3 y0 y1 y2 y3 y4 y5
  obtain ⟨s0, s1, s2, s3, s4, s5⟩ := R5.six
  have f0 := R5.fro 0
  have f1 := R5.fro 1
  have f2 := R5.fro 2
  have f3 := R5.fro 3
  have f4 := R5.fro 4
  have f5 := R5.fro 5
  have HR : Hid (ExB _ (w.heap.size + 1 + 1) 29) := ⟨_, R5⟩
  have HB : Hid (Below w.heap.size w _) := b5
  have HZ0 : Hid (W0.heap.size ≤ w.heap.size) := HB0.out.size
  go_wp2_with fail
  refine bodyPost_ret (v := rp kd 4 0 0 none none 0 0 0 0) (by simp [results, Try.results68, go_sem, s0, s1, s2, s3, s4, s5]) rfl ?_
  exact ⟨_, _, _, _, _, _, rfl, ownI_nil0 _ _, ownB_nil0 _ _, (HD0.out.below HB.out).set6 HR.out (by decide) (by decide), belp_set6 (BW _ HB.out) (by have := HZ0.out; omega), (Chg.ofBelow HB.out).set6 (by omega)⟩

set_option maxRecDepth 20000 in
set_option maxHeartbeats 2000000 in
theorem serve_at (a1 a2 a3 a4 : Option Addr) (l1 l2 l3 l4 c1 c2 c3 c4 : Nat) (cs is : List Bool) (hs rs : List Int) (kd pl nn wa : Int) (q1 q2 : Option Addr) (m1 m2 k1 k2 : Nat) (ws : List Int) (bs : List Bool) (W0 w : World) (hB : Below W0.heap.size W0 w) (hD : OwnD w W0.heap.size a1 a2 a3 a4 l1 l2 l3 l4 c1 c2 c3 c4 cs is hs rs) (hn : m1 = ws.length) (hn2 : m2 = bs.length) (hq : SlI W0 q1 ws) (hq2 : SlB W0 q2 bs) (hl : ws.length ≤ 2000000) (hl2 : bs.length ≤ 2000000) (hsm : SmD 2000000 cs is hs rs) (hok : okR kd pl nn wa ws m1 m2 = true) (hd : okD l1 l2 l3 l4 hs rs = true)
    (hAll : ∀ w : World, SlI w q1 ws → SlB w q2 bs → Calls Try.prog 105 #[dv a1 a2 a3 a4 l1 l2 l3 l4 c1 c2 c3 c4, rq kd pl nn wa q1 q2 m1 m2 k1 k2] w fun e w' => e = .returned (.bool false) ∧ Below w.heap.size w w')
    : Calls Try.prog 68 #[dv a1 a2 a3 a4 l1 l2 l3 l4 c1 c2 c3 c4, rq kd pl nn wa q1 q2 m1 m2 k1 k2] w fun e w' => SV W0 w w' e a1 a2 a3 a4 l1 l2 l3 l4 c1 c2 c3 c4 cs is hs rs kd 2 0 0 [] [] := by
  obtain ⟨z, hz⟩ : ∃ z, z = ((w.alloc (.cells #[.slice a1 l1 c1, .slice a2 l2 c2, .slice a3 l3 c3, .slice a4 l4 c4] 36)).alloc (.cells #[.int .i64 kd, .int .i64 pl, .int .i64 nn, .slice q1 m1 k1, .slice q2 m2 k2, .int .i64 wa] 27)).alloc (.cells #[.int .i64 0, .int .i64 0, .int .i64 0, .int .i64 0, .slice none 0 0, .slice none 0 0] 29) := ⟨_, rfl⟩
  have HZ : Hid (z = _) := hz
  have b0 : Below w.heap.size w z := by rw [hz]; exact bel_next (bel_next (bel_alloc w _) (bel_alloc _ _)) (bel_alloc _ _)
  have X0 : Blk z w.heap.size 36 #[.slice a1 l1 c1, .slice a2 l2 c2, .slice a3 l3 c3, .slice a4 l4 c4] := by rw [hz]; exact ((Blk.new w _ _).below (bel_alloc _ _)).below (bel_alloc _ _)
  have Y0 : Blk z (w.heap.size + 1) 27 #[.int .i64 kd, .int .i64 pl, .int .i64 nn, .slice q1 m1 k1, .slice q2 m2 k2, .int .i64 wa] := by rw [hz]; have := (Blk.new (w.alloc (.cells #[.slice a1 l1 c1, .slice a2 l2 c2, .slice a3 l3 c3, .slice a4 l4 c4] 36)) #[.int .i64 kd, .int .i64 pl, .int .i64 nn, .slice q1 m1 k1, .slice q2 m2 k2, .int .i64 wa] 27).below (bel_alloc _ (.cells #[.int .i64 0, .int .i64 0, .int .i64 0, .int .i64 0, .slice none 0 0, .slice none 0 0] 29)); simpa using this
  have R0 : Blk z (w.heap.size + 1 + 1) 29 #[.int .i64 0, .int .i64 0, .int .i64 0, .int .i64 0, .slice none 0 0, .slice none 0 0] := by rw [hz]; have := Blk.new ((w.alloc (.cells #[.slice a1 l1 c1, .slice a2 l2 c2, .slice a3 l3 c3, .slice a4 l4 c4] 36)).alloc (.cells #[.int .i64 kd, .int .i64 pl, .int .i64 nn, .slice q1 m1 k1, .slice q2 m2 k2, .int .i64 wa] 27)) #[.int .i64 0, .int .i64 0, .int .i64 0, .int .i64 0, .slice none 0 0, .slice none 0 0] 29; simpa using this
  have HB0 : Hid (Below W0.heap.size W0 w) := hB
  have HD0 : Hid (OwnD w W0.heap.size a1 a2 a3 a4 l1 l2 l3 l4 c1 c2 c3 c4 cs is hs rs) := hD
  have HQ : Hid (m1 = ws.length ∧ m2 = bs.length ∧ SlI W0 q1 ws ∧ SlB W0 q2 bs ∧ ws.length ≤ 2000000 ∧ bs.length ≤ 2000000) := ⟨hn, hn2, hq, hq2, hl, hl2⟩
  have HOK : Hid _ := hok
  have HSM : Hid (SmD 2000000 cs is hs rs ∧ LnD l1 l2 l3 l4 cs is hs rs) := ⟨hsm, hD.sl.1⟩
  have BW : ∀ u : World, Below w.heap.size w u → Below W0.heap.size W0 u := fun u hu => HB0.out.trans (hu.mono HB0.out.size)
  obtain ⟨x0, x1, x2, x3⟩ := X0.four
  obtain ⟨y0, y1, y2, y3, y4, y5⟩ := Y0.six
  have HDK : Hid _ := hd
  have HA : Hid _ := hAll
  clear hz hB hD hn hn2 hq hq2 hl hl2 hok hsm hd hAll
  go_enter Try.func68, Try.ntmps68
  go_upto_region 1 with fail
  rw [← HZ.out]
  go_wp2_with fail
  refine (implReqOk_q kd pl nn wa q1 q2 m1 m2 k1 k2 ws bs _ HQ.out.1 HQ.out.2.1 (HQ.out.2.2.1.below (BW _ b0)) (HQ.out.2.2.2.1.below (BW _ b0)) HQ.out.2.2.2.2.1 HQ.out.2.2.2.2.2).mono ?_
  rintro e w1 ⟨he, b'⟩
  rw [HOK.out] at he
  subst he
  have b1 := bel_next b0 b'
  have X1 := X0.below b'
  have Y1 := Y0.below b'
  have R1 := R0.below b'
  clear x0 x1 x2 x3 y0 y1 y2 y3 y4 y5 X0 Y0 R0 b0 b'
  obtain ⟨x0, x1, x2, x3⟩ := X1.four
  obtain ⟨y0, y1, y2, y3, y4, y5⟩ := Y1.six
  go_wp2_with fail
  refine (implDeviceOk_any a1 a2 a3 a4 l1 l2 l3 l4 c1 c2 c3 c4 cs is hs rs _ HSM.out.2 (HD0.out.below b1).sl.2 HSM.out.1 _ HDK.out).mono ?_
  rintro e w2 ⟨rfl, b'⟩
  have b2 := bel_next b1 b'
  have X2 := X1.below b'
  have Y2 := Y1.below b'
  have R2 := R1.below b'
  clear x0 x1 x2 x3 y0 y1 y2 y3 y4 y5 X1 Y1 R1 b1 b'
  obtain ⟨x0, x1, x2, x3⟩ := X2.four
  obtain ⟨y0, y1, y2, y3, y4, y5⟩ := Y2.six
  go_wp2_with fail
  refine (HA.out _ (HQ.out.2.2.1.below (BW _ b2)) (HQ.out.2.2.2.1.below (BW _ b2))).mono ?_
  rintro e w3 ⟨rfl, b'⟩
  have b3 := bel_next b2 b'
  have X3 := X2.below b'
  have Y3 := Y2.below b'
  have R3 := R2.below b'
  clear x0 x1 x2 x3 y0 y1 y2 y3 y4 y5 X2 Y2 R2 b2 b'
  obtain ⟨x0, x1, x2, x3⟩ := X3.four
  obtain ⟨y0, y1, y2, y3, y4, y5⟩ := Y3.six
  go_wp2_with fail
  refine (implFaultOf_q kd pl nn wa q1 q2 m1 m2 k1 k2 ws bs _ _ HQ.out.1 HQ.out.2.1 (HQ.out.2.2.1.below (BW _ b3)) (HQ.out.2.2.2.1.below (BW _ b3)) HQ.out.2.2.2.2.1 HQ.out.2.2.2.2.2).mono ?_
  rintro e w5 ⟨he, b'⟩
  rw [HOK.out] at he
  have he' : e = .returned (rp kd 2 0 0 none none 0 0 0 0) := he
  subst he'
  clear he
  have b5 := bel_next b3 b'
  have R5 := R3.below b'
  clear x0 x1 x2 x3 y0 y1 y2 y3 y4 y5
  obtain ⟨s0, s1, s2, s3, s4, s5⟩ := R5.six
  have f0 := R5.fro 0
  have f1 := R5.fro 1
  have f2 := R5.fro 2
  have f3 := R5.fro 3
  have f4 := R5.fro 4
  have f5 := R5.fro 5
  have HR : Hid (ExB _ (w.heap.size + 1 + 1) 29) := ⟨_, R5⟩
  have HB : Hid (Below w.heap.size w _) := b5
  have HZ0 : Hid (W0.heap.size ≤ w.heap.size) := HB0.out.size
  go_wp2_with fail
  refine bodyPost_ret (v := rp kd 2 0 0 none none 0 0 0 0) (by simp [results, Try.results68, go_sem, s0, s1, s2, s3, s4, s5]) rfl ?_
  exact ⟨_, _, _, _, _, _, rfl, ownI_nil0 _ _, ownB_nil0 _ _, (HD0.out.below HB.out).set6 HR.out (by decide) (by decide), belp_set6 (BW _ HB.out) (by have := HZ0.out; omega), (Chg.ofBelow HB.out).set6 (by omega)⟩

end Go.Proofs.Ytmbkfoemhnhoiaa
