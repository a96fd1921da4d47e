/- Parts of the proof. -/
import Derived.Test.YtplaoagcedgdfaaGreatZq12
import Derived.Test.YtplaoagcedgdfaaGreatZq13
import Derived.Test.YtplaoagcedgdfaaGreatZq10
import Derived.Test.YtplaoagcedgdfaaGreatZq14
set_option linter.unusedVariables false
set_option linter.unusedSimpArgs false
set_option maxHeartbeats 16000000
set_option maxRecDepth 20000
namespace Go.Proofs.YtplaoagcedgdfaaGreat
open Go.RowKit Go.Proofs.Tryz
theorem mX (kd kd' fl : Int) (pl nn wa : Int) (q1 q2 : Option Addr) (m1 m2 k1 k2 : Nat) (qs : List Int) (qb : List Bool) (ap an : Int) (a1 a2 : Option Addr) (l1 l2 c1 c2 : Nat) (ws : List Int) (bs : List Bool) (w : World) (g1 : m1 = qs.length) (g2 : m2 = qb.length) (t1 : aQ w q1 qs) (t2 : aW w q2 qb) (hm1 : qs.length <= 2000000) (hm2 : qb.length <= 2000000) (h1 : l1 = ws.length) (h2 : l2 = bs.length) (s1 : aQ w a1 ws) (s2 : aW w a2 bs) (hl1 : ws.length <= 2000000) (hl2 : bs.length <= 2000000) :
 Calls prog 135 #[rq kd pl nn wa q1 q2 m1 m2 k1 k2, rp kd' fl ap an a1 a2 l1 l2 c1 c2] w fun e w' => e = .returned (.bool (fU kd pl nn wa m1 m2 qs qb kd' fl ap an l1 l2 ws bs)) /\ Below w.heap.size w w' := by
 obtain ⟨W0, hW0⟩ : ∃ W0, W0 = (w.alloc (.cells #[.int .i64 kd, .int .i64 pl, .int .i64 nn, .slice q1 m1 k1, .slice q2 m2 k2, .int .i64 wa] 84)).alloc (.cells #[.int .i64 kd', .int .i64 fl, .int .i64 ap, .int .i64 an, .slice a1 l1 c1, .slice a2 l2 c2] 118) := ⟨_, rfl⟩
 have HW : Hid (W0 = _) := hW0
 have B0 : Below w.heap.size w W0 := by rw [hW0]; exact ak (ac w _) (ac _ _)
 have X0 : ag W0 w.heap.size 84 #[.int .i64 kd, .int .i64 pl, .int .i64 nn, .slice q1 m1 k1, .slice q2 m2 k2, .int .i64 wa] := by rw [hW0]; exact (ag.new w _ _).below (ac _ _)
 have Y0 : ag W0 (w.heap.size + 1) 118 #[.int .i64 kd', .int .i64 fl, .int .i64 ap, .int .i64 an, .slice a1 l1 c1, .slice a2 l2 c2] := by
  rw [hW0]; have := ag.new (w.alloc (.cells #[.int .i64 kd, .int .i64 pl, .int .i64 nn, .slice q1 m1 k1, .slice q2 m2 k2, .int .i64 wa] 84)) #[.int .i64 kd', .int .i64 fl, .int .i64 ap, .int .i64 an, .slice a1 l1 c1, .slice a2 l2 c2] 118; simpa using this
 have HL := gg g1 g2 h1 h2
 have HS := gg (t1.below B0) (t2.below B0) (s1.below B0) (s2.below B0)
 obtain ⟨x0, x1, x2, x3, x4, x5⟩ := X0.six
 obtain ⟨y0, y1, y2, y3, y4, y5⟩ := Y0.six
 clear hW0 g1 g2 h1 h2 t1 t2 s1 s2
 go_enter func135, ntmps135
 go_upto_region 1 with fail
 rw [<- HW.out]
 go_wp2_with fail
 refine (bo (gk kd pl nn wa q1 q2 m1 m2 k1 k2 qs qb _ HL.out.1 HL.out.2.1 HS.out.1 HS.out.2.1 hm1 hm2)).mono ?_
 rintro e w1 ⟨b', ⟨hq, rfl⟩ | ⟨hq, rfl⟩⟩
 rotate_left
 ·have B1 := ak B0 b'
  go_wp2
  go_ret
  exact ⟨by simp [fU, hq], B1⟩
 have HQ : Hid (bv kd pl nn wa qs m1 m2 = true) := hq
 have B1 := ak B0 b'
 have X1 := X0.below b'
 have Y1 := Y0.below b'
 have HS1 := gg (HS.out.1.below b') (HS.out.2.1.below b') (HS.out.2.2.1.below b') (HS.out.2.2.2.below b')
 clear hq b' B0 X0 Y0 x0 x1 x2 x3 x4 x5 y0 y1 y2 y3 y4 y5
 obtain ⟨x0, x1, x2, x3, x4, x5⟩ := X1.six
 obtain ⟨y0, y1, y2, y3, y4, y5⟩ := Y1.six
 go_wp2_with fail
 refine (bo (iv kd' fl ap an a1 a2 l1 l2 c1 c2 ws bs _ HL.out.2.2.1 HL.out.2.2.2 HS1.out.2.2.1 HS1.out.2.2.2 hl1 hl2)).mono ?_
 rintro e w2 ⟨b', ⟨ha, rfl⟩ | ⟨ha, rfl⟩⟩
 rotate_left
 ·have B2 := ak B1 b'
  go_wp2
  go_ret
  exact ⟨by simp [fU, ha], B2⟩
 have B2 := ak B1 b'
 have X2 := X1.below b'
 have Y2 := Y1.below b'
 have HS2 := gg (HS1.out.1.below b') (HS1.out.2.1.below b') (HS1.out.2.2.1.below b') (HS1.out.2.2.2.below b')
 have HA : Hid (dk kd' fl ap an ws l1 l2 = true) := ha
 clear b' B1 X1 Y1 x0 x1 x2 x3 x4 x5 y0 y1 y2 y3 y4 y5
 obtain ⟨x0, x1, x2, x3, x4, x5⟩ := X2.six
 obtain ⟨y0, y1, y2, y3, y4, y5⟩ := Y2.six
 by_cases hk : kd = kd'
 rotate_left
 ·have hkb : (kd == kd') = false := by simp [hk]
  clear ha
  go_wp2
  go_ret
  exact ⟨by simp [fU, hk], B2⟩
 subst hk
 have hf : 0 <= fl := by simp [dk, aw] at ha; omega
 clear ha
 by_cases h0 : fl = 0
 rotate_left
 ·have hf0 : 0 < fl := by omega
  go_wp2
  go_ret
  exact ⟨by simp [fU, HQ.out, HA.out, h0], B2⟩
 subst h0
 have HE : Hid (fU kd pl nn wa m1 m2 qs qb kd 0 ap an l1 l2 ws bs = eJ kd pl nn m1 m2 qs qb ap an l1 l2 ws bs) := by show _ = _; simp [fU, HQ.out, HA.out]
 clear hf
 obtain (rfl | rfl) | (rfl | rfl | rfl) | rfl | (rfl | rfl | rfl | rfl) : (kd = 1 \/ kd = 2) \/ (kd = 3 \/ kd = 4 \/ kd = 23) \/ kd = 5 \/ (kd = 6 \/ kd = 22 \/ kd = 15 \/ kd = 16) := by have := jb HQ.out; omega
 iterate 2
  focus
   have hN : 1 <= nn /\ nn <= 2000 := by have := HQ.out; simp [bv, dw, bG, aw, dg] at this; omega
   have hB : 1 <= l2 /\ l2 <= 2000 := by have := HA.out; simp [dk, gn, cK, aw, bf] at this; omega
   obtain ⟨N, rfl⟩ : ∃ N : Nat, nn = (N : Int) := ⟨nn.toNat, by omega⟩
   go_wp2_with fail
   go_loopw [5] (fun i wr => ∃ k : Nat, N <= k /\ i = .int .i64 k /\ (∀ j, N <= j -> j < k -> j < bs.length -> bs.getD j false = false) /\ wr = w2) (fun i _ => l2 - (intOf i).toNat)
   case atStart => exact ⟨N, Nat.le_refl _, rfl, fun j h1 h2 _ => by omega, rfl⟩
   case round =>
    obtain ⟨k, hk, rfl, hz, rfl⟩ := hrel
    have HZ : Hid (∀ j, N <= j -> j < k -> j < bs.length -> bs.getD j false = false) := hz
    clear hz
    by_cases hlt : k < l2
    ·have hi : (k : Int) < (l2 : Int) := by omega
     obtain ⟨b, off, rfl, _, hc⟩ := bY HS2.out.2.2.2 (show k < bs.length by have := HL.out; omega)
     cases hx : bs.getD k false
     ·rw [hx] at hc
      have HN : Hid (∀ j, N <= j -> j < k + 1 -> j < bs.length -> bs.getD j false = false) := by
       intro j h1 h2 h3
       by_cases h : j < k
       ·exact HZ.out j h1 h h3
       rw [show j = k by omega]; exact hx
      clear hx
      go_wp2
      go_roundw
      case rel => exact ⟨k + 1, by omega, by go_num, HN.out, trivial⟩
      case measure => simp [intOf]; omega
     rw [hx] at hc
     have HX : Hid (eV bs N = false) := qq hk (by have := HL.out; omega) hx
     clear hx
     go_wp2
     go_ret
     exact ⟨by rw [HE.out]; simp [eJ, HX.out], B2⟩
    have HX : Hid (eV bs N = true) := decide_eq_true (fun j hj h => HZ.out j h (by have := HL.out; omega) hj)
    go_wp2
    go_ret
    refine ⟨?_, B2⟩
    rw [HE.out]
    simp [eJ, HX.out]
    try (rw [Bool.eq_iff_iff]; simp)
    try omega
 iterate 3
  focus
   go_wp2
   go_ret
   refine ⟨?_, B2⟩
   rw [HE.out]
   simp [eJ]
   first | done | rfl
 ·obtain rfl : m2 = 1 := by have := HQ.out; simp [bv, dw, bG, aw, dg] at this; omega
  obtain rfl : l2 = 1 := by have := HA.out; simp [dk, gn, cK, aw, bf] at this; omega
  obtain ⟨u, rfl⟩ : ∃ u, qb = [u] := by match qb, HL.out.2.1 with | [u], _ => exact ⟨u, rfl⟩
  obtain ⟨v, rfl⟩ : ∃ v, bs = [v] := by match bs, HL.out.2.2.2 with | [v], _ => exact ⟨v, rfl⟩
  obtain ⟨bq, oq, rfl, _, hcq⟩ := bY (k := 0) HS2.out.2.1 (by simp)
  obtain ⟨ba, oa, rfl, _, hca⟩ := bY (k := 0) HS2.out.2.2.2 (by simp)
  simp at hcq hca
  by_cases hA : ap = pl
  ·subst hA
   go_wp2_with fail
   go_quiet (fail)
   go_wp2
   go_ret
   exact ⟨by rw [HE.out]; simp [eJ]; cases u <;> cases v <;> rfl, dz B2 _⟩
  have hAb : (ap == pl) = false := by simp [hA]
  go_wp2_with fail
  go_quiet (fail)
  go_wp2
  go_ret
  exact ⟨by rw [HE.out]; simp [eJ, hA], dz B2 _⟩
 all_goals
  by_cases hA : ap = pl
  rotate_left
  ·have hAb : (ap == pl) = false := by simp [hA]
   go_wp2
   go_ret
   exact ⟨by rw [HE.out]; simp [eJ, hA], B2⟩
  subst hA
 iterate 2
  focus
   go_wp2_with fail
   refine (gf _ _ _ _ _ _ ws qs _ HL.out.2.2.1 HL.out.1 HS2.out.2.2.1 HS2.out.1 hl1 hm1 _ rfl).mono ?_
   rintro e w3 ⟨rfl, b'⟩
   have B3 := ak B2 b'
   clear b'
   go_wp2
   go_ret
   exact ⟨by rw [HE.out]; simp [eJ], B3⟩
 all_goals
  go_wp2
  go_ret
  refine ⟨?_, B2⟩
  rw [HE.out]
  simp [eJ]
  first | done | rfl
end Go.Proofs.YtplaoagcedgdfaaGreat
namespace Go.Proofs.YtplaoagcedgdfaaGreat
open Go.RowKit Go.Joins Go.Proofs.Tryz
theorem tf (Q : VQ) (A : VA) (a1 : Option Addr) (l1 c1 : Nat) (a2 : Option Addr) (l2 c2 : Nat) (b1 : Option Addr) (m1 d1 : Nat) (b2 : Option Addr) (m2 d2 : Nat) (w : World) (r1 : Rd w 0 (ah Q.ws) (.slice a1 l1 c1)) (r2 : Rd w 0 (af Q.bs) (.slice a2 l2 c2)) (r3 : Rd w 0 (ah A.ws) (.slice b1 m1 d1)) (r4 : Rd w 0 (af A.bs) (.slice b2 m2 d2)) (hb : ce Q) (ha : eL A) :
 Calls prog 135 #[.agg (qL Q a1 l1 c1 a2 l2 c2).toArray, .agg (aL A b1 m1 d1 b2 m2 d2).toArray] w fun e w' => e = .returned (.bool (jE Q A)) /\ Below w.heap.size w w' := by
 obtain ⟨e1, _, s1⟩ := r1.int3
 obtain ⟨e2, _, s2⟩ := r2.bool3
 obtain ⟨e3, _, s3⟩ := r3.int3
 obtain ⟨e4, h4, s4⟩ := r4.bool3
 unfold jE
 rw [<- e1, <- e2, <- e3, <- e4]
 exact mX Q.kd A.kd A.fl Q.pl Q.n Q.wa a1 a2 l1 l2 c1 c2 Q.ws Q.bs A.pl A.n b1 b2 m1 m2 d1 d2 A.ws A.bs w e1 e2 s1 s2 hb.1 hb.2 e3 e4 s3 s4 ha.1 ha.2
theorem jI (X : VA) (a1 : Option Addr) (c1 : Nat) (a2 : Option Addr) (c2 : Nat) (w : World) :
 Calls prog 120 #[.agg (aL X a1 X.ws.length c1 a2 X.bs.length c2).toArray] w fun e w' => e = .returned (.bool (fk X)) /\ Below w.heap.size w w' := by
 obtain ⟨t0, q0⟩ : ∃ t, (X.kd == 0) = t := ⟨_, rfl⟩
 obtain ⟨t1, q1⟩ : ∃ t, (X.fl == 0) = t := ⟨_, rfl⟩
 obtain ⟨t2, q2⟩ : ∃ t, (X.pl == 0) = t := ⟨_, rfl⟩
 obtain ⟨t3, q3⟩ : ∃ t, (X.n == 0) = t := ⟨_, rfl⟩
 obtain ⟨t4, q4⟩ : ∃ t, ((X.ws.length : Int) == 0) = t := ⟨_, rfl⟩
 obtain ⟨t5, q5⟩ : ∃ t, ((X.bs.length : Int) == 0) = t := ⟨_, rfl⟩
 obtain ⟨W, hW⟩ : ∃ W, W = w.alloc (.cells (aL X a1 X.ws.length c1 a2 X.bs.length c2).toArray 118) := ⟨_, rfl⟩
 have HE : Hid (fk X = (t0 && (t1 && (t2 && (t3 && (t4 && t5))))) /\ Below w.heap.size w W) := ⟨by unfold fk; rw [q0, q1, q2, q3, q4, q5], by rw [hW]; exact ac _ _⟩
 have A0 : ag W w.heap.size 118 (aL X a1 X.ws.length c1 a2 X.bs.length c2).toArray := by rw [hW]; exact ag.new _ _ _
 rw [HE.out.1]
 obtain ⟨⟨y0, y1, y2, y3, y4, y5⟩, yf⟩ := A0.tc6
 clear yf A0
 cases t0
 case false =>
  go_enter func120, ntmps120
  go_upto_region 1 with fail
  rw [<- hW]
  clear hW
  go_wp2
  go_ret
  exact ⟨rfl, HE.out.2⟩
 cases t1
 case false =>
  go_enter func120, ntmps120
  go_upto_region 1 with fail
  rw [<- hW]
  clear hW
  go_wp2
  go_ret
  exact ⟨rfl, HE.out.2⟩
 cases t2
 case false =>
  go_enter func120, ntmps120
  go_upto_region 1 with fail
  rw [<- hW]
  clear hW
  go_wp2
  go_ret
  exact ⟨rfl, HE.out.2⟩
 cases t3
 case false =>
  go_enter func120, ntmps120
  go_upto_region 1 with fail
  rw [<- hW]
  clear hW
  go_wp2
  go_ret
  exact ⟨rfl, HE.out.2⟩
 cases t4
 case false =>
  go_enter func120, ntmps120
  go_upto_region 1 with fail
  rw [<- hW]
  clear hW
  go_wp2
  go_ret
  exact ⟨rfl, HE.out.2⟩
 cases t5
 case false =>
  go_enter func120, ntmps120
  go_upto_region 1 with fail
  rw [<- hW]
  clear hW
  go_wp2
  go_ret
  exact ⟨rfl, HE.out.2⟩
 go_enter func120, ntmps120
 go_upto_region 1 with fail
 rw [<- hW]
 clear hW
 go_wp2
 go_ret
 exact ⟨rfl, HE.out.2⟩
theorem l9 (D : VD) (a1 : Option Addr) (c1 : Nat) (a2 : Option Addr) (c2 : Nat) (a3 : Option Addr) (c3 : Nat) (a4 : Option Addr) (c4 : Nat) (a5 : Option Addr) (c5 : Nat) (w : World) (r1 : Rd w 0 (ah D.q.ws) (.slice a1 D.q.ws.length c1)) (r2 : Rd w 0 (af D.q.bs) (.slice a2 D.q.bs.length c2)) (r3 : Rd w 0 (.list 8 D.np (fun i => aa (pT (D.pt i)))) (.slice a3 D.np c3)) (r4 : Rd w 0 (af D.hs) (.slice a4 D.hs.length c4)) (r5 : Rd w 0 (.list 6 D.nt (fun i => aa (aT (D.tl i)))) (.slice a5 D.nt c5)) (hb : fV D) :
 Calls prog 79 #[.agg (dL D a1 D.q.ws.length c1 a2 D.q.bs.length c2 a3 D.np c3 a4 D.hs.length c4 a5 D.nt c5).toArray] w fun e w' => e = .returned (.bool (eD D)) /\ Below w.heap.size w w' := by
 obtain ⟨x0, hx0⟩ : ∃ x, aw D.so 0 1000000000 = x := ⟨_, rfl⟩
 obtain ⟨x1, hx1⟩ : ∃ x, aw D.ta 0 1000000000 = x := ⟨_, rfl⟩
 obtain ⟨x2, hx2⟩ : ∃ x, eK D.q = x := ⟨_, rfl⟩
 obtain ⟨x3, hx3⟩ : ∃ x, aw (D.np : Int) 1 8 = x := ⟨_, rfl⟩
 have hx3' : decide (1 <= D.np /\ D.np <= 8) = x3 := by rw [<- hx3]; unfold aw; exact decide_eq_decide.2 (by omega)
 obtain ⟨G, hG⟩ : ∃ G, G = w.heap.size := ⟨_, rfl⟩
 obtain ⟨W, hW⟩ : ∃ W, W = w.alloc (.cells (dL D a1 D.q.ws.length c1 a2 D.q.bs.length c2 a3 D.np c3 a4 D.hs.length c4 a5 D.nt c5).toArray 141) := ⟨_, rfl⟩
 have bW : Below w.heap.size w W := by rw [hW]; exact ac _ _
 have HE : Hid (eD D = (x0 && (x1 && (x2 && (x3 && (aI (fun i => cd (D.pt i)) D.np && (decide (D.hs.length = D.np) && (decide (D.nt = D.np) && (aI (dD D) D.np && decide (0 < cH D.hs D.hs.length)))))))) ) /\ aw D.so 0 1000000000 = x0 /\ aw D.ta 0 1000000000 = x1 /\ eK D.q = x2 /\ aw (D.np : Int) 1 8 = x3 /\ fV D /\ Below w.heap.size w W /\ ag W G 141 (dL D a1 D.q.ws.length c1 a2 D.q.bs.length c2 a3 D.np c3 a4 D.hs.length c4 a5 D.nt c5).toArray) := ⟨by unfold eD; rw [hx0, hx1, hx2, hx3'], hx0, hx1, hx2, hx3, hb, bW, by rw [hW, hG]; exact ag.new _ _ _⟩
 have HR : Hid (Rd W 0 (ah D.q.ws) (.slice a1 D.q.ws.length c1) /\ Rd W 0 (af D.q.bs) (.slice a2 D.q.bs.length c2) /\ Rd W 0 (.list 8 D.np (fun i => aa (pT (D.pt i)))) (.slice a3 D.np c3) /\ Rd W 0 (af D.hs) (.slice a4 D.hs.length c4) /\ Rd W 0 (.list 6 D.nt (fun i => aa (aT (D.tl i)))) (.slice a5 D.nt c5)) := ⟨r1.below bW, r2.below bW, r3.below bW, r4.below bW, r5.below bW⟩
 rw [HE.out.1]
 obtain ⟨⟨y0, y1, y2, y3, y4, y5, y6, y7, y8, y9, y10, y11, y12⟩, yf⟩ := HE.out.2.2.2.2.2.2.2.tc13
 have hn1 := hb.2.1
 have hn2 := hb.2.2.1
 have hn3 := hb.2.2.2.1
 clear hx0 hx1 hx2 hx3 hx3' hb r1 r2 r3 r4 r5 bW yf
 go_enter func79, ntmps79
 go_upto_region 1 with fail
 rw [<- hW, <- hG]
 clear hW hG
 go_wp2_with fail
 refine (aE _ _ _ _ _ HE.out.2.1).mono ?_
 rintro e w1 ⟨rfl, hw⟩
 have hw := hw.symm
 subst hw
 cases x0
 case false =>
  go_wp2
  go_ret
  exact ⟨rfl, HE.out.2.2.2.2.2.2.1⟩
 go_wp2_with fail
 refine (aE _ _ _ _ _ HE.out.2.2.1).mono ?_
 rintro e w1 ⟨rfl, hw⟩
 have hw := hw.symm
 subst hw
 cases x1
 case false =>
  go_wp2
  go_ret
  exact ⟨rfl, HE.out.2.2.2.2.2.2.1⟩
 go_wp2_with fail
 refine (kk D.q a1 _ c1 a2 _ c2 _ HR.out.1 HR.out.2.1 HE.out.2.2.2.2.2.1.1).mono ?_
 rintro e w1 ⟨rfl, b1⟩
 rw [HE.out.2.2.2.1]
 have HB : Hid (Below W.heap.size W w1 /\ Below w.heap.size w w1) := ⟨b1, ae HE.out.2.2.2.2.2.2.1 b1⟩
 clear b1 y0 y1 y2 y3 y4 y5 y6 y7 y8 y9 y10 y11 y12
 cases x2
 case false =>
  go_wp2
  go_ret
  exact ⟨rfl, HB.out.2⟩
 obtain ⟨⟨y0, y1, y2, y3, y4, y5, y6, y7, y8, y9, y10, y11, y12⟩, yf⟩ := (HE.out.2.2.2.2.2.2.2.below HB.out.1).tc13
 clear yf
 go_wp2_with fail
 refine (aE _ _ _ _ _ HE.out.2.2.2.2.1).mono ?_
 rintro e w2 ⟨rfl, hw⟩
 have hw := hw.symm
 subst hw
 cases x3
 case false =>
  go_wp2
  go_ret
  exact ⟨rfl, HB.out.2⟩
 by_cases e1 : D.hs.length = D.np
 ·have f1 : ((D.hs.length : Int) != (D.np : Int)) = false := by simp [e1]
  by_cases e2 : D.nt = D.np
  ·have f2 : ((D.nt : Int) != (D.np : Int)) = false := by simp [e2]
   have HT : Hid (decide (D.hs.length = D.np) = true /\ decide (D.nt = D.np) = true /\ D.hs.length = D.np /\ D.nt = D.np) := ⟨decide_eq_true e1, decide_eq_true e2, e1, e2⟩
   clear e1 e2
   go_wp2
   clear y0 y1 y2 y3 y4 y5 y6 y7 y8 y9 y10 y11 y12 f1 f2
   go_loopw [3, 4] (fun al i wr => ∃ k : Nat, k <= D.np /\ i = .int .i64 k /\ al = .bool (aI (fun i => D.hs.getD i false) k) /\ aI (fun i => cd (D.pt i)) k = true /\ aI (dD D) k = true /\ Below w1.heap.size w1 wr) (fun _ i _ => D.np - (intOf i).toNat)
   case atStart => exact ⟨0, Nat.zero_le _, rfl, rfl, rfl, rfl, Below.refl _ _⟩
   case round =>
    obtain ⟨k, hk, rfl, rfl, hall, hall2, hbl⟩ := hrel
    obtain ⟨al, hal⟩ : ∃ x, aI (fun i => D.hs.getD i false) k = x := ⟨_, rfl⟩
    rw [hal]
    have HL : Hid (aI (fun i => D.hs.getD i false) k = al) := hal
    clear hal
    obtain ⟨⟨y0, y1, y2, y3, y4, y5, y6, y7, y8, y9, y10, y11, y12⟩, yf⟩ := ((HE.out.2.2.2.2.2.2.2.below HB.out.1).below hbl).tc13
    clear yf
    have HB2 : Hid (Below W.heap.size W wr /\ Below w.heap.size w wr) := ⟨ae HB.out.1 hbl, ae HB.out.2 hbl⟩
    by_cases hlt : k < D.np
    ·have hi : (k : Int) < (D.np : Int) := by omega
     have hi4 : (k : Int) < (D.hs.length : Int) := by have := HT.out.2.2.1; omega
     have hi5 : (k : Int) < (D.nt : Int) := by have := HT.out.2.2; omega
     obtain ⟨b4, o4, rfl, hb4, d0⟩ := (HR.out.2.2.2.1.below HB2.out.1).bit (k := k) (n := D.np) (by have := HT.out.2.2.1; omega)
     obtain ⟨b3, o3, vs, rfl, _, hb3, hlen, hr3, hrd⟩ := (HR.out.2.2.1.below HB2.out.1).at (k := k) hlt
     obtain ⟨p1, k1, p2, k2, rfl, rp1, rp2⟩ := VP.cells hrd hlen
     clear hlen hrd
     obtain ⟨b5, o5, vs, rfl, _, hb5, hlen, hr5, hrd⟩ := (HR.out.2.2.2.2.below HB2.out.1).at (k := k) (by have := HT.out.2.2; omega)
     obtain ⟨t1, j1, t2, j2, rfl, rt1, rt2⟩ := VA.cells hrd hlen
     clear hlen hrd
     obtain ⟨hs, hhs⟩ : ∃ x, D.hs.getD k false = x := ⟨_, rfl⟩
     rw [hhs] at d0
     obtain ⟨x, hx⟩ : ∃ x, dD D k = x := ⟨_, rfl⟩
     obtain ⟨xp, hxp⟩ : ∃ x, cd (D.pt k) = x := ⟨_, rfl⟩
     have hbq := HE.out.2.2.2.2.2.1.2.2.2.2.1 k hlt
     have hba := HE.out.2.2.2.2.2.1.2.2.2.2.2 k (by have := HT.out.2.2; omega)
     have HA : Hid (aI (fun i => cd (D.pt i)) k = true /\ aI (dD D) k = true /\ cd (D.pt k) = xp /\ dD D k = x /\ D.hs.getD k false = hs /\ Below w1.heap.size w1 wr) := ⟨hall, hall2, hxp, hx, hhs, hbl⟩
     have c4' : wr.rangeAt b4 (o4 + k) [.bool hs] := fun j v hv => by
      match j, hv with
      | 0, hv => simp at hv; subst hv; exact d0
      | j + 1, hv => simp at hv
     have hBk := HE.out.2.2.2.2.2.2.2.below HB2.out.1
     clear hall hall2 hbl d0
     have hx2 : hs = true -> jE (D.pt k).q (D.tl k) = x := fun e => by rw [<- hx]; unfold dD; rw [hhs, e]; rfl
     have hx3 : hs = false -> fk (D.tl k) = x := fun e => by rw [<- hx]; unfold dD; rw [hhs, e]; rfl
     have HK : Hid (ag wr G 141 (dL D a1 D.q.ws.length c1 a2 D.q.bs.length c2 (some ⟨b3, o3, none⟩) D.np c3 (some ⟨b4, o4, none⟩) D.hs.length c4 (some ⟨b5, o5, none⟩) D.nt c5).toArray /\ b3 < wr.heap.size /\ wr.rangeAt b3 (o3 + k * 8) (pL (D.pt k) p1 (D.pt k).q.ws.length k1 p2 (D.pt k).q.bs.length k2) /\ b5 < wr.heap.size /\ wr.rangeAt b5 (o5 + k * 6) (aL (D.tl k) t1 (D.tl k).ws.length j1 t2 (D.tl k).bs.length j2) /\ b4 < wr.heap.size /\ wr.rangeAt b4 (o4 + k) [.bool hs] /\ Rd wr 0 (ah (D.pt k).q.ws) (.slice p1 (D.pt k).q.ws.length k1) /\ Rd wr 0 (af (D.pt k).q.bs) (.slice p2 (D.pt k).q.bs.length k2) /\ Rd wr 0 (ah (D.tl k).ws) (.slice t1 (D.tl k).ws.length j1) /\ Rd wr 0 (af (D.tl k).bs) (.slice t2 (D.tl k).bs.length j2) /\ ce (D.pt k).q /\ eL (D.tl k) /\ cd (D.pt k) = xp /\ (hs = true -> jE (D.pt k).q (D.tl k) = x) /\ (hs = false -> fk (D.tl k) = x)) := ⟨hBk, hb3, hr3, hb5, hr5, hb4, c4', rp1, rp2, rt1, rt2, hbq, hba, hxp, hx2, hx3⟩
     clear hx hx2 hx3 hhs hb3 hr3 hb5 hr5 hb4 c4' rp1 rp2 rt1 rt2 hbq hba hxp hBk
     go_upto_region 7 with fail
     clear y0 y1 y2 y3 y4 y5 y6 y7 y8 y9 y10 y11 y12
     refine wp_region_any (by kernel_rfl) ?_
     refine aX (fun u => Below wr.heap.size wr u) (fun i v u => match i with
      | 0 => v = .pointer (some ⟨G, 10, none⟩)
      | 1 => v = .slice (some ⟨b3, o3, none⟩) D.np c3
      | 2 => v = .int .i64 (k : Int)
      | 3 => v = .pointer (some ⟨b3, o3 + k * 8, none⟩)
      | 4 => v = .agg (pL (D.pt k) p1 (D.pt k).q.ws.length k1 p2 (D.pt k).q.bs.length k2).toArray
      | 5 => v = .bool xp
      | 6 => v = .bool (!xp)
      | 7 => v = .bool (!xp)
      | 8 => v = cond xp (.pointer (some ⟨G, 11, none⟩)) undef
      | 9 => v = cond xp (.slice (some ⟨b4, o4, none⟩) D.hs.length c4) undef
      | 10 => v = cond xp (.int .i64 (k : Int)) undef
      | 11 => v = cond xp (.pointer (some ⟨b4, o4 + k, none⟩)) undef
      | 12 => v = cond xp (.bool hs) undef
      | 13 => v = cond xp (.bool hs) undef
      | 14 => v = cond xp (cond hs (.pointer (some ⟨G, 10, none⟩)) undef) undef
      | 15 => v = cond xp (cond hs (.slice (some ⟨b3, o3, none⟩) D.np c3) undef) undef
      | 16 => v = cond xp (cond hs (.int .i64 (k : Int)) undef) undef
      | 17 => v = cond xp (cond hs (.pointer (some ⟨b3, o3 + k * 8, none⟩)) undef) undef
      | 18 => v = cond xp (cond hs (.pointer (some ⟨b3, o3 + k * 8 + 2, none⟩)) undef) undef
      | 19 => v = cond xp (cond hs (.agg ([.int .i64 (D.pt k).q.kd, .int .i64 (D.pt k).q.pl, .int .i64 (D.pt k).q.n, .slice p1 ((D.pt k).q.ws.length) k1, .slice p2 ((D.pt k).q.bs.length) k2, .int .i64 (D.pt k).q.wa]).toArray) undef) undef
      | 20 => v = cond xp (cond hs (.pointer (some ⟨G, 12, none⟩)) undef) undef
      | 21 => v = cond xp (cond hs (.slice (some ⟨b5, o5, none⟩) D.nt c5) undef) undef
      | 22 => v = cond xp (cond hs (.int .i64 (k : Int)) undef) undef
      | 23 => v = cond xp (cond hs (.pointer (some ⟨b5, o5 + k * 6, none⟩)) undef) undef
      | 24 => v = cond xp (cond hs (.agg (aL (D.tl k) t1 (D.tl k).ws.length j1 t2 (D.tl k).bs.length j2).toArray) undef) undef
      | 25 => v = cond xp (cond hs (.bool x) undef) undef
      | 26 => v = cond xp (cond hs (.bool (!x)) undef) undef
      | 27 => v = cond xp (cond hs (.bool (!x)) (.bool false)) undef
      | 28 => v = cond xp (cond hs (.bool (!x)) (.bool false)) (.bool true)
      | 29 => v = cond xp (cond hs (.bool (!x)) (.bool false)) (.bool true)
      | 30 => v = cond xp (cond hs (cond x (.pointer (some ⟨G, 11, none⟩)) undef) (.pointer (some ⟨G, 11, none⟩))) undef
      | 31 => v = cond xp (cond hs (cond x (.slice (some ⟨b4, o4, none⟩) D.hs.length c4) undef) (.slice (some ⟨b4, o4, none⟩) D.hs.length c4)) undef
      | 32 => v = cond xp (cond hs (cond x (.int .i64 (k : Int)) undef) (.int .i64 (k : Int))) undef
      | 33 => v = cond xp (cond hs (cond x (.pointer (some ⟨b4, o4 + k, none⟩)) undef) (.pointer (some ⟨b4, o4 + k, none⟩))) undef
      | 34 => v = cond xp (cond hs (cond x (.bool true) undef) (.bool false)) undef
      | 35 => v = cond xp (cond hs (cond x (.bool false) undef) (.bool true)) undef
      | 36 => v = cond xp (cond hs (cond x (.bool false) undef) (.bool true)) undef
      | 37 => v = cond xp (cond hs undef (.pointer (some ⟨G, 12, none⟩))) undef
      | 38 => v = cond xp (cond hs undef (.slice (some ⟨b5, o5, none⟩) D.nt c5)) undef
      | 39 => v = cond xp (cond hs undef (.int .i64 (k : Int))) undef
      | 40 => v = cond xp (cond hs undef (.pointer (some ⟨b5, o5 + k * 6, none⟩))) undef
      | 41 => v = cond xp (cond hs undef (.agg (aL (D.tl k) t1 (D.tl k).ws.length j1 t2 (D.tl k).bs.length j2).toArray)) undef
      | 42 => v = cond xp (cond hs undef (.bool x)) undef
      | 43 => v = cond xp (cond hs undef (.bool (!x))) undef
      | 44 => v = cond xp (cond hs (cond x (.bool false) undef) (.bool (!x))) undef
      | 45 => v = cond xp (.bool (!x)) (.bool true)
      | _ => v = undef) (by kernel_rfl) (by kernel_rfl) (fun _ _ _ _ h _ => h) (by first | exact Below.refl _ _ | exact (Below.refl _ _).drew) ?_ ?_ _ _ rfl (by decide) (fun i => by simp [Array.getD]; try (split <;> rfl))
     ·intro vs u hR hall
      simp only [bm]
      cases xp
      ·have e45 : vs 45 = .bool true := hall 45 (by simp)
       rw [e45]
       clear hall e45
       have HF : Hid (aI (fun i => cd (D.pt i)) D.np = false /\ Below w.heap.size w u) := ⟨cM hlt HA.out.2.2.1, ae HB2.out.2 hR⟩
       clear HK HA hR
       go_simp
       go_wp2
       go_ret
       exact ⟨by rw [HF.out.1]; rfl, HF.out.2⟩
      cases hs
      ·cases x
       ·have e45 : vs 45 = .bool true := hall 45 (by simp)
        rw [e45]
        clear hall e45
        have HF : Hid (aI (dD D) D.np = false /\ Below w.heap.size w u) := ⟨cM hlt HA.out.2.2.2.1, ae HB2.out.2 hR⟩
        clear HK HA hR
        go_simp
        go_wp2
        go_ret
        exact ⟨by rw [HF.out.1]; simp, HF.out.2⟩
       have e45 : vs 45 = .bool false := hall 45 (by simp)
       rw [e45]
       clear hall e45
       have HF : Hid (aI (fun i => cd (D.pt i)) (k + 1) = true /\ aI (dD D) (k + 1) = true /\ aI (fun i => D.hs.getD i false) (k + 1) = (al && false) /\ Below w1.heap.size w1 u) := ⟨cF HA.out.1 HA.out.2.2.1, cF HA.out.2.1 HA.out.2.2.2.1, by show (aI (fun i => D.hs.getD i false) k && D.hs.getD k false) = _; rw [HL.out, HA.out.2.2.2.2.1], ae HA.out.2.2.2.2.2 hR⟩
       obtain ⟨⟨y0, y1, y2, y3, y4, y5, y6, y7, y8, y9, y10, y11, y12⟩, yf⟩ := (HK.out.1.below hR).tc13
       clear yf
       have d0 : u.cell? ⟨b4, o4 + k, none⟩ = some (.bool false) := (ax HK.out.2.2.2.2.2.2.1 HK.out.2.2.2.2.2.1 hR) 0 _ rfl
       clear HK HA hR
       go_simp
       cases al
       all_goals (
        go_wp2
        go_roundw
        case rel => exact ⟨k + 1, by omega, by go_num, by rw [HF.out.2.2.1]; rfl, HF.out.1, HF.out.2.1, HF.out.2.2.2⟩
        case measure => simp [intOf]; omega)
      cases x
      ·have e45 : vs 45 = .bool true := hall 45 (by simp)
       rw [e45]
       clear hall e45
       have HF : Hid (aI (dD D) D.np = false /\ Below w.heap.size w u) := ⟨cM hlt HA.out.2.2.2.1, ae HB2.out.2 hR⟩
       clear HK HA hR
       go_simp
       go_wp2
       go_ret
       exact ⟨by rw [HF.out.1]; simp, HF.out.2⟩
      have e45 : vs 45 = .bool false := hall 45 (by simp)
      rw [e45]
      clear hall e45
      have HF : Hid (aI (fun i => cd (D.pt i)) (k + 1) = true /\ aI (dD D) (k + 1) = true /\ aI (fun i => D.hs.getD i false) (k + 1) = (al && true) /\ Below w1.heap.size w1 u) := ⟨cF HA.out.1 HA.out.2.2.1, cF HA.out.2.1 HA.out.2.2.2.1, by show (aI (fun i => D.hs.getD i false) k && D.hs.getD k false) = _; rw [HL.out, HA.out.2.2.2.2.1], ae HA.out.2.2.2.2.2 hR⟩
      obtain ⟨⟨y0, y1, y2, y3, y4, y5, y6, y7, y8, y9, y10, y11, y12⟩, yf⟩ := (HK.out.1.below hR).tc13
      clear yf
      have d0 : u.cell? ⟨b4, o4 + k, none⟩ = some (.bool true) := (ax HK.out.2.2.2.2.2.2.1 HK.out.2.2.2.2.2.1 hR) 0 _ rfl
      clear HK HA hR
      go_simp
      cases al
      all_goals (
       go_wp2
       go_roundw
       case rel => exact ⟨k + 1, by omega, by go_num, by rw [HF.out.2.2.1]; rfl, HF.out.1, HF.out.2.1, HF.out.2.2.2⟩
       case measure => simp [intOf]; omega)
     intro u i o ρ hR ho hρ hc hf hd
     have hi : i < 46 := by
      have := (Array.getElem?_eq_some_iff.1 ho).1
      simpa using this
     obtain rfl | rfl | rfl | rfl | rfl | rfl | rfl | rfl | rfl | rfl | rfl | rfl | rfl | rfl | rfl | rfl | rfl | rfl | rfl | rfl | rfl | rfl | rfl | rfl | rfl | rfl | rfl | rfl | rfl | rfl | rfl | rfl | rfl | rfl | rfl | rfl | rfl | rfl | rfl | rfl | rfl | rfl | rfl | rfl | rfl | rfl : i = 0 \/ i = 1 \/ i = 2 \/ i = 3 \/ i = 4 \/ i = 5 \/ i = 6 \/ i = 7 \/ i = 8 \/ i = 9 \/ i = 10 \/ i = 11 \/ i = 12 \/ i = 13 \/ i = 14 \/ i = 15 \/ i = 16 \/ i = 17 \/ i = 18 \/ i = 19 \/ i = 20 \/ i = 21 \/ i = 22 \/ i = 23 \/ i = 24 \/ i = 25 \/ i = 26 \/ i = 27 \/ i = 28 \/ i = 29 \/ i = 30 \/ i = 31 \/ i = 32 \/ i = 33 \/ i = 34 \/ i = 35 \/ i = 36 \/ i = 37 \/ i = 38 \/ i = 39 \/ i = 40 \/ i = 41 \/ i = 42 \/ i = 43 \/ i = 44 \/ i = 45 := by omega
     all_goals (simp only [List.getElem?_toArray, List.getElem?_cons_zero, List.getElem?_cons_succ, Option.some.injEq] at ho; subst ho)
     ·exact yr (aq rfl (hρ 1 (by kernel_rfl)) (by go_simp)) rfl hR
     ·have y9 := (HK.out.1.below hR).rng 10 _ rfl
      exact yr (ai rfl (dq hd 0 53) (by go_simp)) rfl hR
     ·exact yr rfl (hρ 4 (by kernel_rfl)) hR
     ·exact yr (au rfl (dq hd 1 54) (dq hd 2 55) (by go_simp)) rfl hR
     ·have h3 : _ = _ := dq hd 3 56
      have hr : (Instr.loadAt 144 (.pointer (some ⟨b3, o3 + k * 8, none⟩))).run prog u = .ok (.agg (pL (D.pt k) p1 (D.pt k).q.ws.length k1 p2 (D.pt k).q.bs.length k2).toArray) u := run_loadAt_mid u b3 (o3 + k * 8) 144 (pL (D.pt k) p1 (D.pt k).q.ws.length k1 p2 (D.pt k).q.bs.length k2) _ (ax HK.out.2.2.1 HK.out.2.1 hR) underlying144 rfl (by kernel_rfl)
      exact yr (ai rfl h3 hr) rfl hR
     ·have h4 : _ = _ := dq hd 4 57
      refine .inl ⟨rfl, .inr ⟨_, _, bj rfl (hf _) (args := #[.agg (pL (D.pt k) p1 (D.pt k).q.ws.length k1 p2 (D.pt k).q.bs.length k2).toArray]) (by simp [h4]) (by kernel_rfl), ?_⟩⟩
      refine (lU (D.pt k) p1 k1 p2 k2 _ (HK.out.2.2.2.2.2.2.2.1.below hR) (HK.out.2.2.2.2.2.2.2.2.1.below hR) HK.out.2.2.2.2.2.2.2.2.2.2.2.1).mono ?_
      rintro e u' ⟨he, b'⟩
      exact ⟨_, he.trans (by rw [HK.out.2.2.2.2.2.2.2.2.2.2.2.2.2.1] <;> rfl), rfl, ae hR b', b'⟩
     ·exact yr (bH rfl (dq hd 5 58) (by go_simp)) rfl hR
     ·exact yr rfl (dq hd 6 59) hR
     ·cases xp
      ·exact aj (.bool true) hd 7 60
      exact yq hd 7 60 (aq rfl (hρ 1 (by kernel_rfl)) (by go_simp)) rfl hR
     ·cases xp
      ·exact aj (.bool true) hd 7 60
      have y9 := (HK.out.1.below hR).rng 11 _ rfl
      exact yq hd 7 60 (ai rfl (dq hd 8 61) (by go_simp)) rfl hR
     ·cases xp
      ·exact aj (.bool true) hd 7 60
      exact yq hd 7 60 rfl (hρ 4 (by kernel_rfl)) hR
     ·cases xp
      ·exact aj (.bool true) hd 7 60
      exact yq hd 7 60 (au rfl (dq hd 9 62) (dq hd 10 63) (by go_simp)) rfl hR
     ·cases xp
      ·exact aj (.bool true) hd 7 60
      cases hs
      ·have y9 : u.cell? ⟨b4, o4 + k, none⟩ = some (.bool false) := (ax HK.out.2.2.2.2.2.2.1 HK.out.2.2.2.2.2.1 hR) 0 _ rfl
       exact yq hd 7 60 (ai rfl (dq hd 11 64) (by go_simp)) rfl hR
      have y9 : u.cell? ⟨b4, o4 + k, none⟩ = some (.bool true) := (ax HK.out.2.2.2.2.2.2.1 HK.out.2.2.2.2.2.1 hR) 0 _ rfl
      exact yq hd 7 60 (ai rfl (dq hd 11 64) (by go_simp)) rfl hR
     ·cases xp
      ·exact aj (.bool true) hd 7 60
      exact yq hd 7 60 rfl (dq hd 12 65) hR
     ·cases xp
      ·exact aj undef hd 13 66
      cases hs
      ·exact aj (.bool false) hd 13 66
      exact yq hd 13 66 (aq rfl (hρ 1 (by kernel_rfl)) (by go_simp)) rfl hR
     ·cases xp
      ·exact aj undef hd 13 66
      cases hs
      ·exact aj (.bool false) hd 13 66
      have y9 := (HK.out.1.below hR).rng 10 _ rfl
      exact yq hd 13 66 (ai rfl (dq hd 14 67) (by go_simp)) rfl hR
     ·cases xp
      ·exact aj undef hd 13 66
      cases hs
      ·exact aj (.bool false) hd 13 66
      exact yq hd 13 66 rfl (hρ 4 (by kernel_rfl)) hR
     ·cases xp
      ·exact aj undef hd 13 66
      cases hs
      ·exact aj (.bool false) hd 13 66
      exact yq hd 13 66 (au rfl (dq hd 15 68) (dq hd 16 69) (by go_simp)) rfl hR
     ·cases xp
      ·exact aj undef hd 13 66
      cases hs
      ·exact aj (.bool false) hd 13 66
      exact yq hd 13 66 (aq rfl (dq hd 17 70) (by go_simp)) rfl hR
     ·cases xp
      ·exact aj undef hd 13 66
      cases hs
      ·exact aj (.bool false) hd 13 66
      have h18 : _ = _ := dq hd 18 71
      have hr : (Instr.loadAt 84 (.pointer (some ⟨b3, o3 + k * 8 + 2, none⟩))).run prog u = .ok (.agg ([.int .i64 (D.pt k).q.kd, .int .i64 (D.pt k).q.pl, .int .i64 (D.pt k).q.n, .slice p1 ((D.pt k).q.ws.length) k1, .slice p2 ((D.pt k).q.bs.length) k2, .int .i64 (D.pt k).q.wa]).toArray) u := run_loadAt_mid u b3 (o3 + k * 8 + 2) 84 ([.int .i64 (D.pt k).q.kd, .int .i64 (D.pt k).q.pl, .int .i64 (D.pt k).q.n, .slice p1 ((D.pt k).q.ws.length) k1, .slice p2 ((D.pt k).q.bs.length) k2, .int .i64 (D.pt k).q.wa]) _ (en [.int .i64 (D.pt k).p, .int .i64 (D.pt k).t] [.int .i64 (D.pt k).q.kd, .int .i64 (D.pt k).q.pl, .int .i64 (D.pt k).q.n, .slice p1 ((D.pt k).q.ws.length) k1, .slice p2 ((D.pt k).q.bs.length) k2, .int .i64 (D.pt k).q.wa] [] (ax HK.out.2.2.1 HK.out.2.1 hR) rfl) underlying84 rfl (by kernel_rfl)
      exact yq hd 13 66 (ai rfl h18 hr) rfl hR
     ·cases xp
      ·exact aj undef hd 13 66
      cases hs
      ·exact aj (.bool false) hd 13 66
      exact yq hd 13 66 (aq rfl (hρ 1 (by kernel_rfl)) (by go_simp)) rfl hR
     ·cases xp
      ·exact aj undef hd 13 66
      cases hs
      ·exact aj (.bool false) hd 13 66
      have y9 := (HK.out.1.below hR).rng 12 _ rfl
      exact yq hd 13 66 (ai rfl (dq hd 20 73) (by go_simp)) rfl hR
     ·cases xp
      ·exact aj undef hd 13 66
      cases hs
      ·exact aj (.bool false) hd 13 66
      exact yq hd 13 66 rfl (hρ 4 (by kernel_rfl)) hR
     ·cases xp
      ·exact aj undef hd 13 66
      cases hs
      ·exact aj (.bool false) hd 13 66
      exact yq hd 13 66 (au rfl (dq hd 21 74) (dq hd 22 75) (by go_simp)) rfl hR
     ·cases xp
      ·exact aj undef hd 13 66
      cases hs
      ·exact aj (.bool false) hd 13 66
      have h23 : _ = _ := dq hd 23 76
      have hr : (Instr.loadAt 118 (.pointer (some ⟨b5, o5 + k * 6, none⟩))).run prog u = .ok (.agg (aL (D.tl k) t1 (D.tl k).ws.length j1 t2 (D.tl k).bs.length j2).toArray) u := run_loadAt_mid u b5 (o5 + k * 6) 118 (aL (D.tl k) t1 (D.tl k).ws.length j1 t2 (D.tl k).bs.length j2) _ (ax HK.out.2.2.2.2.1 HK.out.2.2.2.1 hR) underlying118 rfl (by kernel_rfl)
      exact yq hd 13 66 (ai rfl h23 hr) rfl hR
     ·cases xp
      ·exact aj undef hd 13 66
      cases hs
      ·exact aj (.bool false) hd 13 66
      have g13 : ρ (.tmp 66) = .bool true := gq hd 13 66
      have h19 : _ = _ := dq hd 19 72
      have h24 : _ = _ := dq hd 24 77
      refine .inl ⟨(by show (match ρ (.tmp 66) with | .bool b => b == true | _ => false) = true; rw [g13]; rfl), .inr ⟨_, _, bj rfl (hf _) (args := #[.agg ([.int .i64 (D.pt k).q.kd, .int .i64 (D.pt k).q.pl, .int .i64 (D.pt k).q.n, .slice p1 ((D.pt k).q.ws.length) k1, .slice p2 ((D.pt k).q.bs.length) k2, .int .i64 (D.pt k).q.wa]).toArray, .agg (aL (D.tl k) t1 (D.tl k).ws.length j1 t2 (D.tl k).bs.length j2).toArray]) (by simp [h19, h24]) (by kernel_rfl), ?_⟩⟩
      refine (tf (D.pt k).q (D.tl k) p1 _ k1 p2 _ k2 t1 _ j1 t2 _ j2 _ (HK.out.2.2.2.2.2.2.2.1.below hR) (HK.out.2.2.2.2.2.2.2.2.1.below hR) (HK.out.2.2.2.2.2.2.2.2.2.1.below hR) (HK.out.2.2.2.2.2.2.2.2.2.2.1.below hR) HK.out.2.2.2.2.2.2.2.2.2.2.2.1 HK.out.2.2.2.2.2.2.2.2.2.2.2.2.1).mono ?_
      rintro e u' ⟨he, b'⟩
      exact ⟨_, he.trans (by rw [HK.out.2.2.2.2.2.2.2.2.2.2.2.2.2.2.1 rfl] <;> rfl), rfl, ae hR b', b'⟩
     ·cases xp
      ·exact aj undef hd 13 66
      cases hs
      ·exact aj (.bool false) hd 13 66
      exact yq hd 13 66 (bH rfl (dq hd 25 78) (by go_simp)) rfl hR
     ·cases xp
      ·exact aj (.bool true) hd 7 60
      cases hs
      ·exact yq hd 7 60 (aA rfl (dq hd 13 66)) (by simpa using hc _) hR
      exact yq hd 7 60 (aA rfl (dq hd 13 66)) (by simpa using (dq hd 26 79)) hR
     ·cases xp
      ·exact yr (aA rfl (dq hd 7 60)) (by simpa using hc _) hR
      exact yr (aA rfl (dq hd 7 60)) (by simpa using (dq hd 27 80)) hR
     ·exact yr rfl (dq hd 28 81) hR
     ·cases xp
      ·exact aj (.bool true) hd 29 82
      cases hs
      ·exact yq hd 29 82 (aq rfl (hρ 1 (by kernel_rfl)) (by go_simp)) rfl hR
      cases x
      ·exact aj (.bool true) hd 29 82
      exact yq hd 29 82 (aq rfl (hρ 1 (by kernel_rfl)) (by go_simp)) rfl hR
     ·cases xp
      ·exact aj (.bool true) hd 29 82
      cases hs
      ·have y9 := (HK.out.1.below hR).rng 11 _ rfl
       exact yq hd 29 82 (ai rfl (dq hd 30 83) (by go_simp)) rfl hR
      cases x
      ·exact aj (.bool true) hd 29 82
      have y9 := (HK.out.1.below hR).rng 11 _ rfl
      exact yq hd 29 82 (ai rfl (dq hd 30 83) (by go_simp)) rfl hR
     ·cases xp
      ·exact aj (.bool true) hd 29 82
      cases hs
      ·exact yq hd 29 82 rfl (hρ 4 (by kernel_rfl)) hR
      cases x
      ·exact aj (.bool true) hd 29 82
      exact yq hd 29 82 rfl (hρ 4 (by kernel_rfl)) hR
     ·cases xp
      ·exact aj (.bool true) hd 29 82
      cases hs
      ·exact yq hd 29 82 (au rfl (dq hd 31 84) (dq hd 32 85) (by go_simp)) rfl hR
      cases x
      ·exact aj (.bool true) hd 29 82
      exact yq hd 29 82 (au rfl (dq hd 31 84) (dq hd 32 85) (by go_simp)) rfl hR
     ·cases xp
      ·exact aj (.bool true) hd 29 82
      cases hs
      ·have y9 : u.cell? ⟨b4, o4 + k, none⟩ = some (.bool false) := (ax HK.out.2.2.2.2.2.2.1 HK.out.2.2.2.2.2.1 hR) 0 _ rfl
       exact yq hd 29 82 (ai rfl (dq hd 33 86) (by go_simp)) rfl hR
      cases x
      ·exact aj (.bool true) hd 29 82
      have y9 : u.cell? ⟨b4, o4 + k, none⟩ = some (.bool true) := (ax HK.out.2.2.2.2.2.2.1 HK.out.2.2.2.2.2.1 hR) 0 _ rfl
      exact yq hd 29 82 (ai rfl (dq hd 33 86) (by go_simp)) rfl hR
     ·cases xp
      ·exact aj (.bool true) hd 29 82
      cases hs
      ·exact yq hd 29 82 (bH rfl (dq hd 34 87) (by go_simp)) rfl hR
      cases x
      ·exact aj (.bool true) hd 29 82
      exact yq hd 29 82 (bH rfl (dq hd 34 87) (by go_simp)) rfl hR
     ·cases xp
      ·exact aj (.bool true) hd 29 82
      cases hs
      ·exact yq hd 29 82 rfl (dq hd 35 88) hR
      cases x
      ·exact aj (.bool true) hd 29 82
      exact yq hd 29 82 rfl (dq hd 35 88) hR
     ·cases xp
      ·exact aj undef hd 36 89
      cases hs
      ·exact yq hd 36 89 (aq rfl (hρ 1 (by kernel_rfl)) (by go_simp)) rfl hR
      cases x
      ·exact aj undef hd 36 89
      exact aj (.bool false) hd 36 89
     ·cases xp
      ·exact aj undef hd 36 89
      cases hs
      ·have y9 := (HK.out.1.below hR).rng 12 _ rfl
       exact yq hd 36 89 (ai rfl (dq hd 37 90) (by go_simp)) rfl hR
      cases x
      ·exact aj undef hd 36 89
      exact aj (.bool false) hd 36 89
     ·cases xp
      ·exact aj undef hd 36 89
      cases hs
      ·exact yq hd 36 89 rfl (hρ 4 (by kernel_rfl)) hR
      cases x
      ·exact aj undef hd 36 89
      exact aj (.bool false) hd 36 89
     ·cases xp
      ·exact aj undef hd 36 89
      cases hs
      ·exact yq hd 36 89 (au rfl (dq hd 38 91) (dq hd 39 92) (by go_simp)) rfl hR
      cases x
      ·exact aj undef hd 36 89
      exact aj (.bool false) hd 36 89
     ·cases xp
      ·exact aj undef hd 36 89
      cases hs
      ·have h40 : _ = _ := dq hd 40 93
       have hr : (Instr.loadAt 118 (.pointer (some ⟨b5, o5 + k * 6, none⟩))).run prog u = .ok (.agg (aL (D.tl k) t1 (D.tl k).ws.length j1 t2 (D.tl k).bs.length j2).toArray) u := run_loadAt_mid u b5 (o5 + k * 6) 118 (aL (D.tl k) t1 (D.tl k).ws.length j1 t2 (D.tl k).bs.length j2) _ (ax HK.out.2.2.2.2.1 HK.out.2.2.2.1 hR) underlying118 rfl (by kernel_rfl)
       exact yq hd 36 89 (ai rfl h40 hr) rfl hR
      cases x
      ·exact aj undef hd 36 89
      exact aj (.bool false) hd 36 89
     ·cases xp
      ·exact aj undef hd 36 89
      cases hs
      ·have g36 : ρ (.tmp 89) = .bool true := gq hd 36 89
       have h41 : _ = _ := dq hd 41 94
       refine .inl ⟨(by show (match ρ (.tmp 89) with | .bool b => b == true | _ => false) = true; rw [g36]; rfl), .inr ⟨_, _, bj rfl (hf _) (args := #[.agg (aL (D.tl k) t1 (D.tl k).ws.length j1 t2 (D.tl k).bs.length j2).toArray]) (by simp [h41]) (by kernel_rfl), ?_⟩⟩
       refine (jI (D.tl k) t1 j1 t2 j2 _).mono ?_
       rintro e u' ⟨he, b'⟩
       exact ⟨_, he.trans (by rw [HK.out.2.2.2.2.2.2.2.2.2.2.2.2.2.2.2 rfl] <;> rfl), rfl, ae hR b', b'⟩
      cases x
      ·exact aj undef hd 36 89
      exact aj (.bool false) hd 36 89
     ·cases xp
      ·exact aj undef hd 36 89
      cases hs
      ·exact yq hd 36 89 (bH rfl (dq hd 42 95) (by go_simp)) rfl hR
      cases x
      ·exact aj undef hd 36 89
      exact aj (.bool false) hd 36 89
     ·cases xp
      ·exact aj (.bool true) hd 29 82
      cases hs
      ·exact yq hd 29 82 (aA rfl (dq hd 36 89)) (by simpa using (dq hd 43 96)) hR
      cases x
      ·exact aj (.bool true) hd 29 82
      exact yq hd 29 82 (aA rfl (dq hd 36 89)) (by simpa using hc _) hR
     cases xp
     ·exact yr (aA rfl (dq hd 29 82)) (by simpa using hc _) hR
     cases hs
     ·exact yr (aA rfl (dq hd 29 82)) (by simpa using (dq hd 44 97)) hR
     cases x
     ·exact yr (aA rfl (dq hd 29 82)) (by simpa using hc _) hR
     exact yr (aA rfl (dq hd 29 82)) (by simpa using (dq hd 44 97)) hR
    have hi : ¬ (k : Int) < (D.np : Int) := by omega
    have e9 : k = D.np := by omega
    have HF : Hid (aI (fun i => cd (D.pt i)) D.np = true /\ aI (dD D) D.np = true /\ decide (0 < cH D.hs D.hs.length) = !al) := by
     refine ⟨by rw [<- e9]; exact hall, by rw [<- e9]; exact hall2, ?_⟩
     have h8 := lS (bs := D.hs) (n := D.hs.length)
     have h9 := HL.out
     rw [show k = D.hs.length by have := HT.out.2.2.1; omega] at h9
     rw [h9] at h8
     cases al
     ·simp at h8 ⊢; omega
     simp at h8 ⊢; omega
    clear hall hall2 hbl e9
    go_wp2
    go_ret
    exact ⟨by rw [HF.out.1, HF.out.2.1, HF.out.2.2, HT.out.1, HT.out.2.1]; cases al <;> rfl, HB2.out.2⟩
  have f2 : ((D.nt : Int) != (D.np : Int)) = true := by simp; omega
  have HT : Hid (decide (D.nt = D.np) = false) := decide_eq_false e2
  clear e1 e2
  go_wp2
  go_ret
  exact ⟨by rw [HT.out]; simp, HB.out.2⟩
 have f1 : ((D.hs.length : Int) != (D.np : Int)) = true := by simp; omega
 have HT : Hid (decide (D.hs.length = D.np) = false) := decide_eq_false e1
 clear e1
 go_wp2
 go_ret
 exact ⟨by rw [HT.out]; simp, HB.out.2⟩
theorem tg (X : VA) (a1 : Option Addr) (c1 : Nat) (a2 : Option Addr) (c2 : Nat) (w : World) (r1 : Rd w 0 (ah X.ws) (.slice a1 X.ws.length c1)) (r2 : Rd w 0 (af X.bs) (.slice a2 X.bs.length c2)) (hb : eL X) :
 Calls prog 117 #[.agg (aL X a1 X.ws.length c1 a2 X.bs.length c2).toArray] w fun e w' => e = .returned (.bool (jd X)) /\ Below w.heap.size w w' :=
 iv X.kd X.fl X.pl X.n a1 a2 _ _ c1 c2 X.ws X.bs w rfl rfl r1.int3.2.2 r2.bool3.2.2 hb.1 hb.2
theorem th (X : VQ) (a1 : Option Addr) (c1 : Nat) (a2 : Option Addr) (c2 : Nat) (w : World) :
 Calls prog 118 #[.agg (qL X a1 X.ws.length c1 a2 X.bs.length c2).toArray] w fun e w' => e = .returned (.bool (lY X)) /\ Below w.heap.size w w' :=
 iz X.kd X.pl X.n X.wa a1 a2 _ _ c1 c2 w
theorem kq (K : VK) (b1 : Option Addr) (c1 : Nat) (b2 : Option Addr) (c2 : Nat) (b3 : Option Addr) (c3 : Nat) (b4 : Option Addr) (c4 : Nat) (w : World) (h : Rd w 0 (ah K.q.ws) (.slice b1 K.q.ws.length c1) /\ Rd w 0 (af K.q.bs) (.slice b2 K.q.bs.length c2) /\ Rd w 0 (ah K.a.ws) (.slice b3 K.a.ws.length c3) /\ Rd w 0 (af K.a.bs) (.slice b4 K.a.bs.length c4)) (hq : ce K.q) (ha : eL K.a) :
 Calls prog 67 #[.agg (cr K b1 K.q.ws.length c1 b2 K.q.bs.length c2 b3 K.a.ws.length c3 b4 K.a.bs.length c4).toArray] w fun e w' => e = .returned (.bool (dm K)) /\ Below w.heap.size w w' := by
 obtain ⟨W, hW⟩ : ∃ W, W = w.alloc (.cells (cr K b1 K.q.ws.length c1 b2 K.q.bs.length c2 b3 K.a.ws.length c3 b4 K.a.bs.length c4).toArray 120) := ⟨_, rfl⟩
 have bW : Below w.heap.size w W := by rw [hW]; exact ac w _
 have HE : Hid (ag W w.heap.size 120 (cr K b1 K.q.ws.length c1 b2 K.q.bs.length c2 b3 K.a.ws.length c3 b4 K.a.bs.length c4).toArray /\ Below w.heap.size w W /\ ce K.q /\ eL K.a /\ Rd W 0 (ah K.q.ws) (.slice b1 K.q.ws.length c1) /\ Rd W 0 (af K.q.bs) (.slice b2 K.q.bs.length c2) /\ Rd W 0 (ah K.a.ws) (.slice b3 K.a.ws.length c3) /\ Rd W 0 (af K.a.bs) (.slice b4 K.a.bs.length c4)) := ⟨by rw [hW]; exact ag.new w _ _, bW, hq, ha, h.1.below bW, h.2.1.below bW, h.2.2.1.below bW, h.2.2.2.below bW⟩
 obtain ⟨x5, h5⟩ : ∃ x, aw K.po 0 5 = x := ⟨_, rfl⟩
 obtain ⟨x6, h6⟩ : ∃ x, aw K.un 1 247 = x := ⟨_, rfl⟩
 obtain ⟨x7, h7⟩ : ∃ x, aw K.nu 0 65535 = x := ⟨_, rfl⟩
 obtain ⟨x0, h0⟩ : ∃ x, K.bk = x := ⟨_, rfl⟩
 obtain ⟨x1, h1⟩ : ∃ x, jd K.a = x := ⟨_, rfl⟩
 obtain ⟨x2, h2⟩ : ∃ x, lY K.q = x := ⟨_, rfl⟩
 obtain ⟨x3, h3⟩ : ∃ x, eK K.q = x := ⟨_, rfl⟩
 obtain ⟨x4, h4⟩ : ∃ x, fk K.a = x := ⟨_, rfl⟩
 have hf : dm K = ((x5 && x6) && (x7 && bif x0 then x1 && x2 else x3 && x4)) := by unfold dm lZ; rw [h0, h1, h2, h3, h4, h5, h6, h7]
 rw [hf]
 have HX : Hid (jd K.a = x1 /\ lY K.q = x2 /\ eK K.q = x3 /\ fk K.a = x4 /\ aw K.po 0 5 = x5 /\ aw K.un 1 247 = x6 /\ aw K.nu 0 65535 = x7) := ⟨h1, h2, h3, h4, h5, h6, h7⟩
 obtain ⟨⟨y0, y1, y2, y3, y4, y5, y6, y7, y8, y9, y10, y11, y12, y13, y14, y15⟩, yf⟩ := HE.out.1.tc16
 rw [h0] at y0
 clear hf h0 h1 h2 h3 h4 h5 h6 h7 h hq ha yf bW
 go_enter func67, ntmps67
 go_upto_region 1 with fail
 rw [<- hW]
 clear hW
 go_wp2_with fail
 refine (aE _ _ _ _ _ HX.out.2.2.2.2.1).mono ?_
 rintro e w1 ⟨rfl, hw⟩
 have hw := hw.symm
 subst hw
 cases x5 with
 | false =>
  have B9 := HE.out.2.1
  clear HE HX
  go_wp2
  go_ret
  exact ⟨rfl, B9⟩
 | true =>
 go_wp2_with fail
 refine (aE _ _ _ _ _ HX.out.2.2.2.2.2.1).mono ?_
 rintro e w1 ⟨rfl, hw⟩
 have hw := hw.symm
 subst hw
 cases x6 with
 | false =>
  have B9 := HE.out.2.1
  clear HE HX
  go_wp2
  go_ret
  exact ⟨rfl, B9⟩
 | true =>
 go_wp2_with fail
 refine (aE _ _ _ _ _ HX.out.2.2.2.2.2.2).mono ?_
 rintro e w1 ⟨rfl, hw⟩
 have hw := hw.symm
 subst hw
 cases x7 with
 | false =>
  have B9 := HE.out.2.1
  clear HE HX
  go_wp2
  go_ret
  exact ⟨rfl, B9⟩
 | true =>
 cases x0 with
 | true =>
  go_wp2_with fail
  refine (tg K.a b3 c3 b4 c4 _ HE.out.2.2.2.2.2.2.1 HE.out.2.2.2.2.2.2.2 HE.out.2.2.2.1).mono ?_
  rintro e w1 ⟨rfl, bb⟩
  rw [HX.out.1]
  have B1 : Hid (Below W.heap.size W w1) := bb
  clear bb y0 y1 y2 y3 y4 y5 y6 y7 y8 y9 y10 y11 y12 y13 y14 y15
  cases x1
  case false =>
   have B9 := ae HE.out.2.1 B1.out
   clear HE HX B1
   go_wp2
   go_ret
   exact ⟨rfl, B9⟩
  obtain ⟨⟨y0, y1, y2, y3, y4, y5, y6, y7, y8, y9, y10, y11, y12, y13, y14, y15⟩, yf⟩ := (HE.out.1.below B1.out).tc16
  clear yf
  go_wp2_with fail
  refine (th K.q b1 c1 b2 c2 _).mono ?_
  rintro e w2 ⟨rfl, bb⟩
  rw [HX.out.2.1]
  have B9 := ae HE.out.2.1 (ae B1.out bb)
  clear bb y0 y1 y2 y3 y4 y5 y6 y7 y8 y9 y10 y11 y12 y13 y14 y15 HE HX B1
  go_wp2
  go_ret
  exact ⟨rfl, B9⟩
 | false =>
  go_wp2_with fail
  refine (kk K.q b1 _ c1 b2 _ c2 _ HE.out.2.2.2.2.1 HE.out.2.2.2.2.2.1 HE.out.2.2.1).mono ?_
  rintro e w1 ⟨rfl, bb⟩
  rw [HX.out.2.2.1]
  have B1 : Hid (Below W.heap.size W w1) := bb
  clear bb y0 y1 y2 y3 y4 y5 y6 y7 y8 y9 y10 y11 y12 y13 y14 y15
  cases x3
  case false =>
   have B9 := ae HE.out.2.1 B1.out
   clear HE HX B1
   go_wp2
   go_ret
   exact ⟨rfl, B9⟩
  obtain ⟨⟨y0, y1, y2, y3, y4, y5, y6, y7, y8, y9, y10, y11, y12, y13, y14, y15⟩, yf⟩ := (HE.out.1.below B1.out).tc16
  clear yf
  go_wp2_with fail
  refine (jI K.a b3 c3 b4 c4 _).mono ?_
  rintro e w2 ⟨rfl, bb⟩
  rw [HX.out.2.2.2.1]
  have B9 := ae HE.out.2.1 (ae B1.out bb)
  clear bb y0 y1 y2 y3 y4 y5 y6 y7 y8 y9 y10 y11 y12 y13 y14 y15 HE HX B1
  go_wp2
  go_ret
  exact ⟨rfl, B9⟩
end Go.Proofs.YtplaoagcedgdfaaGreat
