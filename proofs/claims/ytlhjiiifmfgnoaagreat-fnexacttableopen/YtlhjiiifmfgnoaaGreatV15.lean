/- Texts that the proof needs, joined: S2. -/
import Derived.Test.YtlhjiiifmfgnoaaGreatV11
set_option linter.unusedVariables false
set_option linter.unusedSimpArgs false
set_option maxHeartbeats 2000000
set_option maxRecDepth 20000
namespace Go.Proofs.YtlhjiiifmfgnoaaGreat
open Go.RowKit
theorem specSuits_1 (pl nn wa : Int) (q1 q2 : Option Addr) (m1 m2 k1 k2 : Nat) (qs : List Int) (qb : List Bool) (ap an : Int) (a1 a2 : Option Addr) (l1 l2 c1 c2 : Nat) (ws : List Int) (bs : List Bool) (w : World) (g1 : m1 = qs.length) (g2 : m2 = qb.length) (t1 : SlI w q1 qs) (t2 : SlB w q2 qb) (hm1 : qs.length <= 2000000) (hm2 : qb.length <= 2000000) (h1 : l1 = ws.length) (h2 : l2 = bs.length) (s1 : SlI w a1 ws) (s2 : SlB w a2 bs) (hl1 : ws.length <= 2000000) (hl2 : bs.length <= 2000000) (hq : okR 1 pl nn wa qs m1 m2 = true) (ha : okA 1 0 ap an ws l1 l2 = true) :
 Calls Tryz.prog 50 #[rq 1 pl nn wa q1 q2 m1 m2 k1 k2, rp 1 0 ap an a1 a2 l1 l2 c1 c2] w fun e w' => e = .returned (.bool (anB 1 pl nn m1 m2 qs qb ap an l1 l2 ws bs)) /\ Below w.heap.size w w' := by
 obtain ⟨W0, hW0⟩ : ∃ W0, W0 = (w.alloc (.cells #[.int .i64 1, .int .i64 pl, .int .i64 nn, .slice q1 m1 k1, .slice q2 m2 k2, .int .i64 wa] 39)).alloc (.cells #[.int .i64 1, .int .i64 0, .int .i64 ap, .int .i64 an, .slice a1 l1 c1, .slice a2 l2 c2] 89) := ⟨_, rfl⟩
 have HW : Hid (W0 = _) := hW0
 have B0 : Below w.heap.size w W0 := by rw [hW0]; exact bel_next (bel_alloc w _) (bel_alloc _ _)
 have X0 : Blk W0 w.heap.size 39 #[.int .i64 1, .int .i64 pl, .int .i64 nn, .slice q1 m1 k1, .slice q2 m2 k2, .int .i64 wa] := by rw [hW0]; exact (Blk.new w _ _).below (bel_alloc _ _)
 have Y0 : Blk W0 (w.heap.size + 1) 89 #[.int .i64 1, .int .i64 0, .int .i64 ap, .int .i64 an, .slice a1 l1 c1, .slice a2 l2 c2] := by
  rw [hW0]; have := Blk.new (w.alloc (.cells #[.int .i64 1, .int .i64 pl, .int .i64 nn, .slice q1 m1 k1, .slice q2 m2 k2, .int .i64 wa] 39)) #[.int .i64 1, .int .i64 0, .int .i64 ap, .int .i64 an, .slice a1 l1 c1, .slice a2 l2 c2] 89; simpa using this
 have HL : Hid (m1 = qs.length /\ m2 = qb.length /\ l1 = ws.length /\ l2 = bs.length) := ⟨g1, g2, h1, h2⟩
 have HS : Hid (SlI W0 q1 qs /\ SlB W0 q2 qb /\ SlI W0 a1 ws /\ SlB W0 a2 bs) := ⟨t1.below B0, t2.below B0, s1.below B0, s2.below B0⟩
 obtain ⟨x0, x1, x2, x3, x4, x5⟩ := X0.six
 obtain ⟨y0, y1, y2, y3, y4, y5⟩ := Y0.six
 clear hW0 g1 g2 h1 h2 t1 t2 s1 s2
 have HQ : Hid (okR 1 pl nn wa qs m1 m2 = true) := hq
 have HA : Hid (okA 1 0 ap an ws l1 l2 = true) := ha
 have hN : 1 <= nn /\ nn <= 2000 := by simp [okR, okK, zrB, inB, fitB] at hq; omega
 have hB : 1 <= l2 /\ l2 <= 2000 := by simp [okA, okAK, kindB, inB, zr4] at ha; omega
 obtain ⟨N, rfl⟩ : ∃ N : Nat, nn = (N : Int) := ⟨nn.toNat, by omega⟩
 clear hq ha
 go_enter Tryz.func50, Tryz.ntmps50
 go_upto_region 1 with fail
 rw [<- HW.out]
 go_wp2_with fail
 refine (specReqOk_q 1 pl (N : Int) wa q1 q2 m1 m2 k1 k2 qs qb _ HL.out.1 HL.out.2.1 HS.out.1 HS.out.2.1 hm1 hm2).mono ?_
 rintro e w1 ⟨he, b'⟩
 rw [HQ.out] at he
 subst he
 have B1 := bel_next B0 b'
 have X1 := X0.below b'
 have Y1 := Y0.below b'
 have HS1 : Hid (SlI w1 q1 qs /\ SlB w1 q2 qb /\ SlI w1 a1 ws /\ SlB w1 a2 bs) := ⟨HS.out.1.below b', HS.out.2.1.below b', HS.out.2.2.1.below b', HS.out.2.2.2.below b'⟩
 clear b' B0 X0 Y0 x0 x1 x2 x3 x4 x5 y0 y1 y2 y3 y4 y5
 obtain ⟨x0, x1, x2, x3, x4, x5⟩ := X1.six
 obtain ⟨y0, y1, y2, y3, y4, y5⟩ := Y1.six
 go_wp2_with fail
 refine (specRespOk_q 1 0 ap an a1 a2 l1 l2 c1 c2 ws bs _ HL.out.2.2.1 HL.out.2.2.2 HS1.out.2.2.1 HS1.out.2.2.2 hl1 hl2).mono ?_
 rintro e w2 ⟨he, b'⟩
 rw [HA.out] at he
 subst he
 have B2 := bel_next B1 b'
 have X2 := X1.below b'
 have Y2 := Y1.below b'
 have HS2 : Hid (SlI w2 q1 qs /\ SlB w2 q2 qb /\ SlI w2 a1 ws /\ SlB w2 a2 bs) := ⟨HS1.out.1.below b', HS1.out.2.1.below b', HS1.out.2.2.1.below b', HS1.out.2.2.2.below b'⟩
 clear b' B1 X1 Y1 x0 x1 x2 x3 x4 x5 y0 y1 y2 y3 y4 y5
 obtain ⟨x0, x1, x2, x3, x4, x5⟩ := X2.six
 obtain ⟨y0, y1, y2, y3, y4, y5⟩ := Y2.six
 go_wp2_with fail
 go_loopw [5] (fun i wr => ∃ k : Nat, N <= k /\ i = .int .i64 k /\ (∀ j, N <= j -> j < k -> j < bs.length -> bs.getD j false = false) /\ wr = w2) (fun i _ => l2 - (intOf i).toNat)
 case atStart => exact ⟨N, Nat.le_refl _, rfl, fun j h1 h2 _ => by omega, rfl⟩
 case round =>
  obtain ⟨k, hk, rfl, hz, rfl⟩ := hrel
  have HZ : Hid (∀ j, N <= j -> j < k -> j < bs.length -> bs.getD j false = false) := hz
  clear hz
  by_cases hlt : k < l2
  ·have hi : (k : Int) < (l2 : Int) := by omega
   obtain ⟨b, off, rfl, _, hc⟩ := cell_atB HS2.out.2.2.2 (show k < bs.length by have := HL.out; omega)
   cases hx : bs.getD k false
   ·rw [hx] at hc
    have HN : Hid (∀ j, N <= j -> j < k + 1 -> j < bs.length -> bs.getD j false = false) := by
     intro j h1 h2 h3
     by_cases h : j < k
     ·exact HZ.out j h1 h h3
     rw [show j = k by omega]; exact hx
    clear hx
    go_wp2
    go_roundw
    case rel => exact ⟨k + 1, by omega, by go_num, HN.out, trivial⟩
    case measure => simp [intOf]; omega
   rw [hx] at hc
   have HX : Hid (anB 1 pl (N : Int) m1 m2 qs qb ap an l1 l2 ws bs = false) := by show _ = false; have h : nfB bs N = false := nfB_no hk (by have := HL.out; omega) hx; simp [anB, h]
   clear hx
   go_wp2
   go_ret
   exact ⟨by rw [HX.out]; rfl, B2⟩
  have HX : Hid (nfB bs N = true) := decide_eq_true (fun j hj h => HZ.out j h (by have := HL.out; omega) hj)
  by_cases he : l2 = (N + 7) / 8 * 8
  ·have hei : ((l2 : Int) == ((N : Int) + 7) / 8 * 8) = true := by simp; omega
   have HE : Hid (anB 1 pl (N : Int) m1 m2 qs qb ap an l1 l2 ws bs = true) := by show _ = true; have h1 := HX.out; simp [anB]; exact ⟨by simpa using h1, he⟩
   clear he
   go_wp2
   go_ret
   exact ⟨by rw [HE.out]; first | rfl | simp [hei], B2⟩
  have hei : ((l2 : Int) == ((N : Int) + 7) / 8 * 8) = false := by simp; omega
  have HE : Hid (anB 1 pl (N : Int) m1 m2 qs qb ap an l1 l2 ws bs = false) := by show _ = false; simp [anB, he]
  clear he
  go_wp2
  go_ret
  exact ⟨by rw [HE.out]; first | rfl | simp [hei], B2⟩
theorem specSuits_2 (pl nn wa : Int) (q1 q2 : Option Addr) (m1 m2 k1 k2 : Nat) (qs : List Int) (qb : List Bool) (ap an : Int) (a1 a2 : Option Addr) (l1 l2 c1 c2 : Nat) (ws : List Int) (bs : List Bool) (w : World) (g1 : m1 = qs.length) (g2 : m2 = qb.length) (t1 : SlI w q1 qs) (t2 : SlB w q2 qb) (hm1 : qs.length <= 2000000) (hm2 : qb.length <= 2000000) (h1 : l1 = ws.length) (h2 : l2 = bs.length) (s1 : SlI w a1 ws) (s2 : SlB w a2 bs) (hl1 : ws.length <= 2000000) (hl2 : bs.length <= 2000000) (hq : okR 2 pl nn wa qs m1 m2 = true) (ha : okA 2 0 ap an ws l1 l2 = true) :
 Calls Tryz.prog 50 #[rq 2 pl nn wa q1 q2 m1 m2 k1 k2, rp 2 0 ap an a1 a2 l1 l2 c1 c2] w fun e w' => e = .returned (.bool (anB 2 pl nn m1 m2 qs qb ap an l1 l2 ws bs)) /\ Below w.heap.size w w' := by
 obtain ⟨W0, hW0⟩ : ∃ W0, W0 = (w.alloc (.cells #[.int .i64 2, .int .i64 pl, .int .i64 nn, .slice q1 m1 k1, .slice q2 m2 k2, .int .i64 wa] 39)).alloc (.cells #[.int .i64 2, .int .i64 0, .int .i64 ap, .int .i64 an, .slice a1 l1 c1, .slice a2 l2 c2] 89) := ⟨_, rfl⟩
 have HW : Hid (W0 = _) := hW0
 have B0 : Below w.heap.size w W0 := by rw [hW0]; exact bel_next (bel_alloc w _) (bel_alloc _ _)
 have X0 : Blk W0 w.heap.size 39 #[.int .i64 2, .int .i64 pl, .int .i64 nn, .slice q1 m1 k1, .slice q2 m2 k2, .int .i64 wa] := by rw [hW0]; exact (Blk.new w _ _).below (bel_alloc _ _)
 have Y0 : Blk W0 (w.heap.size + 1) 89 #[.int .i64 2, .int .i64 0, .int .i64 ap, .int .i64 an, .slice a1 l1 c1, .slice a2 l2 c2] := by
  rw [hW0]; have := Blk.new (w.alloc (.cells #[.int .i64 2, .int .i64 pl, .int .i64 nn, .slice q1 m1 k1, .slice q2 m2 k2, .int .i64 wa] 39)) #[.int .i64 2, .int .i64 0, .int .i64 ap, .int .i64 an, .slice a1 l1 c1, .slice a2 l2 c2] 89; simpa using this
 have HL : Hid (m1 = qs.length /\ m2 = qb.length /\ l1 = ws.length /\ l2 = bs.length) := ⟨g1, g2, h1, h2⟩
 have HS : Hid (SlI W0 q1 qs /\ SlB W0 q2 qb /\ SlI W0 a1 ws /\ SlB W0 a2 bs) := ⟨t1.below B0, t2.below B0, s1.below B0, s2.below B0⟩
 obtain ⟨x0, x1, x2, x3, x4, x5⟩ := X0.six
 obtain ⟨y0, y1, y2, y3, y4, y5⟩ := Y0.six
 clear hW0 g1 g2 h1 h2 t1 t2 s1 s2
 have HQ : Hid (okR 2 pl nn wa qs m1 m2 = true) := hq
 have HA : Hid (okA 2 0 ap an ws l1 l2 = true) := ha
 have hN : 1 <= nn /\ nn <= 2000 := by simp [okR, okK, zrB, inB, fitB] at hq; omega
 have hB : 1 <= l2 /\ l2 <= 2000 := by simp [okA, okAK, kindB, inB, zr4] at ha; omega
 obtain ⟨N, rfl⟩ : ∃ N : Nat, nn = (N : Int) := ⟨nn.toNat, by omega⟩
 clear hq ha
 go_enter Tryz.func50, Tryz.ntmps50
 go_upto_region 1 with fail
 rw [<- HW.out]
 go_wp2_with fail
 refine (specReqOk_q 2 pl (N : Int) wa q1 q2 m1 m2 k1 k2 qs qb _ HL.out.1 HL.out.2.1 HS.out.1 HS.out.2.1 hm1 hm2).mono ?_
 rintro e w1 ⟨he, b'⟩
 rw [HQ.out] at he
 subst he
 have B1 := bel_next B0 b'
 have X1 := X0.below b'
 have Y1 := Y0.below b'
 have HS1 : Hid (SlI w1 q1 qs /\ SlB w1 q2 qb /\ SlI w1 a1 ws /\ SlB w1 a2 bs) := ⟨HS.out.1.below b', HS.out.2.1.below b', HS.out.2.2.1.below b', HS.out.2.2.2.below b'⟩
 clear b' B0 X0 Y0 x0 x1 x2 x3 x4 x5 y0 y1 y2 y3 y4 y5
 obtain ⟨x0, x1, x2, x3, x4, x5⟩ := X1.six
 obtain ⟨y0, y1, y2, y3, y4, y5⟩ := Y1.six
 go_wp2_with fail
 refine (specRespOk_q 2 0 ap an a1 a2 l1 l2 c1 c2 ws bs _ HL.out.2.2.1 HL.out.2.2.2 HS1.out.2.2.1 HS1.out.2.2.2 hl1 hl2).mono ?_
 rintro e w2 ⟨he, b'⟩
 rw [HA.out] at he
 subst he
 have B2 := bel_next B1 b'
 have X2 := X1.below b'
 have Y2 := Y1.below b'
 have HS2 : Hid (SlI w2 q1 qs /\ SlB w2 q2 qb /\ SlI w2 a1 ws /\ SlB w2 a2 bs) := ⟨HS1.out.1.below b', HS1.out.2.1.below b', HS1.out.2.2.1.below b', HS1.out.2.2.2.below b'⟩
 clear b' B1 X1 Y1 x0 x1 x2 x3 x4 x5 y0 y1 y2 y3 y4 y5
 obtain ⟨x0, x1, x2, x3, x4, x5⟩ := X2.six
 obtain ⟨y0, y1, y2, y3, y4, y5⟩ := Y2.six
 go_wp2_with fail
 go_loopw [5] (fun i wr => ∃ k : Nat, N <= k /\ i = .int .i64 k /\ (∀ j, N <= j -> j < k -> j < bs.length -> bs.getD j false = false) /\ wr = w2) (fun i _ => l2 - (intOf i).toNat)
 case atStart => exact ⟨N, Nat.le_refl _, rfl, fun j h1 h2 _ => by omega, rfl⟩
 case round =>
  obtain ⟨k, hk, rfl, hz, rfl⟩ := hrel
  have HZ : Hid (∀ j, N <= j -> j < k -> j < bs.length -> bs.getD j false = false) := hz
  clear hz
  by_cases hlt : k < l2
  ·have hi : (k : Int) < (l2 : Int) := by omega
   obtain ⟨b, off, rfl, _, hc⟩ := cell_atB HS2.out.2.2.2 (show k < bs.length by have := HL.out; omega)
   cases hx : bs.getD k false
   ·rw [hx] at hc
    have HN : Hid (∀ j, N <= j -> j < k + 1 -> j < bs.length -> bs.getD j false = false) := by
     intro j h1 h2 h3
     by_cases h : j < k
     ·exact HZ.out j h1 h h3
     rw [show j = k by omega]; exact hx
    clear hx
    go_wp2
    go_roundw
    case rel => exact ⟨k + 1, by omega, by go_num, HN.out, trivial⟩
    case measure => simp [intOf]; omega
   rw [hx] at hc
   have HX : Hid (anB 2 pl (N : Int) m1 m2 qs qb ap an l1 l2 ws bs = false) := by show _ = false; have h : nfB bs N = false := nfB_no hk (by have := HL.out; omega) hx; simp [anB, h]
   clear hx
   go_wp2
   go_ret
   exact ⟨by rw [HX.out]; rfl, B2⟩
  have HX : Hid (nfB bs N = true) := decide_eq_true (fun j hj h => HZ.out j h (by have := HL.out; omega) hj)
  by_cases he : l2 = (N + 7) / 8 * 8
  ·have hei : ((l2 : Int) == ((N : Int) + 7) / 8 * 8) = true := by simp; omega
   have HE : Hid (anB 2 pl (N : Int) m1 m2 qs qb ap an l1 l2 ws bs = true) := by show _ = true; have h1 := HX.out; simp [anB]; exact ⟨by simpa using h1, he⟩
   clear he
   go_wp2
   go_ret
   exact ⟨by rw [HE.out]; first | rfl | simp [hei], B2⟩
  have hei : ((l2 : Int) == ((N : Int) + 7) / 8 * 8) = false := by simp; omega
  have HE : Hid (anB 2 pl (N : Int) m1 m2 qs qb ap an l1 l2 ws bs = false) := by show _ = false; simp [anB, he]
  clear he
  go_wp2
  go_ret
  exact ⟨by rw [HE.out]; first | rfl | simp [hei], B2⟩
theorem specSuits_3 (pl nn wa : Int) (q1 q2 : Option Addr) (m1 m2 k1 k2 : Nat) (qs : List Int) (qb : List Bool) (ap an : Int) (a1 a2 : Option Addr) (l1 l2 c1 c2 : Nat) (ws : List Int) (bs : List Bool) (w : World) (g1 : m1 = qs.length) (g2 : m2 = qb.length) (t1 : SlI w q1 qs) (t2 : SlB w q2 qb) (hm1 : qs.length <= 2000000) (hm2 : qb.length <= 2000000) (h1 : l1 = ws.length) (h2 : l2 = bs.length) (s1 : SlI w a1 ws) (s2 : SlB w a2 bs) (hl1 : ws.length <= 2000000) (hl2 : bs.length <= 2000000) (hq : okR 3 pl nn wa qs m1 m2 = true) (ha : okA 3 0 ap an ws l1 l2 = true) :
 Calls Tryz.prog 50 #[rq 3 pl nn wa q1 q2 m1 m2 k1 k2, rp 3 0 ap an a1 a2 l1 l2 c1 c2] w fun e w' => e = .returned (.bool (anB 3 pl nn m1 m2 qs qb ap an l1 l2 ws bs)) /\ Below w.heap.size w w' := by
 obtain ⟨W0, hW0⟩ : ∃ W0, W0 = (w.alloc (.cells #[.int .i64 3, .int .i64 pl, .int .i64 nn, .slice q1 m1 k1, .slice q2 m2 k2, .int .i64 wa] 39)).alloc (.cells #[.int .i64 3, .int .i64 0, .int .i64 ap, .int .i64 an, .slice a1 l1 c1, .slice a2 l2 c2] 89) := ⟨_, rfl⟩
 have HW : Hid (W0 = _) := hW0
 have B0 : Below w.heap.size w W0 := by rw [hW0]; exact bel_next (bel_alloc w _) (bel_alloc _ _)
 have X0 : Blk W0 w.heap.size 39 #[.int .i64 3, .int .i64 pl, .int .i64 nn, .slice q1 m1 k1, .slice q2 m2 k2, .int .i64 wa] := by rw [hW0]; exact (Blk.new w _ _).below (bel_alloc _ _)
 have Y0 : Blk W0 (w.heap.size + 1) 89 #[.int .i64 3, .int .i64 0, .int .i64 ap, .int .i64 an, .slice a1 l1 c1, .slice a2 l2 c2] := by
  rw [hW0]; have := Blk.new (w.alloc (.cells #[.int .i64 3, .int .i64 pl, .int .i64 nn, .slice q1 m1 k1, .slice q2 m2 k2, .int .i64 wa] 39)) #[.int .i64 3, .int .i64 0, .int .i64 ap, .int .i64 an, .slice a1 l1 c1, .slice a2 l2 c2] 89; simpa using this
 have HL : Hid (m1 = qs.length /\ m2 = qb.length /\ l1 = ws.length /\ l2 = bs.length) := ⟨g1, g2, h1, h2⟩
 have HS : Hid (SlI W0 q1 qs /\ SlB W0 q2 qb /\ SlI W0 a1 ws /\ SlB W0 a2 bs) := ⟨t1.below B0, t2.below B0, s1.below B0, s2.below B0⟩
 obtain ⟨x0, x1, x2, x3, x4, x5⟩ := X0.six
 obtain ⟨y0, y1, y2, y3, y4, y5⟩ := Y0.six
 clear hW0 g1 g2 h1 h2 t1 t2 s1 s2
 have HQ : Hid (okR 3 pl nn wa qs m1 m2 = true) := hq
 have HA : Hid (okA 3 0 ap an ws l1 l2 = true) := ha
 clear hq ha
 by_cases he : (l1 : Int) = nn
 ·have hei : ((l1 : Int) == nn) = true := by simp [he]
  have HE : Hid (anB 3 pl nn m1 m2 qs qb ap an l1 l2 ws bs = true) := by show _ = true; simp [anB, he]
  have HEQ : Hid ((l1 : Int) = nn) := he
  clear he
  go_enter Tryz.func50, Tryz.ntmps50
  go_upto_region 1 with fail
  rw [<- HW.out]
  go_wp2_with fail
  refine (specReqOk_q 3 pl nn wa q1 q2 m1 m2 k1 k2 qs qb _ HL.out.1 HL.out.2.1 HS.out.1 HS.out.2.1 hm1 hm2).mono ?_
  rintro e w1 ⟨he, b'⟩
  rw [HQ.out] at he
  subst he
  have B1 := bel_next B0 b'
  have X1 := X0.below b'
  have Y1 := Y0.below b'
  have HS1 : Hid (SlI w1 q1 qs /\ SlB w1 q2 qb /\ SlI w1 a1 ws /\ SlB w1 a2 bs) := ⟨HS.out.1.below b', HS.out.2.1.below b', HS.out.2.2.1.below b', HS.out.2.2.2.below b'⟩
  clear b' B0 X0 Y0 x0 x1 x2 x3 x4 x5 y0 y1 y2 y3 y4 y5
  obtain ⟨x0, x1, x2, x3, x4, x5⟩ := X1.six
  obtain ⟨y0, y1, y2, y3, y4, y5⟩ := Y1.six
  go_wp2_with fail
  refine (specRespOk_q 3 0 ap an a1 a2 l1 l2 c1 c2 ws bs _ HL.out.2.2.1 HL.out.2.2.2 HS1.out.2.2.1 HS1.out.2.2.2 hl1 hl2).mono ?_
  rintro e w2 ⟨he, b'⟩
  rw [HA.out] at he
  subst he
  have B2 := bel_next B1 b'
  have X2 := X1.below b'
  have Y2 := Y1.below b'
  have HS2 : Hid (SlI w2 q1 qs /\ SlB w2 q2 qb /\ SlI w2 a1 ws /\ SlB w2 a2 bs) := ⟨HS1.out.1.below b', HS1.out.2.1.below b', HS1.out.2.2.1.below b', HS1.out.2.2.2.below b'⟩
  clear b' B1 X1 Y1 x0 x1 x2 x3 x4 x5 y0 y1 y2 y3 y4 y5
  obtain ⟨x0, x1, x2, x3, x4, x5⟩ := X2.six
  obtain ⟨y0, y1, y2, y3, y4, y5⟩ := Y2.six
  go_wp2
  go_ret
  exact ⟨by rw [HE.out]; first | rfl | simp [hei], B2⟩
 have hei : ((l1 : Int) == nn) = false := by simp [he]
 have HE : Hid (anB 3 pl nn m1 m2 qs qb ap an l1 l2 ws bs = false) := by show _ = false; simp [anB, he]
 clear he
 go_enter Tryz.func50, Tryz.ntmps50
 go_upto_region 1 with fail
 rw [<- HW.out]
 go_wp2_with fail
 refine (specReqOk_q 3 pl nn wa q1 q2 m1 m2 k1 k2 qs qb _ HL.out.1 HL.out.2.1 HS.out.1 HS.out.2.1 hm1 hm2).mono ?_
 rintro e w1 ⟨he, b'⟩
 rw [HQ.out] at he
 subst he
 have B1 := bel_next B0 b'
 have X1 := X0.below b'
 have Y1 := Y0.below b'
 have HS1 : Hid (SlI w1 q1 qs /\ SlB w1 q2 qb /\ SlI w1 a1 ws /\ SlB w1 a2 bs) := ⟨HS.out.1.below b', HS.out.2.1.below b', HS.out.2.2.1.below b', HS.out.2.2.2.below b'⟩
 clear b' B0 X0 Y0 x0 x1 x2 x3 x4 x5 y0 y1 y2 y3 y4 y5
 obtain ⟨x0, x1, x2, x3, x4, x5⟩ := X1.six
 obtain ⟨y0, y1, y2, y3, y4, y5⟩ := Y1.six
 go_wp2_with fail
 refine (specRespOk_q 3 0 ap an a1 a2 l1 l2 c1 c2 ws bs _ HL.out.2.2.1 HL.out.2.2.2 HS1.out.2.2.1 HS1.out.2.2.2 hl1 hl2).mono ?_
 rintro e w2 ⟨he, b'⟩
 rw [HA.out] at he
 subst he
 have B2 := bel_next B1 b'
 have X2 := X1.below b'
 have Y2 := Y1.below b'
 have HS2 : Hid (SlI w2 q1 qs /\ SlB w2 q2 qb /\ SlI w2 a1 ws /\ SlB w2 a2 bs) := ⟨HS1.out.1.below b', HS1.out.2.1.below b', HS1.out.2.2.1.below b', HS1.out.2.2.2.below b'⟩
 clear b' B1 X1 Y1 x0 x1 x2 x3 x4 x5 y0 y1 y2 y3 y4 y5
 obtain ⟨x0, x1, x2, x3, x4, x5⟩ := X2.six
 obtain ⟨y0, y1, y2, y3, y4, y5⟩ := Y2.six
 go_wp2
 go_ret
 exact ⟨by rw [HE.out]; first | rfl | simp [hei], B2⟩
theorem specSuits_4 (pl nn wa : Int) (q1 q2 : Option Addr) (m1 m2 k1 k2 : Nat) (qs : List Int) (qb : List Bool) (ap an : Int) (a1 a2 : Option Addr) (l1 l2 c1 c2 : Nat) (ws : List Int) (bs : List Bool) (w : World) (g1 : m1 = qs.length) (g2 : m2 = qb.length) (t1 : SlI w q1 qs) (t2 : SlB w q2 qb) (hm1 : qs.length <= 2000000) (hm2 : qb.length <= 2000000) (h1 : l1 = ws.length) (h2 : l2 = bs.length) (s1 : SlI w a1 ws) (s2 : SlB w a2 bs) (hl1 : ws.length <= 2000000) (hl2 : bs.length <= 2000000) (hq : okR 4 pl nn wa qs m1 m2 = true) (ha : okA 4 0 ap an ws l1 l2 = true) :
 Calls Tryz.prog 50 #[rq 4 pl nn wa q1 q2 m1 m2 k1 k2, rp 4 0 ap an a1 a2 l1 l2 c1 c2] w fun e w' => e = .returned (.bool (anB 4 pl nn m1 m2 qs qb ap an l1 l2 ws bs)) /\ Below w.heap.size w w' := by
 obtain ⟨W0, hW0⟩ : ∃ W0, W0 = (w.alloc (.cells #[.int .i64 4, .int .i64 pl, .int .i64 nn, .slice q1 m1 k1, .slice q2 m2 k2, .int .i64 wa] 39)).alloc (.cells #[.int .i64 4, .int .i64 0, .int .i64 ap, .int .i64 an, .slice a1 l1 c1, .slice a2 l2 c2] 89) := ⟨_, rfl⟩
 have HW : Hid (W0 = _) := hW0
 have B0 : Below w.heap.size w W0 := by rw [hW0]; exact bel_next (bel_alloc w _) (bel_alloc _ _)
 have X0 : Blk W0 w.heap.size 39 #[.int .i64 4, .int .i64 pl, .int .i64 nn, .slice q1 m1 k1, .slice q2 m2 k2, .int .i64 wa] := by rw [hW0]; exact (Blk.new w _ _).below (bel_alloc _ _)
 have Y0 : Blk W0 (w.heap.size + 1) 89 #[.int .i64 4, .int .i64 0, .int .i64 ap, .int .i64 an, .slice a1 l1 c1, .slice a2 l2 c2] := by
  rw [hW0]; have := Blk.new (w.alloc (.cells #[.int .i64 4, .int .i64 pl, .int .i64 nn, .slice q1 m1 k1, .slice q2 m2 k2, .int .i64 wa] 39)) #[.int .i64 4, .int .i64 0, .int .i64 ap, .int .i64 an, .slice a1 l1 c1, .slice a2 l2 c2] 89; simpa using this
 have HL : Hid (m1 = qs.length /\ m2 = qb.length /\ l1 = ws.length /\ l2 = bs.length) := ⟨g1, g2, h1, h2⟩
 have HS : Hid (SlI W0 q1 qs /\ SlB W0 q2 qb /\ SlI W0 a1 ws /\ SlB W0 a2 bs) := ⟨t1.below B0, t2.below B0, s1.below B0, s2.below B0⟩
 obtain ⟨x0, x1, x2, x3, x4, x5⟩ := X0.six
 obtain ⟨y0, y1, y2, y3, y4, y5⟩ := Y0.six
 clear hW0 g1 g2 h1 h2 t1 t2 s1 s2
 have HQ : Hid (okR 4 pl nn wa qs m1 m2 = true) := hq
 have HA : Hid (okA 4 0 ap an ws l1 l2 = true) := ha
 clear hq ha
 by_cases he : (l1 : Int) = nn
 ·have hei : ((l1 : Int) == nn) = true := by simp [he]
  have HE : Hid (anB 4 pl nn m1 m2 qs qb ap an l1 l2 ws bs = true) := by show _ = true; simp [anB, he]
  have HEQ : Hid ((l1 : Int) = nn) := he
  clear he
  go_enter Tryz.func50, Tryz.ntmps50
  go_upto_region 1 with fail
  rw [<- HW.out]
  go_wp2_with fail
  refine (specReqOk_q 4 pl nn wa q1 q2 m1 m2 k1 k2 qs qb _ HL.out.1 HL.out.2.1 HS.out.1 HS.out.2.1 hm1 hm2).mono ?_
  rintro e w1 ⟨he, b'⟩
  rw [HQ.out] at he
  subst he
  have B1 := bel_next B0 b'
  have X1 := X0.below b'
  have Y1 := Y0.below b'
  have HS1 : Hid (SlI w1 q1 qs /\ SlB w1 q2 qb /\ SlI w1 a1 ws /\ SlB w1 a2 bs) := ⟨HS.out.1.below b', HS.out.2.1.below b', HS.out.2.2.1.below b', HS.out.2.2.2.below b'⟩
  clear b' B0 X0 Y0 x0 x1 x2 x3 x4 x5 y0 y1 y2 y3 y4 y5
  obtain ⟨x0, x1, x2, x3, x4, x5⟩ := X1.six
  obtain ⟨y0, y1, y2, y3, y4, y5⟩ := Y1.six
  go_wp2_with fail
  refine (specRespOk_q 4 0 ap an a1 a2 l1 l2 c1 c2 ws bs _ HL.out.2.2.1 HL.out.2.2.2 HS1.out.2.2.1 HS1.out.2.2.2 hl1 hl2).mono ?_
  rintro e w2 ⟨he, b'⟩
  rw [HA.out] at he
  subst he
  have B2 := bel_next B1 b'
  have X2 := X1.below b'
  have Y2 := Y1.below b'
  have HS2 : Hid (SlI w2 q1 qs /\ SlB w2 q2 qb /\ SlI w2 a1 ws /\ SlB w2 a2 bs) := ⟨HS1.out.1.below b', HS1.out.2.1.below b', HS1.out.2.2.1.below b', HS1.out.2.2.2.below b'⟩
  clear b' B1 X1 Y1 x0 x1 x2 x3 x4 x5 y0 y1 y2 y3 y4 y5
  obtain ⟨x0, x1, x2, x3, x4, x5⟩ := X2.six
  obtain ⟨y0, y1, y2, y3, y4, y5⟩ := Y2.six
  go_wp2
  go_ret
  exact ⟨by rw [HE.out]; first | rfl | simp [hei], B2⟩
 have hei : ((l1 : Int) == nn) = false := by simp [he]
 have HE : Hid (anB 4 pl nn m1 m2 qs qb ap an l1 l2 ws bs = false) := by show _ = false; simp [anB, he]
 clear he
 go_enter Tryz.func50, Tryz.ntmps50
 go_upto_region 1 with fail
 rw [<- HW.out]
 go_wp2_with fail
 refine (specReqOk_q 4 pl nn wa q1 q2 m1 m2 k1 k2 qs qb _ HL.out.1 HL.out.2.1 HS.out.1 HS.out.2.1 hm1 hm2).mono ?_
 rintro e w1 ⟨he, b'⟩
 rw [HQ.out] at he
 subst he
 have B1 := bel_next B0 b'
 have X1 := X0.below b'
 have Y1 := Y0.below b'
 have HS1 : Hid (SlI w1 q1 qs /\ SlB w1 q2 qb /\ SlI w1 a1 ws /\ SlB w1 a2 bs) := ⟨HS.out.1.below b', HS.out.2.1.below b', HS.out.2.2.1.below b', HS.out.2.2.2.below b'⟩
 clear b' B0 X0 Y0 x0 x1 x2 x3 x4 x5 y0 y1 y2 y3 y4 y5
 obtain ⟨x0, x1, x2, x3, x4, x5⟩ := X1.six
 obtain ⟨y0, y1, y2, y3, y4, y5⟩ := Y1.six
 go_wp2_with fail
 refine (specRespOk_q 4 0 ap an a1 a2 l1 l2 c1 c2 ws bs _ HL.out.2.2.1 HL.out.2.2.2 HS1.out.2.2.1 HS1.out.2.2.2 hl1 hl2).mono ?_
 rintro e w2 ⟨he, b'⟩
 rw [HA.out] at he
 subst he
 have B2 := bel_next B1 b'
 have X2 := X1.below b'
 have Y2 := Y1.below b'
 have HS2 : Hid (SlI w2 q1 qs /\ SlB w2 q2 qb /\ SlI w2 a1 ws /\ SlB w2 a2 bs) := ⟨HS1.out.1.below b', HS1.out.2.1.below b', HS1.out.2.2.1.below b', HS1.out.2.2.2.below b'⟩
 clear b' B1 X1 Y1 x0 x1 x2 x3 x4 x5 y0 y1 y2 y3 y4 y5
 obtain ⟨x0, x1, x2, x3, x4, x5⟩ := X2.six
 obtain ⟨y0, y1, y2, y3, y4, y5⟩ := Y2.six
 go_wp2
 go_ret
 exact ⟨by rw [HE.out]; first | rfl | simp [hei], B2⟩
theorem specSuits_5 (pl nn wa : Int) (q1 q2 : Option Addr) (m1 m2 k1 k2 : Nat) (qs : List Int) (qb : List Bool) (ap an : Int) (a1 a2 : Option Addr) (l1 l2 c1 c2 : Nat) (ws : List Int) (bs : List Bool) (w : World) (g1 : m1 = qs.length) (g2 : m2 = qb.length) (t1 : SlI w q1 qs) (t2 : SlB w q2 qb) (hm1 : qs.length <= 2000000) (hm2 : qb.length <= 2000000) (h1 : l1 = ws.length) (h2 : l2 = bs.length) (s1 : SlI w a1 ws) (s2 : SlB w a2 bs) (hl1 : ws.length <= 2000000) (hl2 : bs.length <= 2000000) (hq : okR 5 pl nn wa qs m1 m2 = true) (ha : okA 5 0 ap an ws l1 l2 = true) :
 Calls Tryz.prog 50 #[rq 5 pl nn wa q1 q2 m1 m2 k1 k2, rp 5 0 ap an a1 a2 l1 l2 c1 c2] w fun e w' => e = .returned (.bool (anB 5 pl nn m1 m2 qs qb ap an l1 l2 ws bs)) /\ Below w.heap.size w w' := by
 obtain ⟨W0, hW0⟩ : ∃ W0, W0 = (w.alloc (.cells #[.int .i64 5, .int .i64 pl, .int .i64 nn, .slice q1 m1 k1, .slice q2 m2 k2, .int .i64 wa] 39)).alloc (.cells #[.int .i64 5, .int .i64 0, .int .i64 ap, .int .i64 an, .slice a1 l1 c1, .slice a2 l2 c2] 89) := ⟨_, rfl⟩
 have HW : Hid (W0 = _) := hW0
 have B0 : Below w.heap.size w W0 := by rw [hW0]; exact bel_next (bel_alloc w _) (bel_alloc _ _)
 have X0 : Blk W0 w.heap.size 39 #[.int .i64 5, .int .i64 pl, .int .i64 nn, .slice q1 m1 k1, .slice q2 m2 k2, .int .i64 wa] := by rw [hW0]; exact (Blk.new w _ _).below (bel_alloc _ _)
 have Y0 : Blk W0 (w.heap.size + 1) 89 #[.int .i64 5, .int .i64 0, .int .i64 ap, .int .i64 an, .slice a1 l1 c1, .slice a2 l2 c2] := by
  rw [hW0]; have := Blk.new (w.alloc (.cells #[.int .i64 5, .int .i64 pl, .int .i64 nn, .slice q1 m1 k1, .slice q2 m2 k2, .int .i64 wa] 39)) #[.int .i64 5, .int .i64 0, .int .i64 ap, .int .i64 an, .slice a1 l1 c1, .slice a2 l2 c2] 89; simpa using this
 have HL : Hid (m1 = qs.length /\ m2 = qb.length /\ l1 = ws.length /\ l2 = bs.length) := ⟨g1, g2, h1, h2⟩
 have HS : Hid (SlI W0 q1 qs /\ SlB W0 q2 qb /\ SlI W0 a1 ws /\ SlB W0 a2 bs) := ⟨t1.below B0, t2.below B0, s1.below B0, s2.below B0⟩
 obtain ⟨x0, x1, x2, x3, x4, x5⟩ := X0.six
 obtain ⟨y0, y1, y2, y3, y4, y5⟩ := Y0.six
 clear hW0 g1 g2 h1 h2 t1 t2 s1 s2
 have HQ : Hid (okR 5 pl nn wa qs m1 m2 = true) := hq
 have HA : Hid (okA 5 0 ap an ws l1 l2 = true) := ha
 obtain rfl : m2 = 1 := by simp [okR, okK, zrB, inB, fitB] at hq; omega
 obtain rfl : l2 = 1 := by simp [okA, okAK, kindB, inB, zr4] at ha; omega
 clear hq ha
 obtain ⟨u, hu⟩ : ∃ u, qb = [u] := by match qb, HL.out.2.1 with | [u], _ => exact ⟨u, rfl⟩
 obtain ⟨v, hv⟩ : ∃ v, bs = [v] := by match bs, HL.out.2.2.2 with | [v], _ => exact ⟨v, rfl⟩
 subst hu hv
 by_cases hA : ap = pl
 ·by_cases he : v = u
  ·have HE : Hid (anB 5 pl nn m1 1 qs [u] ap an l1 1 ws [v] = true) := by show _ = true; simp [anB, hA, he]
   have hvu : (v == u) = true := by cases u <;> cases v <;> simp_all
   clear he
   have hA' := hA.symm
   clear hA
   subst hA'
   go_enter Tryz.func50, Tryz.ntmps50
   go_upto_region 1 with fail
   rw [<- HW.out]
   go_wp2_with fail
   refine (specReqOk_q 5 pl nn wa q1 q2 m1 1 k1 k2 qs [u] _ HL.out.1 HL.out.2.1 HS.out.1 HS.out.2.1 hm1 hm2).mono ?_
   rintro e w1 ⟨he, b'⟩
   rw [HQ.out] at he
   subst he
   have B1 := bel_next B0 b'
   have X1 := X0.below b'
   have Y1 := Y0.below b'
   have HS1 : Hid (SlI w1 q1 qs /\ SlB w1 q2 [u] /\ SlI w1 a1 ws /\ SlB w1 a2 [v]) := ⟨HS.out.1.below b', HS.out.2.1.below b', HS.out.2.2.1.below b', HS.out.2.2.2.below b'⟩
   clear b' B0 X0 Y0 x0 x1 x2 x3 x4 x5 y0 y1 y2 y3 y4 y5
   obtain ⟨x0, x1, x2, x3, x4, x5⟩ := X1.six
   obtain ⟨y0, y1, y2, y3, y4, y5⟩ := Y1.six
   go_wp2_with fail
   refine (specRespOk_q 5 0 pl an a1 a2 l1 1 c1 c2 ws [v] _ HL.out.2.2.1 HL.out.2.2.2 HS1.out.2.2.1 HS1.out.2.2.2 hl1 hl2).mono ?_
   rintro e w2 ⟨he, b'⟩
   rw [HA.out] at he
   subst he
   have B2 := bel_next B1 b'
   have X2 := X1.below b'
   have Y2 := Y1.below b'
   have HS2 : Hid (SlI w2 q1 qs /\ SlB w2 q2 [u] /\ SlI w2 a1 ws /\ SlB w2 a2 [v]) := ⟨HS1.out.1.below b', HS1.out.2.1.below b', HS1.out.2.2.1.below b', HS1.out.2.2.2.below b'⟩
   clear b' B1 X1 Y1 x0 x1 x2 x3 x4 x5 y0 y1 y2 y3 y4 y5
   obtain ⟨x0, x1, x2, x3, x4, x5⟩ := X2.six
   obtain ⟨y0, y1, y2, y3, y4, y5⟩ := Y2.six
   obtain ⟨bq, oq, eq, _, hcq⟩ := cell_atB (k := 0) HS2.out.2.1 (by simp)
   obtain ⟨ba, oa, ea, _, hca⟩ := cell_atB (k := 0) HS2.out.2.2.2 (by simp)
   subst eq ea
   simp at hcq hca
   go_wp2_with fail
   go_quiet (fail)
   go_wp2
   go_ret
   exact ⟨by rw [HE.out]; first | rfl | simp [hvu], bel_drewN B2 _⟩
  have HE : Hid (anB 5 pl nn m1 1 qs [u] ap an l1 1 ws [v] = false) := by show _ = false; simp [anB, hA, he]
  have hvu : (v == u) = false := by cases u <;> cases v <;> simp_all
  clear he
  have hA' := hA.symm
  clear hA
  subst hA'
  go_enter Tryz.func50, Tryz.ntmps50
  go_upto_region 1 with fail
  rw [<- HW.out]
  go_wp2_with fail
  refine (specReqOk_q 5 pl nn wa q1 q2 m1 1 k1 k2 qs [u] _ HL.out.1 HL.out.2.1 HS.out.1 HS.out.2.1 hm1 hm2).mono ?_
  rintro e w1 ⟨he, b'⟩
  rw [HQ.out] at he
  subst he
  have B1 := bel_next B0 b'
  have X1 := X0.below b'
  have Y1 := Y0.below b'
  have HS1 : Hid (SlI w1 q1 qs /\ SlB w1 q2 [u] /\ SlI w1 a1 ws /\ SlB w1 a2 [v]) := ⟨HS.out.1.below b', HS.out.2.1.below b', HS.out.2.2.1.below b', HS.out.2.2.2.below b'⟩
  clear b' B0 X0 Y0 x0 x1 x2 x3 x4 x5 y0 y1 y2 y3 y4 y5
  obtain ⟨x0, x1, x2, x3, x4, x5⟩ := X1.six
  obtain ⟨y0, y1, y2, y3, y4, y5⟩ := Y1.six
  go_wp2_with fail
  refine (specRespOk_q 5 0 pl an a1 a2 l1 1 c1 c2 ws [v] _ HL.out.2.2.1 HL.out.2.2.2 HS1.out.2.2.1 HS1.out.2.2.2 hl1 hl2).mono ?_
  rintro e w2 ⟨he, b'⟩
  rw [HA.out] at he
  subst he
  have B2 := bel_next B1 b'
  have X2 := X1.below b'
  have Y2 := Y1.below b'
  have HS2 : Hid (SlI w2 q1 qs /\ SlB w2 q2 [u] /\ SlI w2 a1 ws /\ SlB w2 a2 [v]) := ⟨HS1.out.1.below b', HS1.out.2.1.below b', HS1.out.2.2.1.below b', HS1.out.2.2.2.below b'⟩
  clear b' B1 X1 Y1 x0 x1 x2 x3 x4 x5 y0 y1 y2 y3 y4 y5
  obtain ⟨x0, x1, x2, x3, x4, x5⟩ := X2.six
  obtain ⟨y0, y1, y2, y3, y4, y5⟩ := Y2.six
  obtain ⟨bq, oq, eq, _, hcq⟩ := cell_atB (k := 0) HS2.out.2.1 (by simp)
  obtain ⟨ba, oa, ea, _, hca⟩ := cell_atB (k := 0) HS2.out.2.2.2 (by simp)
  subst eq ea
  simp at hcq hca
  go_wp2_with fail
  go_quiet (fail)
  go_wp2
  go_ret
  exact ⟨by rw [HE.out]; first | rfl | simp [hvu], bel_drewN B2 _⟩
 have HE : Hid (anB 5 pl nn m1 1 qs [u] ap an l1 1 ws [v] = false) := by show _ = false; simp [anB, hA]
 have hAb : (ap == pl) = false := by simp [hA]
 go_enter Tryz.func50, Tryz.ntmps50
 go_upto_region 1 with fail
 rw [<- HW.out]
 go_wp2_with fail
 refine (specReqOk_q 5 pl nn wa q1 q2 m1 1 k1 k2 qs [u] _ HL.out.1 HL.out.2.1 HS.out.1 HS.out.2.1 hm1 hm2).mono ?_
 rintro e w1 ⟨he, b'⟩
 rw [HQ.out] at he
 subst he
 have B1 := bel_next B0 b'
 have X1 := X0.below b'
 have Y1 := Y0.below b'
 have HS1 : Hid (SlI w1 q1 qs /\ SlB w1 q2 [u] /\ SlI w1 a1 ws /\ SlB w1 a2 [v]) := ⟨HS.out.1.below b', HS.out.2.1.below b', HS.out.2.2.1.below b', HS.out.2.2.2.below b'⟩
 clear b' B0 X0 Y0 x0 x1 x2 x3 x4 x5 y0 y1 y2 y3 y4 y5
 obtain ⟨x0, x1, x2, x3, x4, x5⟩ := X1.six
 obtain ⟨y0, y1, y2, y3, y4, y5⟩ := Y1.six
 go_wp2_with fail
 refine (specRespOk_q 5 0 ap an a1 a2 l1 1 c1 c2 ws [v] _ HL.out.2.2.1 HL.out.2.2.2 HS1.out.2.2.1 HS1.out.2.2.2 hl1 hl2).mono ?_
 rintro e w2 ⟨he, b'⟩
 rw [HA.out] at he
 subst he
 have B2 := bel_next B1 b'
 have X2 := X1.below b'
 have Y2 := Y1.below b'
 have HS2 : Hid (SlI w2 q1 qs /\ SlB w2 q2 [u] /\ SlI w2 a1 ws /\ SlB w2 a2 [v]) := ⟨HS1.out.1.below b', HS1.out.2.1.below b', HS1.out.2.2.1.below b', HS1.out.2.2.2.below b'⟩
 clear b' B1 X1 Y1 x0 x1 x2 x3 x4 x5 y0 y1 y2 y3 y4 y5
 obtain ⟨x0, x1, x2, x3, x4, x5⟩ := X2.six
 obtain ⟨y0, y1, y2, y3, y4, y5⟩ := Y2.six
 go_wp2_with fail
 go_quiet (fail)
 go_wp2
 go_ret
 exact ⟨by rw [HE.out]; rfl, bel_drewN B2 _⟩
theorem specSuits_6 (pl nn wa : Int) (q1 q2 : Option Addr) (m1 m2 k1 k2 : Nat) (qs : List Int) (qb : List Bool) (ap an : Int) (a1 a2 : Option Addr) (l1 l2 c1 c2 : Nat) (ws : List Int) (bs : List Bool) (w : World) (g1 : m1 = qs.length) (g2 : m2 = qb.length) (t1 : SlI w q1 qs) (t2 : SlB w q2 qb) (hm1 : qs.length <= 2000000) (hm2 : qb.length <= 2000000) (h1 : l1 = ws.length) (h2 : l2 = bs.length) (s1 : SlI w a1 ws) (s2 : SlB w a2 bs) (hl1 : ws.length <= 2000000) (hl2 : bs.length <= 2000000) (hq : okR 6 pl nn wa qs m1 m2 = true) (ha : okA 6 0 ap an ws l1 l2 = true) :
 Calls Tryz.prog 50 #[rq 6 pl nn wa q1 q2 m1 m2 k1 k2, rp 6 0 ap an a1 a2 l1 l2 c1 c2] w fun e w' => e = .returned (.bool (anB 6 pl nn m1 m2 qs qb ap an l1 l2 ws bs)) /\ Below w.heap.size w w' := by
 obtain ⟨W0, hW0⟩ : ∃ W0, W0 = (w.alloc (.cells #[.int .i64 6, .int .i64 pl, .int .i64 nn, .slice q1 m1 k1, .slice q2 m2 k2, .int .i64 wa] 39)).alloc (.cells #[.int .i64 6, .int .i64 0, .int .i64 ap, .int .i64 an, .slice a1 l1 c1, .slice a2 l2 c2] 89) := ⟨_, rfl⟩
 have HW : Hid (W0 = _) := hW0
 have B0 : Below w.heap.size w W0 := by rw [hW0]; exact bel_next (bel_alloc w _) (bel_alloc _ _)
 have X0 : Blk W0 w.heap.size 39 #[.int .i64 6, .int .i64 pl, .int .i64 nn, .slice q1 m1 k1, .slice q2 m2 k2, .int .i64 wa] := by rw [hW0]; exact (Blk.new w _ _).below (bel_alloc _ _)
 have Y0 : Blk W0 (w.heap.size + 1) 89 #[.int .i64 6, .int .i64 0, .int .i64 ap, .int .i64 an, .slice a1 l1 c1, .slice a2 l2 c2] := by
  rw [hW0]; have := Blk.new (w.alloc (.cells #[.int .i64 6, .int .i64 pl, .int .i64 nn, .slice q1 m1 k1, .slice q2 m2 k2, .int .i64 wa] 39)) #[.int .i64 6, .int .i64 0, .int .i64 ap, .int .i64 an, .slice a1 l1 c1, .slice a2 l2 c2] 89; simpa using this
 have HL : Hid (m1 = qs.length /\ m2 = qb.length /\ l1 = ws.length /\ l2 = bs.length) := ⟨g1, g2, h1, h2⟩
 have HS : Hid (SlI W0 q1 qs /\ SlB W0 q2 qb /\ SlI W0 a1 ws /\ SlB W0 a2 bs) := ⟨t1.below B0, t2.below B0, s1.below B0, s2.below B0⟩
 obtain ⟨x0, x1, x2, x3, x4, x5⟩ := X0.six
 obtain ⟨y0, y1, y2, y3, y4, y5⟩ := Y0.six
 clear hW0 g1 g2 h1 h2 t1 t2 s1 s2
 have HQ : Hid (okR 6 pl nn wa qs m1 m2 = true) := hq
 have HA : Hid (okA 6 0 ap an ws l1 l2 = true) := ha
 clear hq ha
 by_cases hA : ap = pl
 ·cases he : decide (ws = qs)
  ·have HE : Hid (anB 6 pl nn m1 m2 qs qb ap an l1 l2 ws bs = false) := by show _ = false; simp [anB, hA]; simpa using he
   have HQE : Hid (decide (ws = qs) = false) := he
   clear he
   have hA' := hA.symm
   clear hA
   subst hA'
   go_enter Tryz.func50, Tryz.ntmps50
   go_upto_region 1 with fail
   rw [<- HW.out]
   go_wp2_with fail
   refine (specReqOk_q 6 pl nn wa q1 q2 m1 m2 k1 k2 qs qb _ HL.out.1 HL.out.2.1 HS.out.1 HS.out.2.1 hm1 hm2).mono ?_
   rintro e w1 ⟨he, b'⟩
   rw [HQ.out] at he
   subst he
   have B1 := bel_next B0 b'
   have X1 := X0.below b'
   have Y1 := Y0.below b'
   have HS1 : Hid (SlI w1 q1 qs /\ SlB w1 q2 qb /\ SlI w1 a1 ws /\ SlB w1 a2 bs) := ⟨HS.out.1.below b', HS.out.2.1.below b', HS.out.2.2.1.below b', HS.out.2.2.2.below b'⟩
   clear b' B0 X0 Y0 x0 x1 x2 x3 x4 x5 y0 y1 y2 y3 y4 y5
   obtain ⟨x0, x1, x2, x3, x4, x5⟩ := X1.six
   obtain ⟨y0, y1, y2, y3, y4, y5⟩ := Y1.six
   go_wp2_with fail
   refine (specRespOk_q 6 0 pl an a1 a2 l1 l2 c1 c2 ws bs _ HL.out.2.2.1 HL.out.2.2.2 HS1.out.2.2.1 HS1.out.2.2.2 hl1 hl2).mono ?_
   rintro e w2 ⟨he, b'⟩
   rw [HA.out] at he
   subst he
   have B2 := bel_next B1 b'
   have X2 := X1.below b'
   have Y2 := Y1.below b'
   have HS2 : Hid (SlI w2 q1 qs /\ SlB w2 q2 qb /\ SlI w2 a1 ws /\ SlB w2 a2 bs) := ⟨HS1.out.1.below b', HS1.out.2.1.below b', HS1.out.2.2.1.below b', HS1.out.2.2.2.below b'⟩
   clear b' B1 X1 Y1 x0 x1 x2 x3 x4 x5 y0 y1 y2 y3 y4 y5
   obtain ⟨x0, x1, x2, x3, x4, x5⟩ := X2.six
   obtain ⟨y0, y1, y2, y3, y4, y5⟩ := Y2.six
   go_wp2_with fail
   refine (l4SameWords_any _ _ _ _ _ _ ws qs _ HL.out.2.2.1 HL.out.1 HS2.out.2.2.1 HS2.out.1 hl1 hm1 _ HQE.out).mono ?_
   rintro e w3 ⟨rfl, b'⟩
   have B3 := bel_next B2 b'
   clear b'
   go_wp2
   go_ret
   exact ⟨by rw [HE.out]; rfl, B3⟩
  have HE : Hid (anB 6 pl nn m1 m2 qs qb ap an l1 l2 ws bs = true) := by show _ = true; simp [anB, hA]; simpa using he
  have HQE : Hid (decide (ws = qs) = true) := he
  clear he
  have hA' := hA.symm
  clear hA
  subst hA'
  go_enter Tryz.func50, Tryz.ntmps50
  go_upto_region 1 with fail
  rw [<- HW.out]
  go_wp2_with fail
  refine (specReqOk_q 6 pl nn wa q1 q2 m1 m2 k1 k2 qs qb _ HL.out.1 HL.out.2.1 HS.out.1 HS.out.2.1 hm1 hm2).mono ?_
  rintro e w1 ⟨he, b'⟩
  rw [HQ.out] at he
  subst he
  have B1 := bel_next B0 b'
  have X1 := X0.below b'
  have Y1 := Y0.below b'
  have HS1 : Hid (SlI w1 q1 qs /\ SlB w1 q2 qb /\ SlI w1 a1 ws /\ SlB w1 a2 bs) := ⟨HS.out.1.below b', HS.out.2.1.below b', HS.out.2.2.1.below b', HS.out.2.2.2.below b'⟩
  clear b' B0 X0 Y0 x0 x1 x2 x3 x4 x5 y0 y1 y2 y3 y4 y5
  obtain ⟨x0, x1, x2, x3, x4, x5⟩ := X1.six
  obtain ⟨y0, y1, y2, y3, y4, y5⟩ := Y1.six
  go_wp2_with fail
  refine (specRespOk_q 6 0 pl an a1 a2 l1 l2 c1 c2 ws bs _ HL.out.2.2.1 HL.out.2.2.2 HS1.out.2.2.1 HS1.out.2.2.2 hl1 hl2).mono ?_
  rintro e w2 ⟨he, b'⟩
  rw [HA.out] at he
  subst he
  have B2 := bel_next B1 b'
  have X2 := X1.below b'
  have Y2 := Y1.below b'
  have HS2 : Hid (SlI w2 q1 qs /\ SlB w2 q2 qb /\ SlI w2 a1 ws /\ SlB w2 a2 bs) := ⟨HS1.out.1.below b', HS1.out.2.1.below b', HS1.out.2.2.1.below b', HS1.out.2.2.2.below b'⟩
  clear b' B1 X1 Y1 x0 x1 x2 x3 x4 x5 y0 y1 y2 y3 y4 y5
  obtain ⟨x0, x1, x2, x3, x4, x5⟩ := X2.six
  obtain ⟨y0, y1, y2, y3, y4, y5⟩ := Y2.six
  go_wp2_with fail
  refine (l4SameWords_any _ _ _ _ _ _ ws qs _ HL.out.2.2.1 HL.out.1 HS2.out.2.2.1 HS2.out.1 hl1 hm1 _ HQE.out).mono ?_
  rintro e w3 ⟨rfl, b'⟩
  have B3 := bel_next B2 b'
  clear b'
  go_wp2
  go_ret
  exact ⟨by rw [HE.out]; rfl, B3⟩
 have HE : Hid (anB 6 pl nn m1 m2 qs qb ap an l1 l2 ws bs = false) := by show _ = false; simp [anB, hA]
 have hAb : (ap == pl) = false := by simp [hA]
 go_enter Tryz.func50, Tryz.ntmps50
 go_upto_region 1 with fail
 rw [<- HW.out]
 go_wp2_with fail
 refine (specReqOk_q 6 pl nn wa q1 q2 m1 m2 k1 k2 qs qb _ HL.out.1 HL.out.2.1 HS.out.1 HS.out.2.1 hm1 hm2).mono ?_
 rintro e w1 ⟨he, b'⟩
 rw [HQ.out] at he
 subst he
 have B1 := bel_next B0 b'
 have X1 := X0.below b'
 have Y1 := Y0.below b'
 have HS1 : Hid (SlI w1 q1 qs /\ SlB w1 q2 qb /\ SlI w1 a1 ws /\ SlB w1 a2 bs) := ⟨HS.out.1.below b', HS.out.2.1.below b', HS.out.2.2.1.below b', HS.out.2.2.2.below b'⟩
 clear b' B0 X0 Y0 x0 x1 x2 x3 x4 x5 y0 y1 y2 y3 y4 y5
 obtain ⟨x0, x1, x2, x3, x4, x5⟩ := X1.six
 obtain ⟨y0, y1, y2, y3, y4, y5⟩ := Y1.six
 go_wp2_with fail
 refine (specRespOk_q 6 0 ap an a1 a2 l1 l2 c1 c2 ws bs _ HL.out.2.2.1 HL.out.2.2.2 HS1.out.2.2.1 HS1.out.2.2.2 hl1 hl2).mono ?_
 rintro e w2 ⟨he, b'⟩
 rw [HA.out] at he
 subst he
 have B2 := bel_next B1 b'
 have X2 := X1.below b'
 have Y2 := Y1.below b'
 have HS2 : Hid (SlI w2 q1 qs /\ SlB w2 q2 qb /\ SlI w2 a1 ws /\ SlB w2 a2 bs) := ⟨HS1.out.1.below b', HS1.out.2.1.below b', HS1.out.2.2.1.below b', HS1.out.2.2.2.below b'⟩
 clear b' B1 X1 Y1 x0 x1 x2 x3 x4 x5 y0 y1 y2 y3 y4 y5
 obtain ⟨x0, x1, x2, x3, x4, x5⟩ := X2.six
 obtain ⟨y0, y1, y2, y3, y4, y5⟩ := Y2.six
 go_wp2
 go_ret
 exact ⟨by rw [HE.out]; rfl, B2⟩
theorem specSuits_15 (pl nn wa : Int) (q1 q2 : Option Addr) (m1 m2 k1 k2 : Nat) (qs : List Int) (qb : List Bool) (ap an : Int) (a1 a2 : Option Addr) (l1 l2 c1 c2 : Nat) (ws : List Int) (bs : List Bool) (w : World) (g1 : m1 = qs.length) (g2 : m2 = qb.length) (t1 : SlI w q1 qs) (t2 : SlB w q2 qb) (hm1 : qs.length <= 2000000) (hm2 : qb.length <= 2000000) (h1 : l1 = ws.length) (h2 : l2 = bs.length) (s1 : SlI w a1 ws) (s2 : SlB w a2 bs) (hl1 : ws.length <= 2000000) (hl2 : bs.length <= 2000000) (hq : okR 15 pl nn wa qs m1 m2 = true) (ha : okA 15 0 ap an ws l1 l2 = true) :
 Calls Tryz.prog 50 #[rq 15 pl nn wa q1 q2 m1 m2 k1 k2, rp 15 0 ap an a1 a2 l1 l2 c1 c2] w fun e w' => e = .returned (.bool (anB 15 pl nn m1 m2 qs qb ap an l1 l2 ws bs)) /\ Below w.heap.size w w' := by
 obtain ⟨W0, hW0⟩ : ∃ W0, W0 = (w.alloc (.cells #[.int .i64 15, .int .i64 pl, .int .i64 nn, .slice q1 m1 k1, .slice q2 m2 k2, .int .i64 wa] 39)).alloc (.cells #[.int .i64 15, .int .i64 0, .int .i64 ap, .int .i64 an, .slice a1 l1 c1, .slice a2 l2 c2] 89) := ⟨_, rfl⟩
 have HW : Hid (W0 = _) := hW0
 have B0 : Below w.heap.size w W0 := by rw [hW0]; exact bel_next (bel_alloc w _) (bel_alloc _ _)
 have X0 : Blk W0 w.heap.size 39 #[.int .i64 15, .int .i64 pl, .int .i64 nn, .slice q1 m1 k1, .slice q2 m2 k2, .int .i64 wa] := by rw [hW0]; exact (Blk.new w _ _).below (bel_alloc _ _)
 have Y0 : Blk W0 (w.heap.size + 1) 89 #[.int .i64 15, .int .i64 0, .int .i64 ap, .int .i64 an, .slice a1 l1 c1, .slice a2 l2 c2] := by
  rw [hW0]; have := Blk.new (w.alloc (.cells #[.int .i64 15, .int .i64 pl, .int .i64 nn, .slice q1 m1 k1, .slice q2 m2 k2, .int .i64 wa] 39)) #[.int .i64 15, .int .i64 0, .int .i64 ap, .int .i64 an, .slice a1 l1 c1, .slice a2 l2 c2] 89; simpa using this
 have HL : Hid (m1 = qs.length /\ m2 = qb.length /\ l1 = ws.length /\ l2 = bs.length) := ⟨g1, g2, h1, h2⟩
 have HS : Hid (SlI W0 q1 qs /\ SlB W0 q2 qb /\ SlI W0 a1 ws /\ SlB W0 a2 bs) := ⟨t1.below B0, t2.below B0, s1.below B0, s2.below B0⟩
 obtain ⟨x0, x1, x2, x3, x4, x5⟩ := X0.six
 obtain ⟨y0, y1, y2, y3, y4, y5⟩ := Y0.six
 clear hW0 g1 g2 h1 h2 t1 t2 s1 s2
 have HQ : Hid (okR 15 pl nn wa qs m1 m2 = true) := hq
 have HA : Hid (okA 15 0 ap an ws l1 l2 = true) := ha
 clear hq ha
 by_cases hA : ap = pl
 ·by_cases he : an = (m2 : Int)
  ·have HE : Hid (anB 15 pl nn m1 m2 qs qb ap an l1 l2 ws bs = true) := by show _ = true; simp [anB, hA, he]
   have hei : (an == (m2 : Int)) = true := by simp [he]
   clear he
   have hA' := hA.symm
   clear hA
   subst hA'
   go_enter Tryz.func50, Tryz.ntmps50
   go_upto_region 1 with fail
   rw [<- HW.out]
   go_wp2_with fail
   refine (specReqOk_q 15 pl nn wa q1 q2 m1 m2 k1 k2 qs qb _ HL.out.1 HL.out.2.1 HS.out.1 HS.out.2.1 hm1 hm2).mono ?_
   rintro e w1 ⟨he, b'⟩
   rw [HQ.out] at he
   subst he
   have B1 := bel_next B0 b'
   have X1 := X0.below b'
   have Y1 := Y0.below b'
   have HS1 : Hid (SlI w1 q1 qs /\ SlB w1 q2 qb /\ SlI w1 a1 ws /\ SlB w1 a2 bs) := ⟨HS.out.1.below b', HS.out.2.1.below b', HS.out.2.2.1.below b', HS.out.2.2.2.below b'⟩
   clear b' B0 X0 Y0 x0 x1 x2 x3 x4 x5 y0 y1 y2 y3 y4 y5
   obtain ⟨x0, x1, x2, x3, x4, x5⟩ := X1.six
   obtain ⟨y0, y1, y2, y3, y4, y5⟩ := Y1.six
   go_wp2_with fail
   refine (specRespOk_q 15 0 pl an a1 a2 l1 l2 c1 c2 ws bs _ HL.out.2.2.1 HL.out.2.2.2 HS1.out.2.2.1 HS1.out.2.2.2 hl1 hl2).mono ?_
   rintro e w2 ⟨he, b'⟩
   rw [HA.out] at he
   subst he
   have B2 := bel_next B1 b'
   have X2 := X1.below b'
   have Y2 := Y1.below b'
   have HS2 : Hid (SlI w2 q1 qs /\ SlB w2 q2 qb /\ SlI w2 a1 ws /\ SlB w2 a2 bs) := ⟨HS1.out.1.below b', HS1.out.2.1.below b', HS1.out.2.2.1.below b', HS1.out.2.2.2.below b'⟩
   clear b' B1 X1 Y1 x0 x1 x2 x3 x4 x5 y0 y1 y2 y3 y4 y5
   obtain ⟨x0, x1, x2, x3, x4, x5⟩ := X2.six
   obtain ⟨y0, y1, y2, y3, y4, y5⟩ := Y2.six
   go_wp2
   go_ret
   exact ⟨by rw [HE.out]; first | rfl | simp [hei], B2⟩
  have HE : Hid (anB 15 pl nn m1 m2 qs qb ap an l1 l2 ws bs = false) := by show _ = false; simp [anB, hA, he]
  have hei : (an == (m2 : Int)) = false := by simp [he]
  clear he
  have hA' := hA.symm
  clear hA
  subst hA'
  go_enter Tryz.func50, Tryz.ntmps50
  go_upto_region 1 with fail
  rw [<- HW.out]
  go_wp2_with fail
  refine (specReqOk_q 15 pl nn wa q1 q2 m1 m2 k1 k2 qs qb _ HL.out.1 HL.out.2.1 HS.out.1 HS.out.2.1 hm1 hm2).mono ?_
  rintro e w1 ⟨he, b'⟩
  rw [HQ.out] at he
  subst he
  have B1 := bel_next B0 b'
  have X1 := X0.below b'
  have Y1 := Y0.below b'
  have HS1 : Hid (SlI w1 q1 qs /\ SlB w1 q2 qb /\ SlI w1 a1 ws /\ SlB w1 a2 bs) := ⟨HS.out.1.below b', HS.out.2.1.below b', HS.out.2.2.1.below b', HS.out.2.2.2.below b'⟩
  clear b' B0 X0 Y0 x0 x1 x2 x3 x4 x5 y0 y1 y2 y3 y4 y5
  obtain ⟨x0, x1, x2, x3, x4, x5⟩ := X1.six
  obtain ⟨y0, y1, y2, y3, y4, y5⟩ := Y1.six
  go_wp2_with fail
  refine (specRespOk_q 15 0 pl an a1 a2 l1 l2 c1 c2 ws bs _ HL.out.2.2.1 HL.out.2.2.2 HS1.out.2.2.1 HS1.out.2.2.2 hl1 hl2).mono ?_
  rintro e w2 ⟨he, b'⟩
  rw [HA.out] at he
  subst he
  have B2 := bel_next B1 b'
  have X2 := X1.below b'
  have Y2 := Y1.below b'
  have HS2 : Hid (SlI w2 q1 qs /\ SlB w2 q2 qb /\ SlI w2 a1 ws /\ SlB w2 a2 bs) := ⟨HS1.out.1.below b', HS1.out.2.1.below b', HS1.out.2.2.1.below b', HS1.out.2.2.2.below b'⟩
  clear b' B1 X1 Y1 x0 x1 x2 x3 x4 x5 y0 y1 y2 y3 y4 y5
  obtain ⟨x0, x1, x2, x3, x4, x5⟩ := X2.six
  obtain ⟨y0, y1, y2, y3, y4, y5⟩ := Y2.six
  go_wp2
  go_ret
  exact ⟨by rw [HE.out]; first | rfl | simp [hei], B2⟩
 have HE : Hid (anB 15 pl nn m1 m2 qs qb ap an l1 l2 ws bs = false) := by show _ = false; simp [anB, hA]
 have hAb : (ap == pl) = false := by simp [hA]
 go_enter Tryz.func50, Tryz.ntmps50
 go_upto_region 1 with fail
 rw [<- HW.out]
 go_wp2_with fail
 refine (specReqOk_q 15 pl nn wa q1 q2 m1 m2 k1 k2 qs qb _ HL.out.1 HL.out.2.1 HS.out.1 HS.out.2.1 hm1 hm2).mono ?_
 rintro e w1 ⟨he, b'⟩
 rw [HQ.out] at he
 subst he
 have B1 := bel_next B0 b'
 have X1 := X0.below b'
 have Y1 := Y0.below b'
 have HS1 : Hid (SlI w1 q1 qs /\ SlB w1 q2 qb /\ SlI w1 a1 ws /\ SlB w1 a2 bs) := ⟨HS.out.1.below b', HS.out.2.1.below b', HS.out.2.2.1.below b', HS.out.2.2.2.below b'⟩
 clear b' B0 X0 Y0 x0 x1 x2 x3 x4 x5 y0 y1 y2 y3 y4 y5
 obtain ⟨x0, x1, x2, x3, x4, x5⟩ := X1.six
 obtain ⟨y0, y1, y2, y3, y4, y5⟩ := Y1.six
 go_wp2_with fail
 refine (specRespOk_q 15 0 ap an a1 a2 l1 l2 c1 c2 ws bs _ HL.out.2.2.1 HL.out.2.2.2 HS1.out.2.2.1 HS1.out.2.2.2 hl1 hl2).mono ?_
 rintro e w2 ⟨he, b'⟩
 rw [HA.out] at he
 subst he
 have B2 := bel_next B1 b'
 have X2 := X1.below b'
 have Y2 := Y1.below b'
 have HS2 : Hid (SlI w2 q1 qs /\ SlB w2 q2 qb /\ SlI w2 a1 ws /\ SlB w2 a2 bs) := ⟨HS1.out.1.below b', HS1.out.2.1.below b', HS1.out.2.2.1.below b', HS1.out.2.2.2.below b'⟩
 clear b' B1 X1 Y1 x0 x1 x2 x3 x4 x5 y0 y1 y2 y3 y4 y5
 obtain ⟨x0, x1, x2, x3, x4, x5⟩ := X2.six
 obtain ⟨y0, y1, y2, y3, y4, y5⟩ := Y2.six
 go_wp2
 go_ret
 exact ⟨by rw [HE.out]; rfl, B2⟩
theorem specSuits_16 (pl nn wa : Int) (q1 q2 : Option Addr) (m1 m2 k1 k2 : Nat) (qs : List Int) (qb : List Bool) (ap an : Int) (a1 a2 : Option Addr) (l1 l2 c1 c2 : Nat) (ws : List Int) (bs : List Bool) (w : World) (g1 : m1 = qs.length) (g2 : m2 = qb.length) (t1 : SlI w q1 qs) (t2 : SlB w q2 qb) (hm1 : qs.length <= 2000000) (hm2 : qb.length <= 2000000) (h1 : l1 = ws.length) (h2 : l2 = bs.length) (s1 : SlI w a1 ws) (s2 : SlB w a2 bs) (hl1 : ws.length <= 2000000) (hl2 : bs.length <= 2000000) (hq : okR 16 pl nn wa qs m1 m2 = true) (ha : okA 16 0 ap an ws l1 l2 = true) :
 Calls Tryz.prog 50 #[rq 16 pl nn wa q1 q2 m1 m2 k1 k2, rp 16 0 ap an a1 a2 l1 l2 c1 c2] w fun e w' => e = .returned (.bool (anB 16 pl nn m1 m2 qs qb ap an l1 l2 ws bs)) /\ Below w.heap.size w w' := by
 obtain ⟨W0, hW0⟩ : ∃ W0, W0 = (w.alloc (.cells #[.int .i64 16, .int .i64 pl, .int .i64 nn, .slice q1 m1 k1, .slice q2 m2 k2, .int .i64 wa] 39)).alloc (.cells #[.int .i64 16, .int .i64 0, .int .i64 ap, .int .i64 an, .slice a1 l1 c1, .slice a2 l2 c2] 89) := ⟨_, rfl⟩
 have HW : Hid (W0 = _) := hW0
 have B0 : Below w.heap.size w W0 := by rw [hW0]; exact bel_next (bel_alloc w _) (bel_alloc _ _)
 have X0 : Blk W0 w.heap.size 39 #[.int .i64 16, .int .i64 pl, .int .i64 nn, .slice q1 m1 k1, .slice q2 m2 k2, .int .i64 wa] := by rw [hW0]; exact (Blk.new w _ _).below (bel_alloc _ _)
 have Y0 : Blk W0 (w.heap.size + 1) 89 #[.int .i64 16, .int .i64 0, .int .i64 ap, .int .i64 an, .slice a1 l1 c1, .slice a2 l2 c2] := by
  rw [hW0]; have := Blk.new (w.alloc (.cells #[.int .i64 16, .int .i64 pl, .int .i64 nn, .slice q1 m1 k1, .slice q2 m2 k2, .int .i64 wa] 39)) #[.int .i64 16, .int .i64 0, .int .i64 ap, .int .i64 an, .slice a1 l1 c1, .slice a2 l2 c2] 89; simpa using this
 have HL : Hid (m1 = qs.length /\ m2 = qb.length /\ l1 = ws.length /\ l2 = bs.length) := ⟨g1, g2, h1, h2⟩
 have HS : Hid (SlI W0 q1 qs /\ SlB W0 q2 qb /\ SlI W0 a1 ws /\ SlB W0 a2 bs) := ⟨t1.below B0, t2.below B0, s1.below B0, s2.below B0⟩
 obtain ⟨x0, x1, x2, x3, x4, x5⟩ := X0.six
 obtain ⟨y0, y1, y2, y3, y4, y5⟩ := Y0.six
 clear hW0 g1 g2 h1 h2 t1 t2 s1 s2
 have HQ : Hid (okR 16 pl nn wa qs m1 m2 = true) := hq
 have HA : Hid (okA 16 0 ap an ws l1 l2 = true) := ha
 clear hq ha
 by_cases hA : ap = pl
 ·by_cases he : an = (m1 : Int)
  ·have HE : Hid (anB 16 pl nn m1 m2 qs qb ap an l1 l2 ws bs = true) := by show _ = true; simp [anB, hA, he]
   have hei : (an == (m1 : Int)) = true := by simp [he]
   clear he
   have hA' := hA.symm
   clear hA
   subst hA'
   go_enter Tryz.func50, Tryz.ntmps50
   go_upto_region 1 with fail
   rw [<- HW.out]
   go_wp2_with fail
   refine (specReqOk_q 16 pl nn wa q1 q2 m1 m2 k1 k2 qs qb _ HL.out.1 HL.out.2.1 HS.out.1 HS.out.2.1 hm1 hm2).mono ?_
   rintro e w1 ⟨he, b'⟩
   rw [HQ.out] at he
   subst he
   have B1 := bel_next B0 b'
   have X1 := X0.below b'
   have Y1 := Y0.below b'
   have HS1 : Hid (SlI w1 q1 qs /\ SlB w1 q2 qb /\ SlI w1 a1 ws /\ SlB w1 a2 bs) := ⟨HS.out.1.below b', HS.out.2.1.below b', HS.out.2.2.1.below b', HS.out.2.2.2.below b'⟩
   clear b' B0 X0 Y0 x0 x1 x2 x3 x4 x5 y0 y1 y2 y3 y4 y5
   obtain ⟨x0, x1, x2, x3, x4, x5⟩ := X1.six
   obtain ⟨y0, y1, y2, y3, y4, y5⟩ := Y1.six
   go_wp2_with fail
   refine (specRespOk_q 16 0 pl an a1 a2 l1 l2 c1 c2 ws bs _ HL.out.2.2.1 HL.out.2.2.2 HS1.out.2.2.1 HS1.out.2.2.2 hl1 hl2).mono ?_
   rintro e w2 ⟨he, b'⟩
   rw [HA.out] at he
   subst he
   have B2 := bel_next B1 b'
   have X2 := X1.below b'
   have Y2 := Y1.below b'
   have HS2 : Hid (SlI w2 q1 qs /\ SlB w2 q2 qb /\ SlI w2 a1 ws /\ SlB w2 a2 bs) := ⟨HS1.out.1.below b', HS1.out.2.1.below b', HS1.out.2.2.1.below b', HS1.out.2.2.2.below b'⟩
   clear b' B1 X1 Y1 x0 x1 x2 x3 x4 x5 y0 y1 y2 y3 y4 y5
   obtain ⟨x0, x1, x2, x3, x4, x5⟩ := X2.six
   obtain ⟨y0, y1, y2, y3, y4, y5⟩ := Y2.six
   go_wp2
   go_ret
   exact ⟨by rw [HE.out]; first | rfl | simp [hei], B2⟩
  have HE : Hid (anB 16 pl nn m1 m2 qs qb ap an l1 l2 ws bs = false) := by show _ = false; simp [anB, hA, he]
  have hei : (an == (m1 : Int)) = false := by simp [he]
  clear he
  have hA' := hA.symm
  clear hA
  subst hA'
  go_enter Tryz.func50, Tryz.ntmps50
  go_upto_region 1 with fail
  rw [<- HW.out]
  go_wp2_with fail
  refine (specReqOk_q 16 pl nn wa q1 q2 m1 m2 k1 k2 qs qb _ HL.out.1 HL.out.2.1 HS.out.1 HS.out.2.1 hm1 hm2).mono ?_
  rintro e w1 ⟨he, b'⟩
  rw [HQ.out] at he
  subst he
  have B1 := bel_next B0 b'
  have X1 := X0.below b'
  have Y1 := Y0.below b'
  have HS1 : Hid (SlI w1 q1 qs /\ SlB w1 q2 qb /\ SlI w1 a1 ws /\ SlB w1 a2 bs) := ⟨HS.out.1.below b', HS.out.2.1.below b', HS.out.2.2.1.below b', HS.out.2.2.2.below b'⟩
  clear b' B0 X0 Y0 x0 x1 x2 x3 x4 x5 y0 y1 y2 y3 y4 y5
  obtain ⟨x0, x1, x2, x3, x4, x5⟩ := X1.six
  obtain ⟨y0, y1, y2, y3, y4, y5⟩ := Y1.six
  go_wp2_with fail
  refine (specRespOk_q 16 0 pl an a1 a2 l1 l2 c1 c2 ws bs _ HL.out.2.2.1 HL.out.2.2.2 HS1.out.2.2.1 HS1.out.2.2.2 hl1 hl2).mono ?_
  rintro e w2 ⟨he, b'⟩
  rw [HA.out] at he
  subst he
  have B2 := bel_next B1 b'
  have X2 := X1.below b'
  have Y2 := Y1.below b'
  have HS2 : Hid (SlI w2 q1 qs /\ SlB w2 q2 qb /\ SlI w2 a1 ws /\ SlB w2 a2 bs) := ⟨HS1.out.1.below b', HS1.out.2.1.below b', HS1.out.2.2.1.below b', HS1.out.2.2.2.below b'⟩
  clear b' B1 X1 Y1 x0 x1 x2 x3 x4 x5 y0 y1 y2 y3 y4 y5
  obtain ⟨x0, x1, x2, x3, x4, x5⟩ := X2.six
  obtain ⟨y0, y1, y2, y3, y4, y5⟩ := Y2.six
  go_wp2
  go_ret
  exact ⟨by rw [HE.out]; first | rfl | simp [hei], B2⟩
 have HE : Hid (anB 16 pl nn m1 m2 qs qb ap an l1 l2 ws bs = false) := by show _ = false; simp [anB, hA]
 have hAb : (ap == pl) = false := by simp [hA]
 go_enter Tryz.func50, Tryz.ntmps50
 go_upto_region 1 with fail
 rw [<- HW.out]
 go_wp2_with fail
 refine (specReqOk_q 16 pl nn wa q1 q2 m1 m2 k1 k2 qs qb _ HL.out.1 HL.out.2.1 HS.out.1 HS.out.2.1 hm1 hm2).mono ?_
 rintro e w1 ⟨he, b'⟩
 rw [HQ.out] at he
 subst he
 have B1 := bel_next B0 b'
 have X1 := X0.below b'
 have Y1 := Y0.below b'
 have HS1 : Hid (SlI w1 q1 qs /\ SlB w1 q2 qb /\ SlI w1 a1 ws /\ SlB w1 a2 bs) := ⟨HS.out.1.below b', HS.out.2.1.below b', HS.out.2.2.1.below b', HS.out.2.2.2.below b'⟩
 clear b' B0 X0 Y0 x0 x1 x2 x3 x4 x5 y0 y1 y2 y3 y4 y5
 obtain ⟨x0, x1, x2, x3, x4, x5⟩ := X1.six
 obtain ⟨y0, y1, y2, y3, y4, y5⟩ := Y1.six
 go_wp2_with fail
 refine (specRespOk_q 16 0 ap an a1 a2 l1 l2 c1 c2 ws bs _ HL.out.2.2.1 HL.out.2.2.2 HS1.out.2.2.1 HS1.out.2.2.2 hl1 hl2).mono ?_
 rintro e w2 ⟨he, b'⟩
 rw [HA.out] at he
 subst he
 have B2 := bel_next B1 b'
 have X2 := X1.below b'
 have Y2 := Y1.below b'
 have HS2 : Hid (SlI w2 q1 qs /\ SlB w2 q2 qb /\ SlI w2 a1 ws /\ SlB w2 a2 bs) := ⟨HS1.out.1.below b', HS1.out.2.1.below b', HS1.out.2.2.1.below b', HS1.out.2.2.2.below b'⟩
 clear b' B1 X1 Y1 x0 x1 x2 x3 x4 x5 y0 y1 y2 y3 y4 y5
 obtain ⟨x0, x1, x2, x3, x4, x5⟩ := X2.six
 obtain ⟨y0, y1, y2, y3, y4, y5⟩ := Y2.six
 go_wp2
 go_ret
 exact ⟨by rw [HE.out]; rfl, B2⟩
theorem specSuits_22 (pl nn wa : Int) (q1 q2 : Option Addr) (m1 m2 k1 k2 : Nat) (qs : List Int) (qb : List Bool) (ap an : Int) (a1 a2 : Option Addr) (l1 l2 c1 c2 : Nat) (ws : List Int) (bs : List Bool) (w : World) (g1 : m1 = qs.length) (g2 : m2 = qb.length) (t1 : SlI w q1 qs) (t2 : SlB w q2 qb) (hm1 : qs.length <= 2000000) (hm2 : qb.length <= 2000000) (h1 : l1 = ws.length) (h2 : l2 = bs.length) (s1 : SlI w a1 ws) (s2 : SlB w a2 bs) (hl1 : ws.length <= 2000000) (hl2 : bs.length <= 2000000) (hq : okR 22 pl nn wa qs m1 m2 = true) (ha : okA 22 0 ap an ws l1 l2 = true) :
 Calls Tryz.prog 50 #[rq 22 pl nn wa q1 q2 m1 m2 k1 k2, rp 22 0 ap an a1 a2 l1 l2 c1 c2] w fun e w' => e = .returned (.bool (anB 22 pl nn m1 m2 qs qb ap an l1 l2 ws bs)) /\ Below w.heap.size w w' := by
 obtain ⟨W0, hW0⟩ : ∃ W0, W0 = (w.alloc (.cells #[.int .i64 22, .int .i64 pl, .int .i64 nn, .slice q1 m1 k1, .slice q2 m2 k2, .int .i64 wa] 39)).alloc (.cells #[.int .i64 22, .int .i64 0, .int .i64 ap, .int .i64 an, .slice a1 l1 c1, .slice a2 l2 c2] 89) := ⟨_, rfl⟩
 have HW : Hid (W0 = _) := hW0
 have B0 : Below w.heap.size w W0 := by rw [hW0]; exact bel_next (bel_alloc w _) (bel_alloc _ _)
 have X0 : Blk W0 w.heap.size 39 #[.int .i64 22, .int .i64 pl, .int .i64 nn, .slice q1 m1 k1, .slice q2 m2 k2, .int .i64 wa] := by rw [hW0]; exact (Blk.new w _ _).below (bel_alloc _ _)
 have Y0 : Blk W0 (w.heap.size + 1) 89 #[.int .i64 22, .int .i64 0, .int .i64 ap, .int .i64 an, .slice a1 l1 c1, .slice a2 l2 c2] := by
  rw [hW0]; have := Blk.new (w.alloc (.cells #[.int .i64 22, .int .i64 pl, .int .i64 nn, .slice q1 m1 k1, .slice q2 m2 k2, .int .i64 wa] 39)) #[.int .i64 22, .int .i64 0, .int .i64 ap, .int .i64 an, .slice a1 l1 c1, .slice a2 l2 c2] 89; simpa using this
 have HL : Hid (m1 = qs.length /\ m2 = qb.length /\ l1 = ws.length /\ l2 = bs.length) := ⟨g1, g2, h1, h2⟩
 have HS : Hid (SlI W0 q1 qs /\ SlB W0 q2 qb /\ SlI W0 a1 ws /\ SlB W0 a2 bs) := ⟨t1.below B0, t2.below B0, s1.below B0, s2.below B0⟩
 obtain ⟨x0, x1, x2, x3, x4, x5⟩ := X0.six
 obtain ⟨y0, y1, y2, y3, y4, y5⟩ := Y0.six
 clear hW0 g1 g2 h1 h2 t1 t2 s1 s2
 have HQ : Hid (okR 22 pl nn wa qs m1 m2 = true) := hq
 have HA : Hid (okA 22 0 ap an ws l1 l2 = true) := ha
 clear hq ha
 by_cases hA : ap = pl
 ·cases he : decide (ws = qs)
  ·have HE : Hid (anB 22 pl nn m1 m2 qs qb ap an l1 l2 ws bs = false) := by show _ = false; simp [anB, hA]; simpa using he
   have HQE : Hid (decide (ws = qs) = false) := he
   clear he
   have hA' := hA.symm
   clear hA
   subst hA'
   go_enter Tryz.func50, Tryz.ntmps50
   go_upto_region 1 with fail
   rw [<- HW.out]
   go_wp2_with fail
   refine (specReqOk_q 22 pl nn wa q1 q2 m1 m2 k1 k2 qs qb _ HL.out.1 HL.out.2.1 HS.out.1 HS.out.2.1 hm1 hm2).mono ?_
   rintro e w1 ⟨he, b'⟩
   rw [HQ.out] at he
   subst he
   have B1 := bel_next B0 b'
   have X1 := X0.below b'
   have Y1 := Y0.below b'
   have HS1 : Hid (SlI w1 q1 qs /\ SlB w1 q2 qb /\ SlI w1 a1 ws /\ SlB w1 a2 bs) := ⟨HS.out.1.below b', HS.out.2.1.below b', HS.out.2.2.1.below b', HS.out.2.2.2.below b'⟩
   clear b' B0 X0 Y0 x0 x1 x2 x3 x4 x5 y0 y1 y2 y3 y4 y5
   obtain ⟨x0, x1, x2, x3, x4, x5⟩ := X1.six
   obtain ⟨y0, y1, y2, y3, y4, y5⟩ := Y1.six
   go_wp2_with fail
   refine (specRespOk_q 22 0 pl an a1 a2 l1 l2 c1 c2 ws bs _ HL.out.2.2.1 HL.out.2.2.2 HS1.out.2.2.1 HS1.out.2.2.2 hl1 hl2).mono ?_
   rintro e w2 ⟨he, b'⟩
   rw [HA.out] at he
   subst he
   have B2 := bel_next B1 b'
   have X2 := X1.below b'
   have Y2 := Y1.below b'
   have HS2 : Hid (SlI w2 q1 qs /\ SlB w2 q2 qb /\ SlI w2 a1 ws /\ SlB w2 a2 bs) := ⟨HS1.out.1.below b', HS1.out.2.1.below b', HS1.out.2.2.1.below b', HS1.out.2.2.2.below b'⟩
   clear b' B1 X1 Y1 x0 x1 x2 x3 x4 x5 y0 y1 y2 y3 y4 y5
   obtain ⟨x0, x1, x2, x3, x4, x5⟩ := X2.six
   obtain ⟨y0, y1, y2, y3, y4, y5⟩ := Y2.six
   go_wp2_with fail
   refine (l4SameWords_any _ _ _ _ _ _ ws qs _ HL.out.2.2.1 HL.out.1 HS2.out.2.2.1 HS2.out.1 hl1 hm1 _ HQE.out).mono ?_
   rintro e w3 ⟨rfl, b'⟩
   have B3 := bel_next B2 b'
   clear b'
   go_wp2
   go_ret
   exact ⟨by rw [HE.out]; rfl, B3⟩
  have HE : Hid (anB 22 pl nn m1 m2 qs qb ap an l1 l2 ws bs = true) := by show _ = true; simp [anB, hA]; simpa using he
  have HQE : Hid (decide (ws = qs) = true) := he
  clear he
  have hA' := hA.symm
  clear hA
  subst hA'
  go_enter Tryz.func50, Tryz.ntmps50
  go_upto_region 1 with fail
  rw [<- HW.out]
  go_wp2_with fail
  refine (specReqOk_q 22 pl nn wa q1 q2 m1 m2 k1 k2 qs qb _ HL.out.1 HL.out.2.1 HS.out.1 HS.out.2.1 hm1 hm2).mono ?_
  rintro e w1 ⟨he, b'⟩
  rw [HQ.out] at he
  subst he
  have B1 := bel_next B0 b'
  have X1 := X0.below b'
  have Y1 := Y0.below b'
  have HS1 : Hid (SlI w1 q1 qs /\ SlB w1 q2 qb /\ SlI w1 a1 ws /\ SlB w1 a2 bs) := ⟨HS.out.1.below b', HS.out.2.1.below b', HS.out.2.2.1.below b', HS.out.2.2.2.below b'⟩
  clear b' B0 X0 Y0 x0 x1 x2 x3 x4 x5 y0 y1 y2 y3 y4 y5
  obtain ⟨x0, x1, x2, x3, x4, x5⟩ := X1.six
  obtain ⟨y0, y1, y2, y3, y4, y5⟩ := Y1.six
  go_wp2_with fail
  refine (specRespOk_q 22 0 pl an a1 a2 l1 l2 c1 c2 ws bs _ HL.out.2.2.1 HL.out.2.2.2 HS1.out.2.2.1 HS1.out.2.2.2 hl1 hl2).mono ?_
  rintro e w2 ⟨he, b'⟩
  rw [HA.out] at he
  subst he
  have B2 := bel_next B1 b'
  have X2 := X1.below b'
  have Y2 := Y1.below b'
  have HS2 : Hid (SlI w2 q1 qs /\ SlB w2 q2 qb /\ SlI w2 a1 ws /\ SlB w2 a2 bs) := ⟨HS1.out.1.below b', HS1.out.2.1.below b', HS1.out.2.2.1.below b', HS1.out.2.2.2.below b'⟩
  clear b' B1 X1 Y1 x0 x1 x2 x3 x4 x5 y0 y1 y2 y3 y4 y5
  obtain ⟨x0, x1, x2, x3, x4, x5⟩ := X2.six
  obtain ⟨y0, y1, y2, y3, y4, y5⟩ := Y2.six
  go_wp2_with fail
  refine (l4SameWords_any _ _ _ _ _ _ ws qs _ HL.out.2.2.1 HL.out.1 HS2.out.2.2.1 HS2.out.1 hl1 hm1 _ HQE.out).mono ?_
  rintro e w3 ⟨rfl, b'⟩
  have B3 := bel_next B2 b'
  clear b'
  go_wp2
  go_ret
  exact ⟨by rw [HE.out]; rfl, B3⟩
 have HE : Hid (anB 22 pl nn m1 m2 qs qb ap an l1 l2 ws bs = false) := by show _ = false; simp [anB, hA]
 have hAb : (ap == pl) = false := by simp [hA]
 go_enter Tryz.func50, Tryz.ntmps50
 go_upto_region 1 with fail
 rw [<- HW.out]
 go_wp2_with fail
 refine (specReqOk_q 22 pl nn wa q1 q2 m1 m2 k1 k2 qs qb _ HL.out.1 HL.out.2.1 HS.out.1 HS.out.2.1 hm1 hm2).mono ?_
 rintro e w1 ⟨he, b'⟩
 rw [HQ.out] at he
 subst he
 have B1 := bel_next B0 b'
 have X1 := X0.below b'
 have Y1 := Y0.below b'
 have HS1 : Hid (SlI w1 q1 qs /\ SlB w1 q2 qb /\ SlI w1 a1 ws /\ SlB w1 a2 bs) := ⟨HS.out.1.below b', HS.out.2.1.below b', HS.out.2.2.1.below b', HS.out.2.2.2.below b'⟩
 clear b' B0 X0 Y0 x0 x1 x2 x3 x4 x5 y0 y1 y2 y3 y4 y5
 obtain ⟨x0, x1, x2, x3, x4, x5⟩ := X1.six
 obtain ⟨y0, y1, y2, y3, y4, y5⟩ := Y1.six
 go_wp2_with fail
 refine (specRespOk_q 22 0 ap an a1 a2 l1 l2 c1 c2 ws bs _ HL.out.2.2.1 HL.out.2.2.2 HS1.out.2.2.1 HS1.out.2.2.2 hl1 hl2).mono ?_
 rintro e w2 ⟨he, b'⟩
 rw [HA.out] at he
 subst he
 have B2 := bel_next B1 b'
 have X2 := X1.below b'
 have Y2 := Y1.below b'
 have HS2 : Hid (SlI w2 q1 qs /\ SlB w2 q2 qb /\ SlI w2 a1 ws /\ SlB w2 a2 bs) := ⟨HS1.out.1.below b', HS1.out.2.1.below b', HS1.out.2.2.1.below b', HS1.out.2.2.2.below b'⟩
 clear b' B1 X1 Y1 x0 x1 x2 x3 x4 x5 y0 y1 y2 y3 y4 y5
 obtain ⟨x0, x1, x2, x3, x4, x5⟩ := X2.six
 obtain ⟨y0, y1, y2, y3, y4, y5⟩ := Y2.six
 go_wp2
 go_ret
 exact ⟨by rw [HE.out]; rfl, B2⟩
theorem specSuits_23 (pl nn wa : Int) (q1 q2 : Option Addr) (m1 m2 k1 k2 : Nat) (qs : List Int) (qb : List Bool) (ap an : Int) (a1 a2 : Option Addr) (l1 l2 c1 c2 : Nat) (ws : List Int) (bs : List Bool) (w : World) (g1 : m1 = qs.length) (g2 : m2 = qb.length) (t1 : SlI w q1 qs) (t2 : SlB w q2 qb) (hm1 : qs.length <= 2000000) (hm2 : qb.length <= 2000000) (h1 : l1 = ws.length) (h2 : l2 = bs.length) (s1 : SlI w a1 ws) (s2 : SlB w a2 bs) (hl1 : ws.length <= 2000000) (hl2 : bs.length <= 2000000) (hq : okR 23 pl nn wa qs m1 m2 = true) (ha : okA 23 0 ap an ws l1 l2 = true) :
 Calls Tryz.prog 50 #[rq 23 pl nn wa q1 q2 m1 m2 k1 k2, rp 23 0 ap an a1 a2 l1 l2 c1 c2] w fun e w' => e = .returned (.bool (anB 23 pl nn m1 m2 qs qb ap an l1 l2 ws bs)) /\ Below w.heap.size w w' := by
 obtain ⟨W0, hW0⟩ : ∃ W0, W0 = (w.alloc (.cells #[.int .i64 23, .int .i64 pl, .int .i64 nn, .slice q1 m1 k1, .slice q2 m2 k2, .int .i64 wa] 39)).alloc (.cells #[.int .i64 23, .int .i64 0, .int .i64 ap, .int .i64 an, .slice a1 l1 c1, .slice a2 l2 c2] 89) := ⟨_, rfl⟩
 have HW : Hid (W0 = _) := hW0
 have B0 : Below w.heap.size w W0 := by rw [hW0]; exact bel_next (bel_alloc w _) (bel_alloc _ _)
 have X0 : Blk W0 w.heap.size 39 #[.int .i64 23, .int .i64 pl, .int .i64 nn, .slice q1 m1 k1, .slice q2 m2 k2, .int .i64 wa] := by rw [hW0]; exact (Blk.new w _ _).below (bel_alloc _ _)
 have Y0 : Blk W0 (w.heap.size + 1) 89 #[.int .i64 23, .int .i64 0, .int .i64 ap, .int .i64 an, .slice a1 l1 c1, .slice a2 l2 c2] := by
  rw [hW0]; have := Blk.new (w.alloc (.cells #[.int .i64 23, .int .i64 pl, .int .i64 nn, .slice q1 m1 k1, .slice q2 m2 k2, .int .i64 wa] 39)) #[.int .i64 23, .int .i64 0, .int .i64 ap, .int .i64 an, .slice a1 l1 c1, .slice a2 l2 c2] 89; simpa using this
 have HL : Hid (m1 = qs.length /\ m2 = qb.length /\ l1 = ws.length /\ l2 = bs.length) := ⟨g1, g2, h1, h2⟩
 have HS : Hid (SlI W0 q1 qs /\ SlB W0 q2 qb /\ SlI W0 a1 ws /\ SlB W0 a2 bs) := ⟨t1.below B0, t2.below B0, s1.below B0, s2.below B0⟩
 obtain ⟨x0, x1, x2, x3, x4, x5⟩ := X0.six
 obtain ⟨y0, y1, y2, y3, y4, y5⟩ := Y0.six
 clear hW0 g1 g2 h1 h2 t1 t2 s1 s2
 have HQ : Hid (okR 23 pl nn wa qs m1 m2 = true) := hq
 have HA : Hid (okA 23 0 ap an ws l1 l2 = true) := ha
 clear hq ha
 by_cases he : (l1 : Int) = nn
 ·have hei : ((l1 : Int) == nn) = true := by simp [he]
  have HE : Hid (anB 23 pl nn m1 m2 qs qb ap an l1 l2 ws bs = true) := by show _ = true; simp [anB, he]
  have HEQ : Hid ((l1 : Int) = nn) := he
  clear he
  go_enter Tryz.func50, Tryz.ntmps50
  go_upto_region 1 with fail
  rw [<- HW.out]
  go_wp2_with fail
  refine (specReqOk_q 23 pl nn wa q1 q2 m1 m2 k1 k2 qs qb _ HL.out.1 HL.out.2.1 HS.out.1 HS.out.2.1 hm1 hm2).mono ?_
  rintro e w1 ⟨he, b'⟩
  rw [HQ.out] at he
  subst he
  have B1 := bel_next B0 b'
  have X1 := X0.below b'
  have Y1 := Y0.below b'
  have HS1 : Hid (SlI w1 q1 qs /\ SlB w1 q2 qb /\ SlI w1 a1 ws /\ SlB w1 a2 bs) := ⟨HS.out.1.below b', HS.out.2.1.below b', HS.out.2.2.1.below b', HS.out.2.2.2.below b'⟩
  clear b' B0 X0 Y0 x0 x1 x2 x3 x4 x5 y0 y1 y2 y3 y4 y5
  obtain ⟨x0, x1, x2, x3, x4, x5⟩ := X1.six
  obtain ⟨y0, y1, y2, y3, y4, y5⟩ := Y1.six
  go_wp2_with fail
  refine (specRespOk_q 23 0 ap an a1 a2 l1 l2 c1 c2 ws bs _ HL.out.2.2.1 HL.out.2.2.2 HS1.out.2.2.1 HS1.out.2.2.2 hl1 hl2).mono ?_
  rintro e w2 ⟨he, b'⟩
  rw [HA.out] at he
  subst he
  have B2 := bel_next B1 b'
  have X2 := X1.below b'
  have Y2 := Y1.below b'
  have HS2 : Hid (SlI w2 q1 qs /\ SlB w2 q2 qb /\ SlI w2 a1 ws /\ SlB w2 a2 bs) := ⟨HS1.out.1.below b', HS1.out.2.1.below b', HS1.out.2.2.1.below b', HS1.out.2.2.2.below b'⟩
  clear b' B1 X1 Y1 x0 x1 x2 x3 x4 x5 y0 y1 y2 y3 y4 y5
  obtain ⟨x0, x1, x2, x3, x4, x5⟩ := X2.six
  obtain ⟨y0, y1, y2, y3, y4, y5⟩ := Y2.six
  go_wp2
  go_ret
  exact ⟨by rw [HE.out]; first | rfl | simp [hei], B2⟩
 have hei : ((l1 : Int) == nn) = false := by simp [he]
 have HE : Hid (anB 23 pl nn m1 m2 qs qb ap an l1 l2 ws bs = false) := by show _ = false; simp [anB, he]
 clear he
 go_enter Tryz.func50, Tryz.ntmps50
 go_upto_region 1 with fail
 rw [<- HW.out]
 go_wp2_with fail
 refine (specReqOk_q 23 pl nn wa q1 q2 m1 m2 k1 k2 qs qb _ HL.out.1 HL.out.2.1 HS.out.1 HS.out.2.1 hm1 hm2).mono ?_
 rintro e w1 ⟨he, b'⟩
 rw [HQ.out] at he
 subst he
 have B1 := bel_next B0 b'
 have X1 := X0.below b'
 have Y1 := Y0.below b'
 have HS1 : Hid (SlI w1 q1 qs /\ SlB w1 q2 qb /\ SlI w1 a1 ws /\ SlB w1 a2 bs) := ⟨HS.out.1.below b', HS.out.2.1.below b', HS.out.2.2.1.below b', HS.out.2.2.2.below b'⟩
 clear b' B0 X0 Y0 x0 x1 x2 x3 x4 x5 y0 y1 y2 y3 y4 y5
 obtain ⟨x0, x1, x2, x3, x4, x5⟩ := X1.six
 obtain ⟨y0, y1, y2, y3, y4, y5⟩ := Y1.six
 go_wp2_with fail
 refine (specRespOk_q 23 0 ap an a1 a2 l1 l2 c1 c2 ws bs _ HL.out.2.2.1 HL.out.2.2.2 HS1.out.2.2.1 HS1.out.2.2.2 hl1 hl2).mono ?_
 rintro e w2 ⟨he, b'⟩
 rw [HA.out] at he
 subst he
 have B2 := bel_next B1 b'
 have X2 := X1.below b'
 have Y2 := Y1.below b'
 have HS2 : Hid (SlI w2 q1 qs /\ SlB w2 q2 qb /\ SlI w2 a1 ws /\ SlB w2 a2 bs) := ⟨HS1.out.1.below b', HS1.out.2.1.below b', HS1.out.2.2.1.below b', HS1.out.2.2.2.below b'⟩
 clear b' B1 X1 Y1 x0 x1 x2 x3 x4 x5 y0 y1 y2 y3 y4 y5
 obtain ⟨x0, x1, x2, x3, x4, x5⟩ := X2.six
 obtain ⟨y0, y1, y2, y3, y4, y5⟩ := Y2.six
 go_wp2
 go_ret
 exact ⟨by rw [HE.out]; first | rfl | simp [hei], B2⟩
theorem specSuits_q (kd kd' fl : Int) (pl nn wa : Int) (q1 q2 : Option Addr) (m1 m2 k1 k2 : Nat) (qs : List Int) (qb : List Bool) (ap an : Int) (a1 a2 : Option Addr) (l1 l2 c1 c2 : Nat) (ws : List Int) (bs : List Bool) (w : World) (g1 : m1 = qs.length) (g2 : m2 = qb.length) (t1 : SlI w q1 qs) (t2 : SlB w q2 qb) (hm1 : qs.length <= 2000000) (hm2 : qb.length <= 2000000) (h1 : l1 = ws.length) (h2 : l2 = bs.length) (s1 : SlI w a1 ws) (s2 : SlB w a2 bs) (hl1 : ws.length <= 2000000) (hl2 : bs.length <= 2000000) :
 Calls Tryz.prog 50 #[rq kd pl nn wa q1 q2 m1 m2 k1 k2, rp kd' fl ap an a1 a2 l1 l2 c1 c2] w fun e w' => e = .returned (.bool (suB kd pl nn wa m1 m2 qs qb kd' fl ap an l1 l2 ws bs)) /\ Below w.heap.size w w' := by
 obtain ⟨W0, hW0⟩ : ∃ W0, W0 = (w.alloc (.cells #[.int .i64 kd, .int .i64 pl, .int .i64 nn, .slice q1 m1 k1, .slice q2 m2 k2, .int .i64 wa] 39)).alloc (.cells #[.int .i64 kd', .int .i64 fl, .int .i64 ap, .int .i64 an, .slice a1 l1 c1, .slice a2 l2 c2] 89) := ⟨_, rfl⟩
 have HW : Hid (W0 = _) := hW0
 have B0 : Below w.heap.size w W0 := by rw [hW0]; exact bel_next (bel_alloc w _) (bel_alloc _ _)
 have X0 : Blk W0 w.heap.size 39 #[.int .i64 kd, .int .i64 pl, .int .i64 nn, .slice q1 m1 k1, .slice q2 m2 k2, .int .i64 wa] := by rw [hW0]; exact (Blk.new w _ _).below (bel_alloc _ _)
 have Y0 : Blk W0 (w.heap.size + 1) 89 #[.int .i64 kd', .int .i64 fl, .int .i64 ap, .int .i64 an, .slice a1 l1 c1, .slice a2 l2 c2] := by
  rw [hW0]; have := Blk.new (w.alloc (.cells #[.int .i64 kd, .int .i64 pl, .int .i64 nn, .slice q1 m1 k1, .slice q2 m2 k2, .int .i64 wa] 39)) #[.int .i64 kd', .int .i64 fl, .int .i64 ap, .int .i64 an, .slice a1 l1 c1, .slice a2 l2 c2] 89; simpa using this
 have HL : Hid (m1 = qs.length /\ m2 = qb.length /\ l1 = ws.length /\ l2 = bs.length) := ⟨g1, g2, h1, h2⟩
 have HS : Hid (SlI W0 q1 qs /\ SlB W0 q2 qb /\ SlI W0 a1 ws /\ SlB W0 a2 bs) := ⟨t1.below B0, t2.below B0, s1.below B0, s2.below B0⟩
 obtain ⟨x0, x1, x2, x3, x4, x5⟩ := X0.six
 obtain ⟨y0, y1, y2, y3, y4, y5⟩ := Y0.six
 have HT : Hid (SlI w q1 qs /\ SlB w q2 qb /\ SlI w a1 ws /\ SlB w a2 bs) := ⟨t1, t2, s1, s2⟩
 clear hW0 g1 g2 h1 h2 t1 t2 s1 s2
 cases hq : okR kd pl nn wa qs m1 m2
 ·have HE : Hid (suB kd pl nn wa m1 m2 qs qb kd' fl ap an l1 l2 ws bs = false) := by show _ = false; simp [suB, hq]
  have HQ : Hid (okR kd pl nn wa qs m1 m2 = false) := hq
  clear hq
  go_enter Tryz.func50, Tryz.ntmps50
  go_upto_region 1 with fail
  rw [<- HW.out]
  go_wp2_with fail
  refine (specReqOk_q kd pl nn wa q1 q2 m1 m2 k1 k2 qs qb _ HL.out.1 HL.out.2.1 HS.out.1 HS.out.2.1 hm1 hm2).mono ?_
  rintro e w1 ⟨he, b'⟩
  rw [HQ.out] at he
  subst he
  have B1 := bel_next B0 b'
  go_wp2
  go_ret
  exact ⟨by rw [HE.out]; rfl, B1⟩
 have HQ : Hid (okR kd pl nn wa qs m1 m2 = true) := hq
 cases ha : okA kd' fl ap an ws l1 l2
 ·have HE : Hid (suB kd pl nn wa m1 m2 qs qb kd' fl ap an l1 l2 ws bs = false) := by show _ = false; simp [suB, ha]
  have HA : Hid (okA kd' fl ap an ws l1 l2 = false) := ha
  clear hq ha
  go_enter Tryz.func50, Tryz.ntmps50
  go_upto_region 1 with fail
  rw [<- HW.out]
  go_wp2_with fail
  refine (specReqOk_q kd pl nn wa q1 q2 m1 m2 k1 k2 qs qb _ HL.out.1 HL.out.2.1 HS.out.1 HS.out.2.1 hm1 hm2).mono ?_
  rintro e w1 ⟨he, b'⟩
  rw [HQ.out] at he
  subst he
  have B1 := bel_next B0 b'
  have X1 := X0.below b'
  have Y1 := Y0.below b'
  have HS1 : Hid (SlI w1 q1 qs /\ SlB w1 q2 qb /\ SlI w1 a1 ws /\ SlB w1 a2 bs) := ⟨HS.out.1.below b', HS.out.2.1.below b', HS.out.2.2.1.below b', HS.out.2.2.2.below b'⟩
  clear b' B0 X0 Y0 x0 x1 x2 x3 x4 x5 y0 y1 y2 y3 y4 y5
  obtain ⟨x0, x1, x2, x3, x4, x5⟩ := X1.six
  obtain ⟨y0, y1, y2, y3, y4, y5⟩ := Y1.six
  go_wp2_with fail
  refine (specRespOk_q kd' fl ap an a1 a2 l1 l2 c1 c2 ws bs _ HL.out.2.2.1 HL.out.2.2.2 HS1.out.2.2.1 HS1.out.2.2.2 hl1 hl2).mono ?_
  rintro e w2 ⟨he, b'⟩
  rw [HA.out] at he
  subst he
  have B2 := bel_next B1 b'
  have X2 := X1.below b'
  have Y2 := Y1.below b'
  have HS2 : Hid (SlI w2 q1 qs /\ SlB w2 q2 qb /\ SlI w2 a1 ws /\ SlB w2 a2 bs) := ⟨HS1.out.1.below b', HS1.out.2.1.below b', HS1.out.2.2.1.below b', HS1.out.2.2.2.below b'⟩
  clear b' B1 X1 Y1 x0 x1 x2 x3 x4 x5 y0 y1 y2 y3 y4 y5
  obtain ⟨x0, x1, x2, x3, x4, x5⟩ := X2.six
  obtain ⟨y0, y1, y2, y3, y4, y5⟩ := Y2.six
  go_wp2
  go_ret
  exact ⟨by rw [HE.out]; rfl, B2⟩
 have HA : Hid (okA kd' fl ap an ws l1 l2 = true) := ha
 by_cases hk : kd = kd'
 ·subst hk
  by_cases h0 : fl = 0
  ·subst h0
   have HE : suB kd pl nn wa m1 m2 qs qb kd 0 ap an l1 l2 ws bs = anB kd pl nn m1 m2 qs qb ap an l1 l2 ws bs := by simp [suB, hq, ha]
   rw [HE]
   have g1 := HL.out.1
   have g2 := HL.out.2.1
   have h1 := HL.out.2.2.1
   have h2 := HL.out.2.2.2
   obtain rfl | rfl | rfl | rfl | rfl | rfl | rfl | rfl | rfl | rfl := okR_kind hq
   ·exact specSuits_1 pl nn wa q1 q2 m1 m2 k1 k2 qs qb ap an a1 a2 l1 l2 c1 c2 ws bs w g1 g2 HT.out.1 HT.out.2.1 hm1 hm2 h1 h2 HT.out.2.2.1 HT.out.2.2.2 hl1 hl2 hq ha
   ·exact specSuits_2 pl nn wa q1 q2 m1 m2 k1 k2 qs qb ap an a1 a2 l1 l2 c1 c2 ws bs w g1 g2 HT.out.1 HT.out.2.1 hm1 hm2 h1 h2 HT.out.2.2.1 HT.out.2.2.2 hl1 hl2 hq ha
   ·exact specSuits_3 pl nn wa q1 q2 m1 m2 k1 k2 qs qb ap an a1 a2 l1 l2 c1 c2 ws bs w g1 g2 HT.out.1 HT.out.2.1 hm1 hm2 h1 h2 HT.out.2.2.1 HT.out.2.2.2 hl1 hl2 hq ha
   ·exact specSuits_4 pl nn wa q1 q2 m1 m2 k1 k2 qs qb ap an a1 a2 l1 l2 c1 c2 ws bs w g1 g2 HT.out.1 HT.out.2.1 hm1 hm2 h1 h2 HT.out.2.2.1 HT.out.2.2.2 hl1 hl2 hq ha
   ·exact specSuits_5 pl nn wa q1 q2 m1 m2 k1 k2 qs qb ap an a1 a2 l1 l2 c1 c2 ws bs w g1 g2 HT.out.1 HT.out.2.1 hm1 hm2 h1 h2 HT.out.2.2.1 HT.out.2.2.2 hl1 hl2 hq ha
   ·exact specSuits_6 pl nn wa q1 q2 m1 m2 k1 k2 qs qb ap an a1 a2 l1 l2 c1 c2 ws bs w g1 g2 HT.out.1 HT.out.2.1 hm1 hm2 h1 h2 HT.out.2.2.1 HT.out.2.2.2 hl1 hl2 hq ha
   ·exact specSuits_15 pl nn wa q1 q2 m1 m2 k1 k2 qs qb ap an a1 a2 l1 l2 c1 c2 ws bs w g1 g2 HT.out.1 HT.out.2.1 hm1 hm2 h1 h2 HT.out.2.2.1 HT.out.2.2.2 hl1 hl2 hq ha
   ·exact specSuits_16 pl nn wa q1 q2 m1 m2 k1 k2 qs qb ap an a1 a2 l1 l2 c1 c2 ws bs w g1 g2 HT.out.1 HT.out.2.1 hm1 hm2 h1 h2 HT.out.2.2.1 HT.out.2.2.2 hl1 hl2 hq ha
   ·exact specSuits_22 pl nn wa q1 q2 m1 m2 k1 k2 qs qb ap an a1 a2 l1 l2 c1 c2 ws bs w g1 g2 HT.out.1 HT.out.2.1 hm1 hm2 h1 h2 HT.out.2.2.1 HT.out.2.2.2 hl1 hl2 hq ha
   exact specSuits_23 pl nn wa q1 q2 m1 m2 k1 k2 qs qb ap an a1 a2 l1 l2 c1 c2 ws bs w g1 g2 HT.out.1 HT.out.2.1 hm1 hm2 h1 h2 HT.out.2.2.1 HT.out.2.2.2 hl1 hl2 hq ha
  have HE : Hid (suB kd pl nn wa m1 m2 qs qb kd fl ap an l1 l2 ws bs = true) := by show _ = true; simp [suB, hq, ha, h0]
  have hp : 0 < fl := by unfold okA at ha; simp only [Bool.and_eq_true] at ha; have := inB_yes ha.2.1; omega
  clear hq ha
  go_enter Tryz.func50, Tryz.ntmps50
  go_upto_region 1 with fail
  rw [<- HW.out]
  go_wp2_with fail
  refine (specReqOk_q kd pl nn wa q1 q2 m1 m2 k1 k2 qs qb _ HL.out.1 HL.out.2.1 HS.out.1 HS.out.2.1 hm1 hm2).mono ?_
  rintro e w1 ⟨he, b'⟩
  rw [HQ.out] at he
  subst he
  have B1 := bel_next B0 b'
  have X1 := X0.below b'
  have Y1 := Y0.below b'
  have HS1 : Hid (SlI w1 q1 qs /\ SlB w1 q2 qb /\ SlI w1 a1 ws /\ SlB w1 a2 bs) := ⟨HS.out.1.below b', HS.out.2.1.below b', HS.out.2.2.1.below b', HS.out.2.2.2.below b'⟩
  clear b' B0 X0 Y0 x0 x1 x2 x3 x4 x5 y0 y1 y2 y3 y4 y5
  obtain ⟨x0, x1, x2, x3, x4, x5⟩ := X1.six
  obtain ⟨y0, y1, y2, y3, y4, y5⟩ := Y1.six
  go_wp2_with fail
  refine (specRespOk_q kd fl ap an a1 a2 l1 l2 c1 c2 ws bs _ HL.out.2.2.1 HL.out.2.2.2 HS1.out.2.2.1 HS1.out.2.2.2 hl1 hl2).mono ?_
  rintro e w2 ⟨he, b'⟩
  rw [HA.out] at he
  subst he
  have B2 := bel_next B1 b'
  have X2 := X1.below b'
  have Y2 := Y1.below b'
  have HS2 : Hid (SlI w2 q1 qs /\ SlB w2 q2 qb /\ SlI w2 a1 ws /\ SlB w2 a2 bs) := ⟨HS1.out.1.below b', HS1.out.2.1.below b', HS1.out.2.2.1.below b', HS1.out.2.2.2.below b'⟩
  clear b' B1 X1 Y1 x0 x1 x2 x3 x4 x5 y0 y1 y2 y3 y4 y5
  obtain ⟨x0, x1, x2, x3, x4, x5⟩ := X2.six
  obtain ⟨y0, y1, y2, y3, y4, y5⟩ := Y2.six
  go_wp2
  go_ret
  exact ⟨by rw [HE.out]; rfl, B2⟩
 have HE : Hid (suB kd pl nn wa m1 m2 qs qb kd' fl ap an l1 l2 ws bs = false) := by show _ = false; simp [suB, hk]
 have hkb : (kd == kd') = false := by simp [hk]
 clear hq ha
 go_enter Tryz.func50, Tryz.ntmps50
 go_upto_region 1 with fail
 rw [<- HW.out]
 go_wp2_with fail
 refine (specReqOk_q kd pl nn wa q1 q2 m1 m2 k1 k2 qs qb _ HL.out.1 HL.out.2.1 HS.out.1 HS.out.2.1 hm1 hm2).mono ?_
 rintro e w1 ⟨he, b'⟩
 rw [HQ.out] at he
 subst he
 have B1 := bel_next B0 b'
 have X1 := X0.below b'
 have Y1 := Y0.below b'
 have HS1 : Hid (SlI w1 q1 qs /\ SlB w1 q2 qb /\ SlI w1 a1 ws /\ SlB w1 a2 bs) := ⟨HS.out.1.below b', HS.out.2.1.below b', HS.out.2.2.1.below b', HS.out.2.2.2.below b'⟩
 clear b' B0 X0 Y0 x0 x1 x2 x3 x4 x5 y0 y1 y2 y3 y4 y5
 obtain ⟨x0, x1, x2, x3, x4, x5⟩ := X1.six
 obtain ⟨y0, y1, y2, y3, y4, y5⟩ := Y1.six
 go_wp2_with fail
 refine (specRespOk_q kd' fl ap an a1 a2 l1 l2 c1 c2 ws bs _ HL.out.2.2.1 HL.out.2.2.2 HS1.out.2.2.1 HS1.out.2.2.2 hl1 hl2).mono ?_
 rintro e w2 ⟨he, b'⟩
 rw [HA.out] at he
 subst he
 have B2 := bel_next B1 b'
 have X2 := X1.below b'
 have Y2 := Y1.below b'
 have HS2 : Hid (SlI w2 q1 qs /\ SlB w2 q2 qb /\ SlI w2 a1 ws /\ SlB w2 a2 bs) := ⟨HS1.out.1.below b', HS1.out.2.1.below b', HS1.out.2.2.1.below b', HS1.out.2.2.2.below b'⟩
 clear b' B1 X1 Y1 x0 x1 x2 x3 x4 x5 y0 y1 y2 y3 y4 y5
 obtain ⟨x0, x1, x2, x3, x4, x5⟩ := X2.six
 obtain ⟨y0, y1, y2, y3, y4, y5⟩ := Y2.six
 go_wp2
 go_ret
 exact ⟨by rw [HE.out]; rfl, B2⟩
end Go.Proofs.YtlhjiiifmfgnoaaGreat
