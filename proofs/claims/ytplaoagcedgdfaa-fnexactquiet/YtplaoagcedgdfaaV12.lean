/- Texts that the proof needs, joined: Tr15 A64 QuietL. -/
import Derived.Test.YtplaoagcedgdfaaV6
import Derived.Test.YtplaoagcedgdfaaV2
import Derived.Test.YtplaoagcedgdfaaV3
import Derived.Test.YtplaoagcedgdfaaV10
import Derived.Test.YtplaoagcedgdfaaV11
import Derived.Test.YtplaoagcedgdfaaV9
import Derived.Test.YtplaoagcedgdfaaV7
set_option linter.unusedVariables false
set_option linter.unusedSimpArgs false
set_option maxHeartbeats 8000000
set_option maxRecDepth 20000
namespace Go.Proofs.Ytplaoagcedgdfaa
open Go.RowKit Go.Joins
theorem lfT_yes {left t L : Nat} (h : L + t = left) : lfT left t = (L : Int) := by unfold lfT; rw [if_pos (by omega)]; omega
theorem lfT_no {left t : Nat} (h : left < t) : lfT left t = -1 := by unfold lfT; rw [if_neg (by omega)]
theorem lfo {n : Nat} {ar : Array Value} {w : World} {left t : Nat} {Q : World -> Prop} (h : Calls Try.prog n ar w fun e w' => e = .returned (.int .i64 (lfT left t)) /\ Q w') : Calls Try.prog n ar w fun e w' => Q w' /\ ((∃ L : Nat, Hid (L + t = left) /\ e = .returned (.int .i64 (L : Int))) \/ (Hid (left < t) /\ e = .returned (.int .i64 (-1)))) :=
 h.mono (by
  rintro e w' ⟨rfl, q⟩
  refine ⟨q, ?_⟩
  by_cases h : t <= left
  ·exact .inl ⟨left - t, (by show _ = _; omega), by rw [lfT_yes (L := left - t) (by omega)]⟩
  exact .inr ⟨(by show _ < _; omega), by rw [lfT_no (by omega)]⟩)
theorem szDevice_t (X : VI) (a1 : Option Addr) (l1 c1 : Nat) (a2 : Option Addr) (l2 c2 : Nat) (a3 : Option Addr) (l3 c3 : Nat) (a4 : Option Addr) (l4 c4 : Nat) (left : Nat) (w : World) (r1 : Rd w 0 (boolsT X.co) (.slice a1 l1 c1)) (r2 : Rd w 0 (boolsT X.ip) (.slice a2 l2 c2)) (r3 : Rd w 0 (intsT X.ho) (.slice a3 l3 c3)) (r4 : Rd w 0 (intsT X.wd) (.slice a4 l4 c4)) (hl : left <= 1048576) :
 Calls Try.prog 48 #[.agg (xdL X a1 l1 c1 a2 l2 c2 a3 l3 c3 a4 l4 c4).toArray, .int .i64 (left : Int)] w fun e w' => e = .returned (.int .i64 (lfT left (szT 4 (trs (xdT X))))) /\ Below w.heap.size w w' := by
 rw [show szT 4 (trs (xdT X)) = X.co.length + X.ip.length + X.ho.length + X.wd.length by simp only [szT_xd]; try omega]
 obtain ⟨W, hW⟩ : ∃ W, W = w.alloc (.cells (xdL X a1 l1 c1 a2 l2 c2 a3 l3 c3 a4 l4 c4).toArray 79) := ⟨_, rfl⟩
 have G0 := hide (And.intro (show Below w.heap.size w W by rw [hW]; exact bel_alloc _ _) (show Blk W w.heap.size 79 (xdL X a1 l1 c1 a2 l2 c2 a3 l3 c3 a4 l4 c4).toArray by rw [hW]; exact Blk.new _ _ _))
 have HR := hide (And.intro r1 <| And.intro r2 <| And.intro r3 <| And.intro r4 <| hl)
 clear hl r1 r2 r3 r4
 go_enter Try.func48, Try.ntmps48
 go_upto_region 1 with fail
 rw [<- hW]
 clear hW
 obtain ⟨⟨y0, y1, y2, y3⟩, -⟩ := G0.out.2.tc4
 go_wp2_with fail
 refine (lfo (szBoolS_t X.co a1 l1 c1 left _ (HR.out.1.below G0.out.1) HR.out.2.2.2.2)).mono ?_
 rintro e w1 ⟨b, ⟨L1, E1, rfl⟩ | ⟨E1, rfl⟩⟩
 rotate_left
 ·have B := bel_nx G0.out.1 b
  clear b y0 y1 y2 y3
  go_wp2
  go_ret
  exact ⟨by rw [lfT_no (by have := E1.out; omega)]; rfl, B⟩
 have G1 := hide (And.intro (bel_nx G0.out.1 b) (G0.out.2.below b))
 have n1 : ¬ ((L1 : Int) < 0) := by omega
 clear b y0 y1 y2 y3
 obtain ⟨⟨y0, y1, y2, y3⟩, -⟩ := G1.out.2.tc4
 go_wp2_with fail
 refine (lfo (szBoolS_t X.ip a2 l2 c2 L1 _ (HR.out.2.1.below G1.out.1) (by have := HR.out.2.2.2.2; have := E1.out; omega))).mono ?_
 rintro e w2 ⟨b, ⟨L2, E2, rfl⟩ | ⟨E2, rfl⟩⟩
 rotate_left
 ·have B := bel_nx G1.out.1 b
  clear b y0 y1 y2 y3
  go_wp2
  go_ret
  exact ⟨by rw [lfT_no (by have := E1.out; have := E2.out; omega)]; rfl, B⟩
 have G2 := hide (And.intro (bel_nx G1.out.1 b) (G1.out.2.below b))
 have n2 : ¬ ((L2 : Int) < 0) := by omega
 clear b y0 y1 y2 y3
 obtain ⟨⟨y0, y1, y2, y3⟩, -⟩ := G2.out.2.tc4
 go_wp2_with fail
 refine (lfo (szIntS_t X.ho a3 l3 c3 L2 _ (HR.out.2.2.1.below G2.out.1) (by have := HR.out.2.2.2.2; have := E1.out; have := E2.out; omega))).mono ?_
 rintro e w3 ⟨b, ⟨L3, E3, rfl⟩ | ⟨E3, rfl⟩⟩
 rotate_left
 ·have B := bel_nx G2.out.1 b
  clear b y0 y1 y2 y3
  go_wp2
  go_ret
  exact ⟨by rw [lfT_no (by have := E1.out; have := E2.out; have := E3.out; omega)]; rfl, B⟩
 have G3 := hide (And.intro (bel_nx G2.out.1 b) (G2.out.2.below b))
 have n3 : ¬ ((L3 : Int) < 0) := by omega
 clear b y0 y1 y2 y3
 obtain ⟨⟨y0, y1, y2, y3⟩, -⟩ := G3.out.2.tc4
 go_wp2_with fail
 refine (lfo (szIntS_t X.wd a4 l4 c4 L3 _ (HR.out.2.2.2.1.below G3.out.1) (by have := HR.out.2.2.2.2; have := E1.out; have := E2.out; have := E3.out; omega))).mono ?_
 rintro e w4 ⟨b, ⟨L4, E4, rfl⟩ | ⟨E4, rfl⟩⟩
 rotate_left
 ·have B := bel_nx G3.out.1 b
  clear b y0 y1 y2 y3
  go_wp2
  go_ret
  exact ⟨by rw [lfT_no (by have := E1.out; have := E2.out; have := E3.out; have := E4.out; omega)]; rfl, B⟩
 have G4 := hide (And.intro (bel_nx G3.out.1 b) (G3.out.2.below b))
 have n4 : ¬ ((L4 : Int) < 0) := by omega
 clear b y0 y1 y2 y3
 go_wp2
 go_ret
 exact ⟨by rw [lfT_yes (L := L4) (by have := E1.out; have := E2.out; have := E3.out; have := E4.out; omega)]; rfl, G4.out.1⟩
theorem szPost_t (X : VS) (a1 : Option Addr) (l1 c1 : Nat) (a2 : Option Addr) (l2 c2 : Nat) (a3 : Option Addr) (l3 c3 : Nat) (a4 : Option Addr) (l4 c4 : Nat) (left : Nat) (w : World) (r1 : Rd w 0 (boolsT X.d.co) (.slice a1 l1 c1)) (r2 : Rd w 0 (boolsT X.d.ip) (.slice a2 l2 c2)) (r3 : Rd w 0 (intsT X.d.ho) (.slice a3 l3 c3)) (r4 : Rd w 0 (intsT X.d.wd) (.slice a4 l4 c4)) (hl : left <= 1048576) :
 Calls Try.prog 27 #[.agg (xsL X a1 l1 c1 a2 l2 c2 a3 l3 c3 a4 l4 c4).toArray, .int .i64 (left : Int)] w fun e w' => e = .returned (.int .i64 (lfT left (szT 6 (trs (xsT X))))) /\ Below w.heap.size w w' := by
 rw [show szT 6 (trs (xsT X)) = szT 4 (trs (xdT X.d)) by simp only [szT_xs, szT_xd]; try omega]
 obtain ⟨W, hW⟩ : ∃ W, W = w.alloc (.cells (xsL X a1 l1 c1 a2 l2 c2 a3 l3 c3 a4 l4 c4).toArray 81) := ⟨_, rfl⟩
 have G0 := hide (And.intro (show Below w.heap.size w W by rw [hW]; exact bel_alloc _ _) (show Blk W w.heap.size 81 (xsL X a1 l1 c1 a2 l2 c2 a3 l3 c3 a4 l4 c4).toArray by rw [hW]; exact Blk.new _ _ _))
 have HR := hide (And.intro r1 <| And.intro r2 <| And.intro r3 <| And.intro r4 <| hl)
 clear hl r1 r2 r3 r4
 go_enter Try.func27, Try.ntmps27
 go_upto_region 1 with fail
 rw [<- hW]
 clear hW
 obtain ⟨⟨y0, y1, y2, y3, y4, y5⟩, -⟩ := G0.out.2.tc6
 go_wp2_with fail
 refine (lfo (szDevice_t X.d a1 l1 c1 a2 l2 c2 a3 l3 c3 a4 l4 c4 left _ (HR.out.1.below G0.out.1) (HR.out.2.1.below G0.out.1) (HR.out.2.2.1.below G0.out.1) (HR.out.2.2.2.1.below G0.out.1) HR.out.2.2.2.2)).mono ?_
 rintro e w1 ⟨b, ⟨L1, E1, rfl⟩ | ⟨E1, rfl⟩⟩
 rotate_left
 ·have B := bel_nx G0.out.1 b
  clear b y0 y1 y2 y3 y4 y5
  go_wp2
  go_ret
  exact ⟨by rw [lfT_no (by have := E1.out; omega)]; rfl, B⟩
 have G1 := hide (And.intro (bel_nx G0.out.1 b) (G0.out.2.below b))
 have n1 : ¬ ((L1 : Int) < 0) := by omega
 clear b y0 y1 y2 y3 y4 y5
 go_wp2
 go_ret
 exact ⟨by rw [lfT_yes (L := L1) (by have := E1.out; omega)]; rfl, G1.out.1⟩
theorem szPostS_t (n : Nat) (f : Nat -> VS) (a : Option Addr) (n' cap : Nat) (left : Nat) (w : World) (hs : Rd w 0 (.list 6 n (fun k => trs (xsT (f k)))) (.slice a n' cap)) (hl : left <= 1048576) :
 Calls Try.prog 10 #[.slice a n' cap, .int .i64 (left : Int)] w fun e w' => e = .returned (.int .i64 (lfT left (Tr.list 6 n (fun k => trs (xsT (f k)))).sz)) /\ Below w.heap.size w w' := by
 obtain ⟨a9, c9, h9, -, hn⟩ := hs.shape
 simp only [Value.slice.injEq] at h9
 obtain ⟨-, rfl, -⟩ := h9
 clear a9 c9
 unfold maxLen at hn
 have w1 : IntKind.i64.wrap ((left : Int) - (n' : Int)) = (left : Int) - (n' : Int) := by rw [IntKind.wrap_i64]; omega
 obtain ⟨g, hg⟩ : ∃ g : Nat -> Nat, g = fun k => szT 6 (trs (xsT (f k))) := ⟨_, rfl⟩
 have HT : Hid ((Tr.list 6 n' (fun k => trs (xsT (f k)))).sz = n' + sumN n' g) := by show _ = _; rw [hg]; exact Tr.sz_list _ _ _
 have HG : Hid (∀ k, g k = szT 6 (trs (xsT (f k)))) := by show ∀ k, g k = _; intro k; rw [hg]
 clear hg
 by_cases h0 : n' <= left
 ·have h1 : ¬ ((left : Int) - (n' : Int) < 0) := by omega
  have HS : Hid (Rd w 0 (.list 6 n' (fun k => trs (xsT (f k)))) (.slice a n' cap)) := hs
  have HL : Hid (left <= 1048576) := hl
  clear hs hn
  go_enter Try.func10, Try.ntmps10
  go_wp2
  go_loopw [1, 5] (fun lv i wr => ∃ k : Nat, k <= n' /\ i = .int .i64 k /\ n' + sumN k g <= left /\ lv = .int .i64 ((left : Int) - (n' : Int) - (sumN k g : Int)) /\ Below w.heap.size w wr) (fun _ i _ => n' - (intOf i).toNat)
  case atStart => exact ⟨0, Nat.zero_le _, rfl, by simp [sumN]; omega, by simp [sumN], Below.refl _ _⟩
  case round =>
   obtain ⟨k, hk, rfl, ht, rfl, hb⟩ := hrel
   by_cases hlt : k < n'
   ·have hi : (k : Int) < (n' : Int) := by omega
    obtain ⟨b, off, vs, rfl, _, hb0, hlen, hr, hrd⟩ := (HS.out.below hb).at hlt
    obtain ⟨a1, c1, a2, c2, a3, c3, a4, c4, rfl, r1, r2, r3, r4⟩ := VS.cells hrd hlen
    clear hlen hrd
    have d0 : wr.cell? ⟨b, off + k * 6, none⟩ = _ := hr 0 _ rfl
    have d1 : wr.cell? ⟨b, off + k * 6 + 1, none⟩ = _ := hr 1 _ rfl
    have d2 : wr.cell? ⟨b, off + k * 6 + 2, none⟩ = _ := hr 2 _ rfl
    have d3 : wr.cell? ⟨b, off + k * 6 + 3, none⟩ = _ := hr 3 _ rfl
    have d4 : wr.cell? ⟨b, off + k * 6 + 4, none⟩ = _ := hr 4 _ rfl
    have d5 : wr.cell? ⟨b, off + k * 6 + 5, none⟩ = _ := hr 5 _ rfl
    obtain ⟨lf, hlf⟩ : ∃ lf : Nat, (lf : Int) = (left : Int) - (n' : Int) - (sumN k g : Int) := ⟨left - n' - sumN k g, by omega⟩
    rw [<- hlf]
    have HK := hide (And.intro hlf <| And.intro hb <| And.intro r1 <| And.intro r2 <| And.intro r3 <| r4)
    have hl9 : lf <= 1048576 := by have := HL.out; omega
    clear hlf hb HS hr hb0 r1 r2 r3 r4
    go_wp2_with fail
    refine (lfo (szPost_t (f k) a1 ((f k).d.co.length) c1 a2 ((f k).d.ip.length) c2 a3 ((f k).d.ho.length) c3 a4 ((f k).d.wd.length) c4 lf _ HK.out.2.2.1 HK.out.2.2.2.1 HK.out.2.2.2.2.1 HK.out.2.2.2.2.2 hl9)).mono ?_
    rintro e w2 ⟨b2, ⟨lg, E, rfl⟩ | ⟨E, rfl⟩⟩
    rotate_left
    ·have HF : Hid (lfT left (Tr.list 6 n' (fun k => trs (xsT (f k)))).sz = -1) := by
      have h9 := HK.out.1
      have h8 := sumN_mono g (show k + 1 <= n' by omega)
      have h7 := E.out
      have h6 : sumN (k + 1) g = sumN k g + g k := rfl
      rw [<- HG.out k] at h7
      show _ = _
      rw [HT.out, lfT_no (by omega)]
     have HB := bel_nx HK.out.2.1 b2
     clear b2 E d0 d1 d2 d3 d4 d5
     go_wp2
     go_ret
     exact ⟨(by rw [HF.out]; rfl), HB⟩
    have HF : Hid ((lg : Int) = (left : Int) - (n' : Int) - (sumN (k + 1) g : Int) /\ n' + sumN (k + 1) g <= left) := by
     have h9 := HK.out.1
     have h7 := E.out
     have h6 : sumN (k + 1) g = sumN k g + g k := rfl
     rw [<- HG.out k] at h7
     exact ⟨by omega, by omega⟩
    have hx0 : ¬ ((lg : Int) < 0) := by omega
    have HB : Hid (Below w.heap.size w w2) := bel_nx HK.out.2.1 b2
    clear b2 E ht d0 d1 d2 d3 d4 d5
    go_wp2
    go_roundw
    case rel => exact ⟨k + 1, by omega, by go_num, HF.out.2, by rw [HF.out.1], HB.out⟩
    case measure => simp [intOf]; omega
   have hi : ¬ (k : Int) < (n' : Int) := by omega
   have e9 : k = n' := by omega
   subst e9
   have HE : Hid (lfT left (Tr.list 6 k (fun k => trs (xsT (f k)))).sz = (left : Int) - (k : Int) - (sumN k g : Int)) := by
    show _ = _
    rw [HT.out]; unfold lfT; rw [if_pos ht]; omega
   clear ht
   go_wp2
   go_ret
   exact ⟨(by rw [HE.out]; rfl), hb⟩
 have h1 : (left : Int) - (n' : Int) < 0 := by omega
 have HE : Hid (lfT left (Tr.list 6 n' (fun k => trs (xsT (f k)))).sz = -1) := by
  show _ = _
  rw [HT.out]; unfold lfT; rw [if_neg (by omega)]
 clear hs hn hl
 go_enter Try.func10, Try.ntmps10
 go_wp2
 go_ret
 exact ⟨(by rw [HE.out]; rfl), Below.refl _ _⟩
theorem szPacket_t (X : VK) (a1 : Option Addr) (l1 c1 : Nat) (a2 : Option Addr) (l2 c2 : Nat) (a3 : Option Addr) (l3 c3 : Nat) (a4 : Option Addr) (l4 c4 : Nat) (left : Nat) (w : World) (r1 : Rd w 0 (intsT X.q.ws) (.slice a1 l1 c1)) (r2 : Rd w 0 (boolsT X.q.bs) (.slice a2 l2 c2)) (r3 : Rd w 0 (intsT X.a.ws) (.slice a3 l3 c3)) (r4 : Rd w 0 (boolsT X.a.bs) (.slice a4 l4 c4)) (hl : left <= 1048576) :
 Calls Try.prog 28 #[.agg (xkL X a1 l1 c1 a2 l2 c2 a3 l3 c3 a4 l4 c4).toArray, .int .i64 (left : Int)] w fun e w' => e = .returned (.int .i64 (lfT left (szT 16 (trs (xkT X))))) /\ Below w.heap.size w w' := by
 rw [show szT 16 (trs (xkT X)) = szT 6 (trs (qT X.q)) + szT 6 (trs (aT X.a)) by simp only [szT_xk, szT_q, szT_a]; try omega]
 obtain ⟨W, hW⟩ : ∃ W, W = w.alloc (.cells (xkL X a1 l1 c1 a2 l2 c2 a3 l3 c3 a4 l4 c4).toArray 88) := ⟨_, rfl⟩
 have G0 := hide (And.intro (show Below w.heap.size w W by rw [hW]; exact bel_alloc _ _) (show Blk W w.heap.size 88 (xkL X a1 l1 c1 a2 l2 c2 a3 l3 c3 a4 l4 c4).toArray by rw [hW]; exact Blk.new _ _ _))
 have HR := hide (And.intro r1 <| And.intro r2 <| And.intro r3 <| And.intro r4 <| hl)
 clear hl r1 r2 r3 r4
 go_enter Try.func28, Try.ntmps28
 go_upto_region 1 with fail
 rw [<- hW]
 clear hW
 obtain ⟨⟨y0, y1, y2, y3, y4, y5, y6, y7, y8, y9, y10, y11, y12, y13, y14, y15⟩, -⟩ := G0.out.2.tc16
 go_wp2_with fail
 refine (lfo (szReq_t X.q a1 l1 c1 a2 l2 c2 left _ (HR.out.1.below G0.out.1) (HR.out.2.1.below G0.out.1) HR.out.2.2.2.2)).mono ?_
 rintro e w1 ⟨b, ⟨L1, E1, rfl⟩ | ⟨E1, rfl⟩⟩
 rotate_left
 ·have B := bel_nx G0.out.1 b
  clear b y0 y1 y2 y3 y4 y5 y6 y7 y8 y9 y10 y11 y12 y13 y14 y15
  go_wp2
  go_ret
  exact ⟨by rw [lfT_no (by have := E1.out; omega)]; rfl, B⟩
 have G1 := hide (And.intro (bel_nx G0.out.1 b) (G0.out.2.below b))
 have n1 : ¬ ((L1 : Int) < 0) := by omega
 clear b y0 y1 y2 y3 y4 y5 y6 y7 y8 y9 y10 y11 y12 y13 y14 y15
 obtain ⟨⟨y0, y1, y2, y3, y4, y5, y6, y7, y8, y9, y10, y11, y12, y13, y14, y15⟩, -⟩ := G1.out.2.tc16
 go_wp2_with fail
 refine (lfo (szResp_t X.a a3 l3 c3 a4 l4 c4 L1 _ (HR.out.2.2.1.below G1.out.1) (HR.out.2.2.2.1.below G1.out.1) (by have := HR.out.2.2.2.2; have := E1.out; omega))).mono ?_
 rintro e w2 ⟨b, ⟨L2, E2, rfl⟩ | ⟨E2, rfl⟩⟩
 rotate_left
 ·have B := bel_nx G1.out.1 b
  clear b y0 y1 y2 y3 y4 y5 y6 y7 y8 y9 y10 y11 y12 y13 y14 y15
  go_wp2
  go_ret
  exact ⟨by rw [lfT_no (by have := E1.out; have := E2.out; omega)]; rfl, B⟩
 have G2 := hide (And.intro (bel_nx G1.out.1 b) (G1.out.2.below b))
 have n2 : ¬ ((L2 : Int) < 0) := by omega
 clear b y0 y1 y2 y3 y4 y5 y6 y7 y8 y9 y10 y11 y12 y13 y14 y15
 go_wp2
 go_ret
 exact ⟨by rw [lfT_yes (L := L2) (by have := E1.out; have := E2.out; omega)]; rfl, G2.out.1⟩
theorem szPacketS_t (n : Nat) (f : Nat -> VK) (a : Option Addr) (n' cap : Nat) (left : Nat) (w : World) (hs : Rd w 0 (.list 16 n (fun k => trs (xkT (f k)))) (.slice a n' cap)) (hl : left <= 1048576) :
 Calls Try.prog 11 #[.slice a n' cap, .int .i64 (left : Int)] w fun e w' => e = .returned (.int .i64 (lfT left (Tr.list 16 n (fun k => trs (xkT (f k)))).sz)) /\ Below w.heap.size w w' := by
 obtain ⟨a9, c9, h9, -, hn⟩ := hs.shape
 simp only [Value.slice.injEq] at h9
 obtain ⟨-, rfl, -⟩ := h9
 clear a9 c9
 unfold maxLen at hn
 have w1 : IntKind.i64.wrap ((left : Int) - (n' : Int)) = (left : Int) - (n' : Int) := by rw [IntKind.wrap_i64]; omega
 obtain ⟨g, hg⟩ : ∃ g : Nat -> Nat, g = fun k => szT 16 (trs (xkT (f k))) := ⟨_, rfl⟩
 have HT : Hid ((Tr.list 16 n' (fun k => trs (xkT (f k)))).sz = n' + sumN n' g) := by show _ = _; rw [hg]; exact Tr.sz_list _ _ _
 have HG : Hid (∀ k, g k = szT 16 (trs (xkT (f k)))) := by show ∀ k, g k = _; intro k; rw [hg]
 clear hg
 by_cases h0 : n' <= left
 ·have h1 : ¬ ((left : Int) - (n' : Int) < 0) := by omega
  have HS : Hid (Rd w 0 (.list 16 n' (fun k => trs (xkT (f k)))) (.slice a n' cap)) := hs
  have HL : Hid (left <= 1048576) := hl
  clear hs hn
  go_enter Try.func11, Try.ntmps11
  go_wp2
  go_loopw [1, 5] (fun lv i wr => ∃ k : Nat, k <= n' /\ i = .int .i64 k /\ n' + sumN k g <= left /\ lv = .int .i64 ((left : Int) - (n' : Int) - (sumN k g : Int)) /\ Below w.heap.size w wr) (fun _ i _ => n' - (intOf i).toNat)
  case atStart => exact ⟨0, Nat.zero_le _, rfl, by simp [sumN]; omega, by simp [sumN], Below.refl _ _⟩
  case round =>
   obtain ⟨k, hk, rfl, ht, rfl, hb⟩ := hrel
   by_cases hlt : k < n'
   ·have hi : (k : Int) < (n' : Int) := by omega
    obtain ⟨b, off, vs, rfl, _, hb0, hlen, hr, hrd⟩ := (HS.out.below hb).at hlt
    obtain ⟨a1, c1, a2, c2, a3, c3, a4, c4, rfl, r1, r2, r3, r4⟩ := VK.cells hrd hlen
    clear hlen hrd
    have d0 : wr.cell? ⟨b, off + k * 16, none⟩ = _ := hr 0 _ rfl
    have d1 : wr.cell? ⟨b, off + k * 16 + 1, none⟩ = _ := hr 1 _ rfl
    have d2 : wr.cell? ⟨b, off + k * 16 + 2, none⟩ = _ := hr 2 _ rfl
    have d3 : wr.cell? ⟨b, off + k * 16 + 3, none⟩ = _ := hr 3 _ rfl
    have d4 : wr.cell? ⟨b, off + k * 16 + 4, none⟩ = _ := hr 4 _ rfl
    have d5 : wr.cell? ⟨b, off + k * 16 + 5, none⟩ = _ := hr 5 _ rfl
    have d6 : wr.cell? ⟨b, off + k * 16 + 6, none⟩ = _ := hr 6 _ rfl
    have d7 : wr.cell? ⟨b, off + k * 16 + 7, none⟩ = _ := hr 7 _ rfl
    have d8 : wr.cell? ⟨b, off + k * 16 + 8, none⟩ = _ := hr 8 _ rfl
    have d9 : wr.cell? ⟨b, off + k * 16 + 9, none⟩ = _ := hr 9 _ rfl
    have d10 : wr.cell? ⟨b, off + k * 16 + 10, none⟩ = _ := hr 10 _ rfl
    have d11 : wr.cell? ⟨b, off + k * 16 + 11, none⟩ = _ := hr 11 _ rfl
    have d12 : wr.cell? ⟨b, off + k * 16 + 12, none⟩ = _ := hr 12 _ rfl
    have d13 : wr.cell? ⟨b, off + k * 16 + 13, none⟩ = _ := hr 13 _ rfl
    have d14 : wr.cell? ⟨b, off + k * 16 + 14, none⟩ = _ := hr 14 _ rfl
    have d15 : wr.cell? ⟨b, off + k * 16 + 15, none⟩ = _ := hr 15 _ rfl
    obtain ⟨lf, hlf⟩ : ∃ lf : Nat, (lf : Int) = (left : Int) - (n' : Int) - (sumN k g : Int) := ⟨left - n' - sumN k g, by omega⟩
    rw [<- hlf]
    have HK := hide (And.intro hlf <| And.intro hb <| And.intro r1 <| And.intro r2 <| And.intro r3 <| r4)
    have hl9 : lf <= 1048576 := by have := HL.out; omega
    clear hlf hb HS hr hb0 r1 r2 r3 r4
    go_wp2_with fail
    refine (lfo (szPacket_t (f k) a1 ((f k).q.ws.length) c1 a2 ((f k).q.bs.length) c2 a3 ((f k).a.ws.length) c3 a4 ((f k).a.bs.length) c4 lf _ HK.out.2.2.1 HK.out.2.2.2.1 HK.out.2.2.2.2.1 HK.out.2.2.2.2.2 hl9)).mono ?_
    rintro e w2 ⟨b2, ⟨lg, E, rfl⟩ | ⟨E, rfl⟩⟩
    rotate_left
    ·have HF : Hid (lfT left (Tr.list 16 n' (fun k => trs (xkT (f k)))).sz = -1) := by
      have h9 := HK.out.1
      have h8 := sumN_mono g (show k + 1 <= n' by omega)
      have h7 := E.out
      have h6 : sumN (k + 1) g = sumN k g + g k := rfl
      rw [<- HG.out k] at h7
      show _ = _
      rw [HT.out, lfT_no (by omega)]
     have HB := bel_nx HK.out.2.1 b2
     clear b2 E d0 d1 d2 d3 d4 d5 d6 d7 d8 d9 d10 d11 d12 d13 d14 d15
     go_wp2
     go_ret
     exact ⟨(by rw [HF.out]; rfl), HB⟩
    have HF : Hid ((lg : Int) = (left : Int) - (n' : Int) - (sumN (k + 1) g : Int) /\ n' + sumN (k + 1) g <= left) := by
     have h9 := HK.out.1
     have h7 := E.out
     have h6 : sumN (k + 1) g = sumN k g + g k := rfl
     rw [<- HG.out k] at h7
     exact ⟨by omega, by omega⟩
    have hx0 : ¬ ((lg : Int) < 0) := by omega
    have HB : Hid (Below w.heap.size w w2) := bel_nx HK.out.2.1 b2
    clear b2 E ht d0 d1 d2 d3 d4 d5 d6 d7 d8 d9 d10 d11 d12 d13 d14 d15
    go_wp2
    go_roundw
    case rel => exact ⟨k + 1, by omega, by go_num, HF.out.2, by rw [HF.out.1], HB.out⟩
    case measure => simp [intOf]; omega
   have hi : ¬ (k : Int) < (n' : Int) := by omega
   have e9 : k = n' := by omega
   subst e9
   have HE : Hid (lfT left (Tr.list 16 k (fun k => trs (xkT (f k)))).sz = (left : Int) - (k : Int) - (sumN k g : Int)) := by
    show _ = _
    rw [HT.out]; unfold lfT; rw [if_pos ht]; omega
   clear ht
   go_wp2
   go_ret
   exact ⟨(by rw [HE.out]; rfl), hb⟩
 have h1 : (left : Int) - (n' : Int) < 0 := by omega
 have HE : Hid (lfT left (Tr.list 16 n' (fun k => trs (xkT (f k)))).sz = -1) := by
  show _ = _
  rw [HT.out]; unfold lfT; rw [if_neg (by omega)]
 clear hs hn hl
 go_enter Try.func11, Try.ntmps11
 go_wp2
 go_ret
 exact ⟨(by rw [HE.out]; rfl), Below.refl _ _⟩
theorem szReply_t (X : VR) (a1 : Option Addr) (l1 c1 : Nat) (a2 : Option Addr) (l2 c2 : Nat) (a3 : Option Addr) (l3 c3 : Nat) (a4 : Option Addr) (l4 c4 : Nat) (a5 : Option Addr) (l5 c5 : Nat) (a6 : Option Addr) (l6 c6 : Nat) (left : Nat) (w : World) (r1 : Rd w 0 (intsT X.q.ws) (.slice a1 l1 c1)) (r2 : Rd w 0 (boolsT X.q.bs) (.slice a2 l2 c2)) (r3 : Rd w 0 (.list 8 X.np (fun i => trs (pT (X.pt i)))) (.slice a3 l3 c3)) (r4 : Rd w 0 (.list 6 X.nt (fun i => trs (aT (X.tl i)))) (.slice a4 l4 c4)) (r5 : Rd w 0 (intsT X.a.ws) (.slice a5 l5 c5)) (r6 : Rd w 0 (boolsT X.a.bs) (.slice a6 l6 c6)) (hl : left <= 1048576) :
 Calls Try.prog 29 #[.agg (xyL X a1 l1 c1 a2 l2 c2 a3 l3 c3 a4 l4 c4 a5 l5 c5 a6 l6 c6).toArray, .int .i64 (left : Int)] w fun e w' => e = .returned (.int .i64 (lfT left (szT 16 (trs (xyT X))))) /\ Below w.heap.size w w' := by
 rw [show szT 16 (trs (xyT X)) = szT 6 (trs (qT X.q)) + (Tr.list 8 X.np (fun i => trs (pT (X.pt i)))).sz + (Tr.list 6 X.nt (fun i => trs (aT (X.tl i)))).sz + szT 6 (trs (aT X.a)) by simp only [szT_xy, szT_q, szT_a]; try omega]
 obtain ⟨W, hW⟩ : ∃ W, W = w.alloc (.cells (xyL X a1 l1 c1 a2 l2 c2 a3 l3 c3 a4 l4 c4 a5 l5 c5 a6 l6 c6).toArray 93) := ⟨_, rfl⟩
 have G0 := hide (And.intro (show Below w.heap.size w W by rw [hW]; exact bel_alloc _ _) (show Blk W w.heap.size 93 (xyL X a1 l1 c1 a2 l2 c2 a3 l3 c3 a4 l4 c4 a5 l5 c5 a6 l6 c6).toArray by rw [hW]; exact Blk.new _ _ _))
 have HR := hide (And.intro r1 <| And.intro r2 <| And.intro r3 <| And.intro r4 <| And.intro r5 <| And.intro r6 <| hl)
 clear hl r1 r2 r3 r4 r5 r6
 go_enter Try.func29, Try.ntmps29
 go_upto_region 1 with fail
 rw [<- hW]
 clear hW
 obtain ⟨⟨y0, y1, y2, y3, y4, y5, y6, y7, y8, y9, y10, y11, y12, y13, y14, y15⟩, -⟩ := G0.out.2.tc16
 go_wp2_with fail
 refine (lfo (szReq_t X.q a1 l1 c1 a2 l2 c2 left _ (HR.out.1.below G0.out.1) (HR.out.2.1.below G0.out.1) HR.out.2.2.2.2.2.2)).mono ?_
 rintro e w1 ⟨b, ⟨L1, E1, rfl⟩ | ⟨E1, rfl⟩⟩
 rotate_left
 ·have B := bel_nx G0.out.1 b
  clear b y0 y1 y2 y3 y4 y5 y6 y7 y8 y9 y10 y11 y12 y13 y14 y15
  go_wp2
  go_ret
  exact ⟨by rw [lfT_no (by have := E1.out; omega)]; rfl, B⟩
 have G1 := hide (And.intro (bel_nx G0.out.1 b) (G0.out.2.below b))
 have n1 : ¬ ((L1 : Int) < 0) := by omega
 clear b y0 y1 y2 y3 y4 y5 y6 y7 y8 y9 y10 y11 y12 y13 y14 y15
 obtain ⟨⟨y0, y1, y2, y3, y4, y5, y6, y7, y8, y9, y10, y11, y12, y13, y14, y15⟩, -⟩ := G1.out.2.tc16
 go_wp2_with fail
 refine (lfo (szPartS_t X.np X.pt a3 l3 c3 L1 _ (HR.out.2.2.1.below G1.out.1) (by have := HR.out.2.2.2.2.2.2; have := E1.out; omega))).mono ?_
 rintro e w2 ⟨b, ⟨L2, E2, rfl⟩ | ⟨E2, rfl⟩⟩
 rotate_left
 ·have B := bel_nx G1.out.1 b
  clear b y0 y1 y2 y3 y4 y5 y6 y7 y8 y9 y10 y11 y12 y13 y14 y15
  go_wp2
  go_ret
  exact ⟨by rw [lfT_no (by have := E1.out; have := E2.out; omega)]; rfl, B⟩
 have G2 := hide (And.intro (bel_nx G1.out.1 b) (G1.out.2.below b))
 have n2 : ¬ ((L2 : Int) < 0) := by omega
 clear b y0 y1 y2 y3 y4 y5 y6 y7 y8 y9 y10 y11 y12 y13 y14 y15
 obtain ⟨⟨y0, y1, y2, y3, y4, y5, y6, y7, y8, y9, y10, y11, y12, y13, y14, y15⟩, -⟩ := G2.out.2.tc16
 go_wp2_with fail
 refine (lfo (szRespS_t X.nt X.tl a4 l4 c4 L2 _ (HR.out.2.2.2.1.below G2.out.1) (by have := HR.out.2.2.2.2.2.2; have := E1.out; have := E2.out; omega))).mono ?_
 rintro e w3 ⟨b, ⟨L3, E3, rfl⟩ | ⟨E3, rfl⟩⟩
 rotate_left
 ·have B := bel_nx G2.out.1 b
  clear b y0 y1 y2 y3 y4 y5 y6 y7 y8 y9 y10 y11 y12 y13 y14 y15
  go_wp2
  go_ret
  exact ⟨by rw [lfT_no (by have := E1.out; have := E2.out; have := E3.out; omega)]; rfl, B⟩
 have G3 := hide (And.intro (bel_nx G2.out.1 b) (G2.out.2.below b))
 have n3 : ¬ ((L3 : Int) < 0) := by omega
 clear b y0 y1 y2 y3 y4 y5 y6 y7 y8 y9 y10 y11 y12 y13 y14 y15
 obtain ⟨⟨y0, y1, y2, y3, y4, y5, y6, y7, y8, y9, y10, y11, y12, y13, y14, y15⟩, -⟩ := G3.out.2.tc16
 go_wp2_with fail
 refine (lfo (szResp_t X.a a5 l5 c5 a6 l6 c6 L3 _ (HR.out.2.2.2.2.1.below G3.out.1) (HR.out.2.2.2.2.2.1.below G3.out.1) (by have := HR.out.2.2.2.2.2.2; have := E1.out; have := E2.out; have := E3.out; omega))).mono ?_
 rintro e w4 ⟨b, ⟨L4, E4, rfl⟩ | ⟨E4, rfl⟩⟩
 rotate_left
 ·have B := bel_nx G3.out.1 b
  clear b y0 y1 y2 y3 y4 y5 y6 y7 y8 y9 y10 y11 y12 y13 y14 y15
  go_wp2
  go_ret
  exact ⟨by rw [lfT_no (by have := E1.out; have := E2.out; have := E3.out; have := E4.out; omega)]; rfl, B⟩
 have G4 := hide (And.intro (bel_nx G3.out.1 b) (G3.out.2.below b))
 have n4 : ¬ ((L4 : Int) < 0) := by omega
 clear b y0 y1 y2 y3 y4 y5 y6 y7 y8 y9 y10 y11 y12 y13 y14 y15
 go_wp2
 go_ret
 exact ⟨by rw [lfT_yes (L := L4) (by have := E1.out; have := E2.out; have := E3.out; have := E4.out; omega)]; rfl, G4.out.1⟩
theorem szReplyS_t (n : Nat) (f : Nat -> VR) (a : Option Addr) (n' cap : Nat) (left : Nat) (w : World) (hs : Rd w 0 (.list 16 n (fun k => trs (xyT (f k)))) (.slice a n' cap)) (hl : left <= 1048576) :
 Calls Try.prog 12 #[.slice a n' cap, .int .i64 (left : Int)] w fun e w' => e = .returned (.int .i64 (lfT left (Tr.list 16 n (fun k => trs (xyT (f k)))).sz)) /\ Below w.heap.size w w' := by
 obtain ⟨a9, c9, h9, -, hn⟩ := hs.shape
 simp only [Value.slice.injEq] at h9
 obtain ⟨-, rfl, -⟩ := h9
 clear a9 c9
 unfold maxLen at hn
 have w1 : IntKind.i64.wrap ((left : Int) - (n' : Int)) = (left : Int) - (n' : Int) := by rw [IntKind.wrap_i64]; omega
 obtain ⟨g, hg⟩ : ∃ g : Nat -> Nat, g = fun k => szT 16 (trs (xyT (f k))) := ⟨_, rfl⟩
 have HT : Hid ((Tr.list 16 n' (fun k => trs (xyT (f k)))).sz = n' + sumN n' g) := by show _ = _; rw [hg]; exact Tr.sz_list _ _ _
 have HG : Hid (∀ k, g k = szT 16 (trs (xyT (f k)))) := by show ∀ k, g k = _; intro k; rw [hg]
 clear hg
 by_cases h0 : n' <= left
 ·have h1 : ¬ ((left : Int) - (n' : Int) < 0) := by omega
  have HS : Hid (Rd w 0 (.list 16 n' (fun k => trs (xyT (f k)))) (.slice a n' cap)) := hs
  have HL : Hid (left <= 1048576) := hl
  clear hs hn
  go_enter Try.func12, Try.ntmps12
  go_wp2
  go_loopw [1, 5] (fun lv i wr => ∃ k : Nat, k <= n' /\ i = .int .i64 k /\ n' + sumN k g <= left /\ lv = .int .i64 ((left : Int) - (n' : Int) - (sumN k g : Int)) /\ Below w.heap.size w wr) (fun _ i _ => n' - (intOf i).toNat)
  case atStart => exact ⟨0, Nat.zero_le _, rfl, by simp [sumN]; omega, by simp [sumN], Below.refl _ _⟩
  case round =>
   obtain ⟨k, hk, rfl, ht, rfl, hb⟩ := hrel
   by_cases hlt : k < n'
   ·have hi : (k : Int) < (n' : Int) := by omega
    obtain ⟨b, off, vs, rfl, _, hb0, hlen, hr, hrd⟩ := (HS.out.below hb).at hlt
    obtain ⟨a1, c1, a2, c2, a3, c3, a4, c4, a5, c5, a6, c6, rfl, r1, r2, r3, r4, r5, r6⟩ := VR.cells hrd hlen
    clear hlen hrd
    have d0 : wr.cell? ⟨b, off + k * 16, none⟩ = _ := hr 0 _ rfl
    have d1 : wr.cell? ⟨b, off + k * 16 + 1, none⟩ = _ := hr 1 _ rfl
    have d2 : wr.cell? ⟨b, off + k * 16 + 2, none⟩ = _ := hr 2 _ rfl
    have d3 : wr.cell? ⟨b, off + k * 16 + 3, none⟩ = _ := hr 3 _ rfl
    have d4 : wr.cell? ⟨b, off + k * 16 + 4, none⟩ = _ := hr 4 _ rfl
    have d5 : wr.cell? ⟨b, off + k * 16 + 5, none⟩ = _ := hr 5 _ rfl
    have d6 : wr.cell? ⟨b, off + k * 16 + 6, none⟩ = _ := hr 6 _ rfl
    have d7 : wr.cell? ⟨b, off + k * 16 + 7, none⟩ = _ := hr 7 _ rfl
    have d8 : wr.cell? ⟨b, off + k * 16 + 8, none⟩ = _ := hr 8 _ rfl
    have d9 : wr.cell? ⟨b, off + k * 16 + 9, none⟩ = _ := hr 9 _ rfl
    have d10 : wr.cell? ⟨b, off + k * 16 + 10, none⟩ = _ := hr 10 _ rfl
    have d11 : wr.cell? ⟨b, off + k * 16 + 11, none⟩ = _ := hr 11 _ rfl
    have d12 : wr.cell? ⟨b, off + k * 16 + 12, none⟩ = _ := hr 12 _ rfl
    have d13 : wr.cell? ⟨b, off + k * 16 + 13, none⟩ = _ := hr 13 _ rfl
    have d14 : wr.cell? ⟨b, off + k * 16 + 14, none⟩ = _ := hr 14 _ rfl
    have d15 : wr.cell? ⟨b, off + k * 16 + 15, none⟩ = _ := hr 15 _ rfl
    obtain ⟨lf, hlf⟩ : ∃ lf : Nat, (lf : Int) = (left : Int) - (n' : Int) - (sumN k g : Int) := ⟨left - n' - sumN k g, by omega⟩
    rw [<- hlf]
    have HK := hide (And.intro hlf <| And.intro hb <| And.intro r1 <| And.intro r2 <| And.intro r3 <| And.intro r4 <| And.intro r5 <| r6)
    have hl9 : lf <= 1048576 := by have := HL.out; omega
    clear hlf hb HS hr hb0 r1 r2 r3 r4 r5 r6
    go_wp2_with fail
    refine (lfo (szReply_t (f k) a1 ((f k).q.ws.length) c1 a2 ((f k).q.bs.length) c2 a3 ((f k).np) c3 a4 ((f k).nt) c4 a5 ((f k).a.ws.length) c5 a6 ((f k).a.bs.length) c6 lf _ HK.out.2.2.1 HK.out.2.2.2.1 HK.out.2.2.2.2.1 HK.out.2.2.2.2.2.1 HK.out.2.2.2.2.2.2.1 HK.out.2.2.2.2.2.2.2 hl9)).mono ?_
    rintro e w2 ⟨b2, ⟨lg, E, rfl⟩ | ⟨E, rfl⟩⟩
    rotate_left
    ·have HF : Hid (lfT left (Tr.list 16 n' (fun k => trs (xyT (f k)))).sz = -1) := by
      have h9 := HK.out.1
      have h8 := sumN_mono g (show k + 1 <= n' by omega)
      have h7 := E.out
      have h6 : sumN (k + 1) g = sumN k g + g k := rfl
      rw [<- HG.out k] at h7
      show _ = _
      rw [HT.out, lfT_no (by omega)]
     have HB := bel_nx HK.out.2.1 b2
     clear b2 E d0 d1 d2 d3 d4 d5 d6 d7 d8 d9 d10 d11 d12 d13 d14 d15
     go_wp2
     go_ret
     exact ⟨(by rw [HF.out]; rfl), HB⟩
    have HF : Hid ((lg : Int) = (left : Int) - (n' : Int) - (sumN (k + 1) g : Int) /\ n' + sumN (k + 1) g <= left) := by
     have h9 := HK.out.1
     have h7 := E.out
     have h6 : sumN (k + 1) g = sumN k g + g k := rfl
     rw [<- HG.out k] at h7
     exact ⟨by omega, by omega⟩
    have hx0 : ¬ ((lg : Int) < 0) := by omega
    have HB : Hid (Below w.heap.size w w2) := bel_nx HK.out.2.1 b2
    clear b2 E ht d0 d1 d2 d3 d4 d5 d6 d7 d8 d9 d10 d11 d12 d13 d14 d15
    go_wp2
    go_roundw
    case rel => exact ⟨k + 1, by omega, by go_num, HF.out.2, by rw [HF.out.1], HB.out⟩
    case measure => simp [intOf]; omega
   have hi : ¬ (k : Int) < (n' : Int) := by omega
   have e9 : k = n' := by omega
   subst e9
   have HE : Hid (lfT left (Tr.list 16 k (fun k => trs (xyT (f k)))).sz = (left : Int) - (k : Int) - (sumN k g : Int)) := by
    show _ = _
    rw [HT.out]; unfold lfT; rw [if_pos ht]; omega
   clear ht
   go_wp2
   go_ret
   exact ⟨(by rw [HE.out]; rfl), hb⟩
 have h1 : (left : Int) - (n' : Int) < 0 := by omega
 have HE : Hid (lfT left (Tr.list 16 n' (fun k => trs (xyT (f k)))).sz = -1) := by
  show _ = _
  rw [HT.out]; unfold lfT; rw [if_neg (by omega)]
 clear hs hn hl
 go_enter Try.func12, Try.ntmps12
 go_wp2
 go_ret
 exact ⟨(by rw [HE.out]; rfl), Below.refl _ _⟩
theorem szServed_t (X : VE) (a1 : Option Addr) (l1 c1 : Nat) (a2 : Option Addr) (l2 c2 : Nat) (a3 : Option Addr) (l3 c3 : Nat) (a4 : Option Addr) (l4 c4 : Nat) (left : Nat) (w : World) (r1 : Rd w 0 (intsT X.q.ws) (.slice a1 l1 c1)) (r2 : Rd w 0 (boolsT X.q.bs) (.slice a2 l2 c2)) (r3 : Rd w 0 (intsT X.a.ws) (.slice a3 l3 c3)) (r4 : Rd w 0 (boolsT X.a.bs) (.slice a4 l4 c4)) (hl : left <= 1048576) :
 Calls Try.prog 30 #[.agg (xeL X a1 l1 c1 a2 l2 c2 a3 l3 c3 a4 l4 c4).toArray, .int .i64 (left : Int)] w fun e w' => e = .returned (.int .i64 (lfT left (szT 15 (trs (xeT X))))) /\ Below w.heap.size w w' := by
 rw [show szT 15 (trs (xeT X)) = szT 6 (trs (qT X.q)) + szT 6 (trs (aT X.a)) by simp only [szT_xe, szT_q, szT_a]; try omega]
 obtain ⟨W, hW⟩ : ∃ W, W = w.alloc (.cells (xeL X a1 l1 c1 a2 l2 c2 a3 l3 c3 a4 l4 c4).toArray 96) := ⟨_, rfl⟩
 have G0 := hide (And.intro (show Below w.heap.size w W by rw [hW]; exact bel_alloc _ _) (show Blk W w.heap.size 96 (xeL X a1 l1 c1 a2 l2 c2 a3 l3 c3 a4 l4 c4).toArray by rw [hW]; exact Blk.new _ _ _))
 have HR := hide (And.intro r1 <| And.intro r2 <| And.intro r3 <| And.intro r4 <| hl)
 clear hl r1 r2 r3 r4
 go_enter Try.func30, Try.ntmps30
 go_upto_region 1 with fail
 rw [<- hW]
 clear hW
 obtain ⟨⟨y0, y1, y2, y3, y4, y5, y6, y7, y8, y9, y10, y11, y12, y13, y14⟩, -⟩ := G0.out.2.tc15
 go_wp2_with fail
 refine (lfo (szReq_t X.q a1 l1 c1 a2 l2 c2 left _ (HR.out.1.below G0.out.1) (HR.out.2.1.below G0.out.1) HR.out.2.2.2.2)).mono ?_
 rintro e w1 ⟨b, ⟨L1, E1, rfl⟩ | ⟨E1, rfl⟩⟩
 rotate_left
 ·have B := bel_nx G0.out.1 b
  clear b y0 y1 y2 y3 y4 y5 y6 y7 y8 y9 y10 y11 y12 y13 y14
  go_wp2
  go_ret
  exact ⟨by rw [lfT_no (by have := E1.out; omega)]; rfl, B⟩
 have G1 := hide (And.intro (bel_nx G0.out.1 b) (G0.out.2.below b))
 have n1 : ¬ ((L1 : Int) < 0) := by omega
 clear b y0 y1 y2 y3 y4 y5 y6 y7 y8 y9 y10 y11 y12 y13 y14
 obtain ⟨⟨y0, y1, y2, y3, y4, y5, y6, y7, y8, y9, y10, y11, y12, y13, y14⟩, -⟩ := G1.out.2.tc15
 go_wp2_with fail
 refine (lfo (szResp_t X.a a3 l3 c3 a4 l4 c4 L1 _ (HR.out.2.2.1.below G1.out.1) (HR.out.2.2.2.1.below G1.out.1) (by have := HR.out.2.2.2.2; have := E1.out; omega))).mono ?_
 rintro e w2 ⟨b, ⟨L2, E2, rfl⟩ | ⟨E2, rfl⟩⟩
 rotate_left
 ·have B := bel_nx G1.out.1 b
  clear b y0 y1 y2 y3 y4 y5 y6 y7 y8 y9 y10 y11 y12 y13 y14
  go_wp2
  go_ret
  exact ⟨by rw [lfT_no (by have := E1.out; have := E2.out; omega)]; rfl, B⟩
 have G2 := hide (And.intro (bel_nx G1.out.1 b) (G1.out.2.below b))
 have n2 : ¬ ((L2 : Int) < 0) := by omega
 clear b y0 y1 y2 y3 y4 y5 y6 y7 y8 y9 y10 y11 y12 y13 y14
 go_wp2
 go_ret
 exact ⟨by rw [lfT_yes (L := L2) (by have := E1.out; have := E2.out; omega)]; rfl, G2.out.1⟩
theorem szServedS_t (n : Nat) (f : Nat -> VE) (a : Option Addr) (n' cap : Nat) (left : Nat) (w : World) (hs : Rd w 0 (.list 15 n (fun k => trs (xeT (f k)))) (.slice a n' cap)) (hl : left <= 1048576) :
 Calls Try.prog 13 #[.slice a n' cap, .int .i64 (left : Int)] w fun e w' => e = .returned (.int .i64 (lfT left (Tr.list 15 n (fun k => trs (xeT (f k)))).sz)) /\ Below w.heap.size w w' := by
 obtain ⟨a9, c9, h9, -, hn⟩ := hs.shape
 simp only [Value.slice.injEq] at h9
 obtain ⟨-, rfl, -⟩ := h9
 clear a9 c9
 unfold maxLen at hn
 have w1 : IntKind.i64.wrap ((left : Int) - (n' : Int)) = (left : Int) - (n' : Int) := by rw [IntKind.wrap_i64]; omega
 obtain ⟨g, hg⟩ : ∃ g : Nat -> Nat, g = fun k => szT 15 (trs (xeT (f k))) := ⟨_, rfl⟩
 have HT : Hid ((Tr.list 15 n' (fun k => trs (xeT (f k)))).sz = n' + sumN n' g) := by show _ = _; rw [hg]; exact Tr.sz_list _ _ _
 have HG : Hid (∀ k, g k = szT 15 (trs (xeT (f k)))) := by show ∀ k, g k = _; intro k; rw [hg]
 clear hg
 by_cases h0 : n' <= left
 ·have h1 : ¬ ((left : Int) - (n' : Int) < 0) := by omega
  have HS : Hid (Rd w 0 (.list 15 n' (fun k => trs (xeT (f k)))) (.slice a n' cap)) := hs
  have HL : Hid (left <= 1048576) := hl
  clear hs hn
  go_enter Try.func13, Try.ntmps13
  go_wp2
  go_loopw [1, 5] (fun lv i wr => ∃ k : Nat, k <= n' /\ i = .int .i64 k /\ n' + sumN k g <= left /\ lv = .int .i64 ((left : Int) - (n' : Int) - (sumN k g : Int)) /\ Below w.heap.size w wr) (fun _ i _ => n' - (intOf i).toNat)
  case atStart => exact ⟨0, Nat.zero_le _, rfl, by simp [sumN]; omega, by simp [sumN], Below.refl _ _⟩
  case round =>
   obtain ⟨k, hk, rfl, ht, rfl, hb⟩ := hrel
   by_cases hlt : k < n'
   ·have hi : (k : Int) < (n' : Int) := by omega
    obtain ⟨b, off, vs, rfl, _, hb0, hlen, hr, hrd⟩ := (HS.out.below hb).at hlt
    obtain ⟨a1, c1, a2, c2, a3, c3, a4, c4, rfl, r1, r2, r3, r4⟩ := VE.cells hrd hlen
    clear hlen hrd
    have d0 : wr.cell? ⟨b, off + k * 15, none⟩ = _ := hr 0 _ rfl
    have d1 : wr.cell? ⟨b, off + k * 15 + 1, none⟩ = _ := hr 1 _ rfl
    have d2 : wr.cell? ⟨b, off + k * 15 + 2, none⟩ = _ := hr 2 _ rfl
    have d3 : wr.cell? ⟨b, off + k * 15 + 3, none⟩ = _ := hr 3 _ rfl
    have d4 : wr.cell? ⟨b, off + k * 15 + 4, none⟩ = _ := hr 4 _ rfl
    have d5 : wr.cell? ⟨b, off + k * 15 + 5, none⟩ = _ := hr 5 _ rfl
    have d6 : wr.cell? ⟨b, off + k * 15 + 6, none⟩ = _ := hr 6 _ rfl
    have d7 : wr.cell? ⟨b, off + k * 15 + 7, none⟩ = _ := hr 7 _ rfl
    have d8 : wr.cell? ⟨b, off + k * 15 + 8, none⟩ = _ := hr 8 _ rfl
    have d9 : wr.cell? ⟨b, off + k * 15 + 9, none⟩ = _ := hr 9 _ rfl
    have d10 : wr.cell? ⟨b, off + k * 15 + 10, none⟩ = _ := hr 10 _ rfl
    have d11 : wr.cell? ⟨b, off + k * 15 + 11, none⟩ = _ := hr 11 _ rfl
    have d12 : wr.cell? ⟨b, off + k * 15 + 12, none⟩ = _ := hr 12 _ rfl
    have d13 : wr.cell? ⟨b, off + k * 15 + 13, none⟩ = _ := hr 13 _ rfl
    have d14 : wr.cell? ⟨b, off + k * 15 + 14, none⟩ = _ := hr 14 _ rfl
    obtain ⟨lf, hlf⟩ : ∃ lf : Nat, (lf : Int) = (left : Int) - (n' : Int) - (sumN k g : Int) := ⟨left - n' - sumN k g, by omega⟩
    rw [<- hlf]
    have HK := hide (And.intro hlf <| And.intro hb <| And.intro r1 <| And.intro r2 <| And.intro r3 <| r4)
    have hl9 : lf <= 1048576 := by have := HL.out; omega
    clear hlf hb HS hr hb0 r1 r2 r3 r4
    go_wp2_with fail
    refine (lfo (szServed_t (f k) a1 ((f k).q.ws.length) c1 a2 ((f k).q.bs.length) c2 a3 ((f k).a.ws.length) c3 a4 ((f k).a.bs.length) c4 lf _ HK.out.2.2.1 HK.out.2.2.2.1 HK.out.2.2.2.2.1 HK.out.2.2.2.2.2 hl9)).mono ?_
    rintro e w2 ⟨b2, ⟨lg, E, rfl⟩ | ⟨E, rfl⟩⟩
    rotate_left
    ·have HF : Hid (lfT left (Tr.list 15 n' (fun k => trs (xeT (f k)))).sz = -1) := by
      have h9 := HK.out.1
      have h8 := sumN_mono g (show k + 1 <= n' by omega)
      have h7 := E.out
      have h6 : sumN (k + 1) g = sumN k g + g k := rfl
      rw [<- HG.out k] at h7
      show _ = _
      rw [HT.out, lfT_no (by omega)]
     have HB := bel_nx HK.out.2.1 b2
     clear b2 E d0 d1 d2 d3 d4 d5 d6 d7 d8 d9 d10 d11 d12 d13 d14
     go_wp2
     go_ret
     exact ⟨(by rw [HF.out]; rfl), HB⟩
    have HF : Hid ((lg : Int) = (left : Int) - (n' : Int) - (sumN (k + 1) g : Int) /\ n' + sumN (k + 1) g <= left) := by
     have h9 := HK.out.1
     have h7 := E.out
     have h6 : sumN (k + 1) g = sumN k g + g k := rfl
     rw [<- HG.out k] at h7
     exact ⟨by omega, by omega⟩
    have hx0 : ¬ ((lg : Int) < 0) := by omega
    have HB : Hid (Below w.heap.size w w2) := bel_nx HK.out.2.1 b2
    clear b2 E ht d0 d1 d2 d3 d4 d5 d6 d7 d8 d9 d10 d11 d12 d13 d14
    go_wp2
    go_roundw
    case rel => exact ⟨k + 1, by omega, by go_num, HF.out.2, by rw [HF.out.1], HB.out⟩
    case measure => simp [intOf]; omega
   have hi : ¬ (k : Int) < (n' : Int) := by omega
   have e9 : k = n' := by omega
   subst e9
   have HE : Hid (lfT left (Tr.list 15 k (fun k => trs (xeT (f k)))).sz = (left : Int) - (k : Int) - (sumN k g : Int)) := by
    show _ = _
    rw [HT.out]; unfold lfT; rw [if_pos ht]; omega
   clear ht
   go_wp2
   go_ret
   exact ⟨(by rw [HE.out]; rfl), hb⟩
 have h1 : (left : Int) - (n' : Int) < 0 := by omega
 have HE : Hid (lfT left (Tr.list 15 n' (fun k => trs (xeT (f k)))).sz = -1) := by
  show _ = _
  rw [HT.out]; unfold lfT; rw [if_neg (by omega)]
 clear hs hn hl
 go_enter Try.func13, Try.ntmps13
 go_wp2
 go_ret
 exact ⟨(by rw [HE.out]; rfl), Below.refl _ _⟩
theorem szWorld_t (X : VW) (a1 : Option Addr) (l1 c1 : Nat) (a2 : Option Addr) (l2 c2 : Nat) (a3 : Option Addr) (l3 c3 : Nat) (a4 : Option Addr) (l4 c4 : Nat) (a5 : Option Addr) (l5 c5 : Nat) (a6 : Option Addr) (l6 c6 : Nat) (a7 : Option Addr) (l7 c7 : Nat) (left : Nat) (w : World) (r1 : Rd w 0 (.list 7 X.fb.set.n (fun i => trs (xrT (X.fb.set.f i)))) (.slice a1 l1 c1)) (r2 : Rd w 0 (.list 13 X.fb.op.m (fun i => trs (dT (X.fb.op.f i)))) (.slice a2 l2 c2)) (r3 : Rd w 0 (.list 17 X.fb.nl (fun i => trs (xnT (X.fb.lf i)))) (.slice a3 l3 c3)) (r4 : Rd w 0 (.list 6 X.ns (fun i => trs (xsT (X.sf i)))) (.slice a4 l4 c4)) (r5 : Rd w 0 (.list 16 X.nk (fun i => trs (xkT (X.kf i)))) (.slice a5 l5 c5)) (r6 : Rd w 0 (.list 16 X.nr (fun i => trs (xyT (X.rf i)))) (.slice a6 l6 c6)) (r7 : Rd w 0 (.list 15 X.ne (fun i => trs (xeT (X.ef i)))) (.slice a7 l7 c7)) (hl : left <= 1048576) :
 Calls Try.prog 4 #[.agg (xwL X a1 l1 c1 a2 l2 c2 a3 l3 c3 a4 l4 c4 a5 l5 c5 a6 l6 c6 a7 l7 c7).toArray, .int .i64 (left : Int)] w fun e w' => e = .returned (.int .i64 (lfT left (szT 15 (trs (xwT X))))) /\ Below w.heap.size w w' := by
 rw [show szT 15 (trs (xwT X)) = szT 11 (trs (xfT X.fb)) + (Tr.list 6 X.ns (fun i => trs (xsT (X.sf i)))).sz + (Tr.list 16 X.nk (fun i => trs (xkT (X.kf i)))).sz + (Tr.list 16 X.nr (fun i => trs (xyT (X.rf i)))).sz + (Tr.list 15 X.ne (fun i => trs (xeT (X.ef i)))).sz by simp only [szT_xw, szT_xf]; try omega]
 obtain ⟨W, hW⟩ : ∃ W, W = w.alloc (.cells (xwL X a1 l1 c1 a2 l2 c2 a3 l3 c3 a4 l4 c4 a5 l5 c5 a6 l6 c6 a7 l7 c7).toArray 36) := ⟨_, rfl⟩
 have G0 := hide (And.intro (show Below w.heap.size w W by rw [hW]; exact bel_alloc _ _) (show Blk W w.heap.size 36 (xwL X a1 l1 c1 a2 l2 c2 a3 l3 c3 a4 l4 c4 a5 l5 c5 a6 l6 c6 a7 l7 c7).toArray by rw [hW]; exact Blk.new _ _ _))
 have HR := hide (And.intro r1 <| And.intro r2 <| And.intro r3 <| And.intro r4 <| And.intro r5 <| And.intro r6 <| And.intro r7 <| hl)
 clear hl r1 r2 r3 r4 r5 r6 r7
 go_enter Try.func4, Try.ntmps4
 go_upto_region 1 with fail
 rw [<- hW]
 clear hW
 obtain ⟨⟨y0, y1, y2, y3, y4, y5, y6, y7, y8, y9, y10, y11, y12, y13, y14⟩, -⟩ := G0.out.2.tc15
 go_wp2_with fail
 refine (lfo (szFabric_t X.fb a1 l1 c1 a2 l2 c2 a3 l3 c3 left _ (HR.out.1.below G0.out.1) (HR.out.2.1.below G0.out.1) (HR.out.2.2.1.below G0.out.1) HR.out.2.2.2.2.2.2.2)).mono ?_
 rintro e w1 ⟨b, ⟨L1, E1, rfl⟩ | ⟨E1, rfl⟩⟩
 rotate_left
 ·have B := bel_nx G0.out.1 b
  clear b y0 y1 y2 y3 y4 y5 y6 y7 y8 y9 y10 y11 y12 y13 y14
  go_wp2
  go_ret
  exact ⟨by rw [lfT_no (by have := E1.out; omega)]; rfl, B⟩
 have G1 := hide (And.intro (bel_nx G0.out.1 b) (G0.out.2.below b))
 have n1 : ¬ ((L1 : Int) < 0) := by omega
 clear b y0 y1 y2 y3 y4 y5 y6 y7 y8 y9 y10 y11 y12 y13 y14
 obtain ⟨⟨y0, y1, y2, y3, y4, y5, y6, y7, y8, y9, y10, y11, y12, y13, y14⟩, -⟩ := G1.out.2.tc15
 go_wp2_with fail
 refine (lfo (szPostS_t X.ns X.sf a4 l4 c4 L1 _ (HR.out.2.2.2.1.below G1.out.1) (by have := HR.out.2.2.2.2.2.2.2; have := E1.out; omega))).mono ?_
 rintro e w2 ⟨b, ⟨L2, E2, rfl⟩ | ⟨E2, rfl⟩⟩
 rotate_left
 ·have B := bel_nx G1.out.1 b
  clear b y0 y1 y2 y3 y4 y5 y6 y7 y8 y9 y10 y11 y12 y13 y14
  go_wp2
  go_ret
  exact ⟨by rw [lfT_no (by have := E1.out; have := E2.out; omega)]; rfl, B⟩
 have G2 := hide (And.intro (bel_nx G1.out.1 b) (G1.out.2.below b))
 have n2 : ¬ ((L2 : Int) < 0) := by omega
 clear b y0 y1 y2 y3 y4 y5 y6 y7 y8 y9 y10 y11 y12 y13 y14
 obtain ⟨⟨y0, y1, y2, y3, y4, y5, y6, y7, y8, y9, y10, y11, y12, y13, y14⟩, -⟩ := G2.out.2.tc15
 go_wp2_with fail
 refine (lfo (szPacketS_t X.nk X.kf a5 l5 c5 L2 _ (HR.out.2.2.2.2.1.below G2.out.1) (by have := HR.out.2.2.2.2.2.2.2; have := E1.out; have := E2.out; omega))).mono ?_
 rintro e w3 ⟨b, ⟨L3, E3, rfl⟩ | ⟨E3, rfl⟩⟩
 rotate_left
 ·have B := bel_nx G2.out.1 b
  clear b y0 y1 y2 y3 y4 y5 y6 y7 y8 y9 y10 y11 y12 y13 y14
  go_wp2
  go_ret
  exact ⟨by rw [lfT_no (by have := E1.out; have := E2.out; have := E3.out; omega)]; rfl, B⟩
 have G3 := hide (And.intro (bel_nx G2.out.1 b) (G2.out.2.below b))
 have n3 : ¬ ((L3 : Int) < 0) := by omega
 clear b y0 y1 y2 y3 y4 y5 y6 y7 y8 y9 y10 y11 y12 y13 y14
 obtain ⟨⟨y0, y1, y2, y3, y4, y5, y6, y7, y8, y9, y10, y11, y12, y13, y14⟩, -⟩ := G3.out.2.tc15
 go_wp2_with fail
 refine (lfo (szReplyS_t X.nr X.rf a6 l6 c6 L3 _ (HR.out.2.2.2.2.2.1.below G3.out.1) (by have := HR.out.2.2.2.2.2.2.2; have := E1.out; have := E2.out; have := E3.out; omega))).mono ?_
 rintro e w4 ⟨b, ⟨L4, E4, rfl⟩ | ⟨E4, rfl⟩⟩
 rotate_left
 ·have B := bel_nx G3.out.1 b
  clear b y0 y1 y2 y3 y4 y5 y6 y7 y8 y9 y10 y11 y12 y13 y14
  go_wp2
  go_ret
  exact ⟨by rw [lfT_no (by have := E1.out; have := E2.out; have := E3.out; have := E4.out; omega)]; rfl, B⟩
 have G4 := hide (And.intro (bel_nx G3.out.1 b) (G3.out.2.below b))
 have n4 : ¬ ((L4 : Int) < 0) := by omega
 clear b y0 y1 y2 y3 y4 y5 y6 y7 y8 y9 y10 y11 y12 y13 y14
 obtain ⟨⟨y0, y1, y2, y3, y4, y5, y6, y7, y8, y9, y10, y11, y12, y13, y14⟩, -⟩ := G4.out.2.tc15
 go_wp2_with fail
 refine (lfo (szServedS_t X.ne X.ef a7 l7 c7 L4 _ (HR.out.2.2.2.2.2.2.1.below G4.out.1) (by have := HR.out.2.2.2.2.2.2.2; have := E1.out; have := E2.out; have := E3.out; have := E4.out; omega))).mono ?_
 rintro e w5 ⟨b, ⟨L5, E5, rfl⟩ | ⟨E5, rfl⟩⟩
 rotate_left
 ·have B := bel_nx G4.out.1 b
  clear b y0 y1 y2 y3 y4 y5 y6 y7 y8 y9 y10 y11 y12 y13 y14
  go_wp2
  go_ret
  exact ⟨by rw [lfT_no (by have := E1.out; have := E2.out; have := E3.out; have := E4.out; have := E5.out; omega)]; rfl, B⟩
 have G5 := hide (And.intro (bel_nx G4.out.1 b) (G4.out.2.below b))
 have n5 : ¬ ((L5 : Int) < 0) := by omega
 clear b y0 y1 y2 y3 y4 y5 y6 y7 y8 y9 y10 y11 y12 y13 y14
 go_wp2
 go_ret
 exact ⟨by rw [lfT_yes (L := L5) (by have := E1.out; have := E2.out; have := E3.out; have := E4.out; have := E5.out; omega)]; rfl, G5.out.1⟩
end Go.Proofs.Ytplaoagcedgdfaa
namespace Go.Proofs.Ytplaoagcedgdfaa
open Go.ChangeShapes Go.WideShapes Go.ChangeAt Go.RowKit Go.Deep Go.Joins
theorem wf64 {z : Int} (h : (Lit.int .i64 z).wf = true) : -9223372036854775808 <= z /\ z <= 9223372036854775807 := bounds_i64 h
def OfB (w : World) : Sh -> Value -> Prop
 | .int, v => ∃ z, v = .int .i64 z /\ -9223372036854775808 <= z /\ z <= 9223372036854775807
 | .bool, v => ∃ z, v = .bool z
 | .lst s f, v => ∃ a n c, v = .slice a n c /\ n <= c /\ n <= maxLen /\ (n = 0 \/ ∃ (g off : Nat) (F : Nat -> List Value), a = some ⟨g, off, none⟩ /\ g < w.heap.size /\
  ∀ k, k < n -> (F k).length = s /\ ∀ j v, (F k)[j]? = some v -> w.cell? ⟨g, off + k * s + j, none⟩ = some v /\ OfB w (f j) v)
def OfBL (w : World) (S : List Sh) (vs : List Value) : Prop := vs.length = S.length /\ ∀ j v, vs[j]? = some v -> OfB w (S.getD j .int) v
section
variable {H : Type} {enc : TypeId × Value -> H} {P : Program} {w : World} {base : Nat} {held : Bool}
theorem opened_bF {sh : TypeId -> Option (List Sh)} {cs : List Value}
 (hsh : ∀ t S, sh t = some S -> ∀ (fuel : Nat) cs' (y : DataW H × List MemPlace), DataW.trod enc P w base (fun _ => true) held fuel t cs' = some y -> OfBL w S cs') :
 ∀ (fs : List Field) (o : Nat) (S : List Sh), shF P sh fs o = some S -> (∀ (i : Nat) f, fs[i]? = some f -> ∃ (n : Nat) (y : DataW H × List MemPlace), DataW.trod enc P w base (fun _ => true) held n f.type ((cs.drop f.offset).take (P.cellsOf f.type)) = some y) ->
  ∀ j v, j < S.length -> cs[o + j]? = some v -> OfB w (S.getD j .int) v
 | [], o, S, h, _, j, v, hj, hv => by
  simp only [shF, Option.some.injEq] at h
  subst h
  simp at hj
 | f :: r, o, S, h, hf, j, v, hj, hv => by
  unfold shF at h
  split at h
  ·rename_i l l' h1 h2
   split at h
   ·rename_i hc
    simp only [Option.some.injEq] at h
    subst h
    obtain ⟨n, y, hy⟩ := hf 0 f rfl
    obtain ⟨q1, q2⟩ := hsh _ _ h1 _ _ _ hy
    by_cases e : j < l.length
    ·have := q2 j v (by
      rw [List.getElem?_take, if_pos (by omega), List.getElem?_drop, hc.1]
      exact hv)
     rw [List.getD_eq_getElem?_getD] at this ⊢
     rw [List.getElem?_append_left e]
     exact this
    have := opened_bF hsh r _ l' h2 (fun i f' hf' => hf (i + 1) f' (by simpa using hf')) (j - l.length) v (by simp at hj; omega) (by
     rw [show o + P.cellsOf f.type + (j - l.length) = o + j by omega]
     exact hv)
    rw [List.getD_eq_getElem?_getD] at this ⊢
    rw [List.getElem?_append_right (by omega)]
    exact this
   simp at h
  simp at h
theorem opened_b : ∀ (n : Nat) (t : TypeId) (S : List Sh), shT P n t = some S -> ∀ (fuel : Nat) cs (y : DataW H × List MemPlace), DataW.trod enc P w base (fun _ => true) held fuel t cs = some y -> OfBL w S cs
 | 0, t, S, h, _, _, _, _ => by simp [shT] at h
 | n + 1, t, S, h, fuel, cs, y, hy => by
  unfold shT at h
  split at h
  ·rename_i ht
   simp only [Option.some.injEq] at h
   subst h
   obtain ⟨z, rfl, _, hz⟩ := DataW.trod_int ht hy
   refine ⟨rfl, fun j v hv => ?_⟩
   match j, hv with
   | 0, hv => simp at hv; subst hv; exact ⟨z, rfl, wf64 hz⟩
   | j + 1, hv => simp at hv
  ·rename_i ht
   simp only [Option.some.injEq] at h
   subst h
   obtain ⟨z, rfl, _⟩ := DataW.trod_bool ht hy
   refine ⟨rfl, fun j v hv => ?_⟩
   match j, hv with
   | 0, hv => simp at hv; subst hv; exact ⟨z, rfl⟩
   | j + 1, hv => simp at hv
  ·rename_i e ht
   split at h
   ·rename_i l hl
    split at h
    ·rename_i hc
     simp only [Option.some.injEq] at h
     subst h
     rcases open_slice ht hy with ⟨rfl, _⟩ | ⟨x, len, c, m, n', D, Pl, rfl, _, hlc, hcm, hmm, _, hx⟩
     ·refine ⟨rfl, fun j v hv => ?_⟩
      match j, hv with
      | 0, hv => simp at hv; subst hv; exact ⟨none, 0, 0, rfl, Nat.le_refl _, Nat.zero_le _, .inl rfl⟩
      | j + 1, hv => simp at hv
     simp only [if_true] at hmm
     subst hmm
     rw [hc.1] at hx
     obtain ⟨F, hF⟩ := choose_lt (α := List Value) (p := fun i cs' => w.cells? base (x.add (i * l.length)) l.length = some cs' /\ DataW.trod enc P w base (fun _ => true) held n' e cs' = some (D i, Pl i)) (fun i hi => hx i hi)
     refine ⟨rfl, fun j v hv => ?_⟩
     match j, hv with
     | 0, hv =>
      simp at hv
      subst hv
      refine ⟨some x, len, m, rfl, hlc, by omega, ?_⟩
      by_cases e0 : len = 0
      ·exact .inl e0
      have hc0 := (World.cells?_some (hF 0 (by omega)).1)
      obtain ⟨b, off, spot⟩ := x
      have hc9 := hc0.2.2 0 hc.2
      obtain ⟨v0, hv0⟩ : ∃ v, (F 0)[0]? = some v := ⟨(F 0)[0]'(by rw [hc0.2.1]; exact hc.2), by simp⟩
      rw [hv0] at hc9
      have hspot : spot = none := by simpa [Addr.add] using World.cell?_spot hc9
      subst hspot
      refine .inr ⟨b, off, F, rfl, (by simpa [Addr.add] using World.block_lt_of_cell? _ _ hc9), fun k hk => ?_⟩
      have h1 := World.cells?_some (hF k (by omega)).1
      obtain ⟨q1, q2⟩ := opened_b n e l hl _ _ _ (hF k (by omega)).2
      refine ⟨q1, fun j v hj => ⟨?_, q2 j v hj⟩⟩
      have h2 := h1.2.2 j (by rw [<- q1]; exact (List.getElem?_eq_some_iff.1 hj).1)
      have e1 : ∀ (o n : Nat), (Addr.mk b o none).add n = ⟨b, o + n, none⟩ := fun o n => by
       by_cases e : n = 0
       ·subst e; rfl
       simp [Addr.add, e]
      rw [e1, e1, hj] at h2
      exact h2
     | j + 1, hv => simp at hv
    simp at h
   simp at h
  ·rename_i fs ht
   split at h
   ·rename_i l hl
    split at h
    ·rename_i hc
     simp only [Option.some.injEq] at h
     subst h
     obtain ⟨xs, m, _, hx, hlen, hxl, hg⟩ := DataW.trod_struct ht hy
     refine ⟨by rw [hlen, hc], fun j v hv => ?_⟩
     have hj : j < l.length := by
      have := (List.getElem?_eq_some_iff.1 hv).1
      omega
     exact opened_bF (cs := cs) (fun t' S' hs => opened_b n t' S' hs) fs.toList 0 l hl (fun i f hf => by
      have hf' : fs[i]? = some f := by simpa using hf
      have := hg i f hf'
      have hi : i < xs.length := by rw [hxl]; exact (Array.getElem?_eq_some_iff.1 hf').1
      exact ⟨m, xs[i], by rw [this]; simp⟩) j v hj (by rw [Nat.zero_add]; exact hv)
    simp at h
   simp at h
  simp at h
end
theorem rules64 {w : World} {lo n l c : Nat} {f : Nat -> Sh} {g : Nat -> Ru} {a : Option Addr} (hf : f 6 = .int) (h : OfB w (.lst 7 f) (.slice a l c)) (hr : Rd w lo (.list 7 n (fun i => trs (xrT (g i)))) (.slice a l c)) : ∀ k, k < n -> -9223372036854775808 <= (g k).sh /\ (g k).sh <= 9223372036854775807 := by
 intro k hk
 obtain ⟨a', n', c', h1, _, _, h4⟩ := h
 simp only [Value.slice.injEq] at h1
 obtain ⟨rfl, rfl, rfl⟩ := h1
 have hl : l = n := hr.slu.1
 subst hl
 obtain ⟨b, off, vs, ha, _, _, hlen, hrng, hd⟩ := hr.at hk
 rcases h4 with h4 | ⟨b', off', F, ha', _, hc⟩
 ·omega
 rw [ha] at ha'
 simp only [Option.some.injEq, Addr.mk.injEq, and_true] at ha'
 obtain ⟨rfl, rfl⟩ := ha'
 have e := Ru.cells hd hlen
 subst e
 have q1 := hrng 6 _ rfl
 obtain ⟨q2, q3⟩ := hc k hk
 obtain ⟨v, hv⟩ : ∃ v, (F k)[6]? = some v := ⟨(F k)[6]'(by omega), by simp⟩
 obtain ⟨q4, q5⟩ := q3 6 v hv
 rw [q1] at q4
 obtain rfl := Option.some.inj q4
 rw [hf] at q5
 obtain ⟨z, hz, hb⟩ := q5
 simp only [rul, Value.int.injEq, true_and] at hz
 rw [hz]
 exact hb
theorem opened_64 {H : Type} {enc : TypeId × Value -> H} {P : Program} {w : World} {base : Nat} {held : Bool} {t : TypeId} {d : DataW H} {p : List MemPlace} {N : Nat} {S : List Sh} {l : List Value} {n m c : Nat} {f : Nat -> Sh} {g : Nat -> Ru} {a : Option Addr} (hsh : shT P N t = some S) (h : DataW.Trod enc P w base (fun _ => true) held t (.agg l.toArray) d p)
 (h3 : l[3]? = some (.slice a m c)) (hS : S.getD 3 .int = .lst 7 f) (hf : f 6 = .int) (hr : Rd w 0 (.list 7 n (fun i => trs (xrT (g i)))) (.slice a m c)) : ∀ k, k < n -> -9223372036854775808 <= (g k).sh /\ (g k).sh <= 9223372036854775807 := by
 obtain ⟨fuel, hf'⟩ := h
 have h9 := (opened_b N t _ hsh fuel l _ (by simpa [Value.cells] using hf')).2 3 _ h3
 rw [hS] at h9
 exact rules64 hf h9 hr
end Go.Proofs.Ytplaoagcedgdfaa
namespace Go.Proofs.Ytplaoagcedgdfaa
open Go.RowKit Go.Joins
abbrev RdW (w : World) (X : VW) (a1 : Option Addr) (c1 : Nat) (a2 : Option Addr) (c2 : Nat) (a3 : Option Addr) (c3 : Nat) (a4 : Option Addr) (c4 : Nat) (a5 : Option Addr) (c5 : Nat) (a6 : Option Addr) (c6 : Nat) (a7 : Option Addr) (c7 : Nat) : Prop := Rd w 0 (.list 7 X.fb.set.n (fun i => trs (xrT (X.fb.set.f i)))) (.slice a1 X.fb.set.n c1) /\ Rd w 0 (.list 13 X.fb.op.m (fun i => trs (dT (X.fb.op.f i)))) (.slice a2 X.fb.op.m c2) /\ Rd w 0 (.list 17 X.fb.nl (fun i => trs (xnT (X.fb.lf i)))) (.slice a3 X.fb.nl c3) /\ Rd w 0 (.list 6 X.ns (fun i => trs (xsT (X.sf i)))) (.slice a4 X.ns c4) /\ Rd w 0 (.list 16 X.nk (fun i => trs (xkT (X.kf i)))) (.slice a5 X.nk c5) /\ Rd w 0 (.list 16 X.nr (fun i => trs (xyT (X.rf i)))) (.slice a6 X.nr c6) /\ Rd w 0 (.list 15 X.ne (fun i => trs (xeT (X.ef i)))) (.slice a7 X.ne c7)
theorem quiet_big (X : VW) (a1 : Option Addr) (c1 : Nat) (a2 : Option Addr) (c2 : Nat) (a3 : Option Addr) (c3 : Nat) (a4 : Option Addr) (c4 : Nat) (a5 : Option Addr) (c5 : Nat) (a6 : Option Addr) (c6 : Nat) (a7 : Option Addr) (c7 : Nat) (w : World) (h : RdW w X a1 c1 a2 c2 a3 c3 a4 c4 a5 c5 a6 c6 a7 c7) (hz : ¬ szT 15 (trs (xwT X)) <= 1048576) :
 Calls Try.prog 3 #[.agg (xwL X a1 X.fb.set.n c1 a2 X.fb.op.m c2 a3 X.fb.nl c3 a4 X.ns c4 a5 X.nk c5 a6 X.nr c6 a7 X.ne c7).toArray] w fun e w' => e = .returned (.bool true) /\ Below w.heap.size w w' := by
 have HX : Hid (lfT 1048576 (szT 15 (trs (xwT X))) = -1) := by show _ = _; unfold lfT; rw [if_neg hz]
 obtain ⟨B, hB⟩ : ∃ B, B = w.heap.size := ⟨_, rfl⟩
 obtain ⟨W, hW⟩ : ∃ W, W = w.alloc (.cells (xwL X a1 X.fb.set.n c1 a2 X.fb.op.m c2 a3 X.fb.nl c3 a4 X.ns c4 a5 X.nk c5 a6 X.nr c6 a7 X.ne c7).toArray 36) := ⟨_, rfl⟩
 have b0 : Below w.heap.size w W := by rw [hW]; exact bel_alloc _ _
 have A0 : Blk W B 36 (xwL X a1 X.fb.set.n c1 a2 X.fb.op.m c2 a3 X.fb.nl c3 a4 X.ns c4 a5 X.nk c5 a6 X.nr c6 a7 X.ne c7).toArray := by rw [hW, hB]; exact Blk.new _ _ _
 have H0 : Hid (Below w.heap.size w W /\ RdW W X a1 c1 a2 c2 a3 c3 a4 c4 a5 c5 a6 c6 a7 c7) := ⟨b0, ⟨h.1.below b0, h.2.1.below b0, h.2.2.1.below b0, h.2.2.2.1.below b0, h.2.2.2.2.1.below b0, h.2.2.2.2.2.1.below b0, h.2.2.2.2.2.2.below b0⟩⟩
 have y0 : W.cell? ⟨B, 0, none⟩ = some (.int .i64 X.fb.nw) := A0.cell 0 rfl
 have y1 : W.cell? ⟨B, 1, none⟩ = some (.int .i64 X.fb.set.wt) := A0.cell 1 rfl
 have y2 : W.cell? ⟨B, 2, none⟩ = some (.int .i64 X.fb.set.tr) := A0.cell 2 rfl
 have y3 : W.cell? ⟨B, 3, none⟩ = some (.slice a1 X.fb.set.n c1) := A0.cell 3 rfl
 have y4 : W.cell? ⟨B, 4, none⟩ = some (.int .i64 X.fb.op.nx) := A0.cell 4 rfl
 have y5 : W.cell? ⟨B, 5, none⟩ = some (.slice a2 X.fb.op.m c2) := A0.cell 5 rfl
 have y6 : W.cell? ⟨B, 6, none⟩ = some (.slice a3 X.fb.nl c3) := A0.cell 6 rfl
 have y7 : W.cell? ⟨B, 7, none⟩ = some (.int .i64 X.fb.sk) := A0.cell 7 rfl
 have y8 : W.cell? ⟨B, 8, none⟩ = some (.int .i64 X.fb.re) := A0.cell 8 rfl
 have y9 : W.cell? ⟨B, 9, none⟩ = some (.int .i64 X.fb.fa) := A0.cell 9 rfl
 have y10 : W.cell? ⟨B, 10, none⟩ = some (.int .i64 X.fb.se) := A0.cell 10 rfl
 have y11 : W.cell? ⟨B, 11, none⟩ = some (.slice a4 X.ns c4) := A0.cell 11 rfl
 have y12 : W.cell? ⟨B, 12, none⟩ = some (.slice a5 X.nk c5) := A0.cell 12 rfl
 have y13 : W.cell? ⟨B, 13, none⟩ = some (.slice a6 X.nr c6) := A0.cell 13 rfl
 have y14 : W.cell? ⟨B, 14, none⟩ = some (.slice a7 X.ne c7) := A0.cell 14 rfl
 clear A0 b0 h hz
 go_enter Try.func3, Try.ntmps3
 go_upto_region 1 with fail
 rw [<- hW, <- hB]
 clear hW hB
 go_wp2_with fail
 refine (szWorld_t X a1 _ c1 a2 _ c2 a3 _ c3 a4 _ c4 a5 _ c5 a6 _ c6 a7 _ c7 1048576 _ H0.out.2.1 H0.out.2.2.1 H0.out.2.2.2.1 H0.out.2.2.2.2.1 H0.out.2.2.2.2.2.1 H0.out.2.2.2.2.2.2.1 H0.out.2.2.2.2.2.2.2 (Nat.le_refl _)).mono ?_
 rintro e w1 ⟨rfl, b1⟩
 rw [HX.out]
 have B := bel_nx H0.out.1 b1
 clear b1 y0 y1 y2 y3 y4 y5 y6 y7 y8 y9 y10 y11 y12 y13 y14
 go_wp2
 go_ret
 exact ⟨rfl, B⟩
theorem quiet_law (X : VW) (a1 : Option Addr) (c1 : Nat) (a2 : Option Addr) (c2 : Nat) (a3 : Option Addr) (c3 : Nat) (a4 : Option Addr) (c4 : Nat) (a5 : Option Addr) (c5 : Nat) (a6 : Option Addr) (c6 : Nat) (a7 : Option Addr) (c7 : Nat) (w : World) (h : RdW w X a1 c1 a2 c2 a3 c3 a4 c4 a5 c5 a6 c6 a7 c7) (h64 : ∀ k, k < X.fb.set.n -> -9223372036854775808 <= (X.fb.set.f k).sh /\ (X.fb.set.f k).sh <= 9223372036854775807) (hz : szT 15 (trs (xwT X)) <= 1048576) :
 Calls Try.prog 3 #[.agg (xwL X a1 X.fb.set.n c1 a2 X.fb.op.m c2 a3 X.fb.nl c3 a4 X.ns c4 a5 X.nk c5 a6 X.nr c6 a7 X.ne c7).toArray] w fun e w' => e = .returned (.bool true) /\ Below w.heap.size w w' := by
 obtain ⟨lf, hlf⟩ : ∃ lf, lf = lfT 1048576 (szT 15 (trs (xwT X))) := ⟨_, rfl⟩
 have hnn : ¬ (lf < 0) := by rw [hlf]; unfold lfT; rw [if_pos hz]; omega
 obtain ⟨B, hB⟩ : ∃ B, B = w.heap.size := ⟨_, rfl⟩
 obtain ⟨W, hW⟩ : ∃ W, W = w.alloc (.cells (xwL X a1 X.fb.set.n c1 a2 X.fb.op.m c2 a3 X.fb.nl c3 a4 X.ns c4 a5 X.nk c5 a6 X.nr c6 a7 X.ne c7).toArray 36) := ⟨_, rfl⟩
 have b0 : Below w.heap.size w W := by rw [hW]; exact bel_alloc _ _
 have A0 : Blk W B 36 (xwL X a1 X.fb.set.n c1 a2 X.fb.op.m c2 a3 X.fb.nl c3 a4 X.ns c4 a5 X.nk c5 a6 X.nr c6 a7 X.ne c7).toArray := by rw [hW, hB]; exact Blk.new _ _ _
 have HH : Hid ((RdW W X a1 c1 a2 c2 a3 c3 a4 c4 a5 c5 a6 c6 a7 c7) /\ szT 15 (trs (xwT X)) <= 1048576 /\ True /\ lf = lfT 1048576 (szT 15 (trs (xwT X))) /\ Below w.heap.size w W) := ⟨⟨h.1.below b0, h.2.1.below b0, h.2.2.1.below b0, h.2.2.2.1.below b0, h.2.2.2.2.1.below b0, h.2.2.2.2.2.1.below b0, h.2.2.2.2.2.2.below b0⟩, hz, trivial, hlf, b0⟩
 obtain ⟨ok, hok⟩ : ∃ ok, ok = (quW X) := ⟨_, rfl⟩
 have HO : Hid (ok = (quW X)) := hok
 have H0 : Hid (Below W.heap.size W W /\ Blk W B 36 (xwL X a1 X.fb.set.n c1 a2 X.fb.op.m c2 a3 X.fb.nl c3 a4 X.ns c4 a5 X.nk c5 a6 X.nr c6 a7 X.ne c7).toArray) := ⟨Below.refl _ _, A0⟩
 have y0 : W.cell? ⟨B, 0, none⟩ = some (.int .i64 X.fb.nw) := A0.cell 0 rfl
 have y1 : W.cell? ⟨B, 1, none⟩ = some (.int .i64 X.fb.set.wt) := A0.cell 1 rfl
 have y2 : W.cell? ⟨B, 2, none⟩ = some (.int .i64 X.fb.set.tr) := A0.cell 2 rfl
 have y3 : W.cell? ⟨B, 3, none⟩ = some (.slice a1 X.fb.set.n c1) := A0.cell 3 rfl
 have y4 : W.cell? ⟨B, 4, none⟩ = some (.int .i64 X.fb.op.nx) := A0.cell 4 rfl
 have y5 : W.cell? ⟨B, 5, none⟩ = some (.slice a2 X.fb.op.m c2) := A0.cell 5 rfl
 have y6 : W.cell? ⟨B, 6, none⟩ = some (.slice a3 X.fb.nl c3) := A0.cell 6 rfl
 have y7 : W.cell? ⟨B, 7, none⟩ = some (.int .i64 X.fb.sk) := A0.cell 7 rfl
 have y8 : W.cell? ⟨B, 8, none⟩ = some (.int .i64 X.fb.re) := A0.cell 8 rfl
 have y9 : W.cell? ⟨B, 9, none⟩ = some (.int .i64 X.fb.fa) := A0.cell 9 rfl
 have y10 : W.cell? ⟨B, 10, none⟩ = some (.int .i64 X.fb.se) := A0.cell 10 rfl
 have y11 : W.cell? ⟨B, 11, none⟩ = some (.slice a4 X.ns c4) := A0.cell 11 rfl
 have y12 : W.cell? ⟨B, 12, none⟩ = some (.slice a5 X.nk c5) := A0.cell 12 rfl
 have y13 : W.cell? ⟨B, 13, none⟩ = some (.slice a6 X.nr c6) := A0.cell 13 rfl
 have y14 : W.cell? ⟨B, 14, none⟩ = some (.slice a7 X.ne c7) := A0.cell 14 rfl
 clear A0 b0 h hz hlf hok h64
 go_enter Try.func3, Try.ntmps3
 go_upto_region 1 with fail
 rw [<- hW, <- hB]
 clear hW hB
 go_wp2_with fail
 refine (szWorld_t X a1 _ c1 a2 _ c2 a3 _ c3 a4 _ c4 a5 _ c5 a6 _ c6 a7 _ c7 1048576 _ HH.out.1.1 HH.out.1.2.1 HH.out.1.2.2.1 HH.out.1.2.2.2.1 HH.out.1.2.2.2.2.1 HH.out.1.2.2.2.2.2.1 HH.out.1.2.2.2.2.2.2 (Nat.le_refl _)).mono ?_
 rintro e w1 ⟨rfl, b'⟩
 rw [<- HH.out.2.2.2.1]
 have H1 : Hid (Below W.heap.size W w1 /\ Blk w1 B 36 (xwL X a1 X.fb.set.n c1 a2 X.fb.op.m c2 a3 X.fb.nl c3 a4 X.ns c4 a5 X.nk c5 a6 X.nr c6 a7 X.ne c7).toArray) := ⟨b', H0.out.2.below b'⟩
 clear b' H0 y0 y1 y2 y3 y4 y5 y6 y7 y8 y9 y10 y11 y12 y13 y14
 have y0 : w1.cell? ⟨B, 0, none⟩ = some (.int .i64 X.fb.nw) := H1.out.2.cell 0 rfl
 have y1 : w1.cell? ⟨B, 1, none⟩ = some (.int .i64 X.fb.set.wt) := H1.out.2.cell 1 rfl
 have y2 : w1.cell? ⟨B, 2, none⟩ = some (.int .i64 X.fb.set.tr) := H1.out.2.cell 2 rfl
 have y3 : w1.cell? ⟨B, 3, none⟩ = some (.slice a1 X.fb.set.n c1) := H1.out.2.cell 3 rfl
 have y4 : w1.cell? ⟨B, 4, none⟩ = some (.int .i64 X.fb.op.nx) := H1.out.2.cell 4 rfl
 have y5 : w1.cell? ⟨B, 5, none⟩ = some (.slice a2 X.fb.op.m c2) := H1.out.2.cell 5 rfl
 have y6 : w1.cell? ⟨B, 6, none⟩ = some (.slice a3 X.fb.nl c3) := H1.out.2.cell 6 rfl
 have y7 : w1.cell? ⟨B, 7, none⟩ = some (.int .i64 X.fb.sk) := H1.out.2.cell 7 rfl
 have y8 : w1.cell? ⟨B, 8, none⟩ = some (.int .i64 X.fb.re) := H1.out.2.cell 8 rfl
 have y9 : w1.cell? ⟨B, 9, none⟩ = some (.int .i64 X.fb.fa) := H1.out.2.cell 9 rfl
 have y10 : w1.cell? ⟨B, 10, none⟩ = some (.int .i64 X.fb.se) := H1.out.2.cell 10 rfl
 have y11 : w1.cell? ⟨B, 11, none⟩ = some (.slice a4 X.ns c4) := H1.out.2.cell 11 rfl
 have y12 : w1.cell? ⟨B, 12, none⟩ = some (.slice a5 X.nk c5) := H1.out.2.cell 12 rfl
 have y13 : w1.cell? ⟨B, 13, none⟩ = some (.slice a6 X.nr c6) := H1.out.2.cell 13 rfl
 have y14 : w1.cell? ⟨B, 14, none⟩ = some (.slice a7 X.ne c7) := H1.out.2.cell 14 rfl
 go_wp2_with fail
 refine (toWorld_t X a1 _ c1 a2 _ c2 a3 _ c3 a4 _ c4 a5 _ c5 a6 _ c6 a7 _ c7 _ (HH.out.1.1.below H1.out.1) (HH.out.1.2.1.below H1.out.1) (HH.out.1.2.2.1.below H1.out.1) (HH.out.1.2.2.2.1.below H1.out.1) (HH.out.1.2.2.2.2.1.below H1.out.1) (HH.out.1.2.2.2.2.2.1.below H1.out.1) (HH.out.1.2.2.2.2.2.2.below H1.out.1) HH.out.2.1).mono ?_
 rintro e w2 ⟨g1, d1, g2, d2, g3, d3, g4, d4, g5, d5, g6, d6, g7, d7, rfl, R2_1, R2_2, R2_3, R2_4, R2_5, R2_6, R2_7, b'⟩
 have H2 : Hid (Below W.heap.size W w2 /\ Blk w2 B 36 (xwL X a1 X.fb.set.n c1 a2 X.fb.op.m c2 a3 X.fb.nl c3 a4 X.ns c4 a5 X.nk c5 a6 X.nr c6 a7 X.ne c7).toArray /\ RdW w2 X g1 d1 g2 d2 g3 d3 g4 d4 g5 d5 g6 d6 g7 d7) := ⟨bel_nx H1.out.1 b', H1.out.2.below b', R2_1.mono (Nat.zero_le _), R2_2.mono (Nat.zero_le _), R2_3.mono (Nat.zero_le _), R2_4.mono (Nat.zero_le _), R2_5.mono (Nat.zero_le _), R2_6.mono (Nat.zero_le _), R2_7.mono (Nat.zero_le _)⟩
 clear b' H1 R2_1 R2_2 R2_3 R2_4 R2_5 R2_6 R2_7 y0 y1 y2 y3 y4 y5 y6 y7 y8 y9 y10 y11 y12 y13 y14
 go_wp2_with fail
 refine (specQuiet_w X g1 d1 g2 d2 g3 d3 g4 d4 g5 d5 g6 d6 g7 d7 _ (H2.out.2.2) HH.out.2.2.1).mono ?_
 rintro e w3 ⟨rfl, b'⟩
 rw [<- HO.out]
 have H3 : Hid (Below W.heap.size W w3 /\ Blk w3 B 36 (xwL X a1 X.fb.set.n c1 a2 X.fb.op.m c2 a3 X.fb.nl c3 a4 X.ns c4 a5 X.nk c5 a6 X.nr c6 a7 X.ne c7).toArray) := ⟨bel_nx H2.out.1 b', H2.out.2.1.below b'⟩
 clear b' H2
 have y0 : w3.cell? ⟨B, 0, none⟩ = some (.int .i64 X.fb.nw) := H3.out.2.cell 0 rfl
 have y1 : w3.cell? ⟨B, 1, none⟩ = some (.int .i64 X.fb.set.wt) := H3.out.2.cell 1 rfl
 have y2 : w3.cell? ⟨B, 2, none⟩ = some (.int .i64 X.fb.set.tr) := H3.out.2.cell 2 rfl
 have y3 : w3.cell? ⟨B, 3, none⟩ = some (.slice a1 X.fb.set.n c1) := H3.out.2.cell 3 rfl
 have y4 : w3.cell? ⟨B, 4, none⟩ = some (.int .i64 X.fb.op.nx) := H3.out.2.cell 4 rfl
 have y5 : w3.cell? ⟨B, 5, none⟩ = some (.slice a2 X.fb.op.m c2) := H3.out.2.cell 5 rfl
 have y6 : w3.cell? ⟨B, 6, none⟩ = some (.slice a3 X.fb.nl c3) := H3.out.2.cell 6 rfl
 have y7 : w3.cell? ⟨B, 7, none⟩ = some (.int .i64 X.fb.sk) := H3.out.2.cell 7 rfl
 have y8 : w3.cell? ⟨B, 8, none⟩ = some (.int .i64 X.fb.re) := H3.out.2.cell 8 rfl
 have y9 : w3.cell? ⟨B, 9, none⟩ = some (.int .i64 X.fb.fa) := H3.out.2.cell 9 rfl
 have y10 : w3.cell? ⟨B, 10, none⟩ = some (.int .i64 X.fb.se) := H3.out.2.cell 10 rfl
 have y11 : w3.cell? ⟨B, 11, none⟩ = some (.slice a4 X.ns c4) := H3.out.2.cell 11 rfl
 have y12 : w3.cell? ⟨B, 12, none⟩ = some (.slice a5 X.nk c5) := H3.out.2.cell 12 rfl
 have y13 : w3.cell? ⟨B, 13, none⟩ = some (.slice a6 X.nr c6) := H3.out.2.cell 13 rfl
 have y14 : w3.cell? ⟨B, 14, none⟩ = some (.slice a7 X.ne c7) := H3.out.2.cell 14 rfl
 go_wp2_with fail
 refine (toWorld_t X a1 _ c1 a2 _ c2 a3 _ c3 a4 _ c4 a5 _ c5 a6 _ c6 a7 _ c7 _ (HH.out.1.1.below H3.out.1) (HH.out.1.2.1.below H3.out.1) (HH.out.1.2.2.1.below H3.out.1) (HH.out.1.2.2.2.1.below H3.out.1) (HH.out.1.2.2.2.2.1.below H3.out.1) (HH.out.1.2.2.2.2.2.1.below H3.out.1) (HH.out.1.2.2.2.2.2.2.below H3.out.1) HH.out.2.1).mono ?_
 rintro e w4 ⟨p1, q1, p2, q2, p3, q3, p4, q4, p5, q5, p6, q6, p7, q7, rfl, R4_1, R4_2, R4_3, R4_4, R4_5, R4_6, R4_7, b'⟩
 obtain ⟨D, hD⟩ : ∃ D, D = w4.heap.size := ⟨_, rfl⟩
 obtain ⟨W5, hW5⟩ : ∃ W5, W5 = w4.alloc (.cells #[.int .i64 X.fb.nw, .int .i64 X.fb.set.wt, .int .i64 X.fb.set.tr, .slice p1 X.fb.set.n q1, .int .i64 X.fb.op.nx, .slice p2 X.fb.op.m q2, .slice p3 X.fb.nl q3, .int .i64 X.fb.sk, .int .i64 X.fb.re, .int .i64 X.fb.fa, .int .i64 X.fb.se, .slice p4 X.ns q4, .slice p5 X.nk q5, .slice p6 X.nr q6, .slice p7 X.ne q7] 53) := ⟨_, rfl⟩
 have H5 : Hid (Below W.heap.size W W5 /\ Blk W5 B 36 (xwL X a1 X.fb.set.n c1 a2 X.fb.op.m c2 a3 X.fb.nl c3 a4 X.ns c4 a5 X.nk c5 a6 X.nr c6 a7 X.ne c7).toArray /\ Blk W5 D 53 (xwL X p1 X.fb.set.n q1 p2 X.fb.op.m q2 p3 X.fb.nl q3 p4 X.ns q4 p5 X.nk q5 p6 X.nr q6 p7 X.ne q7).toArray /\ RdW W5 X p1 q1 p2 q2 p3 q3 p4 q4 p5 q5 p6 q6 p7 q7) := by
  have b5 : Below w4.heap.size w4 W5 := by rw [hW5]; exact bel_alloc w4 _
  have k5 : Blk W5 D 53 (xwL X p1 X.fb.set.n q1 p2 X.fb.op.m q2 p3 X.fb.nl q3 p4 X.ns q4 p5 X.nk q5 p6 X.nr q6 p7 X.ne q7).toArray := by
   rw [hW5, hD]
   exact Blk.new w4 _ _
  exact ⟨bel_nx (bel_nx H3.out.1 b') b5, (H3.out.2.below b').below b5, k5, (R4_1.mono (Nat.zero_le _)).below b5, (R4_2.mono (Nat.zero_le _)).below b5, (R4_3.mono (Nat.zero_le _)).below b5, (R4_4.mono (Nat.zero_le _)).below b5, (R4_5.mono (Nat.zero_le _)).below b5, (R4_6.mono (Nat.zero_le _)).below b5, (R4_7.mono (Nat.zero_le _)).below b5⟩
 clear b' H3 R4_1 R4_2 R4_3 R4_4 R4_5 R4_6 R4_7 y0 y1 y2 y3 y4 y5 y6 y7 y8 y9 y10 y11 y12 y13 y14
 go_upto_region 7 with fail
 rw [<- hW5, <- hD]
 clear hW5 hD
 have y0 : W5.cell? ⟨D, 0, none⟩ = some (.int .i64 X.fb.nw) := H5.out.2.2.1.cell 0 rfl
 have y1 : W5.cell? ⟨D, 1, none⟩ = some (.int .i64 X.fb.set.wt) := H5.out.2.2.1.cell 1 rfl
 have y2 : W5.cell? ⟨D, 2, none⟩ = some (.int .i64 X.fb.set.tr) := H5.out.2.2.1.cell 2 rfl
 have y3 : W5.cell? ⟨D, 3, none⟩ = some (.slice p1 X.fb.set.n q1) := H5.out.2.2.1.cell 3 rfl
 have y4 : W5.cell? ⟨D, 4, none⟩ = some (.int .i64 X.fb.op.nx) := H5.out.2.2.1.cell 4 rfl
 have y5 : W5.cell? ⟨D, 5, none⟩ = some (.slice p2 X.fb.op.m q2) := H5.out.2.2.1.cell 5 rfl
 have y6 : W5.cell? ⟨D, 6, none⟩ = some (.slice p3 X.fb.nl q3) := H5.out.2.2.1.cell 6 rfl
 have y7 : W5.cell? ⟨D, 7, none⟩ = some (.int .i64 X.fb.sk) := H5.out.2.2.1.cell 7 rfl
 have y8 : W5.cell? ⟨D, 8, none⟩ = some (.int .i64 X.fb.re) := H5.out.2.2.1.cell 8 rfl
 have y9 : W5.cell? ⟨D, 9, none⟩ = some (.int .i64 X.fb.fa) := H5.out.2.2.1.cell 9 rfl
 have y10 : W5.cell? ⟨D, 10, none⟩ = some (.int .i64 X.fb.se) := H5.out.2.2.1.cell 10 rfl
 have y11 : W5.cell? ⟨D, 11, none⟩ = some (.slice p4 X.ns q4) := H5.out.2.2.1.cell 11 rfl
 have y12 : W5.cell? ⟨D, 12, none⟩ = some (.slice p5 X.nk q5) := H5.out.2.2.1.cell 12 rfl
 have y13 : W5.cell? ⟨D, 13, none⟩ = some (.slice p6 X.nr q6) := H5.out.2.2.1.cell 13 rfl
 have y14 : W5.cell? ⟨D, 14, none⟩ = some (.slice p7 X.ne q7) := H5.out.2.2.1.cell 14 rfl
 go_wp2_with fail
 refine (implQuiet_w X p1 q1 p2 q2 p3 q3 p4 q4 p5 q5 p6 q6 p7 q7 _ (H5.out.2.2.2) HH.out.2.2.1).mono ?_
 rintro e w6 ⟨rfl, b'⟩
 rw [<- HO.out]
 have H6 : Hid (Below W.heap.size W w6 /\ Blk w6 B 36 (xwL X a1 X.fb.set.n c1 a2 X.fb.op.m c2 a3 X.fb.nl c3 a4 X.ns c4 a5 X.nk c5 a6 X.nr c6 a7 X.ne c7).toArray /\ Blk w6 D 53 (xwL X p1 X.fb.set.n q1 p2 X.fb.op.m q2 p3 X.fb.nl q3 p4 X.ns q4 p5 X.nk q5 p6 X.nr q6 p7 X.ne q7).toArray /\ RdW w6 X p1 q1 p2 q2 p3 q3 p4 q4 p5 q5 p6 q6 p7 q7) := ⟨bel_nx H5.out.1 b', H5.out.2.1.below b', H5.out.2.2.1.below b', H5.out.2.2.2.1.below b', H5.out.2.2.2.2.1.below b', H5.out.2.2.2.2.2.1.below b', H5.out.2.2.2.2.2.2.1.below b', H5.out.2.2.2.2.2.2.2.1.below b', H5.out.2.2.2.2.2.2.2.2.1.below b', H5.out.2.2.2.2.2.2.2.2.2.below b'⟩
 clear b' H5 y0 y1 y2 y3 y4 y5 y6 y7 y8 y9 y10 y11 y12 y13 y14
 have ebb : (ok == ok) = true := by simp
 have ebn : (ok != ok) = false := by simp
 go_upto_region 10 with fail
 clear ebb ebn
 refine wp_region_any (by kernel_rfl) ?_
 refine wpAny_vals (fun u => Below w6.heap.size w6 u) (fun i v u => match i with
  | 0 => v = .agg (xwL X p1 X.fb.set.n q1 p2 X.fb.op.m q2 p3 X.fb.nl q3 p4 X.ns q4 p5 X.nk q5 p6 X.nr q6 p7 X.ne q7).toArray
  | 1 => v = .agg (xwL X a1 X.fb.set.n c1 a2 X.fb.op.m c2 a3 X.fb.nl c3 a4 X.ns c4 a5 X.nk c5 a6 X.nr c6 a7 X.ne c7).toArray
  | 2 => ∃ k1 j1 k2 j2 k3 j3 k4 j4 k5 j5 k6 j6 k7 j7, v = .agg (xwL X k1 X.fb.set.n j1 k2 X.fb.op.m j2 k3 X.fb.nl j3 k4 X.ns j4 k5 X.nk j5 k6 X.nr j6 k7 X.ne j7).toArray /\ RdW u X k1 j1 k2 j2 k3 j3 k4 j4 k5 j5 k6 j6 k7 j7
  | 3 => v = .bool true
  | 4 => v = .bool false
  | _ => True) (by kernel_rfl) (by kernel_rfl) ?_ (by first | exact Below.refl _ _ | exact (Below.refl _ _).drew) ?_ ?_ _ _ rfl (by decide) (fun i => by simp [Array.getD]; try (split <;> rfl))
 ·intro i v u u' h hb
  match i with
  | 0 => exact h
  | 1 => exact h
  | 2 =>
   obtain ⟨k1, j1, k2, j2, k3, j3, k4, j4, k5, j5, k6, j6, k7, j7, e, hl⟩ := h
   exact ⟨k1, j1, k2, j2, k3, j3, k4, j4, k5, j5, k6, j6, k7, j7, e, hl.1.below hb, hl.2.1.below hb, hl.2.2.1.below hb, hl.2.2.2.1.below hb, hl.2.2.2.2.1.below hb, hl.2.2.2.2.2.1.below hb, hl.2.2.2.2.2.2.below hb⟩
  | 3 => exact h
  | 4 => exact h
  | _ + 5 => trivial
 ·intro vs u hR hall
  have e4 : vs 4 = .bool false := hall 4 (by simp)
  simp only [putsL]
  rw [e4]
  clear hall e4
  have HB : Hid (Below w.heap.size w u) := bel_nx (bel_nx HH.out.2.2.2.2 H6.out.1) hR
  clear H6 hR
  go_simp
  go_wp2
  go_ret
  exact ⟨rfl, HB.out⟩
 intro u i o ρ hR ho hρ hc hf hd
 have hi : i < 5 := by
  have := (Array.getElem?_eq_some_iff.1 ho).1
  simpa using this
 obtain rfl | rfl | rfl | rfl | rfl : i = 0 \/ i = 1 \/ i = 2 \/ i = 3 \/ i = 4 := by omega
 all_goals (simp only [List.getElem?_toArray, List.getElem?_cons_zero, List.getElem?_cons_succ, Option.some.injEq] at ho; subst ho)
 ·have s5 : ρ (.tmp 5) = .pointer (some ⟨D, 0, none⟩) := (hρ 5 (by kernel_rfl)).trans rfl
  exact .inl ⟨rfl, .inl ⟨_, u, run_load_op rfl s5 (run_loadAt_mid u D 0 53 (xwL X p1 X.fb.set.n q1 p2 X.fb.op.m q2 p3 X.fb.nl q3 p4 X.ns q4 p5 X.nk q5 p6 X.nr q6 p7 X.ne q7) _ (H6.out.2.2.1.below hR).rng Try.underlying53 rfl (by kernel_rfl)), rfl, hR, Below.refl _ _⟩⟩
 ·have s1 : ρ (.tmp 1) = .pointer (some ⟨B, 0, none⟩) := (hρ 1 (by kernel_rfl)).trans rfl
  exact .inl ⟨rfl, .inl ⟨_, u, run_load_op rfl s1 (run_loadAt_mid u B 0 36 (xwL X a1 X.fb.set.n c1 a2 X.fb.op.m c2 a3 X.fb.nl c3 a4 X.ns c4 a5 X.nk c5 a6 X.nr c6 a7 X.ne c7) _ (H6.out.2.1.below hR).rng Try.underlying36 rfl (by kernel_rfl)), rfl, hR, Below.refl _ _⟩⟩
 ·have h1 : ρ (.tmp 23) = .agg (xwL X a1 X.fb.set.n c1 a2 X.fb.op.m c2 a3 X.fb.nl c3 a4 X.ns c4 a5 X.nk c5 a6 X.nr c6 a7 X.ne c7).toArray := hd ⟨1, .data⟩ (by simp) rfl 23 rfl
  refine .inl ⟨rfl, .inr ⟨_, _, run_call_op rfl (hf _) (args := #[.agg (xwL X a1 X.fb.set.n c1 a2 X.fb.op.m c2 a3 X.fb.nl c3 a4 X.ns c4 a5 X.nk c5 a6 X.nr c6 a7 X.ne c7).toArray]) (by simp [h1]) (by kernel_rfl), ?_⟩⟩
  refine (toWorld_t X a1 _ c1 a2 _ c2 a3 _ c3 a4 _ c4 a5 _ c5 a6 _ c6 a7 _ c7 _ (HH.out.1.1.below (bel_nx H6.out.1 hR)) (HH.out.1.2.1.below (bel_nx H6.out.1 hR)) (HH.out.1.2.2.1.below (bel_nx H6.out.1 hR)) (HH.out.1.2.2.2.1.below (bel_nx H6.out.1 hR)) (HH.out.1.2.2.2.2.1.below (bel_nx H6.out.1 hR)) (HH.out.1.2.2.2.2.2.1.below (bel_nx H6.out.1 hR)) (HH.out.1.2.2.2.2.2.2.below (bel_nx H6.out.1 hR)) HH.out.2.1).mono ?_
  rintro e u' ⟨k1, j1, k2, j2, k3, j3, k4, j4, k5, j5, k6, j6, k7, j7, he, P7_1, P7_2, P7_3, P7_4, P7_5, P7_6, P7_7, b'⟩
  exact ⟨_, he, ⟨k1, j1, k2, j2, k3, j3, k4, j4, k5, j5, k6, j6, k7, j7, rfl, P7_1.mono (Nat.zero_le _), P7_2.mono (Nat.zero_le _), P7_3.mono (Nat.zero_le _), P7_4.mono (Nat.zero_le _), P7_5.mono (Nat.zero_le _), P7_6.mono (Nat.zero_le _), P7_7.mono (Nat.zero_le _)⟩, bel_nx hR b', b'⟩
 ·have h0 : ρ (.tmp 22) = .agg (xwL X p1 X.fb.set.n q1 p2 X.fb.op.m q2 p3 X.fb.nl q3 p4 X.ns q4 p5 X.nk q5 p6 X.nr q6 p7 X.ne q7).toArray := hd ⟨0, .data⟩ (by simp) rfl 22 rfl
  obtain ⟨k1, j1, k2, j2, k3, j3, k4, j4, k5, j5, k6, j6, k7, j7, hv, hl⟩ : ∃ k1 j1 k2 j2 k3 j3 k4 j4 k5 j5 k6 j6 k7 j7, ρ (.tmp 24) = .agg (xwL X k1 X.fb.set.n j1 k2 X.fb.op.m j2 k3 X.fb.nl j3 k4 X.ns j4 k5 X.nk j5 k6 X.nr j6 k7 X.ne j7).toArray /\ RdW u X k1 j1 k2 j2 k3 j3 k4 j4 k5 j5 k6 j6 k7 j7 := hd ⟨2, .data⟩ (by simp) rfl 24 rfl
  refine .inl ⟨rfl, .inr ⟨_, _, run_call_op rfl (hf _) (args := #[.agg (xwL X p1 X.fb.set.n q1 p2 X.fb.op.m q2 p3 X.fb.nl q3 p4 X.ns q4 p5 X.nk q5 p6 X.nr q6 p7 X.ne q7).toArray, .agg (xwL X k1 X.fb.set.n j1 k2 X.fb.op.m j2 k3 X.fb.nl j3 k4 X.ns j4 k5 X.nk j5 k6 X.nr j6 k7 X.ne j7).toArray]) (by simp [h0, hv]) (by kernel_rfl), ?_⟩⟩
  refine (eqWorld_t X p1 _ q1 p2 _ q2 p3 _ q3 p4 _ q4 p5 _ q5 p6 _ q6 p7 _ q7 k1 j1 k2 j2 k3 j3 k4 j4 k5 j5 k6 j6 k7 j7 _ (H6.out.2.2.2.1.below hR) (H6.out.2.2.2.2.1.below hR) (H6.out.2.2.2.2.2.1.below hR) (H6.out.2.2.2.2.2.2.1.below hR) (H6.out.2.2.2.2.2.2.2.1.below hR) (H6.out.2.2.2.2.2.2.2.2.1.below hR) (H6.out.2.2.2.2.2.2.2.2.2.below hR) hl.1 hl.2.1 hl.2.2.1 hl.2.2.2.1 hl.2.2.2.2.1 hl.2.2.2.2.2.1 hl.2.2.2.2.2.2 HH.out.2.1).mono ?_
  rintro e u' ⟨he, b'⟩
  exact ⟨_, he, rfl, bel_nx hR b', b'⟩
 have h3 : ρ (.tmp 25) = .bool true := hd ⟨3, .data⟩ (by simp) rfl 25 rfl
 exact .inl ⟨rfl, .inl ⟨.bool false, u, run_un_op rfl h3 (by go_simp), rfl, hR, Below.refl _ _⟩⟩
end Go.Proofs.Ytplaoagcedgdfaa
