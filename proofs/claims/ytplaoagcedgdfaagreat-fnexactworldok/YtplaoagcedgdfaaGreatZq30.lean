/- Parts of the proof. -/
import Derived.Test.YtplaoagcedgdfaaGreatZq6
import Derived.Test.YtplaoagcedgdfaaGreatZq2
import Derived.Test.YtplaoagcedgdfaaGreatZq3
set_option linter.unusedVariables false
set_option linter.unusedSimpArgs false
set_option maxHeartbeats 2000000
set_option maxRecDepth 20000
namespace Go.Proofs.YtplaoagcedgdfaaGreat
open Go.RowKit Go.Joins Go.Proofs.Tryz
theorem fg {left t L : Nat} (h : L + t = left) : aB left t = (L : Int) := by unfold aB; rw [if_pos (by omega)]; omega
theorem cf {left t : Nat} (h : left < t) : aB left t = -1 := by unfold aB; rw [if_neg (by omega)]
theorem eg {n : Nat} {ar : Array Value} {w : World} {left t : Nat} {Q : World -> Prop} (h : Calls prog n ar w fun e w' => e = .returned (.int .i64 (aB left t)) /\ Q w') : Calls prog n ar w fun e w' => Q w' /\ ((∃ L : Nat, Hid (L + t = left) /\ e = .returned (.int .i64 (L : Int))) \/ (Hid (left < t) /\ e = .returned (.int .i64 (-1)))) :=
 h.mono (by
  rintro e w' ⟨rfl, q⟩
  refine ⟨q, ?_⟩
  by_cases h : t <= left
  ·exact .inl ⟨left - t, (by show _ = _; omega), by rw [fg (L := left - t) (by omega)]⟩
  exact .inr ⟨(by show _ < _; omega), by rw [cf (by omega)]⟩)
theorem oO (X : VI) (a1 : Option Addr) (l1 c1 : Nat) (a2 : Option Addr) (l2 c2 : Nat) (a3 : Option Addr) (l3 c3 : Nat) (a4 : Option Addr) (l4 c4 : Nat) (left : Nat) (w : World) (r1 : Rd w 0 (af X.co) (.slice a1 l1 c1)) (r2 : Rd w 0 (af X.ip) (.slice a2 l2 c2)) (r3 : Rd w 0 (ah X.ho) (.slice a3 l3 c3)) (r4 : Rd w 0 (ah X.wd) (.slice a4 l4 c4)) (hl : left <= 1048576) :
 Calls prog 170 #[.agg (dn X a1 l1 c1 a2 l2 c2 a3 l3 c3 a4 l4 c4).toArray, .int .i64 (left : Int)] w fun e w' => e = .returned (.int .i64 (aB left (ao 4 (aa (eu X))))) /\ Below w.heap.size w w' := by
 rw [show ao 4 (aa (eu X)) = X.co.length + X.ip.length + X.ho.length + X.wd.length by simp only [fp]; try omega]
 obtain ⟨W, hW⟩ : ∃ W, W = w.alloc (.cells (dn X a1 l1 c1 a2 l2 c2 a3 l3 c3 a4 l4 c4).toArray 163) := ⟨_, rfl⟩
 have G0 := bg (And.intro (show Below w.heap.size w W by rw [hW]; exact ac _ _) (show ag W w.heap.size 163 (dn X a1 l1 c1 a2 l2 c2 a3 l3 c3 a4 l4 c4).toArray by rw [hW]; exact ag.new _ _ _))
 have HR := bg (And.intro r1 <| And.intro r2 <| And.intro r3 <| And.intro r4 <| hl)
 clear hl r1 r2 r3 r4
 go_enter func170, ntmps170
 go_upto_region 1 with fail
 rw [<- hW]
 clear hW
 obtain ⟨⟨y0, y1, y2, y3⟩, -⟩ := G0.out.2.tc4
 go_wp2_with fail
 refine (eg (dA X.co a1 l1 c1 left _ (HR.out.1.below G0.out.1) HR.out.2.2.2.2)).mono ?_
 rintro e w1 ⟨b, ⟨L1, E1, rfl⟩ | ⟨E1, rfl⟩⟩
 rotate_left
 ·have B := ae G0.out.1 b
  clear b y0 y1 y2 y3
  go_wp2
  go_ret
  exact ⟨by rw [cf (by have := E1.out; omega)]; rfl, B⟩
 have G1 := bg (And.intro (ae G0.out.1 b) (G0.out.2.below b))
 have n1 : ¬ ((L1 : Int) < 0) := by omega
 clear b y0 y1 y2 y3
 obtain ⟨⟨y0, y1, y2, y3⟩, -⟩ := G1.out.2.tc4
 go_wp2_with fail
 refine (eg (dA X.ip a2 l2 c2 L1 _ (HR.out.2.1.below G1.out.1) (by have := HR.out.2.2.2.2; have := E1.out; omega))).mono ?_
 rintro e w2 ⟨b, ⟨L2, E2, rfl⟩ | ⟨E2, rfl⟩⟩
 rotate_left
 ·have B := ae G1.out.1 b
  clear b y0 y1 y2 y3
  go_wp2
  go_ret
  exact ⟨by rw [cf (by have := E1.out; have := E2.out; omega)]; rfl, B⟩
 have G2 := bg (And.intro (ae G1.out.1 b) (G1.out.2.below b))
 have n2 : ¬ ((L2 : Int) < 0) := by omega
 clear b y0 y1 y2 y3
 obtain ⟨⟨y0, y1, y2, y3⟩, -⟩ := G2.out.2.tc4
 go_wp2_with fail
 refine (eg (fe X.ho a3 l3 c3 L2 _ (HR.out.2.2.1.below G2.out.1) (by have := HR.out.2.2.2.2; have := E1.out; have := E2.out; omega))).mono ?_
 rintro e w3 ⟨b, ⟨L3, E3, rfl⟩ | ⟨E3, rfl⟩⟩
 rotate_left
 ·have B := ae G2.out.1 b
  clear b y0 y1 y2 y3
  go_wp2
  go_ret
  exact ⟨by rw [cf (by have := E1.out; have := E2.out; have := E3.out; omega)]; rfl, B⟩
 have G3 := bg (And.intro (ae G2.out.1 b) (G2.out.2.below b))
 have n3 : ¬ ((L3 : Int) < 0) := by omega
 clear b y0 y1 y2 y3
 obtain ⟨⟨y0, y1, y2, y3⟩, -⟩ := G3.out.2.tc4
 go_wp2_with fail
 refine (eg (fe X.wd a4 l4 c4 L3 _ (HR.out.2.2.2.1.below G3.out.1) (by have := HR.out.2.2.2.2; have := E1.out; have := E2.out; have := E3.out; omega))).mono ?_
 rintro e w4 ⟨b, ⟨L4, E4, rfl⟩ | ⟨E4, rfl⟩⟩
 rotate_left
 ·have B := ae G3.out.1 b
  clear b y0 y1 y2 y3
  go_wp2
  go_ret
  exact ⟨by rw [cf (by have := E1.out; have := E2.out; have := E3.out; have := E4.out; omega)]; rfl, B⟩
 have G4 := bg (And.intro (ae G3.out.1 b) (G3.out.2.below b))
 have n4 : ¬ ((L4 : Int) < 0) := by omega
 clear b y0 y1 y2 y3
 go_wp2
 go_ret
 exact ⟨by rw [fg (L := L4) (by have := E1.out; have := E2.out; have := E3.out; have := E4.out; omega)]; rfl, G4.out.1⟩
theorem rt (X : VS) (a1 : Option Addr) (l1 c1 : Nat) (a2 : Option Addr) (l2 c2 : Nat) (a3 : Option Addr) (l3 c3 : Nat) (a4 : Option Addr) (l4 c4 : Nat) (left : Nat) (w : World) (r1 : Rd w 0 (af X.d.co) (.slice a1 l1 c1)) (r2 : Rd w 0 (af X.d.ip) (.slice a2 l2 c2)) (r3 : Rd w 0 (ah X.d.ho) (.slice a3 l3 c3)) (r4 : Rd w 0 (ah X.d.wd) (.slice a4 l4 c4)) (hl : left <= 1048576) :
 Calls prog 112 #[.agg (cz X a1 l1 c1 a2 l2 c2 a3 l3 c3 a4 l4 c4).toArray, .int .i64 (left : Int)] w fun e w' => e = .returned (.int .i64 (aB left (ao 6 (aa (bn X))))) /\ Below w.heap.size w w' := by
 rw [show ao 6 (aa (bn X)) = ao 4 (aa (eu X.d)) by simp only [jY, fp]; try omega]
 obtain ⟨W, hW⟩ : ∃ W, W = w.alloc (.cells (cz X a1 l1 c1 a2 l2 c2 a3 l3 c3 a4 l4 c4).toArray 165) := ⟨_, rfl⟩
 have G0 := bg (And.intro (show Below w.heap.size w W by rw [hW]; exact ac _ _) (show ag W w.heap.size 165 (cz X a1 l1 c1 a2 l2 c2 a3 l3 c3 a4 l4 c4).toArray by rw [hW]; exact ag.new _ _ _))
 have HR := bg (And.intro r1 <| And.intro r2 <| And.intro r3 <| And.intro r4 <| hl)
 clear hl r1 r2 r3 r4
 go_enter func112, ntmps112
 go_upto_region 1 with fail
 rw [<- hW]
 clear hW
 obtain ⟨⟨y0, y1, y2, y3, y4, y5⟩, -⟩ := G0.out.2.tc6
 go_wp2_with fail
 refine (eg (oO X.d a1 l1 c1 a2 l2 c2 a3 l3 c3 a4 l4 c4 left _ (HR.out.1.below G0.out.1) (HR.out.2.1.below G0.out.1) (HR.out.2.2.1.below G0.out.1) (HR.out.2.2.2.1.below G0.out.1) HR.out.2.2.2.2)).mono ?_
 rintro e w1 ⟨b, ⟨L1, E1, rfl⟩ | ⟨E1, rfl⟩⟩
 rotate_left
 ·have B := ae G0.out.1 b
  clear b y0 y1 y2 y3 y4 y5
  go_wp2
  go_ret
  exact ⟨by rw [cf (by have := E1.out; omega)]; rfl, B⟩
 have G1 := bg (And.intro (ae G0.out.1 b) (G0.out.2.below b))
 have n1 : ¬ ((L1 : Int) < 0) := by omega
 clear b y0 y1 y2 y3 y4 y5
 go_wp2
 go_ret
 exact ⟨by rw [fg (L := L1) (by have := E1.out; omega)]; rfl, G1.out.1⟩
theorem qe (n : Nat) (f : Nat -> VS) (a : Option Addr) (n' cap : Nat) (left : Nat) (w : World) (hs : Rd w 0 (.list 6 n (fun k => aa (bn (f k)))) (.slice a n' cap)) (hl : left <= 1048576) :
 Calls prog 62 #[.slice a n' cap, .int .i64 (left : Int)] w fun e w' => e = .returned (.int .i64 (aB left (Tr.list 6 n (fun k => aa (bn (f k)))).sz)) /\ Below w.heap.size w w' := by
 obtain ⟨a9, c9, h9, -, hn⟩ := hs.shape
 simp only [Value.slice.injEq] at h9
 obtain ⟨-, rfl, -⟩ := h9
 clear a9 c9
 unfold maxLen at hn
 have w1 : IntKind.i64.wrap ((left : Int) - (n' : Int)) = (left : Int) - (n' : Int) := by rw [IntKind.wrap_i64]; omega
 obtain ⟨g, hg⟩ : ∃ g : Nat -> Nat, g = fun k => ao 6 (aa (bn (f k))) := ⟨_, rfl⟩
 have HT : Hid ((Tr.list 6 n' (fun k => aa (bn (f k)))).sz = n' + aF n' g) := by show _ = _; rw [hg]; exact Tr.sz_list _ _ _
 have HG : Hid (∀ k, g k = ao 6 (aa (bn (f k)))) := by show ∀ k, g k = _; intro k; rw [hg]
 clear hg
 by_cases h0 : n' <= left
 ·have h1 : ¬ ((left : Int) - (n' : Int) < 0) := by omega
  have HS : Hid (Rd w 0 (.list 6 n' (fun k => aa (bn (f k)))) (.slice a n' cap)) := hs
  have HL : Hid (left <= 1048576) := hl
  clear hs hn
  go_enter func62, ntmps62
  go_wp2
  go_loopw [1, 5] (fun lv i wr => ∃ k : Nat, k <= n' /\ i = .int .i64 k /\ n' + aF k g <= left /\ lv = .int .i64 ((left : Int) - (n' : Int) - (aF k g : Int)) /\ Below w.heap.size w wr) (fun _ i _ => n' - (intOf i).toNat)
  case atStart => exact ⟨0, Nat.zero_le _, rfl, by simp [aF]; omega, by simp [aF], Below.refl _ _⟩
  case round =>
   obtain ⟨k, hk, rfl, ht, rfl, hb⟩ := hrel
   by_cases hlt : k < n'
   ·have hi : (k : Int) < (n' : Int) := by omega
    obtain ⟨b, off, vs, rfl, _, hb0, hlen, hr, hrd⟩ := (HS.out.below hb).at hlt
    obtain ⟨a1, c1, a2, c2, a3, c3, a4, c4, rfl, r1, r2, r3, r4⟩ := VS.cells hrd hlen
    clear hlen hrd
    have d0 : wr.cell? ⟨b, off + k * 6, none⟩ = _ := hr 0 _ rfl
    have d1 := hr 1 _ rfl
    have d2 := hr 2 _ rfl
    have d3 := hr 3 _ rfl
    have d4 := hr 4 _ rfl
    have d5 := hr 5 _ rfl
    obtain ⟨lf, hlf⟩ : ∃ lf : Nat, (lf : Int) = (left : Int) - (n' : Int) - (aF k g : Int) := ⟨left - n' - aF k g, by omega⟩
    rw [<- hlf]
    have HK := bg (And.intro hlf <| And.intro hb <| And.intro r1 <| And.intro r2 <| And.intro r3 <| r4)
    have hl9 : lf <= 1048576 := by have := HL.out; omega
    clear hlf hb HS hr hb0 r1 r2 r3 r4
    go_wp2_with fail
    refine (eg (rt (f k) a1 ((f k).d.co.length) c1 a2 ((f k).d.ip.length) c2 a3 ((f k).d.ho.length) c3 a4 ((f k).d.wd.length) c4 lf _ HK.out.2.2.1 HK.out.2.2.2.1 HK.out.2.2.2.2.1 HK.out.2.2.2.2.2 hl9)).mono ?_
    rintro e w2 ⟨b2, ⟨lg, E, rfl⟩ | ⟨E, rfl⟩⟩
    rotate_left
    ·have HF : Hid (aB left (Tr.list 6 n' (fun k => aa (bn (f k)))).sz = -1) := by
      have h9 := HK.out.1
      have h8 := cX g (show k + 1 <= n' by omega)
      have h7 := E.out
      have h6 : aF (k + 1) g = aF k g + g k := rfl
      rw [<- HG.out k] at h7
      show _ = _
      rw [HT.out, cf (by omega)]
     have HB := ae HK.out.2.1 b2
     clear b2 E d0 d1 d2 d3 d4 d5
     go_wp2
     go_ret
     exact ⟨(by rw [HF.out]; rfl), HB⟩
    have HF : Hid ((lg : Int) = (left : Int) - (n' : Int) - (aF (k + 1) g : Int) /\ n' + aF (k + 1) g <= left) := by
     have h9 := HK.out.1
     have h7 := E.out
     have h6 : aF (k + 1) g = aF k g + g k := rfl
     rw [<- HG.out k] at h7
     exact ⟨by omega, by omega⟩
    have hx0 : ¬ ((lg : Int) < 0) := by omega
    have HB : Hid (Below w.heap.size w w2) := ae HK.out.2.1 b2
    clear b2 E ht d0 d1 d2 d3 d4 d5
    go_wp2
    go_roundw
    case rel => exact ⟨k + 1, by omega, by go_num, HF.out.2, by rw [HF.out.1], HB.out⟩
    case measure => simp [intOf]; omega
   have hi : ¬ (k : Int) < (n' : Int) := by omega
   have e9 : k = n' := by omega
   subst e9
   have HE : Hid (aB left (Tr.list 6 k (fun k => aa (bn (f k)))).sz = (left : Int) - (k : Int) - (aF k g : Int)) := by
    show _ = _
    rw [HT.out]; unfold aB; rw [if_pos ht]; omega
   clear ht
   go_wp2
   go_ret
   exact ⟨(by rw [HE.out]; rfl), hb⟩
 have h1 : (left : Int) - (n' : Int) < 0 := by omega
 have HE : Hid (aB left (Tr.list 6 n' (fun k => aa (bn (f k)))).sz = -1) := by
  show _ = _
  rw [HT.out]; unfold aB; rw [if_neg (by omega)]
 clear hs hn hl
 go_enter func62, ntmps62
 go_wp2
 go_ret
 exact ⟨(by rw [HE.out]; rfl), Below.refl _ _⟩
theorem oP (X : VK) (a1 : Option Addr) (l1 c1 : Nat) (a2 : Option Addr) (l2 c2 : Nat) (a3 : Option Addr) (l3 c3 : Nat) (a4 : Option Addr) (l4 c4 : Nat) (left : Nat) (w : World) (r1 : Rd w 0 (ah X.q.ws) (.slice a1 l1 c1)) (r2 : Rd w 0 (af X.q.bs) (.slice a2 l2 c2)) (r3 : Rd w 0 (ah X.a.ws) (.slice a3 l3 c3)) (r4 : Rd w 0 (af X.a.bs) (.slice a4 l4 c4)) (hl : left <= 1048576) :
 Calls prog 113 #[.agg (cr X a1 l1 c1 a2 l2 c2 a3 l3 c3 a4 l4 c4).toArray, .int .i64 (left : Int)] w fun e w' => e = .returned (.int .i64 (aB left (ao 16 (aa (br X))))) /\ Below w.heap.size w w' := by
 rw [show ao 16 (aa (br X)) = ao 6 (aa (qT X.q)) + ao 6 (aa (aT X.a)) by simp only [jZ, cO, dX]; try omega]
 obtain ⟨W, hW⟩ : ∃ W, W = w.alloc (.cells (cr X a1 l1 c1 a2 l2 c2 a3 l3 c3 a4 l4 c4).toArray 169) := ⟨_, rfl⟩
 have G0 := bg (And.intro (show Below w.heap.size w W by rw [hW]; exact ac _ _) (show ag W w.heap.size 169 (cr X a1 l1 c1 a2 l2 c2 a3 l3 c3 a4 l4 c4).toArray by rw [hW]; exact ag.new _ _ _))
 have HR := bg (And.intro r1 <| And.intro r2 <| And.intro r3 <| And.intro r4 <| hl)
 clear hl r1 r2 r3 r4
 go_enter func113, ntmps113
 go_upto_region 1 with fail
 rw [<- hW]
 clear hW
 obtain ⟨⟨y0, y1, y2, y3, y4, y5, y6, y7, y8, y9, y10, y11, y12, y13, y14, y15⟩, -⟩ := G0.out.2.tc16
 go_wp2_with fail
 refine (eg (ec X.q a1 l1 c1 a2 l2 c2 left _ (HR.out.1.below G0.out.1) (HR.out.2.1.below G0.out.1) HR.out.2.2.2.2)).mono ?_
 rintro e w1 ⟨b, ⟨L1, E1, rfl⟩ | ⟨E1, rfl⟩⟩
 rotate_left
 ·have B := ae G0.out.1 b
  clear b y0 y1 y2 y3 y4 y5 y6 y7 y8 y9 y10 y11 y12 y13 y14 y15
  go_wp2
  go_ret
  exact ⟨by rw [cf (by have := E1.out; omega)]; rfl, B⟩
 have G1 := bg (And.intro (ae G0.out.1 b) (G0.out.2.below b))
 have n1 : ¬ ((L1 : Int) < 0) := by omega
 clear b y0 y1 y2 y3 y4 y5 y6 y7 y8 y9 y10 y11 y12 y13 y14 y15
 obtain ⟨⟨y0, y1, y2, y3, y4, y5, y6, y7, y8, y9, y10, y11, y12, y13, y14, y15⟩, -⟩ := G1.out.2.tc16
 go_wp2_with fail
 refine (eg (fO X.a a3 l3 c3 a4 l4 c4 L1 _ (HR.out.2.2.1.below G1.out.1) (HR.out.2.2.2.1.below G1.out.1) (by have := HR.out.2.2.2.2; have := E1.out; omega))).mono ?_
 rintro e w2 ⟨b, ⟨L2, E2, rfl⟩ | ⟨E2, rfl⟩⟩
 rotate_left
 ·have B := ae G1.out.1 b
  clear b y0 y1 y2 y3 y4 y5 y6 y7 y8 y9 y10 y11 y12 y13 y14 y15
  go_wp2
  go_ret
  exact ⟨by rw [cf (by have := E1.out; have := E2.out; omega)]; rfl, B⟩
 have G2 := bg (And.intro (ae G1.out.1 b) (G1.out.2.below b))
 have n2 : ¬ ((L2 : Int) < 0) := by omega
 clear b y0 y1 y2 y3 y4 y5 y6 y7 y8 y9 y10 y11 y12 y13 y14 y15
 go_wp2
 go_ret
 exact ⟨by rw [fg (L := L2) (by have := E1.out; have := E2.out; omega)]; rfl, G2.out.1⟩
theorem nz (n : Nat) (f : Nat -> VK) (a : Option Addr) (n' cap : Nat) (left : Nat) (w : World) (hs : Rd w 0 (.list 16 n (fun k => aa (br (f k)))) (.slice a n' cap)) (hl : left <= 1048576) :
 Calls prog 63 #[.slice a n' cap, .int .i64 (left : Int)] w fun e w' => e = .returned (.int .i64 (aB left (Tr.list 16 n (fun k => aa (br (f k)))).sz)) /\ Below w.heap.size w w' := by
 obtain ⟨a9, c9, h9, -, hn⟩ := hs.shape
 simp only [Value.slice.injEq] at h9
 obtain ⟨-, rfl, -⟩ := h9
 clear a9 c9
 unfold maxLen at hn
 have w1 : IntKind.i64.wrap ((left : Int) - (n' : Int)) = (left : Int) - (n' : Int) := by rw [IntKind.wrap_i64]; omega
 obtain ⟨g, hg⟩ : ∃ g : Nat -> Nat, g = fun k => ao 16 (aa (br (f k))) := ⟨_, rfl⟩
 have HT : Hid ((Tr.list 16 n' (fun k => aa (br (f k)))).sz = n' + aF n' g) := by show _ = _; rw [hg]; exact Tr.sz_list _ _ _
 have HG : Hid (∀ k, g k = ao 16 (aa (br (f k)))) := by show ∀ k, g k = _; intro k; rw [hg]
 clear hg
 by_cases h0 : n' <= left
 ·have h1 : ¬ ((left : Int) - (n' : Int) < 0) := by omega
  have HS : Hid (Rd w 0 (.list 16 n' (fun k => aa (br (f k)))) (.slice a n' cap)) := hs
  have HL : Hid (left <= 1048576) := hl
  clear hs hn
  go_enter func63, ntmps63
  go_wp2
  go_loopw [1, 5] (fun lv i wr => ∃ k : Nat, k <= n' /\ i = .int .i64 k /\ n' + aF k g <= left /\ lv = .int .i64 ((left : Int) - (n' : Int) - (aF k g : Int)) /\ Below w.heap.size w wr) (fun _ i _ => n' - (intOf i).toNat)
  case atStart => exact ⟨0, Nat.zero_le _, rfl, by simp [aF]; omega, by simp [aF], Below.refl _ _⟩
  case round =>
   obtain ⟨k, hk, rfl, ht, rfl, hb⟩ := hrel
   by_cases hlt : k < n'
   ·have hi : (k : Int) < (n' : Int) := by omega
    obtain ⟨b, off, vs, rfl, _, hb0, hlen, hr, hrd⟩ := (HS.out.below hb).at hlt
    obtain ⟨a1, c1, a2, c2, a3, c3, a4, c4, rfl, r1, r2, r3, r4⟩ := VK.cells hrd hlen
    clear hlen hrd
    have d0 : wr.cell? ⟨b, off + k * 16, none⟩ = _ := hr 0 _ rfl
    have d1 := hr 1 _ rfl
    have d2 := hr 2 _ rfl
    have d3 := hr 3 _ rfl
    have d4 := hr 4 _ rfl
    have d5 := hr 5 _ rfl
    have d6 := hr 6 _ rfl
    have d7 := hr 7 _ rfl
    have d8 := hr 8 _ rfl
    have d9 := hr 9 _ rfl
    have d10 := hr 10 _ rfl
    have d11 := hr 11 _ rfl
    have d12 := hr 12 _ rfl
    have d13 := hr 13 _ rfl
    have d14 := hr 14 _ rfl
    have d15 := hr 15 _ rfl
    obtain ⟨lf, hlf⟩ : ∃ lf : Nat, (lf : Int) = (left : Int) - (n' : Int) - (aF k g : Int) := ⟨left - n' - aF k g, by omega⟩
    rw [<- hlf]
    have HK := bg (And.intro hlf <| And.intro hb <| And.intro r1 <| And.intro r2 <| And.intro r3 <| r4)
    have hl9 : lf <= 1048576 := by have := HL.out; omega
    clear hlf hb HS hr hb0 r1 r2 r3 r4
    go_wp2_with fail
    refine (eg (oP (f k) a1 ((f k).q.ws.length) c1 a2 ((f k).q.bs.length) c2 a3 ((f k).a.ws.length) c3 a4 ((f k).a.bs.length) c4 lf _ HK.out.2.2.1 HK.out.2.2.2.1 HK.out.2.2.2.2.1 HK.out.2.2.2.2.2 hl9)).mono ?_
    rintro e w2 ⟨b2, ⟨lg, E, rfl⟩ | ⟨E, rfl⟩⟩
    rotate_left
    ·have HF : Hid (aB left (Tr.list 16 n' (fun k => aa (br (f k)))).sz = -1) := by
      have h9 := HK.out.1
      have h8 := cX g (show k + 1 <= n' by omega)
      have h7 := E.out
      have h6 : aF (k + 1) g = aF k g + g k := rfl
      rw [<- HG.out k] at h7
      show _ = _
      rw [HT.out, cf (by omega)]
     have HB := ae HK.out.2.1 b2
     clear b2 E d0 d1 d2 d3 d4 d5 d6 d7 d8 d9 d10 d11 d12 d13 d14 d15
     go_wp2
     go_ret
     exact ⟨(by rw [HF.out]; rfl), HB⟩
    have HF : Hid ((lg : Int) = (left : Int) - (n' : Int) - (aF (k + 1) g : Int) /\ n' + aF (k + 1) g <= left) := by
     have h9 := HK.out.1
     have h7 := E.out
     have h6 : aF (k + 1) g = aF k g + g k := rfl
     rw [<- HG.out k] at h7
     exact ⟨by omega, by omega⟩
    have hx0 : ¬ ((lg : Int) < 0) := by omega
    have HB : Hid (Below w.heap.size w w2) := ae HK.out.2.1 b2
    clear b2 E ht d0 d1 d2 d3 d4 d5 d6 d7 d8 d9 d10 d11 d12 d13 d14 d15
    go_wp2
    go_roundw
    case rel => exact ⟨k + 1, by omega, by go_num, HF.out.2, by rw [HF.out.1], HB.out⟩
    case measure => simp [intOf]; omega
   have hi : ¬ (k : Int) < (n' : Int) := by omega
   have e9 : k = n' := by omega
   subst e9
   have HE : Hid (aB left (Tr.list 16 k (fun k => aa (br (f k)))).sz = (left : Int) - (k : Int) - (aF k g : Int)) := by
    show _ = _
    rw [HT.out]; unfold aB; rw [if_pos ht]; omega
   clear ht
   go_wp2
   go_ret
   exact ⟨(by rw [HE.out]; rfl), hb⟩
 have h1 : (left : Int) - (n' : Int) < 0 := by omega
 have HE : Hid (aB left (Tr.list 16 n' (fun k => aa (br (f k)))).sz = -1) := by
  show _ = _
  rw [HT.out]; unfold aB; rw [if_neg (by omega)]
 clear hs hn hl
 go_enter func63, ntmps63
 go_wp2
 go_ret
 exact ⟨(by rw [HE.out]; rfl), Below.refl _ _⟩
theorem qg (X : VR) (a1 : Option Addr) (l1 c1 : Nat) (a2 : Option Addr) (l2 c2 : Nat) (a3 : Option Addr) (l3 c3 : Nat) (a4 : Option Addr) (l4 c4 : Nat) (a5 : Option Addr) (l5 c5 : Nat) (a6 : Option Addr) (l6 c6 : Nat) (left : Nat) (w : World) (r1 : Rd w 0 (ah X.q.ws) (.slice a1 l1 c1)) (r2 : Rd w 0 (af X.q.bs) (.slice a2 l2 c2)) (r3 : Rd w 0 (.list 8 X.np (fun i => aa (pT (X.pt i)))) (.slice a3 l3 c3)) (r4 : Rd w 0 (.list 6 X.nt (fun i => aa (aT (X.tl i)))) (.slice a4 l4 c4)) (r5 : Rd w 0 (ah X.a.ws) (.slice a5 l5 c5)) (r6 : Rd w 0 (af X.a.bs) (.slice a6 l6 c6)) (hl : left <= 1048576) :
 Calls prog 114 #[.agg (de X a1 l1 c1 a2 l2 c2 a3 l3 c3 a4 l4 c4 a5 l5 c5 a6 l6 c6).toArray, .int .i64 (left : Int)] w fun e w' => e = .returned (.int .i64 (aB left (ao 16 (aa (bI X))))) /\ Below w.heap.size w w' := by
 rw [show ao 16 (aa (bI X)) = ao 6 (aa (qT X.q)) + (Tr.list 8 X.np (fun i => aa (pT (X.pt i)))).sz + (Tr.list 6 X.nt (fun i => aa (aT (X.tl i)))).sz + ao 6 (aa (aT X.a)) by simp only [mD, cO, dX]; try omega]
 obtain ⟨W, hW⟩ : ∃ W, W = w.alloc (.cells (de X a1 l1 c1 a2 l2 c2 a3 l3 c3 a4 l4 c4 a5 l5 c5 a6 l6 c6).toArray 174) := ⟨_, rfl⟩
 have G0 := bg (And.intro (show Below w.heap.size w W by rw [hW]; exact ac _ _) (show ag W w.heap.size 174 (de X a1 l1 c1 a2 l2 c2 a3 l3 c3 a4 l4 c4 a5 l5 c5 a6 l6 c6).toArray by rw [hW]; exact ag.new _ _ _))
 have HR := bg (And.intro r1 <| And.intro r2 <| And.intro r3 <| And.intro r4 <| And.intro r5 <| And.intro r6 <| hl)
 clear hl r1 r2 r3 r4 r5 r6
 go_enter func114, ntmps114
 go_upto_region 1 with fail
 rw [<- hW]
 clear hW
 obtain ⟨⟨y0, y1, y2, y3, y4, y5, y6, y7, y8, y9, y10, y11, y12, y13, y14, y15⟩, -⟩ := G0.out.2.tc16
 go_wp2_with fail
 refine (eg (ec X.q a1 l1 c1 a2 l2 c2 left _ (HR.out.1.below G0.out.1) (HR.out.2.1.below G0.out.1) HR.out.2.2.2.2.2.2)).mono ?_
 rintro e w1 ⟨b, ⟨L1, E1, rfl⟩ | ⟨E1, rfl⟩⟩
 rotate_left
 ·have B := ae G0.out.1 b
  clear b y0 y1 y2 y3 y4 y5 y6 y7 y8 y9 y10 y11 y12 y13 y14 y15
  go_wp2
  go_ret
  exact ⟨by rw [cf (by have := E1.out; omega)]; rfl, B⟩
 have G1 := bg (And.intro (ae G0.out.1 b) (G0.out.2.below b))
 have n1 : ¬ ((L1 : Int) < 0) := by omega
 clear b y0 y1 y2 y3 y4 y5 y6 y7 y8 y9 y10 y11 y12 y13 y14 y15
 obtain ⟨⟨y0, y1, y2, y3, y4, y5, y6, y7, y8, y9, y10, y11, y12, y13, y14, y15⟩, -⟩ := G1.out.2.tc16
 go_wp2_with fail
 refine (eg (iG X.np X.pt a3 l3 c3 L1 _ (HR.out.2.2.1.below G1.out.1) (by have := HR.out.2.2.2.2.2.2; have := E1.out; omega))).mono ?_
 rintro e w2 ⟨b, ⟨L2, E2, rfl⟩ | ⟨E2, rfl⟩⟩
 rotate_left
 ·have B := ae G1.out.1 b
  clear b y0 y1 y2 y3 y4 y5 y6 y7 y8 y9 y10 y11 y12 y13 y14 y15
  go_wp2
  go_ret
  exact ⟨by rw [cf (by have := E1.out; have := E2.out; omega)]; rfl, B⟩
 have G2 := bg (And.intro (ae G1.out.1 b) (G1.out.2.below b))
 have n2 : ¬ ((L2 : Int) < 0) := by omega
 clear b y0 y1 y2 y3 y4 y5 y6 y7 y8 y9 y10 y11 y12 y13 y14 y15
 obtain ⟨⟨y0, y1, y2, y3, y4, y5, y6, y7, y8, y9, y10, y11, y12, y13, y14, y15⟩, -⟩ := G2.out.2.tc16
 go_wp2_with fail
 refine (eg (iF X.nt X.tl a4 l4 c4 L2 _ (HR.out.2.2.2.1.below G2.out.1) (by have := HR.out.2.2.2.2.2.2; have := E1.out; have := E2.out; omega))).mono ?_
 rintro e w3 ⟨b, ⟨L3, E3, rfl⟩ | ⟨E3, rfl⟩⟩
 rotate_left
 ·have B := ae G2.out.1 b
  clear b y0 y1 y2 y3 y4 y5 y6 y7 y8 y9 y10 y11 y12 y13 y14 y15
  go_wp2
  go_ret
  exact ⟨by rw [cf (by have := E1.out; have := E2.out; have := E3.out; omega)]; rfl, B⟩
 have G3 := bg (And.intro (ae G2.out.1 b) (G2.out.2.below b))
 have n3 : ¬ ((L3 : Int) < 0) := by omega
 clear b y0 y1 y2 y3 y4 y5 y6 y7 y8 y9 y10 y11 y12 y13 y14 y15
 obtain ⟨⟨y0, y1, y2, y3, y4, y5, y6, y7, y8, y9, y10, y11, y12, y13, y14, y15⟩, -⟩ := G3.out.2.tc16
 go_wp2_with fail
 refine (eg (fO X.a a5 l5 c5 a6 l6 c6 L3 _ (HR.out.2.2.2.2.1.below G3.out.1) (HR.out.2.2.2.2.2.1.below G3.out.1) (by have := HR.out.2.2.2.2.2.2; have := E1.out; have := E2.out; have := E3.out; omega))).mono ?_
 rintro e w4 ⟨b, ⟨L4, E4, rfl⟩ | ⟨E4, rfl⟩⟩
 rotate_left
 ·have B := ae G3.out.1 b
  clear b y0 y1 y2 y3 y4 y5 y6 y7 y8 y9 y10 y11 y12 y13 y14 y15
  go_wp2
  go_ret
  exact ⟨by rw [cf (by have := E1.out; have := E2.out; have := E3.out; have := E4.out; omega)]; rfl, B⟩
 have G4 := bg (And.intro (ae G3.out.1 b) (G3.out.2.below b))
 have n4 : ¬ ((L4 : Int) < 0) := by omega
 clear b y0 y1 y2 y3 y4 y5 y6 y7 y8 y9 y10 y11 y12 y13 y14 y15
 go_wp2
 go_ret
 exact ⟨by rw [fg (L := L4) (by have := E1.out; have := E2.out; have := E3.out; have := E4.out; omega)]; rfl, G4.out.1⟩
theorem oQ (n : Nat) (f : Nat -> VR) (a : Option Addr) (n' cap : Nat) (left : Nat) (w : World) (hs : Rd w 0 (.list 16 n (fun k => aa (bI (f k)))) (.slice a n' cap)) (hl : left <= 1048576) :
 Calls prog 64 #[.slice a n' cap, .int .i64 (left : Int)] w fun e w' => e = .returned (.int .i64 (aB left (Tr.list 16 n (fun k => aa (bI (f k)))).sz)) /\ Below w.heap.size w w' := by
 obtain ⟨a9, c9, h9, -, hn⟩ := hs.shape
 simp only [Value.slice.injEq] at h9
 obtain ⟨-, rfl, -⟩ := h9
 clear a9 c9
 unfold maxLen at hn
 have w1 : IntKind.i64.wrap ((left : Int) - (n' : Int)) = (left : Int) - (n' : Int) := by rw [IntKind.wrap_i64]; omega
 obtain ⟨g, hg⟩ : ∃ g : Nat -> Nat, g = fun k => ao 16 (aa (bI (f k))) := ⟨_, rfl⟩
 have HT : Hid ((Tr.list 16 n' (fun k => aa (bI (f k)))).sz = n' + aF n' g) := by show _ = _; rw [hg]; exact Tr.sz_list _ _ _
 have HG : Hid (∀ k, g k = ao 16 (aa (bI (f k)))) := by show ∀ k, g k = _; intro k; rw [hg]
 clear hg
 by_cases h0 : n' <= left
 ·have h1 : ¬ ((left : Int) - (n' : Int) < 0) := by omega
  have HS : Hid (Rd w 0 (.list 16 n' (fun k => aa (bI (f k)))) (.slice a n' cap)) := hs
  have HL : Hid (left <= 1048576) := hl
  clear hs hn
  go_enter func64, ntmps64
  go_wp2
  go_loopw [1, 5] (fun lv i wr => ∃ k : Nat, k <= n' /\ i = .int .i64 k /\ n' + aF k g <= left /\ lv = .int .i64 ((left : Int) - (n' : Int) - (aF k g : Int)) /\ Below w.heap.size w wr) (fun _ i _ => n' - (intOf i).toNat)
  case atStart => exact ⟨0, Nat.zero_le _, rfl, by simp [aF]; omega, by simp [aF], Below.refl _ _⟩
  case round =>
   obtain ⟨k, hk, rfl, ht, rfl, hb⟩ := hrel
   by_cases hlt : k < n'
   ·have hi : (k : Int) < (n' : Int) := by omega
    obtain ⟨b, off, vs, rfl, _, hb0, hlen, hr, hrd⟩ := (HS.out.below hb).at hlt
    obtain ⟨a1, c1, a2, c2, a3, c3, a4, c4, a5, c5, a6, c6, rfl, r1, r2, r3, r4, r5, r6⟩ := VR.cells hrd hlen
    clear hlen hrd
    have d0 : wr.cell? ⟨b, off + k * 16, none⟩ = _ := hr 0 _ rfl
    have d1 := hr 1 _ rfl
    have d2 := hr 2 _ rfl
    have d3 := hr 3 _ rfl
    have d4 := hr 4 _ rfl
    have d5 := hr 5 _ rfl
    have d6 := hr 6 _ rfl
    have d7 := hr 7 _ rfl
    have d8 := hr 8 _ rfl
    have d9 := hr 9 _ rfl
    have d10 := hr 10 _ rfl
    have d11 := hr 11 _ rfl
    have d12 := hr 12 _ rfl
    have d13 := hr 13 _ rfl
    have d14 := hr 14 _ rfl
    have d15 := hr 15 _ rfl
    obtain ⟨lf, hlf⟩ : ∃ lf : Nat, (lf : Int) = (left : Int) - (n' : Int) - (aF k g : Int) := ⟨left - n' - aF k g, by omega⟩
    rw [<- hlf]
    have HK := bg (And.intro hlf <| And.intro hb <| And.intro r1 <| And.intro r2 <| And.intro r3 <| And.intro r4 <| And.intro r5 <| r6)
    have hl9 : lf <= 1048576 := by have := HL.out; omega
    clear hlf hb HS hr hb0 r1 r2 r3 r4 r5 r6
    go_wp2_with fail
    refine (eg (qg (f k) a1 ((f k).q.ws.length) c1 a2 ((f k).q.bs.length) c2 a3 ((f k).np) c3 a4 ((f k).nt) c4 a5 ((f k).a.ws.length) c5 a6 ((f k).a.bs.length) c6 lf _ HK.out.2.2.1 HK.out.2.2.2.1 HK.out.2.2.2.2.1 HK.out.2.2.2.2.2.1 HK.out.2.2.2.2.2.2.1 HK.out.2.2.2.2.2.2.2 hl9)).mono ?_
    rintro e w2 ⟨b2, ⟨lg, E, rfl⟩ | ⟨E, rfl⟩⟩
    rotate_left
    ·have HF : Hid (aB left (Tr.list 16 n' (fun k => aa (bI (f k)))).sz = -1) := by
      have h9 := HK.out.1
      have h8 := cX g (show k + 1 <= n' by omega)
      have h7 := E.out
      have h6 : aF (k + 1) g = aF k g + g k := rfl
      rw [<- HG.out k] at h7
      show _ = _
      rw [HT.out, cf (by omega)]
     have HB := ae HK.out.2.1 b2
     clear b2 E d0 d1 d2 d3 d4 d5 d6 d7 d8 d9 d10 d11 d12 d13 d14 d15
     go_wp2
     go_ret
     exact ⟨(by rw [HF.out]; rfl), HB⟩
    have HF : Hid ((lg : Int) = (left : Int) - (n' : Int) - (aF (k + 1) g : Int) /\ n' + aF (k + 1) g <= left) := by
     have h9 := HK.out.1
     have h7 := E.out
     have h6 : aF (k + 1) g = aF k g + g k := rfl
     rw [<- HG.out k] at h7
     exact ⟨by omega, by omega⟩
    have hx0 : ¬ ((lg : Int) < 0) := by omega
    have HB : Hid (Below w.heap.size w w2) := ae HK.out.2.1 b2
    clear b2 E ht d0 d1 d2 d3 d4 d5 d6 d7 d8 d9 d10 d11 d12 d13 d14 d15
    go_wp2
    go_roundw
    case rel => exact ⟨k + 1, by omega, by go_num, HF.out.2, by rw [HF.out.1], HB.out⟩
    case measure => simp [intOf]; omega
   have hi : ¬ (k : Int) < (n' : Int) := by omega
   have e9 : k = n' := by omega
   subst e9
   have HE : Hid (aB left (Tr.list 16 k (fun k => aa (bI (f k)))).sz = (left : Int) - (k : Int) - (aF k g : Int)) := by
    show _ = _
    rw [HT.out]; unfold aB; rw [if_pos ht]; omega
   clear ht
   go_wp2
   go_ret
   exact ⟨(by rw [HE.out]; rfl), hb⟩
 have h1 : (left : Int) - (n' : Int) < 0 := by omega
 have HE : Hid (aB left (Tr.list 16 n' (fun k => aa (bI (f k)))).sz = -1) := by
  show _ = _
  rw [HT.out]; unfold aB; rw [if_neg (by omega)]
 clear hs hn hl
 go_enter func64, ntmps64
 go_wp2
 go_ret
 exact ⟨(by rw [HE.out]; rfl), Below.refl _ _⟩
theorem oR (X : VE) (a1 : Option Addr) (l1 c1 : Nat) (a2 : Option Addr) (l2 c2 : Nat) (a3 : Option Addr) (l3 c3 : Nat) (a4 : Option Addr) (l4 c4 : Nat) (left : Nat) (w : World) (r1 : Rd w 0 (ah X.q.ws) (.slice a1 l1 c1)) (r2 : Rd w 0 (af X.q.bs) (.slice a2 l2 c2)) (r3 : Rd w 0 (ah X.a.ws) (.slice a3 l3 c3)) (r4 : Rd w 0 (af X.a.bs) (.slice a4 l4 c4)) (hl : left <= 1048576) :
 Calls prog 115 #[.agg (dx X a1 l1 c1 a2 l2 c2 a3 l3 c3 a4 l4 c4).toArray, .int .i64 (left : Int)] w fun e w' => e = .returned (.int .i64 (aB left (ao 15 (aa (bJ X))))) /\ Below w.heap.size w w' := by
 rw [show ao 15 (aa (bJ X)) = ao 6 (aa (qT X.q)) + ao 6 (aa (aT X.a)) by simp only [mE, cO, dX]; try omega]
 obtain ⟨W, hW⟩ : ∃ W, W = w.alloc (.cells (dx X a1 l1 c1 a2 l2 c2 a3 l3 c3 a4 l4 c4).toArray 177) := ⟨_, rfl⟩
 have G0 := bg (And.intro (show Below w.heap.size w W by rw [hW]; exact ac _ _) (show ag W w.heap.size 177 (dx X a1 l1 c1 a2 l2 c2 a3 l3 c3 a4 l4 c4).toArray by rw [hW]; exact ag.new _ _ _))
 have HR := bg (And.intro r1 <| And.intro r2 <| And.intro r3 <| And.intro r4 <| hl)
 clear hl r1 r2 r3 r4
 go_enter func115, ntmps115
 go_upto_region 1 with fail
 rw [<- hW]
 clear hW
 obtain ⟨⟨y0, y1, y2, y3, y4, y5, y6, y7, y8, y9, y10, y11, y12, y13, y14⟩, -⟩ := G0.out.2.tc15
 go_wp2_with fail
 refine (eg (ec X.q a1 l1 c1 a2 l2 c2 left _ (HR.out.1.below G0.out.1) (HR.out.2.1.below G0.out.1) HR.out.2.2.2.2)).mono ?_
 rintro e w1 ⟨b, ⟨L1, E1, rfl⟩ | ⟨E1, rfl⟩⟩
 rotate_left
 ·have B := ae G0.out.1 b
  clear b y0 y1 y2 y3 y4 y5 y6 y7 y8 y9 y10 y11 y12 y13 y14
  go_wp2
  go_ret
  exact ⟨by rw [cf (by have := E1.out; omega)]; rfl, B⟩
 have G1 := bg (And.intro (ae G0.out.1 b) (G0.out.2.below b))
 have n1 : ¬ ((L1 : Int) < 0) := by omega
 clear b y0 y1 y2 y3 y4 y5 y6 y7 y8 y9 y10 y11 y12 y13 y14
 obtain ⟨⟨y0, y1, y2, y3, y4, y5, y6, y7, y8, y9, y10, y11, y12, y13, y14⟩, -⟩ := G1.out.2.tc15
 go_wp2_with fail
 refine (eg (fO X.a a3 l3 c3 a4 l4 c4 L1 _ (HR.out.2.2.1.below G1.out.1) (HR.out.2.2.2.1.below G1.out.1) (by have := HR.out.2.2.2.2; have := E1.out; omega))).mono ?_
 rintro e w2 ⟨b, ⟨L2, E2, rfl⟩ | ⟨E2, rfl⟩⟩
 rotate_left
 ·have B := ae G1.out.1 b
  clear b y0 y1 y2 y3 y4 y5 y6 y7 y8 y9 y10 y11 y12 y13 y14
  go_wp2
  go_ret
  exact ⟨by rw [cf (by have := E1.out; have := E2.out; omega)]; rfl, B⟩
 have G2 := bg (And.intro (ae G1.out.1 b) (G1.out.2.below b))
 have n2 : ¬ ((L2 : Int) < 0) := by omega
 clear b y0 y1 y2 y3 y4 y5 y6 y7 y8 y9 y10 y11 y12 y13 y14
 go_wp2
 go_ret
 exact ⟨by rw [fg (L := L2) (by have := E1.out; have := E2.out; omega)]; rfl, G2.out.1⟩
theorem nA (n : Nat) (f : Nat -> VE) (a : Option Addr) (n' cap : Nat) (left : Nat) (w : World) (hs : Rd w 0 (.list 15 n (fun k => aa (bJ (f k)))) (.slice a n' cap)) (hl : left <= 1048576) :
 Calls prog 65 #[.slice a n' cap, .int .i64 (left : Int)] w fun e w' => e = .returned (.int .i64 (aB left (Tr.list 15 n (fun k => aa (bJ (f k)))).sz)) /\ Below w.heap.size w w' := by
 obtain ⟨a9, c9, h9, -, hn⟩ := hs.shape
 simp only [Value.slice.injEq] at h9
 obtain ⟨-, rfl, -⟩ := h9
 clear a9 c9
 unfold maxLen at hn
 have w1 : IntKind.i64.wrap ((left : Int) - (n' : Int)) = (left : Int) - (n' : Int) := by rw [IntKind.wrap_i64]; omega
 obtain ⟨g, hg⟩ : ∃ g : Nat -> Nat, g = fun k => ao 15 (aa (bJ (f k))) := ⟨_, rfl⟩
 have HT : Hid ((Tr.list 15 n' (fun k => aa (bJ (f k)))).sz = n' + aF n' g) := by show _ = _; rw [hg]; exact Tr.sz_list _ _ _
 have HG : Hid (∀ k, g k = ao 15 (aa (bJ (f k)))) := by show ∀ k, g k = _; intro k; rw [hg]
 clear hg
 by_cases h0 : n' <= left
 ·have h1 : ¬ ((left : Int) - (n' : Int) < 0) := by omega
  have HS : Hid (Rd w 0 (.list 15 n' (fun k => aa (bJ (f k)))) (.slice a n' cap)) := hs
  have HL : Hid (left <= 1048576) := hl
  clear hs hn
  go_enter func65, ntmps65
  go_wp2
  go_loopw [1, 5] (fun lv i wr => ∃ k : Nat, k <= n' /\ i = .int .i64 k /\ n' + aF k g <= left /\ lv = .int .i64 ((left : Int) - (n' : Int) - (aF k g : Int)) /\ Below w.heap.size w wr) (fun _ i _ => n' - (intOf i).toNat)
  case atStart => exact ⟨0, Nat.zero_le _, rfl, by simp [aF]; omega, by simp [aF], Below.refl _ _⟩
  case round =>
   obtain ⟨k, hk, rfl, ht, rfl, hb⟩ := hrel
   by_cases hlt : k < n'
   ·have hi : (k : Int) < (n' : Int) := by omega
    obtain ⟨b, off, vs, rfl, _, hb0, hlen, hr, hrd⟩ := (HS.out.below hb).at hlt
    obtain ⟨a1, c1, a2, c2, a3, c3, a4, c4, rfl, r1, r2, r3, r4⟩ := VE.cells hrd hlen
    clear hlen hrd
    have d0 : wr.cell? ⟨b, off + k * 15, none⟩ = _ := hr 0 _ rfl
    have d1 := hr 1 _ rfl
    have d2 := hr 2 _ rfl
    have d3 := hr 3 _ rfl
    have d4 := hr 4 _ rfl
    have d5 := hr 5 _ rfl
    have d6 := hr 6 _ rfl
    have d7 := hr 7 _ rfl
    have d8 := hr 8 _ rfl
    have d9 := hr 9 _ rfl
    have d10 := hr 10 _ rfl
    have d11 := hr 11 _ rfl
    have d12 := hr 12 _ rfl
    have d13 := hr 13 _ rfl
    have d14 := hr 14 _ rfl
    obtain ⟨lf, hlf⟩ : ∃ lf : Nat, (lf : Int) = (left : Int) - (n' : Int) - (aF k g : Int) := ⟨left - n' - aF k g, by omega⟩
    rw [<- hlf]
    have HK := bg (And.intro hlf <| And.intro hb <| And.intro r1 <| And.intro r2 <| And.intro r3 <| r4)
    have hl9 : lf <= 1048576 := by have := HL.out; omega
    clear hlf hb HS hr hb0 r1 r2 r3 r4
    go_wp2_with fail
    refine (eg (oR (f k) a1 ((f k).q.ws.length) c1 a2 ((f k).q.bs.length) c2 a3 ((f k).a.ws.length) c3 a4 ((f k).a.bs.length) c4 lf _ HK.out.2.2.1 HK.out.2.2.2.1 HK.out.2.2.2.2.1 HK.out.2.2.2.2.2 hl9)).mono ?_
    rintro e w2 ⟨b2, ⟨lg, E, rfl⟩ | ⟨E, rfl⟩⟩
    rotate_left
    ·have HF : Hid (aB left (Tr.list 15 n' (fun k => aa (bJ (f k)))).sz = -1) := by
      have h9 := HK.out.1
      have h8 := cX g (show k + 1 <= n' by omega)
      have h7 := E.out
      have h6 : aF (k + 1) g = aF k g + g k := rfl
      rw [<- HG.out k] at h7
      show _ = _
      rw [HT.out, cf (by omega)]
     have HB := ae HK.out.2.1 b2
     clear b2 E d0 d1 d2 d3 d4 d5 d6 d7 d8 d9 d10 d11 d12 d13 d14
     go_wp2
     go_ret
     exact ⟨(by rw [HF.out]; rfl), HB⟩
    have HF : Hid ((lg : Int) = (left : Int) - (n' : Int) - (aF (k + 1) g : Int) /\ n' + aF (k + 1) g <= left) := by
     have h9 := HK.out.1
     have h7 := E.out
     have h6 : aF (k + 1) g = aF k g + g k := rfl
     rw [<- HG.out k] at h7
     exact ⟨by omega, by omega⟩
    have hx0 : ¬ ((lg : Int) < 0) := by omega
    have HB : Hid (Below w.heap.size w w2) := ae HK.out.2.1 b2
    clear b2 E ht d0 d1 d2 d3 d4 d5 d6 d7 d8 d9 d10 d11 d12 d13 d14
    go_wp2
    go_roundw
    case rel => exact ⟨k + 1, by omega, by go_num, HF.out.2, by rw [HF.out.1], HB.out⟩
    case measure => simp [intOf]; omega
   have hi : ¬ (k : Int) < (n' : Int) := by omega
   have e9 : k = n' := by omega
   subst e9
   have HE : Hid (aB left (Tr.list 15 k (fun k => aa (bJ (f k)))).sz = (left : Int) - (k : Int) - (aF k g : Int)) := by
    show _ = _
    rw [HT.out]; unfold aB; rw [if_pos ht]; omega
   clear ht
   go_wp2
   go_ret
   exact ⟨(by rw [HE.out]; rfl), hb⟩
 have h1 : (left : Int) - (n' : Int) < 0 := by omega
 have HE : Hid (aB left (Tr.list 15 n' (fun k => aa (bJ (f k)))).sz = -1) := by
  show _ = _
  rw [HT.out]; unfold aB; rw [if_neg (by omega)]
 clear hs hn hl
 go_enter func65, ntmps65
 go_wp2
 go_ret
 exact ⟨(by rw [HE.out]; rfl), Below.refl _ _⟩
theorem kU (X : VW) (a1 : Option Addr) (l1 c1 : Nat) (a2 : Option Addr) (l2 c2 : Nat) (a3 : Option Addr) (l3 c3 : Nat) (a4 : Option Addr) (l4 c4 : Nat) (a5 : Option Addr) (l5 c5 : Nat) (a6 : Option Addr) (l6 c6 : Nat) (a7 : Option Addr) (l7 c7 : Nat) (left : Nat) (w : World) (r1 : Rd w 0 (.list 7 X.fb.set.n (fun i => aa (bi (X.fb.set.f i)))) (.slice a1 l1 c1)) (r2 : Rd w 0 (.list 13 X.fb.op.m (fun i => aa (dT (X.fb.op.f i)))) (.slice a2 l2 c2)) (r3 : Rd w 0 (.list 17 X.fb.nl (fun i => aa (aU (X.fb.lf i)))) (.slice a3 l3 c3)) (r4 : Rd w 0 (.list 6 X.ns (fun i => aa (bn (X.sf i)))) (.slice a4 l4 c4)) (r5 : Rd w 0 (.list 16 X.nk (fun i => aa (br (X.kf i)))) (.slice a5 l5 c5)) (r6 : Rd w 0 (.list 16 X.nr (fun i => aa (bI (X.rf i)))) (.slice a6 l6 c6)) (r7 : Rd w 0 (.list 15 X.ne (fun i => aa (bJ (X.ef i)))) (.slice a7 l7 c7)) (hl : left <= 1048576) :
 Calls prog 23 #[.agg (bt X a1 l1 c1 a2 l2 c2 a3 l3 c3 a4 l4 c4 a5 l5 c5 a6 l6 c6 a7 l7 c7).toArray, .int .i64 (left : Int)] w fun e w' => e = .returned (.int .i64 (aB left (ao 15 (aa (eX X))))) /\ Below w.heap.size w w' := by
 rw [show ao 15 (aa (eX X)) = ao 11 (aa (dS X.fb)) + (Tr.list 6 X.ns (fun i => aa (bn (X.sf i)))).sz + (Tr.list 16 X.nk (fun i => aa (br (X.kf i)))).sz + (Tr.list 16 X.nr (fun i => aa (bI (X.rf i)))).sz + (Tr.list 15 X.ne (fun i => aa (bJ (X.ef i)))).sz by simp only [j8, fn]; try omega]
 obtain ⟨W, hW⟩ : ∃ W, W = w.alloc (.cells (bt X a1 l1 c1 a2 l2 c2 a3 l3 c3 a4 l4 c4 a5 l5 c5 a6 l6 c6 a7 l7 c7).toArray 59) := ⟨_, rfl⟩
 have G0 := bg (And.intro (show Below w.heap.size w W by rw [hW]; exact ac _ _) (show ag W w.heap.size 59 (bt X a1 l1 c1 a2 l2 c2 a3 l3 c3 a4 l4 c4 a5 l5 c5 a6 l6 c6 a7 l7 c7).toArray by rw [hW]; exact ag.new _ _ _))
 have HR := bg (And.intro r1 <| And.intro r2 <| And.intro r3 <| And.intro r4 <| And.intro r5 <| And.intro r6 <| And.intro r7 <| hl)
 clear hl r1 r2 r3 r4 r5 r6 r7
 go_enter func23, ntmps23
 go_upto_region 1 with fail
 rw [<- hW]
 clear hW
 obtain ⟨⟨y0, y1, y2, y3, y4, y5, y6, y7, y8, y9, y10, y11, y12, y13, y14⟩, -⟩ := G0.out.2.tc15
 go_wp2_with fail
 refine (eg (oU X.fb a1 l1 c1 a2 l2 c2 a3 l3 c3 left _ (HR.out.1.below G0.out.1) (HR.out.2.1.below G0.out.1) (HR.out.2.2.1.below G0.out.1) HR.out.2.2.2.2.2.2.2)).mono ?_
 rintro e w1 ⟨b, ⟨L1, E1, rfl⟩ | ⟨E1, rfl⟩⟩
 rotate_left
 ·have B := ae G0.out.1 b
  clear b y0 y1 y2 y3 y4 y5 y6 y7 y8 y9 y10 y11 y12 y13 y14
  go_wp2
  go_ret
  exact ⟨by rw [cf (by have := E1.out; omega)]; rfl, B⟩
 have G1 := bg (And.intro (ae G0.out.1 b) (G0.out.2.below b))
 have n1 : ¬ ((L1 : Int) < 0) := by omega
 clear b y0 y1 y2 y3 y4 y5 y6 y7 y8 y9 y10 y11 y12 y13 y14
 obtain ⟨⟨y0, y1, y2, y3, y4, y5, y6, y7, y8, y9, y10, y11, y12, y13, y14⟩, -⟩ := G1.out.2.tc15
 go_wp2_with fail
 refine (eg (qe X.ns X.sf a4 l4 c4 L1 _ (HR.out.2.2.2.1.below G1.out.1) (by have := HR.out.2.2.2.2.2.2.2; have := E1.out; omega))).mono ?_
 rintro e w2 ⟨b, ⟨L2, E2, rfl⟩ | ⟨E2, rfl⟩⟩
 rotate_left
 ·have B := ae G1.out.1 b
  clear b y0 y1 y2 y3 y4 y5 y6 y7 y8 y9 y10 y11 y12 y13 y14
  go_wp2
  go_ret
  exact ⟨by rw [cf (by have := E1.out; have := E2.out; omega)]; rfl, B⟩
 have G2 := bg (And.intro (ae G1.out.1 b) (G1.out.2.below b))
 have n2 : ¬ ((L2 : Int) < 0) := by omega
 clear b y0 y1 y2 y3 y4 y5 y6 y7 y8 y9 y10 y11 y12 y13 y14
 obtain ⟨⟨y0, y1, y2, y3, y4, y5, y6, y7, y8, y9, y10, y11, y12, y13, y14⟩, -⟩ := G2.out.2.tc15
 go_wp2_with fail
 refine (eg (nz X.nk X.kf a5 l5 c5 L2 _ (HR.out.2.2.2.2.1.below G2.out.1) (by have := HR.out.2.2.2.2.2.2.2; have := E1.out; have := E2.out; omega))).mono ?_
 rintro e w3 ⟨b, ⟨L3, E3, rfl⟩ | ⟨E3, rfl⟩⟩
 rotate_left
 ·have B := ae G2.out.1 b
  clear b y0 y1 y2 y3 y4 y5 y6 y7 y8 y9 y10 y11 y12 y13 y14
  go_wp2
  go_ret
  exact ⟨by rw [cf (by have := E1.out; have := E2.out; have := E3.out; omega)]; rfl, B⟩
 have G3 := bg (And.intro (ae G2.out.1 b) (G2.out.2.below b))
 have n3 : ¬ ((L3 : Int) < 0) := by omega
 clear b y0 y1 y2 y3 y4 y5 y6 y7 y8 y9 y10 y11 y12 y13 y14
 obtain ⟨⟨y0, y1, y2, y3, y4, y5, y6, y7, y8, y9, y10, y11, y12, y13, y14⟩, -⟩ := G3.out.2.tc15
 go_wp2_with fail
 refine (eg (oQ X.nr X.rf a6 l6 c6 L3 _ (HR.out.2.2.2.2.2.1.below G3.out.1) (by have := HR.out.2.2.2.2.2.2.2; have := E1.out; have := E2.out; have := E3.out; omega))).mono ?_
 rintro e w4 ⟨b, ⟨L4, E4, rfl⟩ | ⟨E4, rfl⟩⟩
 rotate_left
 ·have B := ae G3.out.1 b
  clear b y0 y1 y2 y3 y4 y5 y6 y7 y8 y9 y10 y11 y12 y13 y14
  go_wp2
  go_ret
  exact ⟨by rw [cf (by have := E1.out; have := E2.out; have := E3.out; have := E4.out; omega)]; rfl, B⟩
 have G4 := bg (And.intro (ae G3.out.1 b) (G3.out.2.below b))
 have n4 : ¬ ((L4 : Int) < 0) := by omega
 clear b y0 y1 y2 y3 y4 y5 y6 y7 y8 y9 y10 y11 y12 y13 y14
 obtain ⟨⟨y0, y1, y2, y3, y4, y5, y6, y7, y8, y9, y10, y11, y12, y13, y14⟩, -⟩ := G4.out.2.tc15
 go_wp2_with fail
 refine (eg (nA X.ne X.ef a7 l7 c7 L4 _ (HR.out.2.2.2.2.2.2.1.below G4.out.1) (by have := HR.out.2.2.2.2.2.2.2; have := E1.out; have := E2.out; have := E3.out; have := E4.out; omega))).mono ?_
 rintro e w5 ⟨b, ⟨L5, E5, rfl⟩ | ⟨E5, rfl⟩⟩
 rotate_left
 ·have B := ae G4.out.1 b
  clear b y0 y1 y2 y3 y4 y5 y6 y7 y8 y9 y10 y11 y12 y13 y14
  go_wp2
  go_ret
  exact ⟨by rw [cf (by have := E1.out; have := E2.out; have := E3.out; have := E4.out; have := E5.out; omega)]; rfl, B⟩
 have G5 := bg (And.intro (ae G4.out.1 b) (G4.out.2.below b))
 have n5 : ¬ ((L5 : Int) < 0) := by omega
 clear b y0 y1 y2 y3 y4 y5 y6 y7 y8 y9 y10 y11 y12 y13 y14
 go_wp2
 go_ret
 exact ⟨by rw [fg (L := L5) (by have := E1.out; have := E2.out; have := E3.out; have := E4.out; have := E5.out; omega)]; rfl, G5.out.1⟩
end Go.Proofs.YtplaoagcedgdfaaGreat
namespace Go.Proofs.YtplaoagcedgdfaaGreat
open Go.ChangeShapes Go.WideShapes Go.ChangeAt Go.RowKit Go.Deep Go.Joins Go.Proofs.Tryz
theorem vS {z : Int} (h : (Lit.int .i64 z).wf = true) : -9223372036854775808 <= z /\ z <= 9223372036854775807 := bounds_i64 h
def rN (w : World) : Sh -> Value -> Prop
 | .int, v => ∃ z, v = .int .i64 z /\ -9223372036854775808 <= z /\ z <= 9223372036854775807
 | .bool, v => ∃ z, v = .bool z
 | .lst s f, v => ∃ a n c, v = .slice a n c /\ n <= c /\ n <= maxLen /\ (n = 0 \/ ∃ (g off : Nat) (F : Nat -> List Value), a = some ⟨g, off, none⟩ /\ g < w.heap.size /\
  ∀ k, k < n -> (F k).length = s /\ ∀ j v, (F k)[j]? = some v -> w.cell? ⟨g, off + k * s + j, none⟩ = some v /\ rN w (f j) v)
def uS (w : World) (S : List Sh) (vs : List Value) : Prop := vs.length = S.length /\ ∀ j v, vs[j]? = some v -> rN w (S.getD j .int) v
section
variable {H : Type} {enc : TypeId × Value -> H} {P : Program} {w : World} {base : Nat} {held : Bool}
theorem kV {sh : TypeId -> Option (List Sh)} {cs : List Value}
 (hsh : ∀ t S, sh t = some S -> ∀ (fuel : Nat) cs' (y : DataW H × List MemPlace), DataW.trod enc P w base (fun _ => true) held fuel t cs' = some y -> uS w S cs') :
 ∀ (fs : List Field) (o : Nat) (S : List Sh), kK P sh fs o = some S -> (∀ (i : Nat) f, fs[i]? = some f -> ∃ (n : Nat) (y : DataW H × List MemPlace), DataW.trod enc P w base (fun _ => true) held n f.type ((cs.drop f.offset).take (P.cellsOf f.type)) = some y) ->
  ∀ j v, j < S.length -> cs[o + j]? = some v -> rN w (S.getD j .int) v
 | [], o, S, h, _, j, v, hj, hv => by
  simp only [kK, Option.some.injEq] at h
  subst h
  simp at hj
 | f :: r, o, S, h, hf, j, v, hj, hv => by
  unfold kK at h
  split at h
  ·rename_i l l' h1 h2
   split at h
   ·rename_i hc
    simp only [Option.some.injEq] at h
    subst h
    obtain ⟨n, y, hy⟩ := hf 0 f rfl
    obtain ⟨q1, q2⟩ := hsh _ _ h1 _ _ _ hy
    by_cases e : j < l.length
    ·have := q2 j v (by
      rw [List.getElem?_take, if_pos (by omega), List.getElem?_drop, hc.1]
      exact hv)
     rw [List.getD_eq_getElem?_getD] at this ⊢
     rw [List.getElem?_append_left e]
     exact this
    have := kV hsh r _ l' h2 (fun i f' hf' => hf (i + 1) f' (by simpa using hf')) (j - l.length) v (by simp at hj; omega) (by
     rw [show o + P.cellsOf f.type + (j - l.length) = o + j by omega]
     exact hv)
    rw [List.getD_eq_getElem?_getD] at this ⊢
    rw [List.getElem?_append_right (by omega)]
    exact this
   simp at h
  simp at h
theorem jl : ∀ (n : Nat) (t : TypeId) (S : List Sh), iU P n t = some S -> ∀ (fuel : Nat) cs (y : DataW H × List MemPlace), DataW.trod enc P w base (fun _ => true) held fuel t cs = some y -> uS w S cs
 | 0, t, S, h, _, _, _, _ => by simp [iU] at h
 | n + 1, t, S, h, fuel, cs, y, hy => by
  unfold iU at h
  split at h
  ·rename_i ht
   simp only [Option.some.injEq] at h
   subst h
   obtain ⟨z, rfl, _, hz⟩ := DataW.trod_int ht hy
   refine ⟨rfl, fun j v hv => ?_⟩
   match j, hv with
   | 0, hv => simp at hv; subst hv; exact ⟨z, rfl, vS hz⟩
   | j + 1, hv => simp at hv
  ·rename_i ht
   simp only [Option.some.injEq] at h
   subst h
   obtain ⟨z, rfl, _⟩ := DataW.trod_bool ht hy
   refine ⟨rfl, fun j v hv => ?_⟩
   match j, hv with
   | 0, hv => simp at hv; subst hv; exact ⟨z, rfl⟩
   | j + 1, hv => simp at hv
  ·rename_i e ht
   split at h
   ·rename_i l hl
    split at h
    ·rename_i hc
     simp only [Option.some.injEq] at h
     subst h
     rcases open_slice ht hy with ⟨rfl, _⟩ | ⟨x, len, c, m, n', D, Pl, rfl, _, hlc, hcm, hmm, _, hx⟩
     ·refine ⟨rfl, fun j v hv => ?_⟩
      match j, hv with
      | 0, hv => simp at hv; subst hv; exact ⟨none, 0, 0, rfl, Nat.le_refl _, Nat.zero_le _, .inl rfl⟩
      | j + 1, hv => simp at hv
     simp only [if_true] at hmm
     subst hmm
     rw [hc.1] at hx
     obtain ⟨F, hF⟩ := choose_lt (α := List Value) (p := fun i cs' => w.cells? base (x.add (i * l.length)) l.length = some cs' /\ DataW.trod enc P w base (fun _ => true) held n' e cs' = some (D i, Pl i)) (fun i hi => hx i hi)
     refine ⟨rfl, fun j v hv => ?_⟩
     match j, hv with
     | 0, hv =>
      simp at hv
      subst hv
      refine ⟨some x, len, m, rfl, hlc, by omega, ?_⟩
      by_cases e0 : len = 0
      ·exact .inl e0
      have hc0 := (World.cells?_some (hF 0 (by omega)).1)
      obtain ⟨b, off, spot⟩ := x
      have hc9 := hc0.2.2 0 hc.2
      obtain ⟨v0, hv0⟩ : ∃ v, (F 0)[0]? = some v := ⟨(F 0)[0]'(by rw [hc0.2.1]; exact hc.2), by simp⟩
      rw [hv0] at hc9
      have hspot : spot = none := by simpa [Addr.add] using World.cell?_spot hc9
      subst hspot
      refine .inr ⟨b, off, F, rfl, (by simpa [Addr.add] using World.block_lt_of_cell? _ _ hc9), fun k hk => ?_⟩
      have h1 := World.cells?_some (hF k (by omega)).1
      obtain ⟨q1, q2⟩ := jl n e l hl _ _ _ (hF k (by omega)).2
      refine ⟨q1, fun j v hj => ⟨?_, q2 j v hj⟩⟩
      have h2 := h1.2.2 j (by rw [<- q1]; exact (List.getElem?_eq_some_iff.1 hj).1)
      have e1 : ∀ (o n : Nat), (Addr.mk b o none).add n = ⟨b, o + n, none⟩ := fun o n => by
       by_cases e : n = 0
       ·subst e; rfl
       simp [Addr.add, e]
      rw [e1, e1, hj] at h2
      exact h2
     | j + 1, hv => simp at hv
    simp at h
   simp at h
  ·rename_i fs ht
   split at h
   ·rename_i l hl
    split at h
    ·rename_i hc
     simp only [Option.some.injEq] at h
     subst h
     obtain ⟨xs, m, _, hx, hlen, hxl, hg⟩ := DataW.trod_struct ht hy
     refine ⟨by rw [hlen, hc], fun j v hv => ?_⟩
     have hj : j < l.length := by
      have := (List.getElem?_eq_some_iff.1 hv).1
      omega
     exact kV (cs := cs) (fun t' S' hs => jl n t' S' hs) fs.toList 0 l hl (fun i f hf => by
      have hf' : fs[i]? = some f := by simpa using hf
      have := hg i f hf'
      have hi : i < xs.length := by rw [hxl]; exact (Array.getElem?_eq_some_iff.1 hf').1
      exact ⟨m, xs[i], by rw [this]; simp⟩) j v hj (by rw [Nat.zero_add]; exact hv)
    simp at h
   simp at h
  simp at h
end
theorem tu {w : World} {lo n l c : Nat} {f : Nat -> Sh} {g : Nat -> Ru} {a : Option Addr} (hf : f 6 = .int) (h : rN w (.lst 7 f) (.slice a l c)) (hr : Rd w lo (.list 7 n (fun i => aa (bi (g i)))) (.slice a l c)) : ∀ k, k < n -> -9223372036854775808 <= (g k).sh /\ (g k).sh <= 9223372036854775807 := by
 intro k hk
 obtain ⟨a', n', c', h1, _, _, h4⟩ := h
 simp only [Value.slice.injEq] at h1
 obtain ⟨rfl, rfl, rfl⟩ := h1
 have hl : l = n := hr.slu.1
 subst hl
 obtain ⟨b, off, vs, ha, _, _, hlen, hrng, hd⟩ := hr.at hk
 rcases h4 with h4 | ⟨b', off', F, ha', _, hc⟩
 ·omega
 rw [ha] at ha'
 simp only [Option.some.injEq, Addr.mk.injEq, and_true] at ha'
 obtain ⟨rfl, rfl⟩ := ha'
 have e := Ru.cells hd hlen
 subst e
 have q1 := hrng 6 _ rfl
 obtain ⟨q2, q3⟩ := hc k hk
 obtain ⟨v, hv⟩ : ∃ v, (F k)[6]? = some v := ⟨(F k)[6]'(by omega), by simp⟩
 obtain ⟨q4, q5⟩ := q3 6 v hv
 rw [q1] at q4
 obtain rfl := Option.some.inj q4
 rw [hf] at q5
 obtain ⟨z, hz, hb⟩ := q5
 simp only [cT, Value.int.injEq, true_and] at hz
 rw [hz]
 exact hb
theorem qh {H : Type} {enc : TypeId × Value -> H} {P : Program} {w : World} {base : Nat} {held : Bool} {t : TypeId} {d : DataW H} {p : List MemPlace} {N : Nat} {S : List Sh} {l : List Value} {n m c : Nat} {f : Nat -> Sh} {g : Nat -> Ru} {a : Option Addr} (hsh : iU P N t = some S) (h : DataW.Trod enc P w base (fun _ => true) held t (.agg l.toArray) d p)
 (h3 : l[3]? = some (.slice a m c)) (hS : S.getD 3 .int = .lst 7 f) (hf : f 6 = .int) (hr : Rd w 0 (.list 7 n (fun i => aa (bi (g i)))) (.slice a m c)) : ∀ k, k < n -> -9223372036854775808 <= (g k).sh /\ (g k).sh <= 9223372036854775807 := by
 obtain ⟨fuel, hf'⟩ := h
 have h9 := (jl N t _ hsh fuel l _ (by simpa [Value.cells] using hf')).2 3 _ h3
 rw [hS] at h9
 exact tu hf h9 hr
end Go.Proofs.YtplaoagcedgdfaaGreat
