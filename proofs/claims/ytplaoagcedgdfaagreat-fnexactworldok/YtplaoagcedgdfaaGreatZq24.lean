/- Parts of the proof. -/
import Derived.Test.YtplaoagcedgdfaaGreatZq22
import Derived.Test.YtplaoagcedgdfaaGreatZq23
import Derived.Test.YtplaoagcedgdfaaGreatZq9
import Derived.Test.YtplaoagcedgdfaaGreatZq14
import Derived.Test.YtplaoagcedgdfaaGreatZq18
set_option linter.unusedVariables false
set_option linter.unusedSimpArgs false
set_option maxHeartbeats 8000000
set_option maxRecDepth 20000
namespace Go.Proofs.YtplaoagcedgdfaaGreat
open Go.RowKit Go.Proofs.Tryz
abbrev kP (wt tr : Int) (a : Option Addr) (n c : Nat) : Array Value := #[.int .i64 wt, .int .i64 tr, .slice a n c]
def iH (wt tr : Int) (b : Bool) : Bool := (aw wt 1 100 && aw tr 0 5) && b
theorem jh (wt tr : Int) (a : Option Addr) (n cap : Nat) (f : Nat -> Ru) (w : World) (hs : dQ w a n f) (hl : n <= 2000000) (b : Bool) (hb : b = true ↔ gw f n) :
 Calls prog 34 #[.agg (kP wt tr a n cap)] w fun e w' => e = .returned (.bool (iH wt tr b)) /\ Below w.heap.size w w' := by
 have bW := ac w (.cells (kP wt tr a n cap) 35)
 have HS : Hid (dQ (w.alloc (.cells (kP wt tr a n cap) 35)) a n f /\ Below w.heap.size w (w.alloc (.cells (kP wt tr a n cap) 35))) := ⟨eF.below hs bW, bW⟩
 have HB : Hid (b = true ↔ gw f n) := hb
 clear hs bW hb
 obtain ⟨c1, hc1⟩ : ∃ c1, c1 = aw wt 1 100 := ⟨_, rfl⟩
 obtain ⟨c2, hc2⟩ : ∃ c2, c2 = aw tr 0 5 := ⟨_, rfl⟩
 have HE : Hid (iH wt tr b = (c1 && c2 && b) /\ aw wt 1 100 = c1 /\ aw tr 0 5 = c2) := ⟨by unfold iH; rw [hc1, hc2], hc1.symm, hc2.symm⟩
 rw [HE.out.1]
 clear hc1 hc2
 go_enter func34, ntmps34
 go_wp2_with fail
 refine (aE _ _ _ _ c1 HE.out.2.1).mono ?_
 rintro e w1 ⟨rfl, rfl⟩
 cases c1
 case false =>
  go_wp2
  go_ret
  exact ⟨rfl, HS.out.2⟩
 go_wp2_with fail
 refine (aE _ _ _ _ c2 HE.out.2.2).mono ?_
 rintro e w1 ⟨rfl, rfl⟩
 cases c2
 case false =>
  go_wp2
  go_ret
  exact ⟨rfl, HS.out.2⟩
 go_wp2_with fail
 refine (jR a n cap f _ HS.out.1 hl b HB.out).mono ?_
 rintro e w2 ⟨rfl, b2⟩
 have B2 := ak HS.out.2 b2
 clear b2
 go_wp2
 go_ret
 exact ⟨rfl, B2⟩
theorem ow (x : Int) (w : World) (b : Bool) (hb : aw x 1 100 = b) : Calls prog 142 #[.int .i64 x] w fun e w' => e = .returned (.bool b) /\ w' = w := by
 subst hb
 unfold aw
 by_cases h1 : 1 <= x
 ·by_cases h2 : x <= 100
  ·rw [decide_eq_true ⟨h1, h2⟩]
   go_enter func142, ntmps142
   go_wp2_with (go_at_call 199; go_in)
   go_ret
   exact ⟨rfl, rfl⟩
  rw [decide_eq_false (fun h => h2 h.2)]
  go_enter func142, ntmps142
  go_wp2_with (go_at_call 199; go_in)
  go_ret
  exact ⟨rfl, rfl⟩
 rw [decide_eq_false (fun h => h1 h.1)]
 go_enter func142, ntmps142
 go_wp2_with (go_at_call 199; go_in)
 go_ret
 exact ⟨rfl, rfl⟩
theorem nd (x : Int) (w : World) (b : Bool) (hb : aw x 0 5 = b) : Calls prog 143 #[.int .i64 x] w fun e w' => e = .returned (.bool b) /\ w' = w := by
 subst hb
 unfold aw
 by_cases h1 : 0 <= x
 ·by_cases h2 : x <= 5
  ·rw [decide_eq_true ⟨h1, h2⟩]
   go_enter func143, ntmps143
   go_wp2
   go_ret
   exact ⟨rfl, rfl⟩
  rw [decide_eq_false (fun h => h2 h.2)]
  go_enter func143, ntmps143
  go_wp2
  go_ret
  exact ⟨rfl, rfl⟩
 rw [decide_eq_false (fun h => h1 h.1)]
 go_enter func143, ntmps143
 go_wp2
 go_ret
 exact ⟨rfl, rfl⟩
theorem ji (wt tr : Int) (a : Option Addr) (n cap : Nat) (f : Nat -> Ru) (w : World) (hs : dQ w a n f) (hl : n <= 2000000) (h64 : ∀ k, k < n -> -9223372036854775808 <= (f k).sh /\ (f k).sh <= 9223372036854775807) (b : Bool) (hb : b = true ↔ gw f n) :
 Calls prog 88 #[.agg (kP wt tr a n cap)] w fun e w' => e = .returned (.bool (iH wt tr b)) /\ Below w.heap.size w w' := by
 have bW := ac w (.cells (kP wt tr a n cap) 35)
 have HS : Hid (dQ (w.alloc (.cells (kP wt tr a n cap) 35)) a n f /\ Below w.heap.size w (w.alloc (.cells (kP wt tr a n cap) 35))) := ⟨eF.below hs bW, bW⟩
 have HB : Hid ((b = true ↔ gw f n) /\ ∀ k, k < n -> -9223372036854775808 <= (f k).sh /\ (f k).sh <= 9223372036854775807) := ⟨hb, h64⟩
 clear hs bW hb h64
 obtain ⟨c1, hc1⟩ : ∃ c1, c1 = aw wt 1 100 := ⟨_, rfl⟩
 obtain ⟨c2, hc2⟩ : ∃ c2, c2 = aw tr 0 5 := ⟨_, rfl⟩
 have HE : Hid (iH wt tr b = (c1 && c2 && b) /\ aw wt 1 100 = c1 /\ aw tr 0 5 = c2) := ⟨by unfold iH; rw [hc1, hc2], hc1.symm, hc2.symm⟩
 rw [HE.out.1]
 clear hc1 hc2
 go_enter func88, ntmps88
 go_wp2_with fail
 refine (ow _ _ c1 HE.out.2.1).mono ?_
 rintro e w1 ⟨rfl, rfl⟩
 cases c1
 case false =>
  go_wp2
  go_ret
  exact ⟨rfl, HS.out.2⟩
 go_wp2_with fail
 refine (nd _ _ c2 HE.out.2.2).mono ?_
 rintro e w1 ⟨rfl, rfl⟩
 cases c2
 case false =>
  go_wp2
  go_ret
  exact ⟨rfl, HS.out.2⟩
 go_wp2_with fail
 refine (jQ a n cap f _ HS.out.1 hl HB.out.2 b HB.out.1).mono ?_
 rintro e w2 ⟨rfl, b2⟩
 have B2 := ak HS.out.2 b2
 clear b2
 go_wp2
 go_ret
 exact ⟨rfl, B2⟩
end Go.Proofs.YtplaoagcedgdfaaGreat
namespace Go.Proofs.YtplaoagcedgdfaaGreat
open Go.RowKit Go.Joins Go.Proofs.Tryz
def mv (X : VT) (k : Nat) : Int := if k = 0 then 0 else (X.f (k - 1)).id + 1
theorem pP {X : VT} {k : Nat} (h : bE X k = true) : eD (X.f k) = true /\ 0 <= (X.f k).id /\ (X.f k).id < X.nx /\ (k = 0 \/ (X.f (k - 1)).id < (X.f k).id) := by
 unfold bE aw at h
 simp only [Bool.and_eq_true, decide_eq_true_eq, Bool.or_eq_true] at h
 exact ⟨h.1, h.2.1.1, by omega, h.2.2⟩
theorem pQ {X : VT} {k : Nat} (h : aI (bE X) k = true) : bE X k = (!decide ((X.f k).id < mv X k) && (!decide (X.nx <= (X.f k).id) && eD (X.f k))) := by
 have hp : k = 0 \/ 0 <= (X.f (k - 1)).id := by
  by_cases e : k = 0
  ·exact .inl e
  exact .inr (pP (eC.1 h (k - 1) (by omega))).2.1
 rw [Bool.eq_iff_iff]
 unfold bE aw mv
 simp only [Bool.and_eq_true, Bool.or_eq_true, Bool.not_eq_true', decide_eq_true_eq, decide_eq_false_iff_not]
 by_cases e : k = 0
 ·subst e
  simp only [if_true]
  constructor
  ·rintro ⟨h1, ⟨h2, h3⟩, _⟩
   exact ⟨by omega, by omega, h1⟩
  rintro ⟨h1, h2, h3⟩
  exact ⟨h3, ⟨by omega, by omega⟩, .inl trivial⟩
 simp only [if_neg e]
 have hp : 0 <= (X.f (k - 1)).id := by rcases hp with h | h; exact absurd h e; exact h
 constructor
 ·rintro ⟨h1, ⟨h2, h3⟩, h4⟩
  exact ⟨by omega, by omega, h1⟩
 rintro ⟨h1, h2, h3⟩
 exact ⟨h3, ⟨by omega, by omega⟩, .inr (by omega)⟩
def gC (w : World) (X : VT) (a : Option Addr) (c : Nat) : Prop := Rd w 0 (.list 13 X.m (fun i => aa (dT (X.f i)))) (.slice a X.m c) /\ jF X
theorem gC.below {w w' : World} {X : VT} {a : Option Addr} {c : Nat} (h : gC w X a c) (hb : Below w.heap.size w w') : gC w' X a c := ⟨h.1.below hb, h.2⟩
theorem gC.at {w : World} {X : VT} {a : Option Addr} {c k : Nat} (h : gC w X a c) (hk : k < X.m) : ∃ b off, a = some ⟨b, off, none⟩ /\ eZ w b (off + k * 13) (X.f k) /\ fV (X.f k) := by
 obtain ⟨b, off, vs, ha, _, hb0, hlen, hr, hrd⟩ := h.1.at hk
 exact ⟨b, off, ha, ⟨hb0, vs, hlen, hr, hrd⟩, h.2.2 k hk⟩
theorem jS (X : VT) (a : Option Addr) (c : Nat) (w : World) (h : gC w X a c) :
 Calls prog 89 #[.agg (tL X a X.m c).toArray] w fun e w' => e = .returned (.bool (dJ X)) /\ Below w.heap.size w w' := by
 obtain ⟨x0, hx0⟩ : ∃ x, aw X.nx 0 1000000000 = x := ⟨_, rfl⟩
 obtain ⟨x1, hx1⟩ : ∃ x, decide (X.m <= 16) = x := ⟨_, rfl⟩
 obtain ⟨G, hG⟩ : ∃ G, G = w.heap.size := ⟨_, rfl⟩
 obtain ⟨W, hW⟩ : ∃ W, W = w.alloc (.cells (tL X a X.m c).toArray 38) := ⟨_, rfl⟩
 have HE : Hid (dJ X = (x0 && (x1 && aI (bE X) X.m)) /\ aw X.nx 0 1000000000 = x0 /\ decide (X.m <= 16) = x1 /\ Below w.heap.size w W /\ ag W G 38 (tL X a X.m c).toArray /\ gC W X a c) := ⟨by unfold dJ; rw [hx0, hx1], hx0, hx1, by rw [hW]; exact ac _ _, by rw [hW, hG]; exact ag.new _ _ _, h.below (by rw [hW]; exact ac _ _)⟩
 rw [HE.out.1]
 have hm2 := h.2.1
 clear hx0 hx1 h
 obtain ⟨⟨y0, y1⟩, yf⟩ := HE.out.2.2.2.2.1.tc2
 clear yf
 go_enter func89, ntmps89
 go_upto_region 1 with fail
 rw [<- hW, <- hG]
 clear hW hG
 go_wp2_with fail
 refine (n7 _ _ _ HE.out.2.1).mono ?_
 rintro e w1 ⟨rfl, hw⟩
 have hw := hw.symm
 subst hw
 cases x0
 case false =>
  go_wp2
  go_ret
  exact ⟨rfl, HE.out.2.2.2.1⟩
 have hnx : 0 <= X.nx /\ X.nx <= 1000000000 := ke HE.out.2.1
 obtain ⟨hnx0, hnx1⟩ := hnx
 cases x1
 case false =>
  have h16 : (16 : Int) < (X.m : Int) := by have := of_decide_eq_false HE.out.2.2.1; omega
  go_wp2
  go_ret
  exact ⟨rfl, HE.out.2.2.2.1⟩
 have h16 : ¬ (16 : Int) < (X.m : Int) := by have := of_decide_eq_true HE.out.2.2.1; omega
 go_wp2
 clear y0 y1
 go_loopw [3, 19] (fun l i wr => ∃ k : Nat, k <= X.m /\ i = .int .i64 k /\ l = .int .i64 (mv X k) /\ aI (bE X) k = true /\ Below W.heap.size W wr) (fun _ i _ => X.m - (intOf i).toNat)
 case atStart => exact ⟨0, Nat.zero_le _, rfl, rfl, rfl, Below.refl _ _⟩
 case round =>
  obtain ⟨k, hk, rfl, rfl, hall, hbl⟩ := hrel
  by_cases hlt : k < X.m
  ·have hi : (k : Int) < (X.m : Int) := by omega
   obtain ⟨b, off, rfl, hp, hbd⟩ := (HE.out.2.2.2.2.2.below hbl).at hlt
   obtain ⟨⟨y0, y1⟩, yf⟩ := (HE.out.2.2.2.2.1.below hbl).tc2
   clear yf
   obtain ⟨hb0, a1, c1, a2, c2, a3, c3, a4, c4, a5, c5, hr, -⟩ := hp.cells
   obtain ⟨ls, hls⟩ : ∃ x, x = mv X k := ⟨_, rfl⟩
   obtain ⟨x, hx⟩ : ∃ x, eD (X.f k) = x := ⟨_, rfl⟩
   have hrt := pQ hall
   rw [<- hls, hx] at hrt
   rw [<- hls]
   obtain ⟨lt, hlt9⟩ : ∃ t, decide ((X.f k).id < ls) = t := ⟨_, rfl⟩
   obtain ⟨gq, hgq⟩ : ∃ t, decide (X.nx <= (X.f k).id) = t := ⟨_, rfl⟩
   have HD : Hid (decide ((X.f k).id < ls) = lt /\ decide (X.nx <= (X.f k).id) = gq) := ⟨hlt9, hgq⟩
   have HA : Hid (aI (bE X) k = true /\ Below w.heap.size w wr /\ Below W.heap.size W wr /\ ls = mv X k /\ bE X k = (!lt && (!gq && x))) := ⟨hall, ae HE.out.2.2.2.1 hbl, hbl, hls, by rw [hrt, hlt9, hgq]⟩
   clear hlt9 hgq
   have HK : Hid (ag wr G 38 (tL X (some ⟨b, off, none⟩) X.m c).toArray /\ b < wr.heap.size /\ wr.rangeAt b (off + k * 13) (dL (X.f k) a1 (X.f k).q.ws.length c1 a2 (X.f k).q.bs.length c2 a3 (X.f k).np c3 a4 (X.f k).hs.length c4 a5 (X.f k).nt c5) /\ eZ wr b (off + k * 13) (X.f k) /\ fV (X.f k) /\ eD (X.f k) = x) := ⟨HE.out.2.2.2.2.1.below hbl, hb0, hr, hp, hbd, hx⟩
   clear hall hbl hls hrt hb0 hr hp hbd hx
   go_upto_region 8 with fail
   clear y0 y1
   refine wp_region_any (by kernel_rfl) ?_
   refine aX (fun u => Below wr.heap.size wr u) (fun i v u => match i with
    | 0 => v = .pointer (some ⟨b, off + k * 13, none⟩)
    | 1 => v = .pointer (some ⟨b, off + k * 13, none⟩)
    | 2 => v = .pointer (some ⟨b, off + k * 13, none⟩)
    | 3 => v = .int .i64 (X.f k).id
    | 4 => v = .int .i64 ls
    | 5 => v = .bool lt
    | 6 => v = .bool lt
    | 7 => v = cond lt undef (.pointer (some ⟨b, off + k * 13, none⟩))
    | 8 => v = cond lt undef (.pointer (some ⟨b, off + k * 13, none⟩))
    | 9 => v = cond lt undef (.pointer (some ⟨b, off + k * 13, none⟩))
    | 10 => v = cond lt undef (.int .i64 (X.f k).id)
    | 11 => v = cond lt undef (.pointer (some ⟨G, 0, none⟩))
    | 12 => v = cond lt undef (.int .i64 X.nx)
    | 13 => v = cond lt undef (.bool gq)
    | 14 => v = cond lt (.bool true) (.bool gq)
    | 15 => v = cond lt (.bool true) (.bool gq)
    | 16 => v = cond lt undef (cond gq undef (.pointer (some ⟨b, off + k * 13, none⟩)))
    | 17 => v = cond lt undef (cond gq undef (.bool x))
    | 18 => v = cond lt undef (cond gq undef (.bool (!x)))
    | 19 => v = cond lt (.bool true) (cond gq (.bool true) (.bool (!x)))
    | _ => v = undef) (by kernel_rfl) (by kernel_rfl) (fun _ _ _ _ h _ => h) (by first | exact Below.refl _ _ | exact (Below.refl _ _).drew) ?_ ?_ _ _ rfl (by decide) (fun i => by simp [Array.getD]; try (split <;> rfl))
   ·intro vs u hR hall
    simp only [bm]
    cases lt
    ·cases gq
     ·cases x
      ·have e19 : vs 19 = .bool true := hall 19 (by simp)
       rw [e19]
       clear hall e19
       have HF : Hid (aI (bE X) X.m = false /\ Below w.heap.size w u) := ⟨cM hlt (by rw [HA.out.2.2.2.2]; rfl), ae HA.out.2.1 hR⟩
       clear HK HA hR
       go_simp
       go_wp2
       go_ret
       exact ⟨by rw [HF.out.1]; rfl, HF.out.2⟩
      have e19 : vs 19 = .bool false := hall 19 (by simp)
      rw [e19]
      clear hall e19
      have hgood : bE X k = true := by rw [HA.out.2.2.2.2]; rfl
      have hpos := (pP hgood).2
      have hp1 : 0 <= (X.f k).id := hpos.1
      have hp2 : (X.f k).id < X.nx := hpos.2.1
      have d0 : u.cell? ⟨b, off + k * 13, none⟩ = some (.int .i64 (X.f k).id) := (ax HK.out.2.2.1 HK.out.2.1 hR) 0 _ rfl
      have HF : Hid (aI (bE X) (k + 1) = true /\ Below W.heap.size W u /\ (X.f k).id + 1 = mv X (k + 1)) := ⟨cF HA.out.1 hgood, ae HA.out.2.2.1 hR, by simp [mv]⟩
      clear HK HA hR hgood hpos
      go_simp
      go_wp2
      go_roundw
      case rel => exact ⟨k + 1, by omega, by go_num, by rw [<- HF.out.2.2], HF.out.1, HF.out.2.1⟩
      case measure => simp [intOf]; omega
     have e19 : vs 19 = .bool true := hall 19 (by simp)
     rw [e19]
     clear hall e19
     have HF : Hid (aI (bE X) X.m = false /\ Below w.heap.size w u) := ⟨cM hlt (by rw [HA.out.2.2.2.2]; rfl), ae HA.out.2.1 hR⟩
     clear HK HA hR
     go_simp
     go_wp2
     go_ret
     exact ⟨by rw [HF.out.1]; rfl, HF.out.2⟩
    have e19 : vs 19 = .bool true := hall 19 (by simp)
    rw [e19]
    clear hall e19
    have HF : Hid (aI (bE X) X.m = false /\ Below w.heap.size w u) := ⟨cM hlt (by rw [HA.out.2.2.2.2]; rfl), ae HA.out.2.1 hR⟩
    clear HK HA hR
    go_simp
    go_wp2
    go_ret
    exact ⟨by rw [HF.out.1]; rfl, HF.out.2⟩
   intro u i o ρ hR ho hρ hc hf hd
   have hi : i < 20 := by
    have := (Array.getElem?_eq_some_iff.1 ho).1
    simpa using this
   obtain rfl | rfl | rfl | rfl | rfl | rfl | rfl | rfl | rfl | rfl | rfl | rfl | rfl | rfl | rfl | rfl | rfl | rfl | rfl | rfl : i = 0 \/ i = 1 \/ i = 2 \/ i = 3 \/ i = 4 \/ i = 5 \/ i = 6 \/ i = 7 \/ i = 8 \/ i = 9 \/ i = 10 \/ i = 11 \/ i = 12 \/ i = 13 \/ i = 14 \/ i = 15 \/ i = 16 \/ i = 17 \/ i = 18 \/ i = 19 := by omega
   all_goals (simp only [List.getElem?_toArray, List.getElem?_cons_zero, List.getElem?_cons_succ, Option.some.injEq] at ho; subst ho)
   ·exact yr rfl (hρ 5 (by kernel_rfl)) hR
   ·exact yr (cx rfl (dq hd 0 26)) rfl hR
   ·exact yr (aq rfl (dq hd 1 27) (by go_simp)) rfl hR
   ·have y9 : u.cell? ⟨b, off + k * 13, none⟩ = some (.int .i64 (X.f k).id) := (ax HK.out.2.2.1 HK.out.2.1 hR) 0 _ rfl
    exact yr (ai rfl (dq hd 2 28) (by go_simp)) rfl hR
   ·exact yr rfl (hρ 3 (by kernel_rfl)) hR
   ·cases lt
    ·have t0 := of_decide_eq_false HD.out.1
     exact yr (aD rfl (dq hd 3 29) (dq hd 4 30) (by go_simp)) rfl hR
    have t0 := of_decide_eq_true HD.out.1
    exact yr (aD rfl (dq hd 3 29) (dq hd 4 30) (by go_simp)) rfl hR
   ·exact yr rfl (dq hd 5 31) hR
   ·cases lt
    ·exact yq hd 6 32 rfl (hρ 5 (by kernel_rfl)) hR
    exact aj (.bool true) hd 6 32
   ·cases lt
    ·exact yq hd 6 32 (cx rfl (dq hd 7 33)) rfl hR
    exact aj (.bool true) hd 6 32
   ·cases lt
    ·exact yq hd 6 32 (aq rfl (dq hd 8 34) (by go_simp)) rfl hR
    exact aj (.bool true) hd 6 32
   ·cases lt
    ·have y9 : u.cell? ⟨b, off + k * 13, none⟩ = some (.int .i64 (X.f k).id) := (ax HK.out.2.2.1 HK.out.2.1 hR) 0 _ rfl
     exact yq hd 6 32 (ai rfl (dq hd 9 35) (by go_simp)) rfl hR
    exact aj (.bool true) hd 6 32
   ·cases lt
    ·exact yq hd 6 32 (aq rfl (hρ 1 (by kernel_rfl)) (by go_simp)) rfl hR
    exact aj (.bool true) hd 6 32
   ·cases lt
    ·have y9 : u.cell? ⟨G, 0, none⟩ = some (.int .i64 X.nx) := (HK.out.1.below hR).rng 0 _ rfl
     exact yq hd 6 32 (ai rfl (dq hd 11 37) (by go_simp)) rfl hR
    exact aj (.bool true) hd 6 32
   ·cases lt
    ·cases gq
     ·have t1 := of_decide_eq_false HD.out.2
      exact yq hd 6 32 (aD rfl (dq hd 10 36) (dq hd 12 38) (by go_simp)) rfl hR
     have t1 := of_decide_eq_true HD.out.2
     exact yq hd 6 32 (aD rfl (dq hd 10 36) (dq hd 12 38) (by go_simp)) rfl hR
    exact aj (.bool true) hd 6 32
   ·cases lt
    ·exact yr (aA rfl (dq hd 6 32)) (by simpa using (dq hd 13 39)) hR
    exact yr (aA rfl (dq hd 6 32)) (by simpa using hc _) hR
   ·exact yr rfl (dq hd 14 40) hR
   ·cases lt
    ·cases gq
     ·exact yq hd 15 41 rfl (hρ 5 (by kernel_rfl)) hR
     exact aj (.bool true) hd 15 41
    exact aj (.bool true) hd 15 41
   ·cases lt
    ·cases gq
     ·have g15 : ρ (.tmp 41) = .bool false := gq hd 15 41
      have h16 : _ = _ := dq hd 16 42
      refine .inl ⟨(by show (match ρ (.tmp 41) with | .bool b => b == false | _ => false) = true; rw [g15]; rfl), .inr ⟨_, _, bj rfl (hf _) (args := #[.pointer (some ⟨b, off + k * 13, none⟩)]) (by simp [h16]) (by kernel_rfl), ?_⟩⟩
      refine (lu (X.f k) b (off + k * 13) _ (HK.out.2.2.2.1.below hR) HK.out.2.2.2.2.1).mono ?_
      rintro e u' ⟨he, b'⟩
      exact ⟨_, he.trans (by rw [HK.out.2.2.2.2.2] <;> rfl), rfl, ae hR b', b'⟩
     exact aj (.bool true) hd 15 41
    exact aj (.bool true) hd 15 41
   ·cases lt
    ·cases gq
     ·exact yq hd 15 41 (bH rfl (dq hd 17 43) (by go_simp)) rfl hR
     exact aj (.bool true) hd 15 41
    exact aj (.bool true) hd 15 41
   cases lt
   ·cases gq
    ·exact yr (aA rfl (dq hd 15 41)) (by simpa using (dq hd 18 44)) hR
    exact yr (aA rfl (dq hd 15 41)) (by simpa using hc _) hR
   exact yr (aA rfl (dq hd 15 41)) (by simpa using hc _) hR
  have hi : ¬ (k : Int) < (X.m : Int) := by omega
  have e9 : k = X.m := by omega
  have HF : Hid (aI (bE X) X.m = true /\ Below w.heap.size w wr) := ⟨by rw [<- e9]; exact hall, ae HE.out.2.2.2.1 hbl⟩
  clear hall hbl e9
  go_wp2
  go_ret
  exact ⟨by rw [HF.out.1]; rfl, HF.out.2⟩
noncomputable def fF (X : VC) : Bool := @decide (gw X.f X.n) (Classical.propDecidable _)
theorem kQ (X : VC) : fF X = true ↔ gw X.f X.n := by
 unfold fF
 exact @decide_eq_true_iff _ (Classical.propDecidable _)
noncomputable def fx (X : VF) : Bool := aw X.nw 0 4294967295 && (aI (fun k => aw (fm X k) 0 1000000000) 4 && (iH X.set.wt X.set.tr (fF X.set) && (dJ X.op && ((decide (X.nl = 6) && aI (fun i => cI (X.lf i)) X.nl) && ch X))))
def kR (X : VF) : Prop := X.set.n <= 2000000 /\ (∀ k, k < X.set.n -> -9223372036854775808 <= (X.set.f k).sh /\ (X.set.f k).sh <= 9223372036854775807) /\ jF X.op /\ X.nl <= 2000000 /\ ∀ k, k < X.nl -> iT (X.lf k)
theorem gN {X : VT} (h : dJ X = true) : aI (bE X) X.m = true /\ X.m <= 16 := by
 unfold dJ at h
 simp only [Bool.and_eq_true, decide_eq_true_eq] at h
 exact ⟨h.2.2, h.2.1⟩
theorem pR {N : VN} (h : cI N = true) : (cY N).length <= 41 := by
 unfold cI gJ at h
 simp only [Bool.and_eq_true, decide_eq_true_eq] at h
 have := h.2.2.1
 rw [dZ]
 split <;> omega
theorem pS {X : VF} (h : (decide (X.nl = 6) && aI (fun i => cI (X.lf i)) X.nl) = true) : X.nl = 6 /\ ∀ k, k < X.nl -> (cY (X.lf k)).length <= 41 := by
 simp only [Bool.and_eq_true, decide_eq_true_eq] at h
 exact ⟨h.1, fun k hk => pR (eC.1 h.2 k hk)⟩
theorem mw (X : VF) (g o : Nat) (w : World) (h : dK w g o X) (hb : kR X) :
 Calls prog 44 #[.pointer (some ⟨g, o, none⟩)] w fun e w' => e = .returned (.bool (fx X)) /\ Below w.heap.size w w' := by
 obtain ⟨x0, h0⟩ : ∃ x, aw X.nw 0 4294967295 = x := ⟨_, rfl⟩
 obtain ⟨x1, h1⟩ : ∃ x, aI (fun k => aw (fm X k) 0 1000000000) 4 = x := ⟨_, rfl⟩
 obtain ⟨x2, h2⟩ : ∃ x, iH X.set.wt X.set.tr (fF X.set) = x := ⟨_, rfl⟩
 obtain ⟨x3, h3⟩ : ∃ x, dJ X.op = x := ⟨_, rfl⟩
 obtain ⟨x4, h4⟩ : ∃ x, (decide (X.nl = 6) && aI (fun i => cI (X.lf i)) X.nl) = x := ⟨_, rfl⟩
 obtain ⟨x5, h5⟩ : ∃ x, ch X = x := ⟨_, rfl⟩
 have he : fx X = (x0 && (x1 && (x2 && (x3 && (x4 && x5))))) := by unfold fx; rw [h0, h1, h2, h3, h4, h5]
 rw [he]
 have HX : Hid (aw X.nw 0 4294967295 = x0 /\ aI (fun k => aw (fm X k) 0 1000000000) 4 = x1 /\ iH X.set.wt X.set.tr (fF X.set) = x2 /\ dJ X.op = x3 /\ (decide (X.nl = 6) && aI (fun i => cI (X.lf i)) X.nl) = x4 /\ ch X = x5) := ⟨h0, h1, h2, h3, h4, h5⟩
 have HP : Hid (dK w g o X /\ kR X) := ⟨h, hb⟩
 obtain ⟨a1, c1, a2, c2, a3, c3, ⟨y0, y1, y2, y3, y4, y5, y6, y7, y8, y9, y10⟩, r1, r2, r3⟩ := h.tc
 clear he h0 h1 h2 h3 h4 h5 h hb r1 r2 r3
 go_enter func44, ntmps44
 go_wp2_with fail
 refine (nI _ _ _ HX.out.1).mono ?_
 rintro e w1 ⟨rfl, hw⟩
 have hw := hw.symm
 subst hw
 cases x0 with
 | false =>
  go_wp2
  go_ret
  exact ⟨rfl, Below.refl _ _⟩
 | true =>
 go_wp2_with fail
 refine (jK X g o _ HP.out.1).mono ?_
 rintro e w1 ⟨rfl, hw⟩
 have hw := hw.symm
 subst hw
 rw [HX.out.2.1]
 cases x1 with
 | false =>
  go_wp2
  go_ret
  exact ⟨rfl, Below.refl _ _⟩
 | true =>
 have HU : Hid (Rd w 0 (.list 7 X.set.n (fun i => aa (bi (X.set.f i)))) (.slice a1 X.set.n c1)) := by
  obtain ⟨b1, d1, b2, d2, b3, d3, ⟨z0, z1, z2, z3, z4, z5, z6, z7, z8, z9, aR⟩, q1, q2, q3⟩ := HP.out.1.tc
  rw [y3] at z3
  simp only [Option.some.injEq, Value.slice.injEq] at z3
  obtain ⟨rfl, -, rfl⟩ := z3
  exact q1
 go_wp2_with fail
 refine (ji X.set.wt X.set.tr a1 X.set.n c1 X.set.f _ HU.out.slu.2 HP.out.2.1 HP.out.2.2.1 (fF X.set) (kQ X.set)).mono ?_
 rintro e w1 ⟨rfl, b1⟩
 rw [HX.out.2.2.1]
 have B1 : Hid (Below w.heap.size w w1) := b1
 clear b1 HU y0 y1 y2 y3 y4 y5 y6 y7 y8 y9 y10
 cases x2 with
 | false =>
  go_wp2
  go_ret
  exact ⟨rfl, B1.out⟩
 | true =>
 obtain ⟨f1, k1, f2, k2, f3, k3, ⟨y0, y1, y2, y3, y4, y5, y6, y7, y8, y9, y10⟩, r1, r2, r3⟩ := (HP.out.1.below B1.out).tc
 have HT : Hid (gC w1 X.op f2 k2) := ⟨r2, HP.out.2.2.2.1⟩
 clear r1 r2 r3
 go_wp2_with fail
 refine (jS X.op f2 k2 _ HT.out).mono ?_
 rintro e w2 ⟨rfl, b2⟩
 rw [HX.out.2.2.2.1]
 have B2 : Hid (Below w.heap.size w w2) := ae B1.out b2
 clear b2 HT B1 y0 y1 y2 y3 y4 y5 y6 y7 y8 y9 y10
 cases x3 with
 | false =>
  go_wp2
  go_ret
  exact ⟨rfl, B2.out⟩
 | true =>
 go_wp2_with fail
 refine (kr X g o _ (HP.out.1.below B2.out) HP.out.2.2.2.2.2).mono ?_
 rintro e w3 ⟨rfl, b3⟩
 rw [HX.out.2.2.2.2.1]
 have B3 : Hid (Below w.heap.size w w3) := ae B2.out b3
 clear b3 B2
 cases x4 with
 | false =>
  go_wp2
  go_ret
  exact ⟨rfl, B3.out⟩
 | true =>
 go_wp2_with fail
 refine (ku X g o _ (HP.out.1.below B3.out) (gN HX.out.2.2.2.1).1 (gN HX.out.2.2.2.1).2 (by have := (pS HX.out.2.2.2.2.1).1; omega) HP.out.2.2.2.2.2 HP.out.2.2.2.1 (pS HX.out.2.2.2.2.1).2).mono ?_
 rintro e w4 ⟨rfl, b4⟩
 rw [HX.out.2.2.2.2.2]
 have B4 : Hid (Below w.heap.size w w4) := ae B3.out b4
 clear b4 B3
 go_wp2
 go_ret
 exact ⟨rfl, B4.out⟩
theorem jj (X : VF) (a1 : Option Addr) (c1 : Nat) (a2 : Option Addr) (c2 : Nat) (a3 : Option Addr) (c3 : Nat) (w : World) (h : ay w 0 (aa (dS X)) (bL X a1 X.set.n c1 a2 X.op.m c2 a3 X.nl c3)) (hb : kR X) :
 Calls prog 11 #[.agg (bL X a1 X.set.n c1 a2 X.op.m c2 a3 X.nl c3).toArray] w fun e w' => e = .returned (.bool (fx X)) /\ Below w.heap.size w w' := by
 obtain ⟨W, hW⟩ : ∃ W, W = w.alloc (.cells (bL X a1 X.set.n c1 a2 X.op.m c2 a3 X.nl c3).toArray 41) := ⟨_, rfl⟩
 obtain ⟨G, hG⟩ : ∃ G, G = w.heap.size := ⟨_, rfl⟩
 have bW : Below w.heap.size w W := by rw [hW]; exact ac _ _
 have k1 : ag W G 41 (bL X a1 X.set.n c1 a2 X.op.m c2 a3 X.nl c3).toArray := by rw [hW, hG]; exact ag.new _ _ _
 have HE : Hid (dK W G 0 X /\ Below w.heap.size w W /\ kR X) := ⟨⟨k1.lt, _, rfl, k1.rng, h.below bW⟩, bW, hb⟩
 clear k1 bW h hb
 go_enter func11, ntmps11
 go_upto_region 1 with fail
 rw [<- hW, <- hG]
 clear hW hG
 go_wp2_with fail
 refine (mw X G 0 _ HE.out.1 HE.out.2.2).mono ?_
 rintro e w1 ⟨rfl, b1⟩
 have B1 : Hid (Below w.heap.size w w1) := ae HE.out.2.1 b1
 clear b1
 go_wp2
 go_ret
 exact ⟨rfl, B1.out⟩
end Go.Proofs.YtplaoagcedgdfaaGreat
