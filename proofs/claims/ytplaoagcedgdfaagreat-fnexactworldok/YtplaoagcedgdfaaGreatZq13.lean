/- Parts of the proof. -/
import Derived.Test.YtplaoagcedgdfaaGreatZq12
import Derived.Test.YtplaoagcedgdfaaGreatZq2
import Derived.Test.YtplaoagcedgdfaaGreatZq10
import Derived.Test.YtplaoagcedgdfaaGreatZq9
import Derived.Deep.RegionHeld3
import Derived.BigQuiet
set_option linter.unusedVariables false
set_option linter.unusedSimpArgs false
set_option maxHeartbeats 8000000
set_option maxRecDepth 20000
namespace Go.Proofs.YtplaoagcedgdfaaGreat
open Go.RowKit Go.Joins Go.Proofs.Tryz
theorem Rd.int3 {w : World} {lo n c : Nat} {a : Option Addr} {ws : List Int} (h : Rd w lo (ah ws) (.slice a n c)) : n = ws.length /\ n <= c /\ aQ w a ws := by
 obtain ⟨a', c', h1, h2, h3, h4⟩ := h.ints
 simp only [Value.slice.injEq] at h1
 obtain ⟨rfl, rfl, rfl⟩ := h1
 exact ⟨rfl, h2, h4⟩
theorem Rd.bool3 {w : World} {lo n c : Nat} {a : Option Addr} {ws : List Bool} (h : Rd w lo (af ws) (.slice a n c)) : n = ws.length /\ n <= c /\ aW w a ws := by
 obtain ⟨a', c', h1, h2, h3, h4⟩ := h.bools
 simp only [Value.slice.injEq] at h1
 obtain ⟨rfl, rfl, rfl⟩ := h1
 exact ⟨rfl, h2, h4⟩
theorem Rd.bit {w : World} {lo n m c : Nat} {a : Option Addr} {bs : List Bool} {k : Nat} (h : Rd w lo (af bs) (.slice a m c)) (hk : k < bs.length) : ∃ b off, a = some ⟨b, off, none⟩ /\ b < w.heap.size /\ w.cell? ⟨b, off + k, none⟩ = some (.bool (bs.getD k false)) := by
 rcases h.bool3.2.2 with h0 | ⟨b, off, ha, hb, hc⟩
 ·subst h0; simp at hk
 exact ⟨b, off, ha, hb, hc k hk⟩
theorem pe (x hi : Int) (w : World) (b : Bool) (hb : aw x 1 hi = b) : Calls prog 199 #[.int .i64 x, .int .i64 hi] w fun e w' => e = .returned (.bool b) /\ w' = w := by
 subst hb
 unfold aw
 by_cases h1 : 1 <= x
 ·by_cases h2 : x <= hi
  ·rw [decide_eq_true (show 1 <= x /\ x <= hi from ⟨h1, h2⟩)]
   go_enter func199, ntmps199
   go_wp2
   go_ret
   exact ⟨rfl, rfl⟩
  rw [decide_eq_false (show ¬ (1 <= x /\ x <= hi) from fun h => h2 h.2)]
  go_enter func199, ntmps199
  go_wp2
  go_ret
  exact ⟨rfl, rfl⟩
 rw [decide_eq_false (show ¬ (1 <= x /\ x <= hi) from fun h => h1 h.1)]
 go_enter func199, ntmps199
 go_wp2
 go_ret
 exact ⟨rfl, rfl⟩
theorem sX (x : Int) (w : World) (b : Bool) (hb : aw x 1 247 = b) : Calls prog 158 #[.int .i64 x] w fun e w' => e = .returned (.bool b) /\ w' = w := by
 go_enter func158, ntmps158
 go_wp2_with fail
 refine (pe _ _ _ _ hb).mono ?_
 rintro e wx ⟨rfl, rfl⟩
 go_wp2
 go_ret
 exact ⟨rfl, rfl⟩
theorem n7 (x : Int) (w : World) (b : Bool) (hb : aw x 0 1000000000 = b) : Calls prog 144 #[.int .i64 x] w fun e w' => e = .returned (.bool b) /\ w' = w := by
 subst hb
 unfold aw
 by_cases h1 : 0 <= x
 ·by_cases h2 : x <= 1000000000
  ·rw [decide_eq_true ⟨h1, h2⟩]
   have h3 : x < 1000000000 + 1 := by omega
   simp only [Int.reduceAdd] at h3
   go_enter func144, ntmps144
   go_wp2
   go_ret
   exact ⟨rfl, rfl⟩
  rw [decide_eq_false (fun h => h2 h.2)]
  have h3 : ¬ x < 1000000000 + 1 := by omega
  simp only [Int.reduceAdd] at h3
  go_enter func144, ntmps144
  go_wp2
  go_ret
  exact ⟨rfl, rfl⟩
 rw [decide_eq_false (fun h => h1 h.1)]
 go_enter func144, ntmps144
 go_wp2
 go_ret
 exact ⟨rfl, rfl⟩
theorem sY (x : Int) (w : World) (b : Bool) (hb : aw x 0 5 = b) : Calls prog 160 #[.int .i64 x] w fun e w' => e = .returned (.bool b) /\ w' = w := by
 subst hb
 unfold aw
 by_cases h1 : 0 <= x
 ·by_cases h2 : x <= 5
  ·rw [decide_eq_true ⟨h1, h2⟩]
   have h3 : x < 5 + 1 := by omega
   simp only [Int.reduceAdd] at h3
   go_enter func160, ntmps160
   go_wp2
   go_ret
   exact ⟨rfl, rfl⟩
  rw [decide_eq_false (fun h => h2 h.2)]
  have h3 : ¬ x < 5 + 1 := by omega
  simp only [Int.reduceAdd] at h3
  go_enter func160, ntmps160
  go_wp2
  go_ret
  exact ⟨rfl, rfl⟩
 rw [decide_eq_false (fun h => h1 h.1)]
 go_enter func160, ntmps160
 go_wp2
 go_ret
 exact ⟨rfl, rfl⟩
theorem kj (X : VQ) (a1 : Option Addr) (l1 c1 : Nat) (a2 : Option Addr) (l2 c2 : Nat) (w : World) (r1 : Rd w 0 (ah X.ws) (.slice a1 l1 c1)) (r2 : Rd w 0 (af X.bs) (.slice a2 l2 c2)) (hb : ce X) :
 Calls prog 200 #[.agg (qL X a1 l1 c1 a2 l2 c2).toArray] w fun e w' => e = .returned (.bool (eK X)) /\ Below w.heap.size w w' := by
 obtain ⟨e1, _, s1⟩ := r1.int3
 obtain ⟨e2, _, s2⟩ := r2.bool3
 unfold eK
 rw [<- e1, <- e2]
 exact gm X.kd X.pl X.n X.wa a1 a2 l1 l2 c1 c2 X.ws X.bs w e1 e2 s1 s2 hb.1 hb.2
theorem kk (X : VQ) (a1 : Option Addr) (l1 c1 : Nat) (a2 : Option Addr) (l2 c2 : Nat) (w : World) (r1 : Rd w 0 (ah X.ws) (.slice a1 l1 c1)) (r2 : Rd w 0 (af X.bs) (.slice a2 l2 c2)) (hb : ce X) :
 Calls prog 119 #[.agg (qL X a1 l1 c1 a2 l2 c2).toArray] w fun e w' => e = .returned (.bool (eK X)) /\ Below w.heap.size w w' := by
 obtain ⟨e1, _, s1⟩ := r1.int3
 obtain ⟨e2, _, s2⟩ := r2.bool3
 unfold eK
 rw [<- e1, <- e2]
 exact gk X.kd X.pl X.n X.wa a1 a2 l1 l2 c1 c2 X.ws X.bs w e1 e2 s1 s2 hb.1 hb.2
theorem lT (X : VP) (a1 : Option Addr) (c1 : Nat) (a2 : Option Addr) (c2 : Nat) (w : World) (r1 : Rd w 0 (ah X.q.ws) (.slice a1 X.q.ws.length c1)) (r2 : Rd w 0 (af X.q.bs) (.slice a2 X.q.bs.length c2)) (hb : ce X.q) :
 Calls prog 236 #[.agg (pL X a1 X.q.ws.length c1 a2 X.q.bs.length c2).toArray] w fun e w' => e = .returned (.bool (cd X)) /\ Below w.heap.size w w' := by
 obtain ⟨x0, hx0⟩ : ∃ x, aw X.p 0 5 = x := ⟨_, rfl⟩
 obtain ⟨x1, hx1⟩ : ∃ x, aw X.t 1 247 = x := ⟨_, rfl⟩
 obtain ⟨x2, hx2⟩ : ∃ x, eK X.q = x := ⟨_, rfl⟩
 obtain ⟨W, hW⟩ : ∃ W, W = w.alloc (.cells (pL X a1 X.q.ws.length c1 a2 X.q.bs.length c2).toArray 144) := ⟨_, rfl⟩
 have HE : Hid (cd X = (x0 && (x1 && x2)) /\ aw X.p 0 5 = x0 /\ aw X.t 1 247 = x1 /\ eK X.q = x2 /\ Rd W 0 (ah X.q.ws) (.slice a1 X.q.ws.length c1) /\ Rd W 0 (af X.q.bs) (.slice a2 X.q.bs.length c2) /\ Below w.heap.size w W) := ⟨by unfold cd; rw [hx0, hx1, hx2], hx0, hx1, hx2, r1.below (by rw [hW]; exact ac _ _), r2.below (by rw [hW]; exact ac _ _), by rw [hW]; exact ac _ _⟩
 have A0 : ag W w.heap.size 144 (pL X a1 X.q.ws.length c1 a2 X.q.bs.length c2).toArray := by rw [hW]; exact ag.new _ _ _
 obtain ⟨⟨y0, y1, y2, y3, y4, y5, y6, y7⟩, yf⟩ := A0.tc8
 rw [HE.out.1]
 clear hx0 hx1 hx2 r1 r2 yf A0
 go_enter func236, ntmps236
 go_upto_region 1 with fail
 rw [<- hW]
 clear hW
 go_wp2_with fail
 refine (sY _ _ _ HE.out.2.1).mono ?_
 rintro e w1 ⟨rfl, hw⟩
 have hw := hw.symm
 subst hw
 cases x0
 case false =>
  go_wp2
  go_ret
  exact ⟨rfl, HE.out.2.2.2.2.2.2⟩
 go_wp2_with fail
 refine (sX _ _ _ HE.out.2.2.1).mono ?_
 rintro e w1 ⟨rfl, hw⟩
 have hw := hw.symm
 subst hw
 cases x1
 case false =>
  go_wp2
  go_ret
  exact ⟨rfl, HE.out.2.2.2.2.2.2⟩
 go_wp2_with fail
 refine (kj X.q a1 _ c1 a2 _ c2 _ HE.out.2.2.2.2.1 HE.out.2.2.2.2.2.1 hb).mono ?_
 rintro e w1 ⟨rfl, b1⟩
 rw [HE.out.2.2.2.1]
 have B1 := ae HE.out.2.2.2.2.2.2 b1
 clear b1 y0 y1 y2 y3 y4 y5 y6 y7
 go_wp2
 go_ret
 exact ⟨rfl, B1⟩
theorem lU (X : VP) (a1 : Option Addr) (c1 : Nat) (a2 : Option Addr) (c2 : Nat) (w : World) (r1 : Rd w 0 (ah X.q.ws) (.slice a1 X.q.ws.length c1)) (r2 : Rd w 0 (af X.q.bs) (.slice a2 X.q.bs.length c2)) (hb : ce X.q) :
 Calls prog 134 #[.agg (pL X a1 X.q.ws.length c1 a2 X.q.bs.length c2).toArray] w fun e w' => e = .returned (.bool (cd X)) /\ Below w.heap.size w w' := by
 obtain ⟨x0, hx0⟩ : ∃ x, aw X.p 0 5 = x := ⟨_, rfl⟩
 obtain ⟨x1, hx1⟩ : ∃ x, aw X.t 1 247 = x := ⟨_, rfl⟩
 obtain ⟨x2, hx2⟩ : ∃ x, eK X.q = x := ⟨_, rfl⟩
 obtain ⟨W, hW⟩ : ∃ W, W = w.alloc (.cells (pL X a1 X.q.ws.length c1 a2 X.q.bs.length c2).toArray 144) := ⟨_, rfl⟩
 have HE : Hid (cd X = (x0 && (x1 && x2)) /\ aw X.p 0 5 = x0 /\ aw X.t 1 247 = x1 /\ eK X.q = x2 /\ Rd W 0 (ah X.q.ws) (.slice a1 X.q.ws.length c1) /\ Rd W 0 (af X.q.bs) (.slice a2 X.q.bs.length c2) /\ Below w.heap.size w W) := ⟨by unfold cd; rw [hx0, hx1, hx2], hx0, hx1, hx2, r1.below (by rw [hW]; exact ac _ _), r2.below (by rw [hW]; exact ac _ _), by rw [hW]; exact ac _ _⟩
 have A0 : ag W w.heap.size 144 (pL X a1 X.q.ws.length c1 a2 X.q.bs.length c2).toArray := by rw [hW]; exact ag.new _ _ _
 obtain ⟨⟨y0, y1, y2, y3, y4, y5, y6, y7⟩, yf⟩ := A0.tc8
 rw [HE.out.1]
 clear hx0 hx1 hx2 r1 r2 yf A0
 go_enter func134, ntmps134
 go_upto_region 1 with fail
 rw [<- hW]
 clear hW
 go_wp2_with fail
 refine (aE _ _ _ _ _ HE.out.2.1).mono ?_
 rintro e w1 ⟨rfl, hw⟩
 have hw := hw.symm
 subst hw
 cases x0
 case false =>
  go_wp2
  go_ret
  exact ⟨rfl, HE.out.2.2.2.2.2.2⟩
 go_wp2_with fail
 refine (aE _ _ _ _ _ HE.out.2.2.1).mono ?_
 rintro e w1 ⟨rfl, hw⟩
 have hw := hw.symm
 subst hw
 cases x1
 case false =>
  go_wp2
  go_ret
  exact ⟨rfl, HE.out.2.2.2.2.2.2⟩
 go_wp2_with fail
 refine (kk X.q a1 _ c1 a2 _ c2 _ HE.out.2.2.2.2.1 HE.out.2.2.2.2.2.1 hb).mono ?_
 rintro e w1 ⟨rfl, b1⟩
 rw [HE.out.2.2.2.1]
 have B1 := ae HE.out.2.2.2.2.2.2 b1
 clear b1 y0 y1 y2 y3 y4 y5 y6 y7
 go_wp2
 go_ret
 exact ⟨rfl, B1⟩
theorem ob (X : VP) (a1 : Option Addr) (c1 : Nat) (a2 : Option Addr) (c2 : Nat) (w : World) (r1 : Rd w 0 (ah X.q.ws) (.slice a1 X.q.ws.length c1)) (r2 : Rd w 0 (af X.q.bs) (.slice a2 X.q.bs.length c2)) (hb : ce X.q) (x : Bool) (hx : cd X = x) :
 Calls prog 235 #[.agg (pL X a1 X.q.ws.length c1 a2 X.q.bs.length c2).toArray] w fun e w' => e = .returned (.bool (!x)) /\ Below w.heap.size w w' := by
 obtain ⟨W, hW⟩ : ∃ W, W = w.alloc (.cells (pL X a1 X.q.ws.length c1 a2 X.q.bs.length c2).toArray 144) := ⟨_, rfl⟩
 have HE : Hid (cd X = x /\ Rd W 0 (ah X.q.ws) (.slice a1 X.q.ws.length c1) /\ Rd W 0 (af X.q.bs) (.slice a2 X.q.bs.length c2) /\ Below w.heap.size w W) := ⟨hx, r1.below (by rw [hW]; exact ac _ _), r2.below (by rw [hW]; exact ac _ _), by rw [hW]; exact ac _ _⟩
 have A0 : ag W w.heap.size 144 (pL X a1 X.q.ws.length c1 a2 X.q.bs.length c2).toArray := by rw [hW]; exact ag.new _ _ _
 obtain ⟨⟨y0, y1, y2, y3, y4, y5, y6, y7⟩, yf⟩ := A0.tc8
 clear hx r1 r2 yf A0
 go_enter func235, ntmps235
 go_upto_region 1 with fail
 rw [<- hW]
 clear hW
 go_wp2_with fail
 refine (lT X a1 c1 a2 c2 _ HE.out.2.1 HE.out.2.2.1 hb).mono ?_
 rintro e w1 ⟨rfl, b1⟩
 rw [HE.out.1]
 have B1 := ae HE.out.2.2.2 b1
 clear b1 y0 y1 y2 y3 y4 y5 y6 y7
 go_wp2
 go_ret
 exact ⟨rfl, B1⟩
def vz (n : Nat) (f : Nat -> VP) (r : Int) : Prop := (r = -1 /\ aI (fun i => cd (f i)) n = true) \/ (0 <= r /\ aI (fun i => cd (f i)) n = false)
theorem mT (n : Nat) (f : Nat -> VP) (a : Option Addr) (c : Nat) (w : World) (hs : Rd w 0 (.list 8 n (fun i => aa (pT (f i)))) (.slice a n c)) (hn : n <= 2000000) (hb : ∀ i, i < n -> ce (f i).q) :
 Calls prog 250 #[.slice a n c, .func (.func 235) #[] #[]] w fun e w' => ∃ r, e = .returned (.int .i64 r) /\ vz n f r /\ Below w.heap.size w w' := by
 have HS : Hid (Rd w 0 (.list 8 n (fun i => aa (pT (f i)))) (.slice a n c) /\ ∀ i, i < n -> ce (f i).q) := ⟨hs, hb⟩
 clear hs hb
 go_enter func250, ntmps250
 go_wp2
 go_loopw [8] (fun i wr => ∃ k : Nat, k <= n /\ i = .int .i64 k /\ aI (fun i => cd (f i)) k = true /\ Below w.heap.size w wr) (fun i _ => n - (intOf i).toNat)
 case atStart => exact ⟨0, Nat.zero_le _, rfl, rfl, Below.refl _ _⟩
 case round =>
  obtain ⟨k, hk, rfl, hall, hbl⟩ := hrel
  by_cases hlt : k < n
  ·have hi : (k : Int) < (n : Int) := by omega
   obtain ⟨b, off, vs, rfl, _, hb0, hlen, hr, hrd⟩ := (HS.out.1.below hbl).at hlt
   obtain ⟨a1, c1, a2, c2, rfl, r1, r2⟩ := VP.cells hrd hlen
   clear hlen hrd hb0
   have d0 : wr.cell? ⟨b, off + k * 8, none⟩ = _ := hr 0 _ rfl
   have d1 := hr 1 _ rfl
   have d2 := hr 2 _ rfl
   have d3 := hr 3 _ rfl
   have d4 := hr 4 _ rfl
   have d5 := hr 5 _ rfl
   have d6 := hr 6 _ rfl
   have d7 := hr 7 _ rfl
   obtain ⟨x, hx⟩ : ∃ x, cd (f k) = x := ⟨_, rfl⟩
   have HK : Hid (Rd wr 0 (ah (f k).q.ws) (.slice a1 (f k).q.ws.length c1) /\ Rd wr 0 (af (f k).q.bs) (.slice a2 (f k).q.bs.length c2) /\ cd (f k) = x /\ aI (fun i => cd (f i)) k = true /\ Below w.heap.size w wr) := ⟨r1, r2, hx, hall, hbl⟩
   clear r1 r2 hx hall hbl hr
   go_wp2_with fail
   refine (ob (f k) a1 c1 a2 c2 _ HK.out.1 HK.out.2.1 (HS.out.2 k hlt) x HK.out.2.2.1).mono ?_
   rintro e w1 ⟨rfl, b1⟩
   have B1 := ae HK.out.2.2.2.2 b1
   clear b1 d0 d1 d2 d3 d4 d5 d6 d7
   cases x with
   | true =>
    have HF : Hid (aI (fun i => cd (f i)) (k + 1) = true) := cF HK.out.2.2.2.1 HK.out.2.2.1
    clear HK
    go_wp2
    go_roundw
    case rel => exact ⟨k + 1, by omega, by go_num, HF.out, B1⟩
    case measure => simp [intOf]; omega
   | false =>
    have HF : Hid (aI (fun i => cd (f i)) n = false) := cM hlt HK.out.2.2.1
    clear HK
    go_wp2
    go_ret
    exact ⟨_, rfl, .inr ⟨by omega, HF.out⟩, B1⟩
  have hi : ¬ (k : Int) < (n : Int) := by omega
  have e9 : k = n := by omega
  subst e9
  have HF : Hid (aI (fun i => cd (f i)) k = true) := hall
  clear hall
  go_wp2
  go_ret
  exact ⟨_, rfl, .inl ⟨rfl, HF.out⟩, hbl⟩
theorem km (n : Nat) (f : Nat -> VP) (a : Option Addr) (c : Nat) (w : World) (hs : Rd w 0 (.list 8 n (fun i => aa (pT (f i)))) (.slice a n c)) (hn : n <= 2000000) (hb : ∀ i, i < n -> ce (f i).q) (x : Bool) (hx : aI (fun i => cd (f i)) n = x) :
 Calls prog 234 #[.slice a n c, .func (.func 235) #[] #[]] w fun e w' => e = .returned (.bool (!x)) /\ Below w.heap.size w w' := by
 have HX : Hid (aI (fun i => cd (f i)) n = x) := hx
 clear hx
 go_enter func234, ntmps234
 go_wp2_with fail
 refine (mT n f a c _ hs hn hb).mono ?_
 rintro e w1 ⟨r, rfl, hr, b1⟩
 have HR : Hid (vz n f r) := hr
 clear hr
 cases x with
 | true =>
  have h0 : ¬ (0 <= r) := by
   rcases HR.out with h | h
   ·omega
   have := HX.out; rw [h.2] at this; cases this
  have HD : Hid (decide (0 <= r) = false) := decide_eq_false h0
  go_wp2
  go_ret
  exact ⟨by show Ending.returned (.bool (decide (0 <= r))) = _; rw [HD.out]; rfl, b1⟩
 | false =>
  have h0 : 0 <= r := by
   rcases HR.out with h | h
   ·have := HX.out; rw [h.2] at this; cases this
   exact h.1
  have HD : Hid (decide (0 <= r) = true) := decide_eq_true h0
  go_wp2
  go_ret
  exact ⟨rfl, b1⟩
theorem kn (D : VD) (g o : Nat) (w : World) (h : eZ w g o D) (hb : fV D) :
 Calls prog 201 #[.pointer (some ⟨g, o, none⟩)] w fun e w' => e = .returned (.bool (decide (1 <= D.np /\ D.np <= 8) && aI (fun i => cd (D.pt i)) D.np)) /\ Below w.heap.size w w' := by
 obtain ⟨hg, a1, c1, a2, c2, a3, c3, a4, c4, a5, c5, hr, r1, r2, r3, r4, r5⟩ := h.cells
 obtain ⟨x0, hx0⟩ : ∃ x, aw (D.np : Int) 1 8 = x := ⟨_, rfl⟩
 obtain ⟨x1, hx1⟩ : ∃ x, aI (fun i => cd (D.pt i)) D.np = x := ⟨_, rfl⟩
 have hx2 : decide (1 <= D.np /\ D.np <= 8) = x0 := by rw [<- hx0]; unfold aw; exact decide_eq_decide.2 (by omega)
 rw [hx2]
 have HX : Hid (aw (D.np : Int) 1 8 = x0 /\ aI (fun i => cd (D.pt i)) D.np = x1 /\ Rd w 0 (.list 8 D.np (fun i => aa (pT (D.pt i)))) (.slice a3 D.np c3) /\ fV D) := ⟨hx0, hx1, r3, hb⟩
 rw [hx1]
 have hn2 : D.np <= 2000000 := hb.2.1
 have y10 := hr 10 _ rfl
 clear hr r1 r2 r3 r4 r5 hx0 hx1 hx2 hb
 go_enter func201, ntmps201
 go_wp2_with fail
 refine (pe _ _ _ _ HX.out.1).mono ?_
 rintro e w1 ⟨rfl, hw⟩
 have hw := hw.symm
 subst hw
 cases x0
 case false =>
  go_wp2
  go_ret
  exact ⟨rfl, Below.refl _ _⟩
 go_wp2_with fail
 refine (km D.np D.pt a3 c3 _ HX.out.2.2.1 hn2 HX.out.2.2.2.2.2.2.2.1 x1 HX.out.2.1).mono ?_
 rintro e w1 ⟨rfl, b1⟩
 clear y10
 cases x1
 case false =>
  go_wp2
  go_ret
  exact ⟨rfl, b1⟩
 go_wp2
 go_ret
 exact ⟨rfl, b1⟩
theorem pg (D : VD) (g o : Nat) (w : World) (h : eZ w g o D) (hb : fV D) :
 Calls prog 203 #[.pointer (some ⟨g, o, none⟩)] w fun e w' => e = .returned (.int .i64 (cH D.hs D.hs.length : Int)) /\ w' = w := by
 obtain ⟨hg, a1, c1, a2, c2, a3, c3, a4, c4, a5, c5, hr, r1, r2, r3, r4, r5⟩ := h.cells
 obtain ⟨n, hn⟩ : ∃ n, n = D.hs.length := ⟨_, rfl⟩
 have y11 := hr 11 _ rfl
 rw [<- hn] at y11 r4 ⊢
 have HX : Hid (Rd w 0 (af D.hs) (.slice a4 n c4) /\ n = D.hs.length) := ⟨r4, hn⟩
 have hn2 : n <= 2000000 := by rw [hn]; exact hb.2.2.1
 clear hr r1 r2 r3 r4 r5 hb hn
 go_enter func203, ntmps203
 go_wp2
 go_loopw [3, 11] (fun c i wr => ∃ k : Nat, k <= n /\ i = .int .i64 k /\ c = .int .i64 (cH D.hs k : Int) /\ wr = w) (fun _ i _ => n - (intOf i).toNat)
 case atStart => exact ⟨0, Nat.zero_le _, rfl, rfl, rfl⟩
 case round =>
  obtain ⟨k, hk, rfl, rfl, hw⟩ := hrel
  subst hw
  have hc := iO D.hs k
  obtain ⟨m, hm⟩ : ∃ m, m = cH D.hs k := ⟨_, rfl⟩
  rw [<- hm] at hc ⊢
  have HM : Hid (m = cH D.hs k) := hm
  clear hm
  by_cases hlt : k < n
  ·have hi : (k : Int) < (n : Int) := by omega
   obtain ⟨b, off, rfl, hb0, d0⟩ := HX.out.1.bit (k := k) (n := n) (by rw [<- HX.out.2]; exact hlt)
   obtain ⟨x, hx⟩ : ∃ x, D.hs.getD k false = x := ⟨_, rfl⟩
   rw [hx] at d0
   have HK : Hid (cH D.hs (k + 1) = m + (if x then 0 else 1)) := by show cH D.hs (k + 1) = _; simp only [cH]; rw [hx, HM.out]
   clear hx
   cases x with
   | true =>
    go_wp2
    go_roundw
    case rel => exact ⟨k + 1, by omega, by go_num, by rw [HK.out]; rfl, trivial⟩
    case measure => simp [intOf]; omega
   | false =>
    go_wp2
    go_roundw
    case rel => exact ⟨k + 1, by omega, by go_num, by rw [HK.out]; go_num, trivial⟩
    case measure => simp [intOf]; omega
  have hi : ¬ (k : Int) < (n : Int) := by omega
  have e9 : k = n := by omega
  subst e9
  go_wp2
  go_ret
  exact ⟨by rw [HM.out]; rfl, rfl⟩
end Go.Proofs.YtplaoagcedgdfaaGreat
namespace Go.Proofs.YtplaoagcedgdfaaGreat
open Go.RowKit Go.Proofs.Tryz
theorem iR (x most : Int) (w : World) (b : Bool) (hb : aw x 1 most = b) : Calls prog 199 #[.int .i64 x, .int .i64 most] w fun e w' => e = .returned (.bool b) /\ w' = w := by
 subst hb
 unfold aw
 by_cases h1 : 1 <= x
 ·by_cases h2 : x <= most
  ·rw [decide_eq_true (show 1 <= x /\ x <= most from ⟨h1, h2⟩)]
   go_enter func199, ntmps199
   go_wp2
   go_ret
   exact ⟨rfl, rfl⟩
  rw [decide_eq_false (show ¬ (1 <= x /\ x <= most) from fun h => h2 h.2)]
  go_enter func199, ntmps199
  go_wp2
  go_ret
  exact ⟨rfl, rfl⟩
 rw [decide_eq_false (show ¬ (1 <= x /\ x <= most) from fun h => h1 h.1)]
 go_enter func199, ntmps199
 go_wp2
 go_ret
 exact ⟨rfl, rfl⟩
theorem mU (x : Int) (w : World) (b : Bool) (hb : aw x 1 255 = b) : Calls prog 265 #[.int .i64 x] w fun e w' => e = .returned (.bool b) /\ w' = w := by
 go_enter func265, ntmps265
 go_wp2_with fail
 refine (iR _ _ _ _ hb).mono ?_
 rintro e wx ⟨rfl, rfl⟩
 go_wp2
 go_ret
 exact ⟨rfl, rfl⟩
def tB (kd fl pl nn : Int) (ws : List Int) (l1 l2 : Nat) : Bool :=
 if fl = 0 then
  if kd = 1 \/ kd = 2 then aw l2 1 2000 && decide (l2 % 8 = 0)
  else if kd = 3 \/ kd = 4 \/ kd = 23 then aw l1 1 125 && bN ws
  else if kd = 5 then aw pl 0 65535 && decide (l2 = 1)
  else if kd = 6 then aw pl 0 65535 && (decide (l1 = 1) && bN ws)
  else if kd = 22 then aw pl 0 65535 && (decide (l1 = 2) && bN ws)
  else if kd = 15 then aw pl 0 65535 && aw nn 1 1968
  else aw pl 0 65535 && aw nn 1 123
 else aw fl 1 255
def fW (kd fl pl nn : Int) (l1 l2 : Nat) : Bool :=
 if fl = 0 then
  if kd = 1 \/ kd = 2 then bf false false false true pl nn l1 l2
  else if kd = 3 \/ kd = 4 \/ kd = 23 then bf false false true false pl nn l1 l2
  else if kd = 5 then bf true false false true pl nn l1 l2
  else if kd = 6 \/ kd = 22 then bf true false true false pl nn l1 l2
  else bf true true false false pl nn l1 l2
 else bf false false false false pl nn l1 l2
theorem qK {ws : List Int} {l1 : Nat} (h1 : l1 = ws.length) (h : l1 = 0) : bN ws = true := by
 rw [h] at h1
 rw [List.eq_nil_of_length_eq_zero h1.symm]
 rfl
theorem qM (kd fl pl nn : Int) (ws : List Int) (l1 l2 : Nat) (h1 : l1 = ws.length) (hk : cK kd = true) : dk kd fl pl nn ws l1 l2 = (tB kd fl pl nn ws l1 l2 && fW kd fl pl nn l1 l2) := by
 have hnil := qK h1
 clear h1
 have hk' := of_decide_eq_true hk
 rw [Bool.eq_iff_iff]
 by_cases hf : fl = 0
 ·subst hf
  obtain rfl | rfl | rfl | rfl | rfl | rfl | rfl | rfl | rfl | rfl := hk'
  all_goals (
   simp [dk, gn, tB, fW, cK, aw, bf]
   cases hW : bN ws
   ·rw [hW] at hnil; simp at hnil; simp <;> omega
   simp; omega)
 by_cases hp : 0 < fl
 ·simp [dk, tB, fW, hk, aw, bf, hf, hp]
  cases hW : bN ws
  ·rw [hW] at hnil; simp at hnil; simp <;> omega
  simp; omega
 have e1 : aw fl 0 255 = false := decide_eq_false (by omega)
 have e2 : aw fl 1 255 = false := decide_eq_false (by omega)
 simp [dk, tB, hk, e1, e2, hf]
theorem jG (kd fl pl nn : Int) (a1 a2 : Option Addr) (l1 l2 c1 c2 : Nat) (ws : List Int) (w : World) (h1 : l1 = ws.length) (s1 : aQ w a1 ws) (hl1 : ws.length <= 2000000) (hl2 : l2 <= 20000000) (hk : cK kd = true) (b : Bool) (hb : tB kd fl pl nn ws l1 l2 = b) :
 Calls prog 261 #[rp kd fl pl nn a1 a2 l1 l2 c1 c2] w fun e w' => e = .returned (.bool b) /\ Below w.heap.size w w' := by
 have H1 : Hid (l1 = ws.length) := h1
 have B0 := ac w (.cells #[.int .i64 kd, .int .i64 fl, .int .i64 pl, .int .i64 nn, .slice a1 l1 c1, .slice a2 l2 c2] 118)
 have S1 := bg (s1.below B0)
 clear h1 s1
 subst hb
 by_cases h0 : fl = 0
 rotate_left
 ·go_enter func261, ntmps261
  go_wp2_with (go_at_call 265; refine (mU _ _ _ rfl).mono ?_; rintro e wx ⟨rfl, rfl⟩)
  go_ret
  exact ⟨by simp [tB, h0], B0⟩
 subst h0
 rcases of_decide_eq_true hk with rfl | rfl | rfl | rfl | rfl | rfl | rfl | rfl | rfl | rfl
 all_goals
  go_enter func261, ntmps261
  go_wp2_with (first
   | (go_at_call 199; refine (bo (iR _ _ _ _ rfl)).mono ?_; rintro e wx ⟨rfl, ⟨hN, rfl⟩ | ⟨hN, rfl⟩⟩)
   | (go_at_call 161; refine (bo (be _ _ _ rfl)).mono ?_; rintro e wx ⟨rfl, ⟨hN, rfl⟩ | ⟨hN, rfl⟩⟩)
   | (go_at_call 225; refine (bo (ct _ _ _ ws _ H1.out S1.out hl1 _ rfl)).mono ?_; rintro e wx ⟨rfl, ⟨hN, rfl⟩ | ⟨hN, rfl⟩⟩))
  all_goals
   go_ret
   refine ⟨?_, B0⟩
   first | (simp [tB, *]; done) | (simp [tB, *]; omega) | (simp [tB, *]; intro; omega) | (simp [tB, *]; rw [Bool.eq_iff_iff]; simp; omega)
theorem cP (kd fl pl nn : Int) (a1 a2 : Option Addr) (l1 l2 c1 c2 : Nat) (w : World) (v : Value) (h : ¬ fl = 0 /\ v = rp kd fl 0 0 none none 0 0 0 0 \/ fl = 0 /\ ((kd = 1 \/ kd = 2) /\ v = rp kd 0 0 0 none a2 0 l2 0 c2 \/ (kd = 3 \/ kd = 4 \/ kd = 23) /\ v = rp kd 0 0 0 a1 none l1 0 c1 0 \/ kd = 5 /\ v = rp kd 0 pl 0 none a2 0 l2 0 c2 \/ (kd = 6 \/ kd = 22) /\ v = rp kd 0 pl 0 a1 none l1 0 c1 0 \/ (kd = 15 \/ kd = 16) /\ v = rp kd 0 pl nn none none 0 0 0 0)) :
 Calls prog 262 #[rp kd fl pl nn a1 a2 l1 l2 c1 c2] w fun e w' => e = .returned v /\ Below w.heap.size w w' := by
 obtain ⟨W0, hW0⟩ : ∃ W0, W0 = (w.alloc (.cells #[.int .i64 kd, .int .i64 fl, .int .i64 pl, .int .i64 nn, .slice a1 l1 c1, .slice a2 l2 c2] 118)).alloc (.cells #[.int .i64 0, .int .i64 0, .int .i64 0, .int .i64 0, .slice none 0 0, .slice none 0 0] 118) := ⟨_, rfl⟩
 have HW : Hid (W0 = _) := hW0
 have B0 : Below w.heap.size w W0 := by rw [hW0]; exact ak (ac w _) (ac _ _)
 have X0 : ag W0 w.heap.size 118 #[.int .i64 kd, .int .i64 fl, .int .i64 pl, .int .i64 nn, .slice a1 l1 c1, .slice a2 l2 c2] := by rw [hW0]; exact (ag.new w _ _).below (ac _ _)
 have R0 : ag W0 (w.heap.size + 1) 118 #[.int .i64 0, .int .i64 0, .int .i64 0, .int .i64 0, .slice none 0 0, .slice none 0 0] := by
  rw [hW0]; have := ag.new (w.alloc (.cells #[.int .i64 kd, .int .i64 fl, .int .i64 pl, .int .i64 nn, .slice a1 l1 c1, .slice a2 l2 c2] 118)) #[.int .i64 0, .int .i64 0, .int .i64 0, .int .i64 0, .slice none 0 0, .slice none 0 0] 118; simpa using this
 obtain ⟨x0, x1, x2, x3, x4, x5⟩ := X0.six
 obtain ⟨y0, y1, y2, y3, y4, y5⟩ := R0.six
 have fy := R0.fro
 clear hW0 X0 R0
 rcases h with ⟨h0, hv⟩ | ⟨rfl, ⟨rfl | rfl, hv⟩ | ⟨rfl | rfl | rfl, hv⟩ | ⟨rfl, hv⟩ | ⟨rfl | rfl, hv⟩ | ⟨rfl | rfl, hv⟩⟩
 all_goals
  have HV : Hid (v = _) := hv
  clear hv
  go_enter func262, ntmps262
  go_upto_region 1 with fail
  rw [<- HW.out]
  go_wp2
  refine bodyPost_ret (v := v) (by rw [HV.out]; simp [results, results262, go_sem, y0, y1, y2, y3, y4, y5]) rfl ?_
  exact ⟨rfl, kB B0 (Nat.le_succ _)⟩
theorem lV (kd fl pl nn pl' nn' : Int) (a1 a2 a1' a2' : Option Addr) (l1 l2 c1 c2 l1' l2' c1' c2' : Nat) (ws : List Int) (bs : List Bool) (w : World) (h1 : l1 = ws.length) (h2 : l2 = bs.length) (s1 : aQ w a1 ws) (s2 : aW w a2 bs) (hl1 : ws.length <= 2000000) (hl2 : bs.length <= 2000000) (hm1 : l1' <= 2000000) (hm2 : l2' <= 2000000)
 (s1' : l1' = l1 -> aQ w a1' ws) (s2' : l2' = l2 -> aW w a2' bs) (b : Bool) (hb : (decide (pl' = pl) && (decide (nn' = nn) && (decide (l1' = l1) && decide (l2' = l2)))) = b) :
 Calls prog 238 #[rp kd fl pl' nn' a1' a2' l1' l2' c1' c2', rp kd fl pl nn a1 a2 l1 l2 c1 c2] w fun e w' => e = .returned (.bool b) /\ Below w.heap.size w w' := by
 obtain ⟨W0, hW0'⟩ : ∃ W0, W0 = (w.alloc (.cells #[.int .i64 kd, .int .i64 fl, .int .i64 pl', .int .i64 nn', .slice a1' l1' c1', .slice a2' l2' c2'] 118)).alloc (.cells #[.int .i64 kd, .int .i64 fl, .int .i64 pl, .int .i64 nn, .slice a1 l1 c1, .slice a2 l2 c2] 118) := ⟨_, rfl⟩
 have hW0 : Hid (W0 = _) := hW0'
 have B0 : Below w.heap.size w W0 := by rw [hW0']; exact ak (ac w _) (ac _ _)
 have X0 : ag W0 w.heap.size 118 #[.int .i64 kd, .int .i64 fl, .int .i64 pl', .int .i64 nn', .slice a1' l1' c1', .slice a2' l2' c2'] := by rw [hW0']; exact (ag.new w _ _).below (ac _ _)
 have Y0 : ag W0 (w.heap.size + 1) 118 #[.int .i64 kd, .int .i64 fl, .int .i64 pl, .int .i64 nn, .slice a1 l1 c1, .slice a2 l2 c2] := by
  rw [hW0']; have := ag.new (w.alloc (.cells #[.int .i64 kd, .int .i64 fl, .int .i64 pl', .int .i64 nn', .slice a1' l1' c1', .slice a2' l2' c2'] 118)) #[.int .i64 kd, .int .i64 fl, .int .i64 pl, .int .i64 nn, .slice a1 l1 c1, .slice a2 l2 c2] 118; simpa using this
 have HL : Hid (l1 = ws.length /\ l2 = bs.length) := ⟨h1, h2⟩
 have HS : Hid (aQ W0 a1 ws /\ aW W0 a2 bs) := ⟨s1.below B0, s2.below B0⟩
 have HS' : Hid ((l1' = l1 -> aQ W0 a1' ws) /\ (l2' = l2 -> aW W0 a2' bs)) := ⟨fun h => (s1' h).below B0, fun h => (s2' h).below B0⟩
 have HM : Hid (l1 <= 20000000 /\ l2 <= 20000000) := by show _ /\ _; omega
 obtain ⟨x0, x1, x2, x3, x4, x5⟩ := X0.six
 obtain ⟨y0, y1, y2, y3, y4, y5⟩ := Y0.six
 clear hW0' h1 h2 s1 s2 s1' s2'
 by_cases hA : pl' = pl
 ·by_cases hN : nn' = nn
  ·subst hA hN
   by_cases hw : l1' = l1
   ·by_cases hq : l2' = l2
    ·have e : b = true := by rw [<- hb]; simp [hw, hq]
     subst e
     clear hb
     subst hw hq
     have T1 : Hid (aQ W0 a1' ws /\ aW W0 a2' bs) := ⟨HS'.out.1 rfl, HS'.out.2 rfl⟩
     go_enter func238, ntmps238
     go_upto_region 1 with fail
     rw [<- hW0.out]
     go_wp2_with fail
     refine (fq _ _ _ _ _ _ ws _ HL.out.1 HL.out.1 T1.out.1 HS.out.1 hl1).mono ?_
     rintro e w1 ⟨rfl, b'⟩
     have b1 := ak B0 b'
     obtain ⟨x0, x1, x2, x3, x4, x5⟩ := (X0.below b').six
     obtain ⟨y0, y1, y2, y3, y4, y5⟩ := (Y0.below b').six
     go_wp2_with fail
     refine (gS _ _ _ _ _ _ bs _ HL.out.2 HL.out.2 (T1.out.2.below b') (HS.out.2.below b') hl2).mono ?_
     rintro e w2 ⟨rfl, b2'⟩
     go_wp2
     go_ret
     exact ⟨rfl, ak b1 b2'⟩
    have e : b = false := by rw [<- hb]; simp [hq]
    subst e
    have hqi : ¬ (l2' : Int) = (l2 : Int) := by omega
    clear hb
    subst hw
    have T1 : Hid (aQ W0 a1' ws) := HS'.out.1 rfl
    go_enter func238, ntmps238
    go_upto_region 1 with fail
    rw [<- hW0.out]
    go_wp2_with fail
    refine (fq _ _ _ _ _ _ ws _ HL.out.1 HL.out.1 T1.out HS.out.1 hl1).mono ?_
    rintro e w1 ⟨rfl, b'⟩
    have b1 := ak B0 b'
    obtain ⟨x0, x1, x2, x3, x4, x5⟩ := (X0.below b').six
    obtain ⟨y0, y1, y2, y3, y4, y5⟩ := (Y0.below b').six
    go_wp2_with fail
    refine (fh _ _ _ _ _ _ _ hqi (by omega) HM.out.2).mono ?_
    rintro e w2 ⟨rfl, b2'⟩
    go_wp2
    go_ret
    exact ⟨rfl, ak b1 b2'⟩
   have e : b = false := by rw [<- hb]; simp [hw]
   subst e
   have hwi : ¬ (l1' : Int) = (l1 : Int) := by omega
   clear hb
   go_enter func238, ntmps238
   go_upto_region 1 with fail
   rw [<- hW0.out]
   go_wp2_with fail
   refine (fz _ _ _ _ _ _ _ hwi (by omega) HM.out.1).mono ?_
   rintro e w1 ⟨rfl, b'⟩
   go_wp2
   go_ret
   exact ⟨rfl, ak B0 b'⟩
  have e : b = false := by rw [<- hb]; simp [hN]
  subst e
  subst hA
  clear hb
  go_enter func238, ntmps238
  go_upto_region 1 with fail
  rw [<- hW0.out]
  go_wp2
  go_ret
  exact ⟨rfl, B0⟩
 have e : b = false := by rw [<- hb]; simp [hA]
 subst e
 clear hb
 go_enter func238, ntmps238
 go_upto_region 1 with fail
 rw [<- hW0.out]
 go_wp2
 go_ret
 exact ⟨rfl, B0⟩
abbrev jc (c : Int) : Value := .iface 311 (.agg #[.int .i64 c])
theorem fc {w : World} {a : Option Addr} {ws : List Int} (h : ws.length = 0) : aQ w a ws := .inl (List.eq_nil_of_length_eq_zero h)
theorem dP {w : World} {a : Option Addr} {bs : List Bool} (h : bs.length = 0) : aW w a bs := .inl (List.eq_nil_of_length_eq_zero h)
def kI (kd : Int) (b : Bool) : Value := bif b then .nilIface else bif cK kd then jc 3 else jc 1
theorem ko (kd fl pl nn : Int) (a1 a2 : Option Addr) (l1 l2 c1 c2 : Nat) (w : World) (hk : cK kd = false) :
 Calls prog 255 #[rp kd fl pl nn a1 a2 l1 l2 c1 c2] w fun e w' => e = .returned (jc 1) /\ Below w.heap.size w w' := by
 have B0 := ac w (.cells #[.int .i64 kd, .int .i64 fl, .int .i64 pl, .int .i64 nn, .slice a1 l1 c1, .slice a2 l2 c2] 118)
 go_enter func255, ntmps255
 go_wp2_with (go_at_call 260; refine (gH _ _ _ hk).mono ?_; rintro e wx ⟨rfl, rfl⟩)
 go_ret
 exact ⟨rfl, B0⟩
theorem lp (kd fl pl nn : Int) (a1 a2 : Option Addr) (l1 l2 c1 c2 : Nat) (ws : List Int) (w : World) (h1 : l1 = ws.length) (s1 : aQ w a1 ws) (hl1 : ws.length <= 2000000) (hl2 : l2 <= 20000000) (hk : cK kd = true) (hT : tB kd fl pl nn ws l1 l2 = false) :
 Calls prog 255 #[rp kd fl pl nn a1 a2 l1 l2 c1 c2] w fun e w' => e = .returned (jc 3) /\ Below w.heap.size w w' := by
 obtain ⟨B0, X0⟩ := bx w #[.int .i64 kd, .int .i64 fl, .int .i64 pl, .int .i64 nn, .slice a1 l1 c1, .slice a2 l2 c2] 118
 have HS := bg (s1.below B0)
 have HL : Hid (l1 = ws.length) := h1
 have HT : Hid (tB kd fl pl nn ws l1 l2 = false) := hT
 obtain ⟨W0, hW0⟩ : ∃ W0, W0 = w.alloc (.cells #[.int .i64 kd, .int .i64 fl, .int .i64 pl, .int .i64 nn, .slice a1 l1 c1, .slice a2 l2 c2] 118) := ⟨_, rfl⟩
 rw [<- hW0] at B0 X0 HS
 have HW : Hid (W0 = _) := hW0
 have d0 : Below W0.heap.size W0 W0.drew := (Below.refl _ _).drew
 obtain ⟨x0, x1, x2, x3, x4, x5⟩ := X0.six
 clear hW0 h1 s1 hT
 go_enter func255, ntmps255
 go_upto_region 1 with fail
 rw [<- HW.out]
 go_upto_region 3 with (go_at_call 260; refine (gH _ _ _ hk).mono ?_; rintro e wx ⟨rfl, rfl⟩)
 go_region_with (first
  | (go_at_call 261; refine (jG kd fl pl nn a1 a2 l1 l2 c1 c2 ws _ HL.out (by first | exact HS.out | exact HS.out.below d0) hl1 hl2 hk _ HT.out).mono ?_; rintro e wA ⟨rfl, bA⟩; have BA := ak (w0 := w) (by first | exact B0 | exact B0.drew) bA; have XA := ag.below (by first | exact X0 | exact X0.below d0) bA; obtain ⟨xa0, xa1, xa2, xa3, xa4, xa5⟩ := XA.six; clear bA))
 all_goals (go_wp2; go_ret; exact ⟨rfl, BA⟩)
theorem bQ (kd fl pl nn : Int) (a1 a2 : Option Addr) (l1 l2 c1 c2 : Nat) (ws : List Int) (bs : List Bool) (w : World) (h1 : l1 = ws.length) (h2 : l2 = bs.length) (s1 : aQ w a1 ws) (s2 : aW w a2 bs) (hl1 : ws.length <= 2000000) (hl2 : bs.length <= 2000000) (hk : cK kd = true) (hT : tB kd fl pl nn ws l1 l2 = true)
 (pl' nn' : Int) (a1' a2' : Option Addr) (l1' l2' c1' c2' : Nat) (hm1 : l1' <= 2000000) (hm2 : l2' <= 2000000) (s1' : l1' = l1 -> aQ w a1' ws) (s2' : l2' = l2 -> aW w a2' bs)
 (hnm : ∀ u, Calls prog 262 #[rp kd fl pl nn a1 a2 l1 l2 c1 c2] u fun e u' => e = .returned (rp kd fl pl' nn' a1' a2' l1' l2' c1' c2') /\ Below u.heap.size u u')
 (b : Bool) (hb : (decide (pl' = pl) && (decide (nn' = nn) && (decide (l1' = l1) && decide (l2' = l2)))) = b) :
 Calls prog 255 #[rp kd fl pl nn a1 a2 l1 l2 c1 c2] w fun e w' => e = .returned (bif b then .nilIface else jc 3) /\ Below w.heap.size w w' := by
 obtain ⟨B0, X0⟩ := bx w #[.int .i64 kd, .int .i64 fl, .int .i64 pl, .int .i64 nn, .slice a1 l1 c1, .slice a2 l2 c2] 118
 have HS : Hid (aQ w a1 ws /\ aW w a2 bs) := ⟨s1, s2⟩
 have HS' : Hid ((l1' = l1 -> aQ w a1' ws) /\ (l2' = l2 -> aW w a2' bs)) := ⟨s1', s2'⟩
 have HL : Hid (l1 = ws.length /\ l2 = bs.length) := ⟨h1, h2⟩
 have HT : Hid (tB kd fl pl nn ws l1 l2 = true) := hT
 have HNM : Hid (∀ u, Calls prog 262 #[rp kd fl pl nn a1 a2 l1 l2 c1 c2] u fun e u' => e = .returned (rp kd fl pl' nn' a1' a2' l1' l2' c1' c2') /\ Below u.heap.size u u') := hnm
 have HB : Hid ((decide (pl' = pl) && (decide (nn' = nn) && (decide (l1' = l1) && decide (l2' = l2)))) = b) := hb
 obtain ⟨W0, hW0⟩ : ∃ W0, W0 = w.alloc (.cells #[.int .i64 kd, .int .i64 fl, .int .i64 pl, .int .i64 nn, .slice a1 l1 c1, .slice a2 l2 c2] 118) := ⟨_, rfl⟩
 rw [<- hW0] at B0 X0
 have HW : Hid (W0 = _) := hW0
 have d0 : Below W0.heap.size W0 W0.drew := (Below.refl _ _).drew
 have B0d : Below w.heap.size w W0.drew := B0.drew
 obtain ⟨x0, x1, x2, x3, x4, x5⟩ := X0.six
 clear hW0 h1 h2 s1 s2 s1' s2' hT hnm hb
 go_enter func255, ntmps255
 go_upto_region 1 with fail
 rw [<- HW.out]
 go_upto_region 3 with (go_at_call 260; refine (gH _ _ _ hk).mono ?_; rintro e wx ⟨rfl, rfl⟩)
 cases b
 all_goals (
  go_region_held3 (fun w' => w'.cell? ⟨w.heap.size, 0, none⟩ = some (.int .i64 kd) /\ w'.cell? ⟨w.heap.size, 1, none⟩ = some (.int .i64 fl) /\ w'.cell? ⟨w.heap.size, 2, none⟩ = some (.int .i64 pl) /\ w'.cell? ⟨w.heap.size, 3, none⟩ = some (.int .i64 nn) /\ w'.cell? ⟨w.heap.size, 4, none⟩ = some (.slice a1 l1 c1) /\ w'.cell? ⟨w.heap.size, 5, none⟩ = some (.slice a2 l2 c2)) (go_keep)
   (first
    | (go_at_call 261; refine (jG kd fl pl nn a1 a2 l1 l2 c1 c2 ws _ HL.out.1 (HS.out.1.below (by first | exact B0 | exact B0d)) hl1 (by have := HL.out; omega) hk _ HT.out).mono ?_; rintro e wA ⟨rfl, bA⟩; have BA := ak (w0 := w) (by first | exact B0 | exact B0d) bA; have XA := ag.below (by first | exact X0 | exact X0.below d0) bA; obtain ⟨xa0, xa1, xa2, xa3, xa4, xa5⟩ := XA.six; clear bA)
    | (go_at_call 262; refine (HNM.out _).mono ?_; rintro e wB ⟨rfl, bB⟩; have BB := ak BA bB; have XB := XA.below bB; obtain ⟨xb0, xb1, xb2, xb3, xb4, xb5⟩ := XB.six; clear bB)
    | (go_at_call 238; refine (lV kd fl pl nn pl' nn' a1 a2 a1' a2' l1 l2 c1 c2 l1' l2' c1' c2' ws bs _ HL.out.1 HL.out.2 (HS.out.1.below BB) (HS.out.2.below BB) hl1 hl2 hm1 hm2 (fun h => (HS'.out.1 h).below BB) (fun h => (HS'.out.2 h).below BB) _ HB.out).mono ?_; rintro e wC ⟨rfl, bC⟩; have BC := ak BB bC; obtain ⟨xc0, xc1, xc2, xc3, xc4, xc5⟩ := (XB.below bC).six; clear bC))
  all_goals (go_wp2; go_ret; exact ⟨rfl, BC⟩))
theorem lq (kd fl pl nn : Int) (a1 a2 : Option Addr) (l1 l2 c1 c2 : Nat) (ws : List Int) (bs : List Bool) (w : World) (h1 : l1 = ws.length) (h2 : l2 = bs.length) (s1 : aQ w a1 ws) (s2 : aW w a2 bs) (hl1 : ws.length <= 2000000) (hl2 : bs.length <= 2000000) :
 Calls prog 255 #[rp kd fl pl nn a1 a2 l1 l2 c1 c2] w fun e w' => e = .returned (kI kd (dk kd fl pl nn ws l1 l2)) /\ Below w.heap.size w w' := by
 cases hk : cK kd
 ·have e : kI kd (dk kd fl pl nn ws l1 l2) = jc 1 := by simp [kI, dk, hk]
  rw [e]
  exact ko kd fl pl nn a1 a2 l1 l2 c1 c2 w hk
 have e : kI kd (dk kd fl pl nn ws l1 l2) = (bif dk kd fl pl nn ws l1 l2 then .nilIface else jc 3) := by simp [kI, hk]
 rw [e, qM kd fl pl nn ws l1 l2 h1 hk]
 clear e
 cases hT : tB kd fl pl nn ws l1 l2
 ·exact lp kd fl pl nn a1 a2 l1 l2 c1 c2 ws w h1 s1 hl1 (by omega) hk hT
 rw [Bool.true_and]
 by_cases h0 : fl = 0
 ·subst h0
  obtain rfl | rfl | rfl | rfl | rfl | rfl | rfl | rfl | rfl | rfl := of_decide_eq_true hk
  ·exact bQ 1 0 pl nn a1 a2 l1 l2 c1 c2 ws bs w h1 h2 s1 s2 hl1 hl2 hk hT 0 0 none a2 0 l2 0 c2 (by omega) (by omega) (fun h => fc (h1.symm.trans h.symm)) (fun h => s2) (fun u => cP 1 0 pl nn a1 a2 l1 l2 c1 c2 u _ (by simp)) _ (by simp [fW, bf, eq_comm])
  ·exact bQ 2 0 pl nn a1 a2 l1 l2 c1 c2 ws bs w h1 h2 s1 s2 hl1 hl2 hk hT 0 0 none a2 0 l2 0 c2 (by omega) (by omega) (fun h => fc (h1.symm.trans h.symm)) (fun h => s2) (fun u => cP 2 0 pl nn a1 a2 l1 l2 c1 c2 u _ (by simp)) _ (by simp [fW, bf, eq_comm])
  ·exact bQ 3 0 pl nn a1 a2 l1 l2 c1 c2 ws bs w h1 h2 s1 s2 hl1 hl2 hk hT 0 0 a1 none l1 0 c1 0 (by omega) (by omega) (fun h => s1) (fun h => dP (h2.symm.trans h.symm)) (fun u => cP 3 0 pl nn a1 a2 l1 l2 c1 c2 u _ (by simp)) _ (by simp [fW, bf, eq_comm])
  ·exact bQ 4 0 pl nn a1 a2 l1 l2 c1 c2 ws bs w h1 h2 s1 s2 hl1 hl2 hk hT 0 0 a1 none l1 0 c1 0 (by omega) (by omega) (fun h => s1) (fun h => dP (h2.symm.trans h.symm)) (fun u => cP 4 0 pl nn a1 a2 l1 l2 c1 c2 u _ (by simp)) _ (by simp [fW, bf, eq_comm])
  ·exact bQ 5 0 pl nn a1 a2 l1 l2 c1 c2 ws bs w h1 h2 s1 s2 hl1 hl2 hk hT pl 0 none a2 0 l2 0 c2 (by omega) (by omega) (fun h => fc (h1.symm.trans h.symm)) (fun h => s2) (fun u => cP 5 0 pl nn a1 a2 l1 l2 c1 c2 u _ (by simp)) _ (by simp [fW, bf, eq_comm])
  ·exact bQ 6 0 pl nn a1 a2 l1 l2 c1 c2 ws bs w h1 h2 s1 s2 hl1 hl2 hk hT pl 0 a1 none l1 0 c1 0 (by omega) (by omega) (fun h => s1) (fun h => dP (h2.symm.trans h.symm)) (fun u => cP 6 0 pl nn a1 a2 l1 l2 c1 c2 u _ (by simp)) _ (by simp [fW, bf, eq_comm])
  ·exact bQ 15 0 pl nn a1 a2 l1 l2 c1 c2 ws bs w h1 h2 s1 s2 hl1 hl2 hk hT pl nn none none 0 0 0 0 (by omega) (by omega) (fun h => fc (h1.symm.trans h.symm)) (fun h => dP (h2.symm.trans h.symm)) (fun u => cP 15 0 pl nn a1 a2 l1 l2 c1 c2 u _ (by simp)) _ (by simp [fW, bf, eq_comm])
  ·exact bQ 16 0 pl nn a1 a2 l1 l2 c1 c2 ws bs w h1 h2 s1 s2 hl1 hl2 hk hT pl nn none none 0 0 0 0 (by omega) (by omega) (fun h => fc (h1.symm.trans h.symm)) (fun h => dP (h2.symm.trans h.symm)) (fun u => cP 16 0 pl nn a1 a2 l1 l2 c1 c2 u _ (by simp)) _ (by simp [fW, bf, eq_comm])
  ·exact bQ 22 0 pl nn a1 a2 l1 l2 c1 c2 ws bs w h1 h2 s1 s2 hl1 hl2 hk hT pl 0 a1 none l1 0 c1 0 (by omega) (by omega) (fun h => s1) (fun h => dP (h2.symm.trans h.symm)) (fun u => cP 22 0 pl nn a1 a2 l1 l2 c1 c2 u _ (by simp)) _ (by simp [fW, bf, eq_comm])
  exact bQ 23 0 pl nn a1 a2 l1 l2 c1 c2 ws bs w h1 h2 s1 s2 hl1 hl2 hk hT 0 0 a1 none l1 0 c1 0 (by omega) (by omega) (fun h => s1) (fun h => dP (h2.symm.trans h.symm)) (fun u => cP 23 0 pl nn a1 a2 l1 l2 c1 c2 u _ (by simp)) _ (by simp [fW, bf, eq_comm])
 exact bQ kd fl pl nn a1 a2 l1 l2 c1 c2 ws bs w h1 h2 s1 s2 hl1 hl2 hk hT 0 0 none none 0 0 0 0 (by omega) (by omega) (fun h => fc (h1.symm.trans h.symm)) (fun h => dP (h2.symm.trans h.symm)) (fun u => cP kd fl pl nn a1 a2 l1 l2 c1 c2 u _ (.inl ⟨h0, rfl⟩)) _ (by simp [fW, bf, eq_comm, h0])
theorem ut (T : TypeId) (v : Value) (w : World) : (binOp .eql 288 (.iface T v) .nilIface).run prog w = .ok (.bool false) w := by kernel_rfl
theorem sZ (w : World) : (binOp .eql 288 .nilIface .nilIface).run prog w = .ok (.bool true) w := by kernel_rfl
theorem iw (kd fl pl nn : Int) (a1 a2 : Option Addr) (l1 l2 c1 c2 : Nat) (ws : List Int) (bs : List Bool) (w : World) (h1 : l1 = ws.length) (h2 : l2 = bs.length) (s1 : aQ w a1 ws) (s2 : aW w a2 bs) (hl1 : ws.length <= 2000000) (hl2 : bs.length <= 2000000) :
 Calls prog 247 #[rp kd fl pl nn a1 a2 l1 l2 c1 c2] w fun e w' => e = .returned (.bool (dk kd fl pl nn ws l1 l2)) /\ Below w.heap.size w w' := by
 obtain ⟨B0, X0⟩ := bx w #[.int .i64 kd, .int .i64 fl, .int .i64 pl, .int .i64 nn, .slice a1 l1 c1, .slice a2 l2 c2] 118
 have HS : Hid (aQ w a1 ws /\ aW w a2 bs) := ⟨s1, s2⟩
 have HL : Hid (l1 = ws.length /\ l2 = bs.length) := ⟨h1, h2⟩
 obtain ⟨x0, x1, x2, x3, x4, x5⟩ := X0.six
 clear h1 h2 s1 s2 X0
 have q1 := ut
 have q2 := sZ
 go_enter func247, ntmps247
 go_wp2_with fail
 refine (lq kd fl pl nn a1 a2 l1 l2 c1 c2 ws bs _ HL.out.1 HL.out.2 (HS.out.1.below B0) (HS.out.2.below B0) hl1 hl2).mono ?_
 rintro e w1 ⟨rfl, b'⟩
 have B1 := ak B0 b'
 clear b' B0
 cases hok : dk kd fl pl nn ws l1 l2
 ·cases hk : cK kd
  ·simp only [kI, hk, cond_false, cond_true]
   go_wp2
   go_ret
   exact ⟨by rw [hok]; rfl, B1⟩
  simp only [kI, hk, cond_false, cond_true]
  go_wp2
  go_ret
  exact ⟨by rw [hok]; rfl, B1⟩
 simp only [kI, cond_true]
 go_wp2
 go_ret
 exact ⟨by rw [hok]; rfl, B1⟩
theorem qN {w : World} {b off : Nat} {bs : List Bool} (N : Nat) (hlt : N < bs.length) (h : aW w (some ⟨b, off, none⟩) bs) : aW w (some ⟨b, off + N, none⟩) (bs.drop N) := by
 rcases h with h | ⟨b', off', e, hb, hc⟩
 ·subst h; simp at hlt
 simp at e
 obtain ⟨rfl, rfl⟩ := e
 refine .inr ⟨b, off + N, rfl, hb, fun i hi => ?_⟩
 rw [List.length_drop] at hi
 have := hc (N + i) (by omega)
 rw [show off + N + i = off + (N + i) by omega, this]
 simp [List.getD_eq_getElem?_getD, List.getElem?_drop]
theorem ph (N : Nat) (M : Int) (w : World) (hn : (N : Int) <= 9223372036854775807) (hM : M = ((N : Int) + 7) / 8) : Calls prog 257 #[.int .i64 (N : Int)] w fun e w' => e = .returned (.int .i64 M) /\ w' = w := by
 rw [hM]
 exact dV (N : Int) w (by omega) hn
theorem lW (bs : List Bool) (N : Nat) : eV (bs.drop N) 0 = eV bs N := by
 unfold eV
 rw [decide_eq_decide]
 constructor
 ·intro h k hk hn
  have := h (k - N) (by rw [List.length_drop]; omega) (Nat.zero_le _)
  simpa [List.getD_eq_getElem?_getD, List.getElem?_drop, show N + (k - N) = k by omega] using this
 intro h k hk _
 rw [List.length_drop] at hk
 have := h (N + k) (by omega) (by omega)
 simpa [List.getD_eq_getElem?_getD, List.getElem?_drop] using this
theorem vl {kd pl nn wa ap an : Int} {qs ws : List Int} {qb bs : List Bool} {m1 m2 l1 l2 : Nat} (hk : kd = 5 \/ kd = 6 \/ kd = 22) (hL : m1 = qs.length /\ m2 = qb.length /\ l1 = ws.length /\ l2 = bs.length) (hq : bv kd pl nn wa qs m1 m2 = true) (ha : dk kd 0 ap an ws l1 l2 = true) : eJ kd pl nn m1 m2 qs qb ap an l1 l2 ws bs = (decide (ap = pl) && (decide (bs = qb) && decide (ws = qs))) := by
 obtain rfl | rfl | rfl := hk
 ·have h : ws = qs := by
   simp [bv, dw, bG, aw, dg] at hq
   simp [dk, gn, cK, aw, bf] at ha
   rw [List.eq_nil_of_length_eq_zero (show ws.length = 0 by omega), List.eq_nil_of_length_eq_zero (show qs.length = 0 by omega)]
  simp [eJ, h]
 all_goals
  have h : bs = qb := by
   simp [bv, dw, bG, aw, dg] at hq
   simp [dk, gn, cK, aw, bf] at ha
   rw [List.eq_nil_of_length_eq_zero (show bs.length = 0 by omega), List.eq_nil_of_length_eq_zero (show qb.length = 0 by omega)]
  simp [eJ, h]
theorem pj (kd : Int) (pl nn wa : Int) (q1 q2 : Option Addr) (m1 m2 k1 k2 : Nat) (qs : List Int) (qb : List Bool) (ap an : Int) (a1 a2 : Option Addr) (l1 l2 c1 c2 : Nat) (ws : List Int) (bs : List Bool) (w : World) (g1 : m1 = qs.length) (g2 : m2 = qb.length) (t1 : aQ w q1 qs) (t2 : aW w q2 qb) (hm1 : qs.length <= 2000000) (hm2 : qb.length <= 2000000) (h1 : l1 = ws.length) (h2 : l2 = bs.length) (s1 : aQ w a1 ws) (s2 : aW w a2 bs) (hl1 : ws.length <= 2000000) (hl2 : bs.length <= 2000000) (hcap : l2 <= c2) (hq : bv kd pl nn wa qs m1 m2 = true) (ha : dk kd 0 ap an ws l1 l2 = true) :
 Calls prog 251 #[rq kd pl nn wa q1 q2 m1 m2 k1 k2, rp kd 0 ap an a1 a2 l1 l2 c1 c2] w fun e w' => e = .returned (.bool (eJ kd pl nn m1 m2 qs qb ap an l1 l2 ws bs)) /\ Below w.heap.size w w' := by
 obtain ⟨W0, hW0⟩ : ∃ W0, W0 = (w.alloc (.cells #[.int .i64 kd, .int .i64 pl, .int .i64 nn, .slice q1 m1 k1, .slice q2 m2 k2, .int .i64 wa] 84)).alloc (.cells #[.int .i64 kd, .int .i64 0, .int .i64 ap, .int .i64 an, .slice a1 l1 c1, .slice a2 l2 c2] 118) := ⟨_, rfl⟩
 have HW : Hid (W0 = _) := hW0
 have B0 : Below w.heap.size w W0 := by rw [hW0]; exact ak (ac w _) (ac _ _)
 have X0 : ag W0 w.heap.size 84 #[.int .i64 kd, .int .i64 pl, .int .i64 nn, .slice q1 m1 k1, .slice q2 m2 k2, .int .i64 wa] := by rw [hW0]; exact (ag.new w _ _).below (ac _ _)
 have Y0 : ag W0 (w.heap.size + 1) 118 #[.int .i64 kd, .int .i64 0, .int .i64 ap, .int .i64 an, .slice a1 l1 c1, .slice a2 l2 c2] := by
  rw [hW0]; have := ag.new (w.alloc (.cells #[.int .i64 kd, .int .i64 pl, .int .i64 nn, .slice q1 m1 k1, .slice q2 m2 k2, .int .i64 wa] 84)) #[.int .i64 kd, .int .i64 0, .int .i64 ap, .int .i64 an, .slice a1 l1 c1, .slice a2 l2 c2] 118; simpa using this
 have HL := gg g1 g2 h1 h2
 have HS := gg (t1.below B0) (t2.below B0) (s1.below B0) (s2.below B0)
 obtain ⟨x0, x1, x2, x3, x4, x5⟩ := X0.six
 obtain ⟨y0, y1, y2, y3, y4, y5⟩ := Y0.six
 clear hW0 g1 g2 h1 h2 t1 t2 s1 s2
 have hK := jb hq
 by_cases h12 : kd = 1 \/ kd = 2
 ·have hN : 1 <= nn /\ nn <= 2000 := by obtain rfl | rfl := h12 <;> simp [bv, dw, bG, aw, dg] at hq <;> omega
  have hB : 1 <= l2 /\ l2 <= 2000 := by obtain rfl | rfl := h12 <;> simp [dk, gn, cK, aw, bf] at ha <;> omega
  obtain ⟨N, rfl⟩ : ∃ N : Nat, nn = (N : Int) := ⟨nn.toNat, by omega⟩
  rw [show eJ kd pl (N : Int) m1 m2 qs qb ap an l1 l2 ws bs = (eV bs N && decide (l2 = (N + 7) / 8 * 8)) by simp [eJ, h12]]
  obtain ⟨bb, hbb⟩ : ∃ b, (eV bs N && decide (l2 = (N + 7) / 8 * 8)) = b := ⟨_, rfl⟩
  rw [hbb]
  have HBB : Hid (_ = bb) := hbb
  clear hq ha hK hbb
  obtain rfl | rfl := h12
  all_goals
   have d0 : Below W0.heap.size W0 W0.drew := (Below.refl _ _).drew
   obtain ⟨M, hM⟩ : ∃ M : Int, M = ((N : Int) + 7) / 8 := ⟨_, rfl⟩
   have HM : Hid (M = ((N : Int) + 7) / 8 /\ 0 <= M /\ M <= 1000) := ⟨hM, by omega, by omega⟩
   have hw8 : IntKind.i64.wrap (8 * M) = 8 * M := wraps_i64' _ (by omega) (by omega)
   obtain ⟨bk, off, ea, hbk, hc⟩ := bY (k := 0) HS.out.2.2.2 (by have := HL.out; omega)
   subst ea
   clear hc
   by_cases he : (l2 : Int) = 8 * M
   ·have hle : N <= l2 := by omega
    have heb : ((l2 : Int) == 8 * M) = true := by simp [he]
    have heb2 : decide ((l2 : Int) = 8 * M) = true := by simp [he]
    have HEQ : Hid (l2 = (N + 7) / 8 * 8) := by show l2 = _; omega
    have hci : (l2 : Int) <= (c2 : Int) := by omega
    have hn0 : (0 : Int) <= (N : Int) := by omega
    have hnl2 : (N : Int) <= (l2 : Int) := by omega
    clear hM he
    by_cases hnl : N = l2
    ·have hz : eV bs N = true := decide_eq_true (fun k h1 h2 => by have := HL.out; omega)
     have HE : Hid (bb = true) := by show _ = true; rw [<- HBB.out]; simp [hz, HEQ.out]
     have HZ : Hid (eV [] 0 = true) := rfl
     clear hz
     have hnl' := hnl.symm
     clear hnl HEQ
     subst hnl'
     by_cases hcl : c2 = l2
     ·subst hcl
      go_enter func251, ntmps251
      go_upto_region 1 with fail
      rw [<- HW.out]
      go_upto_region 4 with fail
      go_region_held3 (fun w' => w'.cell? ⟨w.heap.size, 2, none⟩ = some (.int .i64 (c2 : Int)) /\ w'.cell? ⟨w.heap.size + 1, 5, none⟩ = some (.slice (some ⟨bk, off, none⟩) c2 c2)) (go_keep)
       (first
        | (go_at_call 257; refine (dV (c2 : Int) _ (by omega) (by omega)).mono ?_; rintro e wx ⟨he, rfl⟩; rw [<- HM.out.1] at he; subst he)
        | (go_at_call 258; refine (ez _ 0 _ [] _ rfl (.inl rfl) (by simp) _ HZ.out).mono ?_; rintro e wC ⟨rfl, bC⟩; have BC := ak (w0 := w) (by first | exact B0 | exact B0.drew) bC; have XC := (ag.below (by first | exact X0 | exact X0.below d0) bC).six; have YC := (ag.below (by first | exact Y0 | exact Y0.below d0) bC).six; obtain ⟨xc0, xc1, xc2, xc3, xc4, xc5⟩ := XC; obtain ⟨yc0, yc1, yc2, yc3, yc4, yc5⟩ := YC; clear bC))
      all_goals (go_wp2; go_ret; exact ⟨by rw [HE.out]; rfl, BC⟩)
     skip
     go_enter func251, ntmps251
     go_upto_region 1 with fail
     rw [<- HW.out]
     go_upto_region 4 with fail
     go_region_held3 (fun w' => w'.cell? ⟨w.heap.size, 2, none⟩ = some (.int .i64 (l2 : Int)) /\ w'.cell? ⟨w.heap.size + 1, 5, none⟩ = some (.slice (some ⟨bk, off, none⟩) l2 c2)) (go_keep)
      (first
       | (go_at_call 257; refine (dV (l2 : Int) _ (by omega) (by omega)).mono ?_; rintro e wx ⟨he, rfl⟩; rw [<- HM.out.1] at he; subst he)
       | (go_at_call 258; refine (ez _ 0 _ [] _ rfl (.inl rfl) (by simp) _ HZ.out).mono ?_; rintro e wC ⟨rfl, bC⟩; have BC := ak (w0 := w) (by first | exact B0 | exact B0.drew) bC; have XC := (ag.below (by first | exact X0 | exact X0.below d0) bC).six; have YC := (ag.below (by first | exact Y0 | exact Y0.below d0) bC).six; obtain ⟨xc0, xc1, xc2, xc3, xc4, xc5⟩ := XC; obtain ⟨yc0, yc1, yc2, yc3, yc4, yc5⟩ := YC; clear bC))
     all_goals (go_wp2; go_ret; exact ⟨by rw [HE.out]; rfl, BC⟩)
    have hlt : N < l2 := by omega
    have HSl : Hid (aW W0 (some ⟨bk, off + N, none⟩) (bs.drop N)) := qN N (by have := HL.out; omega) HS.out.2.2.2
    have HLd : Hid (l2 - N = (bs.drop N).length) := by show _ = _; rw [List.length_drop]; have := HL.out; omega
    have hnz : ¬ l2 - N = 0 := by omega
    have hcn : ¬ c2 = N := by omega
    cases hz : eV bs N
    ·have HE : Hid (bb = false) := by show _ = false; rw [<- HBB.out]; simp [hz, HEQ.out]
     have HZ : Hid (eV (bs.drop N) 0 = false) := by show _ = false; rw [lW]; exact hz
     clear hz
     go_enter func251, ntmps251
     go_upto_region 1 with fail
     rw [<- HW.out]
     go_upto_region 4 with fail
     go_region_held3 (fun w' => w'.cell? ⟨w.heap.size, 2, none⟩ = some (.int .i64 (N : Int)) /\ w'.cell? ⟨w.heap.size + 1, 5, none⟩ = some (.slice (some ⟨bk, off, none⟩) l2 c2)) (go_keep)
      (first
       | (go_at_call 257; refine (dV (N : Int) _ (by omega) (by omega)).mono ?_; rintro e wx ⟨he, rfl⟩; rw [<- HM.out.1] at he; subst he)
       | (go_at_call 258; refine (ez _ (l2 - N) _ (bs.drop N) _ HLd.out (by first | exact HSl.out | exact HSl.out.below d0) (by rw [List.length_drop]; omega) _ HZ.out).mono ?_; rintro e wC ⟨rfl, bC⟩; have BC := ak (w0 := w) (by first | exact B0 | exact B0.drew) bC; have XC := (ag.below (by first | exact X0 | exact X0.below d0) bC).six; have YC := (ag.below (by first | exact Y0 | exact Y0.below d0) bC).six; obtain ⟨xc0, xc1, xc2, xc3, xc4, xc5⟩ := XC; obtain ⟨yc0, yc1, yc2, yc3, yc4, yc5⟩ := YC; clear bC))
     all_goals (go_wp2; go_ret; exact ⟨by rw [HE.out]; rfl, BC⟩)
    have HE : Hid (bb = true) := by show _ = true; rw [<- HBB.out]; simp [hz, HEQ.out]
    have HZ : Hid (eV (bs.drop N) 0 = true) := by show _ = true; rw [lW]; exact hz
    clear hz
    go_enter func251, ntmps251
    go_upto_region 1 with fail
    rw [<- HW.out]
    go_upto_region 4 with fail
    go_region_held3 (fun w' => w'.cell? ⟨w.heap.size, 2, none⟩ = some (.int .i64 (N : Int)) /\ w'.cell? ⟨w.heap.size + 1, 5, none⟩ = some (.slice (some ⟨bk, off, none⟩) l2 c2)) (go_keep)
     (first
      | (go_at_call 257; refine (dV (N : Int) _ (by omega) (by omega)).mono ?_; rintro e wx ⟨he, rfl⟩; rw [<- HM.out.1] at he; subst he)
      | (go_at_call 258; refine (ez _ (l2 - N) _ (bs.drop N) _ HLd.out (by first | exact HSl.out | exact HSl.out.below d0) (by rw [List.length_drop]; omega) _ HZ.out).mono ?_; rintro e wC ⟨rfl, bC⟩; have BC := ak (w0 := w) (by first | exact B0 | exact B0.drew) bC; have XC := (ag.below (by first | exact X0 | exact X0.below d0) bC).six; have YC := (ag.below (by first | exact Y0 | exact Y0.below d0) bC).six; obtain ⟨xc0, xc1, xc2, xc3, xc4, xc5⟩ := XC; obtain ⟨yc0, yc1, yc2, yc3, yc4, yc5⟩ := YC; clear bC))
    all_goals (go_wp2; go_ret; exact ⟨by rw [HE.out]; rfl, BC⟩)
   have HE : Hid (bb = false) := by show _ = false; rw [<- HBB.out]; have : ¬ l2 = (N + 7) / 8 * 8 := (by omega); simp [this]
   have heb : decide ((l2 : Int) = IntKind.i64.wrap (8 * M)) = false := by rw [hw8]; simp [he]
   have hea : decide ((l2 : Int) = 8 * M) = false := by simp [he]
   have hed : ((l2 : Int) == 8 * M) = false := by simp [he]
   have hec : ¬ (l2 : Int) = IntKind.i64.wrap (8 * M) := by rw [hw8]; exact he
   clear hM
   go_enter func251, ntmps251
   go_upto_region 1 with fail
   rw [<- HW.out]
   go_upto_region 4 with fail
   go_quiet ((go_at_call 257; refine Calls.quiet_of_same (ph N M _ (by omega) HM.out.1)))
   go_wp2
   go_ret
   exact ⟨by rw [HE.out]; rfl, dz B0 _⟩
 obtain (rfl | rfl | rfl) | hw | (rfl | rfl) : (kd = 3 \/ kd = 4 \/ kd = 23) \/ (kd = 5 \/ kd = 6 \/ kd = 22) \/ (kd = 15 \/ kd = 16) := by omega
 iterate 3
  focus
   clear hq ha
   go_enter func251, ntmps251
   go_upto_region 1 with fail
   rw [<- HW.out]
   go_wp2
   go_ret
   refine ⟨?_, B0⟩
   simp [eJ]
   first | done | rfl
 ·rw [vl hw HL.out hq ha]
  clear hq ha
  obtain rfl | rfl | rfl := hw
  all_goals
   go_enter func251, ntmps251
   go_upto_region 1 with fail
   rw [<- HW.out]
   by_cases hA : ap = pl
   rotate_left
   ·have hAb : (ap == pl) = false := by simp [hA]
    go_wp2
    go_ret
    exact ⟨by simp [hA], B0⟩
   subst hA
   go_wp2_with fail
   refine (bo (fi _ _ _ _ _ _ bs qb _ HL.out.2.2.2 HL.out.2.1 HS.out.2.2.2 HS.out.2.1 hl2 hm2 _ rfl)).mono ?_
   rintro e w1 ⟨b', ⟨hE, rfl⟩ | ⟨hE, rfl⟩⟩
   rotate_left
   ·have B1 := ak B0 b'
    go_wp2
    go_ret
    exact ⟨by simp [hE], B1⟩
   have HE : Hid (decide (bs = qb) = true) := hE
   have B1 := ak B0 b'
   have X1 := X0.below b'
   have Y1 := Y0.below b'
   have HS1 : Hid (aQ w1 q1 qs /\ aQ w1 a1 ws) := ⟨HS.out.1.below b', HS.out.2.2.1.below b'⟩
   clear hE b' B0 X0 Y0 x0 x1 x2 x3 x4 x5 y0 y1 y2 y3 y4 y5
   obtain ⟨x0, x1, x2, x3, x4, x5⟩ := X1.six
   obtain ⟨y0, y1, y2, y3, y4, y5⟩ := Y1.six
   go_wp2_with fail
   refine (fA _ _ _ _ _ _ ws qs _ HL.out.2.2.1 HL.out.1 HS1.out.2 HS1.out.1 hl1 hm1 _ rfl).mono ?_
   rintro e w2 ⟨rfl, b'⟩
   have B2 := ak B1 b'
   clear b'
   go_wp2
   go_ret
   exact ⟨by rw [HE.out]; simp, B2⟩
 all_goals
  clear hq ha
  go_enter func251, ntmps251
  go_upto_region 1 with fail
  rw [<- HW.out]
  by_cases hA : ap = pl
  rotate_left
  ·have hAb : (ap == pl) = false := by simp [hA]
   go_wp2
   go_ret
   exact ⟨by simp [eJ, hA], B0⟩
  subst hA
  go_wp2
  go_ret
  refine ⟨?_, B0⟩
  simp [eJ]
  first | done | rfl
theorem mV (kd kd' fl : Int) (pl nn wa : Int) (q1 q2 : Option Addr) (m1 m2 k1 k2 : Nat) (qs : List Int) (qb : List Bool) (ap an : Int) (a1 a2 : Option Addr) (l1 l2 c1 c2 : Nat) (ws : List Int) (bs : List Bool) (w : World) (g1 : m1 = qs.length) (g2 : m2 = qb.length) (t1 : aQ w q1 qs) (t2 : aW w q2 qb) (hm1 : qs.length <= 2000000) (hm2 : qb.length <= 2000000) (h1 : l1 = ws.length) (h2 : l2 = bs.length) (s1 : aQ w a1 ws) (s2 : aW w a2 bs) (hl1 : ws.length <= 2000000) (hl2 : bs.length <= 2000000) (hcap : l2 <= c2) :
 Calls prog 237 #[rq kd pl nn wa q1 q2 m1 m2 k1 k2, rp kd' fl ap an a1 a2 l1 l2 c1 c2] w fun e w' => e = .returned (.bool (fU kd pl nn wa m1 m2 qs qb kd' fl ap an l1 l2 ws bs)) /\ Below w.heap.size w w' := by
 obtain ⟨W0, hW0⟩ : ∃ W0, W0 = (w.alloc (.cells #[.int .i64 kd, .int .i64 pl, .int .i64 nn, .slice q1 m1 k1, .slice q2 m2 k2, .int .i64 wa] 84)).alloc (.cells #[.int .i64 kd', .int .i64 fl, .int .i64 ap, .int .i64 an, .slice a1 l1 c1, .slice a2 l2 c2] 118) := ⟨_, rfl⟩
 have HW : Hid (W0 = _) := hW0
 have B0 : Below w.heap.size w W0 := by rw [hW0]; exact ak (ac w _) (ac _ _)
 have X0 : ag W0 w.heap.size 84 #[.int .i64 kd, .int .i64 pl, .int .i64 nn, .slice q1 m1 k1, .slice q2 m2 k2, .int .i64 wa] := by rw [hW0]; exact (ag.new w _ _).below (ac _ _)
 have Y0 : ag W0 (w.heap.size + 1) 118 #[.int .i64 kd', .int .i64 fl, .int .i64 ap, .int .i64 an, .slice a1 l1 c1, .slice a2 l2 c2] := by
  rw [hW0]; have := ag.new (w.alloc (.cells #[.int .i64 kd, .int .i64 pl, .int .i64 nn, .slice q1 m1 k1, .slice q2 m2 k2, .int .i64 wa] 84)) #[.int .i64 kd', .int .i64 fl, .int .i64 ap, .int .i64 an, .slice a1 l1 c1, .slice a2 l2 c2] 118; simpa using this
 have HL := gg g1 g2 h1 h2
 have HS := gg (t1.below B0) (t2.below B0) (s1.below B0) (s2.below B0)
 obtain ⟨x0, x1, x2, x3, x4, x5⟩ := X0.six
 obtain ⟨y0, y1, y2, y3, y4, y5⟩ := Y0.six
 clear hW0 g1 g2 h1 h2 t1 t2 s1 s2
 go_enter func237, ntmps237
 go_upto_region 1 with fail
 rw [<- HW.out]
 go_wp2_with fail
 refine (bo (gm kd pl nn wa q1 q2 m1 m2 k1 k2 qs qb _ HL.out.1 HL.out.2.1 HS.out.1 HS.out.2.1 hm1 hm2)).mono ?_
 rintro e w1 ⟨b', ⟨hq, rfl⟩ | ⟨hq, rfl⟩⟩
 rotate_left
 ·have B1 := ak B0 b'
  go_wp2
  go_ret
  exact ⟨by simp [fU, hq], B1⟩
 have HQ : Hid (bv kd pl nn wa qs m1 m2 = true) := hq
 have B1 := ak B0 b'
 have X1 := X0.below b'
 have Y1 := Y0.below b'
 have HS1 := gg (HS.out.1.below b') (HS.out.2.1.below b') (HS.out.2.2.1.below b') (HS.out.2.2.2.below b')
 clear hq b' B0 X0 Y0 x0 x1 x2 x3 x4 x5 y0 y1 y2 y3 y4 y5
 obtain ⟨x0, x1, x2, x3, x4, x5⟩ := X1.six
 obtain ⟨y0, y1, y2, y3, y4, y5⟩ := Y1.six
 go_wp2_with fail
 refine (bo (iw kd' fl ap an a1 a2 l1 l2 c1 c2 ws bs _ HL.out.2.2.1 HL.out.2.2.2 HS1.out.2.2.1 HS1.out.2.2.2 hl1 hl2)).mono ?_
 rintro e w2 ⟨b', ⟨ha, rfl⟩ | ⟨ha, rfl⟩⟩
 rotate_left
 ·have B2 := ak B1 b'
  go_wp2
  go_ret
  exact ⟨by simp [fU, ha], B2⟩
 have B2 := ak B1 b'
 have X2 := X1.below b'
 have Y2 := Y1.below b'
 have HS2 := gg (HS1.out.1.below b') (HS1.out.2.1.below b') (HS1.out.2.2.1.below b') (HS1.out.2.2.2.below b')
 have HA : Hid (dk kd' fl ap an ws l1 l2 = true) := ha
 clear b' B1 X1 Y1 x0 x1 x2 x3 x4 x5 y0 y1 y2 y3 y4 y5
 obtain ⟨x0, x1, x2, x3, x4, x5⟩ := X2.six
 obtain ⟨y0, y1, y2, y3, y4, y5⟩ := Y2.six
 by_cases hk : kd = kd'
 rotate_left
 ·have hkb : (kd == kd') = false := by simp [hk]
  clear ha
  go_wp2
  go_ret
  exact ⟨by simp [fU, hk], B2⟩
 subst hk
 clear ha
 by_cases h0 : fl = 0
 rotate_left
 ·go_wp2
  go_ret
  exact ⟨by simp [fU, HQ.out, HA.out, h0], B2⟩
 subst h0
 go_wp2_with fail
 refine (pj kd pl nn wa q1 q2 m1 m2 k1 k2 qs qb ap an a1 a2 l1 l2 c1 c2 ws bs _ HL.out.1 HL.out.2.1 HS2.out.1 HS2.out.2.1 hm1 hm2 HL.out.2.2.1 HL.out.2.2.2 HS2.out.2.2.1 HS2.out.2.2.2 hl1 hl2 hcap HQ.out HA.out).mono ?_
 rintro e w3 ⟨rfl, b'⟩
 have B3 := ak B2 b'
 clear b'
 go_wp2
 go_ret
 exact ⟨by simp [fU, HQ.out, HA.out], B3⟩
end Go.Proofs.YtplaoagcedgdfaaGreat
