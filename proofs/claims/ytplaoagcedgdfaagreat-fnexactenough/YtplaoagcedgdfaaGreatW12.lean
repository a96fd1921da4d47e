/- Texts that the proof needs, joined: Tb1 Fo5 Fo6 SrP Sr1. -/
import Derived.Test.YtplaoagcedgdfaaGreatW10
import Derived.Test.YtplaoagcedgdfaaGreatW8
import Derived.Test.YtplaoagcedgdfaaGreatW2
import Derived.Test.YtplaoagcedgdfaaGreatW9
import Derived.Test.YtplaoagcedgdfaaGreatW11
import Derived.Laws.StructEq
import Derived.Maps.OwnSet
set_option linter.unusedVariables false
set_option linter.unusedSimpArgs false
set_option maxHeartbeats 8000000
set_option maxRecDepth 20000
namespace Go.Proofs.YtplaoagcedgdfaaGreat
open Go.RowKit Go.Joins Go.Proofs.Tryz
theorem Rd.int3 {w : World} {lo n c : Nat} {a : Option Addr} {ws : List Int} (h : Rd w lo (intsT ws) (.slice a n c)) : n = ws.length /\ n <= c /\ SlI w a ws := by
 obtain ⟨a', c', h1, h2, h3, h4⟩ := h.ints
 simp only [Value.slice.injEq] at h1
 obtain ⟨rfl, rfl, rfl⟩ := h1
 exact ⟨rfl, h2, h4⟩
theorem Rd.bool3 {w : World} {lo n c : Nat} {a : Option Addr} {ws : List Bool} (h : Rd w lo (boolsT ws) (.slice a n c)) : n = ws.length /\ n <= c /\ SlB w a ws := by
 obtain ⟨a', c', h1, h2, h3, h4⟩ := h.bools
 simp only [Value.slice.injEq] at h1
 obtain ⟨rfl, rfl, rfl⟩ := h1
 exact ⟨rfl, h2, h4⟩
theorem Rd.bit {w : World} {lo n m c : Nat} {a : Option Addr} {bs : List Bool} {k : Nat} (h : Rd w lo (boolsT bs) (.slice a m c)) (hk : k < bs.length) : ∃ b off, a = some ⟨b, off, none⟩ /\ b < w.heap.size /\ w.cell? ⟨b, off + k, none⟩ = some (.bool (bs.getD k false)) := by
 rcases h.bool3.2.2 with h0 | ⟨b, off, ha, hb, hc⟩
 ·subst h0; simp at hk
 exact ⟨b, off, ha, hb, hc k hk⟩
theorem isCntT (x hi : Int) (w : World) (b : Bool) (hb : inB x 1 hi = b) : Calls prog 199 #[.int .i64 x, .int .i64 hi] w fun e w' => e = .returned (.bool b) /\ w' = w := by
 subst hb
 unfold inB
 by_cases h1 : 1 <= x
 ·by_cases h2 : x <= hi
  ·rw [decide_eq_true (show 1 <= x /\ x <= hi from ⟨h1, h2⟩)]
   go_enter func199, ntmps199
   go_wp2
   go_ret
   exact ⟨rfl, rfl⟩
  rw [decide_eq_false (show ¬ (1 <= x /\ x <= hi) from fun h => h2 h.2)]
  go_enter func199, ntmps199
  go_wp2
  go_ret
  exact ⟨rfl, rfl⟩
 rw [decide_eq_false (show ¬ (1 <= x /\ x <= hi) from fun h => h1 h.1)]
 go_enter func199, ntmps199
 go_wp2
 go_ret
 exact ⟨rfl, rfl⟩
theorem isUnitT (x : Int) (w : World) (b : Bool) (hb : inB x 1 247 = b) : Calls prog 158 #[.int .i64 x] w fun e w' => e = .returned (.bool b) /\ w' = w := by
 go_enter func158, ntmps158
 go_wp2_with fail
 refine (isCntT _ _ _ _ hb).mono ?_
 rintro e wx ⟨rfl, rfl⟩
 go_wp2
 go_ret
 exact ⟨rfl, rfl⟩
theorem isIdT (x : Int) (w : World) (b : Bool) (hb : inB x 0 1000000000 = b) : Calls prog 144 #[.int .i64 x] w fun e w' => e = .returned (.bool b) /\ w' = w := by
 subst hb
 unfold inB
 by_cases h1 : 0 <= x
 ·by_cases h2 : x <= 1000000000
  ·rw [decide_eq_true ⟨h1, h2⟩]
   have h3 : x < 1000000000 + 1 := by omega
   simp only [Int.reduceAdd] at h3
   go_enter func144, ntmps144
   go_wp2
   go_ret
   exact ⟨rfl, rfl⟩
  rw [decide_eq_false (fun h => h2 h.2)]
  have h3 : ¬ x < 1000000000 + 1 := by omega
  simp only [Int.reduceAdd] at h3
  go_enter func144, ntmps144
  go_wp2
  go_ret
  exact ⟨rfl, rfl⟩
 rw [decide_eq_false (fun h => h1 h.1)]
 go_enter func144, ntmps144
 go_wp2
 go_ret
 exact ⟨rfl, rfl⟩
theorem isPortT (x : Int) (w : World) (b : Bool) (hb : inB x 0 5 = b) : Calls prog 160 #[.int .i64 x] w fun e w' => e = .returned (.bool b) /\ w' = w := by
 subst hb
 unfold inB
 by_cases h1 : 0 <= x
 ·by_cases h2 : x <= 5
  ·rw [decide_eq_true ⟨h1, h2⟩]
   have h3 : x < 5 + 1 := by omega
   simp only [Int.reduceAdd] at h3
   go_enter func160, ntmps160
   go_wp2
   go_ret
   exact ⟨rfl, rfl⟩
  rw [decide_eq_false (fun h => h2 h.2)]
  have h3 : ¬ x < 5 + 1 := by omega
  simp only [Int.reduceAdd] at h3
  go_enter func160, ntmps160
  go_wp2
  go_ret
  exact ⟨rfl, rfl⟩
 rw [decide_eq_false (fun h => h1 h.1)]
 go_enter func160, ntmps160
 go_wp2
 go_ret
 exact ⟨rfl, rfl⟩
theorem implOkQ (X : VQ) (a1 : Option Addr) (l1 c1 : Nat) (a2 : Option Addr) (l2 c2 : Nat) (w : World) (r1 : Rd w 0 (intsT X.ws) (.slice a1 l1 c1)) (r2 : Rd w 0 (boolsT X.bs) (.slice a2 l2 c2)) (hb : BdQ X) :
 Calls prog 200 #[.agg (qL X a1 l1 c1 a2 l2 c2).toArray] w fun e w' => e = .returned (.bool (okQ X)) /\ Below w.heap.size w w' := by
 obtain ⟨e1, _, s1⟩ := r1.int3
 obtain ⟨e2, _, s2⟩ := r2.bool3
 unfold okQ
 rw [<- e1, <- e2]
 exact implReqOk_q X.kd X.pl X.n X.wa a1 a2 l1 l2 c1 c2 X.ws X.bs w e1 e2 s1 s2 hb.1 hb.2
theorem specOkQ (X : VQ) (a1 : Option Addr) (l1 c1 : Nat) (a2 : Option Addr) (l2 c2 : Nat) (w : World) (r1 : Rd w 0 (intsT X.ws) (.slice a1 l1 c1)) (r2 : Rd w 0 (boolsT X.bs) (.slice a2 l2 c2)) (hb : BdQ X) :
 Calls prog 119 #[.agg (qL X a1 l1 c1 a2 l2 c2).toArray] w fun e w' => e = .returned (.bool (okQ X)) /\ Below w.heap.size w w' := by
 obtain ⟨e1, _, s1⟩ := r1.int3
 obtain ⟨e2, _, s2⟩ := r2.bool3
 unfold okQ
 rw [<- e1, <- e2]
 exact specReqOk_q X.kd X.pl X.n X.wa a1 a2 l1 l2 c1 c2 X.ws X.bs w e1 e2 s1 s2 hb.1 hb.2
theorem implPart_any (X : VP) (a1 : Option Addr) (c1 : Nat) (a2 : Option Addr) (c2 : Nat) (w : World) (r1 : Rd w 0 (intsT X.q.ws) (.slice a1 X.q.ws.length c1)) (r2 : Rd w 0 (boolsT X.q.bs) (.slice a2 X.q.bs.length c2)) (hb : BdQ X.q) :
 Calls prog 236 #[.agg (pL X a1 X.q.ws.length c1 a2 X.q.bs.length c2).toArray] w fun e w' => e = .returned (.bool (okPt X)) /\ Below w.heap.size w w' := by
 obtain ⟨x0, hx0⟩ : ∃ x, inB X.p 0 5 = x := ⟨_, rfl⟩
 obtain ⟨x1, hx1⟩ : ∃ x, inB X.t 1 247 = x := ⟨_, rfl⟩
 obtain ⟨x2, hx2⟩ : ∃ x, okQ X.q = x := ⟨_, rfl⟩
 obtain ⟨W, hW⟩ : ∃ W, W = w.alloc (.cells (pL X a1 X.q.ws.length c1 a2 X.q.bs.length c2).toArray 144) := ⟨_, rfl⟩
 have HE : Hid (okPt X = (x0 && (x1 && x2)) /\ inB X.p 0 5 = x0 /\ inB X.t 1 247 = x1 /\ okQ X.q = x2 /\ Rd W 0 (intsT X.q.ws) (.slice a1 X.q.ws.length c1) /\ Rd W 0 (boolsT X.q.bs) (.slice a2 X.q.bs.length c2) /\ Below w.heap.size w W) := ⟨by unfold okPt; rw [hx0, hx1, hx2], hx0, hx1, hx2, r1.below (by rw [hW]; exact bel_alloc _ _), r2.below (by rw [hW]; exact bel_alloc _ _), by rw [hW]; exact bel_alloc _ _⟩
 have A0 : Blk W w.heap.size 144 (pL X a1 X.q.ws.length c1 a2 X.q.bs.length c2).toArray := by rw [hW]; exact Blk.new _ _ _
 obtain ⟨⟨y0, y1, y2, y3, y4, y5, y6, y7⟩, yf⟩ := A0.tc8
 rw [HE.out.1]
 clear hx0 hx1 hx2 r1 r2 yf A0
 go_enter func236, ntmps236
 go_upto_region 1 with fail
 rw [<- hW]
 clear hW
 go_wp2_with fail
 refine (isPortT _ _ _ HE.out.2.1).mono ?_
 rintro e w1 ⟨rfl, hw⟩
 have hw := hw.symm
 subst hw
 cases x0
 case false =>
  go_wp2
  go_ret
  exact ⟨rfl, HE.out.2.2.2.2.2.2⟩
 go_wp2_with fail
 refine (isUnitT _ _ _ HE.out.2.2.1).mono ?_
 rintro e w1 ⟨rfl, hw⟩
 have hw := hw.symm
 subst hw
 cases x1
 case false =>
  go_wp2
  go_ret
  exact ⟨rfl, HE.out.2.2.2.2.2.2⟩
 go_wp2_with fail
 refine (implOkQ X.q a1 _ c1 a2 _ c2 _ HE.out.2.2.2.2.1 HE.out.2.2.2.2.2.1 hb).mono ?_
 rintro e w1 ⟨rfl, b1⟩
 rw [HE.out.2.2.2.1]
 have B1 := bel_nx HE.out.2.2.2.2.2.2 b1
 clear b1 y0 y1 y2 y3 y4 y5 y6 y7
 go_wp2
 go_ret
 exact ⟨rfl, B1⟩
theorem specPart_any (X : VP) (a1 : Option Addr) (c1 : Nat) (a2 : Option Addr) (c2 : Nat) (w : World) (r1 : Rd w 0 (intsT X.q.ws) (.slice a1 X.q.ws.length c1)) (r2 : Rd w 0 (boolsT X.q.bs) (.slice a2 X.q.bs.length c2)) (hb : BdQ X.q) :
 Calls prog 134 #[.agg (pL X a1 X.q.ws.length c1 a2 X.q.bs.length c2).toArray] w fun e w' => e = .returned (.bool (okPt X)) /\ Below w.heap.size w w' := by
 obtain ⟨x0, hx0⟩ : ∃ x, inB X.p 0 5 = x := ⟨_, rfl⟩
 obtain ⟨x1, hx1⟩ : ∃ x, inB X.t 1 247 = x := ⟨_, rfl⟩
 obtain ⟨x2, hx2⟩ : ∃ x, okQ X.q = x := ⟨_, rfl⟩
 obtain ⟨W, hW⟩ : ∃ W, W = w.alloc (.cells (pL X a1 X.q.ws.length c1 a2 X.q.bs.length c2).toArray 144) := ⟨_, rfl⟩
 have HE : Hid (okPt X = (x0 && (x1 && x2)) /\ inB X.p 0 5 = x0 /\ inB X.t 1 247 = x1 /\ okQ X.q = x2 /\ Rd W 0 (intsT X.q.ws) (.slice a1 X.q.ws.length c1) /\ Rd W 0 (boolsT X.q.bs) (.slice a2 X.q.bs.length c2) /\ Below w.heap.size w W) := ⟨by unfold okPt; rw [hx0, hx1, hx2], hx0, hx1, hx2, r1.below (by rw [hW]; exact bel_alloc _ _), r2.below (by rw [hW]; exact bel_alloc _ _), by rw [hW]; exact bel_alloc _ _⟩
 have A0 : Blk W w.heap.size 144 (pL X a1 X.q.ws.length c1 a2 X.q.bs.length c2).toArray := by rw [hW]; exact Blk.new _ _ _
 obtain ⟨⟨y0, y1, y2, y3, y4, y5, y6, y7⟩, yf⟩ := A0.tc8
 rw [HE.out.1]
 clear hx0 hx1 hx2 r1 r2 yf A0
 go_enter func134, ntmps134
 go_upto_region 1 with fail
 rw [<- hW]
 clear hW
 go_wp2_with fail
 refine (l1In_any _ _ _ _ _ HE.out.2.1).mono ?_
 rintro e w1 ⟨rfl, hw⟩
 have hw := hw.symm
 subst hw
 cases x0
 case false =>
  go_wp2
  go_ret
  exact ⟨rfl, HE.out.2.2.2.2.2.2⟩
 go_wp2_with fail
 refine (l1In_any _ _ _ _ _ HE.out.2.2.1).mono ?_
 rintro e w1 ⟨rfl, hw⟩
 have hw := hw.symm
 subst hw
 cases x1
 case false =>
  go_wp2
  go_ret
  exact ⟨rfl, HE.out.2.2.2.2.2.2⟩
 go_wp2_with fail
 refine (specOkQ X.q a1 _ c1 a2 _ c2 _ HE.out.2.2.2.2.1 HE.out.2.2.2.2.2.1 hb).mono ?_
 rintro e w1 ⟨rfl, b1⟩
 rw [HE.out.2.2.2.1]
 have B1 := bel_nx HE.out.2.2.2.2.2.2 b1
 clear b1 y0 y1 y2 y3 y4 y5 y6 y7
 go_wp2
 go_ret
 exact ⟨rfl, B1⟩
theorem partNo_any (X : VP) (a1 : Option Addr) (c1 : Nat) (a2 : Option Addr) (c2 : Nat) (w : World) (r1 : Rd w 0 (intsT X.q.ws) (.slice a1 X.q.ws.length c1)) (r2 : Rd w 0 (boolsT X.q.bs) (.slice a2 X.q.bs.length c2)) (hb : BdQ X.q) (x : Bool) (hx : okPt X = x) :
 Calls prog 235 #[.agg (pL X a1 X.q.ws.length c1 a2 X.q.bs.length c2).toArray] w fun e w' => e = .returned (.bool (!x)) /\ Below w.heap.size w w' := by
 obtain ⟨W, hW⟩ : ∃ W, W = w.alloc (.cells (pL X a1 X.q.ws.length c1 a2 X.q.bs.length c2).toArray 144) := ⟨_, rfl⟩
 have HE : Hid (okPt X = x /\ Rd W 0 (intsT X.q.ws) (.slice a1 X.q.ws.length c1) /\ Rd W 0 (boolsT X.q.bs) (.slice a2 X.q.bs.length c2) /\ Below w.heap.size w W) := ⟨hx, r1.below (by rw [hW]; exact bel_alloc _ _), r2.below (by rw [hW]; exact bel_alloc _ _), by rw [hW]; exact bel_alloc _ _⟩
 have A0 : Blk W w.heap.size 144 (pL X a1 X.q.ws.length c1 a2 X.q.bs.length c2).toArray := by rw [hW]; exact Blk.new _ _ _
 obtain ⟨⟨y0, y1, y2, y3, y4, y5, y6, y7⟩, yf⟩ := A0.tc8
 clear hx r1 r2 yf A0
 go_enter func235, ntmps235
 go_upto_region 1 with fail
 rw [<- hW]
 clear hW
 go_wp2_with fail
 refine (implPart_any X a1 c1 a2 c2 _ HE.out.2.1 HE.out.2.2.1 hb).mono ?_
 rintro e w1 ⟨rfl, b1⟩
 rw [HE.out.1]
 have B1 := bel_nx HE.out.2.2.2 b1
 clear b1 y0 y1 y2 y3 y4 y5 y6 y7
 go_wp2
 go_ret
 exact ⟨rfl, B1⟩
def IxP (n : Nat) (f : Nat -> VP) (r : Int) : Prop := (r = -1 /\ allN (fun i => okPt (f i)) n = true) \/ (0 <= r /\ allN (fun i => okPt (f i)) n = false)
theorem indexNo_any (n : Nat) (f : Nat -> VP) (a : Option Addr) (c : Nat) (w : World) (hs : Rd w 0 (.list 8 n (fun i => trs (pT (f i)))) (.slice a n c)) (hn : n <= 2000000) (hb : ∀ i, i < n -> BdQ (f i).q) :
 Calls prog 250 #[.slice a n c, .func (.func 235) #[] #[]] w fun e w' => ∃ r, e = .returned (.int .i64 r) /\ IxP n f r /\ Below w.heap.size w w' := by
 have HS : Hid (Rd w 0 (.list 8 n (fun i => trs (pT (f i)))) (.slice a n c) /\ ∀ i, i < n -> BdQ (f i).q) := ⟨hs, hb⟩
 clear hs hb
 go_enter func250, ntmps250
 go_wp2
 go_loopw [8] (fun i wr => ∃ k : Nat, k <= n /\ i = .int .i64 k /\ allN (fun i => okPt (f i)) k = true /\ Below w.heap.size w wr) (fun i _ => n - (intOf i).toNat)
 case atStart => exact ⟨0, Nat.zero_le _, rfl, rfl, Below.refl _ _⟩
 case round =>
  obtain ⟨k, hk, rfl, hall, hbl⟩ := hrel
  by_cases hlt : k < n
  ·have hi : (k : Int) < (n : Int) := by omega
   obtain ⟨b, off, vs, rfl, _, hb0, hlen, hr, hrd⟩ := (HS.out.1.below hbl).at hlt
   obtain ⟨a1, c1, a2, c2, rfl, r1, r2⟩ := VP.cells hrd hlen
   clear hlen hrd hb0
   have d0 : wr.cell? ⟨b, off + k * 8, none⟩ = _ := hr 0 _ rfl
   have d1 := hr 1 _ rfl
   have d2 := hr 2 _ rfl
   have d3 := hr 3 _ rfl
   have d4 := hr 4 _ rfl
   have d5 := hr 5 _ rfl
   have d6 := hr 6 _ rfl
   have d7 := hr 7 _ rfl
   obtain ⟨x, hx⟩ : ∃ x, okPt (f k) = x := ⟨_, rfl⟩
   have HK : Hid (Rd wr 0 (intsT (f k).q.ws) (.slice a1 (f k).q.ws.length c1) /\ Rd wr 0 (boolsT (f k).q.bs) (.slice a2 (f k).q.bs.length c2) /\ okPt (f k) = x /\ allN (fun i => okPt (f i)) k = true /\ Below w.heap.size w wr) := ⟨r1, r2, hx, hall, hbl⟩
   clear r1 r2 hx hall hbl hr
   go_wp2_with fail
   refine (partNo_any (f k) a1 c1 a2 c2 _ HK.out.1 HK.out.2.1 (HS.out.2 k hlt) x HK.out.2.2.1).mono ?_
   rintro e w1 ⟨rfl, b1⟩
   have B1 := bel_nx HK.out.2.2.2.2 b1
   clear b1 d0 d1 d2 d3 d4 d5 d6 d7
   cases x with
   | true =>
    have HF : Hid (allN (fun i => okPt (f i)) (k + 1) = true) := allN_succ HK.out.2.2.2.1 HK.out.2.2.1
    clear HK
    go_wp2
    go_roundw
    case rel => exact ⟨k + 1, by omega, by go_num, HF.out, B1⟩
    case measure => simp [intOf]; omega
   | false =>
    have HF : Hid (allN (fun i => okPt (f i)) n = false) := allN_no hlt HK.out.2.2.1
    clear HK
    go_wp2
    go_ret
    exact ⟨_, rfl, .inr ⟨by omega, HF.out⟩, B1⟩
  have hi : ¬ (k : Int) < (n : Int) := by omega
  have e9 : k = n := by omega
  subst e9
  have HF : Hid (allN (fun i => okPt (f i)) k = true) := hall
  clear hall
  go_wp2
  go_ret
  exact ⟨_, rfl, .inl ⟨rfl, HF.out⟩, hbl⟩
theorem containsNo_any (n : Nat) (f : Nat -> VP) (a : Option Addr) (c : Nat) (w : World) (hs : Rd w 0 (.list 8 n (fun i => trs (pT (f i)))) (.slice a n c)) (hn : n <= 2000000) (hb : ∀ i, i < n -> BdQ (f i).q) (x : Bool) (hx : allN (fun i => okPt (f i)) n = x) :
 Calls prog 234 #[.slice a n c, .func (.func 235) #[] #[]] w fun e w' => e = .returned (.bool (!x)) /\ Below w.heap.size w w' := by
 have HX : Hid (allN (fun i => okPt (f i)) n = x) := hx
 clear hx
 go_enter func234, ntmps234
 go_wp2_with fail
 refine (indexNo_any n f a c _ hs hn hb).mono ?_
 rintro e w1 ⟨r, rfl, hr, b1⟩
 have HR : Hid (IxP n f r) := hr
 clear hr
 cases x with
 | true =>
  have h0 : ¬ (0 <= r) := by
   rcases HR.out with h | h
   ·omega
   have := HX.out; rw [h.2] at this; cases this
  have HD : Hid (decide (0 <= r) = false) := decide_eq_false h0
  go_wp2
  go_ret
  exact ⟨by show Ending.returned (.bool (decide (0 <= r))) = _; rw [HD.out]; rfl, b1⟩
 | false =>
  have h0 : 0 <= r := by
   rcases HR.out with h | h
   ·have := HX.out; rw [h.2] at this; cases this
   exact h.1
  have HD : Hid (decide (0 <= r) = true) := decide_eq_true h0
  go_wp2
  go_ret
  exact ⟨rfl, b1⟩
theorem partsRight_any (D : VD) (g o : Nat) (w : World) (h : PdAt w g o D) (hb : BdD D) :
 Calls prog 201 #[.pointer (some ⟨g, o, none⟩)] w fun e w' => e = .returned (.bool (decide (1 <= D.np /\ D.np <= 8) && allN (fun i => okPt (D.pt i)) D.np)) /\ Below w.heap.size w w' := by
 obtain ⟨hg, a1, c1, a2, c2, a3, c3, a4, c4, a5, c5, hr, r1, r2, r3, r4, r5⟩ := h.cells
 obtain ⟨x0, hx0⟩ : ∃ x, inB (D.np : Int) 1 8 = x := ⟨_, rfl⟩
 obtain ⟨x1, hx1⟩ : ∃ x, allN (fun i => okPt (D.pt i)) D.np = x := ⟨_, rfl⟩
 have hx2 : decide (1 <= D.np /\ D.np <= 8) = x0 := by rw [<- hx0]; unfold inB; exact decide_eq_decide.2 (by omega)
 rw [hx2]
 have HX : Hid (inB (D.np : Int) 1 8 = x0 /\ allN (fun i => okPt (D.pt i)) D.np = x1 /\ Rd w 0 (.list 8 D.np (fun i => trs (pT (D.pt i)))) (.slice a3 D.np c3) /\ BdD D) := ⟨hx0, hx1, r3, hb⟩
 rw [hx1]
 have hn2 : D.np <= 2000000 := hb.2.1
 have y10 := hr 10 _ rfl
 clear hr r1 r2 r3 r4 r5 hx0 hx1 hx2 hb
 go_enter func201, ntmps201
 go_wp2_with fail
 refine (isCntT _ _ _ _ HX.out.1).mono ?_
 rintro e w1 ⟨rfl, hw⟩
 have hw := hw.symm
 subst hw
 cases x0
 case false =>
  go_wp2
  go_ret
  exact ⟨rfl, Below.refl _ _⟩
 go_wp2_with fail
 refine (containsNo_any D.np D.pt a3 c3 _ HX.out.2.2.1 hn2 HX.out.2.2.2.2.2.2.2.1 x1 HX.out.2.1).mono ?_
 rintro e w1 ⟨rfl, b1⟩
 clear y10
 cases x1
 case false =>
  go_wp2
  go_ret
  exact ⟨rfl, b1⟩
 go_wp2
 go_ret
 exact ⟨rfl, b1⟩
theorem waits_any (D : VD) (g o : Nat) (w : World) (h : PdAt w g o D) (hb : BdD D) :
 Calls prog 203 #[.pointer (some ⟨g, o, none⟩)] w fun e w' => e = .returned (.int .i64 (cntF D.hs D.hs.length : Int)) /\ w' = w := by
 obtain ⟨hg, a1, c1, a2, c2, a3, c3, a4, c4, a5, c5, hr, r1, r2, r3, r4, r5⟩ := h.cells
 obtain ⟨n, hn⟩ : ∃ n, n = D.hs.length := ⟨_, rfl⟩
 have y11 := hr 11 _ rfl
 rw [<- hn] at y11 r4 ⊢
 have HX : Hid (Rd w 0 (boolsT D.hs) (.slice a4 n c4) /\ n = D.hs.length) := ⟨r4, hn⟩
 have hn2 : n <= 2000000 := by rw [hn]; exact hb.2.2.1
 clear hr r1 r2 r3 r4 r5 hb hn
 go_enter func203, ntmps203
 go_wp2
 go_loopw [3, 11] (fun c i wr => ∃ k : Nat, k <= n /\ i = .int .i64 k /\ c = .int .i64 (cntF D.hs k : Int) /\ wr = w) (fun _ i _ => n - (intOf i).toNat)
 case atStart => exact ⟨0, Nat.zero_le _, rfl, rfl, rfl⟩
 case round =>
  obtain ⟨k, hk, rfl, rfl, hw⟩ := hrel
  subst hw
  have hc := cntF_le D.hs k
  obtain ⟨m, hm⟩ : ∃ m, m = cntF D.hs k := ⟨_, rfl⟩
  rw [<- hm] at hc ⊢
  have HM : Hid (m = cntF D.hs k) := hm
  clear hm
  by_cases hlt : k < n
  ·have hi : (k : Int) < (n : Int) := by omega
   obtain ⟨b, off, rfl, hb0, d0⟩ := HX.out.1.bit (k := k) (n := n) (by rw [<- HX.out.2]; exact hlt)
   obtain ⟨x, hx⟩ : ∃ x, D.hs.getD k false = x := ⟨_, rfl⟩
   rw [hx] at d0
   have HK : Hid (cntF D.hs (k + 1) = m + (if x then 0 else 1)) := by show cntF D.hs (k + 1) = _; simp only [cntF]; rw [hx, HM.out]
   clear hx
   cases x with
   | true =>
    go_wp2
    go_roundw
    case rel => exact ⟨k + 1, by omega, by go_num, by rw [HK.out]; rfl, trivial⟩
    case measure => simp [intOf]; omega
   | false =>
    go_wp2
    go_roundw
    case rel => exact ⟨k + 1, by omega, by go_num, by rw [HK.out]; go_num, trivial⟩
    case measure => simp [intOf]; omega
  have hi : ¬ (k : Int) < (n : Int) := by omega
  have e9 : k = n := by omega
  subst e9
  go_wp2
  go_ret
  exact ⟨by rw [HM.out]; rfl, rfl⟩
end Go.Proofs.YtplaoagcedgdfaaGreat
namespace Go.Proofs.YtplaoagcedgdfaaGreat
open Go.RowKit Go.Joins Go.ChangeMaps Go.Proofs.Tryz
theorem keyP_chk (e : Bool) (a b : Int) (w : World) : (Instr.checkKey e 10000 216 (peK a b)).run prog w = .ok () w := by
 have h9 : ∀ (z : Int), (Instr.checkKey e 9999 3 (.int .i64 z)).run prog w = .ok () w := fun z => MapKept.run_checkKey (k := .int .i64 z) underlying3 (show IntKind.i64 = IntKind.i64 from rfl) e 9998
 rw [show (10000 : Nat) = 9998 + 1 + 1 from rfl]
 unfold Instr.checkKey
 go_simp
theorem keyP : KeyP prog 216 := by
 refine ⟨⟨_, underlying216⟩, fun a b c d w => ?_, keyP_chk⟩
 have h : (Op.equal 216 (peK a b) (peK c d)).run prog w = .ok ((a == c) && (b == d)) w := by
  show (Op.equalIn 10000 216 (.agg #[.int .i64 a, .int .i64 b]) (.agg #[.int .i64 c, .int .i64 d])).run prog w = _
  go_simp
  cases h1 : (a == c) <;> cases h2 : (b == d) <;> simp_all
 have e : ((a == c) && (b == d)) = decide (a = c /\ b = d) := by
  by_cases h1 : a = c <;> by_cases h2 : b = d <;> simp [h1, h2]
 rw [<- e]
 exact h
def MapO (w0 w : World) (M : Nat) (O : List (Int × Int × VP)) : Prop :=
 ∃ (l : List (Int × Int × (VP × List Value × Nat))) (c : Nat), MapP w M l c /\ w0.heap.size <= M /\ l.map (fun e => (e.1, e.2.1, e.2.2.1)) = O /\ ∀ e ∈ l, e.2.2.2.1.length = 8 /\ RdL w0 0 (trs (pT e.2.2.1)) e.2.2.2.1
theorem MapO.below {w0 w w' : World} {M : Nat} {O : List (Int × Int × VP)} (h : MapO w0 w M O) (hb : Below w.heap.size w w') : MapO w0 w' M O := by
 obtain ⟨l, c, h1, h2⟩ := h
 exact ⟨l, c, h1.below hb, h2⟩
theorem MapO.lt {w0 w : World} {M : Nat} {O : List (Int × Int × VP)} (h : MapO w0 w M O) : w0.heap.size <= M /\ M < w.heap.size := by
 obtain ⟨l, c, h1, h2, _⟩ := h
 exact ⟨h2, h1.lt⟩
theorem MapO.ix {O : List (Int × Int × VP)} {l : List (Int × Int × (VP × List Value × Nat))} (h : l.map (fun e => (e.1, e.2.1, e.2.2.1)) = O) (x y : Int) : ixK x y O 0 = (ixK x y l 0).map (fun r => (r.1, r.2.1)) := by
 rw [<- h]
 exact ixK_map (fun a => a.1) x y l 0
theorem MapO.put {P : Program} {K : TypeId} {w0 w : World} {M : Nat} {O : List (Int × Int × VP)} {T E : TypeId} (h : MapO w0 w M O) (hK : KeyP P K) (hT : P.underlying T = some (.map K E)) (x y : Int) (p : VP) (vs : List Value) (hx : ixK x y O 0 = none) (hl : vs.length = 8) (hr : RdL w0 0 (trs (pT p)) vs) :
 ∃ w', (Instr.mapUpdate T (.map (some M)) (.agg #[.int .i64 x, .int .i64 y]) (.agg vs.toArray)).run P w = .ok () w' /\ MapO w0 w' M (O ++ [(x, y, p)]) /\ w.grownBy w' (some M) := by
 obtain ⟨l, c, h1, h2, h3, h4⟩ := h
 have hx' : ixK x y l 0 = none := by
  have := MapO.ix h3 x y
  rw [hx] at this
  cases e : ixK x y l 0 with
  | none => rfl
  | some r => rw [e] at this; cases this
 refine ⟨_, h1.put hT hK x y p vs hx', ⟨_, _, MapP.set h1.lt, h2, by rw [List.map_append, h3]; rfl, fun e he => ?_⟩, setBlock_grown w M _⟩
 rcases List.mem_append.1 he with he | he
 ·exact h4 e he
 obtain rfl := List.mem_singleton.1 he
 exact ⟨hl, hr⟩
theorem opN_none {X : VT} (h : allN (rowB X) X.m = true) {k j : Nat} (hk : k < X.m) : ixK (X.f k).id (j : Int) (opT X k ++ opN (X.f k) j) 0 = none := by
 rw [ixK_none]
 intro e he q
 rcases List.mem_append.1 he with he | he
 ·obtain ⟨k', hk', hm⟩ := mem_catL.1 he
  obtain ⟨i, _, _, rfl⟩ := mem_opN.1 hm
  have := rows_inc h (i := k') (j := k) hk' hk
  have := q.1
  simp only at this
  omega
 obtain ⟨i, hi, _, rfl⟩ := mem_opN.1 he
 have := q.2
 simp only at this
 omega
theorem partsOpen_any (X : VT) (a : Option Addr) (c : Nat) (w : World) (hs : Rd w 0 (.list 13 X.m (fun i => trs (dT (X.f i)))) (.slice a X.m c)) (hrow : allN (rowB X) X.m = true) (hm : X.m <= 16) :
 Calls prog 147 #[.agg (tL X a X.m c).toArray] w fun e w' => ∃ M, e = .returned (.map (some M)) /\ MapO w w' M (opT X X.m) /\ Below w.heap.size w w' := by
 have HS : Hid (Rd w 0 (.list 13 X.m (fun i => trs (dT (X.f i)))) (.slice a X.m c) /\ allN (rowB X) X.m = true) := ⟨hs, hrow⟩
 have hmm := @run_makeMap prog
 obtain ⟨W, hW⟩ : ∃ W, W = (w.alloc (.cells (tL X a X.m c).toArray 38)).alloc (.map #[] 0) := ⟨_, rfl⟩
 obtain ⟨M, hM⟩ : ∃ M, M = w.heap.size + 1 := ⟨_, rfl⟩
 obtain ⟨B, hB⟩ : ∃ B, B = w.heap.size := ⟨_, rfl⟩
 have G0 : Hid (MapO w W M (opT X 0) /\ Below w.heap.size w W) := by
  rw [hW, hM]
  have := MapP.new (α := VP) (w.alloc (.cells (tL X a X.m c).toArray 38))
  exact ⟨⟨[], 0, by simpa using this, by omega, rfl, fun e he => by cases he⟩, bel_nx (bel_alloc _ _) (bel_alloc _ _)⟩
 obtain ⟨⟨y0, y1⟩, yf⟩ := ((by rw [hW, hB]; exact (Blk.new _ _ _).below (bel_alloc _ _) : Blk W B 38 (tL X a X.m c).toArray)).tc2
 clear hs yf hrow
 go_enter func147, ntmps147
 go_upto_region 2 with fail
 rw [<- hW, <- hM, <- hB]
 clear hW hM hmm hB
 go_wp2
 clear y0 y1
 go_loopw [12] (fun i wr => ∃ (k : Nat), k <= X.m /\ i = .int .i64 k /\ MapO w wr M (opT X k) /\ Below w.heap.size w wr) (fun i _ => X.m - (intOf i).toNat)
 case atStart => exact ⟨0, Nat.zero_le _, rfl, G0.out⟩
 case round =>
  obtain ⟨k, hk, rfl, HH⟩ := hrel
  by_cases hlt : k < X.m
  ·have hi : (k : Int) < (X.m : Int) := by omega
   obtain ⟨b, off, vs, rfl, _, hb0, hlen, hr, hrd⟩ := HS.out.1.at hlt
   obtain ⟨a1, c1, a2, c2, a3, c3, a4, c4, a5, c5, rfl, r1, r2, r3, r4, r5⟩ := VD.cells hrd hlen
   have hr9 := rangeAt_below hr hb0 HH.2
   have d09 : wr.cell? ⟨b, off + k * 13, none⟩ = _ := hr9 0 _ rfl
   have d19 := hr9 1 _ rfl
   have d29 := hr9 2 _ rfl
   have d39 := hr9 3 _ rfl
   have d49 := hr9 4 _ rfl
   have d59 := hr9 5 _ rfl
   have d69 := hr9 6 _ rfl
   have d79 := hr9 7 _ rfl
   have d89 := hr9 8 _ rfl
   have d99 := hr9 9 _ rfl
   have d109 := hr9 10 _ rfl
   have d119 := hr9 11 _ rfl
   have d129 := hr9 12 _ rfl
   have hnp : (X.f k).hs.length = (X.f k).np := row_np HS.out.2 hlt
   have hn3 : (X.f k).hs.length <= 8 := row_le HS.out.2 hlt
   have HE : Hid (Rd w 0 (.list 8 (X.f k).np (fun i => trs (pT ((X.f k).pt i)))) (.slice a3 (X.f k).np c3) /\ Rd w 0 (boolsT (X.f k).hs) (.slice a4 (X.f k).hs.length c4) /\ (X.f k).hs.length = (X.f k).np) := ⟨r3, r4, hnp⟩
   obtain ⟨W5, hW5⟩ : ∃ W5, W5 = wr.alloc (.cells (dL (X.f k) a1 ((X.f k).q.ws.length) c1 a2 ((X.f k).q.bs.length) c2 a3 ((X.f k).np) c3 a4 ((X.f k).hs.length) c4 a5 ((X.f k).nt) c5).toArray 141) := ⟨_, rfl⟩
   obtain ⟨G, hG⟩ : ∃ G, G = wr.heap.size := ⟨_, rfl⟩
   have bW : Below wr.heap.size wr W5 := by rw [hW5]; exact bel_alloc _ _
   have HP : Hid (MapO w W5 M (opT X k ++ opN (X.f k) 0) /\ Blk W5 G 141 (dL (X.f k) a1 ((X.f k).q.ws.length) c1 a2 ((X.f k).q.bs.length) c2 a3 ((X.f k).np) c3 a4 ((X.f k).hs.length) c4 a5 ((X.f k).nt) c5).toArray /\ Below w.heap.size w W5) := ⟨by rw [show opN (X.f k) 0 = [] from rfl, List.append_nil]; exact HH.1.below bW, by rw [hW5, hG]; exact Blk.new _ _ _, bel_nx HH.2 bW⟩
   have HG : Hid (M ≠ G /\ w.heap.size <= M) := ⟨by have := HH.1.lt; omega, HH.1.lt.1⟩
   have z11 : W5.cell? ⟨G, 11, none⟩ = some (.slice a4 (X.f k).hs.length c4) := HP.out.2.1.rng 11 _ rfl
   clear HH hr hb0 r1 r2 r3 r4 r5 hlen hrd G0 bW hr9 hnp
   go_upto_region 5 with fail
   rw [<- hW5, <- hG]
   clear hW5 hG d09 d19 d29 d39 d49 d59 d69 d79 d89 d99 d109 d119 d129
   try go_simp
   go_wp2
   clear z11
   go_loopw [19] (fun i wr => ∃ (j : Nat), j <= (X.f k).hs.length /\ i = .int .i64 j /\ MapO w wr M (opT X k ++ opN (X.f k) j) /\ Blk wr G 141 (dL (X.f k) a1 ((X.f k).q.ws.length) c1 a2 ((X.f k).q.bs.length) c2 a3 ((X.f k).np) c3 a4 ((X.f k).hs.length) c4 a5 ((X.f k).nt) c5).toArray /\ Below w.heap.size w wr) (fun i _ => (X.f k).hs.length - (intOf i).toNat)
   case atStart => exact ⟨0, Nat.zero_le _, rfl, HP.out⟩
   case round =>
    obtain ⟨j, hj, rfl, HH⟩ := hrel
    clear HP
    by_cases hlj : j < (X.f k).hs.length
    ·have hi2 : (j : Int) < ((X.f k).hs.length : Int) := by omega
     have hi3 : (j : Int) < ((X.f k).np : Int) := by have := HE.out.2.2; omega
     obtain ⟨b4, o4, rfl, hb4, d0⟩ := (HE.out.2.1.below HH.2.2).bit (n := 0) (k := j) hlj
     obtain ⟨b3, o3, vs, rfl, _, hb3, hlen, hr3, hrd⟩ := HE.out.1.at (k := j) (by have := HE.out.2.2; omega)
     obtain ⟨p1, k1, p2, k2, rfl, rp1, rp2⟩ := VP.cells hrd hlen
     have HQ : Hid (b3 < wr.heap.size /\ wr.rangeAt b3 (o3 + j * 8) (pL ((X.f k).pt j) p1 ((X.f k).pt j).q.ws.length k1 p2 ((X.f k).pt j).q.bs.length k2) /\ RdL w 0 (trs (pT ((X.f k).pt j))) (pL ((X.f k).pt j) p1 ((X.f k).pt j).q.ws.length k1 p2 ((X.f k).pt j).q.bs.length k2) /\ ixK (X.f k).id (j : Int) (opT X k ++ opN (X.f k) j) 0 = none) := ⟨Nat.lt_of_lt_of_le hb3 HH.2.2.size, rangeAt_below hr3 hb3 HH.2.2, hrd, opN_none HS.out.2 hlt⟩
     clear hb4 hb3 hlen hr3 hrd rp1 rp2
     obtain ⟨x, hx⟩ : ∃ x, (X.f k).hs.getD j false = x := ⟨_, rfl⟩
     rw [hx] at d0
     have HB : Hid ((X.f k).hs.getD j false = x) := hx
     have HK : Hid (MapO w wr M (opT X k ++ opN (X.f k) j) /\ Blk wr G 141 (dL (X.f k) a1 ((X.f k).q.ws.length) c1 a2 ((X.f k).q.bs.length) c2 (some ⟨b3, o3, none⟩) ((X.f k).np) c3 (some ⟨b4, o4, none⟩) ((X.f k).hs.length) c4 a5 ((X.f k).nt) c5).toArray /\ Below w.heap.size w wr) := HH
     clear hx HH
     cases x with
     | true =>
      go_wp2
      go_roundw
      case rel => exact ⟨j + 1, by omega, by go_num, by rw [show opN (X.f k) (j + 1) = opN (X.f k) j from by rw [opN, HB.out]; simp]; exact HK.out.1, HK.out.2⟩
      case measure => simp [intOf]; omega
     | false =>
     go_upto_region 9 with fail
     clear d0
     try go_simp
     refine wp_region_any (by kernel_rfl) ?_
     refine wpAny_tl 10 (fun u => Below wr.heap.size wr u) (fun j' σ u => MapO w u M (opT X k ++ opN (X.f k) (j + 1)) /\ Blk u G 141 (dL (X.f k) a1 ((X.f k).q.ws.length) c1 a2 ((X.f k).q.bs.length) c2 (some ⟨b3, o3, none⟩) ((X.f k).np) c3 (some ⟨b4, o4, none⟩) ((X.f k).hs.length) c4 a5 ((X.f k).nt) c5).toArray /\ Below w.heap.size w u) (fun i v u => match i with
      | 0 => v = .map (some M)
      | 1 => v = .pointer (some ⟨G, 0, none⟩)
      | 2 => v = .int .i64 (X.f k).id
      | 3 => v = .int .i64 (j : Int)
      | 4 => v = .agg #[.int .i64 (X.f k).id, .int .i64 (j : Int)]
      | 5 => v = .pointer (some ⟨G, 10, none⟩)
      | 6 => v = .slice (some ⟨b3, o3, none⟩) ((X.f k).np) c3
      | 7 => v = .int .i64 (j : Int)
      | 8 => v = .pointer (some ⟨b3, o3 + j * 8, none⟩)
      | 9 => v = .agg (pL ((X.f k).pt j) p1 ((X.f k).pt j).q.ws.length k1 p2 ((X.f k).pt j).q.bs.length k2).toArray
      | _ => True) (by kernel_rfl) (by kernel_rfl) (by decide) (by kernel_rfl) (fun u u' h hb => bel_nx h hb) ?_ (by first | exact Below.refl _ _ | exact (Below.refl _ _).drew) ?_ ?_ ?_ ?_ _ _ rfl (by decide) (fun i => by simp [Array.getD]; try (split <;> rfl))
     ·intro i v u u' h hb
      match i, h with
      | 0, h => exact h
      | 1, h => exact h
      | 2, h => exact h
      | 3, h => exact h
      | 4, h => exact h
      | 5, h => exact h
      | 6, h => exact h
      | 7, h => exact h
      | 8, h => exact h
      | 9, h => exact h
      | _ + 10, _ => trivial
     rotate_left
     ·intro u i o ρ hi hR ho hρ hc hf hd
      obtain rfl | rfl | rfl | rfl | rfl | rfl | rfl | rfl | rfl | rfl : i = 0 \/ i = 1 \/ i = 2 \/ i = 3 \/ i = 4 \/ i = 5 \/ i = 6 \/ i = 7 \/ i = 8 \/ i = 9 := by omega
      all_goals (simp only [List.getElem?_toArray, List.getElem?_cons_zero, List.getElem?_cons_succ, Option.some.injEq] at ho; subst ho)
      ·have s3 : ρ (.tmp 3) = .map (some M) := (hρ 3 (by kernel_rfl)).trans rfl
       exact .inl ⟨rfl, .inl ⟨_, u, rfl, s3, Below.refl _ _⟩⟩
      ·have s5 : ρ (.tmp 5) = .pointer (some ⟨G, 0, none⟩) := (hρ 5 (by kernel_rfl)).trans rfl
       exact .inl ⟨rfl, .inl ⟨.pointer (some ⟨G, 0, none⟩), u, run_field_op rfl s5 (by go_simp), rfl, Below.refl _ _⟩⟩
      ·have h1 : ρ (.tmp 27) = .pointer (some ⟨G, 0, none⟩) := dq hd 1 27
       have y9 : u.cell? ⟨G, 0, none⟩ = some (.int .i64 (X.f k).id) := (HK.out.2.1.below hR).rng 0 _ rfl
       have hr : (Instr.loadAt 3 (.pointer (some ⟨G, 0, none⟩))).run prog u = .ok (.int .i64 (X.f k).id) u := by go_simp
       exact .inl ⟨rfl, .inl ⟨.int .i64 (X.f k).id, u, run_load_op rfl h1 hr, rfl, Below.refl _ _⟩⟩
      ·have s6 : ρ (.tmp 6) = .int .i64 (j : Int) := (hρ 6 (by kernel_rfl)).trans rfl
       exact .inl ⟨rfl, .inl ⟨_, u, rfl, s6, Below.refl _ _⟩⟩
      ·have h2 : ρ (.tmp 28) = .int .i64 (X.f k).id := dq hd 2 28
       have h3 : ρ (.tmp 29) = .int .i64 (j : Int) := dq hd 3 29
       exact .inl ⟨rfl, .inl ⟨_, u, run_bldz rfl (qs := #[(0, .int .i64 (X.f k).id), (1, .int .i64 (j : Int))]) (by simp [h2, h3]) (by kernel_rfl), rfl, Below.refl _ _⟩⟩
      ·have s5 : ρ (.tmp 5) = .pointer (some ⟨G, 0, none⟩) := (hρ 5 (by kernel_rfl)).trans rfl
       exact .inl ⟨rfl, .inl ⟨.pointer (some ⟨G, 10, none⟩), u, run_field_op rfl s5 (by go_simp), rfl, Below.refl _ _⟩⟩
      ·have h5 : ρ (.tmp 31) = .pointer (some ⟨G, 10, none⟩) := dq hd 5 31
       have y9 : u.cell? ⟨G, 10, none⟩ = some (.slice (some ⟨b3, o3, none⟩) ((X.f k).np) c3) := (HK.out.2.1.below hR).rng 10 _ rfl
       have hr : (Instr.loadAt 138 (.pointer (some ⟨G, 10, none⟩))).run prog u = .ok (.slice (some ⟨b3, o3, none⟩) ((X.f k).np) c3) u := by go_simp
       exact .inl ⟨rfl, .inl ⟨.slice (some ⟨b3, o3, none⟩) ((X.f k).np) c3, u, run_load_op rfl h5 hr, rfl, Below.refl _ _⟩⟩
      ·have s6 : ρ (.tmp 6) = .int .i64 (j : Int) := (hρ 6 (by kernel_rfl)).trans rfl
       exact .inl ⟨rfl, .inl ⟨_, u, rfl, s6, Below.refl _ _⟩⟩
      ·have h6 : ρ (.tmp 32) = .slice (some ⟨b3, o3, none⟩) ((X.f k).np) c3 := dq hd 6 32
       have h7 : ρ (.tmp 33) = .int .i64 (j : Int) := dq hd 7 33
       exact .inl ⟨rfl, .inl ⟨.pointer (some ⟨b3, o3 + j * 8, none⟩), u, run_index_op rfl h6 h7 (by go_simp), rfl, Below.refl _ _⟩⟩
      have h8 : ρ (.tmp 34) = .pointer (some ⟨b3, o3 + j * 8, none⟩) := dq hd 8 34
      have hr : (Instr.loadAt 144 (.pointer (some ⟨b3, o3 + j * 8, none⟩))).run prog u = .ok (.agg (pL ((X.f k).pt j) p1 ((X.f k).pt j).q.ws.length k1 p2 ((X.f k).pt j).q.bs.length k2).toArray) u := run_loadAt_mid u b3 (o3 + j * 8) 144 (pL ((X.f k).pt j) p1 ((X.f k).pt j).q.ws.length k1 p2 ((X.f k).pt j).q.bs.length k2) _ (rangeAt_below HQ.out.2.1 HQ.out.1 hR) underlying144 rfl (by kernel_rfl)
      exact .inl ⟨rfl, .inl ⟨.agg (pL ((X.f k).pt j) p1 ((X.f k).pt j).q.ws.length k1 p2 ((X.f k).pt j).q.bs.length k2).toArray, u, run_load_op rfl h8 hr, rfl, Below.refl _ _⟩⟩
     ·intro u o ρ hR ho hρ hc hf hv
      simp only [List.getElem?_toArray, List.getElem?_cons_zero, List.getElem?_cons_succ, Option.some.injEq] at ho
      subst ho
      have h0 : ρ (.tmp 26) = .map (some M) := hv 0 26 (by decide) rfl
      have h4 : ρ (.tmp 30) = .agg #[.int .i64 (X.f k).id, .int .i64 (j : Int)] := hv 4 30 (by decide) rfl
      have h9 : ρ (.tmp 35) = .agg (pL ((X.f k).pt j) p1 ((X.f k).pt j).q.ws.length k1 p2 ((X.f k).pt j).q.bs.length k2).toArray := hv 9 35 (by decide) rfl
      have bb := bel_nx HK.out.2.2 hR
      obtain ⟨w', hrun, hM, hg⟩ := (HK.out.1.below hR).put keyP underlying213 (X.f k).id (j : Int) ((X.f k).pt j) (pL ((X.f k).pt j) p1 ((X.f k).pt j).q.ws.length k1 p2 ((X.f k).pt j).q.bs.length k2) HQ.out.2.2.2 rfl HQ.out.2.2.1
      exact ⟨rfl, .inr (.inr ⟨rfl, w', run_mu_s rfl h0 h4 h9 hrun, (by rw [show opN (X.f k) (j + 1) = opN (X.f k) j ++ [((X.f k).id, (j : Int), (X.f k).pt j)] from by rw [opN, HB.out]; rfl, <- List.append_assoc]; exact hM), (HK.out.2.1.below hR).grown hg (fun e => HG.out.1 (Option.some.inj e)), bb.grown hg bb.size (fun j hj => by obtain rfl := Option.some.inj hj; exact HG.out.2)⟩)⟩
     ·intro u i o ρ hi ho hE hρ hc hf
      have hi2 : i + 1 < 11 := by
       have := (Array.getElem?_eq_some_iff.1 ho).1
       simpa using this
      omega
     intro vs σ u hE hvs
     have H2 : Hid (MapO w u M (opT X k ++ opN (X.f k) (j + 1)) /\ Blk u G 141 (dL (X.f k) a1 ((X.f k).q.ws.length) c1 a2 ((X.f k).q.bs.length) c2 (some ⟨b3, o3, none⟩) ((X.f k).np) c3 (some ⟨b4, o4, none⟩) ((X.f k).hs.length) c4 a5 ((X.f k).nt) c5).toArray /\ Below w.heap.size w u) := hE
     simp only [putsL]
     clear hvs hE HK HQ HB
     try go_simp
     go_wp2
     go_roundw
     case rel => exact ⟨j + 1, by omega, by go_num, H2.out⟩
     case measure => simp [intOf]; omega
    have hi2 : ¬ (j : Int) < ((X.f k).hs.length : Int) := by omega
    have e9 : j = (X.f k).hs.length := by omega
    have HK : Hid (MapO w wr M (opT X (k + 1)) /\ Below w.heap.size w wr) := ⟨by rw [e9] at HH; exact HH.1, HH.2.2⟩
    clear HH e9
    go_wp2
    go_roundw
    case rel => exact ⟨k + 1, by omega, by go_num, HK.out⟩
    case measure => simp [intOf]; omega
  have hi : ¬ (k : Int) < (X.m : Int) := by omega
  have e9 : k = X.m := by omega
  have HK : Hid (MapO w wr M (opT X X.m) /\ Below w.heap.size w wr) := by rw [<- e9]; exact HH
  clear HH G0 e9
  go_wp2
  go_ret
  exact ⟨M, rfl, HK.out⟩
def LkP (w : World) (M : Nat) (x y : Int) (v : Value) : Prop := (Instr.lookup 213 (.map (some M)) (.agg #[.int .i64 x, .int .i64 y]) true).run prog w = .ok v w
def DlP (w : World) (M : Nat) (x y : Int) (w' : World) : Prop := ∀ ty, (Builtin.delete_ #[213, 216] ty #[.map (some M), .agg #[.int .i64 x, .int .i64 y]]).run prog w = .ok (.tuple #[]) w'
theorem zeroPt (w : World) : (zeroValue 144).run prog w = .ok (.agg #[.int .i64 0, .int .i64 0, .int .i64 0, .int .i64 0, .int .i64 0, .slice none 0 0, .slice none 0 0, .int .i64 0]) w := by kernel_rfl
theorem MapO.lkN {w0 w : World} {M : Nat} {O : List (Int × Int × VP)} (h : MapO w0 w M O) {x y : Int} (hx : ixK x y O 0 = none) : LkP w M x y (.tuple #[.agg #[.int .i64 0, .int .i64 0, .int .i64 0, .int .i64 0, .int .i64 0, .slice none 0 0, .slice none 0 0, .int .i64 0], .bool false]) := by
 obtain ⟨l, c, h1, h2, h3, h4⟩ := h
 have h5 := MapO.ix h3 x y
 rw [hx] at h5
 have h6 := h1.look underlying213 keyP (zeroPt w) x y
 unfold LkP
 cases e : ixK x y l 0 with
 | none => rw [e] at h6; exact h6
 | some r => rw [e] at h5; cases h5
theorem MapO.lkS {w0 w : World} {M : Nat} {O : List (Int × Int × VP)} (h : MapO w0 w M O) {x y : Int} {r : Nat × VP} (hx : ixK x y O 0 = some r) : ∃ vs, vs.length = 8 /\ RdL w0 0 (trs (pT r.2)) vs /\ LkP w M x y (.tuple #[.agg vs.toArray, .bool true]) := by
 obtain ⟨l, c, h1, h2, h3, h4⟩ := h
 have h5 := MapO.ix h3 x y
 rw [hx] at h5
 have h6 := h1.look underlying213 keyP (zeroPt w) x y
 unfold LkP
 cases e : ixK x y l 0 with
 | none => rw [e] at h5; cases h5
 | some r' =>
  rw [e] at h5 h6
  obtain rfl := Option.some.inj h5
  obtain ⟨k, e', _, k2, _, _, k5⟩ := ixK_some e
  have h9 := h4 e' (List.mem_of_getElem? k2)
  rw [k5] at h9
  exact ⟨r'.2.2.1, h9.1, h9.2, h6⟩
theorem MapO.dl {w0 w : World} {M : Nat} {O : List (Int × Int × VP)} (h : MapO w0 w M O) {x y : Int} {r : Nat × VP} (hx : ixK x y O 0 = some r) : ∃ w', DlP w M x y w' /\ MapO w0 w' M (O.eraseIdx r.1) /\ w.grownBy w' (some M) := by
 obtain ⟨l, c, h1, h2, h3, h4⟩ := h
 have h5 := MapO.ix h3 x y
 rw [hx] at h5
 cases e : ixK x y l 0 with
 | none => rw [e] at h5; cases h5
 | some r' =>
  rw [e] at h5
  obtain rfl := Option.some.inj h5
  refine ⟨_, fun ty => h1.del (ty := ty) (A := #[213, 216]) rfl underlying213 keyP x y e, ⟨_, _, MapP.set h1.lt, h2, ?_, fun e' he => h4 e' (List.mem_of_mem_eraseIdx he)⟩, setBlock_grown w M _⟩
  rw [<- h3]
  exact (eraseIdx_map9 _ _ _).symm
theorem MapO.len {w0 w : World} {M : Nat} {O : List (Int × Int × VP)} (h : MapO w0 w M O) (ty : TypeId) : (Builtin.len_ #[213] ty #[.map (some M)]).run prog w = .ok (.int .i64 (O.length : Int)) w := by
 obtain ⟨l, c, h1, h2, h3, h4⟩ := h
 rw [<- h3, List.length_map]
 exact h1.len underlying213
theorem wpList_lkP {P : Program} {ops : Array Oper} {rest : List Oper} {o : Oper} {a : Act} {w : World} {Q : Exit -> Act -> World -> Prop} (hgd : o.guard = none) (m x : Operand) (t : TypeId) (hop : o.op = .lookup t m x true) (vm vk v : Value) (hm : a.eval m = vm) (hk : a.eval x = vk) (hr : (Instr.lookup t vm vk true).run P w = .ok v w) (h : wpList P ops Q rest (a.put o.dst v) w) : wpList P ops Q (o :: rest) a w := by
 refine wpList_plain hgd fun K hK => ?_
 unfold Oper.wp execOp
 simp only [hop, hm, hk]
 rw [Sem.run_bind, hr]
 exact hK _ _ h
theorem wpList_dlP {P : Program} {ops : Array Oper} {rest : List Oper} {o : Oper} {a : Act} {w w' : World} {Q : Exit -> Act -> World -> Prop} (hgd : o.guard = none) (m x : Operand) (A : Array TypeId) (hop : o.op = .call { callee := .builtin .delete, args := #[m, x], argTypes := A }) (vm vk v : Value) (hm : a.eval m = vm) (hk : a.eval x = vk) (hr : ∀ ty, (Builtin.delete_ A ty #[vm, vk]).run P w = .ok v w') (h : wpList P ops Q rest (a.put o.dst v) w') : wpList P ops Q (o :: rest) a w := by
 refine wpList_plain hgd fun K hK => ?_
 unfold Oper.wp execOp
 simp only [hop, resolve, invoke, builtin, Sem.run_bind, Sem.run_pure, Result.andThen_ok, List.map_toArray, List.map_cons, List.map_nil, hm, hk, hr]
 exact hK _ _ h
theorem wpList_lnP {P : Program} {ops : Array Oper} {rest : List Oper} {o : Oper} {a : Act} {w : World} {Q : Exit -> Act -> World -> Prop} (hgd : o.guard = none) (m : Operand) (t : TypeId) (hop : o.op = .call { callee := .builtin .len, args := #[m], argTypes := #[t] }) (vm v : Value) (hm : a.eval m = vm) (hr : ∀ ty, (Builtin.len_ #[t] ty #[vm]).run P w = .ok v w) (h : wpList P ops Q rest (a.put o.dst v) w) : wpList P ops Q (o :: rest) a w := by
 refine wpList_plain hgd fun K hK => ?_
 unfold Oper.wp execOp
 simp only [hop, resolve, invoke, builtin, Sem.run_bind, Sem.run_pure, Result.andThen_ok, List.map_toArray, List.map_cons, List.map_nil, hm, hr]
 exact hK _ _ h
def sufC (X : VF) (k i : Nat) : List (Int × Int × (VP -> Bool)) := ((lcV (X.lf k)).map (nmC k)).drop i ++ csV X.lf (k + 1) (X.nl - (k + 1))
theorem sufC_0 {X : VF} {k : Nat} (h : k < X.nl) : sufC X k 0 = csV X.lf k (X.nl - k) := by
 unfold sufC csV
 rw [show X.nl - k = (X.nl - (k + 1)) + 1 by omega]
 rfl
theorem sufC_end {X : VF} {k : Nat} : sufC X k (lcV (X.lf k)).length = csV X.lf (k + 1) (X.nl - (k + 1)) := by
 unfold sufC
 rw [List.drop_eq_nil_of_le (by simp), List.nil_append]
theorem sufC_s {X : VF} {k i : Nat} (h : i < (lcV (X.lf k)).length) : sufC X k i = nmC k (lcX (X.lf k) i) :: sufC X k (i + 1) := by
 unfold sufC
 rw [List.drop_eq_getElem_cons (by simpa using h), List.cons_append, List.getElem_map]
 congr 2
 unfold lcX
 rw [List.getD_eq_getElem?_getD, List.getElem?_eq_getElem h]
 rfl
theorem tkK_none {R : List (Int × Int × VP)} {c : Int × Int × (VP -> Bool)} {cs : List (Int × Int × (VP -> Bool))} (h : ixK c.1 c.2.1 R 0 = none) : tkK R (c :: cs) = false := by
 unfold tkK; rw [h]
theorem tkK_some {R : List (Int × Int × VP)} {c : Int × Int × (VP -> Bool)} {cs : List (Int × Int × (VP -> Bool))} {r : Nat × VP} (h : ixK c.1 c.2.1 R 0 = some r) : tkK R (c :: cs) = (c.2.2 r.2 && tkK (R.eraseIdx r.1) cs) := by
 conv => lhs; unfold tkK
 rw [h]
theorem lcX_bd {N : VN} (h : BdN N) {i : Nat} (hi : i < (lcV N).length) : BdQ (lcX N i).q := by
 unfold lcX
 rw [List.getD_eq_getElem?_getD]
 cases hb : N.bz with
 | true =>
  cases i with
  | zero => rw [lcV_0_busy hb]; exact ⟨h.2.2.1, h.2.2.2⟩
  | succ j =>
   rw [lcV_len, hb] at hi
   simp only [if_true] at hi
   rw [lcV_at_busy hb (by omega)]
   exact h.2.1 j (by omega)
 | false =>
  rw [lcV_len, hb] at hi
  simp only [Bool.false_eq_true, if_false] at hi
  rw [lcV_at_idle hb (by omega)]
  exact h.2.1 i (by omega)
theorem opT_bd {X : VT} (h : BdT X) (hrow : allN (rowB X) X.m = true) {n : Nat} (hn : n <= X.m) {e : Int × Int × VP} (he : e ∈ opT X n) : BdQ e.2.2.q := by
 obtain ⟨k, hk, hm⟩ := mem_catL.1 he
 obtain ⟨i, hi, _, rfl⟩ := mem_opN.1 hm
 rw [row_np hrow (by omega)] at hi
 exact (h.2 k (by omega)).2.2.2.2.1 i hi
theorem FbAt.ln {w w' : World} {g o k : Nat} {X : VF} (h : FbAt w g o X) (hk : k < X.nl) (hb : Below w.heap.size w w') {a : Option Addr} {n c : Nat} (hc : w'.cell? ⟨g, o + 6, none⟩ = some (.slice a n c)) : ∃ (g0 f0 : Nat) (cc : Nat) (ss : Unit), a = some ⟨g0, f0, none⟩ /\ True /\ True /\ True /\ True /\ True /\ LnAt w g0 (f0 + k * 17) (X.lf k) := by
 obtain ⟨a1, c1, a2, c2, a3, c3, ⟨y0, y1, y2, y3, y4, y5, y6, y7, y8, y9, y10⟩, r1, r2, r3⟩ := h.tc
 have e := (hb.cell (p := ⟨g, o + 6, none⟩) h.1).trans y6
 rw [hc] at e
 simp only [Option.some.injEq, Value.slice.injEq] at e
 obtain ⟨rfl, -, -⟩ := e
 obtain ⟨b, off, vs, rfl, _, hb0, hlen, hr, hrd⟩ := r3.at hk
 exact ⟨b, off, 0, (), rfl, trivial, trivial, trivial, trivial, trivial, hb0, vs, hlen, hr, hrd⟩
theorem callsRight_any (X : VF) (g o : Nat) (w : World) (h : FbAt w g o X) (hrow : allN (rowB X.op) X.op.m = true) (hm : X.op.m <= 16) (hn : X.nl <= 6) (hb : ∀ k, k < X.nl -> BdN (X.lf k)) (hbt : BdT X.op) (hq : ∀ k, k < X.nl -> (lcV (X.lf k)).length <= 41) :
 Calls prog 91 #[.pointer (some ⟨g, o, none⟩)] w fun e w' => e = .returned (.bool (callsB X)) /\ Below w.heap.size w w' := by
 have HP : Hid (FbAt w g o X /\ (∀ k, k < X.nl -> BdN (X.lf k)) /\ BdT X.op /\ allN (rowB X.op) X.op.m = true /\ (∀ k, k < X.nl -> (lcV (X.lf k)).length <= 41)) := ⟨h, hb, hbt, hrow, hq⟩
 obtain ⟨a1, c1, a2, c2, a3, c3, ⟨y0, y1, y2, y3, y4, y5, y6, y7, y8, y9, y10⟩, r1, r2, r3⟩ := h.tc
 have HR : Hid (Rd w 0 (.list 13 X.op.m (fun i => trs (dT (X.op.f i)))) (.slice a2 X.op.m c2)) := r2
 clear r1 r2 r3 h hb hbt hrow hq
 go_enter func91, ntmps91
 go_wp2_with fail
 refine (partsOpen_any X.op a2 c2 _ HR.out HP.out.2.2.2.1 hm).mono ?_
 rintro e w1 ⟨M, rfl, hM, b1⟩
 have G0 : Hid (MapO w w1 M (opT X.op X.op.m) /\ Below w.heap.size w w1) := ⟨hM, b1⟩
 clear hM b1 y0 y1 y2 y3 y4 y5 y6 y7 y8 y9 y10
 obtain ⟨f1, k1, f2, k2, f3, k3, ⟨y0, y1, y2, y3, y4, y5, y6, y7, y8, y9, y10⟩, r1, r2, r3⟩ := (HP.out.1.below G0.out.2).tc
 clear r1 r2 r3 HR
 go_wp2
 clear y0 y1 y2 y3 y4 y5 y6 y7 y8 y9 y10
 go_loopw [20] (fun i wr => ∃ (k : Nat) (R : List (Int × Int × VP)), k <= X.nl /\ i = .int .i64 k /\ MapO w wr M R /\ callsB X = tkK R (csV X.lf k (X.nl - k)) /\ (∀ e ∈ R, BdQ e.2.2.q) /\ Below w.heap.size w wr) (fun i _ => X.nl - (intOf i).toNat)
 case atStart => exact ⟨0, _, Nat.zero_le _, rfl, G0.out.1, rfl, fun e he => opT_bd HP.out.2.2.1 HP.out.2.2.2.1 (Nat.le_refl _) he, G0.out.2⟩
 case round =>
  clear G0
  obtain ⟨k, R, hk, rfl, HH⟩ := hrel
  obtain ⟨f1, k1, f2, k2, f3, k3, ⟨y0, y1, y2, y3, y4, y5, y6, y7, y8, y9, y10⟩, r1, r2, r3⟩ := (HP.out.1.below HH.2.2.2).tc
  clear r1 r2
  by_cases hlt : k < X.nl
  ·have hi : (k : Int) < (X.nl : Int) := by omega
   obtain ⟨g0, ff, cc, ss, hh1, hh2, hh3, hh4, hh5, hh6, hLn⟩ := FbAt.ln HP.out.1 hlt HH.2.2.2 y6
   subst hh1
   have HK : Hid (MapO w wr M R /\ callsB X = tkK R (sufC X k 0) /\ (∀ e ∈ R, BdQ e.2.2.q) /\ Below w.heap.size w wr /\ LnAt w g0 (ff + k * 17) (X.lf k)) := ⟨HH.1, by rw [sufC_0 hlt]; exact HH.2.1, HH.2.2.1, HH.2.2.2, hLn⟩
   clear HH r3 hLn hh2 hh3 hh4 hh5 hh6
   go_wp2_with fail
   refine (calls_any (X.lf k) g0 (ff + k * 17) w _ HK.out.2.2.2.1 HK.out.2.2.2.2 (HP.out.2.1 k hlt).1).mono ?_
   rintro e w2 ⟨v, rfl, hC, b2⟩
   obtain ⟨av, cv, rfl, hle, _⟩ := id hC
   have hq41 : (lcV (X.lf k)).length <= 41 := HP.out.2.2.2.2 k hlt
   have HS : Hid (MapO w w2 M R /\ callsB X = tkK R (sufC X k 0) /\ (∀ e ∈ R, BdQ e.2.2.q) /\ LsC w wr.heap.size w2 9 (.slice av (lcV (X.lf k)).length cv) (lcV (X.lf k)).length (fun i => xlT (lcX (X.lf k) i)) /\ Below w.heap.size w w2) := ⟨HK.out.1.below b2, HK.out.2.1, HK.out.2.2.1, hC, bel_nx HK.out.2.2.2.1 b2⟩
   have HM : Hid (w.heap.size <= M /\ M < wr.heap.size) := HK.out.1.lt
   clear hC b2 y0 y1 y2 y3 y4 y5 y6 y7 y8 y9 y10 HK
   obtain ⟨LO, hLO⟩ : ∃ n, n = wr.heap.size := ⟨_, rfl⟩
   rw [<- hLO] at HS HM
   clear hLO
   obtain ⟨nc, hnc⟩ : ∃ n, n = (lcV (X.lf k)).length := ⟨_, rfl⟩
   rw [<- hnc] at HS hq41 hle
   have HN : Hid (nc = (lcV (X.lf k)).length) := hnc
   rw [<- hnc]
   clear hnc
   go_wp2
   go_loopw [31] (fun i wr => ∃ (i' : Nat) (R : List (Int × Int × VP)), i' <= nc /\ i = .int .i64 i' /\ MapO w wr M R /\ callsB X = tkK R (sufC X k i') /\ (∀ e ∈ R, BdQ e.2.2.q) /\ LsC w LO wr 9 (.slice av nc cv) nc (fun i => xlT (lcX (X.lf k) i)) /\ Below w.heap.size w wr) (fun i _ => nc - (intOf i).toNat)
   case atStart => exact ⟨0, R, Nat.zero_le _, rfl, HS.out⟩
   case round =>
    clear HS
    obtain ⟨i, R, hk2, rfl, HH⟩ := hrel
    by_cases hlj : i < nc
    ·have hi2 : (i : Int) < (nc : Int) := by omega
     obtain ⟨g1, o1, vs, rfl, hg1, hvl, hr, hrd⟩ := HH.2.2.2.1.at hlj
     obtain ⟨e1, k1, e2, k2, rfl, q1, q2⟩ := VL.cells hrd hvl
     have HQ : Hid (RdL w 0 (trs (xlT (lcX (X.lf k) i))) (xlL (lcX (X.lf k) i) e1 (lcX (X.lf k) i).q.ws.length k1 e2 (lcX (X.lf k) i).q.bs.length k2) /\ BdQ (lcX (X.lf k) i).q) := ⟨hrd, lcX_bd (HP.out.2.1 k hlt) (by have := HN.out; omega)⟩
     have HK : Hid (_) := HH
     have d09 : wr.cell? ⟨g1, o1 + i * 9, none⟩ = _ := hr 0 _ rfl
     have d19 := hr 1 _ rfl
     have d29 := hr 2 _ rfl
     have d39 := hr 3 _ rfl
     have d49 := hr 4 _ rfl
     have d59 := hr 5 _ rfl
     have d69 := hr 6 _ rfl
     have d79 := hr 7 _ rfl
     have d89 := hr 8 _ rfl
     obtain ⟨W1, hW1⟩ : ∃ W, W = wr.alloc (.cells (xlL (lcX (X.lf k) i) e1 (lcX (X.lf k) i).q.ws.length k1 e2 (lcX (X.lf k) i).q.bs.length k2).toArray 86) := ⟨_, rfl⟩
     obtain ⟨G1, hG1⟩ : ∃ G, G = wr.heap.size := ⟨_, rfl⟩
     obtain ⟨W2, hW2⟩ : ∃ W, W = W1.alloc (.cells #[.int .i64 (lcX (X.lf k) i).id, .int .i64 (lcX (X.lf k) i).pa] 216) := ⟨_, rfl⟩
     obtain ⟨G2, hG2⟩ : ∃ G, G = W1.heap.size := ⟨_, rfl⟩
     have bW1 : Below wr.heap.size wr W1 := by rw [hW1]; exact bel_alloc _ _
     have bW2 : Below W1.heap.size W1 W2 := by rw [hW2]; exact bel_alloc _ _
     have HW : Hid (Blk W1 G1 86 (xlL (lcX (X.lf k) i) e1 (lcX (X.lf k) i).q.ws.length k1 e2 (lcX (X.lf k) i).q.bs.length k2).toArray /\ Blk W2 G1 86 (xlL (lcX (X.lf k) i) e1 (lcX (X.lf k) i).q.ws.length k1 e2 (lcX (X.lf k) i).q.bs.length k2).toArray /\ Blk W2 G2 216 #[.int .i64 (lcX (X.lf k) i).id, .int .i64 (lcX (X.lf k) i).pa] /\ Below wr.heap.size wr W2) := by
      have q : Blk W1 G1 86 (xlL (lcX (X.lf k) i) e1 (lcX (X.lf k) i).q.ws.length k1 e2 (lcX (X.lf k) i).q.bs.length k2).toArray := by rw [hW1, hG1]; exact Blk.new _ _ _
      exact ⟨q, q.below bW2, by rw [hW2, hG2]; exact Blk.new _ _ _, bel_nx bW1 bW2⟩
     clear HH hg1 hvl hr hrd q1 q2 bW1 bW2
     go_upto_region 8 with fail
     rw [<- hW1, <- hG1]
     clear d09 d19 d29 d39 d49 d59 d69 d79 d89
     have d0 : W1.cell? ⟨G1, 0, none⟩ = some (.int .i64 (lcX (X.lf k) i).id) := HW.out.1.cell 0 rfl
     have d1 : W1.cell? ⟨G1, 1, none⟩ = some (.int .i64 (lcX (X.lf k) i).pa) := HW.out.1.cell 1 rfl
     clear hW1 hG1
     try go_simp
     go_upto_region 9 with fail
     rw [<- hW2, <- hG2]
     clear d0 d1 hW2 hG2
     have d0 : W2.cell? ⟨G2, 0, none⟩ = some (.int .i64 (lcX (X.lf k) i).id) := HW.out.2.2.1.cell 0 rfl
     have d1 : W2.cell? ⟨G2, 1, none⟩ = some (.int .i64 (lcX (X.lf k) i).pa) := HW.out.2.2.1.cell 1 rfl
     have HM2 : Hid (MapO w W2 M R /\ sufC X k i = nmC k (lcX (X.lf k) i) :: sufC X k (i + 1)) := ⟨HK.out.1.below HW.out.2.2.2, sufC_s (by have := HN.out; omega)⟩
     cases hx : ixK (lcX (X.lf k) i).id (lcX (X.lf k) i).pa R 0 with
     | none =>
      have HL := HM2.out.1.lkN hx
      have HF : Hid (callsB X = false /\ Below w.heap.size w W2) := ⟨by rw [HK.out.2.1, HM2.out.2]; exact tkK_none hx, bel_nx HK.out.2.2.2.2 HW.out.2.2.2⟩
      clear hx
      go_upto_region 10 with (first | (at_lookup; refine wpList_lkP rfl _ _ _ rfl _ _ _ rfl rfl HL ?_))
      clear d0 d1
      go_wp2
      go_ret
      exact ⟨by rw [HF.out.1]; rfl, bel_nx HF.out.2 (bel_alloc _ _)⟩
     | some r =>
      obtain ⟨ri, p⟩ := r
      obtain ⟨vs, hvl, hrd, HL⟩ := HM2.out.1.lkS hx
      obtain ⟨b1, d1', b2, d2', rfl, q1, q2⟩ := VP.cells hrd hvl
      have hmem : BdQ p.q := by
       obtain ⟨k9, e9, _, m2, _, _, m5⟩ := ixK_some hx
       have := HK.out.2.2.1 e9 (List.mem_of_getElem? m2)
       rw [m5] at this
       exact this
      obtain ⟨W3, hW3⟩ : ∃ W, W = W2.alloc (.cells (pL p b1 p.q.ws.length d1' b2 p.q.bs.length d2').toArray 144) := ⟨_, rfl⟩
      obtain ⟨G3, hG3⟩ : ∃ G, G = W2.heap.size := ⟨_, rfl⟩
      have bW3 : Below W2.heap.size W2 W3 := by rw [hW3]; exact bel_alloc _ _
      have HX : Hid (ixK (lcX (X.lf k) i).id (lcX (X.lf k) i).pa R 0 = some (ri, p)) := hx
      have HV : Hid (Blk W3 G1 86 (xlL (lcX (X.lf k) i) e1 (lcX (X.lf k) i).q.ws.length k1 e2 (lcX (X.lf k) i).q.bs.length k2).toArray /\ Blk W3 G2 216 #[.int .i64 (lcX (X.lf k) i).id, .int .i64 (lcX (X.lf k) i).pa] /\ Blk W3 G3 144 (pL p b1 p.q.ws.length d1' b2 p.q.bs.length d2').toArray /\ Below w.heap.size w W3 /\ Below wr.heap.size wr W3 /\ Rd w 0 (intsT p.q.ws) (.slice b1 p.q.ws.length d1') /\ Rd w 0 (boolsT p.q.bs) (.slice b2 p.q.bs.length d2') /\ BdQ p.q) :=
       ⟨HW.out.2.1.below bW3, HW.out.2.2.1.below bW3, by rw [hW3, hG3]; exact Blk.new _ _ _, bel_nx (bel_nx HK.out.2.2.2.2 HW.out.2.2.2) bW3, bel_nx HW.out.2.2.2 bW3, q1, q2, hmem⟩
      clear hvl hrd q1 q2 hmem bW3 hx
      go_upto_region 10 with (first | (at_lookup; refine wpList_lkP rfl _ _ _ rfl _ _ _ rfl rfl HL ?_))
      rw [<- hW3, <- hG3]
      clear d0 d1 hW3 hG3 HL HW
      try go_simp
      have z0 : W3.cell? ⟨G3, 0, none⟩ = _ := HV.out.2.2.1.cell 0 rfl
      have z1 : W3.cell? ⟨G3, 1, none⟩ = _ := HV.out.2.2.1.cell 1 rfl
      have z2 : W3.cell? ⟨G3, 2, none⟩ = _ := HV.out.2.2.1.cell 2 rfl
      have z3 : W3.cell? ⟨G3, 3, none⟩ = _ := HV.out.2.2.1.cell 3 rfl
      have z4 : W3.cell? ⟨G3, 4, none⟩ = _ := HV.out.2.2.1.cell 4 rfl
      have z5 : W3.cell? ⟨G3, 5, none⟩ = _ := HV.out.2.2.1.cell 5 rfl
      have z6 : W3.cell? ⟨G3, 6, none⟩ = _ := HV.out.2.2.1.cell 6 rfl
      have z7 : W3.cell? ⟨G3, 7, none⟩ = _ := HV.out.2.2.1.cell 7 rfl
      go_wp2_with fail
      refine (isOf_any (lcX (X.lf k) i) p k G1 0 b1 d1' b2 d2' _ ⟨HV.out.1.lt, _, rfl, HV.out.1.rng, HQ.out.1.below HV.out.2.2.2.1⟩ (HV.out.2.2.2.2.2.1.below HV.out.2.2.2.1) (HV.out.2.2.2.2.2.2.1.below HV.out.2.2.2.1) HV.out.2.2.2.2.2.2.2 HQ.out.2).mono ?_
      rintro e w4 ⟨rfl, b4⟩
      obtain ⟨x, hxx⟩ : ∃ x, fitP k (lcX (X.lf k) i) p = x := ⟨_, rfl⟩
      rw [hxx]
      have HT : Hid (callsB X = (x && tkK (R.eraseIdx ri) (sufC X k (i + 1)))) := by
       rw [HK.out.2.1, HM2.out.2, tkK_some (r := (ri, p)) HX.out, <- hxx]
       rfl
      have B4 : Hid (Below w.heap.size w w4 /\ Below wr.heap.size wr w4 /\ Blk w4 G2 216 #[.int .i64 (lcX (X.lf k) i).id, .int .i64 (lcX (X.lf k) i).pa]) := ⟨bel_nx HV.out.2.2.2.1 b4, bel_nx HV.out.2.2.2.2.1 b4, HV.out.2.1.below b4⟩
      clear b4 hxx z0 z1 z2 z3 z4 z5 z6 z7
      cases x
      case false =>
       go_wp2
       go_ret
       exact ⟨by rw [HT.out]; rfl, B4.out.1⟩
      have d0 : w4.cell? ⟨G2, 0, none⟩ = some (.int .i64 (lcX (X.lf k) i).id) := B4.out.2.2.cell 0 rfl
      have d1 : w4.cell? ⟨G2, 1, none⟩ = some (.int .i64 (lcX (X.lf k) i).pa) := B4.out.2.2.cell 1 rfl
      obtain ⟨w5, HD, hM5, hg5⟩ := (HK.out.1.below B4.out.2.1).dl HX.out
      have H5 : Hid (MapO w w5 M (R.eraseIdx ri) /\ callsB X = tkK (R.eraseIdx ri) (sufC X k (i + 1)) /\ (∀ e ∈ R.eraseIdx ri, BdQ e.2.2.q) /\ LsC w LO w5 9 (.slice (some ⟨g1, o1, none⟩) nc cv) nc (fun i => xlT (lcX (X.lf k) i)) /\ Below w.heap.size w w5) :=
       ⟨hM5, by rw [HT.out, Bool.true_and], fun e he => HK.out.2.2.1 e (List.mem_of_mem_eraseIdx he), (HK.out.2.2.2.1.below B4.out.2.1).kept hg5 (fun j hj => by obtain rfl := Option.some.inj hj; exact HM.out), B4.out.1.grown hg5 B4.out.1.size (fun j hj => by obtain rfl := Option.some.inj hj; exact HM.out.1)⟩
      clear hM5 hg5
      go_wp2_with (first | (at_delete; refine wpList_dlP rfl _ _ _ rfl _ _ _ rfl rfl HD ?_))
      go_roundw
      case rel => exact ⟨i + 1, R.eraseIdx ri, by omega, by go_num, H5.out⟩
      case measure => simp [intOf]; omega
    have hi2 : ¬ (i : Int) < (nc : Int) := by omega
    have e9 : i = (lcV (X.lf k)).length := by have := HN.out; omega
    have HK : Hid (MapO w wr M R /\ callsB X = tkK R (csV X.lf (k + 1) (X.nl - (k + 1))) /\ (∀ e ∈ R, BdQ e.2.2.q) /\ Below w.heap.size w wr) := ⟨HH.1, by rw [HH.2.1, e9, sufC_end], HH.2.2.1, HH.2.2.2.2⟩
    clear HH e9
    go_wp2
    go_roundw
    case rel => exact ⟨k + 1, R, by omega, by go_num, HK.out⟩
    case measure => simp [intOf]; omega
  have hi : ¬ (k : Int) < (X.nl : Int) := by omega
  have e9 : X.nl - k = 0 := by omega
  have HK : Hid (MapO w wr M R /\ callsB X = R.isEmpty /\ Below w.heap.size w wr) := ⟨HH.1, by rw [HH.2.1, e9]; rfl, HH.2.2.2⟩
  have hR : R.length <= 1000 \/ 1000 < R.length := by omega
  clear HH e9 r3 hR
  obtain ⟨nr, hnr⟩ : ∃ n, n = R.length := ⟨_, rfl⟩
  have HL := HK.out.1.len
  rw [<- hnr] at HL
  have HE : Hid (callsB X = (nr == 0)) := by rw [HK.out.2.1, hnr]; cases R <;> rfl
  clear hnr
  cases nr with
  | zero =>
   go_wp2_with (first | (at_len; refine wpList_lnP rfl _ _ rfl _ _ rfl HL ?_))
   go_ret
   exact ⟨by rw [HE.out]; rfl, HK.out.2.2⟩
  | succ n =>
   have h0 : ((n : Int) + 1 == 0) = false := by simp; omega
   have HE' : Hid (callsB X = false) := HE.out
   go_wp2_with (first | (at_len; refine wpList_lnP rfl _ _ rfl _ _ rfl HL ?_))
   go_ret
   exact ⟨by rw [HE'.out]; first | rfl | simp [h0] | (simp; omega), HK.out.2.2⟩
end Go.Proofs.YtplaoagcedgdfaaGreat
namespace Go.Proofs.YtplaoagcedgdfaaGreat
open Go.Proofs.Tryz
def ltR (a b : Ru) : Prop := a.u < b.u \/ (a.u = b.u /\ (a.s < b.s \/ (a.s = b.s /\ a.lo < b.lo)))
instance (a b : Ru) : Decidable (ltR a b) := by unfold ltR; infer_instance
def leR (a b : Ru) : Prop := ¬ ltR b a
theorem leR.trans {a b c : Ru} (h : leR a b) (h' : leR b c) : leR a c := by unfold leR ltR at *; omega
theorem leR.refl (a : Ru) : leR a a := by unfold leR ltR; omega
theorem ltR.le {a b : Ru} (h : ltR a b) : leR a b := by unfold leR; unfold ltR at *; omega
def SortedOn (f : Nat -> Ru) (a b : Nat) : Prop := ∀ i j, a <= i -> i < j -> j < b -> leR (f i) (f j)
theorem SortedOn.le {f : Nat -> Ru} {a b i j : Nat} (h : SortedOn f a b) (h1 : a <= i) (h2 : i <= j) (h3 : j < b) : leR (f i) (f j) := by
 by_cases e : i = j
 ·subst e; exact leR.refl _
 exact h i j h1 (by omega) h3
def PermIn (a b : Nat) (f g : Nat -> Ru) : Prop :=
 ∃ σ τ : Nat -> Nat, (∀ k, (k < a \/ b <= k) -> σ k = k /\ τ k = k) /\ (∀ k, a <= k -> k < b -> a <= σ k /\ σ k < b /\ a <= τ k /\ τ k < b) /\ (∀ k, τ (σ k) = k /\ σ (τ k) = k) /\ ∀ k, g k = f (σ k)
theorem PermIn.refl (a b : Nat) (f : Nat -> Ru) : PermIn a b f f := ⟨id, id, fun _ _ => ⟨rfl, rfl⟩, fun _ h1 h2 => ⟨h1, h2, h1, h2⟩, fun _ => ⟨rfl, rfl⟩, fun _ => rfl⟩
theorem PermIn.trans {a b : Nat} {f g h : Nat -> Ru} (p : PermIn a b f g) (q : PermIn a b g h) : PermIn a b f h := by
 obtain ⟨σ, τ, h1, h2, h3, h4⟩ := p
 obtain ⟨σ', τ', g1, g2, g3, g4⟩ := q
 refine ⟨fun k => σ (σ' k), fun k => τ' (τ k), fun k hk => ?_, fun k ha hb => ?_, fun k => ⟨?_, ?_⟩, fun k => by rw [g4, h4]⟩
 ·have e1 := g1 k hk
  have e2 := h1 k hk
  simp only
  rw [e1.1, e2.2, e2.1, e1.2]
  exact ⟨rfl, rfl⟩
 ·have e1 := g2 k ha hb
  have e2 := h2 k ha hb
  have e3 := h2 (σ' k) e1.1 e1.2.1
  have e4 := g2 (τ k) e2.2.2.1 e2.2.2.2
  exact ⟨e3.1, e3.2.1, e4.2.2.1, e4.2.2.2⟩
 ·simp only; rw [(h3 _).1, (g3 _).1]
 simp only; rw [(g3 _).2, (h3 _).2]
theorem PermIn.mono {a b a' b' : Nat} {f g : Nat -> Ru} (p : PermIn a b f g) (h1 : a' <= a) (h2 : b <= b') : PermIn a' b' f g := by
 obtain ⟨σ, τ, p1, p2, p3, p4⟩ := p
 refine ⟨σ, τ, fun k hk => p1 k (by omega), fun k ha hb => ?_, p3, p4⟩
 by_cases e : a <= k /\ k < b
 ·have := p2 k e.1 e.2
  omega
 have := p1 k (by omega)
 omega
theorem PermIn.out {a b : Nat} {f g : Nat -> Ru} (p : PermIn a b f g) {k : Nat} (h : k < a \/ b <= k) : g k = f k := by
 obtain ⟨σ, τ, p1, _, _, p4⟩ := p
 rw [p4, (p1 k h).1]
theorem PermIn.from' {a b : Nat} {f g : Nat -> Ru} (p : PermIn a b f g) {k : Nat} (h1 : a <= k) (h2 : k < b) : ∃ j, a <= j /\ j < b /\ g k = f j := by
 obtain ⟨σ, τ, _, p2, _, p4⟩ := p
 exact ⟨σ k, (p2 k h1 h2).1, (p2 k h1 h2).2.1, p4 k⟩
def swI (i j k : Nat) : Nat := if k = i then j else if k = j then i else k
theorem swI_inv (i j k : Nat) : swI i j (swI i j k) = k := by unfold swI; split <;> split <;> (try split) <;> omega
theorem PermIn.swap {a b i j : Nat} (f : Nat -> Ru) (h1 : a <= i) (h2 : i < b) (h3 : a <= j) (h4 : j < b) : PermIn a b f (fun k => f (swI i j k)) := by
 refine ⟨swI i j, swI i j, fun k hk => ?_, fun k ha hb => ?_, fun k => ⟨swI_inv i j k, swI_inv i j k⟩, fun k => rfl⟩
 ·have : swI i j k = k := by unfold swI; rw [if_neg (by omega), if_neg (by omega)]
  exact ⟨this, this⟩
 have : a <= swI i j k /\ swI i j k < b := by unfold swI; split <;> (try split) <;> omega
 exact ⟨this.1, this.2, this.1, this.2⟩
def InsI (h : Nat -> Ru) (a i j : Nat) : Prop :=
 (∀ p q, a <= p -> p < q -> q <= i -> p ≠ j -> q ≠ j -> leR (h p) (h q)) /\ (∀ q, j < q -> q <= i -> leR (h j) (h q))
theorem InsI.start {h : Nat -> Ru} {a i : Nat} (hs : SortedOn h a i) : InsI h a i i :=
 ⟨fun p q h1 h2 h3 _ h5 => hs p q h1 h2 (by omega), fun q h1 h2 => by omega⟩
theorem InsI.step {h : Nat -> Ru} {a i j : Nat} (H : InsI h a i j) (hj : a < j) (hi : j <= i) (hlt : ltR (h j) (h (j - 1))) : InsI (fun k => h (swI j (j - 1) k)) a i (j - 1) := by
 obtain ⟨H1, H2⟩ := H
 have ej : swI j (j - 1) j = j - 1 := by simp [swI]
 have ej' : swI j (j - 1) (j - 1) = j := by unfold swI; rw [if_neg (by omega), if_pos rfl]
 have eo : ∀ k, k ≠ j -> k ≠ j - 1 -> swI j (j - 1) k = k := fun k h1 h2 => by unfold swI; rw [if_neg h1, if_neg h2]
 refine ⟨fun p q h1 h2 h3 h4 h5 => ?_, fun q h1 h2 => ?_⟩
 ·show leR (h (swI j (j - 1) p)) (h (swI j (j - 1) q))
  by_cases ep : p = j
  ·subst ep
   rw [ej, eo q (by omega) h5]
   exact H1 (p - 1) q (by omega) (by omega) h3 (by omega) (by omega)
  rw [eo p ep h4]
  by_cases eq : q = j
  ·subst eq
   rw [ej]
   exact H1 p (q - 1) h1 (by omega) (by omega) ep (by omega)
  rw [eo q eq h5]
  exact H1 p q h1 h2 h3 ep eq
 show leR (h (swI j (j - 1) (j - 1))) (h (swI j (j - 1) q))
 rw [ej']
 by_cases eq : q = j
 ·subst eq
  rw [ej]
  exact hlt.le
 rw [eo q eq (by omega)]
 exact H2 q (by omega) h2
theorem InsI.fin {h : Nat -> Ru} {a i j : Nat} (H : InsI h a i j) (hi : j <= i) (hx : j <= a \/ ¬ ltR (h j) (h (j - 1))) : SortedOn h a (i + 1) := by
 obtain ⟨H1, H2⟩ := H
 intro p q h1 h2 h3
 by_cases ep : p = j
 ·subst ep; exact H2 q h2 (by omega)
 by_cases eq : q = j
 ·subst eq
  rcases hx with hx | hx
  ·omega
  have e1 : leR (h (q - 1)) (h q) := hx
  by_cases e2 : p = q - 1
  ·subst e2; exact e1
  exact (H1 p (q - 1) h1 (by omega) (by omega) ep (by omega)).trans e1
 exact H1 p q h1 h2 (by omega) ep eq
end Go.Proofs.YtplaoagcedgdfaaGreat
namespace Go.Proofs.YtplaoagcedgdfaaGreat
open Go.RowKit Go.Proofs.Tryz
def cmpI (x y : Int) : Int := if x < y then -1 else if y < x then 1 else 0
theorem isNaN_any (x : Int) (w : World) : Calls prog 246 #[.int .i64 x] w fun e w' => e = .returned (.bool false) /\ w' = w := by
 go_enter func246, ntmps246
 go_wp2
 go_ret
 exact ⟨rfl, rfl⟩
theorem compare_any (x y : Int) (w : World) : Calls prog 219 #[.int .i64 x, .int .i64 y] w fun e w' => e = .returned (.int .i64 (cmpI x y)) /\ w' = w := by
 unfold cmpI
 by_cases h : x < y
 ·rw [if_pos h]
  go_enter func219, ntmps219
  go_wp2_with fail
  refine (isNaN_any x _).mono ?_
  rintro e w1 ⟨rfl, rfl⟩
  go_wp2_with fail
  refine (isNaN_any y _).mono ?_
  rintro e w2 ⟨rfl, rfl⟩
  go_wp2
  go_ret
  exact ⟨rfl, rfl⟩
 rw [if_neg h]
 by_cases h' : y < x
 ·rw [if_pos h']
  go_enter func219, ntmps219
  go_wp2_with fail
  refine (isNaN_any x _).mono ?_
  rintro e w1 ⟨rfl, rfl⟩
  go_wp2_with fail
  refine (isNaN_any y _).mono ?_
  rintro e w2 ⟨rfl, rfl⟩
  go_wp2
  go_ret
  exact ⟨rfl, rfl⟩
 rw [if_neg h']
 go_enter func219, ntmps219
 go_wp2_with fail
 refine (isNaN_any x _).mono ?_
 rintro e w1 ⟨rfl, rfl⟩
 go_wp2_with fail
 refine (isNaN_any y _).mono ?_
 rintro e w2 ⟨rfl, rfl⟩
 go_wp2
 go_ret
 exact ⟨rfl, rfl⟩
def orI (x y z : Int) : Int := if x ≠ 0 then x else if y ≠ 0 then y else z
theorem or_any (g : Nat) (x y z : Int) (w : World) (h0 : w.cell? ⟨g, 0, none⟩ = some (.int .i64 x)) (h1 : w.cell? ⟨g, 1, none⟩ = some (.int .i64 y)) (h2 : w.cell? ⟨g, 2, none⟩ = some (.int .i64 z)) :
 Calls prog 218 #[.slice (some ⟨g, 0, none⟩) 3 3] w fun e w' => e = .returned (.int .i64 (orI x y z)) /\ w' = w := by
 unfold orI
 by_cases e0 : x = 0
 ·rw [if_neg (by omega)]
  by_cases e1 : y = 0
  ·rw [if_neg (by omega)]
   by_cases e2 : z = 0
   ·subst e2
    go_enter func218, ntmps218
    go_wp2
    refine wp_loop_rounds 4 ?_
    rw [rounds_succ]
    go_wp2
    rw [rounds_succ]
    go_wp2
    rw [rounds_succ]
    go_wp2
    rw [rounds_succ]
    go_wp2
    go_ret
    exact ⟨rfl, rfl⟩
   go_enter func218, ntmps218
   go_wp2
   refine wp_loop_rounds 4 ?_
   rw [rounds_succ]
   go_wp2
   rw [rounds_succ]
   go_wp2
   rw [rounds_succ]
   go_wp2
   go_ret
   exact ⟨rfl, rfl⟩
  rw [if_pos e1]
  go_enter func218, ntmps218
  go_wp2
  refine wp_loop_rounds 4 ?_
  rw [rounds_succ]
  go_wp2
  rw [rounds_succ]
  go_wp2
  go_ret
  exact ⟨rfl, rfl⟩
 rw [if_pos e0]
 go_enter func218, ntmps218
 go_wp2
 refine wp_loop_rounds 4 ?_
 rw [rounds_succ]
 go_wp2
 go_ret
 exact ⟨rfl, rfl⟩
def cmpR (a b : Ru) : Int := orI (cmpI a.u b.u) (cmpI a.s b.s) (cmpI a.lo b.lo)
theorem cmpR_lt (a b : Ru) : cmpR a b < 0 ↔ ltR a b := by
 unfold cmpR orI cmpI ltR
 repeat' split
 all_goals omega
theorem byPlaces_any (a b : Ru) (w : World) : Calls prog 164 #[.agg (ruc a), .agg (ruc b)] w fun e w' => e = .returned (.int .i64 (cmpR a b)) /\ Below w.heap.size w w' := by
 obtain ⟨W, hW⟩ : ∃ W, W = (w.alloc (.cells (ruc a) 102)).alloc (.cells (ruc b) 102) := ⟨_, rfl⟩
 have B0 : Below w.heap.size w W := by rw [hW]; exact ((Below.refl _ w).alloc (Nat.le_refl _) _).alloc (by simp) _
 have HS : Hid (W.heap.size = w.heap.size + 2) := by rw [hW]; simp [Hid]
 have HC : Hid (W.cell? ⟨w.heap.size, 0, none⟩ = some (.int .i64 a.u) /\ W.cell? ⟨w.heap.size, 1, none⟩ = some (.int .i64 a.s) /\ W.cell? ⟨w.heap.size, 2, none⟩ = some (.int .i64 a.lo) /\ W.cell? ⟨w.heap.size + 1, 0, none⟩ = some (.int .i64 b.u) /\ W.cell? ⟨w.heap.size + 1, 1, none⟩ = some (.int .i64 b.s) /\ W.cell? ⟨w.heap.size + 1, 2, none⟩ = some (.int .i64 b.lo)) := by rw [hW]; refine ⟨?_, ?_, ?_, ?_, ?_, ?_⟩ <;> simp [go_sem]
 have cells : ∀ {u : World}, Below W.heap.size W u -> u.cell? ⟨w.heap.size, 0, none⟩ = some (.int .i64 a.u) /\ u.cell? ⟨w.heap.size, 1, none⟩ = some (.int .i64 a.s) /\ u.cell? ⟨w.heap.size, 2, none⟩ = some (.int .i64 a.lo) /\ u.cell? ⟨w.heap.size + 1, 0, none⟩ = some (.int .i64 b.u) /\ u.cell? ⟨w.heap.size + 1, 1, none⟩ = some (.int .i64 b.s) /\ u.cell? ⟨w.heap.size + 1, 2, none⟩ = some (.int .i64 b.lo) := fun hb => by
  have hs := HS.out
  obtain ⟨k0, k1, k2, k3, k4, k5⟩ := HC.out
  refine ⟨?_, ?_, ?_, ?_, ?_, ?_⟩
  ·rw [hb.cell (p := ⟨w.heap.size, 0, none⟩) (by show w.heap.size < W.heap.size; omega)]; exact k0
  ·rw [hb.cell (p := ⟨w.heap.size, 1, none⟩) (by show w.heap.size < W.heap.size; omega)]; exact k1
  ·rw [hb.cell (p := ⟨w.heap.size, 2, none⟩) (by show w.heap.size < W.heap.size; omega)]; exact k2
  ·rw [hb.cell (p := ⟨w.heap.size + 1, 0, none⟩) (by show w.heap.size + 1 < W.heap.size; omega)]; exact k3
  ·rw [hb.cell (p := ⟨w.heap.size + 1, 1, none⟩) (by show w.heap.size + 1 < W.heap.size; omega)]; exact k4
  rw [hb.cell (p := ⟨w.heap.size + 1, 2, none⟩) (by show w.heap.size + 1 < W.heap.size; omega)]; exact k5
 go_enter func164, ntmps164
 go_wp2
 rw [<- hW]
 clear hW
 refine wp_region_any (by kernel_rfl) ?_
 refine wpAny_vals (fun u => Below W.heap.size W u) (fun i v u => match i with
 | 0 => v = .pointer (some ⟨w.heap.size, 0, none⟩)
 | 1 => v = .int .i64 a.u
 | 2 => v = .pointer (some ⟨w.heap.size + 1, 0, none⟩)
 | 3 => v = .int .i64 b.u
 | 4 => v = .int .i64 (cmpI a.u b.u)
 | 5 => v = .pointer (some ⟨w.heap.size, 1, none⟩)
 | 6 => v = .int .i64 a.s
 | 7 => v = .pointer (some ⟨w.heap.size + 1, 1, none⟩)
 | 8 => v = .int .i64 b.s
 | 9 => v = .int .i64 (cmpI a.s b.s)
 | 10 => v = .pointer (some ⟨w.heap.size, 2, none⟩)
 | 11 => v = .int .i64 a.lo
 | 12 => v = .pointer (some ⟨w.heap.size + 1, 2, none⟩)
 | 13 => v = .int .i64 b.lo
 | 14 => v = .int .i64 (cmpI a.lo b.lo)
 | 15 => ∃ g, v = .slice (some ⟨g, 0, none⟩) 3 3 /\ g < u.heap.size /\ u.cell? ⟨g, 0, none⟩ = some (.int .i64 (cmpI a.u b.u)) /\ u.cell? ⟨g, 1, none⟩ = some (.int .i64 (cmpI a.s b.s)) /\ u.cell? ⟨g, 2, none⟩ = some (.int .i64 (cmpI a.lo b.lo))
 | 16 => v = .int .i64 (cmpR a b)
 | 17 => v = .int .i64 (cmpR a b)
 | _ => True) (by kernel_rfl) (by kernel_rfl) ?_ (Below.refl _ _).drew ?_ ?_ _ _ rfl (by decide) (fun i => by simp [Array.getD]; try (split <;> rfl))
 ·intro i v u u' h hb
  match i, h with
  | 15, h =>
   obtain ⟨g, hg, hlt, q0, q1, q2⟩ := h
   refine ⟨g, hg, by have := hb.size; omega, ?_, ?_, ?_⟩
   ·rw [hb.cell (p := ⟨g, 0, none⟩) hlt]; exact q0
   ·rw [hb.cell (p := ⟨g, 1, none⟩) hlt]; exact q1
   rw [hb.cell (p := ⟨g, 2, none⟩) hlt]; exact q2
  | 0, h => exact h
  | 1, h => exact h
  | 2, h => exact h
  | 3, h => exact h
  | 4, h => exact h
  | 5, h => exact h
  | 6, h => exact h
  | 7, h => exact h
  | 8, h => exact h
  | 9, h => exact h
  | 10, h => exact h
  | 11, h => exact h
  | 12, h => exact h
  | 13, h => exact h
  | 14, h => exact h
  | 16, h => exact h
  | 17, h => exact h
  | (k + 18), h => trivial
 ·intro vs u hR hall
  have e17 : vs 17 = .int .i64 (cmpR a b) := hall 17 (by simp)
  have BU := bel_next B0 hR
  simp only [putsL]
  rw [e17]
  clear hall e17 cells HC HS B0
  go_simp
  go_wp2
  go_ret
  exact ⟨rfl, BU⟩
 intro u i o ρ hR ho hρ hc hf hd
 have hi : i < 18 := by
  have := (Array.getElem?_eq_some_iff.1 ho).1
  simpa using this
 obtain rfl | rfl | rfl | rfl | rfl | rfl | rfl | rfl | rfl | rfl | rfl | rfl | rfl | rfl | rfl | rfl | rfl | rfl : i = 0 \/ i = 1 \/ i = 2 \/ i = 3 \/ i = 4 \/ i = 5 \/ i = 6 \/ i = 7 \/ i = 8 \/ i = 9 \/ i = 10 \/ i = 11 \/ i = 12 \/ i = 13 \/ i = 14 \/ i = 15 \/ i = 16 \/ i = 17 := by omega
 all_goals (simp only [List.getElem?_toArray, List.getElem?_cons_zero, List.getElem?_cons_succ, Option.some.injEq] at ho; subst ho)
 ·exact yr (run_field_op rfl (hρ 2 (by kernel_rfl)) (by go_simp)) rfl hR
 ·obtain ⟨c0, c1, c2, d0, d1, d2⟩ := cells hR
  have h0 : ρ (.tmp 5) = .pointer (some ⟨w.heap.size, 0, none⟩) := dq hd 0 5
  exact yr (run_load_op rfl h0 (by go_simp)) rfl hR
 ·exact yr (run_field_op rfl (hρ 3 (by kernel_rfl)) (by go_simp)) rfl hR
 ·obtain ⟨c0, c1, c2, d0, d1, d2⟩ := cells hR
  have h2 : ρ (.tmp 7) = .pointer (some ⟨w.heap.size + 1, 0, none⟩) := dq hd 2 7
  exact yr (run_load_op rfl h2 (by go_simp)) rfl hR
 ·have h1 : ρ (.tmp 6) = .int .i64 a.u := dq hd 1 6
  have h3 : ρ (.tmp 8) = .int .i64 b.u := dq hd 3 8
  refine .inl ⟨rfl, .inr ⟨_, _, run_call_op rfl (hf _) (args := #[.int .i64 a.u, .int .i64 b.u]) (by simp [h1, h3]) (by kernel_rfl), ?_⟩⟩
  refine (compare_any a.u b.u _).mono ?_
  rintro e u' ⟨rfl, rfl⟩
  exact ⟨_, rfl, rfl, hR, Below.refl _ _⟩
 ·exact yr (run_field_op rfl (hρ 2 (by kernel_rfl)) (by go_simp)) rfl hR
 ·obtain ⟨c0, c1, c2, d0, d1, d2⟩ := cells hR
  have h5 : ρ (.tmp 10) = .pointer (some ⟨w.heap.size, 1, none⟩) := dq hd 5 10
  exact yr (run_load_op rfl h5 (by go_simp)) rfl hR
 ·exact yr (run_field_op rfl (hρ 3 (by kernel_rfl)) (by go_simp)) rfl hR
 ·obtain ⟨c0, c1, c2, d0, d1, d2⟩ := cells hR
  have h7 : ρ (.tmp 12) = .pointer (some ⟨w.heap.size + 1, 1, none⟩) := dq hd 7 12
  exact yr (run_load_op rfl h7 (by go_simp)) rfl hR
 ·have h6 : ρ (.tmp 11) = .int .i64 a.s := dq hd 6 11
  have h8 : ρ (.tmp 13) = .int .i64 b.s := dq hd 8 13
  refine .inl ⟨rfl, .inr ⟨_, _, run_call_op rfl (hf _) (args := #[.int .i64 a.s, .int .i64 b.s]) (by simp [h6, h8]) (by kernel_rfl), ?_⟩⟩
  refine (compare_any a.s b.s _).mono ?_
  rintro e u' ⟨rfl, rfl⟩
  exact ⟨_, rfl, rfl, hR, Below.refl _ _⟩
 ·exact yr (run_field_op rfl (hρ 2 (by kernel_rfl)) (by go_simp)) rfl hR
 ·obtain ⟨c0, c1, c2, d0, d1, d2⟩ := cells hR
  have h10 : ρ (.tmp 15) = .pointer (some ⟨w.heap.size, 2, none⟩) := dq hd 10 15
  exact yr (run_load_op rfl h10 (by go_simp)) rfl hR
 ·exact yr (run_field_op rfl (hρ 3 (by kernel_rfl)) (by go_simp)) rfl hR
 ·obtain ⟨c0, c1, c2, d0, d1, d2⟩ := cells hR
  have h12 : ρ (.tmp 17) = .pointer (some ⟨w.heap.size + 1, 2, none⟩) := dq hd 12 17
  exact yr (run_load_op rfl h12 (by go_simp)) rfl hR
 ·have h11 : ρ (.tmp 16) = .int .i64 a.lo := dq hd 11 16
  have h13 : ρ (.tmp 18) = .int .i64 b.lo := dq hd 13 18
  refine .inl ⟨rfl, .inr ⟨_, _, run_call_op rfl (hf _) (args := #[.int .i64 a.lo, .int .i64 b.lo]) (by simp [h11, h13]) (by kernel_rfl), ?_⟩⟩
  refine (compare_any a.lo b.lo _).mono ?_
  rintro e u' ⟨rfl, rfl⟩
  exact ⟨_, rfl, rfl, hR, Below.refl _ _⟩
 ·have h4 : ρ (.tmp 9) = .int .i64 (cmpI a.u b.u) := dq hd 4 9
  have h9 : ρ (.tmp 14) = .int .i64 (cmpI a.s b.s) := dq hd 9 14
  have h14 : ρ (.tmp 19) = .int .i64 (cmpI a.lo b.lo) := dq hd 14 19
  have hr : (Instr.buildSlice 81 3 #[(0, .int .i64 (cmpI a.u b.u)), (1, .int .i64 (cmpI a.s b.s)), (2, .int .i64 (cmpI a.lo b.lo))]).run prog u = .ok (.slice (some ⟨u.heap.size, 0, none⟩) 3 3) (u.alloc (.cells #[.int .i64 (cmpI a.u b.u), .int .i64 (cmpI a.s b.s), .int .i64 (cmpI a.lo b.lo)] 3)) := by go_simp
  refine .inl ⟨rfl, .inl ⟨_, _, run_build_op rfl (qs := #[(0, .int .i64 (cmpI a.u b.u)), (1, .int .i64 (cmpI a.s b.s)), (2, .int .i64 (cmpI a.lo b.lo))]) (by simp [h4, h9, h14]) hr, ⟨_, rfl, by simp, ?_, ?_, ?_⟩, hR.alloc hR.size _, (Below.refl _ _).alloc (Nat.le_refl _) _⟩⟩
  all_goals simp [go_sem]
 ·obtain ⟨g, hg, _, q0, q1, q2⟩ := dq hd 15 20
  refine .inl ⟨rfl, .inr ⟨_, _, run_call_op rfl (hf _) (args := #[.slice (some ⟨g, 0, none⟩) 3 3]) (by simp [hg]) (by kernel_rfl), ?_⟩⟩
  refine (or_any g _ _ _ _ q0 q1 q2).mono ?_
  rintro e u' ⟨rfl, rfl⟩
  exact ⟨_, rfl, rfl, hR, Below.refl _ _⟩
 have h16 : ρ (.tmp 21) = .int .i64 (cmpR a b) := dq hd 16 21
 exact yr rfl h16 hR
end Go.Proofs.YtplaoagcedgdfaaGreat
