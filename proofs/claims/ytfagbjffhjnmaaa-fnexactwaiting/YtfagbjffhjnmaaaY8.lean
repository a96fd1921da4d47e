/- Texts that the proof needs, joined: Tb1 P3 P4 P5. -/
import Derived.Test.YtfagbjffhjnmaaaY7
import Derived.Test.YtfagbjffhjnmaaaY5
import Derived.Test.YtfagbjffhjnmaaaY6
import Derived.Test.YtfagbjffhjnmaaaY2
import Derived.Deep.RegionHeld3
namespace Go.Proofs.Ytfagbjffhjnmaaa
open Go.RowKit Go.Joins
set_option linter.unusedVariables false
set_option linter.unusedSimpArgs false
theorem Rd.int3 {w : World} {lo n c : Nat} {a : Option Addr} {ws : List Int} (h : Rd w lo (intsT ws) (.slice a n c)) : n = ws.length ∧ n ≤ c ∧ SlI w a ws := by
  obtain ⟨a', c', h1, h2, h3, h4⟩ := h.ints
  simp only [Value.slice.injEq] at h1
  obtain ⟨rfl, rfl, rfl⟩ := h1
  exact ⟨rfl, h2, h4⟩
theorem Rd.bool3 {w : World} {lo n c : Nat} {a : Option Addr} {ws : List Bool} (h : Rd w lo (boolsT ws) (.slice a n c)) : n = ws.length ∧ n ≤ c ∧ SlB w a ws := by
  obtain ⟨a', c', h1, h2, h3, h4⟩ := h.bools
  simp only [Value.slice.injEq] at h1
  obtain ⟨rfl, rfl, rfl⟩ := h1
  exact ⟨rfl, h2, h4⟩
theorem Rd.bit {w : World} {lo n m c : Nat} {a : Option Addr} {bs : List Bool} {k : Nat} (h : Rd w lo (boolsT bs) (.slice a m c)) (hk : k < bs.length) : ∃ b off, a = some ⟨b, off, none⟩ ∧ b < w.heap.size ∧ w.cell? ⟨b, off + k, none⟩ = some (.bool (bs.getD k false)) := by
  rcases h.bool3.2.2 with h0 | ⟨b, off, ha, hb, hc⟩
  · subst h0; simp at hk
  · exact ⟨b, off, ha, hb, hc k hk⟩
theorem isCntT (x hi : Int) (w : World) (b : Bool) (hb : inB x 1 hi = b) : Calls Try.prog 44 #[.int .i64 x, .int .i64 hi] w fun e w' => e = .returned (.bool b) ∧ w' = w := by
  subst hb
  unfold inB
  by_cases h1 : 1 ≤ x
  · by_cases h2 : x ≤ hi
    · rw [decide_eq_true (show 1 ≤ x ∧ x ≤ hi from ⟨h1, h2⟩)]
      go_enter Try.func44, Try.ntmps44
      go_wp2
      go_ret
      exact ⟨rfl, rfl⟩
    · rw [decide_eq_false (show ¬ (1 ≤ x ∧ x ≤ hi) from fun h => h2 h.2)]
      go_enter Try.func44, Try.ntmps44
      go_wp2
      go_ret
      exact ⟨rfl, rfl⟩
  · rw [decide_eq_false (show ¬ (1 ≤ x ∧ x ≤ hi) from fun h => h1 h.1)]
    go_enter Try.func44, Try.ntmps44
    go_wp2
    go_ret
    exact ⟨rfl, rfl⟩
theorem isUnitT (x : Int) (w : World) (b : Bool) (hb : inB x 1 247 = b) : Calls Try.prog 67 #[.int .i64 x] w fun e w' => e = .returned (.bool b) ∧ w' = w := by
  go_enter Try.func67, Try.ntmps67
  go_wp2_with fail
  refine (isCntT _ _ _ _ hb).mono ?_
  rintro e wx ⟨rfl, rfl⟩
  go_wp2
  go_ret
  exact ⟨rfl, rfl⟩
theorem isIdT (x : Int) (w : World) (b : Bool) (hb : inB x 0 1000000000 = b) : Calls Try.prog 16 #[.int .i64 x] w fun e w' => e = .returned (.bool b) ∧ w' = w := by
  subst hb
  unfold inB
  by_cases h1 : 0 ≤ x
  · by_cases h2 : x ≤ 1000000000
    · rw [decide_eq_true ⟨h1, h2⟩]
      have h3 : x < 1000000000 + 1 := by omega
      simp only [Int.reduceAdd] at h3
      go_enter Try.func16, Try.ntmps16
      go_wp2
      go_ret
      exact ⟨rfl, rfl⟩
    · rw [decide_eq_false (fun h => h2 h.2)]
      have h3 : ¬ x < 1000000000 + 1 := by omega
      simp only [Int.reduceAdd] at h3
      go_enter Try.func16, Try.ntmps16
      go_wp2
      go_ret
      exact ⟨rfl, rfl⟩
  · rw [decide_eq_false (fun h => h1 h.1)]
    go_enter Try.func16, Try.ntmps16
    go_wp2
    go_ret
    exact ⟨rfl, rfl⟩
theorem isPortT (x : Int) (w : World) (b : Bool) (hb : inB x 0 5 = b) : Calls Try.prog 66 #[.int .i64 x] w fun e w' => e = .returned (.bool b) ∧ w' = w := by
  subst hb
  unfold inB
  by_cases h1 : 0 ≤ x
  · by_cases h2 : x ≤ 5
    · rw [decide_eq_true ⟨h1, h2⟩]
      have h3 : x < 5 + 1 := by omega
      simp only [Int.reduceAdd] at h3
      go_enter Try.func66, Try.ntmps66
      go_wp2
      go_ret
      exact ⟨rfl, rfl⟩
    · rw [decide_eq_false (fun h => h2 h.2)]
      have h3 : ¬ x < 5 + 1 := by omega
      simp only [Int.reduceAdd] at h3
      go_enter Try.func66, Try.ntmps66
      go_wp2
      go_ret
      exact ⟨rfl, rfl⟩
  · rw [decide_eq_false (fun h => h1 h.1)]
    go_enter Try.func66, Try.ntmps66
    go_wp2
    go_ret
    exact ⟨rfl, rfl⟩
theorem implOkQ (X : VQ) (a1 : Option Addr) (l1 c1 : Nat) (a2 : Option Addr) (l2 c2 : Nat) (w : World) (r1 : Rd w 0 (intsT X.ws) (.slice a1 l1 c1)) (r2 : Rd w 0 (boolsT X.bs) (.slice a2 l2 c2)) (hb : BdQ X) :
    Calls Try.prog 26 #[.agg (qL X a1 l1 c1 a2 l2 c2).toArray] w fun e w' => e = .returned (.bool (okQ X)) ∧ Below w.heap.size w w' := by
  obtain ⟨e1, _, s1⟩ := r1.int3
  obtain ⟨e2, _, s2⟩ := r2.bool3
  unfold okQ
  rw [← e1, ← e2]
  exact implReqOk_q X.kd X.pl X.n X.wa a1 a2 l1 l2 c1 c2 X.ws X.bs w e1 e2 s1 s2 hb.1 hb.2
theorem specOkQ (X : VQ) (a1 : Option Addr) (l1 c1 : Nat) (a2 : Option Addr) (l2 c2 : Nat) (w : World) (r1 : Rd w 0 (intsT X.ws) (.slice a1 l1 c1)) (r2 : Rd w 0 (boolsT X.bs) (.slice a2 l2 c2)) (hb : BdQ X) :
    Calls Try.prog 21 #[.agg (qL X a1 l1 c1 a2 l2 c2).toArray] w fun e w' => e = .returned (.bool (okQ X)) ∧ Below w.heap.size w w' := by
  obtain ⟨e1, _, s1⟩ := r1.int3
  obtain ⟨e2, _, s2⟩ := r2.bool3
  unfold okQ
  rw [← e1, ← e2]
  exact specReqOk_q X.kd X.pl X.n X.wa a1 a2 l1 l2 c1 c2 X.ws X.bs w e1 e2 s1 s2 hb.1 hb.2
set_option maxRecDepth 20000 in
set_option maxHeartbeats 2000000 in
theorem implPart_any (X : VP) (a1 : Option Addr) (c1 : Nat) (a2 : Option Addr) (c2 : Nat) (w : World) (r1 : Rd w 0 (intsT X.q.ws) (.slice a1 X.q.ws.length c1)) (r2 : Rd w 0 (boolsT X.q.bs) (.slice a2 X.q.bs.length c2)) (hb : BdQ X.q) :
    Calls Try.prog 47 #[.agg (pL X a1 X.q.ws.length c1 a2 X.q.bs.length c2).toArray] w fun e w' => e = .returned (.bool (okPt X)) ∧ Below w.heap.size w w' := by
  obtain ⟨x0, hx0⟩ : ∃ x, inB X.p 0 5 = x := ⟨_, rfl⟩
  obtain ⟨x1, hx1⟩ : ∃ x, inB X.t 1 247 = x := ⟨_, rfl⟩
  obtain ⟨x2, hx2⟩ : ∃ x, okQ X.q = x := ⟨_, rfl⟩
  obtain ⟨W, hW⟩ : ∃ W, W = w.alloc (.cells (pL X a1 X.q.ws.length c1 a2 X.q.bs.length c2).toArray 60) := ⟨_, rfl⟩
  have HE : Hid (okPt X = (x0 && (x1 && x2)) ∧ inB X.p 0 5 = x0 ∧ inB X.t 1 247 = x1 ∧ okQ X.q = x2 ∧ Rd W 0 (intsT X.q.ws) (.slice a1 X.q.ws.length c1) ∧ Rd W 0 (boolsT X.q.bs) (.slice a2 X.q.bs.length c2) ∧ Below w.heap.size w W) := ⟨by unfold okPt; rw [hx0, hx1, hx2], hx0, hx1, hx2, r1.below (by rw [hW]; exact bel_alloc _ _), r2.below (by rw [hW]; exact bel_alloc _ _), by rw [hW]; exact bel_alloc _ _⟩
  have A0 : Blk W w.heap.size 60 (pL X a1 X.q.ws.length c1 a2 X.q.bs.length c2).toArray := by rw [hW]; exact Blk.new _ _ _
  obtain ⟨⟨y0, y1, y2, y3, y4, y5, y6, y7⟩, yf⟩ := A0.tc8
  rw [HE.out.1]
  clear hx0 hx1 hx2 r1 r2 yf A0
  go_enter Try.func47, Try.ntmps47
  go_upto_region 1 with fail
  rw [← hW]
  clear hW
  go_wp2_with fail
  refine (isPortT _ _ _ HE.out.2.1).mono ?_
  rintro e w1 ⟨rfl, hw⟩
  have hw := hw.symm
  subst hw
  cases x0 with
  | false =>
    go_wp2
    go_ret
    exact ⟨rfl, HE.out.2.2.2.2.2.2⟩
  | true =>
    go_wp2_with fail
    refine (isUnitT _ _ _ HE.out.2.2.1).mono ?_
    rintro e w1 ⟨rfl, hw⟩
    have hw := hw.symm
    subst hw
    cases x1 with
    | false =>
      go_wp2
      go_ret
      exact ⟨rfl, HE.out.2.2.2.2.2.2⟩
    | true =>
      go_wp2_with fail
      refine (implOkQ X.q a1 _ c1 a2 _ c2 _ HE.out.2.2.2.2.1 HE.out.2.2.2.2.2.1 hb).mono ?_
      rintro e w1 ⟨rfl, b1⟩
      rw [HE.out.2.2.2.1]
      have B1 := bel_nx HE.out.2.2.2.2.2.2 b1
      clear b1 y0 y1 y2 y3 y4 y5 y6 y7
      go_wp2
      go_ret
      exact ⟨rfl, B1⟩
set_option maxRecDepth 20000 in
set_option maxHeartbeats 2000000 in
theorem specPart_any (X : VP) (a1 : Option Addr) (c1 : Nat) (a2 : Option Addr) (c2 : Nat) (w : World) (r1 : Rd w 0 (intsT X.q.ws) (.slice a1 X.q.ws.length c1)) (r2 : Rd w 0 (boolsT X.q.bs) (.slice a2 X.q.bs.length c2)) (hb : BdQ X.q) :
    Calls Try.prog 22 #[.agg (pL X a1 X.q.ws.length c1 a2 X.q.bs.length c2).toArray] w fun e w' => e = .returned (.bool (okPt X)) ∧ Below w.heap.size w w' := by
  obtain ⟨x0, hx0⟩ : ∃ x, inB X.p 0 5 = x := ⟨_, rfl⟩
  obtain ⟨x1, hx1⟩ : ∃ x, inB X.t 1 247 = x := ⟨_, rfl⟩
  obtain ⟨x2, hx2⟩ : ∃ x, okQ X.q = x := ⟨_, rfl⟩
  obtain ⟨W, hW⟩ : ∃ W, W = w.alloc (.cells (pL X a1 X.q.ws.length c1 a2 X.q.bs.length c2).toArray 60) := ⟨_, rfl⟩
  have HE : Hid (okPt X = (x0 && (x1 && x2)) ∧ inB X.p 0 5 = x0 ∧ inB X.t 1 247 = x1 ∧ okQ X.q = x2 ∧ Rd W 0 (intsT X.q.ws) (.slice a1 X.q.ws.length c1) ∧ Rd W 0 (boolsT X.q.bs) (.slice a2 X.q.bs.length c2) ∧ Below w.heap.size w W) := ⟨by unfold okPt; rw [hx0, hx1, hx2], hx0, hx1, hx2, r1.below (by rw [hW]; exact bel_alloc _ _), r2.below (by rw [hW]; exact bel_alloc _ _), by rw [hW]; exact bel_alloc _ _⟩
  have A0 : Blk W w.heap.size 60 (pL X a1 X.q.ws.length c1 a2 X.q.bs.length c2).toArray := by rw [hW]; exact Blk.new _ _ _
  obtain ⟨⟨y0, y1, y2, y3, y4, y5, y6, y7⟩, yf⟩ := A0.tc8
  rw [HE.out.1]
  clear hx0 hx1 hx2 r1 r2 yf A0
  go_enter Try.func22, Try.ntmps22
  go_upto_region 1 with fail
  rw [← hW]
  clear hW
  go_wp2_with fail
  refine (l1In_any _ _ _ _ _ HE.out.2.1).mono ?_
  rintro e w1 ⟨rfl, hw⟩
  have hw := hw.symm
  subst hw
  cases x0 with
  | false =>
    go_wp2
    go_ret
    exact ⟨rfl, HE.out.2.2.2.2.2.2⟩
  | true =>
    go_wp2_with fail
    refine (l1In_any _ _ _ _ _ HE.out.2.2.1).mono ?_
    rintro e w1 ⟨rfl, hw⟩
    have hw := hw.symm
    subst hw
    cases x1 with
    | false =>
      go_wp2
      go_ret
      exact ⟨rfl, HE.out.2.2.2.2.2.2⟩
    | true =>
      go_wp2_with fail
      refine (specOkQ X.q a1 _ c1 a2 _ c2 _ HE.out.2.2.2.2.1 HE.out.2.2.2.2.2.1 hb).mono ?_
      rintro e w1 ⟨rfl, b1⟩
      rw [HE.out.2.2.2.1]
      have B1 := bel_nx HE.out.2.2.2.2.2.2 b1
      clear b1 y0 y1 y2 y3 y4 y5 y6 y7
      go_wp2
      go_ret
      exact ⟨rfl, B1⟩
/- Whether a part is not right: the closure of partsRight, and the library's search for one. -/
set_option maxRecDepth 20000 in
set_option maxHeartbeats 2000000 in
theorem partNo_any (X : VP) (a1 : Option Addr) (c1 : Nat) (a2 : Option Addr) (c2 : Nat) (w : World) (r1 : Rd w 0 (intsT X.q.ws) (.slice a1 X.q.ws.length c1)) (r2 : Rd w 0 (boolsT X.q.bs) (.slice a2 X.q.bs.length c2)) (hb : BdQ X.q) (x : Bool) (hx : okPt X = x) :
    Calls Try.prog 46 #[.agg (pL X a1 X.q.ws.length c1 a2 X.q.bs.length c2).toArray] w fun e w' => e = .returned (.bool (!x)) ∧ Below w.heap.size w w' := by
  obtain ⟨W, hW⟩ : ∃ W, W = w.alloc (.cells (pL X a1 X.q.ws.length c1 a2 X.q.bs.length c2).toArray 60) := ⟨_, rfl⟩
  have HE : Hid (okPt X = x ∧ Rd W 0 (intsT X.q.ws) (.slice a1 X.q.ws.length c1) ∧ Rd W 0 (boolsT X.q.bs) (.slice a2 X.q.bs.length c2) ∧ Below w.heap.size w W) := ⟨hx, r1.below (by rw [hW]; exact bel_alloc _ _), r2.below (by rw [hW]; exact bel_alloc _ _), by rw [hW]; exact bel_alloc _ _⟩
  have A0 : Blk W w.heap.size 60 (pL X a1 X.q.ws.length c1 a2 X.q.bs.length c2).toArray := by rw [hW]; exact Blk.new _ _ _
  obtain ⟨⟨y0, y1, y2, y3, y4, y5, y6, y7⟩, yf⟩ := A0.tc8
  clear hx r1 r2 yf A0
  go_enter Try.func46, Try.ntmps46
  go_upto_region 1 with fail
  rw [← hW]
  clear hW
  go_wp2_with fail
  refine (implPart_any X a1 c1 a2 c2 _ HE.out.2.1 HE.out.2.2.1 hb).mono ?_
  rintro e w1 ⟨rfl, b1⟩
  rw [HE.out.1]
  have B1 := bel_nx HE.out.2.2.2 b1
  clear b1 y0 y1 y2 y3 y4 y5 y6 y7
  go_wp2
  go_ret
  exact ⟨rfl, B1⟩
def IxP (n : Nat) (f : Nat → VP) (r : Int) : Prop := (r = -1 ∧ allN (fun i => okPt (f i)) n = true) ∨ (0 ≤ r ∧ allN (fun i => okPt (f i)) n = false)
set_option maxRecDepth 20000 in
set_option maxHeartbeats 2000000 in
theorem indexNo_any (n : Nat) (f : Nat → VP) (a : Option Addr) (c : Nat) (w : World) (hs : Rd w 0 (.list 8 n (fun i => trs (pT (f i)))) (.slice a n c)) (hn : n ≤ 2000000) (hb : ∀ i, i < n → BdQ (f i).q) :
    Calls Try.prog 65 #[.slice a n c, .func (.func 46) #[] #[]] w fun e w' => ∃ r, e = .returned (.int .i64 r) ∧ IxP n f r ∧ Below w.heap.size w w' := by
  have HS : Hid (Rd w 0 (.list 8 n (fun i => trs (pT (f i)))) (.slice a n c) ∧ ∀ i, i < n → BdQ (f i).q) := ⟨hs, hb⟩
  clear hs hb
  go_enter Try.func65, Try.ntmps65
  go_wp2
  go_loopw [8] (fun i wr => ∃ k : Nat, k ≤ n ∧ i = .int .i64 k ∧ allN (fun i => okPt (f i)) k = true ∧ Below w.heap.size w wr) (fun i _ => n - (intOf i).toNat)
  case atStart => exact ⟨0, Nat.zero_le _, rfl, rfl, Below.refl _ _⟩
  case round =>
    obtain ⟨k, hk, rfl, hall, hbl⟩ := hrel
    by_cases hlt : k < n
    · have hi : (k : Int) < (n : Int) := by omega
      obtain ⟨b, off, vs, rfl, _, hb0, hlen, hr, hrd⟩ := (HS.out.1.below hbl).at hlt
      obtain ⟨a1, c1, a2, c2, rfl, r1, r2⟩ := VP.cells hrd hlen
      clear hlen hrd hb0
      have d0 : wr.cell? ⟨b, off + k * 8, none⟩ = _ := hr 0 _ rfl
      have d1 : wr.cell? ⟨b, off + k * 8 + 1, none⟩ = _ := hr 1 _ rfl
      have d2 : wr.cell? ⟨b, off + k * 8 + 2, none⟩ = _ := hr 2 _ rfl
      have d3 : wr.cell? ⟨b, off + k * 8 + 3, none⟩ = _ := hr 3 _ rfl
      have d4 : wr.cell? ⟨b, off + k * 8 + 4, none⟩ = _ := hr 4 _ rfl
      have d5 : wr.cell? ⟨b, off + k * 8 + 5, none⟩ = _ := hr 5 _ rfl
      have d6 : wr.cell? ⟨b, off + k * 8 + 6, none⟩ = _ := hr 6 _ rfl
      have d7 : wr.cell? ⟨b, off + k * 8 + 7, none⟩ = _ := hr 7 _ rfl
      obtain ⟨x, hx⟩ : ∃ x, okPt (f k) = x := ⟨_, rfl⟩
      have HK : Hid (Rd wr 0 (intsT (f k).q.ws) (.slice a1 (f k).q.ws.length c1) ∧ Rd wr 0 (boolsT (f k).q.bs) (.slice a2 (f k).q.bs.length c2) ∧ okPt (f k) = x ∧ allN (fun i => okPt (f i)) k = true ∧ Below w.heap.size w wr) := ⟨r1, r2, hx, hall, hbl⟩
      clear r1 r2 hx hall hbl hr
      go_wp2_with fail
      refine (partNo_any (f k) a1 c1 a2 c2 _ HK.out.1 HK.out.2.1 (HS.out.2 k hlt) x HK.out.2.2.1).mono ?_
      rintro e w1 ⟨rfl, b1⟩
      have B1 := bel_nx HK.out.2.2.2.2 b1
      clear b1 d0 d1 d2 d3 d4 d5 d6 d7
      cases x with
      | true =>
        have HF : Hid (allN (fun i => okPt (f i)) (k + 1) = true) := allN_succ HK.out.2.2.2.1 HK.out.2.2.1
        clear HK
        go_wp2
        go_roundw
        case rel => exact ⟨k + 1, by omega, by go_num, HF.out, B1⟩
        case measure => simp [intOf]; omega
      | false =>
        have HF : Hid (allN (fun i => okPt (f i)) n = false) := allN_no hlt HK.out.2.2.1
        clear HK
        go_wp2
        go_ret
        exact ⟨_, rfl, .inr ⟨by omega, HF.out⟩, B1⟩
    · have hi : ¬ (k : Int) < (n : Int) := by omega
      have e9 : k = n := by omega
      subst e9
      have HF : Hid (allN (fun i => okPt (f i)) k = true) := hall
      clear hall
      go_wp2
      go_ret
      exact ⟨_, rfl, .inl ⟨rfl, HF.out⟩, hbl⟩
set_option maxRecDepth 20000 in
set_option maxHeartbeats 2000000 in
theorem containsNo_any (n : Nat) (f : Nat → VP) (a : Option Addr) (c : Nat) (w : World) (hs : Rd w 0 (.list 8 n (fun i => trs (pT (f i)))) (.slice a n c)) (hn : n ≤ 2000000) (hb : ∀ i, i < n → BdQ (f i).q) (x : Bool) (hx : allN (fun i => okPt (f i)) n = x) :
    Calls Try.prog 45 #[.slice a n c, .func (.func 46) #[] #[]] w fun e w' => e = .returned (.bool (!x)) ∧ Below w.heap.size w w' := by
  have HX : Hid (allN (fun i => okPt (f i)) n = x) := hx
  clear hx
  go_enter Try.func45, Try.ntmps45
  go_wp2_with fail
  refine (indexNo_any n f a c _ hs hn hb).mono ?_
  rintro e w1 ⟨r, rfl, hr, b1⟩
  have HR : Hid (IxP n f r) := hr
  clear hr
  cases x with
  | true =>
    have h0 : ¬ (0 ≤ r) := by
      rcases HR.out with h | h
      · omega
      · have := HX.out; rw [h.2] at this; cases this
    have HD : Hid (decide (0 ≤ r) = false) := decide_eq_false h0
    go_wp2
    go_ret
    exact ⟨by show Ending.returned (.bool (decide (0 ≤ r))) = _; rw [HD.out]; rfl, b1⟩
  | false =>
    have h0 : 0 ≤ r := by
      rcases HR.out with h | h
      · have := HX.out; rw [h.2] at this; cases this
      · exact h.1
    have HD : Hid (decide (0 ≤ r) = true) := decide_eq_true h0
    go_wp2
    go_ret
    exact ⟨rfl, b1⟩
set_option maxRecDepth 20000 in
set_option maxHeartbeats 2000000 in
theorem partsRight_any (D : VD) (g o : Nat) (w : World) (h : PdAt w g o D) (hb : BdD D) :
    Calls Try.prog 27 #[.pointer (some ⟨g, o, none⟩)] w fun e w' => e = .returned (.bool (decide (1 ≤ D.np ∧ D.np ≤ 8) && allN (fun i => okPt (D.pt i)) D.np)) ∧ Below w.heap.size w w' := by
  obtain ⟨hg, a1, c1, a2, c2, a3, c3, a4, c4, a5, c5, hr, r1, r2, r3, r4, r5⟩ := h.cells
  obtain ⟨x0, hx0⟩ : ∃ x, inB (D.np : Int) 1 8 = x := ⟨_, rfl⟩
  obtain ⟨x1, hx1⟩ : ∃ x, allN (fun i => okPt (D.pt i)) D.np = x := ⟨_, rfl⟩
  have hx2 : decide (1 ≤ D.np ∧ D.np ≤ 8) = x0 := by rw [← hx0]; unfold inB; exact decide_eq_decide.2 (by omega)
  rw [hx2]
  have HX : Hid (inB (D.np : Int) 1 8 = x0 ∧ allN (fun i => okPt (D.pt i)) D.np = x1 ∧ Rd w 0 (.list 8 D.np (fun i => trs (pT (D.pt i)))) (.slice a3 D.np c3) ∧ BdD D) := ⟨hx0, hx1, r3, hb⟩
  rw [hx1]
  have hn2 : D.np ≤ 2000000 := hb.2.1
  have y10 : w.cell? ⟨g, o + 10, none⟩ = _ := hr 10 _ rfl
  clear hr r1 r2 r3 r4 r5 hx0 hx1 hx2 hb
  go_enter Try.func27, Try.ntmps27
  go_wp2_with fail
  refine (isCntT _ _ _ _ HX.out.1).mono ?_
  rintro e w1 ⟨rfl, hw⟩
  have hw := hw.symm
  subst hw
  cases x0 with
  | false =>
    go_wp2
    go_ret
    exact ⟨rfl, Below.refl _ _⟩
  | true =>
    go_wp2_with fail
    refine (containsNo_any D.np D.pt a3 c3 _ HX.out.2.2.1 hn2 HX.out.2.2.2.2.2.2.2.1 x1 HX.out.2.1).mono ?_
    rintro e w1 ⟨rfl, b1⟩
    clear y10
    cases x1 with
    | false =>
      go_wp2
      go_ret
      exact ⟨rfl, b1⟩
    | true =>
      go_wp2
      go_ret
      exact ⟨rfl, b1⟩
set_option maxRecDepth 20000 in
set_option maxHeartbeats 2000000 in
theorem waits_any (D : VD) (g o : Nat) (w : World) (h : PdAt w g o D) (hb : BdD D) :
    Calls Try.prog 19 #[.pointer (some ⟨g, o, none⟩)] w fun e w' => e = .returned (.int .i64 (cntF D.hs D.hs.length : Int)) ∧ w' = w := by
  obtain ⟨hg, a1, c1, a2, c2, a3, c3, a4, c4, a5, c5, hr, r1, r2, r3, r4, r5⟩ := h.cells
  obtain ⟨n, hn⟩ : ∃ n, n = D.hs.length := ⟨_, rfl⟩
  have y11 : w.cell? ⟨g, o + 11, none⟩ = _ := hr 11 _ rfl
  rw [← hn] at y11 r4 ⊢
  have HX : Hid (Rd w 0 (boolsT D.hs) (.slice a4 n c4) ∧ n = D.hs.length) := ⟨r4, hn⟩
  have hn2 : n ≤ 2000000 := by rw [hn]; exact hb.2.2.1
  clear hr r1 r2 r3 r4 r5 hb hn
  go_enter Try.func19, Try.ntmps19
  go_wp2
  go_loopw [3, 11] (fun c i wr => ∃ k : Nat, k ≤ n ∧ i = .int .i64 k ∧ c = .int .i64 (cntF D.hs k : Int) ∧ wr = w) (fun _ i _ => n - (intOf i).toNat)
  case atStart => exact ⟨0, Nat.zero_le _, rfl, rfl, rfl⟩
  case round =>
    obtain ⟨k, hk, rfl, rfl, hw⟩ := hrel
    subst hw
    have hc := cntF_le D.hs k
    obtain ⟨m, hm⟩ : ∃ m, m = cntF D.hs k := ⟨_, rfl⟩
    rw [← hm] at hc ⊢
    have HM : Hid (m = cntF D.hs k) := hm
    clear hm
    by_cases hlt : k < n
    · have hi : (k : Int) < (n : Int) := by omega
      obtain ⟨b, off, rfl, hb0, d0⟩ := HX.out.1.bit (k := k) (n := n) (by rw [← HX.out.2]; exact hlt)
      obtain ⟨x, hx⟩ : ∃ x, D.hs.getD k false = x := ⟨_, rfl⟩
      rw [hx] at d0
      have HK : Hid (cntF D.hs (k + 1) = m + (if x then 0 else 1)) := by show cntF D.hs (k + 1) = _; simp only [cntF]; rw [hx, HM.out]
      clear hx
      cases x with
      | true =>
        go_wp2
        go_roundw
        case rel => exact ⟨k + 1, by omega, by go_num, by rw [HK.out]; rfl, trivial⟩
        case measure => simp [intOf]; omega
      | false =>
        go_wp2
        go_roundw
        case rel => exact ⟨k + 1, by omega, by go_num, by rw [HK.out]; go_num, trivial⟩
        case measure => simp [intOf]; omega
    · have hi : ¬ (k : Int) < (n : Int) := by omega
      have e9 : k = n := by omega
      subst e9
      go_wp2
      go_ret
      exact ⟨by rw [HM.out]; rfl, rfl⟩
end Go.Proofs.Ytfagbjffhjnmaaa
namespace Go.Proofs.Ytfagbjffhjnmaaa
open Go.RowKit
set_option linter.unusedVariables false
set_option linter.unusedSimpArgs false
set_option maxHeartbeats 1000000 in
theorem isCount_any (x most : Int) (w : World) (b : Bool) (hb : inB x 1 most = b) : Calls Try.prog 44 #[.int .i64 x, .int .i64 most] w fun e w' => e = .returned (.bool b) ∧ w' = w := by
  subst hb
  unfold inB
  by_cases h1 : 1 ≤ x
  · by_cases h2 : x ≤ most
    · rw [decide_eq_true (show 1 ≤ x ∧ x ≤ most from ⟨h1, h2⟩)]
      go_enter Try.func44, Try.ntmps44
      go_wp2
      go_ret
      exact ⟨rfl, rfl⟩
    · rw [decide_eq_false (show ¬ (1 ≤ x ∧ x ≤ most) from fun h => h2 h.2)]
      go_enter Try.func44, Try.ntmps44
      go_wp2
      go_ret
      exact ⟨rfl, rfl⟩
  · rw [decide_eq_false (show ¬ (1 ≤ x ∧ x ≤ most) from fun h => h1 h.1)]
    go_enter Try.func44, Try.ntmps44
    go_wp2
    go_ret
    exact ⟨rfl, rfl⟩
set_option maxHeartbeats 1000000 in
theorem isFault_any (x : Int) (w : World) (b : Bool) (hb : inB x 1 255 = b) : Calls Try.prog 85 #[.int .i64 x] w fun e w' => e = .returned (.bool b) ∧ w' = w := by
  go_enter Try.func85, Try.ntmps85
  go_wp2_with fail
  refine (isCount_any _ _ _ _ hb).mono ?_
  rintro e wx ⟨rfl, rfl⟩
  go_wp2
  go_ret
  exact ⟨rfl, rfl⟩
def tB (kd fl pl nn : Int) (ws : List Int) (l1 l2 : Nat) : Bool :=
  if fl = 0 then
    if kd = 1 ∨ kd = 2 then inB l2 1 2000 && decide (l2 % 8 = 0)
    else if kd = 3 ∨ kd = 4 ∨ kd = 23 then inB l1 1 125 && allW ws
    else if kd = 5 then inB pl 0 65535 && decide (l2 = 1)
    else if kd = 6 then inB pl 0 65535 && (decide (l1 = 1) && allW ws)
    else if kd = 22 then inB pl 0 65535 && (decide (l1 = 2) && allW ws)
    else if kd = 15 then inB pl 0 65535 && inB nn 1 1968
    else inB pl 0 65535 && inB nn 1 123
  else inB fl 1 255
def zrA (kd fl pl nn : Int) (l1 l2 : Nat) : Bool :=
  if fl = 0 then
    if kd = 1 ∨ kd = 2 then zr4 false false false true pl nn l1 l2
    else if kd = 3 ∨ kd = 4 ∨ kd = 23 then zr4 false false true false pl nn l1 l2
    else if kd = 5 then zr4 true false false true pl nn l1 l2
    else if kd = 6 ∨ kd = 22 then zr4 true false true false pl nn l1 l2
    else zr4 true true false false pl nn l1 l2
  else zr4 false false false false pl nn l1 l2
theorem allW_nil {ws : List Int} {l1 : Nat} (h1 : l1 = ws.length) (h : l1 = 0) : allW ws = true := by
  rw [h] at h1
  rw [List.eq_nil_of_length_eq_zero h1.symm]
  rfl
theorem okA_told (kd fl pl nn : Int) (ws : List Int) (l1 l2 : Nat) (h1 : l1 = ws.length) (hk : kindB kd = true) : okA kd fl pl nn ws l1 l2 = (tB kd fl pl nn ws l1 l2 && zrA kd fl pl nn l1 l2) := by
  have hnil := allW_nil h1
  clear h1
  have hk' := of_decide_eq_true hk
  rw [Bool.eq_iff_iff]
  by_cases hf : fl = 0
  · subst hf
    obtain rfl | rfl | rfl | rfl | rfl | rfl | rfl | rfl | rfl | rfl := hk'
    all_goals (
      simp [okA, okAK, tB, zrA, kindB, inB, zr4]
      cases hW : allW ws
      · rw [hW] at hnil; simp at hnil; simp <;> omega
      · simp; omega)
  · by_cases hp : 0 < fl
    · simp [okA, tB, zrA, hk, inB, zr4, hf, hp]
      cases hW : allW ws
      · rw [hW] at hnil; simp at hnil; simp <;> omega
      · simp; omega
    · have e1 : inB fl 0 255 = false := decide_eq_false (by omega)
      have e2 : inB fl 1 255 = false := decide_eq_false (by omega)
      simp [okA, tB, hk, e1, e2, hf]
set_option maxHeartbeats 4000000 in
theorem isTold_1 (pl nn : Int) (a1 a2 : Option Addr) (l1 l2 c1 c2 : Nat) (ws : List Int) (w : World) (h1 : l1 = ws.length) (s1 : SlI w a1 ws) (hl1 : ws.length ≤ 2000000) (hl2 : l2 ≤ 20000000) (b : Bool) (hb : tB 1 0 pl nn ws l1 l2 = b) :
    Calls Try.prog 82 #[rp 1 0 pl nn a1 a2 l1 l2 c1 c2] w fun e w' => e = .returned (.bool b) ∧ Below w.heap.size w w' := by
  have H1 : Hid (l1 = ws.length) := h1
  have hs : Hid (SlI w a1 ws) := s1
  have B0 := bel_alloc w (.cells #[.int .i64 1, .int .i64 0, .int .i64 pl, .int .i64 nn, .slice a1 l1 c1, .slice a2 l2 c2] 63)
  have S1 : Hid (SlI (w.alloc (.cells #[.int .i64 1, .int .i64 0, .int .i64 pl, .int .i64 nn, .slice a1 l1 c1, .slice a2 l2 c2] 63)) a1 ws) := s1.below B0
  clear h1 s1
  cases hN : inB l2 1 2000
  · skip
    have e : tB 1 0 pl nn ws l1 l2 = false := by simp [tB, hN]
    rw [e] at hb
    subst hb
    clear e
    go_enter Try.func82, Try.ntmps82
    go_wp2_with (first
      | (go_at_call 44; refine (isCount_any _ _ _ _ hN).mono ?_; rintro e wx ⟨rfl, rfl⟩))
    go_ret
    exact ⟨rfl, B0⟩
  · skip
    by_cases hM : l2 % 8 = 0
    · skip
      have e : tB 1 0 pl nn ws l1 l2 = true := by simp [tB, hN, hM]
      rw [e] at hb
      subst hb
      clear e
      have hMt : ((l2 : Int) % 8 == 0) = true := by simp; omega
      clear hM
      go_enter Try.func82, Try.ntmps82
      go_wp2_with (first
        | (go_at_call 44; refine (isCount_any _ _ _ _ hN).mono ?_; rintro e wx ⟨rfl, rfl⟩))
      go_ret
      exact ⟨rfl, B0⟩
    · skip
      have e : tB 1 0 pl nn ws l1 l2 = false := by simp [tB, hN, hM]
      rw [e] at hb
      subst hb
      clear e
      have hMt : ((l2 : Int) % 8 == 0) = false := by simp; omega
      clear hM
      go_enter Try.func82, Try.ntmps82
      go_wp2_with (first
        | (go_at_call 44; refine (isCount_any _ _ _ _ hN).mono ?_; rintro e wx ⟨rfl, rfl⟩))
      go_ret
      exact ⟨rfl, B0⟩
set_option maxHeartbeats 4000000 in
theorem isTold_2 (pl nn : Int) (a1 a2 : Option Addr) (l1 l2 c1 c2 : Nat) (ws : List Int) (w : World) (h1 : l1 = ws.length) (s1 : SlI w a1 ws) (hl1 : ws.length ≤ 2000000) (hl2 : l2 ≤ 20000000) (b : Bool) (hb : tB 2 0 pl nn ws l1 l2 = b) :
    Calls Try.prog 82 #[rp 2 0 pl nn a1 a2 l1 l2 c1 c2] w fun e w' => e = .returned (.bool b) ∧ Below w.heap.size w w' := by
  have H1 : Hid (l1 = ws.length) := h1
  have hs : Hid (SlI w a1 ws) := s1
  have B0 := bel_alloc w (.cells #[.int .i64 2, .int .i64 0, .int .i64 pl, .int .i64 nn, .slice a1 l1 c1, .slice a2 l2 c2] 63)
  have S1 : Hid (SlI (w.alloc (.cells #[.int .i64 2, .int .i64 0, .int .i64 pl, .int .i64 nn, .slice a1 l1 c1, .slice a2 l2 c2] 63)) a1 ws) := s1.below B0
  clear h1 s1
  cases hN : inB l2 1 2000
  · skip
    have e : tB 2 0 pl nn ws l1 l2 = false := by simp [tB, hN]
    rw [e] at hb
    subst hb
    clear e
    go_enter Try.func82, Try.ntmps82
    go_wp2_with (first
      | (go_at_call 44; refine (isCount_any _ _ _ _ hN).mono ?_; rintro e wx ⟨rfl, rfl⟩))
    go_ret
    exact ⟨rfl, B0⟩
  · skip
    by_cases hM : l2 % 8 = 0
    · skip
      have e : tB 2 0 pl nn ws l1 l2 = true := by simp [tB, hN, hM]
      rw [e] at hb
      subst hb
      clear e
      have hMt : ((l2 : Int) % 8 == 0) = true := by simp; omega
      clear hM
      go_enter Try.func82, Try.ntmps82
      go_wp2_with (first
        | (go_at_call 44; refine (isCount_any _ _ _ _ hN).mono ?_; rintro e wx ⟨rfl, rfl⟩))
      go_ret
      exact ⟨rfl, B0⟩
    · skip
      have e : tB 2 0 pl nn ws l1 l2 = false := by simp [tB, hN, hM]
      rw [e] at hb
      subst hb
      clear e
      have hMt : ((l2 : Int) % 8 == 0) = false := by simp; omega
      clear hM
      go_enter Try.func82, Try.ntmps82
      go_wp2_with (first
        | (go_at_call 44; refine (isCount_any _ _ _ _ hN).mono ?_; rintro e wx ⟨rfl, rfl⟩))
      go_ret
      exact ⟨rfl, B0⟩
set_option maxHeartbeats 4000000 in
theorem isTold_3 (pl nn : Int) (a1 a2 : Option Addr) (l1 l2 c1 c2 : Nat) (ws : List Int) (w : World) (h1 : l1 = ws.length) (s1 : SlI w a1 ws) (hl1 : ws.length ≤ 2000000) (hl2 : l2 ≤ 20000000) (b : Bool) (hb : tB 3 0 pl nn ws l1 l2 = b) :
    Calls Try.prog 82 #[rp 3 0 pl nn a1 a2 l1 l2 c1 c2] w fun e w' => e = .returned (.bool b) ∧ Below w.heap.size w w' := by
  have H1 : Hid (l1 = ws.length) := h1
  have hs : Hid (SlI w a1 ws) := s1
  have B0 := bel_alloc w (.cells #[.int .i64 3, .int .i64 0, .int .i64 pl, .int .i64 nn, .slice a1 l1 c1, .slice a2 l2 c2] 63)
  have S1 : Hid (SlI (w.alloc (.cells #[.int .i64 3, .int .i64 0, .int .i64 pl, .int .i64 nn, .slice a1 l1 c1, .slice a2 l2 c2] 63)) a1 ws) := s1.below B0
  clear h1 s1
  cases hN : inB l1 1 125
  · skip
    have e : tB 3 0 pl nn ws l1 l2 = false := by simp [tB, hN]
    rw [e] at hb
    subst hb
    clear e
    go_enter Try.func82, Try.ntmps82
    go_wp2_with (first
      | (go_at_call 44; refine (isCount_any _ _ _ _ hN).mono ?_; rintro e wx ⟨rfl, rfl⟩))
    go_ret
    exact ⟨rfl, B0⟩
  · skip
    cases hW : allW ws
    · skip
      have e : tB 3 0 pl nn ws l1 l2 = false := by simp [tB, hN, hW]
      rw [e] at hb
      subst hb
      clear e
      go_enter Try.func82, Try.ntmps82
      go_wp2_with (first
        | (go_at_call 44; refine (isCount_any _ _ _ _ hN).mono ?_; rintro e wx ⟨rfl, rfl⟩)
        | (go_at_call 77; refine (areWords_any _ _ _ ws _ H1.out S1.out hl1 _ hW).mono ?_; rintro e wx ⟨rfl, rfl⟩))
      go_ret
      exact ⟨rfl, B0⟩
    · skip
      have e : tB 3 0 pl nn ws l1 l2 = true := by simp [tB, hN, hW]
      rw [e] at hb
      subst hb
      clear e
      go_enter Try.func82, Try.ntmps82
      go_wp2_with (first
        | (go_at_call 44; refine (isCount_any _ _ _ _ hN).mono ?_; rintro e wx ⟨rfl, rfl⟩)
        | (go_at_call 77; refine (areWords_any _ _ _ ws _ H1.out S1.out hl1 _ hW).mono ?_; rintro e wx ⟨rfl, rfl⟩))
      go_ret
      exact ⟨rfl, B0⟩
set_option maxHeartbeats 4000000 in
theorem isTold_4 (pl nn : Int) (a1 a2 : Option Addr) (l1 l2 c1 c2 : Nat) (ws : List Int) (w : World) (h1 : l1 = ws.length) (s1 : SlI w a1 ws) (hl1 : ws.length ≤ 2000000) (hl2 : l2 ≤ 20000000) (b : Bool) (hb : tB 4 0 pl nn ws l1 l2 = b) :
    Calls Try.prog 82 #[rp 4 0 pl nn a1 a2 l1 l2 c1 c2] w fun e w' => e = .returned (.bool b) ∧ Below w.heap.size w w' := by
  have H1 : Hid (l1 = ws.length) := h1
  have hs : Hid (SlI w a1 ws) := s1
  have B0 := bel_alloc w (.cells #[.int .i64 4, .int .i64 0, .int .i64 pl, .int .i64 nn, .slice a1 l1 c1, .slice a2 l2 c2] 63)
  have S1 : Hid (SlI (w.alloc (.cells #[.int .i64 4, .int .i64 0, .int .i64 pl, .int .i64 nn, .slice a1 l1 c1, .slice a2 l2 c2] 63)) a1 ws) := s1.below B0
  clear h1 s1
  cases hN : inB l1 1 125
  · skip
    have e : tB 4 0 pl nn ws l1 l2 = false := by simp [tB, hN]
    rw [e] at hb
    subst hb
    clear e
    go_enter Try.func82, Try.ntmps82
    go_wp2_with (first
      | (go_at_call 44; refine (isCount_any _ _ _ _ hN).mono ?_; rintro e wx ⟨rfl, rfl⟩))
    go_ret
    exact ⟨rfl, B0⟩
  · skip
    cases hW : allW ws
    · skip
      have e : tB 4 0 pl nn ws l1 l2 = false := by simp [tB, hN, hW]
      rw [e] at hb
      subst hb
      clear e
      go_enter Try.func82, Try.ntmps82
      go_wp2_with (first
        | (go_at_call 44; refine (isCount_any _ _ _ _ hN).mono ?_; rintro e wx ⟨rfl, rfl⟩)
        | (go_at_call 77; refine (areWords_any _ _ _ ws _ H1.out S1.out hl1 _ hW).mono ?_; rintro e wx ⟨rfl, rfl⟩))
      go_ret
      exact ⟨rfl, B0⟩
    · skip
      have e : tB 4 0 pl nn ws l1 l2 = true := by simp [tB, hN, hW]
      rw [e] at hb
      subst hb
      clear e
      go_enter Try.func82, Try.ntmps82
      go_wp2_with (first
        | (go_at_call 44; refine (isCount_any _ _ _ _ hN).mono ?_; rintro e wx ⟨rfl, rfl⟩)
        | (go_at_call 77; refine (areWords_any _ _ _ ws _ H1.out S1.out hl1 _ hW).mono ?_; rintro e wx ⟨rfl, rfl⟩))
      go_ret
      exact ⟨rfl, B0⟩
set_option maxHeartbeats 4000000 in
theorem isTold_23 (pl nn : Int) (a1 a2 : Option Addr) (l1 l2 c1 c2 : Nat) (ws : List Int) (w : World) (h1 : l1 = ws.length) (s1 : SlI w a1 ws) (hl1 : ws.length ≤ 2000000) (hl2 : l2 ≤ 20000000) (b : Bool) (hb : tB 23 0 pl nn ws l1 l2 = b) :
    Calls Try.prog 82 #[rp 23 0 pl nn a1 a2 l1 l2 c1 c2] w fun e w' => e = .returned (.bool b) ∧ Below w.heap.size w w' := by
  have H1 : Hid (l1 = ws.length) := h1
  have hs : Hid (SlI w a1 ws) := s1
  have B0 := bel_alloc w (.cells #[.int .i64 23, .int .i64 0, .int .i64 pl, .int .i64 nn, .slice a1 l1 c1, .slice a2 l2 c2] 63)
  have S1 : Hid (SlI (w.alloc (.cells #[.int .i64 23, .int .i64 0, .int .i64 pl, .int .i64 nn, .slice a1 l1 c1, .slice a2 l2 c2] 63)) a1 ws) := s1.below B0
  clear h1 s1
  cases hN : inB l1 1 125
  · skip
    have e : tB 23 0 pl nn ws l1 l2 = false := by simp [tB, hN]
    rw [e] at hb
    subst hb
    clear e
    go_enter Try.func82, Try.ntmps82
    go_wp2_with (first
      | (go_at_call 44; refine (isCount_any _ _ _ _ hN).mono ?_; rintro e wx ⟨rfl, rfl⟩))
    go_ret
    exact ⟨rfl, B0⟩
  · skip
    cases hW : allW ws
    · skip
      have e : tB 23 0 pl nn ws l1 l2 = false := by simp [tB, hN, hW]
      rw [e] at hb
      subst hb
      clear e
      go_enter Try.func82, Try.ntmps82
      go_wp2_with (first
        | (go_at_call 44; refine (isCount_any _ _ _ _ hN).mono ?_; rintro e wx ⟨rfl, rfl⟩)
        | (go_at_call 77; refine (areWords_any _ _ _ ws _ H1.out S1.out hl1 _ hW).mono ?_; rintro e wx ⟨rfl, rfl⟩))
      go_ret
      exact ⟨rfl, B0⟩
    · skip
      have e : tB 23 0 pl nn ws l1 l2 = true := by simp [tB, hN, hW]
      rw [e] at hb
      subst hb
      clear e
      go_enter Try.func82, Try.ntmps82
      go_wp2_with (first
        | (go_at_call 44; refine (isCount_any _ _ _ _ hN).mono ?_; rintro e wx ⟨rfl, rfl⟩)
        | (go_at_call 77; refine (areWords_any _ _ _ ws _ H1.out S1.out hl1 _ hW).mono ?_; rintro e wx ⟨rfl, rfl⟩))
      go_ret
      exact ⟨rfl, B0⟩
set_option maxHeartbeats 4000000 in
theorem isTold_5 (pl nn : Int) (a1 a2 : Option Addr) (l1 l2 c1 c2 : Nat) (ws : List Int) (w : World) (h1 : l1 = ws.length) (s1 : SlI w a1 ws) (hl1 : ws.length ≤ 2000000) (hl2 : l2 ≤ 20000000) (b : Bool) (hb : tB 5 0 pl nn ws l1 l2 = b) :
    Calls Try.prog 82 #[rp 5 0 pl nn a1 a2 l1 l2 c1 c2] w fun e w' => e = .returned (.bool b) ∧ Below w.heap.size w w' := by
  have H1 : Hid (l1 = ws.length) := h1
  have hs : Hid (SlI w a1 ws) := s1
  have B0 := bel_alloc w (.cells #[.int .i64 5, .int .i64 0, .int .i64 pl, .int .i64 nn, .slice a1 l1 c1, .slice a2 l2 c2] 63)
  have S1 : Hid (SlI (w.alloc (.cells #[.int .i64 5, .int .i64 0, .int .i64 pl, .int .i64 nn, .slice a1 l1 c1, .slice a2 l2 c2] 63)) a1 ws) := s1.below B0
  clear h1 s1
  cases hP : inB pl 0 65535
  · skip
    have e : tB 5 0 pl nn ws l1 l2 = false := by simp [tB, hP]
    rw [e] at hb
    subst hb
    clear e
    go_enter Try.func82, Try.ntmps82
    go_wp2_with (first
      | (go_at_call 76; refine (isWord_any _ _ _ hP).mono ?_; rintro e wx ⟨rfl, rfl⟩))
    go_ret
    exact ⟨rfl, B0⟩
  · skip
    by_cases hL : l2 = 1
    · skip
      have e : tB 5 0 pl nn ws l1 l2 = true := by simp [tB, hP, hL]
      rw [e] at hb
      subst hb
      clear e
      have hLi : (l2 : Int) = 1 := by omega
      clear hL
      go_enter Try.func82, Try.ntmps82
      go_wp2_with (first
        | (go_at_call 76; refine (isWord_any _ _ _ hP).mono ?_; rintro e wx ⟨rfl, rfl⟩))
      go_ret
      exact ⟨rfl, B0⟩
    · skip
      have e : tB 5 0 pl nn ws l1 l2 = false := by simp [tB, hP, hL]
      rw [e] at hb
      subst hb
      clear e
      have hLi : ((l2 : Int) == 1) = false := by simp; omega
      clear hL
      go_enter Try.func82, Try.ntmps82
      go_wp2_with (first
        | (go_at_call 76; refine (isWord_any _ _ _ hP).mono ?_; rintro e wx ⟨rfl, rfl⟩))
      go_ret
      exact ⟨rfl, B0⟩
set_option maxHeartbeats 4000000 in
theorem isTold_6 (pl nn : Int) (a1 a2 : Option Addr) (l1 l2 c1 c2 : Nat) (ws : List Int) (w : World) (h1 : l1 = ws.length) (s1 : SlI w a1 ws) (hl1 : ws.length ≤ 2000000) (hl2 : l2 ≤ 20000000) (b : Bool) (hb : tB 6 0 pl nn ws l1 l2 = b) :
    Calls Try.prog 82 #[rp 6 0 pl nn a1 a2 l1 l2 c1 c2] w fun e w' => e = .returned (.bool b) ∧ Below w.heap.size w w' := by
  have H1 : Hid (l1 = ws.length) := h1
  have hs : Hid (SlI w a1 ws) := s1
  have B0 := bel_alloc w (.cells #[.int .i64 6, .int .i64 0, .int .i64 pl, .int .i64 nn, .slice a1 l1 c1, .slice a2 l2 c2] 63)
  have S1 : Hid (SlI (w.alloc (.cells #[.int .i64 6, .int .i64 0, .int .i64 pl, .int .i64 nn, .slice a1 l1 c1, .slice a2 l2 c2] 63)) a1 ws) := s1.below B0
  clear h1 s1
  cases hP : inB pl 0 65535
  · skip
    have e : tB 6 0 pl nn ws l1 l2 = false := by simp [tB, hP]
    rw [e] at hb
    subst hb
    clear e
    go_enter Try.func82, Try.ntmps82
    go_wp2_with (first
      | (go_at_call 76; refine (isWord_any _ _ _ hP).mono ?_; rintro e wx ⟨rfl, rfl⟩))
    go_ret
    exact ⟨rfl, B0⟩
  · skip
    by_cases hL : l1 = 1
    · skip
      cases hW : allW ws
      · skip
        have e : tB 6 0 pl nn ws l1 l2 = false := by simp [tB, hP, hL, hW]
        rw [e] at hb
        subst hb
        clear e
        have hLi : (l1 : Int) = 1 := by omega
        clear hL
        go_enter Try.func82, Try.ntmps82
        go_wp2_with (first
          | (go_at_call 76; refine (isWord_any _ _ _ hP).mono ?_; rintro e wx ⟨rfl, rfl⟩)
          | (go_at_call 77; refine (areWords_any _ _ _ ws _ H1.out S1.out hl1 _ hW).mono ?_; rintro e wx ⟨rfl, rfl⟩))
        go_ret
        exact ⟨rfl, B0⟩
      · skip
        have e : tB 6 0 pl nn ws l1 l2 = true := by simp [tB, hP, hL, hW]
        rw [e] at hb
        subst hb
        clear e
        have hLi : (l1 : Int) = 1 := by omega
        clear hL
        go_enter Try.func82, Try.ntmps82
        go_wp2_with (first
          | (go_at_call 76; refine (isWord_any _ _ _ hP).mono ?_; rintro e wx ⟨rfl, rfl⟩)
          | (go_at_call 77; refine (areWords_any _ _ _ ws _ H1.out S1.out hl1 _ hW).mono ?_; rintro e wx ⟨rfl, rfl⟩))
        go_ret
        exact ⟨rfl, B0⟩
    · skip
      have e : tB 6 0 pl nn ws l1 l2 = false := by simp [tB, hP, hL]
      rw [e] at hb
      subst hb
      clear e
      have hLi : ((l1 : Int) == 1) = false := by simp; omega
      clear hL
      go_enter Try.func82, Try.ntmps82
      go_wp2_with (first
        | (go_at_call 76; refine (isWord_any _ _ _ hP).mono ?_; rintro e wx ⟨rfl, rfl⟩))
      go_ret
      exact ⟨rfl, B0⟩
set_option maxHeartbeats 4000000 in
theorem isTold_22 (pl nn : Int) (a1 a2 : Option Addr) (l1 l2 c1 c2 : Nat) (ws : List Int) (w : World) (h1 : l1 = ws.length) (s1 : SlI w a1 ws) (hl1 : ws.length ≤ 2000000) (hl2 : l2 ≤ 20000000) (b : Bool) (hb : tB 22 0 pl nn ws l1 l2 = b) :
    Calls Try.prog 82 #[rp 22 0 pl nn a1 a2 l1 l2 c1 c2] w fun e w' => e = .returned (.bool b) ∧ Below w.heap.size w w' := by
  have H1 : Hid (l1 = ws.length) := h1
  have hs : Hid (SlI w a1 ws) := s1
  have B0 := bel_alloc w (.cells #[.int .i64 22, .int .i64 0, .int .i64 pl, .int .i64 nn, .slice a1 l1 c1, .slice a2 l2 c2] 63)
  have S1 : Hid (SlI (w.alloc (.cells #[.int .i64 22, .int .i64 0, .int .i64 pl, .int .i64 nn, .slice a1 l1 c1, .slice a2 l2 c2] 63)) a1 ws) := s1.below B0
  clear h1 s1
  cases hP : inB pl 0 65535
  · skip
    have e : tB 22 0 pl nn ws l1 l2 = false := by simp [tB, hP]
    rw [e] at hb
    subst hb
    clear e
    go_enter Try.func82, Try.ntmps82
    go_wp2_with (first
      | (go_at_call 76; refine (isWord_any _ _ _ hP).mono ?_; rintro e wx ⟨rfl, rfl⟩))
    go_ret
    exact ⟨rfl, B0⟩
  · skip
    by_cases hL : l1 = 2
    · skip
      cases hW : allW ws
      · skip
        have e : tB 22 0 pl nn ws l1 l2 = false := by simp [tB, hP, hL, hW]
        rw [e] at hb
        subst hb
        clear e
        have hLi : (l1 : Int) = 2 := by omega
        clear hL
        go_enter Try.func82, Try.ntmps82
        go_wp2_with (first
          | (go_at_call 76; refine (isWord_any _ _ _ hP).mono ?_; rintro e wx ⟨rfl, rfl⟩)
          | (go_at_call 77; refine (areWords_any _ _ _ ws _ H1.out S1.out hl1 _ hW).mono ?_; rintro e wx ⟨rfl, rfl⟩))
        go_ret
        exact ⟨rfl, B0⟩
      · skip
        have e : tB 22 0 pl nn ws l1 l2 = true := by simp [tB, hP, hL, hW]
        rw [e] at hb
        subst hb
        clear e
        have hLi : (l1 : Int) = 2 := by omega
        clear hL
        go_enter Try.func82, Try.ntmps82
        go_wp2_with (first
          | (go_at_call 76; refine (isWord_any _ _ _ hP).mono ?_; rintro e wx ⟨rfl, rfl⟩)
          | (go_at_call 77; refine (areWords_any _ _ _ ws _ H1.out S1.out hl1 _ hW).mono ?_; rintro e wx ⟨rfl, rfl⟩))
        go_ret
        exact ⟨rfl, B0⟩
    · skip
      have e : tB 22 0 pl nn ws l1 l2 = false := by simp [tB, hP, hL]
      rw [e] at hb
      subst hb
      clear e
      have hLi : ((l1 : Int) == 2) = false := by simp; omega
      clear hL
      go_enter Try.func82, Try.ntmps82
      go_wp2_with (first
        | (go_at_call 76; refine (isWord_any _ _ _ hP).mono ?_; rintro e wx ⟨rfl, rfl⟩))
      go_ret
      exact ⟨rfl, B0⟩
set_option maxHeartbeats 4000000 in
theorem isTold_15 (pl nn : Int) (a1 a2 : Option Addr) (l1 l2 c1 c2 : Nat) (ws : List Int) (w : World) (h1 : l1 = ws.length) (s1 : SlI w a1 ws) (hl1 : ws.length ≤ 2000000) (hl2 : l2 ≤ 20000000) (b : Bool) (hb : tB 15 0 pl nn ws l1 l2 = b) :
    Calls Try.prog 82 #[rp 15 0 pl nn a1 a2 l1 l2 c1 c2] w fun e w' => e = .returned (.bool b) ∧ Below w.heap.size w w' := by
  have H1 : Hid (l1 = ws.length) := h1
  have hs : Hid (SlI w a1 ws) := s1
  have B0 := bel_alloc w (.cells #[.int .i64 15, .int .i64 0, .int .i64 pl, .int .i64 nn, .slice a1 l1 c1, .slice a2 l2 c2] 63)
  have S1 : Hid (SlI (w.alloc (.cells #[.int .i64 15, .int .i64 0, .int .i64 pl, .int .i64 nn, .slice a1 l1 c1, .slice a2 l2 c2] 63)) a1 ws) := s1.below B0
  clear h1 s1
  cases hP : inB pl 0 65535
  · skip
    have e : tB 15 0 pl nn ws l1 l2 = false := by simp [tB, hP]
    rw [e] at hb
    subst hb
    clear e
    go_enter Try.func82, Try.ntmps82
    go_wp2_with (first
      | (go_at_call 76; refine (isWord_any _ _ _ hP).mono ?_; rintro e wx ⟨rfl, rfl⟩))
    go_ret
    exact ⟨rfl, B0⟩
  · skip
    cases hN : inB nn 1 1968
    · skip
      have e : tB 15 0 pl nn ws l1 l2 = false := by simp [tB, hP, hN]
      rw [e] at hb
      subst hb
      clear e
      go_enter Try.func82, Try.ntmps82
      go_wp2_with (first
        | (go_at_call 44; refine (isCount_any _ _ _ _ hN).mono ?_; rintro e wx ⟨rfl, rfl⟩)
        | (go_at_call 76; refine (isWord_any _ _ _ hP).mono ?_; rintro e wx ⟨rfl, rfl⟩))
      go_ret
      exact ⟨rfl, B0⟩
    · skip
      have e : tB 15 0 pl nn ws l1 l2 = true := by simp [tB, hP, hN]
      rw [e] at hb
      subst hb
      clear e
      go_enter Try.func82, Try.ntmps82
      go_wp2_with (first
        | (go_at_call 44; refine (isCount_any _ _ _ _ hN).mono ?_; rintro e wx ⟨rfl, rfl⟩)
        | (go_at_call 76; refine (isWord_any _ _ _ hP).mono ?_; rintro e wx ⟨rfl, rfl⟩))
      go_ret
      exact ⟨rfl, B0⟩
set_option maxHeartbeats 4000000 in
theorem isTold_16 (pl nn : Int) (a1 a2 : Option Addr) (l1 l2 c1 c2 : Nat) (ws : List Int) (w : World) (h1 : l1 = ws.length) (s1 : SlI w a1 ws) (hl1 : ws.length ≤ 2000000) (hl2 : l2 ≤ 20000000) (b : Bool) (hb : tB 16 0 pl nn ws l1 l2 = b) :
    Calls Try.prog 82 #[rp 16 0 pl nn a1 a2 l1 l2 c1 c2] w fun e w' => e = .returned (.bool b) ∧ Below w.heap.size w w' := by
  have H1 : Hid (l1 = ws.length) := h1
  have hs : Hid (SlI w a1 ws) := s1
  have B0 := bel_alloc w (.cells #[.int .i64 16, .int .i64 0, .int .i64 pl, .int .i64 nn, .slice a1 l1 c1, .slice a2 l2 c2] 63)
  have S1 : Hid (SlI (w.alloc (.cells #[.int .i64 16, .int .i64 0, .int .i64 pl, .int .i64 nn, .slice a1 l1 c1, .slice a2 l2 c2] 63)) a1 ws) := s1.below B0
  clear h1 s1
  cases hP : inB pl 0 65535
  · skip
    have e : tB 16 0 pl nn ws l1 l2 = false := by simp [tB, hP]
    rw [e] at hb
    subst hb
    clear e
    go_enter Try.func82, Try.ntmps82
    go_wp2_with (first
      | (go_at_call 76; refine (isWord_any _ _ _ hP).mono ?_; rintro e wx ⟨rfl, rfl⟩))
    go_ret
    exact ⟨rfl, B0⟩
  · skip
    cases hN : inB nn 1 123
    · skip
      have e : tB 16 0 pl nn ws l1 l2 = false := by simp [tB, hP, hN]
      rw [e] at hb
      subst hb
      clear e
      go_enter Try.func82, Try.ntmps82
      go_wp2_with (first
        | (go_at_call 44; refine (isCount_any _ _ _ _ hN).mono ?_; rintro e wx ⟨rfl, rfl⟩)
        | (go_at_call 76; refine (isWord_any _ _ _ hP).mono ?_; rintro e wx ⟨rfl, rfl⟩))
      go_ret
      exact ⟨rfl, B0⟩
    · skip
      have e : tB 16 0 pl nn ws l1 l2 = true := by simp [tB, hP, hN]
      rw [e] at hb
      subst hb
      clear e
      go_enter Try.func82, Try.ntmps82
      go_wp2_with (first
        | (go_at_call 44; refine (isCount_any _ _ _ _ hN).mono ?_; rintro e wx ⟨rfl, rfl⟩)
        | (go_at_call 76; refine (isWord_any _ _ _ hP).mono ?_; rintro e wx ⟨rfl, rfl⟩))
      go_ret
      exact ⟨rfl, B0⟩
set_option maxHeartbeats 4000000 in
theorem isTold_any (kd fl pl nn : Int) (a1 a2 : Option Addr) (l1 l2 c1 c2 : Nat) (ws : List Int) (w : World) (h1 : l1 = ws.length) (s1 : SlI w a1 ws) (hl1 : ws.length ≤ 2000000) (hl2 : l2 ≤ 20000000) (hk : kindB kd = true) (b : Bool) (hb : tB kd fl pl nn ws l1 l2 = b) :
    Calls Try.prog 82 #[rp kd fl pl nn a1 a2 l1 l2 c1 c2] w fun e w' => e = .returned (.bool b) ∧ Below w.heap.size w w' := by
  have H1 : Hid (l1 = ws.length) := h1
  have hs : Hid (SlI w a1 ws) := s1
  have B0 := bel_alloc w (.cells #[.int .i64 kd, .int .i64 fl, .int .i64 pl, .int .i64 nn, .slice a1 l1 c1, .slice a2 l2 c2] 63)
  have S1 : Hid (SlI (w.alloc (.cells #[.int .i64 kd, .int .i64 fl, .int .i64 pl, .int .i64 nn, .slice a1 l1 c1, .slice a2 l2 c2] 63)) a1 ws) := s1.below B0
  clear h1 s1
  by_cases h0 : fl = 0
  · skip
    subst h0
    clear S1 B0
    obtain rfl | rfl | rfl | rfl | rfl | rfl | rfl | rfl | rfl | rfl := of_decide_eq_true hk
    · exact isTold_1 pl nn a1 a2 l1 l2 c1 c2 ws w H1.out hs.out hl1 hl2 b hb
    · exact isTold_2 pl nn a1 a2 l1 l2 c1 c2 ws w H1.out hs.out hl1 hl2 b hb
    · exact isTold_3 pl nn a1 a2 l1 l2 c1 c2 ws w H1.out hs.out hl1 hl2 b hb
    · exact isTold_4 pl nn a1 a2 l1 l2 c1 c2 ws w H1.out hs.out hl1 hl2 b hb
    · exact isTold_5 pl nn a1 a2 l1 l2 c1 c2 ws w H1.out hs.out hl1 hl2 b hb
    · exact isTold_6 pl nn a1 a2 l1 l2 c1 c2 ws w H1.out hs.out hl1 hl2 b hb
    · exact isTold_15 pl nn a1 a2 l1 l2 c1 c2 ws w H1.out hs.out hl1 hl2 b hb
    · exact isTold_16 pl nn a1 a2 l1 l2 c1 c2 ws w H1.out hs.out hl1 hl2 b hb
    · exact isTold_22 pl nn a1 a2 l1 l2 c1 c2 ws w H1.out hs.out hl1 hl2 b hb
    · exact isTold_23 pl nn a1 a2 l1 l2 c1 c2 ws w H1.out hs.out hl1 hl2 b hb
  · skip
    have h0i : ¬ fl = 0 := h0
    cases hN : inB fl 1 255
    · skip
      have e : tB kd fl pl nn ws l1 l2 = false := by simp [tB, h0, hN]
      rw [e] at hb
      subst hb
      clear e
      go_enter Try.func82, Try.ntmps82
      go_wp2_with (first
        | (go_at_call 85; refine (isFault_any _ _ _ hN).mono ?_; rintro e wx ⟨rfl, rfl⟩))
      go_ret
      exact ⟨rfl, B0⟩
    · skip
      have e : tB kd fl pl nn ws l1 l2 = true := by simp [tB, h0, hN]
      rw [e] at hb
      subst hb
      clear e
      go_enter Try.func82, Try.ntmps82
      go_wp2_with (first
        | (go_at_call 85; refine (isFault_any _ _ _ hN).mono ?_; rintro e wx ⟨rfl, rfl⟩))
      go_ret
      exact ⟨rfl, B0⟩
end Go.Proofs.Ytfagbjffhjnmaaa
namespace Go.Proofs.Ytfagbjffhjnmaaa
open Go.RowKit
set_option linter.unusedVariables false
set_option linter.unusedSimpArgs false
set_option maxHeartbeats 4000000 in
theorem namedOf_1 (pl nn : Int) (a1 a2 : Option Addr) (l1 l2 c1 c2 : Nat) (w : World) :
    Calls Try.prog 83 #[rp 1 0 pl nn a1 a2 l1 l2 c1 c2] w fun e w' => e = .returned (rp 1 0 0 0 none a2 0 l2 0 c2) ∧ Below w.heap.size w w' := by
  obtain ⟨W0, hW0⟩ : ∃ W0, W0 = (w.alloc (.cells #[.int .i64 1, .int .i64 0, .int .i64 pl, .int .i64 nn, .slice a1 l1 c1, .slice a2 l2 c2] 63)).alloc (.cells #[.int .i64 0, .int .i64 0, .int .i64 0, .int .i64 0, .slice none 0 0, .slice none 0 0] 63) := ⟨_, rfl⟩
  have HW : Hid (W0 = _) := hW0
  have B0 : Below w.heap.size w W0 := by rw [hW0]; exact bel_next (bel_alloc w _) (bel_alloc _ _)
  have X0 : Blk W0 w.heap.size 63 #[.int .i64 1, .int .i64 0, .int .i64 pl, .int .i64 nn, .slice a1 l1 c1, .slice a2 l2 c2] := by rw [hW0]; exact (Blk.new w _ _).below (bel_alloc _ _)
  have R0 : Blk W0 (w.heap.size + 1) 63 #[.int .i64 0, .int .i64 0, .int .i64 0, .int .i64 0, .slice none 0 0, .slice none 0 0] := by
    rw [hW0]; have := Blk.new (w.alloc (.cells #[.int .i64 1, .int .i64 0, .int .i64 pl, .int .i64 nn, .slice a1 l1 c1, .slice a2 l2 c2] 63)) #[.int .i64 0, .int .i64 0, .int .i64 0, .int .i64 0, .slice none 0 0, .slice none 0 0] 63; simpa using this
  obtain ⟨x0, x1, x2, x3, x4, x5⟩ := X0.six
  obtain ⟨y0, y1, y2, y3, y4, y5⟩ := R0.six
  have fy := R0.fro
  clear hW0 X0 R0
  go_enter Try.func83, Try.ntmps83
  go_upto_region 1 with fail
  rw [← HW.out]
  go_wp2
  refine bodyPost_ret (v := rp 1 0 0 0 none a2 0 l2 0 c2) (by simp [results, Try.results83, go_sem, y0, y1, y2, y3, y4, y5]) rfl ?_
  exact ⟨rfl, belp_set6 B0 (Nat.le_succ _)⟩
set_option maxHeartbeats 4000000 in
theorem namedOf_2 (pl nn : Int) (a1 a2 : Option Addr) (l1 l2 c1 c2 : Nat) (w : World) :
    Calls Try.prog 83 #[rp 2 0 pl nn a1 a2 l1 l2 c1 c2] w fun e w' => e = .returned (rp 2 0 0 0 none a2 0 l2 0 c2) ∧ Below w.heap.size w w' := by
  obtain ⟨W0, hW0⟩ : ∃ W0, W0 = (w.alloc (.cells #[.int .i64 2, .int .i64 0, .int .i64 pl, .int .i64 nn, .slice a1 l1 c1, .slice a2 l2 c2] 63)).alloc (.cells #[.int .i64 0, .int .i64 0, .int .i64 0, .int .i64 0, .slice none 0 0, .slice none 0 0] 63) := ⟨_, rfl⟩
  have HW : Hid (W0 = _) := hW0
  have B0 : Below w.heap.size w W0 := by rw [hW0]; exact bel_next (bel_alloc w _) (bel_alloc _ _)
  have X0 : Blk W0 w.heap.size 63 #[.int .i64 2, .int .i64 0, .int .i64 pl, .int .i64 nn, .slice a1 l1 c1, .slice a2 l2 c2] := by rw [hW0]; exact (Blk.new w _ _).below (bel_alloc _ _)
  have R0 : Blk W0 (w.heap.size + 1) 63 #[.int .i64 0, .int .i64 0, .int .i64 0, .int .i64 0, .slice none 0 0, .slice none 0 0] := by
    rw [hW0]; have := Blk.new (w.alloc (.cells #[.int .i64 2, .int .i64 0, .int .i64 pl, .int .i64 nn, .slice a1 l1 c1, .slice a2 l2 c2] 63)) #[.int .i64 0, .int .i64 0, .int .i64 0, .int .i64 0, .slice none 0 0, .slice none 0 0] 63; simpa using this
  obtain ⟨x0, x1, x2, x3, x4, x5⟩ := X0.six
  obtain ⟨y0, y1, y2, y3, y4, y5⟩ := R0.six
  have fy := R0.fro
  clear hW0 X0 R0
  go_enter Try.func83, Try.ntmps83
  go_upto_region 1 with fail
  rw [← HW.out]
  go_wp2
  refine bodyPost_ret (v := rp 2 0 0 0 none a2 0 l2 0 c2) (by simp [results, Try.results83, go_sem, y0, y1, y2, y3, y4, y5]) rfl ?_
  exact ⟨rfl, belp_set6 B0 (Nat.le_succ _)⟩
set_option maxHeartbeats 4000000 in
theorem namedOf_3 (pl nn : Int) (a1 a2 : Option Addr) (l1 l2 c1 c2 : Nat) (w : World) :
    Calls Try.prog 83 #[rp 3 0 pl nn a1 a2 l1 l2 c1 c2] w fun e w' => e = .returned (rp 3 0 0 0 a1 none l1 0 c1 0) ∧ Below w.heap.size w w' := by
  obtain ⟨W0, hW0⟩ : ∃ W0, W0 = (w.alloc (.cells #[.int .i64 3, .int .i64 0, .int .i64 pl, .int .i64 nn, .slice a1 l1 c1, .slice a2 l2 c2] 63)).alloc (.cells #[.int .i64 0, .int .i64 0, .int .i64 0, .int .i64 0, .slice none 0 0, .slice none 0 0] 63) := ⟨_, rfl⟩
  have HW : Hid (W0 = _) := hW0
  have B0 : Below w.heap.size w W0 := by rw [hW0]; exact bel_next (bel_alloc w _) (bel_alloc _ _)
  have X0 : Blk W0 w.heap.size 63 #[.int .i64 3, .int .i64 0, .int .i64 pl, .int .i64 nn, .slice a1 l1 c1, .slice a2 l2 c2] := by rw [hW0]; exact (Blk.new w _ _).below (bel_alloc _ _)
  have R0 : Blk W0 (w.heap.size + 1) 63 #[.int .i64 0, .int .i64 0, .int .i64 0, .int .i64 0, .slice none 0 0, .slice none 0 0] := by
    rw [hW0]; have := Blk.new (w.alloc (.cells #[.int .i64 3, .int .i64 0, .int .i64 pl, .int .i64 nn, .slice a1 l1 c1, .slice a2 l2 c2] 63)) #[.int .i64 0, .int .i64 0, .int .i64 0, .int .i64 0, .slice none 0 0, .slice none 0 0] 63; simpa using this
  obtain ⟨x0, x1, x2, x3, x4, x5⟩ := X0.six
  obtain ⟨y0, y1, y2, y3, y4, y5⟩ := R0.six
  have fy := R0.fro
  clear hW0 X0 R0
  go_enter Try.func83, Try.ntmps83
  go_upto_region 1 with fail
  rw [← HW.out]
  go_wp2
  refine bodyPost_ret (v := rp 3 0 0 0 a1 none l1 0 c1 0) (by simp [results, Try.results83, go_sem, y0, y1, y2, y3, y4, y5]) rfl ?_
  exact ⟨rfl, belp_set6 B0 (Nat.le_succ _)⟩
set_option maxHeartbeats 4000000 in
theorem namedOf_4 (pl nn : Int) (a1 a2 : Option Addr) (l1 l2 c1 c2 : Nat) (w : World) :
    Calls Try.prog 83 #[rp 4 0 pl nn a1 a2 l1 l2 c1 c2] w fun e w' => e = .returned (rp 4 0 0 0 a1 none l1 0 c1 0) ∧ Below w.heap.size w w' := by
  obtain ⟨W0, hW0⟩ : ∃ W0, W0 = (w.alloc (.cells #[.int .i64 4, .int .i64 0, .int .i64 pl, .int .i64 nn, .slice a1 l1 c1, .slice a2 l2 c2] 63)).alloc (.cells #[.int .i64 0, .int .i64 0, .int .i64 0, .int .i64 0, .slice none 0 0, .slice none 0 0] 63) := ⟨_, rfl⟩
  have HW : Hid (W0 = _) := hW0
  have B0 : Below w.heap.size w W0 := by rw [hW0]; exact bel_next (bel_alloc w _) (bel_alloc _ _)
  have X0 : Blk W0 w.heap.size 63 #[.int .i64 4, .int .i64 0, .int .i64 pl, .int .i64 nn, .slice a1 l1 c1, .slice a2 l2 c2] := by rw [hW0]; exact (Blk.new w _ _).below (bel_alloc _ _)
  have R0 : Blk W0 (w.heap.size + 1) 63 #[.int .i64 0, .int .i64 0, .int .i64 0, .int .i64 0, .slice none 0 0, .slice none 0 0] := by
    rw [hW0]; have := Blk.new (w.alloc (.cells #[.int .i64 4, .int .i64 0, .int .i64 pl, .int .i64 nn, .slice a1 l1 c1, .slice a2 l2 c2] 63)) #[.int .i64 0, .int .i64 0, .int .i64 0, .int .i64 0, .slice none 0 0, .slice none 0 0] 63; simpa using this
  obtain ⟨x0, x1, x2, x3, x4, x5⟩ := X0.six
  obtain ⟨y0, y1, y2, y3, y4, y5⟩ := R0.six
  have fy := R0.fro
  clear hW0 X0 R0
  go_enter Try.func83, Try.ntmps83
  go_upto_region 1 with fail
  rw [← HW.out]
  go_wp2
  refine bodyPost_ret (v := rp 4 0 0 0 a1 none l1 0 c1 0) (by simp [results, Try.results83, go_sem, y0, y1, y2, y3, y4, y5]) rfl ?_
  exact ⟨rfl, belp_set6 B0 (Nat.le_succ _)⟩
set_option maxHeartbeats 4000000 in
theorem namedOf_23 (pl nn : Int) (a1 a2 : Option Addr) (l1 l2 c1 c2 : Nat) (w : World) :
    Calls Try.prog 83 #[rp 23 0 pl nn a1 a2 l1 l2 c1 c2] w fun e w' => e = .returned (rp 23 0 0 0 a1 none l1 0 c1 0) ∧ Below w.heap.size w w' := by
  obtain ⟨W0, hW0⟩ : ∃ W0, W0 = (w.alloc (.cells #[.int .i64 23, .int .i64 0, .int .i64 pl, .int .i64 nn, .slice a1 l1 c1, .slice a2 l2 c2] 63)).alloc (.cells #[.int .i64 0, .int .i64 0, .int .i64 0, .int .i64 0, .slice none 0 0, .slice none 0 0] 63) := ⟨_, rfl⟩
  have HW : Hid (W0 = _) := hW0
  have B0 : Below w.heap.size w W0 := by rw [hW0]; exact bel_next (bel_alloc w _) (bel_alloc _ _)
  have X0 : Blk W0 w.heap.size 63 #[.int .i64 23, .int .i64 0, .int .i64 pl, .int .i64 nn, .slice a1 l1 c1, .slice a2 l2 c2] := by rw [hW0]; exact (Blk.new w _ _).below (bel_alloc _ _)
  have R0 : Blk W0 (w.heap.size + 1) 63 #[.int .i64 0, .int .i64 0, .int .i64 0, .int .i64 0, .slice none 0 0, .slice none 0 0] := by
    rw [hW0]; have := Blk.new (w.alloc (.cells #[.int .i64 23, .int .i64 0, .int .i64 pl, .int .i64 nn, .slice a1 l1 c1, .slice a2 l2 c2] 63)) #[.int .i64 0, .int .i64 0, .int .i64 0, .int .i64 0, .slice none 0 0, .slice none 0 0] 63; simpa using this
  obtain ⟨x0, x1, x2, x3, x4, x5⟩ := X0.six
  obtain ⟨y0, y1, y2, y3, y4, y5⟩ := R0.six
  have fy := R0.fro
  clear hW0 X0 R0
  go_enter Try.func83, Try.ntmps83
  go_upto_region 1 with fail
  rw [← HW.out]
  go_wp2
  refine bodyPost_ret (v := rp 23 0 0 0 a1 none l1 0 c1 0) (by simp [results, Try.results83, go_sem, y0, y1, y2, y3, y4, y5]) rfl ?_
  exact ⟨rfl, belp_set6 B0 (Nat.le_succ _)⟩
set_option maxHeartbeats 4000000 in
theorem namedOf_5 (pl nn : Int) (a1 a2 : Option Addr) (l1 l2 c1 c2 : Nat) (w : World) :
    Calls Try.prog 83 #[rp 5 0 pl nn a1 a2 l1 l2 c1 c2] w fun e w' => e = .returned (rp 5 0 pl 0 none a2 0 l2 0 c2) ∧ Below w.heap.size w w' := by
  obtain ⟨W0, hW0⟩ : ∃ W0, W0 = (w.alloc (.cells #[.int .i64 5, .int .i64 0, .int .i64 pl, .int .i64 nn, .slice a1 l1 c1, .slice a2 l2 c2] 63)).alloc (.cells #[.int .i64 0, .int .i64 0, .int .i64 0, .int .i64 0, .slice none 0 0, .slice none 0 0] 63) := ⟨_, rfl⟩
  have HW : Hid (W0 = _) := hW0
  have B0 : Below w.heap.size w W0 := by rw [hW0]; exact bel_next (bel_alloc w _) (bel_alloc _ _)
  have X0 : Blk W0 w.heap.size 63 #[.int .i64 5, .int .i64 0, .int .i64 pl, .int .i64 nn, .slice a1 l1 c1, .slice a2 l2 c2] := by rw [hW0]; exact (Blk.new w _ _).below (bel_alloc _ _)
  have R0 : Blk W0 (w.heap.size + 1) 63 #[.int .i64 0, .int .i64 0, .int .i64 0, .int .i64 0, .slice none 0 0, .slice none 0 0] := by
    rw [hW0]; have := Blk.new (w.alloc (.cells #[.int .i64 5, .int .i64 0, .int .i64 pl, .int .i64 nn, .slice a1 l1 c1, .slice a2 l2 c2] 63)) #[.int .i64 0, .int .i64 0, .int .i64 0, .int .i64 0, .slice none 0 0, .slice none 0 0] 63; simpa using this
  obtain ⟨x0, x1, x2, x3, x4, x5⟩ := X0.six
  obtain ⟨y0, y1, y2, y3, y4, y5⟩ := R0.six
  have fy := R0.fro
  clear hW0 X0 R0
  go_enter Try.func83, Try.ntmps83
  go_upto_region 1 with fail
  rw [← HW.out]
  go_wp2
  refine bodyPost_ret (v := rp 5 0 pl 0 none a2 0 l2 0 c2) (by simp [results, Try.results83, go_sem, y0, y1, y2, y3, y4, y5]) rfl ?_
  exact ⟨rfl, belp_set6 B0 (Nat.le_succ _)⟩
set_option maxHeartbeats 4000000 in
theorem namedOf_6 (pl nn : Int) (a1 a2 : Option Addr) (l1 l2 c1 c2 : Nat) (w : World) :
    Calls Try.prog 83 #[rp 6 0 pl nn a1 a2 l1 l2 c1 c2] w fun e w' => e = .returned (rp 6 0 pl 0 a1 none l1 0 c1 0) ∧ Below w.heap.size w w' := by
  obtain ⟨W0, hW0⟩ : ∃ W0, W0 = (w.alloc (.cells #[.int .i64 6, .int .i64 0, .int .i64 pl, .int .i64 nn, .slice a1 l1 c1, .slice a2 l2 c2] 63)).alloc (.cells #[.int .i64 0, .int .i64 0, .int .i64 0, .int .i64 0, .slice none 0 0, .slice none 0 0] 63) := ⟨_, rfl⟩
  have HW : Hid (W0 = _) := hW0
  have B0 : Below w.heap.size w W0 := by rw [hW0]; exact bel_next (bel_alloc w _) (bel_alloc _ _)
  have X0 : Blk W0 w.heap.size 63 #[.int .i64 6, .int .i64 0, .int .i64 pl, .int .i64 nn, .slice a1 l1 c1, .slice a2 l2 c2] := by rw [hW0]; exact (Blk.new w _ _).below (bel_alloc _ _)
  have R0 : Blk W0 (w.heap.size + 1) 63 #[.int .i64 0, .int .i64 0, .int .i64 0, .int .i64 0, .slice none 0 0, .slice none 0 0] := by
    rw [hW0]; have := Blk.new (w.alloc (.cells #[.int .i64 6, .int .i64 0, .int .i64 pl, .int .i64 nn, .slice a1 l1 c1, .slice a2 l2 c2] 63)) #[.int .i64 0, .int .i64 0, .int .i64 0, .int .i64 0, .slice none 0 0, .slice none 0 0] 63; simpa using this
  obtain ⟨x0, x1, x2, x3, x4, x5⟩ := X0.six
  obtain ⟨y0, y1, y2, y3, y4, y5⟩ := R0.six
  have fy := R0.fro
  clear hW0 X0 R0
  go_enter Try.func83, Try.ntmps83
  go_upto_region 1 with fail
  rw [← HW.out]
  go_wp2
  refine bodyPost_ret (v := rp 6 0 pl 0 a1 none l1 0 c1 0) (by simp [results, Try.results83, go_sem, y0, y1, y2, y3, y4, y5]) rfl ?_
  exact ⟨rfl, belp_set6 B0 (Nat.le_succ _)⟩
set_option maxHeartbeats 4000000 in
theorem namedOf_22 (pl nn : Int) (a1 a2 : Option Addr) (l1 l2 c1 c2 : Nat) (w : World) :
    Calls Try.prog 83 #[rp 22 0 pl nn a1 a2 l1 l2 c1 c2] w fun e w' => e = .returned (rp 22 0 pl 0 a1 none l1 0 c1 0) ∧ Below w.heap.size w w' := by
  obtain ⟨W0, hW0⟩ : ∃ W0, W0 = (w.alloc (.cells #[.int .i64 22, .int .i64 0, .int .i64 pl, .int .i64 nn, .slice a1 l1 c1, .slice a2 l2 c2] 63)).alloc (.cells #[.int .i64 0, .int .i64 0, .int .i64 0, .int .i64 0, .slice none 0 0, .slice none 0 0] 63) := ⟨_, rfl⟩
  have HW : Hid (W0 = _) := hW0
  have B0 : Below w.heap.size w W0 := by rw [hW0]; exact bel_next (bel_alloc w _) (bel_alloc _ _)
  have X0 : Blk W0 w.heap.size 63 #[.int .i64 22, .int .i64 0, .int .i64 pl, .int .i64 nn, .slice a1 l1 c1, .slice a2 l2 c2] := by rw [hW0]; exact (Blk.new w _ _).below (bel_alloc _ _)
  have R0 : Blk W0 (w.heap.size + 1) 63 #[.int .i64 0, .int .i64 0, .int .i64 0, .int .i64 0, .slice none 0 0, .slice none 0 0] := by
    rw [hW0]; have := Blk.new (w.alloc (.cells #[.int .i64 22, .int .i64 0, .int .i64 pl, .int .i64 nn, .slice a1 l1 c1, .slice a2 l2 c2] 63)) #[.int .i64 0, .int .i64 0, .int .i64 0, .int .i64 0, .slice none 0 0, .slice none 0 0] 63; simpa using this
  obtain ⟨x0, x1, x2, x3, x4, x5⟩ := X0.six
  obtain ⟨y0, y1, y2, y3, y4, y5⟩ := R0.six
  have fy := R0.fro
  clear hW0 X0 R0
  go_enter Try.func83, Try.ntmps83
  go_upto_region 1 with fail
  rw [← HW.out]
  go_wp2
  refine bodyPost_ret (v := rp 22 0 pl 0 a1 none l1 0 c1 0) (by simp [results, Try.results83, go_sem, y0, y1, y2, y3, y4, y5]) rfl ?_
  exact ⟨rfl, belp_set6 B0 (Nat.le_succ _)⟩
set_option maxHeartbeats 4000000 in
theorem namedOf_15 (pl nn : Int) (a1 a2 : Option Addr) (l1 l2 c1 c2 : Nat) (w : World) :
    Calls Try.prog 83 #[rp 15 0 pl nn a1 a2 l1 l2 c1 c2] w fun e w' => e = .returned (rp 15 0 pl nn none none 0 0 0 0) ∧ Below w.heap.size w w' := by
  obtain ⟨W0, hW0⟩ : ∃ W0, W0 = (w.alloc (.cells #[.int .i64 15, .int .i64 0, .int .i64 pl, .int .i64 nn, .slice a1 l1 c1, .slice a2 l2 c2] 63)).alloc (.cells #[.int .i64 0, .int .i64 0, .int .i64 0, .int .i64 0, .slice none 0 0, .slice none 0 0] 63) := ⟨_, rfl⟩
  have HW : Hid (W0 = _) := hW0
  have B0 : Below w.heap.size w W0 := by rw [hW0]; exact bel_next (bel_alloc w _) (bel_alloc _ _)
  have X0 : Blk W0 w.heap.size 63 #[.int .i64 15, .int .i64 0, .int .i64 pl, .int .i64 nn, .slice a1 l1 c1, .slice a2 l2 c2] := by rw [hW0]; exact (Blk.new w _ _).below (bel_alloc _ _)
  have R0 : Blk W0 (w.heap.size + 1) 63 #[.int .i64 0, .int .i64 0, .int .i64 0, .int .i64 0, .slice none 0 0, .slice none 0 0] := by
    rw [hW0]; have := Blk.new (w.alloc (.cells #[.int .i64 15, .int .i64 0, .int .i64 pl, .int .i64 nn, .slice a1 l1 c1, .slice a2 l2 c2] 63)) #[.int .i64 0, .int .i64 0, .int .i64 0, .int .i64 0, .slice none 0 0, .slice none 0 0] 63; simpa using this
  obtain ⟨x0, x1, x2, x3, x4, x5⟩ := X0.six
  obtain ⟨y0, y1, y2, y3, y4, y5⟩ := R0.six
  have fy := R0.fro
  clear hW0 X0 R0
  go_enter Try.func83, Try.ntmps83
  go_upto_region 1 with fail
  rw [← HW.out]
  go_wp2
  refine bodyPost_ret (v := rp 15 0 pl nn none none 0 0 0 0) (by simp [results, Try.results83, go_sem, y0, y1, y2, y3, y4, y5]) rfl ?_
  exact ⟨rfl, belp_set6 B0 (Nat.le_succ _)⟩
set_option maxHeartbeats 4000000 in
theorem namedOf_16 (pl nn : Int) (a1 a2 : Option Addr) (l1 l2 c1 c2 : Nat) (w : World) :
    Calls Try.prog 83 #[rp 16 0 pl nn a1 a2 l1 l2 c1 c2] w fun e w' => e = .returned (rp 16 0 pl nn none none 0 0 0 0) ∧ Below w.heap.size w w' := by
  obtain ⟨W0, hW0⟩ : ∃ W0, W0 = (w.alloc (.cells #[.int .i64 16, .int .i64 0, .int .i64 pl, .int .i64 nn, .slice a1 l1 c1, .slice a2 l2 c2] 63)).alloc (.cells #[.int .i64 0, .int .i64 0, .int .i64 0, .int .i64 0, .slice none 0 0, .slice none 0 0] 63) := ⟨_, rfl⟩
  have HW : Hid (W0 = _) := hW0
  have B0 : Below w.heap.size w W0 := by rw [hW0]; exact bel_next (bel_alloc w _) (bel_alloc _ _)
  have X0 : Blk W0 w.heap.size 63 #[.int .i64 16, .int .i64 0, .int .i64 pl, .int .i64 nn, .slice a1 l1 c1, .slice a2 l2 c2] := by rw [hW0]; exact (Blk.new w _ _).below (bel_alloc _ _)
  have R0 : Blk W0 (w.heap.size + 1) 63 #[.int .i64 0, .int .i64 0, .int .i64 0, .int .i64 0, .slice none 0 0, .slice none 0 0] := by
    rw [hW0]; have := Blk.new (w.alloc (.cells #[.int .i64 16, .int .i64 0, .int .i64 pl, .int .i64 nn, .slice a1 l1 c1, .slice a2 l2 c2] 63)) #[.int .i64 0, .int .i64 0, .int .i64 0, .int .i64 0, .slice none 0 0, .slice none 0 0] 63; simpa using this
  obtain ⟨x0, x1, x2, x3, x4, x5⟩ := X0.six
  obtain ⟨y0, y1, y2, y3, y4, y5⟩ := R0.six
  have fy := R0.fro
  clear hW0 X0 R0
  go_enter Try.func83, Try.ntmps83
  go_upto_region 1 with fail
  rw [← HW.out]
  go_wp2
  refine bodyPost_ret (v := rp 16 0 pl nn none none 0 0 0 0) (by simp [results, Try.results83, go_sem, y0, y1, y2, y3, y4, y5]) rfl ?_
  exact ⟨rfl, belp_set6 B0 (Nat.le_succ _)⟩
set_option maxHeartbeats 4000000 in
theorem namedOf_f (kd fl pl nn : Int) (a1 a2 : Option Addr) (l1 l2 c1 c2 : Nat) (w : World) (h0 : ¬ fl = 0) :
    Calls Try.prog 83 #[rp kd fl pl nn a1 a2 l1 l2 c1 c2] w fun e w' => e = .returned (rp kd fl 0 0 none none 0 0 0 0) ∧ Below w.heap.size w w' := by
  obtain ⟨W0, hW0⟩ : ∃ W0, W0 = (w.alloc (.cells #[.int .i64 kd, .int .i64 fl, .int .i64 pl, .int .i64 nn, .slice a1 l1 c1, .slice a2 l2 c2] 63)).alloc (.cells #[.int .i64 0, .int .i64 0, .int .i64 0, .int .i64 0, .slice none 0 0, .slice none 0 0] 63) := ⟨_, rfl⟩
  have HW : Hid (W0 = _) := hW0
  have B0 : Below w.heap.size w W0 := by rw [hW0]; exact bel_next (bel_alloc w _) (bel_alloc _ _)
  have X0 : Blk W0 w.heap.size 63 #[.int .i64 kd, .int .i64 fl, .int .i64 pl, .int .i64 nn, .slice a1 l1 c1, .slice a2 l2 c2] := by rw [hW0]; exact (Blk.new w _ _).below (bel_alloc _ _)
  have R0 : Blk W0 (w.heap.size + 1) 63 #[.int .i64 0, .int .i64 0, .int .i64 0, .int .i64 0, .slice none 0 0, .slice none 0 0] := by
    rw [hW0]; have := Blk.new (w.alloc (.cells #[.int .i64 kd, .int .i64 fl, .int .i64 pl, .int .i64 nn, .slice a1 l1 c1, .slice a2 l2 c2] 63)) #[.int .i64 0, .int .i64 0, .int .i64 0, .int .i64 0, .slice none 0 0, .slice none 0 0] 63; simpa using this
  obtain ⟨x0, x1, x2, x3, x4, x5⟩ := X0.six
  obtain ⟨y0, y1, y2, y3, y4, y5⟩ := R0.six
  have fy := R0.fro
  clear hW0 X0 R0
  go_enter Try.func83, Try.ntmps83
  go_upto_region 1 with fail
  rw [← HW.out]
  go_wp2
  refine bodyPost_ret (v := rp kd fl 0 0 none none 0 0 0 0) (by simp [results, Try.results83, go_sem, y0, y1, y2, y3, y4, y5]) rfl ?_
  exact ⟨rfl, belp_set6 B0 (Nat.le_succ _)⟩
set_option maxHeartbeats 4000000 in
theorem sameResp_any (kd fl pl nn pl' nn' : Int) (a1 a2 a1' a2' : Option Addr) (l1 l2 c1 c2 l1' l2' c1' c2' : Nat) (ws : List Int) (bs : List Bool) (w : World) (h1 : l1 = ws.length) (h2 : l2 = bs.length) (s1 : SlI w a1 ws) (s2 : SlB w a2 bs) (hl1 : ws.length ≤ 2000000) (hl2 : bs.length ≤ 2000000) (hm1 : l1' ≤ 2000000) (hm2 : l2' ≤ 2000000)
    (s1' : l1' = l1 → SlI w a1' ws) (s2' : l2' = l2 → SlB w a2' bs) (b : Bool) (hb : (decide (pl' = pl) && (decide (nn' = nn) && (decide (l1' = l1) && decide (l2' = l2)))) = b) :
    Calls Try.prog 49 #[rp kd fl pl' nn' a1' a2' l1' l2' c1' c2', rp kd fl pl nn a1 a2 l1 l2 c1 c2] w fun e w' => e = .returned (.bool b) ∧ Below w.heap.size w w' := by
  obtain ⟨W0, hW0'⟩ : ∃ W0, W0 = (w.alloc (.cells #[.int .i64 kd, .int .i64 fl, .int .i64 pl', .int .i64 nn', .slice a1' l1' c1', .slice a2' l2' c2'] 63)).alloc (.cells #[.int .i64 kd, .int .i64 fl, .int .i64 pl, .int .i64 nn, .slice a1 l1 c1, .slice a2 l2 c2] 63) := ⟨_, rfl⟩
  have hW0 : Hid (W0 = _) := hW0'
  have B0 : Below w.heap.size w W0 := by rw [hW0']; exact bel_next (bel_alloc w _) (bel_alloc _ _)
  have X0 : Blk W0 w.heap.size 63 #[.int .i64 kd, .int .i64 fl, .int .i64 pl', .int .i64 nn', .slice a1' l1' c1', .slice a2' l2' c2'] := by rw [hW0']; exact (Blk.new w _ _).below (bel_alloc _ _)
  have Y0 : Blk W0 (w.heap.size + 1) 63 #[.int .i64 kd, .int .i64 fl, .int .i64 pl, .int .i64 nn, .slice a1 l1 c1, .slice a2 l2 c2] := by
    rw [hW0']; have := Blk.new (w.alloc (.cells #[.int .i64 kd, .int .i64 fl, .int .i64 pl', .int .i64 nn', .slice a1' l1' c1', .slice a2' l2' c2'] 63)) #[.int .i64 kd, .int .i64 fl, .int .i64 pl, .int .i64 nn, .slice a1 l1 c1, .slice a2 l2 c2] 63; simpa using this
  have HL : Hid (l1 = ws.length ∧ l2 = bs.length) := ⟨h1, h2⟩
  have HS : Hid (SlI W0 a1 ws ∧ SlB W0 a2 bs) := ⟨s1.below B0, s2.below B0⟩
  have HS' : Hid ((l1' = l1 → SlI W0 a1' ws) ∧ (l2' = l2 → SlB W0 a2' bs)) := ⟨fun h => (s1' h).below B0, fun h => (s2' h).below B0⟩
  have HM : Hid (l1 ≤ 20000000 ∧ l2 ≤ 20000000) := by show _ ∧ _; omega
  obtain ⟨x0, x1, x2, x3, x4, x5⟩ := X0.six
  obtain ⟨y0, y1, y2, y3, y4, y5⟩ := Y0.six
  clear hW0' h1 h2 s1 s2 s1' s2'
  by_cases hA : pl' = pl
  · by_cases hN : nn' = nn
    · subst hA hN
      by_cases hw : l1' = l1
      · by_cases hq : l2' = l2
        · have e : b = true := by rw [← hb]; simp [hw, hq]
          subst e
          clear hb
          subst hw hq
          have T1 : Hid (SlI W0 a1' ws ∧ SlB W0 a2' bs) := ⟨HS'.out.1 rfl, HS'.out.2 rfl⟩
          go_enter Try.func49, Try.ntmps49
          go_upto_region 1 with fail
          rw [← hW0.out]
          go_wp2_with fail
          refine (equal_int _ _ _ _ _ _ ws _ HL.out.1 HL.out.1 T1.out.1 HS.out.1 hl1).mono ?_
          rintro e w1 ⟨rfl, b'⟩
          have b1 := bel_next B0 b'
          obtain ⟨x0, x1, x2, x3, x4, x5⟩ := (X0.below b').six
          obtain ⟨y0, y1, y2, y3, y4, y5⟩ := (Y0.below b').six
          go_wp2_with fail
          refine (equal_bool _ _ _ _ _ _ bs _ HL.out.2 HL.out.2 (T1.out.2.below b') (HS.out.2.below b') hl2).mono ?_
          rintro e w2 ⟨rfl, b2'⟩
          go_wp2
          go_ret
          exact ⟨rfl, bel_next b1 b2'⟩
        · have e : b = false := by rw [← hb]; simp [hq]
          subst e
          have hqi : ¬ (l2' : Int) = (l2 : Int) := by omega
          clear hb
          subst hw
          have T1 : Hid (SlI W0 a1' ws) := HS'.out.1 rfl
          go_enter Try.func49, Try.ntmps49
          go_upto_region 1 with fail
          rw [← hW0.out]
          go_wp2_with fail
          refine (equal_int _ _ _ _ _ _ ws _ HL.out.1 HL.out.1 T1.out HS.out.1 hl1).mono ?_
          rintro e w1 ⟨rfl, b'⟩
          have b1 := bel_next B0 b'
          obtain ⟨x0, x1, x2, x3, x4, x5⟩ := (X0.below b').six
          obtain ⟨y0, y1, y2, y3, y4, y5⟩ := (Y0.below b').six
          go_wp2_with fail
          refine (equal_bool_len _ _ _ _ _ _ _ hqi (by omega) HM.out.2).mono ?_
          rintro e w2 ⟨rfl, b2'⟩
          go_wp2
          go_ret
          exact ⟨rfl, bel_next b1 b2'⟩
      · have e : b = false := by rw [← hb]; simp [hw]
        subst e
        have hwi : ¬ (l1' : Int) = (l1 : Int) := by omega
        clear hb
        go_enter Try.func49, Try.ntmps49
        go_upto_region 1 with fail
        rw [← hW0.out]
        go_wp2_with fail
        refine (equal_int_len _ _ _ _ _ _ _ hwi (by omega) HM.out.1).mono ?_
        rintro e w1 ⟨rfl, b'⟩
        go_wp2
        go_ret
        exact ⟨rfl, bel_next B0 b'⟩
    · have e : b = false := by rw [← hb]; simp [hN]
      subst e
      subst hA
      clear hb
      go_enter Try.func49, Try.ntmps49
      go_upto_region 1 with fail
      rw [← hW0.out]
      go_wp2
      go_ret
      exact ⟨rfl, B0⟩
  · have e : b = false := by rw [← hb]; simp [hA]
    subst e
    clear hb
    go_enter Try.func49, Try.ntmps49
    go_upto_region 1 with fail
    rw [← hW0.out]
    go_wp2
    go_ret
    exact ⟨rfl, B0⟩
end Go.Proofs.Ytfagbjffhjnmaaa
namespace Go.Proofs.Ytfagbjffhjnmaaa
open Go.RowKit
set_option linter.unusedVariables false
set_option linter.unusedSimpArgs false
abbrev ansE (c : Int) : Value := .iface 125 (.agg #[.int .i64 c])
theorem slI_none {w : World} {a : Option Addr} {ws : List Int} (h : ws.length = 0) : SlI w a ws := .inl (List.eq_nil_of_length_eq_zero h)
theorem slB_none {w : World} {a : Option Addr} {bs : List Bool} (h : bs.length = 0) : SlB w a bs := .inl (List.eq_nil_of_length_eq_zero h)
def chk (kd : Int) (b : Bool) : Value := bif b then .nilIface else bif kindB kd then ansE 3 else ansE 1
set_option maxHeartbeats 4000000 in
theorem checkAnswer_no (kd fl pl nn : Int) (a1 a2 : Option Addr) (l1 l2 c1 c2 : Nat) (w : World) (hk : kindB kd = false) :
    Calls Try.prog 78 #[rp kd fl pl nn a1 a2 l1 l2 c1 c2] w fun e w' => e = .returned (ansE 1) ∧ Below w.heap.size w w' := by
  have B0 := bel_alloc w (.cells #[.int .i64 kd, .int .i64 fl, .int .i64 pl, .int .i64 nn, .slice a1 l1 c1, .slice a2 l2 c2] 63)
  go_enter Try.func78, Try.ntmps78
  go_wp2_with (go_at_call 81; refine (isKind_any _ _ _ hk).mono ?_; rintro e wx ⟨rfl, rfl⟩)
  go_ret
  exact ⟨rfl, B0⟩
set_option maxRecDepth 20000 in
set_option maxHeartbeats 8000000 in
theorem checkAnswer_f (kd fl pl nn : Int) (a1 a2 : Option Addr) (l1 l2 c1 c2 : Nat) (ws : List Int) (w : World) (h1 : l1 = ws.length) (s1 : SlI w a1 ws) (hl1 : ws.length ≤ 2000000) (hl2 : l2 ≤ 20000000) (hk : kindB kd = true) (hT : tB kd fl pl nn ws l1 l2 = false) :
    Calls Try.prog 78 #[rp kd fl pl nn a1 a2 l1 l2 c1 c2] w fun e w' => e = .returned (ansE 3) ∧ Below w.heap.size w w' := by
  have B0 := bel_alloc w (.cells #[.int .i64 kd, .int .i64 fl, .int .i64 pl, .int .i64 nn, .slice a1 l1 c1, .slice a2 l2 c2] 63)
  have X0 := Blk.new w #[.int .i64 kd, .int .i64 fl, .int .i64 pl, .int .i64 nn, .slice a1 l1 c1, .slice a2 l2 c2] 63
  have HS : Hid (SlI (w.alloc (.cells #[.int .i64 kd, .int .i64 fl, .int .i64 pl, .int .i64 nn, .slice a1 l1 c1, .slice a2 l2 c2] 63)) a1 ws) := s1.below B0
  have HL : Hid (l1 = ws.length) := h1
  have HT : Hid (tB kd fl pl nn ws l1 l2 = false) := hT
  obtain ⟨W0, hW0⟩ : ∃ W0, W0 = w.alloc (.cells #[.int .i64 kd, .int .i64 fl, .int .i64 pl, .int .i64 nn, .slice a1 l1 c1, .slice a2 l2 c2] 63) := ⟨_, rfl⟩
  rw [← hW0] at B0 X0 HS
  have HW : Hid (W0 = _) := hW0
  have d0 : Below W0.heap.size W0 W0.drew := (Below.refl _ _).drew
  obtain ⟨x0, x1, x2, x3, x4, x5⟩ := X0.six
  clear hW0 h1 s1 hT
  go_enter Try.func78, Try.ntmps78
  go_upto_region 1 with fail
  rw [← HW.out]
  go_upto_region 3 with (go_at_call 81; refine (isKind_any _ _ _ hk).mono ?_; rintro e wx ⟨rfl, rfl⟩)
  go_region_with (first
      | (go_at_call 82; refine (isTold_any kd fl pl nn a1 a2 l1 l2 c1 c2 ws _ HL.out (by first | exact HS.out | exact HS.out.below d0) hl1 hl2 hk _ HT.out).mono ?_; rintro e wA ⟨rfl, bA⟩; have BA := bel_next (w0 := w) (by first | exact B0 | exact B0.drew) bA; have XA := Blk.below (by first | exact X0 | exact X0.below d0) bA; obtain ⟨xa0, xa1, xa2, xa3, xa4, xa5⟩ := XA.six; clear bA))
  all_goals (go_wp2; go_ret; exact ⟨rfl, BA⟩)
set_option maxRecDepth 20000 in
set_option maxHeartbeats 8000000 in
theorem checkAnswer_if (kd fl pl nn : Int) (a1 a2 : Option Addr) (l1 l2 c1 c2 : Nat) (ws : List Int) (bs : List Bool) (w : World) (h1 : l1 = ws.length) (h2 : l2 = bs.length) (s1 : SlI w a1 ws) (s2 : SlB w a2 bs) (hl1 : ws.length ≤ 2000000) (hl2 : bs.length ≤ 2000000) (hk : kindB kd = true) (hT : tB kd fl pl nn ws l1 l2 = true)
    (pl' nn' : Int) (a1' a2' : Option Addr) (l1' l2' c1' c2' : Nat) (hm1 : l1' ≤ 2000000) (hm2 : l2' ≤ 2000000) (s1' : l1' = l1 → SlI w a1' ws) (s2' : l2' = l2 → SlB w a2' bs)
    (hnm : ∀ u, Calls Try.prog 83 #[rp kd fl pl nn a1 a2 l1 l2 c1 c2] u fun e u' => e = .returned (rp kd fl pl' nn' a1' a2' l1' l2' c1' c2') ∧ Below u.heap.size u u')
    (b : Bool) (hb : (decide (pl' = pl) && (decide (nn' = nn) && (decide (l1' = l1) && decide (l2' = l2)))) = b) :
    Calls Try.prog 78 #[rp kd fl pl nn a1 a2 l1 l2 c1 c2] w fun e w' => e = .returned (bif b then .nilIface else ansE 3) ∧ Below w.heap.size w w' := by
  have B0 := bel_alloc w (.cells #[.int .i64 kd, .int .i64 fl, .int .i64 pl, .int .i64 nn, .slice a1 l1 c1, .slice a2 l2 c2] 63)
  have X0 := Blk.new w #[.int .i64 kd, .int .i64 fl, .int .i64 pl, .int .i64 nn, .slice a1 l1 c1, .slice a2 l2 c2] 63
  have HS : Hid (SlI w a1 ws ∧ SlB w a2 bs) := ⟨s1, s2⟩
  have HS' : Hid ((l1' = l1 → SlI w a1' ws) ∧ (l2' = l2 → SlB w a2' bs)) := ⟨s1', s2'⟩
  have HL : Hid (l1 = ws.length ∧ l2 = bs.length) := ⟨h1, h2⟩
  have HT : Hid (tB kd fl pl nn ws l1 l2 = true) := hT
  have HNM : Hid (∀ u, Calls Try.prog 83 #[rp kd fl pl nn a1 a2 l1 l2 c1 c2] u fun e u' => e = .returned (rp kd fl pl' nn' a1' a2' l1' l2' c1' c2') ∧ Below u.heap.size u u') := hnm
  have HB : Hid ((decide (pl' = pl) && (decide (nn' = nn) && (decide (l1' = l1) && decide (l2' = l2)))) = b) := hb
  obtain ⟨W0, hW0⟩ : ∃ W0, W0 = w.alloc (.cells #[.int .i64 kd, .int .i64 fl, .int .i64 pl, .int .i64 nn, .slice a1 l1 c1, .slice a2 l2 c2] 63) := ⟨_, rfl⟩
  rw [← hW0] at B0 X0
  have HW : Hid (W0 = _) := hW0
  have d0 : Below W0.heap.size W0 W0.drew := (Below.refl _ _).drew
  have B0d : Below w.heap.size w W0.drew := B0.drew
  obtain ⟨x0, x1, x2, x3, x4, x5⟩ := X0.six
  clear hW0 h1 h2 s1 s2 s1' s2' hT hnm hb
  go_enter Try.func78, Try.ntmps78
  go_upto_region 1 with fail
  rw [← HW.out]
  go_upto_region 3 with (go_at_call 81; refine (isKind_any _ _ _ hk).mono ?_; rintro e wx ⟨rfl, rfl⟩)
  cases b
  all_goals (
    go_region_held3 (fun w' => w'.cell? ⟨w.heap.size, 0, none⟩ = some (.int .i64 kd) ∧ w'.cell? ⟨w.heap.size, 1, none⟩ = some (.int .i64 fl) ∧ w'.cell? ⟨w.heap.size, 2, none⟩ = some (.int .i64 pl) ∧ w'.cell? ⟨w.heap.size, 3, none⟩ = some (.int .i64 nn) ∧ w'.cell? ⟨w.heap.size, 4, none⟩ = some (.slice a1 l1 c1) ∧ w'.cell? ⟨w.heap.size, 5, none⟩ = some (.slice a2 l2 c2)) (go_keep)
      (first
        | (go_at_call 82; refine (isTold_any kd fl pl nn a1 a2 l1 l2 c1 c2 ws _ HL.out.1 (HS.out.1.below (by first | exact B0 | exact B0d)) hl1 (by have := HL.out; omega) hk _ HT.out).mono ?_; rintro e wA ⟨rfl, bA⟩; have BA := bel_next (w0 := w) (by first | exact B0 | exact B0d) bA; have XA := Blk.below (by first | exact X0 | exact X0.below d0) bA; obtain ⟨xa0, xa1, xa2, xa3, xa4, xa5⟩ := XA.six; clear bA)
        | (go_at_call 83; refine (HNM.out _).mono ?_; rintro e wB ⟨rfl, bB⟩; have BB := bel_next BA bB; have XB := XA.below bB; obtain ⟨xb0, xb1, xb2, xb3, xb4, xb5⟩ := XB.six; clear bB)
        | (go_at_call 49; refine (sameResp_any kd fl pl nn pl' nn' a1 a2 a1' a2' l1 l2 c1 c2 l1' l2' c1' c2' ws bs _ HL.out.1 HL.out.2 (HS.out.1.below BB) (HS.out.2.below BB) hl1 hl2 hm1 hm2 (fun h => (HS'.out.1 h).below BB) (fun h => (HS'.out.2 h).below BB) _ HB.out).mono ?_; rintro e wC ⟨rfl, bC⟩; have BC := bel_next BB bC; obtain ⟨xc0, xc1, xc2, xc3, xc4, xc5⟩ := (XB.below bC).six; clear bC))
    all_goals (go_wp2; go_ret; exact ⟨rfl, BC⟩))
theorem checkAnswer_q (kd fl pl nn : Int) (a1 a2 : Option Addr) (l1 l2 c1 c2 : Nat) (ws : List Int) (bs : List Bool) (w : World) (h1 : l1 = ws.length) (h2 : l2 = bs.length) (s1 : SlI w a1 ws) (s2 : SlB w a2 bs) (hl1 : ws.length ≤ 2000000) (hl2 : bs.length ≤ 2000000) :
    Calls Try.prog 78 #[rp kd fl pl nn a1 a2 l1 l2 c1 c2] w fun e w' => e = .returned (chk kd (okA kd fl pl nn ws l1 l2)) ∧ Below w.heap.size w w' := by
  cases hk : kindB kd
  · have e : chk kd (okA kd fl pl nn ws l1 l2) = ansE 1 := by simp [chk, okA, hk]
    rw [e]
    exact checkAnswer_no kd fl pl nn a1 a2 l1 l2 c1 c2 w hk
  · have e : chk kd (okA kd fl pl nn ws l1 l2) = (bif okA kd fl pl nn ws l1 l2 then .nilIface else ansE 3) := by simp [chk, hk]
    rw [e, okA_told kd fl pl nn ws l1 l2 h1 hk]
    clear e
    cases hT : tB kd fl pl nn ws l1 l2
    · exact checkAnswer_f kd fl pl nn a1 a2 l1 l2 c1 c2 ws w h1 s1 hl1 (by omega) hk hT
    · rw [Bool.true_and]
      by_cases h0 : fl = 0
      · subst h0
        obtain rfl | rfl | rfl | rfl | rfl | rfl | rfl | rfl | rfl | rfl := of_decide_eq_true hk
        · exact checkAnswer_if 1 0 pl nn a1 a2 l1 l2 c1 c2 ws bs w h1 h2 s1 s2 hl1 hl2 hk hT 0 0 none a2 0 l2 0 c2 (by omega) (by omega) (fun h => slI_none (h1.symm.trans h.symm)) (fun h => s2) (fun u => namedOf_1 pl nn a1 a2 l1 l2 c1 c2 u) _ (by simp [zrA, zr4, eq_comm])
        · exact checkAnswer_if 2 0 pl nn a1 a2 l1 l2 c1 c2 ws bs w h1 h2 s1 s2 hl1 hl2 hk hT 0 0 none a2 0 l2 0 c2 (by omega) (by omega) (fun h => slI_none (h1.symm.trans h.symm)) (fun h => s2) (fun u => namedOf_2 pl nn a1 a2 l1 l2 c1 c2 u) _ (by simp [zrA, zr4, eq_comm])
        · exact checkAnswer_if 3 0 pl nn a1 a2 l1 l2 c1 c2 ws bs w h1 h2 s1 s2 hl1 hl2 hk hT 0 0 a1 none l1 0 c1 0 (by omega) (by omega) (fun h => s1) (fun h => slB_none (h2.symm.trans h.symm)) (fun u => namedOf_3 pl nn a1 a2 l1 l2 c1 c2 u) _ (by simp [zrA, zr4, eq_comm])
        · exact checkAnswer_if 4 0 pl nn a1 a2 l1 l2 c1 c2 ws bs w h1 h2 s1 s2 hl1 hl2 hk hT 0 0 a1 none l1 0 c1 0 (by omega) (by omega) (fun h => s1) (fun h => slB_none (h2.symm.trans h.symm)) (fun u => namedOf_4 pl nn a1 a2 l1 l2 c1 c2 u) _ (by simp [zrA, zr4, eq_comm])
        · exact checkAnswer_if 5 0 pl nn a1 a2 l1 l2 c1 c2 ws bs w h1 h2 s1 s2 hl1 hl2 hk hT pl 0 none a2 0 l2 0 c2 (by omega) (by omega) (fun h => slI_none (h1.symm.trans h.symm)) (fun h => s2) (fun u => namedOf_5 pl nn a1 a2 l1 l2 c1 c2 u) _ (by simp [zrA, zr4, eq_comm])
        · exact checkAnswer_if 6 0 pl nn a1 a2 l1 l2 c1 c2 ws bs w h1 h2 s1 s2 hl1 hl2 hk hT pl 0 a1 none l1 0 c1 0 (by omega) (by omega) (fun h => s1) (fun h => slB_none (h2.symm.trans h.symm)) (fun u => namedOf_6 pl nn a1 a2 l1 l2 c1 c2 u) _ (by simp [zrA, zr4, eq_comm])
        · exact checkAnswer_if 15 0 pl nn a1 a2 l1 l2 c1 c2 ws bs w h1 h2 s1 s2 hl1 hl2 hk hT pl nn none none 0 0 0 0 (by omega) (by omega) (fun h => slI_none (h1.symm.trans h.symm)) (fun h => slB_none (h2.symm.trans h.symm)) (fun u => namedOf_15 pl nn a1 a2 l1 l2 c1 c2 u) _ (by simp [zrA, zr4, eq_comm])
        · exact checkAnswer_if 16 0 pl nn a1 a2 l1 l2 c1 c2 ws bs w h1 h2 s1 s2 hl1 hl2 hk hT pl nn none none 0 0 0 0 (by omega) (by omega) (fun h => slI_none (h1.symm.trans h.symm)) (fun h => slB_none (h2.symm.trans h.symm)) (fun u => namedOf_16 pl nn a1 a2 l1 l2 c1 c2 u) _ (by simp [zrA, zr4, eq_comm])
        · exact checkAnswer_if 22 0 pl nn a1 a2 l1 l2 c1 c2 ws bs w h1 h2 s1 s2 hl1 hl2 hk hT pl 0 a1 none l1 0 c1 0 (by omega) (by omega) (fun h => s1) (fun h => slB_none (h2.symm.trans h.symm)) (fun u => namedOf_22 pl nn a1 a2 l1 l2 c1 c2 u) _ (by simp [zrA, zr4, eq_comm])
        · exact checkAnswer_if 23 0 pl nn a1 a2 l1 l2 c1 c2 ws bs w h1 h2 s1 s2 hl1 hl2 hk hT 0 0 a1 none l1 0 c1 0 (by omega) (by omega) (fun h => s1) (fun h => slB_none (h2.symm.trans h.symm)) (fun u => namedOf_23 pl nn a1 a2 l1 l2 c1 c2 u) _ (by simp [zrA, zr4, eq_comm])
      · exact checkAnswer_if kd fl pl nn a1 a2 l1 l2 c1 c2 ws bs w h1 h2 s1 s2 hl1 hl2 hk hT 0 0 none none 0 0 0 0 (by omega) (by omega) (fun h => slI_none (h1.symm.trans h.symm)) (fun h => slB_none (h2.symm.trans h.symm)) (fun u => namedOf_f kd fl pl nn a1 a2 l1 l2 c1 c2 u h0) _ (by simp [zrA, zr4, eq_comm, h0])
theorem eql_if (T : TypeId) (v : Value) (w : World) : (binOp .eql 120 (.iface T v) .nilIface).run Try.prog w = .ok (.bool false) w := by kernel_rfl
theorem eql_nil (w : World) : (binOp .eql 120 .nilIface .nilIface).run Try.prog w = .ok (.bool true) w := by kernel_rfl
set_option maxHeartbeats 4000000 in
theorem implRespOk_q (kd fl pl nn : Int) (a1 a2 : Option Addr) (l1 l2 c1 c2 : Nat) (ws : List Int) (bs : List Bool) (w : World) (h1 : l1 = ws.length) (h2 : l2 = bs.length) (s1 : SlI w a1 ws) (s2 : SlB w a2 bs) (hl1 : ws.length ≤ 2000000) (hl2 : bs.length ≤ 2000000) :
    Calls Try.prog 68 #[rp kd fl pl nn a1 a2 l1 l2 c1 c2] w fun e w' => e = .returned (.bool (okA kd fl pl nn ws l1 l2)) ∧ Below w.heap.size w w' := by
  have B0 := bel_alloc w (.cells #[.int .i64 kd, .int .i64 fl, .int .i64 pl, .int .i64 nn, .slice a1 l1 c1, .slice a2 l2 c2] 63)
  have X0 := Blk.new w #[.int .i64 kd, .int .i64 fl, .int .i64 pl, .int .i64 nn, .slice a1 l1 c1, .slice a2 l2 c2] 63
  have HS : Hid (SlI w a1 ws ∧ SlB w a2 bs) := ⟨s1, s2⟩
  have HL : Hid (l1 = ws.length ∧ l2 = bs.length) := ⟨h1, h2⟩
  obtain ⟨x0, x1, x2, x3, x4, x5⟩ := X0.six
  clear h1 h2 s1 s2 X0
  have q1 := eql_if
  have q2 := eql_nil
  go_enter Try.func68, Try.ntmps68
  go_wp2_with fail
  refine (checkAnswer_q kd fl pl nn a1 a2 l1 l2 c1 c2 ws bs _ HL.out.1 HL.out.2 (HS.out.1.below B0) (HS.out.2.below B0) hl1 hl2).mono ?_
  rintro e w1 ⟨rfl, b'⟩
  have B1 := bel_next B0 b'
  clear b' B0
  cases hok : okA kd fl pl nn ws l1 l2
  · cases hk : kindB kd
    · simp only [chk, hk, cond_false, cond_true]
      go_wp2
      go_ret
      exact ⟨by rw [hok]; rfl, B1⟩
    · simp only [chk, hk, cond_false, cond_true]
      go_wp2
      go_ret
      exact ⟨by rw [hok]; rfl, B1⟩
  · simp only [chk, cond_true]
    go_wp2
    go_ret
    exact ⟨by rw [hok]; rfl, B1⟩
end Go.Proofs.Ytfagbjffhjnmaaa
