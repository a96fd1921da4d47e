/- Texts that the proof needs, joined: JnH SamS. -/
import Derived.Test.YtegckbfbmbiogaaV39
import Derived.Test.YtegckbfbmbiogaaV28
import Derived.Test.YtegckbfbmbiogaaV9
import Derived.Test.YtegckbfbmbiogaaV1
namespace Go.Proofs.Ytegckbfbmbiogaa
open Go.RowKit Go.Joins
set_option linter.unusedVariables false
set_option linter.unusedSimpArgs false
theorem kindB_okJ {kd pl nn wa : Int} {ws : List Int} {m1 m2 : Nat} (h : okR kd pl nn wa ws m1 m2 = true) : kindB kd = true := by
  have hk := okR_kind h
  rcases hk with rfl | rfl | rfl | rfl | rfl | rfl | rfl | rfl | rfl | rfl <;> decide
theorem suB_faultJ {kd pl nn wa : Int} {m1 m2 : Nat} {qs : List Int} {qb : List Bool} {x : Int} (h : okR kd pl nn wa qs m1 m2 = true) (h1 : 1 ≤ x) (h2 : x ≤ 255) : suB kd pl nn wa m1 m2 qs qb kd x 0 0 0 0 [] [] = true := by
  have hk := kindB_okJ h
  have h0 : ¬ x = 0 := by omega
  have h3 : 0 < x := by omega
  simp [suB, h, okA, hk, inB, allW, zr4, h0, h3]
  omega
theorem suQ_foA {kd pl nn wa : Int} {ws : List Int} {bs : List Bool} {x : Int} (h : okR kd pl nn wa ws ws.length bs.length = true) (h1 : 1 ≤ x) (h2 : x ≤ 255) : suQ kd pl nn wa ws bs (foA (true && inB x 1 255) kd x) = true := by
  have e : inB x 1 255 = true := decide_eq_true ⟨h1, h2⟩
  rw [e]
  show suB kd pl nn wa ws.length bs.length ws bs kd x 0 0 0 0 [] [] = true
  exact suB_faultJ h h1 h2
theorem ffF_top {Ps : List Pa} {A : Nat → An} {n : Nat} (h : AllS Ps A n) : ffF A n 0 ≤ 255 := by
  have : ∀ d k, n - k = d → ffF A n k ≤ 255 := by
    intro d
    induction d with
    | zero => intro k hk; rw [ffF_end (by omega)]; omega
    | succ d ih =>
      intro k hk
      by_cases e : (A k).fl = 0
      · rw [ffF_miss (by omega) e]; exact ih (k + 1) (by omega)
      · rw [ffF_hit (by omega) e]; exact (suP_fault (h k (by omega))).2.1
  exact this n 0 (by omega)
theorem ffF_all {A : Nat → An} {n : Nat} (h : ffF A n 0 = 0) : ∀ k, k < n → (A k).fl = 0 := by
  have : ∀ d k, n - k = d → ffF A n k = 0 → ∀ j, k ≤ j → j < n → (A j).fl = 0 := by
    intro d
    induction d with
    | zero => intro k hk _ j h1 h2; omega
    | succ d ih =>
      intro k hk h0 j h1 h2
      by_cases e : (A k).fl = 0
      · rw [ffF_miss (by omega) e] at h0
        by_cases e2 : j = k
        · rw [e2]; exact e
        · exact ih (k + 1) (by omega) h0 j (by omega) h2
      · rw [ffF_hit (by omega) e] at h0; exact absurd h0 e
  intro k hk
  exact this n 0 (by omega) h k (Nat.zero_le _) hk
theorem joA_suits {td : Bool} {kd pl nn wa : Int} {ws : List Int} {bs : List Bool} {Ps : List Pa} {A : Nat → An} {n m : Nat} (hok : okR kd pl nn wa ws ws.length bs.length = true) (htd : td = true → m = n ∧ AllS Ps A n) : suQ kd pl nn wa ws bs (joA td kd pl nn wa ws bs Ps A m) = true := by
  unfold joA
  rw [hok]
  cases td with
  | false => exact suQ_foA (x := 4) hok (by decide) (by decide)
  | true =>
    obtain ⟨rfl, hall⟩ := htd rfl
    simp only [Bool.and_self, cond_true]
    by_cases h0 : ffF A m 0 = 0
    · rw [if_pos h0]
      cases e : suQ kd pl nn wa ws bs (waA kd pl ws bs Ps A m) with
      | true => exact e
      | false => exact suQ_foA (x := 4) hok (by decide) (by decide)
    · rw [if_neg h0]
      have h1 := ffF_range hall
      have h2 := ffF_top hall
      exact suQ_foA hok (by omega) h2
theorem joA_fault {td : Bool} {kd pl nn wa : Int} {ws : List Int} {bs : List Bool} {Ps : List Pa} {A : Nat → An} {n m k : Nat} (hok : okR kd pl nn wa ws ws.length bs.length = true) (htd : td = true → m = n ∧ AllS Ps A n) (hk : k < m) (hf : 0 < (A k).fl) : 0 < (joA td kd pl nn wa ws bs Ps A m).fl := by
  unfold joA
  rw [hok]
  cases td with
  | false => show (0 : Int) < 4; decide
  | true =>
    obtain ⟨rfl, hall⟩ := htd rfl
    simp only [Bool.and_self, cond_true]
    by_cases h0 : ffF A m 0 = 0
    · have := ffF_all h0 k hk
      omega
    · rw [if_neg h0]
      have h1 := ffF_range hall
      have h2 := ffF_top hall
      have e : inB (ffF A m 0) 1 255 = true := decide_eq_true ⟨by omega, h2⟩
      rw [e]
      show 0 < ffF A m 0
      omega
theorem joA_kind {td : Bool} {kd pl nn wa : Int} {ws : List Int} {bs : List Bool} {Ps : List Pa} {A : Nat → An} {m : Nat} (hok : okR kd pl nn wa ws ws.length bs.length = false) : (joA td kd pl nn wa ws bs Ps A m).kd = 0 := by
  unfold joA
  rw [hok]
  rfl
theorem joA_len {td : Bool} {kd pl nn wa : Int} {ws : List Int} {bs : List Bool} {Ps : List Pa} {A : Nat → An} {m : Nat} (hm : m ≤ 100) (hl1 : ws.length ≤ 2000000) (hl2 : bs.length ≤ 2000000) (hA : ∀ k, k < m → (A k).ws.length ≤ 2000 ∧ (A k).bs.length ≤ 2000) : (joA td kd pl nn wa ws bs Ps A m).ws.length ≤ 2000000 ∧ (joA td kd pl nn wa ws bs Ps A m).bs.length ≤ 2000000 := by
  have hf : ∀ (b : Bool) (x : Int), (foA b kd x).ws.length ≤ 2000000 ∧ (foA b kd x).bs.length ≤ 2000000 := fun b x => by
    obtain ⟨_, _, g3, g4⟩ := foA_rest b kd x
    rw [g3, g4]; simp
  unfold joA
  cases okR kd pl nn wa ws ws.length bs.length && td with
  | false => exact hf _ _
  | true =>
    simp only [cond_true]
    split
    · cases suQ kd pl nn wa ws bs (waA kd pl ws bs Ps A m) with
      | true => exact waA_len (nn := nn) (wa := wa) (m1 := 0) (m2 := 0) hm hl1 hl2 hA
      | false => exact hf _ _
    · exact hf _ _
theorem specJoined_all (kd pl nn wa : Int) (q1 q2 : Option Addr) (m1 m2 k1 k2 : Nat) (ws : List Int) (bs : List Bool) (a : Option Addr) (n cap base : Nat) (Ps : List Pa) (at' : Option Addr) (m cap' : Nat) (A : Nat → An) (w : World) (kq : Int)
    (h1 : m1 = ws.length) (h2 : m2 = bs.length) (s1 : SlI w q1 ws) (s2 : SlB w q2 bs) (hl1 : ws.length ≤ 2000000) (hl2 : bs.length ≤ 2000000) (hn : n = Ps.length) (h : OwnPs w base (.slice a n cap) Ps) (h' : SlA w at' m A) (hn8 : n ≤ 100) (hm8 : m ≤ 100) (hP : ∀ k, k < n → 0 ≤ (Ps.getD k default).n ∧ (Ps.getD k default).n ≤ 2000) (hP2 : ∀ k, k < n → (Ps.getD k default).ws.length ≤ 2000 ∧ (Ps.getD k default).bs.length ≤ 2000) (hA : ∀ k, k < m → (A k).ws.length ≤ 2000 ∧ (A k).bs.length ≤ 2000)
    (hq : ∀ k, k < n → (Ps.getD k default).kd = kq) (td : Bool) (htd : td = true ↔ (0 < n ∧ m = n ∧ AllS Ps A n)) :
    Calls Try.prog 19 #[.agg (rqc kd pl nn wa q1 q2 m1 m2 k1 k2), .slice a n cap, .slice at' m cap'] w fun e w' => AnPost w w' e (joA td kd pl nn wa ws bs Ps A m) := by
  obtain ⟨ok, hok⟩ : ∃ ok, ok = okR kd pl nn wa ws ws.length bs.length := ⟨_, rfl⟩
  by_cases hg : ok = true ∧ td = true ∧ ffF A n 0 = 0
  · obtain ⟨g1, g2, g3⟩ := hg
    obtain ⟨r1, r2, r3⟩ := htd.1 g2
    subst r2
    have h9 := specJoined_good kd pl nn wa q1 q2 m1 m2 k1 k2 ws bs a m cap base Ps at' cap' A w h1 h2 s1 s2 hl1 hl2 hn h h' hn8 hP hP2 hA (by rw [← hok]; exact g1) r1 r3 g3
    rw [joined_same r1 (by rw [← hok]; exact g1) r3 hq] at h9
    unfold joA
    rw [← hok, g1, g2]
    simp only [Bool.and_self, cond_true]
    rw [if_pos g3]
    exact h9
  · have h9 := specJoined_bad kd pl nn wa q1 q2 m1 m2 k1 k2 ws bs a n cap base Ps at' m cap' A w h1 h2 s1 s2 hl1 hl2 hn h h' hn8 hm8 hP hP2 hA ok hok (ok && td) (by rw [Bool.and_eq_true, htd]) (fun e h0 => hg (by rw [Bool.and_eq_true] at e; exact ⟨e.1, e.2, h0⟩))
    have e9 : joF (ok && td) ok kd A n = joA td kd pl nn wa ws bs Ps A m := by
      unfold joF joA
      rw [← hok]
      cases ok with
      | false => rfl
      | true =>
        cases td with
        | false => rfl
        | true =>
          obtain ⟨r1, r2, r3⟩ := htd.1 rfl
          subst r2
          simp only [Bool.and_self, cond_true, if_true]
          rw [if_neg (fun h0 => hg ⟨rfl, rfl, h0⟩)]
    rw [e9] at h9
    exact h9
end Go.Proofs.Ytegckbfbmbiogaa
namespace Go.Proofs.Ytegckbfbmbiogaa
open Go.RowKit
set_option linter.unusedVariables false
set_option linter.unusedSimpArgs false
set_option maxHeartbeats 4000000 in
theorem lawSameResp_t (kd fl pl nn : Int) (a1 a2 a1' a2' : Option Addr) (l1 l2 c1 c2 l1' l2' c1' c2' : Nat) (w : World) (ws : List Int) (h1 : l1 = ws.length) (h1' : l1' = ws.length) (s1 : SlI w a1 ws) (s1' : SlI w a1' ws) (hl1 : ws.length ≤ 2000000) (bs : List Bool) (h2 : l2 = bs.length) (h2' : l2' = bs.length) (s2 : SlB w a2 bs) (s2' : SlB w a2' bs) (hl2 : bs.length ≤ 2000000) :
    Calls Try.prog 18 #[rp kd fl pl nn a1 a2 l1 l2 c1 c2, rp kd fl pl nn a1' a2' l1' l2' c1' c2'] w fun e w' => e = .returned (.bool true) ∧ Below w.heap.size w w' := by
  obtain ⟨W0, hW0'⟩ : ∃ W0, W0 = (w.alloc (.cells #[.int .i64 kd, .int .i64 fl, .int .i64 pl, .int .i64 nn, .slice a1 l1 c1, .slice a2 l2 c2] 49)).alloc (.cells #[.int .i64 kd, .int .i64 fl, .int .i64 pl, .int .i64 nn, .slice a1' l1' c1', .slice a2' l2' c2'] 49) := ⟨_, rfl⟩
  have hW0 : Hid (W0 = _) := hW0'
  have B0 : Below w.heap.size w W0 := by rw [hW0']; exact bel_next (bel_alloc w _) (bel_alloc _ _)
  have X0 : Blk W0 w.heap.size 49 #[.int .i64 kd, .int .i64 fl, .int .i64 pl, .int .i64 nn, .slice a1 l1 c1, .slice a2 l2 c2] := by rw [hW0']; exact (Blk.new w _ _).below (bel_alloc _ _)
  have Y0 : Blk W0 (w.heap.size + 1) 49 #[.int .i64 kd, .int .i64 fl, .int .i64 pl, .int .i64 nn, .slice a1' l1' c1', .slice a2' l2' c2'] := by
    rw [hW0']; have := Blk.new (w.alloc (.cells #[.int .i64 kd, .int .i64 fl, .int .i64 pl, .int .i64 nn, .slice a1 l1 c1, .slice a2 l2 c2] 49)) #[.int .i64 kd, .int .i64 fl, .int .i64 pl, .int .i64 nn, .slice a1' l1' c1', .slice a2' l2' c2'] 49; simpa using this
  obtain ⟨x0, x1, x2, x3, x4, x5⟩ := X0.six
  obtain ⟨y0, y1, y2, y3, y4, y5⟩ := Y0.six
  have HH : Hid (l1 = ws.length ∧ l1' = ws.length ∧ SlI W0 a1 ws ∧ SlI W0 a1' ws) := ⟨h1, h1', s1.below B0, s1'.below B0⟩
  clear h1 h1' s1 s1'
  have HB : Hid (l2 = bs.length ∧ l2' = bs.length ∧ SlB W0 a2 bs ∧ SlB W0 a2' bs) := ⟨h2, h2', s2.below B0, s2'.below B0⟩
  clear h2 h2' s2 s2'
  clear hW0'
  go_enter Try.func18, Try.ntmps18
  go_upto_region 1 with fail
  rw [← hW0.out]
  go_wp2_with fail
  refine (sameInts_true _ _ _ _ _ _ ws _ HH.out.1 HH.out.2.1 HH.out.2.2.1 HH.out.2.2.2 hl1).mono ?_
  rintro e w1 ⟨rfl, n1, hw1⟩
  have b' : Below W0.heap.size W0 w1 := by rw [hw1]; exact drew_refl _ _
  have b1 := bel_next B0 b'
  obtain ⟨x0, x1, x2, x3, x4, x5⟩ := (X0.below b').six
  obtain ⟨y0, y1, y2, y3, y4, y5⟩ := (Y0.below b').six
  have HB1 : Hid (l2 = bs.length ∧ l2' = bs.length ∧ SlB w1 a2 bs ∧ SlB w1 a2' bs) := ⟨HB.out.1, HB.out.2.1, HB.out.2.2.1.below b', HB.out.2.2.2.below b'⟩
  clear hw1 b'
  go_wp2_with fail
  refine (sameBits_true _ _ _ _ _ _ bs _ HB1.out.1 HB1.out.2.1 HB1.out.2.2.1 HB1.out.2.2.2 (by omega)).mono ?_
  rintro e w2 ⟨rfl, n2, hw2⟩
  have b2' : Below w1.heap.size w1 w2 := by rw [hw2]; exact drew_refl _ _
  have b2 := bel_next b1 b2'
  clear hw2 b2'
  go_wp2
  go_ret
  exact ⟨rfl, b2⟩
end Go.Proofs.Ytegckbfbmbiogaa
