/- Settings: how the laws' own helpers copy them and hold them against one another; which are right. -/
import Derived.Test.YtklnfeblkffgiaaDoorSr10
import Derived.Test.YtklnfeblkffgiaaDoorSr11
import Derived.Test.YtklnfeblkffgiaaDoorQ1
namespace Go.Proofs.YtklnfeblkffgiaaDoor
open Go.RowKit

set_option linter.unusedVariables false

set_option linter.unusedSimpArgs false

theorem Blk.thr {w : World} {g : Nat} {t : TypeId} {v0 v1 v2 : Value} (h : Blk w g t #[v0, v1, v2]) : (w.cell? ⟨g, 0, none⟩ = some v0 ∧ w.cell? ⟨g, 1, none⟩ = some v1 ∧ w.cell? ⟨g, 2, none⟩ = some v2) ∧ w.frozen? ⟨g, 0, none⟩ = false ∧ w.frozen? ⟨g, 1, none⟩ = false ∧ w.frozen? ⟨g, 2, none⟩ = false :=
  ⟨⟨h.cell 0 rfl, h.cell 1 rfl, h.cell 2 rfl⟩, h.fro 0, h.fro 1, h.fro 2⟩

theorem RowS.setc {w : World} {g g' j : Nat} {t : TypeId} {s n : Nat} {F : Nat → List Value} {y : Value} (h : RowS w g t s n F) (hne : g' ≠ g) : RowS (w.setCell ⟨g', j, none⟩ y) g t s n F := by
  obtain ⟨cs, h1, h2⟩ := h
  exact ⟨cs, Blk.setNe h1 (Ne.symm hne), h2⟩

abbrev cfc (wt tr : Int) (a : Option Addr) (n c : Nat) : Array Value := #[.int .i64 wt, .int .i64 tr, .slice a n c]

theorem szConfig_fits (wt tr : Int) (a : Option Addr) (n cap : Nat) (w : World) (h : n ≤ 1048576) :
    Calls Tryd.prog 12 #[.agg (cfc wt tr a n cap), .int .i64 1048576] w fun e w' => e = .returned (.int .i64 ((1048576 - n : Nat) : Int)) ∧ Below w.heap.size w w' := by
  have hnn : ¬ (((1048576 - n : Nat) : Int) < 0) := by omega
  go_enter Tryd.func12, Tryd.ntmps12
  go_wp2_with fail
  refine (szRuleS_fits a n cap 1048576 _ h (Nat.le_refl _)).mono ?_
  rintro e w1 ⟨rfl, rfl⟩
  go_wp2
  go_ret
  exact ⟨rfl, bel_alloc _ _⟩

theorem szConfig_big (wt tr : Int) (a : Option Addr) (n cap : Nat) (w : World) (hm : n ≤ maxLen) (h : ¬ n ≤ 1048576) :
    Calls Tryd.prog 12 #[.agg (cfc wt tr a n cap), .int .i64 1048576] w fun e w' => e = .returned (.int .i64 (-1)) ∧ Below w.heap.size w w' := by
  go_enter Tryd.func12, Tryd.ntmps12
  go_wp2_with fail
  refine (szRuleS_big a n cap 1048576 _ hm h (Nat.le_refl _)).mono ?_
  rintro e w1 ⟨rfl, rfl⟩
  go_wp2
  go_ret
  exact ⟨rfl, bel_alloc _ _⟩

set_option maxHeartbeats 1000000 in
theorem toConfig_any (wt tr : Int) (a : Option Addr) (n cap : Nat) (f : Nat → Ru) (w : World) (hs : SlU w a n f) (hl : n ≤ 2000000) :
    Calls Tryd.prog 14 #[.agg (cfc wt tr a n cap)] w fun e w' => ∃ g, e = .returned (.agg (cfc wt tr (some ⟨g, 0, none⟩) n n)) ∧ RowU w' g n f ∧ w.heap.size ≤ g ∧ Below w.heap.size w w' := by
  obtain ⟨W, hW⟩ : ∃ W, W = ((w.alloc (.cells (cfc wt tr a n cap) 36)).alloc (.cells (cfc 0 0 none 0 0) 26)).alloc (.cells (cfc wt tr none 0 0) 26) := ⟨_, rfl⟩
  have hz : W.heap.size = w.heap.size + 1 + 1 + 1 := by rw [hW]; simp
  have bW : Below w.heap.size w W := by rw [hW]; exact bel_next (bel_next (bel_alloc w _) (bel_alloc _ _)) (bel_alloc _ _)
  have A0 : Blk W w.heap.size 36 (cfc wt tr a n cap) := by rw [hW]; exact ((Blk.new w _ _).below (bel_alloc _ _)).below (bel_alloc _ _)
  have R0 : Blk W (w.heap.size + 1) 26 (cfc 0 0 none 0 0) := by
    rw [hW]; have := (Blk.new (w.alloc (.cells (cfc wt tr a n cap) 36)) (cfc 0 0 none 0 0) 26).below (bel_alloc _ (.cells (cfc wt tr none 0 0) 26)); simpa using this
  have O0 : Blk W (w.heap.size + 1 + 1) 26 (cfc wt tr none 0 0) := by
    rw [hW]; have := Blk.new ((w.alloc (.cells (cfc wt tr a n cap) 36)).alloc (.cells (cfc 0 0 none 0 0) 26)) (cfc wt tr none 0 0) 26; simpa using this
  have HS : Hid (SlU W a n f) := SlS.below hs bW
  have H0 : Hid (Blk W w.heap.size 36 (cfc wt tr a n cap) ∧ Blk W (w.heap.size + 1) 26 (cfc 0 0 none 0 0) ∧ Blk W (w.heap.size + 1 + 1) 26 (cfc wt tr none 0 0) ∧ Below w.heap.size w W ∧ W.heap.size = w.heap.size + 1 + 1 + 1) := ⟨A0, R0, O0, bW, hz⟩
  obtain ⟨⟨y0, y1, y2⟩, _⟩ := A0.thr
  clear hs bW A0 R0 O0 hz
  go_enter Tryd.func14, Tryd.ntmps14
  go_upto_region 4 with fail
  rw [← hW]
  clear hW
  go_wp2_with fail
  refine (toRuleS_any a n cap f _ HS.out hl).mono ?_
  rintro e w1 ⟨rfl, R1, b1⟩
  obtain ⟨g, hg⟩ : ∃ g, g = W.heap.size := ⟨_, rfl⟩
  rw [← hg] at R1 ⊢
  obtain ⟨⟨x0, x1, x2⟩, ⟨f0, f1, f2⟩⟩ := (H0.out.2.2.1.below b1).thr
  obtain ⟨⟨z0, z1, z2⟩, ⟨e0, e1, e2⟩⟩ := (H0.out.2.1.below b1).thr
  have H1 : Hid (RowU w1 g n f ∧ Below w.heap.size w w1 ∧ w.heap.size + 1 + 1 + 1 = g) := ⟨R1, bel_next H0.out.2.2.2.1 b1, by rw [hg]; exact H0.out.2.2.2.2.symm⟩
  clear R1 b1 hg H0 y0 y1 y2 HS
  go_wp2
  refine bodyPost_ret (v := .agg (cfc wt tr (some ⟨g, 0, none⟩) n n)) (by simp [results, Tryd.results14, go_sem, z0, z1, z2]) rfl ⟨g, rfl, ?_, ?_, ?_⟩
  · have := H1.out.2.2
    exact (((H1.out.1.setc (by omega)).setc (by omega)).setc (by omega)).setc (by omega)
  · have := H1.out.2.2; omega
  · exact (((H1.out.2.1.setCell (p := ⟨w.heap.size + 1 + 1, 2, none⟩) (by show w.heap.size ≤ w.heap.size + 1 + 1; omega) _).setCell (p := ⟨w.heap.size + 1, 0, none⟩) (by show w.heap.size ≤ w.heap.size + 1; omega) _).setCell (p := ⟨w.heap.size + 1, 1, none⟩) (by show w.heap.size ≤ w.heap.size + 1; omega) _).setCell (p := ⟨w.heap.size + 1, 2, none⟩) (by show w.heap.size ≤ w.heap.size + 1; omega) _

set_option maxHeartbeats 1000000 in
theorem eqConfig_true (wt tr : Int) (a a' : Option Addr) (n cap cap' : Nat) (f : Nat → Ru) (w : World) (hs : SlU w a n f) (hs' : SlU w a' n f) (hl : n ≤ 2000000) :
    Calls Tryd.prog 15 #[.agg (cfc wt tr a n cap), .agg (cfc wt tr a' n cap')] w fun e w' => e = .returned (.bool true) ∧ Below w.heap.size w w' := by
  have bW : Below w.heap.size w ((w.alloc (.cells (cfc wt tr a n cap) 26)).alloc (.cells (cfc wt tr a' n cap') 26)) := bel_next (bel_alloc _ _) (bel_alloc _ _)
  have HS : Hid (SlU ((w.alloc (.cells (cfc wt tr a n cap) 26)).alloc (.cells (cfc wt tr a' n cap') 26)) a n f) := SlS.below hs bW
  have HS' : Hid (SlU ((w.alloc (.cells (cfc wt tr a n cap) 26)).alloc (.cells (cfc wt tr a' n cap') 26)) a' n f) := SlS.below hs' bW
  have HB := hide bW
  clear hs hs' bW
  go_enter Tryd.func15, Tryd.ntmps15
  go_wp2_with fail
  refine (eqRuleS_true a a' n cap cap' f _ HS.out HS'.out hl).mono ?_
  rintro e w1 ⟨rfl, b1⟩
  have B1 := bel_next HB.out b1
  clear b1 HB HS HS'
  go_wp2
  go_ret
  exact ⟨rfl, B1⟩

/-- Settings that are right: by what Wait and Tries are, and whether the rules are right. -/
def okC (wt tr : Int) (b : Bool) : Bool := (inB wt 1 100 && inB tr 0 5) && b

theorem okC_yes {wt tr : Int} {b : Bool} (h1 : 1 ≤ wt ∧ wt ≤ 100) (h2 : 0 ≤ tr ∧ tr ≤ 5) : okC wt tr b = b := by
  unfold okC inB; rw [decide_eq_true h1, decide_eq_true h2]; rfl

theorem okC_no {wt tr : Int} {b : Bool} (h : ¬ (1 ≤ wt ∧ wt ≤ 100) ∨ ¬ (0 ≤ tr ∧ tr ≤ 5)) : okC wt tr b = false := by
  unfold okC inB
  rcases h with h | h
  · rw [decide_eq_false h]; rfl
  · rw [decide_eq_false h]; simp

set_option maxHeartbeats 1000000 in
theorem specConfigOk_any (wt tr : Int) (a : Option Addr) (n cap : Nat) (f : Nat → Ru) (w : World) (hs : SlU w a n f) (hl : n ≤ 2000000) (b : Bool) (hb : b = true ↔ OkRs f n) :
    Calls Tryd.prog 9 #[.agg (cfc wt tr a n cap)] w fun e w' => e = .returned (.bool (okC wt tr b)) ∧ Below w.heap.size w w' := by
  have bW := bel_alloc w (.cells (cfc wt tr a n cap) 26)
  have HS : Hid (SlU (w.alloc (.cells (cfc wt tr a n cap) 26)) a n f ∧ Below w.heap.size w (w.alloc (.cells (cfc wt tr a n cap) 26))) := ⟨SlS.below hs bW, bW⟩
  have HB : Hid (b = true ↔ OkRs f n) := hb
  clear hs bW hb
  obtain ⟨c1, hc1⟩ : ∃ c1, c1 = inB wt 1 100 := ⟨_, rfl⟩
  obtain ⟨c2, hc2⟩ : ∃ c2, c2 = inB tr 0 5 := ⟨_, rfl⟩
  have HE : Hid (okC wt tr b = (c1 && c2 && b) ∧ inB wt 1 100 = c1 ∧ inB tr 0 5 = c2) := ⟨by unfold okC; rw [hc1, hc2], hc1.symm, hc2.symm⟩
  rw [HE.out.1]
  clear hc1 hc2
  go_enter Tryd.func9, Tryd.ntmps9
  go_wp2_with fail
  refine (l1In_any _ _ _ _ c1 HE.out.2.1).mono ?_
  rintro e w1 ⟨rfl, rfl⟩
  cases c1 with
  | false =>
    go_wp2
    go_ret
    exact ⟨rfl, HS.out.2⟩
  | true =>
    go_wp2_with fail
    refine (l1In_any _ _ _ _ c2 HE.out.2.2).mono ?_
    rintro e w1 ⟨rfl, rfl⟩
    cases c2 with
    | false =>
      go_wp2
      go_ret
      exact ⟨rfl, HS.out.2⟩
    | true =>
      go_wp2_with fail
      refine (specRulesOk_any a n cap f _ HS.out.1 hl b HB.out).mono ?_
      rintro e w2 ⟨rfl, b2⟩
      have B2 := bel_next HS.out.2 b2
      clear b2
      go_wp2
      go_ret
      exact ⟨rfl, B2⟩

set_option maxHeartbeats 1000000 in
theorem isWait_any (x : Int) (w : World) (b : Bool) (hb : inB x 1 100 = b) : Calls Tryd.prog 24 #[.int .i64 x] w fun e w' => e = .returned (.bool b) ∧ w' = w := by
  subst hb
  unfold inB
  by_cases h1 : 1 ≤ x
  · by_cases h2 : x ≤ 100
    · rw [decide_eq_true ⟨h1, h2⟩]
      go_enter Tryd.func24, Tryd.ntmps24
      go_wp2_with (go_at_call 43; go_in)
      go_ret
      exact ⟨rfl, rfl⟩
    · rw [decide_eq_false (fun h => h2 h.2)]
      go_enter Tryd.func24, Tryd.ntmps24
      go_wp2_with (go_at_call 43; go_in)
      go_ret
      exact ⟨rfl, rfl⟩
  · rw [decide_eq_false (fun h => h1 h.1)]
    go_enter Tryd.func24, Tryd.ntmps24
    go_wp2_with (go_at_call 43; go_in)
    go_ret
    exact ⟨rfl, rfl⟩

set_option maxHeartbeats 1000000 in
theorem isTries_any (x : Int) (w : World) (b : Bool) (hb : inB x 0 5 = b) : Calls Tryd.prog 25 #[.int .i64 x] w fun e w' => e = .returned (.bool b) ∧ w' = w := by
  subst hb
  unfold inB
  by_cases h1 : 0 ≤ x
  · by_cases h2 : x ≤ 5
    · rw [decide_eq_true ⟨h1, h2⟩]
      go_enter Tryd.func25, Tryd.ntmps25
      go_wp2
      go_ret
      exact ⟨rfl, rfl⟩
    · rw [decide_eq_false (fun h => h2 h.2)]
      go_enter Tryd.func25, Tryd.ntmps25
      go_wp2
      go_ret
      exact ⟨rfl, rfl⟩
  · rw [decide_eq_false (fun h => h1 h.1)]
    go_enter Tryd.func25, Tryd.ntmps25
    go_wp2
    go_ret
    exact ⟨rfl, rfl⟩

set_option maxHeartbeats 1000000 in
theorem implConfigOk_any (wt tr : Int) (a : Option Addr) (n cap : Nat) (f : Nat → Ru) (w : World) (hs : SlU w a n f) (hl : n ≤ 2000000) (h64 : ∀ k, k < n → -9223372036854775808 ≤ (f k).sh ∧ (f k).sh ≤ 9223372036854775807) (b : Bool) (hb : b = true ↔ OkRs f n) :
    Calls Tryd.prog 10 #[.agg (cfc wt tr a n cap)] w fun e w' => e = .returned (.bool (okC wt tr b)) ∧ Below w.heap.size w w' := by
  have bW := bel_alloc w (.cells (cfc wt tr a n cap) 26)
  have HS : Hid (SlU (w.alloc (.cells (cfc wt tr a n cap) 26)) a n f ∧ Below w.heap.size w (w.alloc (.cells (cfc wt tr a n cap) 26))) := ⟨SlS.below hs bW, bW⟩
  have HB : Hid ((b = true ↔ OkRs f n) ∧ ∀ k, k < n → -9223372036854775808 ≤ (f k).sh ∧ (f k).sh ≤ 9223372036854775807) := ⟨hb, h64⟩
  clear hs bW hb h64
  obtain ⟨c1, hc1⟩ : ∃ c1, c1 = inB wt 1 100 := ⟨_, rfl⟩
  obtain ⟨c2, hc2⟩ : ∃ c2, c2 = inB tr 0 5 := ⟨_, rfl⟩
  have HE : Hid (okC wt tr b = (c1 && c2 && b) ∧ inB wt 1 100 = c1 ∧ inB tr 0 5 = c2) := ⟨by unfold okC; rw [hc1, hc2], hc1.symm, hc2.symm⟩
  rw [HE.out.1]
  clear hc1 hc2
  go_enter Tryd.func10, Tryd.ntmps10
  go_wp2_with fail
  refine (isWait_any _ _ c1 HE.out.2.1).mono ?_
  rintro e w1 ⟨rfl, rfl⟩
  cases c1 with
  | false =>
    go_wp2
    go_ret
    exact ⟨rfl, HS.out.2⟩
  | true =>
    go_wp2_with fail
    refine (isTries_any _ _ c2 HE.out.2.2).mono ?_
    rintro e w1 ⟨rfl, rfl⟩
    cases c2 with
    | false =>
      go_wp2
      go_ret
      exact ⟨rfl, HS.out.2⟩
    | true =>
      go_wp2_with fail
      refine (implRulesOk_any a n cap f _ HS.out.1 hl HB.out.2 b HB.out.1).mono ?_
      rintro e w2 ⟨rfl, b2⟩
      have B2 := bel_next HS.out.2 b2
      clear b2
      go_wp2
      go_ret
      exact ⟨rfl, B2⟩

end Go.Proofs.YtklnfeblkffgiaaDoor
