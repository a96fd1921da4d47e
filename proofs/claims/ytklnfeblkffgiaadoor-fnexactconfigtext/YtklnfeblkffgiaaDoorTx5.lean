/- The text of settings, of both, at every settings. -/
import Derived.Test.YtklnfeblkffgiaaDoorTx4
namespace Go.Proofs.YtklnfeblkffgiaaDoor
open Go.RowKit

set_option linter.unusedVariables false

set_option linter.unusedSimpArgs false

theorem okRs_small {f : Nat → Ru} {n : Nat} (h : OkRs f n) : n ≤ 24 ∧ SmR f n := by
  refine ⟨h.1, fun k hk x hx => ?_⟩
  have h9 := h.2.1 k hk
  unfold OkRu at h9
  simp only [ruN, List.mem_cons, List.not_mem_nil, or_false] at hx
  rcases hx with rfl | rfl | rfl | rfl | rfl | rfl | rfl <;> omega

theorem okC_parts {wt tr : Int} {b : Bool} (h : okC wt tr b = true) : (-1000000 ≤ wt ∧ wt ≤ 1000000) ∧ (-1000000 ≤ tr ∧ tr ≤ 1000000) ∧ b = true := by
  unfold okC inB at h
  simp only [Bool.and_eq_true, decide_eq_true_eq] at h
  exact ⟨by omega, by omega, h.2⟩

/-- What the text is. -/
def cfA (wt tr : Int) (b : Bool) (f : Nat → Ru) (n : Nat) : List UInt8 := bif okC wt tr b then cfT wt tr f n else []

set_option maxHeartbeats 1000000 in
theorem specText_any (wt tr : Int) (a : Option Addr) (n cap : Nat) (f : Nat → Ru) (w : World) (hs : SlU w a n f) (hl : n ≤ 2000000) (b : Bool) (hb : b = true ↔ OkRs f n) :
    Calls Tryd.prog 13 #[.agg (cfc wt tr a n cap)] w fun e w' => e = .returned (.string (tx (cfA wt tr b f n))) ∧ Below w.heap.size w w' := by
  unfold cfA
  rcases Bool.eq_false_or_eq_true (okC wt tr b) with h | h
  · obtain ⟨p1, p2, p3⟩ := okC_parts h
    obtain ⟨q1, q2⟩ := okRs_small (hb.1 p3)
    rw [h]
    exact specText_good wt tr a n cap f w hs q1 b hb h p1 p2 q2
  · have bW := bel_alloc w (.cells (cfc wt tr a n cap) 26)
    have HS : Hid (SlU (w.alloc (.cells (cfc wt tr a n cap) 26)) a n f ∧ Below w.heap.size w (w.alloc (.cells (cfc wt tr a n cap) 26)) ∧ (b = true ↔ OkRs f n) ∧ okC wt tr b = false) := ⟨SlS.below hs bW, bW, hb, h⟩
    rw [h]
    clear hs bW hb h
    go_enter Tryd.func13, Tryd.ntmps13
    go_wp2_with fail
    refine (specConfigOk_any wt tr a n cap f _ HS.out.1 hl b HS.out.2.2.1).mono ?_
    rintro e w1 ⟨rfl, b1⟩
    rw [HS.out.2.2.2]
    have B1 := bel_next HS.out.2.1 b1
    clear b1
    go_wp2
    go_ret
    exact ⟨rfl, B1⟩

set_option maxHeartbeats 1000000 in
theorem implText_any (wt tr : Int) (a : Option Addr) (n cap : Nat) (f : Nat → Ru) (w : World) (hs : SlU w a n f) (hl : n ≤ 2000000) (h64 : ∀ k, k < n → -9223372036854775808 ≤ (f k).sh ∧ (f k).sh ≤ 9223372036854775807) (b : Bool) (hb : b = true ↔ OkRs f n) (ht : Pw w) :
    Calls Tryd.prog 8 #[.agg (cfc wt tr a n cap)] w fun e w' => e = .returned (.string (tx (cfA wt tr b f n))) ∧ Below w.heap.size w w' := by
  unfold cfA
  rcases Bool.eq_false_or_eq_true (okC wt tr b) with h | h
  · obtain ⟨p1, p2, p3⟩ := okC_parts h
    obtain ⟨q1, q2⟩ := okRs_small (hb.1 p3)
    rw [h]
    exact implText_good wt tr a n cap f w hs q1 b hb h64 h p1 p2 q2 ht
  · have bW := bel_alloc w (.cells (cfc wt tr a n cap) 26)
    have HS : Hid (SlU (w.alloc (.cells (cfc wt tr a n cap) 26)) a n f ∧ Below w.heap.size w (w.alloc (.cells (cfc wt tr a n cap) 26)) ∧ (b = true ↔ OkRs f n) ∧ okC wt tr b = false ∧ ∀ k, k < n → -9223372036854775808 ≤ (f k).sh ∧ (f k).sh ≤ 9223372036854775807) := ⟨SlS.below hs bW, bW, hb, h, h64⟩
    rw [h]
    clear hs bW hb h h64
    go_enter Tryd.func8, Tryd.ntmps8
    go_wp2_with fail
    refine (implConfigOk_any wt tr a n cap f _ HS.out.1 hl HS.out.2.2.2.2 b HS.out.2.2.1).mono ?_
    rintro e w1 ⟨rfl, b1⟩
    rw [HS.out.2.2.2.1]
    have B1 := bel_next HS.out.2.1 b1
    clear b1
    go_wp2
    go_ret
    exact ⟨rfl, B1⟩

end Go.Proofs.YtklnfeblkffgiaaDoor
