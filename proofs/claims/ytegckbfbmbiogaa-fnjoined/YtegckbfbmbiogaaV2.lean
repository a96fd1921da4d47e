/- Texts that the proof needs, joined: Sr9. -/
import Derived.Test.YtegckbfbmbiogaaV1
namespace Go.Proofs.Ytegckbfbmbiogaa
open Go.RowKit
set_option linter.unusedVariables false
set_option linter.unusedSimpArgs false
def OkRu (r : Ru) : Prop := (1 ≤ r.u ∧ r.u ≤ 247) ∧ (0 ≤ r.s ∧ r.s ≤ 3) ∧ (0 ≤ r.lo ∧ r.lo ≤ r.hi ∧ r.hi ≤ 65535) ∧ (0 ≤ r.p ∧ r.p ≤ 5) ∧ (1 ≤ r.t ∧ r.t ≤ 247) ∧ 0 ≤ r.lo + r.sh ∧ r.hi + r.sh ≤ 65535
instance (r : Ru) : Decidable (OkRu r) := by unfold OkRu; infer_instance
theorem inB_t {x lo hi : Int} (h : lo ≤ x ∧ x ≤ hi) : inB x lo hi = true := decide_eq_true h
theorem inB_f {x lo hi : Int} (h : ¬ (lo ≤ x ∧ x ≤ hi)) : inB x lo hi = false := decide_eq_false h
set_option maxRecDepth 20000 in
set_option maxHeartbeats 4000000 in
theorem l10Rule_any (r : Ru) (w : World) :
    Calls Try.prog 89 #[.agg (ruc r)] w fun e w' => e = .returned (.bool (decide (OkRu r))) ∧ Below w.heap.size w w' := by
  by_cases h0 : 1 ≤ r.u ∧ r.u ≤ 247
  case neg =>
    rw [decide_eq_false (show ¬ OkRu r from by unfold OkRu; omega)]
    go_enter Try.func89, Try.ntmps89
    go_wp2_with fail
    refine (l1In_any (r.u) (1) (247) _ false (inB_f h0)).mono ?_
    rintro e wx ⟨rfl, rfl⟩
    go_wp2
    go_ret
    exact ⟨rfl, ((Below.refl _ w).alloc (Nat.le_refl _) _)⟩
  by_cases h1 : 0 ≤ r.s ∧ r.s ≤ 3
  case neg =>
    rw [decide_eq_false (show ¬ OkRu r from by unfold OkRu; omega)]
    go_enter Try.func89, Try.ntmps89
    go_wp2_with fail
    refine (l1In_any (r.u) (1) (247) _ true (inB_t h0)).mono ?_
    rintro e wx ⟨rfl, rfl⟩
    go_wp2_with fail
    refine (l1In_any (r.s) (0) (3) _ false (inB_f h1)).mono ?_
    rintro e wx ⟨rfl, rfl⟩
    go_wp2
    go_ret
    exact ⟨rfl, ((Below.refl _ w).alloc (Nat.le_refl _) _)⟩
  by_cases h2 : 0 ≤ r.lo ∧ r.lo ≤ 65535
  case neg =>
    rw [decide_eq_false (show ¬ OkRu r from by unfold OkRu; omega)]
    go_enter Try.func89, Try.ntmps89
    go_wp2_with fail
    refine (l1In_any (r.u) (1) (247) _ true (inB_t h0)).mono ?_
    rintro e wx ⟨rfl, rfl⟩
    go_wp2_with fail
    refine (l1In_any (r.s) (0) (3) _ true (inB_t h1)).mono ?_
    rintro e wx ⟨rfl, rfl⟩
    go_wp2_with fail
    refine (l1In_any (r.lo) (0) (65535) _ false (inB_f h2)).mono ?_
    rintro e wx ⟨rfl, rfl⟩
    go_wp2
    go_ret
    exact ⟨rfl, ((Below.refl _ w).alloc (Nat.le_refl _) _)⟩
  by_cases h3 : r.lo ≤ r.hi ∧ r.hi ≤ 65535
  case neg =>
    rw [decide_eq_false (show ¬ OkRu r from by unfold OkRu; omega)]
    go_enter Try.func89, Try.ntmps89
    go_wp2_with fail
    refine (l1In_any (r.u) (1) (247) _ true (inB_t h0)).mono ?_
    rintro e wx ⟨rfl, rfl⟩
    go_wp2_with fail
    refine (l1In_any (r.s) (0) (3) _ true (inB_t h1)).mono ?_
    rintro e wx ⟨rfl, rfl⟩
    go_wp2_with fail
    refine (l1In_any (r.lo) (0) (65535) _ true (inB_t h2)).mono ?_
    rintro e wx ⟨rfl, rfl⟩
    go_wp2_with fail
    refine (l1In_any (r.hi) (r.lo) (65535) _ false (inB_f h3)).mono ?_
    rintro e wx ⟨rfl, rfl⟩
    go_wp2
    go_ret
    exact ⟨rfl, ((Below.refl _ w).alloc (Nat.le_refl _) _)⟩
  by_cases h4 : 0 ≤ r.p ∧ r.p ≤ 5
  case neg =>
    rw [decide_eq_false (show ¬ OkRu r from by unfold OkRu; omega)]
    go_enter Try.func89, Try.ntmps89
    go_wp2_with fail
    refine (l1In_any (r.u) (1) (247) _ true (inB_t h0)).mono ?_
    rintro e wx ⟨rfl, rfl⟩
    go_wp2_with fail
    refine (l1In_any (r.s) (0) (3) _ true (inB_t h1)).mono ?_
    rintro e wx ⟨rfl, rfl⟩
    go_wp2_with fail
    refine (l1In_any (r.lo) (0) (65535) _ true (inB_t h2)).mono ?_
    rintro e wx ⟨rfl, rfl⟩
    go_wp2_with fail
    refine (l1In_any (r.hi) (r.lo) (65535) _ true (inB_t h3)).mono ?_
    rintro e wx ⟨rfl, rfl⟩
    go_wp2_with fail
    refine (l1In_any (r.p) (0) (5) _ false (inB_f h4)).mono ?_
    rintro e wx ⟨rfl, rfl⟩
    go_wp2
    go_ret
    exact ⟨rfl, ((Below.refl _ w).alloc (Nat.le_refl _) _)⟩
  by_cases h5 : 1 ≤ r.t ∧ r.t ≤ 247
  case neg =>
    rw [decide_eq_false (show ¬ OkRu r from by unfold OkRu; omega)]
    go_enter Try.func89, Try.ntmps89
    go_wp2_with fail
    refine (l1In_any (r.u) (1) (247) _ true (inB_t h0)).mono ?_
    rintro e wx ⟨rfl, rfl⟩
    go_wp2_with fail
    refine (l1In_any (r.s) (0) (3) _ true (inB_t h1)).mono ?_
    rintro e wx ⟨rfl, rfl⟩
    go_wp2_with fail
    refine (l1In_any (r.lo) (0) (65535) _ true (inB_t h2)).mono ?_
    rintro e wx ⟨rfl, rfl⟩
    go_wp2_with fail
    refine (l1In_any (r.hi) (r.lo) (65535) _ true (inB_t h3)).mono ?_
    rintro e wx ⟨rfl, rfl⟩
    go_wp2_with fail
    refine (l1In_any (r.p) (0) (5) _ true (inB_t h4)).mono ?_
    rintro e wx ⟨rfl, rfl⟩
    go_wp2_with fail
    refine (l1In_any (r.t) (1) (247) _ false (inB_f h5)).mono ?_
    rintro e wx ⟨rfl, rfl⟩
    go_wp2
    go_ret
    exact ⟨rfl, ((Below.refl _ w).alloc (Nat.le_refl _) _)⟩
  by_cases h6 : -65535 ≤ r.sh ∧ r.sh ≤ 65535
  case neg =>
    rw [decide_eq_false (show ¬ OkRu r from by unfold OkRu; omega)]
    go_enter Try.func89, Try.ntmps89
    go_wp2_with fail
    refine (l1In_any (r.u) (1) (247) _ true (inB_t h0)).mono ?_
    rintro e wx ⟨rfl, rfl⟩
    go_wp2_with fail
    refine (l1In_any (r.s) (0) (3) _ true (inB_t h1)).mono ?_
    rintro e wx ⟨rfl, rfl⟩
    go_wp2_with fail
    refine (l1In_any (r.lo) (0) (65535) _ true (inB_t h2)).mono ?_
    rintro e wx ⟨rfl, rfl⟩
    go_wp2_with fail
    refine (l1In_any (r.hi) (r.lo) (65535) _ true (inB_t h3)).mono ?_
    rintro e wx ⟨rfl, rfl⟩
    go_wp2_with fail
    refine (l1In_any (r.p) (0) (5) _ true (inB_t h4)).mono ?_
    rintro e wx ⟨rfl, rfl⟩
    go_wp2_with fail
    refine (l1In_any (r.t) (1) (247) _ true (inB_t h5)).mono ?_
    rintro e wx ⟨rfl, rfl⟩
    go_wp2_with fail
    refine (l1In_any (r.sh) (-65535) (65535) _ false (inB_f h6)).mono ?_
    rintro e wx ⟨rfl, rfl⟩
    go_wp2
    go_ret
    exact ⟨rfl, ((Below.refl _ w).alloc (Nat.le_refl _) _)⟩
  have wr1 : IntKind.i64.wrap (r.lo + r.sh) = r.lo + r.sh := by rw [IntKind.wrap_i64]; omega
  have wr2 : IntKind.i64.wrap (r.hi + r.sh) = r.hi + r.sh := by rw [IntKind.wrap_i64]; omega
  by_cases h7 : 0 ≤ r.lo + r.sh ∧ r.lo + r.sh ≤ 65535
  case neg =>
    rw [decide_eq_false (show ¬ OkRu r from by unfold OkRu; omega)]
    go_enter Try.func89, Try.ntmps89
    go_wp2_with fail
    refine (l1In_any (r.u) (1) (247) _ true (inB_t h0)).mono ?_
    rintro e wx ⟨rfl, rfl⟩
    go_wp2_with fail
    refine (l1In_any (r.s) (0) (3) _ true (inB_t h1)).mono ?_
    rintro e wx ⟨rfl, rfl⟩
    go_wp2_with fail
    refine (l1In_any (r.lo) (0) (65535) _ true (inB_t h2)).mono ?_
    rintro e wx ⟨rfl, rfl⟩
    go_wp2_with fail
    refine (l1In_any (r.hi) (r.lo) (65535) _ true (inB_t h3)).mono ?_
    rintro e wx ⟨rfl, rfl⟩
    go_wp2_with fail
    refine (l1In_any (r.p) (0) (5) _ true (inB_t h4)).mono ?_
    rintro e wx ⟨rfl, rfl⟩
    go_wp2_with fail
    refine (l1In_any (r.t) (1) (247) _ true (inB_t h5)).mono ?_
    rintro e wx ⟨rfl, rfl⟩
    go_wp2_with fail
    refine (l1In_any (r.sh) (-65535) (65535) _ true (inB_t h6)).mono ?_
    rintro e wx ⟨rfl, rfl⟩
    go_wp2_with fail
    refine (l1In_any (r.lo + r.sh) (0) (65535) _ false (inB_f h7)).mono ?_
    rintro e wx ⟨rfl, rfl⟩
    go_wp2
    go_ret
    exact ⟨rfl, ((Below.refl _ w).alloc (Nat.le_refl _) _)⟩
  by_cases h8 : 0 ≤ r.hi + r.sh ∧ r.hi + r.sh ≤ 65535
  case neg =>
    rw [decide_eq_false (show ¬ OkRu r from by unfold OkRu; omega)]
    go_enter Try.func89, Try.ntmps89
    go_wp2_with fail
    refine (l1In_any (r.u) (1) (247) _ true (inB_t h0)).mono ?_
    rintro e wx ⟨rfl, rfl⟩
    go_wp2_with fail
    refine (l1In_any (r.s) (0) (3) _ true (inB_t h1)).mono ?_
    rintro e wx ⟨rfl, rfl⟩
    go_wp2_with fail
    refine (l1In_any (r.lo) (0) (65535) _ true (inB_t h2)).mono ?_
    rintro e wx ⟨rfl, rfl⟩
    go_wp2_with fail
    refine (l1In_any (r.hi) (r.lo) (65535) _ true (inB_t h3)).mono ?_
    rintro e wx ⟨rfl, rfl⟩
    go_wp2_with fail
    refine (l1In_any (r.p) (0) (5) _ true (inB_t h4)).mono ?_
    rintro e wx ⟨rfl, rfl⟩
    go_wp2_with fail
    refine (l1In_any (r.t) (1) (247) _ true (inB_t h5)).mono ?_
    rintro e wx ⟨rfl, rfl⟩
    go_wp2_with fail
    refine (l1In_any (r.sh) (-65535) (65535) _ true (inB_t h6)).mono ?_
    rintro e wx ⟨rfl, rfl⟩
    go_wp2_with fail
    refine (l1In_any (r.lo + r.sh) (0) (65535) _ true (inB_t h7)).mono ?_
    rintro e wx ⟨rfl, rfl⟩
    go_wp2_with fail
    refine (l1In_any (r.hi + r.sh) (0) (65535) _ false (inB_f h8)).mono ?_
    rintro e wx ⟨rfl, rfl⟩
    go_wp2
    go_ret
    exact ⟨rfl, ((Below.refl _ w).alloc (Nat.le_refl _) _)⟩
  rw [decide_eq_true (show OkRu r from by unfold OkRu; omega)]
  go_enter Try.func89, Try.ntmps89
  go_wp2_with fail
  refine (l1In_any (r.u) (1) (247) _ true (inB_t h0)).mono ?_
  rintro e wx ⟨rfl, rfl⟩
  go_wp2_with fail
  refine (l1In_any (r.s) (0) (3) _ true (inB_t h1)).mono ?_
  rintro e wx ⟨rfl, rfl⟩
  go_wp2_with fail
  refine (l1In_any (r.lo) (0) (65535) _ true (inB_t h2)).mono ?_
  rintro e wx ⟨rfl, rfl⟩
  go_wp2_with fail
  refine (l1In_any (r.hi) (r.lo) (65535) _ true (inB_t h3)).mono ?_
  rintro e wx ⟨rfl, rfl⟩
  go_wp2_with fail
  refine (l1In_any (r.p) (0) (5) _ true (inB_t h4)).mono ?_
  rintro e wx ⟨rfl, rfl⟩
  go_wp2_with fail
  refine (l1In_any (r.t) (1) (247) _ true (inB_t h5)).mono ?_
  rintro e wx ⟨rfl, rfl⟩
  go_wp2_with fail
  refine (l1In_any (r.sh) (-65535) (65535) _ true (inB_t h6)).mono ?_
  rintro e wx ⟨rfl, rfl⟩
  go_wp2_with fail
  refine (l1In_any (r.lo + r.sh) (0) (65535) _ true (inB_t h7)).mono ?_
  rintro e wx ⟨rfl, rfl⟩
  go_wp2_with fail
  refine (l1In_any (r.hi + r.sh) (0) (65535) _ true (inB_t h8)).mono ?_
  rintro e wx ⟨rfl, rfl⟩
  go_wp2
  go_ret
  exact ⟨rfl, ((Below.refl _ w).alloc (Nat.le_refl _) _)⟩
end Go.Proofs.Ytegckbfbmbiogaa
