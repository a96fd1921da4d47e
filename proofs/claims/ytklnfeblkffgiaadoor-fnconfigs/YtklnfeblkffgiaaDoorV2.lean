/- Texts that the proof needs, joined: Sr9. -/
import Derived.Test.YtklnfeblkffgiaaDoorV1
namespace Go.Proofs.YtklnfeblkffgiaaDoor
open Go.RowKit
set_option linter.unusedVariables false
set_option linter.unusedSimpArgs false
def OkRu (r : Ru) : Prop := (1 ≤ r.u ∧ r.u ≤ 247) ∧ (0 ≤ r.s ∧ r.s ≤ 3) ∧ (0 ≤ r.lo ∧ r.lo ≤ r.hi ∧ r.hi ≤ 65535) ∧ (0 ≤ r.p ∧ r.p ≤ 5) ∧ (1 ≤ r.t ∧ r.t ≤ 247) ∧ 0 ≤ r.lo + r.sh ∧ r.hi + r.sh ≤ 65535
instance (r : Ru) : Decidable (OkRu r) := by unfold OkRu; infer_instance
set_option maxHeartbeats 1000000 in
theorem isCntU (x most : Int) (w : World) (b : Bool) (hb : inB x 1 most = b) : Calls Tryd.prog 43 #[.int .i64 x, .int .i64 most] w fun e w' => e = .returned (.bool b) ∧ w' = w := by
  subst hb
  unfold inB
  by_cases h1 : 1 ≤ x
  · by_cases h2 : x ≤ most
    · rw [decide_eq_true (show (1 ≤ x ∧ x ≤ most) from ⟨by omega, by omega⟩)]
      go_enter Tryd.func43, Tryd.ntmps43
      go_wp2
      go_ret
      exact ⟨rfl, rfl⟩
    · rw [decide_eq_false (show ¬ (1 ≤ x ∧ x ≤ most) from fun h => by omega)]
      go_enter Tryd.func43, Tryd.ntmps43
      go_wp2
      go_ret
      exact ⟨rfl, rfl⟩
  · rw [decide_eq_false (show ¬ (1 ≤ x ∧ x ≤ most) from fun h => by omega)]
    go_enter Tryd.func43, Tryd.ntmps43
    go_wp2
    go_ret
    exact ⟨rfl, rfl⟩
set_option maxHeartbeats 1000000 in
theorem isSpace_any (x : Int) (w : World) (b : Bool) (hb : inB x 0 3 = b) : Calls Tryd.prog 58 #[.int .i64 x] w fun e w' => e = .returned (.bool b) ∧ w' = w := by
  subst hb
  unfold inB
  by_cases h1 : 0 ≤ x
  · by_cases h2 : x ≤ 3
    · rw [decide_eq_true (show (0 ≤ x ∧ x ≤ 3) from ⟨by omega, by omega⟩)]
      go_enter Tryd.func58, Tryd.ntmps58
      go_wp2
      go_ret
      exact ⟨rfl, rfl⟩
    · rw [decide_eq_false (show ¬ (0 ≤ x ∧ x ≤ 3) from fun h => by omega)]
      go_enter Tryd.func58, Tryd.ntmps58
      go_wp2
      go_ret
      exact ⟨rfl, rfl⟩
  · rw [decide_eq_false (show ¬ (0 ≤ x ∧ x ≤ 3) from fun h => by omega)]
    go_enter Tryd.func58, Tryd.ntmps58
    go_wp2
    go_ret
    exact ⟨rfl, rfl⟩
set_option maxHeartbeats 1000000 in
theorem isPortPlace_any (x : Int) (w : World) (b : Bool) (hb : inB x 0 5 = b) : Calls Tryd.prog 59 #[.int .i64 x] w fun e w' => e = .returned (.bool b) ∧ w' = w := by
  subst hb
  unfold inB
  by_cases h1 : 0 ≤ x
  · by_cases h2 : x < 6
    · rw [decide_eq_true (show (0 ≤ x ∧ x ≤ 5) from ⟨by omega, by omega⟩)]
      go_enter Tryd.func59, Tryd.ntmps59
      go_wp2
      go_ret
      exact ⟨rfl, rfl⟩
    · rw [decide_eq_false (show ¬ (0 ≤ x ∧ x ≤ 5) from fun h => by omega)]
      go_enter Tryd.func59, Tryd.ntmps59
      go_wp2
      go_ret
      exact ⟨rfl, rfl⟩
  · rw [decide_eq_false (show ¬ (0 ≤ x ∧ x ≤ 5) from fun h => by omega)]
    go_enter Tryd.func59, Tryd.ntmps59
    go_wp2
    go_ret
    exact ⟨rfl, rfl⟩
set_option maxHeartbeats 1000000 in
theorem isUnit_any (x : Int) (w : World) (b : Bool) (hb : inB x 1 247 = b) : Calls Tryd.prog 57 #[.int .i64 x] w fun e w' => e = .returned (.bool b) ∧ w' = w := by
  go_enter Tryd.func57, Tryd.ntmps57
  go_wp2_with fail
  refine (isCntU _ _ _ _ hb).mono ?_
  rintro e wx ⟨rfl, rfl⟩
  go_wp2
  go_ret
  exact ⟨rfl, rfl⟩
theorem inB_t {x lo hi : Int} (h : lo ≤ x ∧ x ≤ hi) : inB x lo hi = true := decide_eq_true h
theorem inB_f {x lo hi : Int} (h : ¬ (lo ≤ x ∧ x ≤ hi)) : inB x lo hi = false := decide_eq_false h
set_option maxRecDepth 20000 in
set_option maxHeartbeats 4000000 in
theorem staysWithin_any (r : Ru) (w : World) (hl : 0 ≤ r.lo ∧ r.lo ≤ r.hi ∧ r.hi ≤ 65535) (h64 : -9223372036854775808 ≤ r.sh ∧ r.sh ≤ 9223372036854775807) :
    Calls Tryd.prog 61 #[.agg (ruc r)] w fun e w' => e = .returned (.bool (decide (0 ≤ r.lo + r.sh ∧ r.hi + r.sh ≤ 65535))) ∧ Below w.heap.size w w' := by
  obtain ⟨x1, hx1⟩ : ∃ x1, IntKind.i64.wrap (r.lo + r.sh) = x1 := ⟨_, rfl⟩
  obtain ⟨x2, hx2⟩ : ∃ x2, IntKind.i64.wrap (r.hi + r.sh) = x2 := ⟨_, rfl⟩
  have HX : Hid ((0 ≤ x1 ∧ x1 ≤ 65535 ↔ 0 ≤ r.lo + r.sh ∧ r.lo + r.sh ≤ 65535) ∧ (0 ≤ x2 ∧ x2 ≤ 65535 ↔ 0 ≤ r.hi + r.sh ∧ r.hi + r.sh ≤ 65535) ∧ r.lo ≤ r.hi) := by
    rw [IntKind.wrap_i64] at hx1 hx2
    show _ ∧ _
    omega
  clear hl h64
  by_cases h0 : 0 ≤ x1 ∧ x1 ≤ 65535
  case neg =>
    rw [decide_eq_false (show ¬ (0 ≤ r.lo + r.sh ∧ r.hi + r.sh ≤ 65535) from by have := HX.out; omega)]
    go_enter Tryd.func61, Tryd.ntmps61
    go_wp2_with fail
    refine (isWord_any (x1) _ false (inB_f h0)).mono ?_
    rintro e wx ⟨rfl, rfl⟩
    go_wp2
    go_ret
    exact ⟨rfl, ((Below.refl _ w).alloc (Nat.le_refl _) _)⟩
  by_cases h1 : 0 ≤ x2 ∧ x2 ≤ 65535
  case neg =>
    rw [decide_eq_false (show ¬ (0 ≤ r.lo + r.sh ∧ r.hi + r.sh ≤ 65535) from by have := HX.out; omega)]
    go_enter Tryd.func61, Tryd.ntmps61
    go_wp2_with fail
    refine (isWord_any (x1) _ true (inB_t h0)).mono ?_
    rintro e wx ⟨rfl, rfl⟩
    go_wp2_with fail
    refine (isWord_any (x2) _ false (inB_f h1)).mono ?_
    rintro e wx ⟨rfl, rfl⟩
    go_wp2
    go_ret
    exact ⟨rfl, ((Below.refl _ w).alloc (Nat.le_refl _) _)⟩
  rw [decide_eq_true (show 0 ≤ r.lo + r.sh ∧ r.hi + r.sh ≤ 65535 from by have := HX.out; omega)]
  go_enter Tryd.func61, Tryd.ntmps61
  go_wp2_with fail
  refine (isWord_any (x1) _ true (inB_t h0)).mono ?_
  rintro e wx ⟨rfl, rfl⟩
  go_wp2_with fail
  refine (isWord_any (x2) _ true (inB_t h1)).mono ?_
  rintro e wx ⟨rfl, rfl⟩
  go_wp2
  go_ret
  exact ⟨rfl, ((Below.refl _ w).alloc (Nat.le_refl _) _)⟩
set_option maxRecDepth 20000 in
set_option maxHeartbeats 4000000 in
theorem isRight_any (r : Ru) (w : World) (h64 : -9223372036854775808 ≤ r.sh ∧ r.sh ≤ 9223372036854775807) :
    Calls Tryd.prog 44 #[.agg (ruc r)] w fun e w' => e = .returned (.bool (decide (OkRu r))) ∧ Below w.heap.size w w' := by
  by_cases h0 : 1 ≤ r.u ∧ r.u ≤ 247
  case neg =>
    rw [decide_eq_false (show ¬ OkRu r from by unfold OkRu; omega)]
    go_enter Tryd.func44, Tryd.ntmps44
    go_wp2_with fail
    refine (isUnit_any (r.u) _ false (inB_f h0)).mono ?_
    rintro e wx ⟨rfl, rfl⟩
    go_wp2
    go_ret
    exact ⟨rfl, ((Below.refl _ w).alloc (Nat.le_refl _) _)⟩
  by_cases h1 : 0 ≤ r.s ∧ r.s ≤ 3
  case neg =>
    rw [decide_eq_false (show ¬ OkRu r from by unfold OkRu; omega)]
    go_enter Tryd.func44, Tryd.ntmps44
    go_wp2_with fail
    refine (isUnit_any (r.u) _ true (inB_t h0)).mono ?_
    rintro e wx ⟨rfl, rfl⟩
    go_wp2_with fail
    refine (isSpace_any (r.s) _ false (inB_f h1)).mono ?_
    rintro e wx ⟨rfl, rfl⟩
    go_wp2
    go_ret
    exact ⟨rfl, ((Below.refl _ w).alloc (Nat.le_refl _) _)⟩
  by_cases h2 : 0 ≤ r.p ∧ r.p ≤ 5
  case neg =>
    rw [decide_eq_false (show ¬ OkRu r from by unfold OkRu; omega)]
    go_enter Tryd.func44, Tryd.ntmps44
    go_wp2_with fail
    refine (isUnit_any (r.u) _ true (inB_t h0)).mono ?_
    rintro e wx ⟨rfl, rfl⟩
    go_wp2_with fail
    refine (isSpace_any (r.s) _ true (inB_t h1)).mono ?_
    rintro e wx ⟨rfl, rfl⟩
    go_wp2_with fail
    refine (isPortPlace_any (r.p) _ false (inB_f h2)).mono ?_
    rintro e wx ⟨rfl, rfl⟩
    go_wp2
    go_ret
    exact ⟨rfl, ((Below.refl _ w).alloc (Nat.le_refl _) _)⟩
  by_cases h3 : 1 ≤ r.t ∧ r.t ≤ 247
  case neg =>
    rw [decide_eq_false (show ¬ OkRu r from by unfold OkRu; omega)]
    go_enter Tryd.func44, Tryd.ntmps44
    go_wp2_with fail
    refine (isUnit_any (r.u) _ true (inB_t h0)).mono ?_
    rintro e wx ⟨rfl, rfl⟩
    go_wp2_with fail
    refine (isSpace_any (r.s) _ true (inB_t h1)).mono ?_
    rintro e wx ⟨rfl, rfl⟩
    go_wp2_with fail
    refine (isPortPlace_any (r.p) _ true (inB_t h2)).mono ?_
    rintro e wx ⟨rfl, rfl⟩
    go_wp2_with fail
    refine (isUnit_any (r.t) _ false (inB_f h3)).mono ?_
    rintro e wx ⟨rfl, rfl⟩
    go_wp2
    go_ret
    exact ⟨rfl, ((Below.refl _ w).alloc (Nat.le_refl _) _)⟩
  by_cases h4 : 0 ≤ r.lo ∧ r.lo ≤ 65535
  case neg =>
    rw [decide_eq_false (show ¬ OkRu r from by unfold OkRu; omega)]
    go_enter Tryd.func44, Tryd.ntmps44
    go_wp2_with fail
    refine (isUnit_any (r.u) _ true (inB_t h0)).mono ?_
    rintro e wx ⟨rfl, rfl⟩
    go_wp2_with fail
    refine (isSpace_any (r.s) _ true (inB_t h1)).mono ?_
    rintro e wx ⟨rfl, rfl⟩
    go_wp2_with fail
    refine (isPortPlace_any (r.p) _ true (inB_t h2)).mono ?_
    rintro e wx ⟨rfl, rfl⟩
    go_wp2_with fail
    refine (isUnit_any (r.t) _ true (inB_t h3)).mono ?_
    rintro e wx ⟨rfl, rfl⟩
    go_wp2_with fail
    refine (isWord_any (r.lo) _ false (inB_f h4)).mono ?_
    rintro e wx ⟨rfl, rfl⟩
    go_wp2
    go_ret
    exact ⟨rfl, ((Below.refl _ w).alloc (Nat.le_refl _) _)⟩
  by_cases h5 : 0 ≤ r.hi ∧ r.hi ≤ 65535
  case neg =>
    rw [decide_eq_false (show ¬ OkRu r from by unfold OkRu; omega)]
    go_enter Tryd.func44, Tryd.ntmps44
    go_wp2_with fail
    refine (isUnit_any (r.u) _ true (inB_t h0)).mono ?_
    rintro e wx ⟨rfl, rfl⟩
    go_wp2_with fail
    refine (isSpace_any (r.s) _ true (inB_t h1)).mono ?_
    rintro e wx ⟨rfl, rfl⟩
    go_wp2_with fail
    refine (isPortPlace_any (r.p) _ true (inB_t h2)).mono ?_
    rintro e wx ⟨rfl, rfl⟩
    go_wp2_with fail
    refine (isUnit_any (r.t) _ true (inB_t h3)).mono ?_
    rintro e wx ⟨rfl, rfl⟩
    go_wp2_with fail
    refine (isWord_any (r.lo) _ true (inB_t h4)).mono ?_
    rintro e wx ⟨rfl, rfl⟩
    go_wp2_with fail
    refine (isWord_any (r.hi) _ false (inB_f h5)).mono ?_
    rintro e wx ⟨rfl, rfl⟩
    go_wp2
    go_ret
    exact ⟨rfl, ((Below.refl _ w).alloc (Nat.le_refl _) _)⟩
  by_cases h6 : r.lo ≤ r.hi
  case neg =>
    rw [decide_eq_false (show ¬ OkRu r from by unfold OkRu; omega)]
    go_enter Tryd.func44, Tryd.ntmps44
    go_wp2_with fail
    refine (isUnit_any (r.u) _ true (inB_t h0)).mono ?_
    rintro e wx ⟨rfl, rfl⟩
    go_wp2_with fail
    refine (isSpace_any (r.s) _ true (inB_t h1)).mono ?_
    rintro e wx ⟨rfl, rfl⟩
    go_wp2_with fail
    refine (isPortPlace_any (r.p) _ true (inB_t h2)).mono ?_
    rintro e wx ⟨rfl, rfl⟩
    go_wp2_with fail
    refine (isUnit_any (r.t) _ true (inB_t h3)).mono ?_
    rintro e wx ⟨rfl, rfl⟩
    go_wp2_with fail
    refine (isWord_any (r.lo) _ true (inB_t h4)).mono ?_
    rintro e wx ⟨rfl, rfl⟩
    go_wp2_with fail
    refine (isWord_any (r.hi) _ true (inB_t h5)).mono ?_
    rintro e wx ⟨rfl, rfl⟩
    go_wp2
    go_ret
    exact ⟨rfl, ((Below.refl _ w).alloc (Nat.le_refl _) _)⟩
  have e9 : decide (OkRu r) = decide (0 ≤ r.lo + r.sh ∧ r.hi + r.sh ≤ 65535) := by
    apply decide_eq_decide.2
    unfold OkRu
    omega
  obtain ⟨bb, hbb⟩ : ∃ bb : Bool, decide (0 ≤ r.lo + r.sh ∧ r.hi + r.sh ≤ 65535) = bb := ⟨_, rfl⟩
  rw [e9, hbb]
  have HBB : Hid (decide (0 ≤ r.lo + r.sh ∧ r.hi + r.sh ≤ 65535) = bb) := hbb
  clear e9 hbb
  have B0 : Below w.heap.size w (w.alloc (.cells (ruc r) 33)) := (Below.refl _ w).alloc (Nat.le_refl _) _
  go_enter Tryd.func44, Tryd.ntmps44
  go_wp2_with fail
  refine (isUnit_any (r.u) _ true (inB_t h0)).mono ?_
  rintro e wx ⟨rfl, rfl⟩
  go_wp2_with fail
  refine (isSpace_any (r.s) _ true (inB_t h1)).mono ?_
  rintro e wx ⟨rfl, rfl⟩
  go_wp2_with fail
  refine (isPortPlace_any (r.p) _ true (inB_t h2)).mono ?_
  rintro e wx ⟨rfl, rfl⟩
  go_wp2_with fail
  refine (isUnit_any (r.t) _ true (inB_t h3)).mono ?_
  rintro e wx ⟨rfl, rfl⟩
  go_wp2_with fail
  refine (isWord_any (r.lo) _ true (inB_t h4)).mono ?_
  rintro e wx ⟨rfl, rfl⟩
  go_wp2_with fail
  refine (isWord_any (r.hi) _ true (inB_t h5)).mono ?_
  rintro e wx ⟨rfl, rfl⟩
  go_wp2_with fail
  refine (staysWithin_any r _ ⟨by omega, by omega, by omega⟩ h64).mono ?_
  rintro e w1 ⟨he, b1⟩
  rw [HBB.out] at he
  subst he
  have B1 := bel_next B0 b1
  clear B0 b1
  go_wp2
  go_ret
  exact ⟨rfl, B1⟩
set_option maxRecDepth 20000 in
set_option maxHeartbeats 4000000 in
theorem l10Rule_any (r : Ru) (w : World) :
    Calls Tryd.prog 42 #[.agg (ruc r)] w fun e w' => e = .returned (.bool (decide (OkRu r))) ∧ Below w.heap.size w w' := by
  by_cases h0 : 1 ≤ r.u ∧ r.u ≤ 247
  case neg =>
    rw [decide_eq_false (show ¬ OkRu r from by unfold OkRu; omega)]
    go_enter Tryd.func42, Tryd.ntmps42
    go_wp2_with fail
    refine (l1In_any (r.u) (1) (247) _ false (inB_f h0)).mono ?_
    rintro e wx ⟨rfl, rfl⟩
    go_wp2
    go_ret
    exact ⟨rfl, ((Below.refl _ w).alloc (Nat.le_refl _) _)⟩
  by_cases h1 : 0 ≤ r.s ∧ r.s ≤ 3
  case neg =>
    rw [decide_eq_false (show ¬ OkRu r from by unfold OkRu; omega)]
    go_enter Tryd.func42, Tryd.ntmps42
    go_wp2_with fail
    refine (l1In_any (r.u) (1) (247) _ true (inB_t h0)).mono ?_
    rintro e wx ⟨rfl, rfl⟩
    go_wp2_with fail
    refine (l1In_any (r.s) (0) (3) _ false (inB_f h1)).mono ?_
    rintro e wx ⟨rfl, rfl⟩
    go_wp2
    go_ret
    exact ⟨rfl, ((Below.refl _ w).alloc (Nat.le_refl _) _)⟩
  by_cases h2 : 0 ≤ r.lo ∧ r.lo ≤ 65535
  case neg =>
    rw [decide_eq_false (show ¬ OkRu r from by unfold OkRu; omega)]
    go_enter Tryd.func42, Tryd.ntmps42
    go_wp2_with fail
    refine (l1In_any (r.u) (1) (247) _ true (inB_t h0)).mono ?_
    rintro e wx ⟨rfl, rfl⟩
    go_wp2_with fail
    refine (l1In_any (r.s) (0) (3) _ true (inB_t h1)).mono ?_
    rintro e wx ⟨rfl, rfl⟩
    go_wp2_with fail
    refine (l1In_any (r.lo) (0) (65535) _ false (inB_f h2)).mono ?_
    rintro e wx ⟨rfl, rfl⟩
    go_wp2
    go_ret
    exact ⟨rfl, ((Below.refl _ w).alloc (Nat.le_refl _) _)⟩
  by_cases h3 : r.lo ≤ r.hi ∧ r.hi ≤ 65535
  case neg =>
    rw [decide_eq_false (show ¬ OkRu r from by unfold OkRu; omega)]
    go_enter Tryd.func42, Tryd.ntmps42
    go_wp2_with fail
    refine (l1In_any (r.u) (1) (247) _ true (inB_t h0)).mono ?_
    rintro e wx ⟨rfl, rfl⟩
    go_wp2_with fail
    refine (l1In_any (r.s) (0) (3) _ true (inB_t h1)).mono ?_
    rintro e wx ⟨rfl, rfl⟩
    go_wp2_with fail
    refine (l1In_any (r.lo) (0) (65535) _ true (inB_t h2)).mono ?_
    rintro e wx ⟨rfl, rfl⟩
    go_wp2_with fail
    refine (l1In_any (r.hi) (r.lo) (65535) _ false (inB_f h3)).mono ?_
    rintro e wx ⟨rfl, rfl⟩
    go_wp2
    go_ret
    exact ⟨rfl, ((Below.refl _ w).alloc (Nat.le_refl _) _)⟩
  by_cases h4 : 0 ≤ r.p ∧ r.p ≤ 5
  case neg =>
    rw [decide_eq_false (show ¬ OkRu r from by unfold OkRu; omega)]
    go_enter Tryd.func42, Tryd.ntmps42
    go_wp2_with fail
    refine (l1In_any (r.u) (1) (247) _ true (inB_t h0)).mono ?_
    rintro e wx ⟨rfl, rfl⟩
    go_wp2_with fail
    refine (l1In_any (r.s) (0) (3) _ true (inB_t h1)).mono ?_
    rintro e wx ⟨rfl, rfl⟩
    go_wp2_with fail
    refine (l1In_any (r.lo) (0) (65535) _ true (inB_t h2)).mono ?_
    rintro e wx ⟨rfl, rfl⟩
    go_wp2_with fail
    refine (l1In_any (r.hi) (r.lo) (65535) _ true (inB_t h3)).mono ?_
    rintro e wx ⟨rfl, rfl⟩
    go_wp2_with fail
    refine (l1In_any (r.p) (0) (5) _ false (inB_f h4)).mono ?_
    rintro e wx ⟨rfl, rfl⟩
    go_wp2
    go_ret
    exact ⟨rfl, ((Below.refl _ w).alloc (Nat.le_refl _) _)⟩
  by_cases h5 : 1 ≤ r.t ∧ r.t ≤ 247
  case neg =>
    rw [decide_eq_false (show ¬ OkRu r from by unfold OkRu; omega)]
    go_enter Tryd.func42, Tryd.ntmps42
    go_wp2_with fail
    refine (l1In_any (r.u) (1) (247) _ true (inB_t h0)).mono ?_
    rintro e wx ⟨rfl, rfl⟩
    go_wp2_with fail
    refine (l1In_any (r.s) (0) (3) _ true (inB_t h1)).mono ?_
    rintro e wx ⟨rfl, rfl⟩
    go_wp2_with fail
    refine (l1In_any (r.lo) (0) (65535) _ true (inB_t h2)).mono ?_
    rintro e wx ⟨rfl, rfl⟩
    go_wp2_with fail
    refine (l1In_any (r.hi) (r.lo) (65535) _ true (inB_t h3)).mono ?_
    rintro e wx ⟨rfl, rfl⟩
    go_wp2_with fail
    refine (l1In_any (r.p) (0) (5) _ true (inB_t h4)).mono ?_
    rintro e wx ⟨rfl, rfl⟩
    go_wp2_with fail
    refine (l1In_any (r.t) (1) (247) _ false (inB_f h5)).mono ?_
    rintro e wx ⟨rfl, rfl⟩
    go_wp2
    go_ret
    exact ⟨rfl, ((Below.refl _ w).alloc (Nat.le_refl _) _)⟩
  by_cases h6 : -65535 ≤ r.sh ∧ r.sh ≤ 65535
  case neg =>
    rw [decide_eq_false (show ¬ OkRu r from by unfold OkRu; omega)]
    go_enter Tryd.func42, Tryd.ntmps42
    go_wp2_with fail
    refine (l1In_any (r.u) (1) (247) _ true (inB_t h0)).mono ?_
    rintro e wx ⟨rfl, rfl⟩
    go_wp2_with fail
    refine (l1In_any (r.s) (0) (3) _ true (inB_t h1)).mono ?_
    rintro e wx ⟨rfl, rfl⟩
    go_wp2_with fail
    refine (l1In_any (r.lo) (0) (65535) _ true (inB_t h2)).mono ?_
    rintro e wx ⟨rfl, rfl⟩
    go_wp2_with fail
    refine (l1In_any (r.hi) (r.lo) (65535) _ true (inB_t h3)).mono ?_
    rintro e wx ⟨rfl, rfl⟩
    go_wp2_with fail
    refine (l1In_any (r.p) (0) (5) _ true (inB_t h4)).mono ?_
    rintro e wx ⟨rfl, rfl⟩
    go_wp2_with fail
    refine (l1In_any (r.t) (1) (247) _ true (inB_t h5)).mono ?_
    rintro e wx ⟨rfl, rfl⟩
    go_wp2_with fail
    refine (l1In_any (r.sh) (-65535) (65535) _ false (inB_f h6)).mono ?_
    rintro e wx ⟨rfl, rfl⟩
    go_wp2
    go_ret
    exact ⟨rfl, ((Below.refl _ w).alloc (Nat.le_refl _) _)⟩
  have wr1 : IntKind.i64.wrap (r.lo + r.sh) = r.lo + r.sh := by rw [IntKind.wrap_i64]; omega
  have wr2 : IntKind.i64.wrap (r.hi + r.sh) = r.hi + r.sh := by rw [IntKind.wrap_i64]; omega
  by_cases h7 : 0 ≤ r.lo + r.sh ∧ r.lo + r.sh ≤ 65535
  case neg =>
    rw [decide_eq_false (show ¬ OkRu r from by unfold OkRu; omega)]
    go_enter Tryd.func42, Tryd.ntmps42
    go_wp2_with fail
    refine (l1In_any (r.u) (1) (247) _ true (inB_t h0)).mono ?_
    rintro e wx ⟨rfl, rfl⟩
    go_wp2_with fail
    refine (l1In_any (r.s) (0) (3) _ true (inB_t h1)).mono ?_
    rintro e wx ⟨rfl, rfl⟩
    go_wp2_with fail
    refine (l1In_any (r.lo) (0) (65535) _ true (inB_t h2)).mono ?_
    rintro e wx ⟨rfl, rfl⟩
    go_wp2_with fail
    refine (l1In_any (r.hi) (r.lo) (65535) _ true (inB_t h3)).mono ?_
    rintro e wx ⟨rfl, rfl⟩
    go_wp2_with fail
    refine (l1In_any (r.p) (0) (5) _ true (inB_t h4)).mono ?_
    rintro e wx ⟨rfl, rfl⟩
    go_wp2_with fail
    refine (l1In_any (r.t) (1) (247) _ true (inB_t h5)).mono ?_
    rintro e wx ⟨rfl, rfl⟩
    go_wp2_with fail
    refine (l1In_any (r.sh) (-65535) (65535) _ true (inB_t h6)).mono ?_
    rintro e wx ⟨rfl, rfl⟩
    go_wp2_with fail
    refine (l1In_any (r.lo + r.sh) (0) (65535) _ false (inB_f h7)).mono ?_
    rintro e wx ⟨rfl, rfl⟩
    go_wp2
    go_ret
    exact ⟨rfl, ((Below.refl _ w).alloc (Nat.le_refl _) _)⟩
  by_cases h8 : 0 ≤ r.hi + r.sh ∧ r.hi + r.sh ≤ 65535
  case neg =>
    rw [decide_eq_false (show ¬ OkRu r from by unfold OkRu; omega)]
    go_enter Tryd.func42, Tryd.ntmps42
    go_wp2_with fail
    refine (l1In_any (r.u) (1) (247) _ true (inB_t h0)).mono ?_
    rintro e wx ⟨rfl, rfl⟩
    go_wp2_with fail
    refine (l1In_any (r.s) (0) (3) _ true (inB_t h1)).mono ?_
    rintro e wx ⟨rfl, rfl⟩
    go_wp2_with fail
    refine (l1In_any (r.lo) (0) (65535) _ true (inB_t h2)).mono ?_
    rintro e wx ⟨rfl, rfl⟩
    go_wp2_with fail
    refine (l1In_any (r.hi) (r.lo) (65535) _ true (inB_t h3)).mono ?_
    rintro e wx ⟨rfl, rfl⟩
    go_wp2_with fail
    refine (l1In_any (r.p) (0) (5) _ true (inB_t h4)).mono ?_
    rintro e wx ⟨rfl, rfl⟩
    go_wp2_with fail
    refine (l1In_any (r.t) (1) (247) _ true (inB_t h5)).mono ?_
    rintro e wx ⟨rfl, rfl⟩
    go_wp2_with fail
    refine (l1In_any (r.sh) (-65535) (65535) _ true (inB_t h6)).mono ?_
    rintro e wx ⟨rfl, rfl⟩
    go_wp2_with fail
    refine (l1In_any (r.lo + r.sh) (0) (65535) _ true (inB_t h7)).mono ?_
    rintro e wx ⟨rfl, rfl⟩
    go_wp2_with fail
    refine (l1In_any (r.hi + r.sh) (0) (65535) _ false (inB_f h8)).mono ?_
    rintro e wx ⟨rfl, rfl⟩
    go_wp2
    go_ret
    exact ⟨rfl, ((Below.refl _ w).alloc (Nat.le_refl _) _)⟩
  rw [decide_eq_true (show OkRu r from by unfold OkRu; omega)]
  go_enter Tryd.func42, Tryd.ntmps42
  go_wp2_with fail
  refine (l1In_any (r.u) (1) (247) _ true (inB_t h0)).mono ?_
  rintro e wx ⟨rfl, rfl⟩
  go_wp2_with fail
  refine (l1In_any (r.s) (0) (3) _ true (inB_t h1)).mono ?_
  rintro e wx ⟨rfl, rfl⟩
  go_wp2_with fail
  refine (l1In_any (r.lo) (0) (65535) _ true (inB_t h2)).mono ?_
  rintro e wx ⟨rfl, rfl⟩
  go_wp2_with fail
  refine (l1In_any (r.hi) (r.lo) (65535) _ true (inB_t h3)).mono ?_
  rintro e wx ⟨rfl, rfl⟩
  go_wp2_with fail
  refine (l1In_any (r.p) (0) (5) _ true (inB_t h4)).mono ?_
  rintro e wx ⟨rfl, rfl⟩
  go_wp2_with fail
  refine (l1In_any (r.t) (1) (247) _ true (inB_t h5)).mono ?_
  rintro e wx ⟨rfl, rfl⟩
  go_wp2_with fail
  refine (l1In_any (r.sh) (-65535) (65535) _ true (inB_t h6)).mono ?_
  rintro e wx ⟨rfl, rfl⟩
  go_wp2_with fail
  refine (l1In_any (r.lo + r.sh) (0) (65535) _ true (inB_t h7)).mono ?_
  rintro e wx ⟨rfl, rfl⟩
  go_wp2_with fail
  refine (l1In_any (r.hi + r.sh) (0) (65535) _ true (inB_t h8)).mono ?_
  rintro e wx ⟨rfl, rfl⟩
  go_wp2
  go_ret
  exact ⟨rfl, ((Below.refl _ w).alloc (Nat.le_refl _) _)⟩
end Go.Proofs.YtklnfeblkffgiaaDoor
