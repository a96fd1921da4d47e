/- Texts that the proof needs, joined: Sr9 SrR Sr10. -/
import Derived.Test.YtkfgijkkffbpmaaGreatV7
import Derived.Test.YtkfgijkkffbpmaaGreatV4
set_option linter.unusedVariables false
set_option linter.unusedSimpArgs false
set_option maxHeartbeats 4000000
set_option maxRecDepth 20000
namespace Go.Proofs.YtkfgijkkffbpmaaGreat
open Go.RowKit
def OkRu (r : Ru) : Prop := (1 <= r.u /\ r.u <= 247) /\ (0 <= r.s /\ r.s <= 3) /\ (0 <= r.lo /\ r.lo <= r.hi /\ r.hi <= 65535) /\ (0 <= r.p /\ r.p <= 5) /\ (1 <= r.t /\ r.t <= 247) /\ 0 <= r.lo + r.sh /\ r.hi + r.sh <= 65535
instance (r : Ru) : Decidable (OkRu r) := by unfold OkRu; infer_instance
theorem isCntU (x most : Int) (w : World) (b : Bool) (hb : inB x 1 most = b) : Calls Tryz.prog 201 #[.int .i64 x, .int .i64 most] w fun e w' => e = .returned (.bool b) /\ w' = w := by
 subst hb
 unfold inB
 by_cases h1 : 1 <= x
 ·by_cases h2 : x <= most
  ·rw [decide_eq_true (show (1 <= x /\ x <= most) from ⟨by omega, by omega⟩)]
   go_enter Tryz.func201, Tryz.ntmps201
   go_wp2
   go_ret
   exact ⟨rfl, rfl⟩
  rw [decide_eq_false (show ¬ (1 <= x /\ x <= most) from fun h => by omega)]
  go_enter Tryz.func201, Tryz.ntmps201
  go_wp2
  go_ret
  exact ⟨rfl, rfl⟩
 rw [decide_eq_false (show ¬ (1 <= x /\ x <= most) from fun h => by omega)]
 go_enter Tryz.func201, Tryz.ntmps201
 go_wp2
 go_ret
 exact ⟨rfl, rfl⟩
theorem isSpace_any (x : Int) (w : World) (b : Bool) (hb : inB x 0 3 = b) : Calls Tryz.prog 189 #[.int .i64 x] w fun e w' => e = .returned (.bool b) /\ w' = w := by
 subst hb
 unfold inB
 by_cases h1 : 0 <= x
 ·by_cases h2 : x <= 3
  ·rw [decide_eq_true (show (0 <= x /\ x <= 3) from ⟨by omega, by omega⟩)]
   go_enter Tryz.func189, Tryz.ntmps189
   go_wp2
   go_ret
   exact ⟨rfl, rfl⟩
  rw [decide_eq_false (show ¬ (0 <= x /\ x <= 3) from fun h => by omega)]
  go_enter Tryz.func189, Tryz.ntmps189
  go_wp2
  go_ret
  exact ⟨rfl, rfl⟩
 rw [decide_eq_false (show ¬ (0 <= x /\ x <= 3) from fun h => by omega)]
 go_enter Tryz.func189, Tryz.ntmps189
 go_wp2
 go_ret
 exact ⟨rfl, rfl⟩
theorem isPortPlace_any (x : Int) (w : World) (b : Bool) (hb : inB x 0 5 = b) : Calls Tryz.prog 190 #[.int .i64 x] w fun e w' => e = .returned (.bool b) /\ w' = w := by
 subst hb
 unfold inB
 by_cases h1 : 0 <= x
 ·by_cases h2 : x < 6
  ·rw [decide_eq_true (show (0 <= x /\ x <= 5) from ⟨by omega, by omega⟩)]
   go_enter Tryz.func190, Tryz.ntmps190
   go_wp2
   go_ret
   exact ⟨rfl, rfl⟩
  rw [decide_eq_false (show ¬ (0 <= x /\ x <= 5) from fun h => by omega)]
  go_enter Tryz.func190, Tryz.ntmps190
  go_wp2
  go_ret
  exact ⟨rfl, rfl⟩
 rw [decide_eq_false (show ¬ (0 <= x /\ x <= 5) from fun h => by omega)]
 go_enter Tryz.func190, Tryz.ntmps190
 go_wp2
 go_ret
 exact ⟨rfl, rfl⟩
theorem isUnit_any (x : Int) (w : World) (b : Bool) (hb : inB x 1 247 = b) : Calls Tryz.prog 188 #[.int .i64 x] w fun e w' => e = .returned (.bool b) /\ w' = w := by
 go_enter Tryz.func188, Tryz.ntmps188
 go_wp2_with fail
 refine (isCntU _ _ _ _ hb).mono ?_
 rintro e wx ⟨rfl, rfl⟩
 go_wp2
 go_ret
 exact ⟨rfl, rfl⟩
theorem inB_t {x lo hi : Int} (h : lo <= x /\ x <= hi) : inB x lo hi = true := decide_eq_true h
theorem inB_f {x lo hi : Int} (h : ¬ (lo <= x /\ x <= hi)) : inB x lo hi = false := decide_eq_false h
theorem staysWithin_any (r : Ru) (w : World) (hl : 0 <= r.lo /\ r.lo <= r.hi /\ r.hi <= 65535) (h64 : -9223372036854775808 <= r.sh /\ r.sh <= 9223372036854775807) :
 Calls Tryz.prog 192 #[.agg (ruc r)] w fun e w' => e = .returned (.bool (decide (0 <= r.lo + r.sh /\ r.hi + r.sh <= 65535))) /\ Below w.heap.size w w' := by
 obtain ⟨x1, hx1⟩ : ∃ x1, IntKind.i64.wrap (r.lo + r.sh) = x1 := ⟨_, rfl⟩
 obtain ⟨x2, hx2⟩ : ∃ x2, IntKind.i64.wrap (r.hi + r.sh) = x2 := ⟨_, rfl⟩
 have HX : Hid ((0 <= x1 /\ x1 <= 65535 ↔ 0 <= r.lo + r.sh /\ r.lo + r.sh <= 65535) /\ (0 <= x2 /\ x2 <= 65535 ↔ 0 <= r.hi + r.sh /\ r.hi + r.sh <= 65535) /\ r.lo <= r.hi) := by
  rw [IntKind.wrap_i64] at hx1 hx2
  show _ /\ _
  omega
 clear hl h64
 by_cases h0 : 0 <= x1 /\ x1 <= 65535
 case neg =>
  rw [decide_eq_false (show ¬ (0 <= r.lo + r.sh /\ r.hi + r.sh <= 65535) from by have := HX.out; omega)]
  go_enter Tryz.func192, Tryz.ntmps192
  go_wp2_with fail
  refine (isWord_any (x1) _ false (inB_f h0)).mono ?_
  rintro e wx ⟨rfl, rfl⟩
  go_wp2
  go_ret
  exact ⟨rfl, ((Below.refl _ w).alloc (Nat.le_refl _) _)⟩
 by_cases h1 : 0 <= x2 /\ x2 <= 65535
 case neg =>
  rw [decide_eq_false (show ¬ (0 <= r.lo + r.sh /\ r.hi + r.sh <= 65535) from by have := HX.out; omega)]
  go_enter Tryz.func192, Tryz.ntmps192
  go_wp2_with fail
  refine (isWord_any (x1) _ true (inB_t h0)).mono ?_
  rintro e wx ⟨rfl, rfl⟩
  go_wp2_with fail
  refine (isWord_any (x2) _ false (inB_f h1)).mono ?_
  rintro e wx ⟨rfl, rfl⟩
  go_wp2
  go_ret
  exact ⟨rfl, ((Below.refl _ w).alloc (Nat.le_refl _) _)⟩
 rw [decide_eq_true (show 0 <= r.lo + r.sh /\ r.hi + r.sh <= 65535 from by have := HX.out; omega)]
 go_enter Tryz.func192, Tryz.ntmps192
 go_wp2_with fail
 refine (isWord_any (x1) _ true (inB_t h0)).mono ?_
 rintro e wx ⟨rfl, rfl⟩
 go_wp2_with fail
 refine (isWord_any (x2) _ true (inB_t h1)).mono ?_
 rintro e wx ⟨rfl, rfl⟩
 go_wp2
 go_ret
 exact ⟨rfl, ((Below.refl _ w).alloc (Nat.le_refl _) _)⟩
theorem isRight_any (r : Ru) (w : World) (h64 : -9223372036854775808 <= r.sh /\ r.sh <= 9223372036854775807) :
 Calls Tryz.prog 122 #[.agg (ruc r)] w fun e w' => e = .returned (.bool (decide (OkRu r))) /\ Below w.heap.size w w' := by
 by_cases h0 : 1 <= r.u /\ r.u <= 247
 case neg =>
  rw [decide_eq_false (show ¬ OkRu r from by unfold OkRu; omega)]
  go_enter Tryz.func122, Tryz.ntmps122
  go_wp2_with fail
  refine (isUnit_any (r.u) _ false (inB_f h0)).mono ?_
  rintro e wx ⟨rfl, rfl⟩
  go_wp2
  go_ret
  exact ⟨rfl, ((Below.refl _ w).alloc (Nat.le_refl _) _)⟩
 by_cases h1 : 0 <= r.s /\ r.s <= 3
 case neg =>
  rw [decide_eq_false (show ¬ OkRu r from by unfold OkRu; omega)]
  go_enter Tryz.func122, Tryz.ntmps122
  go_wp2_with fail
  refine (isUnit_any (r.u) _ true (inB_t h0)).mono ?_
  rintro e wx ⟨rfl, rfl⟩
  go_wp2_with fail
  refine (isSpace_any (r.s) _ false (inB_f h1)).mono ?_
  rintro e wx ⟨rfl, rfl⟩
  go_wp2
  go_ret
  exact ⟨rfl, ((Below.refl _ w).alloc (Nat.le_refl _) _)⟩
 by_cases h2 : 0 <= r.p /\ r.p <= 5
 case neg =>
  rw [decide_eq_false (show ¬ OkRu r from by unfold OkRu; omega)]
  go_enter Tryz.func122, Tryz.ntmps122
  go_wp2_with fail
  refine (isUnit_any (r.u) _ true (inB_t h0)).mono ?_
  rintro e wx ⟨rfl, rfl⟩
  go_wp2_with fail
  refine (isSpace_any (r.s) _ true (inB_t h1)).mono ?_
  rintro e wx ⟨rfl, rfl⟩
  go_wp2_with fail
  refine (isPortPlace_any (r.p) _ false (inB_f h2)).mono ?_
  rintro e wx ⟨rfl, rfl⟩
  go_wp2
  go_ret
  exact ⟨rfl, ((Below.refl _ w).alloc (Nat.le_refl _) _)⟩
 by_cases h3 : 1 <= r.t /\ r.t <= 247
 case neg =>
  rw [decide_eq_false (show ¬ OkRu r from by unfold OkRu; omega)]
  go_enter Tryz.func122, Tryz.ntmps122
  go_wp2_with fail
  refine (isUnit_any (r.u) _ true (inB_t h0)).mono ?_
  rintro e wx ⟨rfl, rfl⟩
  go_wp2_with fail
  refine (isSpace_any (r.s) _ true (inB_t h1)).mono ?_
  rintro e wx ⟨rfl, rfl⟩
  go_wp2_with fail
  refine (isPortPlace_any (r.p) _ true (inB_t h2)).mono ?_
  rintro e wx ⟨rfl, rfl⟩
  go_wp2_with fail
  refine (isUnit_any (r.t) _ false (inB_f h3)).mono ?_
  rintro e wx ⟨rfl, rfl⟩
  go_wp2
  go_ret
  exact ⟨rfl, ((Below.refl _ w).alloc (Nat.le_refl _) _)⟩
 by_cases h4 : 0 <= r.lo /\ r.lo <= 65535
 case neg =>
  rw [decide_eq_false (show ¬ OkRu r from by unfold OkRu; omega)]
  go_enter Tryz.func122, Tryz.ntmps122
  go_wp2_with fail
  refine (isUnit_any (r.u) _ true (inB_t h0)).mono ?_
  rintro e wx ⟨rfl, rfl⟩
  go_wp2_with fail
  refine (isSpace_any (r.s) _ true (inB_t h1)).mono ?_
  rintro e wx ⟨rfl, rfl⟩
  go_wp2_with fail
  refine (isPortPlace_any (r.p) _ true (inB_t h2)).mono ?_
  rintro e wx ⟨rfl, rfl⟩
  go_wp2_with fail
  refine (isUnit_any (r.t) _ true (inB_t h3)).mono ?_
  rintro e wx ⟨rfl, rfl⟩
  go_wp2_with fail
  refine (isWord_any (r.lo) _ false (inB_f h4)).mono ?_
  rintro e wx ⟨rfl, rfl⟩
  go_wp2
  go_ret
  exact ⟨rfl, ((Below.refl _ w).alloc (Nat.le_refl _) _)⟩
 by_cases h5 : 0 <= r.hi /\ r.hi <= 65535
 case neg =>
  rw [decide_eq_false (show ¬ OkRu r from by unfold OkRu; omega)]
  go_enter Tryz.func122, Tryz.ntmps122
  go_wp2_with fail
  refine (isUnit_any (r.u) _ true (inB_t h0)).mono ?_
  rintro e wx ⟨rfl, rfl⟩
  go_wp2_with fail
  refine (isSpace_any (r.s) _ true (inB_t h1)).mono ?_
  rintro e wx ⟨rfl, rfl⟩
  go_wp2_with fail
  refine (isPortPlace_any (r.p) _ true (inB_t h2)).mono ?_
  rintro e wx ⟨rfl, rfl⟩
  go_wp2_with fail
  refine (isUnit_any (r.t) _ true (inB_t h3)).mono ?_
  rintro e wx ⟨rfl, rfl⟩
  go_wp2_with fail
  refine (isWord_any (r.lo) _ true (inB_t h4)).mono ?_
  rintro e wx ⟨rfl, rfl⟩
  go_wp2_with fail
  refine (isWord_any (r.hi) _ false (inB_f h5)).mono ?_
  rintro e wx ⟨rfl, rfl⟩
  go_wp2
  go_ret
  exact ⟨rfl, ((Below.refl _ w).alloc (Nat.le_refl _) _)⟩
 by_cases h6 : r.lo <= r.hi
 case neg =>
  rw [decide_eq_false (show ¬ OkRu r from by unfold OkRu; omega)]
  go_enter Tryz.func122, Tryz.ntmps122
  go_wp2_with fail
  refine (isUnit_any (r.u) _ true (inB_t h0)).mono ?_
  rintro e wx ⟨rfl, rfl⟩
  go_wp2_with fail
  refine (isSpace_any (r.s) _ true (inB_t h1)).mono ?_
  rintro e wx ⟨rfl, rfl⟩
  go_wp2_with fail
  refine (isPortPlace_any (r.p) _ true (inB_t h2)).mono ?_
  rintro e wx ⟨rfl, rfl⟩
  go_wp2_with fail
  refine (isUnit_any (r.t) _ true (inB_t h3)).mono ?_
  rintro e wx ⟨rfl, rfl⟩
  go_wp2_with fail
  refine (isWord_any (r.lo) _ true (inB_t h4)).mono ?_
  rintro e wx ⟨rfl, rfl⟩
  go_wp2_with fail
  refine (isWord_any (r.hi) _ true (inB_t h5)).mono ?_
  rintro e wx ⟨rfl, rfl⟩
  go_wp2
  go_ret
  exact ⟨rfl, ((Below.refl _ w).alloc (Nat.le_refl _) _)⟩
 have e9 : decide (OkRu r) = decide (0 <= r.lo + r.sh /\ r.hi + r.sh <= 65535) := by
  apply decide_eq_decide.2
  unfold OkRu
  omega
 obtain ⟨bb, hbb⟩ : ∃ bb : Bool, decide (0 <= r.lo + r.sh /\ r.hi + r.sh <= 65535) = bb := ⟨_, rfl⟩
 rw [e9, hbb]
 have HBB : Hid (decide (0 <= r.lo + r.sh /\ r.hi + r.sh <= 65535) = bb) := hbb
 clear e9 hbb
 have B0 : Below w.heap.size w (w.alloc (.cells (ruc r) 110)) := (Below.refl _ w).alloc (Nat.le_refl _) _
 go_enter Tryz.func122, Tryz.ntmps122
 go_wp2_with fail
 refine (isUnit_any (r.u) _ true (inB_t h0)).mono ?_
 rintro e wx ⟨rfl, rfl⟩
 go_wp2_with fail
 refine (isSpace_any (r.s) _ true (inB_t h1)).mono ?_
 rintro e wx ⟨rfl, rfl⟩
 go_wp2_with fail
 refine (isPortPlace_any (r.p) _ true (inB_t h2)).mono ?_
 rintro e wx ⟨rfl, rfl⟩
 go_wp2_with fail
 refine (isUnit_any (r.t) _ true (inB_t h3)).mono ?_
 rintro e wx ⟨rfl, rfl⟩
 go_wp2_with fail
 refine (isWord_any (r.lo) _ true (inB_t h4)).mono ?_
 rintro e wx ⟨rfl, rfl⟩
 go_wp2_with fail
 refine (isWord_any (r.hi) _ true (inB_t h5)).mono ?_
 rintro e wx ⟨rfl, rfl⟩
 go_wp2_with fail
 refine (staysWithin_any r _ ⟨by omega, by omega, by omega⟩ h64).mono ?_
 rintro e w1 ⟨he, b1⟩
 rw [HBB.out] at he
 subst he
 have B1 := bel_next B0 b1
 clear B0 b1
 go_wp2
 go_ret
 exact ⟨rfl, B1⟩
theorem l10Rule_any (r : Ru) (w : World) :
 Calls Tryz.prog 117 #[.agg (ruc r)] w fun e w' => e = .returned (.bool (decide (OkRu r))) /\ Below w.heap.size w w' := by
 by_cases h0 : 1 <= r.u /\ r.u <= 247
 case neg =>
  rw [decide_eq_false (show ¬ OkRu r from by unfold OkRu; omega)]
  go_enter Tryz.func117, Tryz.ntmps117
  go_wp2_with fail
  refine (l1In_any (r.u) (1) (247) _ false (inB_f h0)).mono ?_
  rintro e wx ⟨rfl, rfl⟩
  go_wp2
  go_ret
  exact ⟨rfl, ((Below.refl _ w).alloc (Nat.le_refl _) _)⟩
 by_cases h1 : 0 <= r.s /\ r.s <= 3
 case neg =>
  rw [decide_eq_false (show ¬ OkRu r from by unfold OkRu; omega)]
  go_enter Tryz.func117, Tryz.ntmps117
  go_wp2_with fail
  refine (l1In_any (r.u) (1) (247) _ true (inB_t h0)).mono ?_
  rintro e wx ⟨rfl, rfl⟩
  go_wp2_with fail
  refine (l1In_any (r.s) (0) (3) _ false (inB_f h1)).mono ?_
  rintro e wx ⟨rfl, rfl⟩
  go_wp2
  go_ret
  exact ⟨rfl, ((Below.refl _ w).alloc (Nat.le_refl _) _)⟩
 by_cases h2 : 0 <= r.lo /\ r.lo <= 65535
 case neg =>
  rw [decide_eq_false (show ¬ OkRu r from by unfold OkRu; omega)]
  go_enter Tryz.func117, Tryz.ntmps117
  go_wp2_with fail
  refine (l1In_any (r.u) (1) (247) _ true (inB_t h0)).mono ?_
  rintro e wx ⟨rfl, rfl⟩
  go_wp2_with fail
  refine (l1In_any (r.s) (0) (3) _ true (inB_t h1)).mono ?_
  rintro e wx ⟨rfl, rfl⟩
  go_wp2_with fail
  refine (l1In_any (r.lo) (0) (65535) _ false (inB_f h2)).mono ?_
  rintro e wx ⟨rfl, rfl⟩
  go_wp2
  go_ret
  exact ⟨rfl, ((Below.refl _ w).alloc (Nat.le_refl _) _)⟩
 by_cases h3 : r.lo <= r.hi /\ r.hi <= 65535
 case neg =>
  rw [decide_eq_false (show ¬ OkRu r from by unfold OkRu; omega)]
  go_enter Tryz.func117, Tryz.ntmps117
  go_wp2_with fail
  refine (l1In_any (r.u) (1) (247) _ true (inB_t h0)).mono ?_
  rintro e wx ⟨rfl, rfl⟩
  go_wp2_with fail
  refine (l1In_any (r.s) (0) (3) _ true (inB_t h1)).mono ?_
  rintro e wx ⟨rfl, rfl⟩
  go_wp2_with fail
  refine (l1In_any (r.lo) (0) (65535) _ true (inB_t h2)).mono ?_
  rintro e wx ⟨rfl, rfl⟩
  go_wp2_with fail
  refine (l1In_any (r.hi) (r.lo) (65535) _ false (inB_f h3)).mono ?_
  rintro e wx ⟨rfl, rfl⟩
  go_wp2
  go_ret
  exact ⟨rfl, ((Below.refl _ w).alloc (Nat.le_refl _) _)⟩
 by_cases h4 : 0 <= r.p /\ r.p <= 5
 case neg =>
  rw [decide_eq_false (show ¬ OkRu r from by unfold OkRu; omega)]
  go_enter Tryz.func117, Tryz.ntmps117
  go_wp2_with fail
  refine (l1In_any (r.u) (1) (247) _ true (inB_t h0)).mono ?_
  rintro e wx ⟨rfl, rfl⟩
  go_wp2_with fail
  refine (l1In_any (r.s) (0) (3) _ true (inB_t h1)).mono ?_
  rintro e wx ⟨rfl, rfl⟩
  go_wp2_with fail
  refine (l1In_any (r.lo) (0) (65535) _ true (inB_t h2)).mono ?_
  rintro e wx ⟨rfl, rfl⟩
  go_wp2_with fail
  refine (l1In_any (r.hi) (r.lo) (65535) _ true (inB_t h3)).mono ?_
  rintro e wx ⟨rfl, rfl⟩
  go_wp2_with fail
  refine (l1In_any (r.p) (0) (5) _ false (inB_f h4)).mono ?_
  rintro e wx ⟨rfl, rfl⟩
  go_wp2
  go_ret
  exact ⟨rfl, ((Below.refl _ w).alloc (Nat.le_refl _) _)⟩
 by_cases h5 : 1 <= r.t /\ r.t <= 247
 case neg =>
  rw [decide_eq_false (show ¬ OkRu r from by unfold OkRu; omega)]
  go_enter Tryz.func117, Tryz.ntmps117
  go_wp2_with fail
  refine (l1In_any (r.u) (1) (247) _ true (inB_t h0)).mono ?_
  rintro e wx ⟨rfl, rfl⟩
  go_wp2_with fail
  refine (l1In_any (r.s) (0) (3) _ true (inB_t h1)).mono ?_
  rintro e wx ⟨rfl, rfl⟩
  go_wp2_with fail
  refine (l1In_any (r.lo) (0) (65535) _ true (inB_t h2)).mono ?_
  rintro e wx ⟨rfl, rfl⟩
  go_wp2_with fail
  refine (l1In_any (r.hi) (r.lo) (65535) _ true (inB_t h3)).mono ?_
  rintro e wx ⟨rfl, rfl⟩
  go_wp2_with fail
  refine (l1In_any (r.p) (0) (5) _ true (inB_t h4)).mono ?_
  rintro e wx ⟨rfl, rfl⟩
  go_wp2_with fail
  refine (l1In_any (r.t) (1) (247) _ false (inB_f h5)).mono ?_
  rintro e wx ⟨rfl, rfl⟩
  go_wp2
  go_ret
  exact ⟨rfl, ((Below.refl _ w).alloc (Nat.le_refl _) _)⟩
 by_cases h6 : -65535 <= r.sh /\ r.sh <= 65535
 case neg =>
  rw [decide_eq_false (show ¬ OkRu r from by unfold OkRu; omega)]
  go_enter Tryz.func117, Tryz.ntmps117
  go_wp2_with fail
  refine (l1In_any (r.u) (1) (247) _ true (inB_t h0)).mono ?_
  rintro e wx ⟨rfl, rfl⟩
  go_wp2_with fail
  refine (l1In_any (r.s) (0) (3) _ true (inB_t h1)).mono ?_
  rintro e wx ⟨rfl, rfl⟩
  go_wp2_with fail
  refine (l1In_any (r.lo) (0) (65535) _ true (inB_t h2)).mono ?_
  rintro e wx ⟨rfl, rfl⟩
  go_wp2_with fail
  refine (l1In_any (r.hi) (r.lo) (65535) _ true (inB_t h3)).mono ?_
  rintro e wx ⟨rfl, rfl⟩
  go_wp2_with fail
  refine (l1In_any (r.p) (0) (5) _ true (inB_t h4)).mono ?_
  rintro e wx ⟨rfl, rfl⟩
  go_wp2_with fail
  refine (l1In_any (r.t) (1) (247) _ true (inB_t h5)).mono ?_
  rintro e wx ⟨rfl, rfl⟩
  go_wp2_with fail
  refine (l1In_any (r.sh) (-65535) (65535) _ false (inB_f h6)).mono ?_
  rintro e wx ⟨rfl, rfl⟩
  go_wp2
  go_ret
  exact ⟨rfl, ((Below.refl _ w).alloc (Nat.le_refl _) _)⟩
 have wr1 : IntKind.i64.wrap (r.lo + r.sh) = r.lo + r.sh := by rw [IntKind.wrap_i64]; omega
 have wr2 : IntKind.i64.wrap (r.hi + r.sh) = r.hi + r.sh := by rw [IntKind.wrap_i64]; omega
 by_cases h7 : 0 <= r.lo + r.sh /\ r.lo + r.sh <= 65535
 case neg =>
  rw [decide_eq_false (show ¬ OkRu r from by unfold OkRu; omega)]
  go_enter Tryz.func117, Tryz.ntmps117
  go_wp2_with fail
  refine (l1In_any (r.u) (1) (247) _ true (inB_t h0)).mono ?_
  rintro e wx ⟨rfl, rfl⟩
  go_wp2_with fail
  refine (l1In_any (r.s) (0) (3) _ true (inB_t h1)).mono ?_
  rintro e wx ⟨rfl, rfl⟩
  go_wp2_with fail
  refine (l1In_any (r.lo) (0) (65535) _ true (inB_t h2)).mono ?_
  rintro e wx ⟨rfl, rfl⟩
  go_wp2_with fail
  refine (l1In_any (r.hi) (r.lo) (65535) _ true (inB_t h3)).mono ?_
  rintro e wx ⟨rfl, rfl⟩
  go_wp2_with fail
  refine (l1In_any (r.p) (0) (5) _ true (inB_t h4)).mono ?_
  rintro e wx ⟨rfl, rfl⟩
  go_wp2_with fail
  refine (l1In_any (r.t) (1) (247) _ true (inB_t h5)).mono ?_
  rintro e wx ⟨rfl, rfl⟩
  go_wp2_with fail
  refine (l1In_any (r.sh) (-65535) (65535) _ true (inB_t h6)).mono ?_
  rintro e wx ⟨rfl, rfl⟩
  go_wp2_with fail
  refine (l1In_any (r.lo + r.sh) (0) (65535) _ false (inB_f h7)).mono ?_
  rintro e wx ⟨rfl, rfl⟩
  go_wp2
  go_ret
  exact ⟨rfl, ((Below.refl _ w).alloc (Nat.le_refl _) _)⟩
 by_cases h8 : 0 <= r.hi + r.sh /\ r.hi + r.sh <= 65535
 case neg =>
  rw [decide_eq_false (show ¬ OkRu r from by unfold OkRu; omega)]
  go_enter Tryz.func117, Tryz.ntmps117
  go_wp2_with fail
  refine (l1In_any (r.u) (1) (247) _ true (inB_t h0)).mono ?_
  rintro e wx ⟨rfl, rfl⟩
  go_wp2_with fail
  refine (l1In_any (r.s) (0) (3) _ true (inB_t h1)).mono ?_
  rintro e wx ⟨rfl, rfl⟩
  go_wp2_with fail
  refine (l1In_any (r.lo) (0) (65535) _ true (inB_t h2)).mono ?_
  rintro e wx ⟨rfl, rfl⟩
  go_wp2_with fail
  refine (l1In_any (r.hi) (r.lo) (65535) _ true (inB_t h3)).mono ?_
  rintro e wx ⟨rfl, rfl⟩
  go_wp2_with fail
  refine (l1In_any (r.p) (0) (5) _ true (inB_t h4)).mono ?_
  rintro e wx ⟨rfl, rfl⟩
  go_wp2_with fail
  refine (l1In_any (r.t) (1) (247) _ true (inB_t h5)).mono ?_
  rintro e wx ⟨rfl, rfl⟩
  go_wp2_with fail
  refine (l1In_any (r.sh) (-65535) (65535) _ true (inB_t h6)).mono ?_
  rintro e wx ⟨rfl, rfl⟩
  go_wp2_with fail
  refine (l1In_any (r.lo + r.sh) (0) (65535) _ true (inB_t h7)).mono ?_
  rintro e wx ⟨rfl, rfl⟩
  go_wp2_with fail
  refine (l1In_any (r.hi + r.sh) (0) (65535) _ false (inB_f h8)).mono ?_
  rintro e wx ⟨rfl, rfl⟩
  go_wp2
  go_ret
  exact ⟨rfl, ((Below.refl _ w).alloc (Nat.le_refl _) _)⟩
 rw [decide_eq_true (show OkRu r from by unfold OkRu; omega)]
 go_enter Tryz.func117, Tryz.ntmps117
 go_wp2_with fail
 refine (l1In_any (r.u) (1) (247) _ true (inB_t h0)).mono ?_
 rintro e wx ⟨rfl, rfl⟩
 go_wp2_with fail
 refine (l1In_any (r.s) (0) (3) _ true (inB_t h1)).mono ?_
 rintro e wx ⟨rfl, rfl⟩
 go_wp2_with fail
 refine (l1In_any (r.lo) (0) (65535) _ true (inB_t h2)).mono ?_
 rintro e wx ⟨rfl, rfl⟩
 go_wp2_with fail
 refine (l1In_any (r.hi) (r.lo) (65535) _ true (inB_t h3)).mono ?_
 rintro e wx ⟨rfl, rfl⟩
 go_wp2_with fail
 refine (l1In_any (r.p) (0) (5) _ true (inB_t h4)).mono ?_
 rintro e wx ⟨rfl, rfl⟩
 go_wp2_with fail
 refine (l1In_any (r.t) (1) (247) _ true (inB_t h5)).mono ?_
 rintro e wx ⟨rfl, rfl⟩
 go_wp2_with fail
 refine (l1In_any (r.sh) (-65535) (65535) _ true (inB_t h6)).mono ?_
 rintro e wx ⟨rfl, rfl⟩
 go_wp2_with fail
 refine (l1In_any (r.lo + r.sh) (0) (65535) _ true (inB_t h7)).mono ?_
 rintro e wx ⟨rfl, rfl⟩
 go_wp2_with fail
 refine (l1In_any (r.hi + r.sh) (0) (65535) _ true (inB_t h8)).mono ?_
 rintro e wx ⟨rfl, rfl⟩
 go_wp2
 go_ret
 exact ⟨rfl, ((Below.refl _ w).alloc (Nat.le_refl _) _)⟩
end Go.Proofs.YtkfgijkkffbpmaaGreat
namespace Go.Proofs.YtkfgijkkffbpmaaGreat
def ovl (a b : Ru) : Prop := a.u = b.u /\ a.s = b.s /\ a.lo <= b.hi /\ b.lo <= a.hi
instance (a b : Ru) : Decidable (ovl a b) := by unfold ovl; infer_instance
def Apart (f : Nat -> Ru) (n : Nat) : Prop := ∀ i, i < n -> ∀ k, k < i -> ¬ ovl (f k) (f i)
def AdjOk (f : Nat -> Ru) (n : Nat) : Prop := ∀ i, i + 1 < n -> hasR (f i) (f (i + 1)).u (f (i + 1)).s (f (i + 1)).lo = false
theorem ovl_symm {a b : Ru} (h : ovl a b) : ovl b a := by unfold ovl at *; omega
theorem hasR_true {r : Ru} {u s p : Int} : hasR r u s p = true ↔ (r.u = u /\ r.s = s /\ r.lo <= p /\ p <= r.hi) := by
 simp [hasR, and_assoc]
theorem adj_apart {f : Nat -> Ru} {n : Nat} (h : AdjOk f n) (hs : SortedOn f 0 n) : ∀ i j, i < j -> j < n -> ¬ ovl (f i) (f j) := by
 intro i j hij hj ho
 have h1 := h i (by omega)
 have h2 : leR (f i) (f (i + 1)) := hs i (i + 1) (by omega) (by omega) (by omega)
 have h3 : leR (f (i + 1)) (f j) := hs.le (by omega) (by omega) hj
 have h4 : hasR (f i) (f (i + 1)).u (f (i + 1)).s (f (i + 1)).lo = true := by
  rw [hasR_true]
  unfold ovl at ho
  unfold leR ltR at h2 h3
  omega
 rw [h1] at h4
 cases h4
theorem apart_iff {f f' : Nat -> Ru} {n : Nat} (hok : ∀ k, k < n -> (f k).lo <= (f k).hi) (p : PermIn 0 n f f') (hs : SortedOn f' 0 n) : AdjOk f' n ↔ Apart f n := by
 obtain ⟨σ, τ, p1, p2, p3, p4⟩ := p
 have pf : ∀ k, f k = f' (τ k) := fun k => by rw [p4, (p3 k).2]
 have τlt : ∀ k, k < n -> τ k < n := fun k hk => (p2 k (Nat.zero_le _) hk).2.2.2
 have σlt : ∀ k, k < n -> σ k < n := fun k hk => (p2 k (Nat.zero_le _) hk).2.1
 constructor
 ·intro h i hi k hk ho
  rw [pf k, pf i] at ho
  have hne : τ k ≠ τ i := fun e => by
   have e1 := (p3 k).2
   rw [e, (p3 i).2] at e1
   omega
  rcases Nat.lt_or_gt_of_ne hne with hl | hl
  ·exact adj_apart h hs _ _ hl (τlt i hi) ho
  exact adj_apart h hs _ _ hl (τlt k (by omega)) (ovl_symm ho)
 intro h i hi
 cases hx : hasR (f' i) (f' (i + 1)).u (f' (i + 1)).s (f' (i + 1)).lo
 ·rfl
 exfalso
 rw [hasR_true, p4 i, p4 (i + 1)] at hx
 have a1 := hok _ (σlt i (by omega))
 have a2 := hok _ (σlt (i + 1) hi)
 have ho : ovl (f (σ i)) (f (σ (i + 1))) := by unfold ovl; omega
 have hne : σ i ≠ σ (i + 1) := fun e => by
  have e1 := (p3 i).1
  rw [e, (p3 (i + 1)).1] at e1
  omega
 rcases Nat.lt_or_gt_of_ne hne with hl | hl
 ·exact h _ (σlt _ hi) _ hl ho
 exact h _ (σlt _ (by omega)) _ hl (ovl_symm ho)
def OkRs (f : Nat -> Ru) (n : Nat) : Prop := n <= 24 /\ (∀ k, k < n -> OkRu (f k)) /\ Apart f n
end Go.Proofs.YtkfgijkkffbpmaaGreat
namespace Go.Proofs.YtkfgijkkffbpmaaGreat
open Go.RowKit
theorem areApart_any (a : Option Addr) (n cap : Nat) (f : Nat -> Ru) (w : World) (hs : SlU w a n f) (hn : n <= 24) (hok : ∀ k, k < n -> (f k).lo <= (f k).hi) (b : Bool) (hb : b = true ↔ Apart f n) :
 Calls Tryz.prog 123 #[.slice a n cap] w fun e w' => e = .returned (.bool b) /\ Below w.heap.size w w' := by
 have HB : Hid (b = true ↔ Apart f n) := hb
 have HOK : Hid (∀ k, k < n -> (f k).lo <= (f k).hi) := hok
 clear hb hok
 go_enter Tryz.func123, Tryz.ntmps123
 go_wp2_with fail
 refine (sortedBy_any a n cap f _ hs hn).mono ?_
 rintro e w1 ⟨rfl, h, R1, P1, S1, B1⟩
 have HI : Hid (True /\ (AdjOk h n ↔ Apart f n)) := ⟨trivial, apart_iff HOK.out P1 S1⟩
 clear P1 S1 HOK hs
 go_wp2
 go_loopw [4] (fun i wr => ∃ z : Nat, 1 <= z /\ (z <= n \/ z = 1) /\ i = .int .i64 z /\ RowU wr w.heap.size n h /\ (∀ j, j + 1 < z -> j + 1 < n -> hasR (h j) (h (j + 1)).u (h (j + 1)).s (h (j + 1)).lo = false) /\ Below w.heap.size w wr) (fun i _ => n - (intOf i).toNat)
 case atStart => exact ⟨1, Nat.le_refl _, .inr rfl, rfl, R1, fun j h1 h2 => by omega, B1⟩
 case round =>
  clear R1 B1
  obtain ⟨z, hz, hzn, rfl, hrow, hadj, hbl⟩ := hrel
  have HA : Hid (∀ j, j + 1 < z -> j + 1 < n -> hasR (h j) (h (j + 1)).u (h (j + 1)).s (h (j + 1)).lo = false) := hadj
  clear hadj
  by_cases hlt : z < n
  ·have hi : (z : Int) < (n : Int) := by omega
   obtain ⟨y, hy⟩ : ∃ y, z = y + 1 := ⟨z - 1, by omega⟩
   have wy : IntKind.i64.wrap ((z : Int) - 1) = (y : Int) := by rw [IntKind.wrap_i64]; omega
   have hyn : (y : Int) < (n : Int) := by omega
   have hyn2 : y < n := by omega
   obtain ⟨c0, c1, c2, c3, c4, c5, c6⟩ := RowU.seven hrow hlt
   obtain ⟨hv, hhv⟩ : ∃ hv, hasR (h y) (h z).u (h z).s (h z).lo = hv := ⟨_, rfl⟩
   have HV : Hid (hasR (h y) (h z).u (h z).s (h z).lo = hv) := hhv
   have HY : Hid (z = y + 1) := hy
   obtain ⟨gB, hgB⟩ : ∃ gB, gB = wr.heap.size := ⟨_, rfl⟩
   obtain ⟨W, hW⟩ : ∃ W, W = wr.alloc (.cells (ruc (h z)) 110) := ⟨_, rfl⟩
   have HW : Hid (RowU W w.heap.size n h /\ Below w.heap.size w W /\ gB < W.heap.size /\ ∀ u, Below W.heap.size W u -> u.cell? ⟨gB, 0, none⟩ = some (.int .i64 (h z).u) /\ u.cell? ⟨gB, 1, none⟩ = some (.int .i64 (h z).s) /\ u.cell? ⟨gB, 2, none⟩ = some (.int .i64 (h z).lo)) := by
    have hl : gB < W.heap.size := by rw [hW, hgB]; simp
    refine ⟨by rw [hW]; exact hrow.below ((Below.refl _ _).alloc (Nat.le_refl _) _), by rw [hW]; exact bel_next hbl ((Below.refl _ _).alloc (Nat.le_refl _) _), hl, fun u hu => ⟨?_, ?_, ?_⟩⟩
    ·rw [hu.cell (p := ⟨gB, 0, none⟩) hl, hW, hgB]; simp [go_sem]
    ·rw [hu.cell (p := ⟨gB, 1, none⟩) hl, hW, hgB]; simp [go_sem]
    rw [hu.cell (p := ⟨gB, 2, none⟩) hl, hW, hgB]; simp [go_sem]
   clear hhv hy hrow hbl
   go_wp2
   rw [<- hW, <- hgB]
   clear hW hgB c0 c1 c2 c3 c4 c5 c6
   refine wp_region_any (by kernel_rfl) ?_
   refine wpAny_vals (fun u => Below W.heap.size W u) (fun i v u => match i with
    | 0 => v = .slice (some ⟨w.heap.size, 0, none⟩) n n
    | 1 => v = .int .i64 (z : Int)
    | 2 => v = .int .i64 (y : Int)
    | 3 => v = .pointer (some ⟨w.heap.size, y * 7, none⟩)
    | 4 => v = .agg (ruc (h y))
    | 5 => v = .pointer (some ⟨gB, 0, none⟩)
    | 6 => v = .int .i64 (h z).u
    | 7 => v = .pointer (some ⟨gB, 1, none⟩)
    | 8 => v = .int .i64 (h z).s
    | 9 => v = .pointer (some ⟨gB, 2, none⟩)
    | 10 => v = .int .i64 (h z).lo
    | 11 => v = .bool hv
    | _ => True) (by kernel_rfl) (by kernel_rfl) (fun _ _ _ _ h _ => h) (Below.refl _ _).drew ?_ ?_ _ _ rfl (by decide) (fun i => by simp [Array.getD]; try (split <;> rfl))
   ·intro vs u hR hall
    have e16 : vs 11 = .bool hv := hall 11 (by simp)
    simp only [putsL]
    rw [e16]
    clear hall e16
    have HX : Hid (RowU u w.heap.size n h /\ Below w.heap.size w u) := ⟨HW.out.1.below hR, bel_next HW.out.2.1 hR⟩
    clear hR HW
    cases hv
    case false =>
     go_simp
     go_wp2
     go_roundw
     case rel => exact ⟨z + 1, by omega, by omega, by go_num, HX.out.1, fun j h1 h2 => (by have := HY.out; by_cases e : j = y; (subst e; rw [<- this]; exact HV.out); (exact HA.out j (by omega) h2)), HX.out.2⟩
     case measure => simp [intOf]; omega
    have hno : b = false := by cases b with | false => rfl | true => (have h9 := (HI.out.2.trans HB.out.symm).2 rfl y (by have := HY.out; omega); rw [<- HY.out, HV.out] at h9; cases h9)
    subst hno
    go_simp
    go_wp2
    go_ret
    exact ⟨rfl, HX.out.2⟩
   intro u i o ρ hR ho hρ hc hf hd
   have hi : i < 12 := by
    have := (Array.getElem?_eq_some_iff.1 ho).1
    simpa using this
   obtain rfl | rfl | rfl | rfl | rfl | rfl | rfl | rfl | rfl | rfl | rfl | rfl : i = 0 \/ i = 1 \/ i = 2 \/ i = 3 \/ i = 4 \/ i = 5 \/ i = 6 \/ i = 7 \/ i = 8 \/ i = 9 \/ i = 10 \/ i = 11 := by omega
   all_goals (simp only [List.getElem?_toArray, List.getElem?_cons_zero, List.getElem?_cons_succ, Option.some.injEq] at ho; subst ho)
   ·have s3 : ρ (.tmp 3) = .slice (some ⟨w.heap.size, 0, none⟩) n n := (hρ 3 (by kernel_rfl)).trans rfl
    exact .inl ⟨rfl, .inl ⟨_, u, rfl, s3, hR, Below.refl _ _⟩⟩
   ·have s4 : ρ (.tmp 4) = .int .i64 (z : Int) := (hρ 4 (by kernel_rfl)).trans rfl
    exact .inl ⟨rfl, .inl ⟨_, u, rfl, s4, hR, Below.refl _ _⟩⟩
   ·have h1 : ρ (.tmp 19) = .int .i64 (z : Int) := hd ⟨1, .data⟩ (by simp) rfl 19 rfl
    exact .inl ⟨rfl, .inl ⟨.int .i64 (y : Int), u, run_bin_op rfl h1 (hc _) (by go_simp), rfl, hR, Below.refl _ _⟩⟩
   ·have h0 : ρ (.tmp 18) = .slice (some ⟨w.heap.size, 0, none⟩) n n := hd ⟨0, .data⟩ (by simp) rfl 18 rfl
    have h2 : ρ (.tmp 20) = .int .i64 (y : Int) := hd ⟨2, .data⟩ (by simp) rfl 20 rfl
    exact .inl ⟨rfl, .inl ⟨.pointer (some ⟨w.heap.size, y * 7, none⟩), u, run_index_op rfl h0 h2 (by go_simp), rfl, hR, Below.refl _ _⟩⟩
   ·have R0 : RowU u w.heap.size n h := HW.out.1.below hR
    obtain ⟨d0, d1, d2, d3, d4, d5, d6⟩ := RowU.seven R0 (show y < n from by omega)
    clear R0
    have h3 : ρ (.tmp 21) = .pointer (some ⟨w.heap.size, y * 7, none⟩) := hd ⟨3, .data⟩ (by simp) rfl 21 rfl
    have hr : (Instr.loadAt 110 (.pointer (some ⟨w.heap.size, y * 7, none⟩))).run Tryz.prog u = .ok (.agg (ruc (h y))) u := by go_simp
    exact .inl ⟨rfl, .inl ⟨.agg (ruc (h y)), u, run_load_op rfl h3 hr, rfl, hR, Below.refl _ _⟩⟩
   ·have s5 : ρ (.tmp 5) = .pointer (some ⟨gB, 0, none⟩) := (hρ 5 (by kernel_rfl)).trans rfl
    exact .inl ⟨rfl, .inl ⟨.pointer (some ⟨gB, 0, none⟩), u, run_field_op rfl s5 (by go_simp), rfl, hR, Below.refl _ _⟩⟩
   ·obtain ⟨q0, q1, q2⟩ := HW.out.2.2.2 u hR
    have h5 : ρ (.tmp 23) = .pointer (some ⟨gB, 0, none⟩) := hd ⟨5, .data⟩ (by simp) rfl 23 rfl
    have hr : (Instr.loadAt 3 (.pointer (some ⟨gB, 0, none⟩))).run Tryz.prog u = .ok (.int .i64 (h z).u) u := by go_simp
    exact .inl ⟨rfl, .inl ⟨.int .i64 (h z).u, u, run_load_op rfl h5 hr, rfl, hR, Below.refl _ _⟩⟩
   ·have s5 : ρ (.tmp 5) = .pointer (some ⟨gB, 0, none⟩) := (hρ 5 (by kernel_rfl)).trans rfl
    exact .inl ⟨rfl, .inl ⟨.pointer (some ⟨gB, 1, none⟩), u, run_field_op rfl s5 (by go_simp), rfl, hR, Below.refl _ _⟩⟩
   ·obtain ⟨q0, q1, q2⟩ := HW.out.2.2.2 u hR
    have h7 : ρ (.tmp 25) = .pointer (some ⟨gB, 1, none⟩) := hd ⟨7, .data⟩ (by simp) rfl 25 rfl
    have hr : (Instr.loadAt 3 (.pointer (some ⟨gB, 1, none⟩))).run Tryz.prog u = .ok (.int .i64 (h z).s) u := by go_simp
    exact .inl ⟨rfl, .inl ⟨.int .i64 (h z).s, u, run_load_op rfl h7 hr, rfl, hR, Below.refl _ _⟩⟩
   ·have s5 : ρ (.tmp 5) = .pointer (some ⟨gB, 0, none⟩) := (hρ 5 (by kernel_rfl)).trans rfl
    exact .inl ⟨rfl, .inl ⟨.pointer (some ⟨gB, 2, none⟩), u, run_field_op rfl s5 (by go_simp), rfl, hR, Below.refl _ _⟩⟩
   ·obtain ⟨q0, q1, q2⟩ := HW.out.2.2.2 u hR
    have h9 : ρ (.tmp 27) = .pointer (some ⟨gB, 2, none⟩) := hd ⟨9, .data⟩ (by simp) rfl 27 rfl
    have hr : (Instr.loadAt 3 (.pointer (some ⟨gB, 2, none⟩))).run Tryz.prog u = .ok (.int .i64 (h z).lo) u := by go_simp
    exact .inl ⟨rfl, .inl ⟨.int .i64 (h z).lo, u, run_load_op rfl h9 hr, rfl, hR, Below.refl _ _⟩⟩
   have h4 : ρ (.tmp 22) = .agg (ruc (h y)) := hd ⟨4, .data⟩ (by simp) rfl 22 rfl
   have h6 : ρ (.tmp 24) = .int .i64 (h z).u := hd ⟨6, .data⟩ (by simp) rfl 24 rfl
   have h8 : ρ (.tmp 26) = .int .i64 (h z).s := hd ⟨8, .data⟩ (by simp) rfl 26 rfl
   have h10 : ρ (.tmp 28) = .int .i64 (h z).lo := hd ⟨10, .data⟩ (by simp) rfl 28 rfl
   refine .inl ⟨rfl, .inr ⟨_, _, run_call_op rfl (hf _) (args := #[.agg (ruc (h y)), .int .i64 (h z).u, .int .i64 (h z).s, .int .i64 (h z).lo]) (by simp [h4, h6, h8, h10]) (by kernel_rfl), ?_⟩⟩
   refine (has_any (h y) (h z).u (h z).s (h z).lo _).mono ?_
   rintro e u' ⟨he, b'⟩
   rw [HV.out] at he
   exact ⟨_, he, rfl, bel_next hR b', b'⟩
  have hi : ¬ (z : Int) < (n : Int) := by omega
  have hyes : b = true := HB.out.2 (HI.out.2.1 (fun j hj => HA.out j (by omega) hj))
  subst hyes
  clear hrow
  go_wp2
  go_ret
  exact ⟨rfl, hbl⟩
theorem implRulesOk_any (a : Option Addr) (n cap : Nat) (f : Nat -> Ru) (w : World) (hs : SlU w a n f) (hl : n <= 2000000) (h64 : ∀ k, k < n -> -9223372036854775808 <= (f k).sh /\ (f k).sh <= 9223372036854775807) (b : Bool) (hb : b = true ↔ OkRs f n) :
 Calls Tryz.prog 59 #[.slice a n cap] w fun e w' => e = .returned (.bool b) /\ Below w.heap.size w w' := by
 have HB : Hid (b = true ↔ OkRs f n) := hb
 clear hb
 by_cases hn : 24 < n
 ·have d : (24 : Int) < (n : Int) := by omega
  have hno : b = false := by cases b with | false => rfl | true => (have := (HB.out.1 rfl).1; omega)
  subst hno
  clear hs
  go_enter Tryz.func59, Tryz.ntmps59
  go_wp2
  go_ret
  exact ⟨rfl, Below.refl _ _⟩
 have d : ¬ (24 : Int) < (n : Int) := by omega
 go_enter Tryz.func59, Tryz.ntmps59
 go_wp2
 go_loopw [10] (fun i wr => ∃ z : Nat, z <= n /\ i = .int .i64 z /\ (∀ k, k < z -> OkRu (f k)) /\ Below w.heap.size w wr) (fun i _ => n - (intOf i).toNat)
 case atStart => exact ⟨0, Nat.zero_le _, rfl, fun k hk => by omega, Below.refl _ _⟩
 case round =>
  obtain ⟨z, hz, rfl, hall, hbl⟩ := hrel
  by_cases hlt : z < n
  ·have hi : (z : Int) < (n : Int) := by omega
   obtain ⟨bb, off, rfl, hb0, c0, c1, c2, c3, c4, c5, c6⟩ := SlU.seven (SlS.below hs hbl) hlt
   have B1 : Below w.heap.size w (wr.alloc (.cells (ruc (f z)) 110)) := bel_next hbl ((Below.refl _ _).alloc (Nat.le_refl _) _)
   have HA : Hid (∀ k, k < z -> OkRu (f k)) := hall
   clear hall
   go_wp2_with fail
   refine (isRight_any (f z) _ (h64 z hlt)).mono ?_
   rintro e w2 ⟨rfl, b2⟩
   have B2 := bel_next B1 b2
   clear B1 b2 hbl c0 c1 c2 c3 c4 c5 c6
   by_cases ho : OkRu (f z)
   ·rw [decide_eq_true ho]
    go_wp2
    go_roundw
    case rel => exact ⟨z + 1, by omega, by go_num, fun k hk => (by by_cases e : k = z; (subst e; exact ho); (exact HA.out k (by omega))), B2⟩
    case measure => simp [intOf]; omega
   rw [decide_eq_false ho]
   have hno : b = false := by cases b with | false => rfl | true => exact absurd ((HB.out.1 rfl).2.1 z hlt) ho
   subst hno
   go_wp2
   go_ret
   exact ⟨rfl, B2⟩
  have hi : ¬ (z : Int) < (n : Int) := by omega
  have S2 := SlS.below hs hbl
  have HA : Hid (∀ k, k < n -> OkRu (f k)) := fun k hk => hall k (by omega)
  clear hall
  go_wp2_with fail
  refine (areApart_any a n cap f _ S2 (by omega) (fun k hk => (HA.out k hk).2.2.1.2.1) b ⟨fun h => (HB.out.1 h).2.2, fun h => HB.out.2 ⟨by omega, HA.out, h⟩⟩).mono ?_
  rintro e w2 ⟨rfl, b2⟩
  have B2 := bel_next hbl b2
  clear b2 hbl S2
  go_wp2
  go_ret
  exact ⟨rfl, B2⟩
end Go.Proofs.YtkfgijkkffbpmaaGreat
