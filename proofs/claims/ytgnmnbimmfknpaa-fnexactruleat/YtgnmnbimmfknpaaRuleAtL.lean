/- The law of FnExactRuleAt, walked. -/
import Derived.Test.YtgnmnbimmfknpaaRu3
namespace Go.Proofs.Ytgnmnbimmfknpaa
open Go.RowKit

set_option linter.unusedVariables false

set_option maxRecDepth 20000 in
set_option maxHeartbeats 4000000 in
theorem ruleAt_law (a : Option Addr) (n cap : Nat) (f : Nat → Ru) (un sp pl : Int) (w : World) (hs : SlU w a n f) (hl : n ≤ 1048576) :
    Calls Try.prog 6 #[.slice a n cap, .int .i64 un, .int .i64 sp, .int .i64 pl] w fun e w' => e = .returned (.bool true) ∧ Below w.heap.size w w' := by
  go_enter Try.func6, Try.ntmps6
  go_wp2_with fail
  refine (szRuleS_fits a n cap 1048576 _ hl (Nat.le_refl _)).mono ?_
  rintro e w0 ⟨rfl, rfl⟩
  have hnn : ¬ (((1048576 - n : Nat) : Int) < 0) := by omega
  go_wp2_with fail
  refine (toRuleS_any a n cap f _ hs (by omega)).mono ?_
  rintro e w1 ⟨rfl, R1, b1⟩
  go_wp2_with fail
  refine (specRuleAt_any _ n n f un sp pl _ R1.sl (by omega)).mono ?_
  rintro e w2 ⟨rfl, b2⟩
  have B2 := bel_next b1 b2
  have S2 := SlS.below hs B2
  clear R1 b1 b2 hs
  go_wp2_with fail
  refine (toRuleS_any a n cap f _ S2 (by omega)).mono ?_
  rintro e w3 ⟨rfl, R3, b3⟩
  have B3 := bel_next B2 b3
  have S3 := SlS.below S2 b3
  clear b3 S2 B2
  go_wp2_with fail
  refine (implRuleAt_any _ n n f un sp pl _ R3.sl (by omega)).mono ?_
  rintro e w4 ⟨rfl, b4⟩
  have B4 := bel_next B3 b4
  have S4 := SlS.below S3 b4
  have R4 := R3.below b4
  clear b4 S3 B3 R3
  go_wp2_with fail
  refine (toRuleS_any a n cap f _ S4 (by omega)).mono ?_
  rintro e w5 ⟨rfl, R5, b5⟩
  have B5 := bel_next B4 b5
  have R5' := R4.below b5
  clear b5 S4 B4 R4
  go_wp2_with fail
  refine (eqRuleS_true _ _ n n n f _ R5'.sl R5.sl (by omega)).mono ?_
  rintro e w6 ⟨rfl, b6⟩
  have B6 := bel_next B5 b6
  clear b6 B5 R5 R5'
  go_wp2
  go_ret
  exact ⟨rfl, B6⟩

end Go.Proofs.Ytgnmnbimmfknpaa
