/- The law of FnExactRulesOk, walked. -/
import Derived.Test.YtgnmnbimmfknpaaSr10
import Derived.Test.YtgnmnbimmfknpaaSr11
namespace Go.Proofs.Ytgnmnbimmfknpaa
open Go.RowKit

set_option linter.unusedVariables false

set_option maxRecDepth 20000 in
set_option maxHeartbeats 4000000 in
theorem rulesOk_law (a : Option Addr) (n cap : Nat) (f : Nat → Ru) (w : World) (hs : SlU w a n f) (hl : n ≤ 1048576) (h64 : ∀ k, k < n → -9223372036854775808 ≤ (f k).sh ∧ (f k).sh ≤ 9223372036854775807) :
    Calls Try.prog 5 #[.slice a n cap] w fun e w' => e = .returned (.bool true) ∧ Below w.heap.size w w' := by
  obtain ⟨b, hb⟩ : ∃ b : Bool, b = true ↔ OkRs f n := by
    by_cases h : OkRs f n
    · exact ⟨true, fun _ => h, fun _ => rfl⟩
    · exact ⟨false, ⟨fun e => Bool.noConfusion e, fun e => absurd e h⟩⟩
  have HB : Hid (b = true ↔ OkRs f n) := hb
  have H64 : Hid (∀ k, k < n → -9223372036854775808 ≤ (f k).sh ∧ (f k).sh ≤ 9223372036854775807) := h64
  clear hb h64
  go_enter Try.func5, Try.ntmps5
  go_wp2_with fail
  refine (szRuleS_fits a n cap 1048576 _ hl (Nat.le_refl _)).mono ?_
  rintro e w0 ⟨rfl, rfl⟩
  have hnn : ¬ (((1048576 - n : Nat) : Int) < 0) := by omega
  go_wp2_with fail
  refine (toRuleS_any a n cap f _ hs (by omega)).mono ?_
  rintro e w1 ⟨rfl, R1, b1⟩
  go_wp2_with fail
  refine (specRulesOk_any _ n n f _ R1.sl (by omega) b HB.out).mono ?_
  rintro e w2 ⟨rfl, b2⟩
  have B2 := bel_next b1 b2
  have S2 := SlS.below hs B2
  clear R1 b1 b2 hs
  go_wp2_with fail
  refine (toRuleS_any a n cap f _ S2 (by omega)).mono ?_
  rintro e w3 ⟨rfl, R3, b3⟩
  have B3 := bel_next B2 b3
  have S3 := SlS.below S2 b3
  clear b3 S2 B2
  go_wp2_with fail
  refine (implRulesOk_any _ n n f _ R3.sl (by omega) H64.out b HB.out).mono ?_
  rintro e w4 ⟨rfl, b4⟩
  have B4 := bel_next B3 b4
  have S4 := SlS.below S3 b4
  have R4 := R3.below b4
  clear b4 S3 B3 R3
  have ebb : (b == b) = true := by simp
  go_wp2_with fail
  refine (toRuleS_any a n cap f _ S4 (by omega)).mono ?_
  rintro e w5 ⟨rfl, R5, b5⟩
  have B5 := bel_next B4 b5
  have R5' := R4.below b5
  clear b5 S4 B4 R4
  go_wp2_with fail
  refine (eqRuleS_true _ _ n n n f _ R5'.sl R5.sl (by omega)).mono ?_
  rintro e w6 ⟨rfl, b6⟩
  have B6 := bel_next B5 b6
  clear b6 B5 R5 R5'
  go_wp2
  go_ret
  exact ⟨rfl, B6⟩

end Go.Proofs.Ytgnmnbimmfknpaa
