/- A byte of the code, or a number out of its length. -/
import Derived.Test.YtbdlppihiffjgaaBys0
namespace Go.Proofs.Ytbdlppihiffjgaa
open Go.RowKit

set_option maxHeartbeats 1000000 in
theorem at_any (w : World) (a : Option Addr) (n cap : Nat) (zs : List Int) (j : Int) (hj0 : 0 ≤ j) (hj : j ≤ 100) (hn : n = zs.length) (hs : Sl w a zs) (hr : ∀ z ∈ zs, 0 ≤ z ∧ z ≤ 255) (hl : zs.length ≤ 1048576) :
    Calls Try.prog 11 #[.slice a n cap, .int .i64 j] w fun e w' => ∃ x : Int, e = .returned (.int .i64 x) ∧ 0 ≤ x ∧ x ≤ 255 ∧ w' = w := by
  subst hn
  obtain ⟨k, rfl⟩ := Int.eq_ofNat_of_zero_le hj0
  by_cases hlt : k < zs.length
  · obtain ⟨b, off, rfl, _, hc⟩ := cell_at hs hlt
    have rg := get_range hr k
    generalize zs.getD k 0 = z at *
    have hi' : (k : Int) < (zs.length : Int) := by omega
    clear hs hr
    go_enter Try.func11, Try.ntmps11
    go_wp2
    go_ret
    exact ⟨z, rfl, rg.1, rg.2, rfl⟩
  · have hi' : ¬ (k : Int) < (zs.length : Int) := by omega
    clear hs hr
    go_enter Try.func11, Try.ntmps11
    go_wp2
    go_ret
    exact ⟨_, rfl, by omega, by omega, rfl⟩

end Go.Proofs.Ytbdlppihiffjgaa
