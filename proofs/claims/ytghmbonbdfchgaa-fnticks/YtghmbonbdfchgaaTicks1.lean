/- Ticks as numbers. -/
import Derived.Test.YtghmbonbdfchgaaCur3
namespace Go.Proofs.Ytghmbonbdfchgaa
open Go.RowKit

def isT (t : Int) : Prop := 0 ≤ t ∧ t ≤ 4294967295

theorem ret_bool {a b : Bool} (h : a = b) : Ending.returned (.bool a) = .returned (.bool b) := by rw [h]

set_option maxHeartbeats 1000000 in
theorem tickOn_in (t n : Int) (w : World) (ht : isT t) (hn : isT n) : Calls Try.prog 13 #[.int .i64 t, .int .i64 n] w fun e w' => e = .returned (.int .i64 ((t + n) % 4294967296)) ∧ w' = w := by
  obtain ⟨t0, t1⟩ := ht
  obtain ⟨n0, n1⟩ := hn
  have e32 := and32 (t + n)
  go_enter Try.func13, Try.ntmps13
  go_wp2
  go_ret
  exact ⟨rfl, rfl⟩

set_option maxHeartbeats 1000000 in
theorem tickOn_out (t n : Int) (w : World) (h : ¬ (isT t ∧ isT n)) : Calls Try.prog 13 #[.int .i64 t, .int .i64 n] w fun e w' => e = .returned (.int .i64 0) ∧ w' = w := by
  unfold isT at h
  by_cases h1 : 0 ≤ t <;> by_cases h2 : t ≤ 4294967295 <;> by_cases h3 : 0 ≤ n <;> by_cases h4 : n ≤ 4294967295
  all_goals first | omega | skip
  all_goals
    clear h
    go_enter Try.func13, Try.ntmps13
    go_wp2
    go_ret
    exact ⟨rfl, rfl⟩

set_option maxHeartbeats 1000000 in
theorem tickGap_in (t n : Int) (w : World) (ht : isT t) (hn : isT n) : Calls Try.prog 14 #[.int .i64 t, .int .i64 n] w fun e w' => e = .returned (.int .i64 ((n - t) % 4294967296)) ∧ w' = w := by
  obtain ⟨t0, t1⟩ := ht
  obtain ⟨n0, n1⟩ := hn
  have e32 := and32 (n - t)
  go_enter Try.func14, Try.ntmps14
  go_wp2
  go_ret
  exact ⟨rfl, rfl⟩

set_option maxHeartbeats 1000000 in
theorem tickGap_out (t n : Int) (w : World) (h : ¬ (isT t ∧ isT n)) : Calls Try.prog 14 #[.int .i64 t, .int .i64 n] w fun e w' => e = .returned (.int .i64 0) ∧ w' = w := by
  unfold isT at h
  by_cases h1 : 0 ≤ t <;> by_cases h2 : t ≤ 4294967295 <;> by_cases h3 : 0 ≤ n <;> by_cases h4 : n ≤ 4294967295
  all_goals first | omega | skip
  all_goals
    clear h
    go_enter Try.func14, Try.ntmps14
    go_wp2
    go_ret
    exact ⟨rfl, rfl⟩

set_option maxHeartbeats 1000000 in
theorem tickDue_in (t n : Int) (w : World) (ht : isT t) (hn : isT n) : Calls Try.prog 15 #[.int .i64 t, .int .i64 n] w fun e w' => e = .returned (.bool (decide ((t - n) % 4294967296 < 2147483648))) ∧ w' = w := by
  have HT : Hid (isT t) := ht
  have HN : Hid (isT n) := hn
  obtain ⟨t0, t1⟩ := ht
  obtain ⟨n0, n1⟩ := hn
  go_enter Try.func15, Try.ntmps15
  go_wp2_with (first | (go_at_call 14; refine (tickGap_in n t _ HN.out HT.out).mono ?_; rintro e w' ⟨rfl, rfl⟩) | go_in)
  go_ret
  exact ⟨rfl, rfl⟩

set_option maxHeartbeats 1000000 in
theorem tickDue_out (t n : Int) (w : World) (h : ¬ (isT t ∧ isT n)) : Calls Try.prog 15 #[.int .i64 t, .int .i64 n] w fun e w' => e = .returned (.bool false) ∧ w' = w := by
  unfold isT at h
  by_cases h1 : 0 ≤ t <;> by_cases h2 : t ≤ 4294967295 <;> by_cases h3 : 0 ≤ n <;> by_cases h4 : n ≤ 4294967295
  all_goals first | omega | skip
  all_goals
    clear h
    go_enter Try.func15, Try.ntmps15
    go_wp2
    go_ret
    exact ⟨rfl, rfl⟩
end Go.Proofs.Ytghmbonbdfchgaa
