/- UnHex of the model: bytes of digits, two and two. -/
import Derived.Test.YtmcednhinafpeaaHex1
import Derived.Lib.OthersKept
namespace Go.Proofs.Ytmcednhinafpeaa
open Go.RowKit

/-- The worth of a digit, -1 of what is none. -/
def dg (c : Int) : Int := if 48 ≤ c ∧ c ≤ 57 then c - 48 else if 65 ≤ c ∧ c ≤ 70 then c - 55 else -1

theorem dg_bd (c : Int) : -1 ≤ dg c ∧ dg c ≤ 15 := by unfold dg; split <;> (try split) <;> omega

theorem dg_ascii (c : Int) (h : 0 ≤ dg c) : 48 ≤ c ∧ c ≤ 70 := by
  unfold dg at h
  split at h
  · omega
  · split at h <;> omega

set_option maxHeartbeats 1000000 in
theorem l1Digit_any (c : Int) (w : World) (h0 : 0 ≤ c) (h1 : c ≤ 255) : Calls Try.prog 68 #[.int .u8 c] w fun e w' => e = .returned (.int .i64 (dg c)) ∧ w' = w := by
  by_cases a1 : 48 ≤ c
  · by_cases a2 : c ≤ 57
    · have E : Hid (dg c = c - 48) := by unfold dg; exact if_pos ⟨a1, a2⟩
      go_enter Try.func68, Try.ntmps68
      go_wp2
      go_ret
      exact ⟨ret_int (by rw [E.out]), rfl⟩
    · by_cases a3 : 65 ≤ c
      · by_cases a4 : c ≤ 70
        · have E : Hid (dg c = c - 55) := by unfold dg; rw [if_neg (by omega)]; exact if_pos ⟨a3, a4⟩
          go_enter Try.func68, Try.ntmps68
          go_wp2
          go_ret
          exact ⟨ret_int (by rw [E.out]; omega), rfl⟩
        · have E : Hid (dg c = -1) := by unfold dg; rw [if_neg (by omega), if_neg (by omega)]; rfl
          go_enter Try.func68, Try.ntmps68
          go_wp2
          go_ret
          exact ⟨ret_int (by rw [E.out]), rfl⟩
      · have E : Hid (dg c = -1) := by unfold dg; rw [if_neg (by omega), if_neg (by omega)]; rfl
        go_enter Try.func68, Try.ntmps68
        go_wp2
        go_ret
        exact ⟨ret_int (by rw [E.out]), rfl⟩
  · have E : Hid (dg c = -1) := by unfold dg; rw [if_neg (by omega), if_neg (by omega)]; rfl
    have a3 : ¬ 65 ≤ c := by omega
    go_enter Try.func68, Try.ntmps68
    go_wp2
    go_ret
    exact ⟨ret_int (by rw [E.out]), rfl⟩

set_option maxHeartbeats 1000000 in
theorem digitOf_yes (c : Int) (w : World) (h : 0 ≤ dg c) : Calls Try.prog 65 #[.int .i32 c] w fun e w' => e = .returned (.tuple #[.int .u8 (dg c), .bool true]) ∧ w' = w := by
  have b := dg_ascii c h
  obtain ⟨a1, a4⟩ := b
  by_cases a2 : c ≤ 57
  · have E : Hid (dg c = c - 48) := by unfold dg; exact if_pos ⟨a1, a2⟩
    clear h
    go_enter Try.func65, Try.ntmps65
    go_wp2
    go_ret2
    rw [E.out]
    exact ⟨rfl, rfl⟩
  · have a3 : 65 ≤ c := by
      unfold dg at h
      rw [if_neg (by omega)] at h
      split at h <;> omega
    have E : Hid (dg c = c - 55) := by unfold dg; rw [if_neg (by omega)]; exact if_pos ⟨a3, a4⟩
    have e2 : Hid (c - 65 + 10 = c - 55) := by show c - 65 + 10 = c - 55; omega
    clear h
    go_enter Try.func65, Try.ntmps65
    go_wp2
    go_ret2
    rw [E.out, ← e2.out]
    exact ⟨rfl, rfl⟩

set_option maxHeartbeats 1000000 in
theorem digitOf_no (c : Int) (w : World) (h : dg c < 0) : Calls Try.prog 65 #[.int .i32 c] w fun e w' => e = .returned (.tuple #[.int .u8 0, .bool false]) ∧ w' = w := by
  have n1 : ¬ (48 ≤ c ∧ c ≤ 57) := fun k => by unfold dg at h; rw [if_pos k] at h; omega
  have n2 : ¬ (65 ≤ c ∧ c ≤ 70) := fun k => by unfold dg at h; rw [if_neg n1, if_pos k] at h; omega
  clear h
  by_cases a1 : 48 ≤ c
  · have a2 : ¬ c ≤ 57 := fun k => n1 ⟨a1, k⟩
    by_cases a3 : 65 ≤ c
    · have a4 : ¬ c ≤ 70 := fun k => n2 ⟨a3, k⟩
      clear n1 n2
      go_enter Try.func65, Try.ntmps65
      go_wp2
      go_ret2
      exact ⟨rfl, rfl⟩
    · clear n1 n2
      go_enter Try.func65, Try.ntmps65
      go_wp2
      go_ret2
      exact ⟨rfl, rfl⟩
  · have a3 : ¬ 65 ≤ c := by omega
    clear n1 n2
    go_enter Try.func65, Try.ntmps65
    go_wp2
    go_ret2
    exact ⟨rfl, rfl⟩

end Go.Proofs.Ytmcednhinafpeaa
