/- Lrc, of the program and of its model: one number. -/
import Derived.Test.YtmcednhinafpeaaBys
namespace Go.Proofs.Ytmcednhinafpeaa
open Go.RowKit

/-- The sum of the first k bytes, modulo 256. -/
def lsum (zs : List Int) (k : Nat) : Int := (zs.take k).sum % 256

theorem lsum_zero (zs : List Int) : lsum zs 0 = 0 := by simp [lsum]

theorem lsum_bd (zs : List Int) (k : Nat) : 0 ≤ lsum zs k ∧ lsum zs k ≤ 255 := by unfold lsum; omega

theorem lsum_succ (zs : List Int) (k : Nat) (h : k < zs.length) : lsum zs (k + 1) = (lsum zs k + zs.getD k 0) % 256 := by
  unfold lsum
  rw [List.take_succ_eq_append_getElem h, List.sum_append, List.getD_eq_getElem?_getD, List.getElem?_eq_getElem h]
  simp

/-- What Lrc answers. -/
def lres (zs : List Int) : Int := (256 - lsum zs zs.length) % 256

set_option maxHeartbeats 1000000 in
theorem specLrc_any (a : Option Addr) (n cap : Nat) (zs : List Int) (w : World) (hn : n = zs.length) (hs : Sl w a zs) (hr : ∀ z ∈ zs, 0 ≤ z ∧ z ≤ 255) (hl : zs.length ≤ 2000000) :
    Calls Try.prog 52 #[.slice a n cap] w fun e w' => e = .returned (.int .i64 (lres zs)) ∧ w' = w := by
  subst hn
  go_enter Try.func52, Try.ntmps52
  go_wp2
  go_loop [3, 4] (fun x i => ∃ k : Nat, k ≤ zs.length ∧ i = .int .i64 k ∧ x = .int .i64 (lsum zs k)) (fun _ i => zs.length - (intOf i).toNat)
  case atStart => exact ⟨0, Nat.zero_le _, rfl, by rw [lsum_zero]⟩
  case round =>
    obtain ⟨k, hk, rfl, rfl⟩ := hrel
    have bd := lsum_bd zs k
    by_cases hlt : k < zs.length
    · obtain ⟨b, off, rfl, _, hc⟩ := cell_at hs hlt
      have HS : Hid (lsum zs (k + 1) = (lsum zs k + zs.getD k 0) % 256) := lsum_succ zs k hlt
      have rg := get_range hr k
      generalize zs.getD k 0 = z at *
      clear hs hr
      go_wp2
      go_round
      case rel => exact ⟨k + 1, by omega, by go_num, by rw [HS.out]⟩
      case measure => simp [intOf]; omega
    · have e : k = zs.length := by omega
      subst e
      go_wp2
      go_ret
      exact ⟨ret_int (by unfold lres; omega), rfl⟩

set_option maxHeartbeats 1000000 in
theorem implLrc_any (a : Option Addr) (n cap : Nat) (zs : List Int) (w : World) (hn : n = zs.length) (hs : Sl w a zs) (hr : ∀ z ∈ zs, 0 ≤ z ∧ z ≤ 255) (hl : zs.length ≤ 2000000) :
    Calls Try.prog 40 #[.slice a n cap] w fun e w' => e = .returned (.int .i64 (lres zs)) ∧ w' = w := by
  subst hn
  go_enter Try.func40, Try.ntmps40
  go_wp2
  go_loop [3, 8] (fun x i => ∃ k : Nat, k ≤ zs.length ∧ i = .int .i64 k ∧ x = .int .u8 (lsum zs k)) (fun _ i => zs.length - (intOf i).toNat)
  case atStart => exact ⟨0, Nat.zero_le _, rfl, by rw [lsum_zero]⟩
  case round =>
    obtain ⟨k, hk, rfl, rfl⟩ := hrel
    have bd := lsum_bd zs k
    by_cases hlt : k < zs.length
    · obtain ⟨b, off, rfl, _, hc⟩ := cell_at hs hlt
      have HS : Hid (lsum zs (k + 1) = (lsum zs k + zs.getD k 0) % 256) := lsum_succ zs k hlt
      have rg := get_range hr k
      generalize zs.getD k 0 = z at *
      clear hs hr
      go_wp2
      go_round
      case rel => exact ⟨k + 1, by omega, by go_num, by rw [HS.out]⟩
      case measure => simp [intOf]; omega
    · have e : k = zs.length := by omega
      subst e
      go_wp2
      go_ret
      exact ⟨ret_int (by unfold lres; omega), rfl⟩

end Go.Proofs.Ytmcednhinafpeaa
