/- UnpackBits of the program. -/
import Derived.Test.YtfcbkollmhjdoaaUnp1
namespace Go.Proofs.Ytfcbkollmhjdoaa
open Go.RowKit

theorem top_bit : ∀ s : Nat, s < 8 → ∀ z : Nat, z < 256 → z / 2 ^ s ≠ 0 → ∃ r, r < 8 ∧ s ≤ r ∧ z / 2 ^ r % 2 = 1 := by decide +kernel

theorem left_bad {zs : List Int} (hr : ∀ z ∈ zs, 0 ≤ z ∧ z ≤ 255) {x : Nat} (hn : (zs.length : Int) = ((x : Int) + 7) / 8) (h8 : x % 8 ≠ 0) (hz : zs.getD (x / 8) 0 / ((2 ^ (x % 8) : Nat) : Int) ≠ 0) :
    okU zs (x : Int) = false ∧ outU zs (x : Int) = [] := by
  have rg := get_range hr (x / 8)
  obtain ⟨y, hy⟩ := Int.eq_ofNat_of_zero_le rg.1
  have e : ((y : Int) / ((2 ^ (x % 8) : Nat) : Int)) = ((y / 2 ^ (x % 8) : Nat) : Int) := by simp
  rw [hy, e] at hz
  obtain ⟨r, h1, h2, h3⟩ := top_bit (x % 8) (Nat.mod_lt _ (by decide)) y (by omega) (by omega)
  have ej1 : (8 * (x / 8) + r) / 8 = x / 8 := by omega
  have ej2 : (8 * (x / 8) + r) % 8 = r := by omega
  refine okU_bad (8 * (x / 8) + r) (by omega) (by omega) ?_
  unfold ub
  rw [ej1, ej2, hy]
  have e2 : ((y : Int) / ((2 ^ r : Nat) : Int)) = ((y / 2 ^ r : Nat) : Int) := by simp
  rw [e2]
  have e3 : ((y / 2 ^ r : Nat) : Int) % 2 = 1 := by omega
  rw [e3]; rfl

theorem left_good {zs : List Int} (hr : ∀ z ∈ zs, 0 ≤ z ∧ z ≤ 255) {x : Nat} (hn : (zs.length : Int) = ((x : Int) + 7) / 8) (h : x % 8 = 0 ∨ zs.getD (x / 8) 0 / ((2 ^ (x % 8) : Nat) : Int) = 0) :
    okU zs (x : Int) = true ∧ outU zs (x : Int) = ubs zs x := by
  refine okU_yes hn (fun j hj hx => ?_)
  by_cases h8 : x % 8 = 0
  · omega
  · have hz := h.resolve_left h8
    have rg := get_range hr (x / 8)
    obtain ⟨y, hy⟩ := Int.eq_ofNat_of_zero_le rg.1
    have e : ((y : Int) / ((2 ^ (x % 8) : Nat) : Int)) = ((y / 2 ^ (x % 8) : Nat) : Int) := by simp
    rw [hy, e] at hz
    have hp : 0 < 2 ^ (x % 8) := Nat.two_pow_pos _
    have hlt : y < 2 ^ (x % 8) := by
      have hz' : y / 2 ^ (x % 8) = 0 := by omega
      rcases (Nat.div_eq_zero_iff).1 hz' with h0 | h0
      · omega
      · exact h0
    have ej : j / 8 = x / 8 := by omega
    have hle : 2 ^ (x % 8) ≤ 2 ^ (j % 8) := Nat.pow_le_pow_right (by decide) (by omega)
    unfold ub
    rw [ej, hy]
    have e2 : ((y : Int) / ((2 ^ (j % 8) : Nat) : Int)) = ((y / 2 ^ (j % 8) : Nat) : Int) := by simp
    rw [e2, Nat.div_eq_of_lt (by omega)]; rfl

end Go.Proofs.Ytfcbkollmhjdoaa
