/- PackBits, of the program and of its model. -/
import Derived.Test.YtmhdneenjoelfaaBos
import Derived.Test.YtmhdneenjoelfaaBits
namespace Go.Proofs.Ytmhdneenjoelfaa
open Go.RowKit

/-- Byte j when k bits have been packed. -/
def pv (bits : List Bool) : Nat → Nat → Int
  | 0, _ => 0
  | k + 1, j => if k / 8 = j ∧ bits.getD k false = true then pv bits k j + (2 ^ (k % 8) : Nat) else pv bits k j

theorem pv_bound (bs : List Bool) : ∀ k j, 0 ≤ pv bs k j ∧ (j < k / 8 → pv bs k j < 256) ∧ (j = k / 8 → pv bs k j < (2 ^ (k % 8) : Nat)) ∧ (k / 8 < j → pv bs k j = 0)
  | 0, j => by simp [pv]
  | k + 1, j => by
    obtain ⟨h0, h1, h2, h3⟩ := pv_bound bs k j
    have hp : (2 ^ (k % 8) : Nat) ≤ 128 ∧ 1 ≤ (2 ^ (k % 8) : Nat) := by
      have : k % 8 < 8 := Nat.mod_lt _ (by decide)
      generalize k % 8 = r at *
      match r, this with
      | 0, _ => decide
      | 1, _ => decide
      | 2, _ => decide
      | 3, _ => decide
      | 4, _ => decide
      | 5, _ => decide
      | 6, _ => decide
      | 7, _ => decide
    have key : pv bs (k + 1) j = pv bs k j ∨ (k / 8 = j ∧ pv bs (k + 1) j = pv bs k j + (2 ^ (k % 8) : Nat)) := by
      rw [pv]
      by_cases h : k / 8 = j ∧ bs.getD k false = true
      · right; rw [if_pos h]; exact ⟨h.1, rfl⟩
      · left; rw [if_neg h]
    by_cases hm : k % 8 = 7
    · have e1 : (k + 1) / 8 = k / 8 + 1 := by omega
      have e2 : (k + 1) % 8 = 0 := by omega
      have e3 : (2 ^ (k % 8) : Nat) = 128 := by rw [hm]
      rw [e1, e2]
      rcases key with hk | ⟨hj, hk⟩
      · rw [hk]; refine ⟨h0, fun h => ?_, fun h => ?_, fun h => h3 (by omega)⟩
        · by_cases hh : j = k / 8
          · have := h2 hh; omega
          · exact h1 (by omega)
        · rw [h3 (by omega)]; decide
      · rw [hk]; refine ⟨by omega, fun _ => by have := h2 hj.symm; omega, fun h => by omega, fun h => by omega⟩
    · have e1 : (k + 1) / 8 = k / 8 := by omega
      have e2 : (k + 1) % 8 = k % 8 + 1 := by omega
      have e3 : (2 ^ (k % 8 + 1) : Nat) = 2 * 2 ^ (k % 8) := by rw [Nat.pow_succ]; omega
      rw [e1, e2, e3]
      rcases key with hk | ⟨hj, hk⟩
      · rw [hk]; exact ⟨h0, h1, fun h => by have := h2 h; omega, h3⟩
      · rw [hk]; exact ⟨by omega, fun h => by omega, fun h => by have := h2 h; omega, fun h => by omega⟩

theorem or_bit : ∀ r : Nat, r < 8 → ∀ x : Nat, x < 2 ^ r → bits .or .u8 (x : Int) ((2 ^ r : Nat) : Int) = (x : Int) + ((2 ^ r : Nat) : Int) := by decide

theorem or_pv (bs : List Bool) (k : Nat) : bits .or .u8 (pv bs k (k / 8)) ((2 ^ (k % 8) : Nat) : Int) = pv bs k (k / 8) + ((2 ^ (k % 8) : Nat) : Int) := by
  obtain ⟨h0, _, h2, _⟩ := pv_bound bs k (k / 8)
  obtain ⟨x, hx⟩ := Int.eq_ofNat_of_zero_le h0
  have := h2 rfl
  rw [hx] at this ⊢
  exact or_bit (k % 8) (Nat.mod_lt _ (by decide)) x (by omega)

theorem two_pow8 (k : Nat) : (2 : Int) ^ (k % 8) % 256 = ((2 ^ (k % 8) : Nat) : Int) := by
  have : k % 8 < 8 := Nat.mod_lt _ (by decide)
  generalize k % 8 = r at *
  match r, this with
  | 0, _ => decide
  | 1, _ => decide
  | 2, _ => decide
  | 3, _ => decide
  | 4, _ => decide
  | 5, _ => decide
  | 6, _ => decide
  | 7, _ => decide

theorem pack_set {wr : World} {g m k : Nat} {t : TypeId} {bs : List Bool} (hrow : wr.rowIs g t m (fun i => .int .u8 (pv bs k i))) (hbit : bs.getD k false = true) :
    (wr.setCell ⟨g, k / 8, none⟩ (.int .u8 (bits BinOp.or IntKind.u8 (pv bs k (k / 8)) (2 ^ (k % 8) % 256)))).rowIs g t m (fun i => .int .u8 (pv bs (k + 1) i)) := by
  rw [two_pow8, or_pv]
  refine (hrow.set (k / 8) _).congr (fun i _ => ?_)
  by_cases e : i = k / 8
  · subst e; rw [if_pos rfl, pv, if_pos ⟨rfl, hbit⟩]
  · rw [if_neg e, pv, if_neg (fun h => e h.1.symm)]

end Go.Proofs.Ytmhdneenjoelfaa
