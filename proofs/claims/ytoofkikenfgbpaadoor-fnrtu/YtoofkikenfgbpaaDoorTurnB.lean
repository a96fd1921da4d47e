/- A bit of a byte turned. -/
import Derived.Test.YtoofkikenfgbpaaDoorRtuM
namespace Go.Proofs.YtoofkikenfgbpaaDoor
open Go.RowKit

theorem own_rowT {w : World} {base : Nat} {v : Value} {zs : List Int} (h : Own w base v zs) (h0 : 0 < zs.length) : ∃ g c, v = .slice (some ⟨g, 0, none⟩) zs.length c ∧ base ≤ g ∧ zs.length ≤ c := by
  obtain ⟨_, h2⟩ := h
  rcases h2 with ⟨h2, h3⟩ | ⟨g, cap', cur, hv, hg, _, hle, _⟩
  · omega
  · exact ⟨g, cap', hv, hg, hle⟩

theorem own_atT {w : World} {base g c i : Nat} {zs : List Int} (h : Own w base (.slice (some ⟨g, 0, none⟩) zs.length c) zs) (hi : i < zs.length) :
    w.cell? ⟨g, i, none⟩ = some (.int .u8 (zs.getD i 0)) ∧ w.frozen? ⟨g, i, none⟩ = false ∧
    (∀ y : Int, Own (w.setCell ⟨g, i, none⟩ (.int .u8 y)) base (.slice (some ⟨g, 0, none⟩) zs.length c) (zs.set i y) ∧ w.grownBy (w.setCell ⟨g, i, none⟩ (.int .u8 y)) (some g)) := by
  refine ⟨?_, World.ownsRow.frozenAt h i, fun y => ?_⟩
  · rw [World.ownsRow.cellAt h i (by omega), List.getElem?_map, List.getElem?_eq_getElem hi, List.getD_eq_getElem?_getD, List.getElem?_eq_getElem hi]
    rfl
  · have s := World.ownsRow.stored h i (.int .u8 y)
    refine ⟨?_, s.2⟩
    have e : (zs.map (Value.int .u8)).set i (.int .u8 y) = (zs.set i y).map (Value.int .u8) := by rw [List.map_set]
    rw [e] at s
    simpa [Own] using s.1

theorem nat_belowT {y K : Int} {n : Nat} (hK : y % (8 * (n : Int)) = K) (hn : 0 < n) : ∃ kk : Nat, K = (kk : Int) ∧ kk / 8 < n := by
  have h1 : 0 ≤ K := by rw [← hK]; exact Int.emod_nonneg _ (by omega)
  have h2 : K < 8 * (n : Int) := by rw [← hK]; exact Int.emod_lt_of_pos _ (by omega)
  obtain ⟨kk, rfl⟩ := Int.eq_ofNat_of_zero_le h1
  exact ⟨kk, rfl, by omega⟩

theorem bit_natT (k : Nat) : ∃ b : Nat, 0 < b ∧ b < 256 ∧ (2 : Int) ^ (k % 8) % 256 = (b : Int) := by
  have h : k % 8 = 0 ∨ k % 8 = 1 ∨ k % 8 = 2 ∨ k % 8 = 3 ∨ k % 8 = 4 ∨ k % 8 = 5 ∨ k % 8 = 6 ∨ k % 8 = 7 := by omega
  rcases h with h | h | h | h | h | h | h | h <;> rw [h]
  · exact ⟨1, by decide, by decide, by decide⟩
  · exact ⟨2, by decide, by decide, by decide⟩
  · exact ⟨4, by decide, by decide, by decide⟩
  · exact ⟨8, by decide, by decide, by decide⟩
  · exact ⟨16, by decide, by decide, by decide⟩
  · exact ⟨32, by decide, by decide, by decide⟩
  · exact ⟨64, by decide, by decide, by decide⟩
  · exact ⟨128, by decide, by decide, by decide⟩

theorem flip_bdT (z : Int) (k : Nat) (h0 : 0 ≤ z) (h1 : z ≤ 255) : (0 ≤ bits BinOp.xor IntKind.u8 z (2 ^ (k % 8) % 256) ∧ bits BinOp.xor IntKind.u8 z (2 ^ (k % 8) % 256) ≤ 255) ∧ z ≠ bits BinOp.xor IntKind.u8 z (2 ^ (k % 8) % 256) := by
  obtain ⟨b, hb0, hb1, e⟩ := bit_natT k
  rw [e]
  obtain ⟨n, rfl⟩ := Int.eq_ofNat_of_zero_le h0
  rw [u8_xor_nat n b (by omega) hb1]
  have hx : n ^^^ b < 2 ^ 8 := Nat.xor_lt_two_pow (by omega) hb1
  refine ⟨by omega, fun he => ?_⟩
  have he' : n ^^^ 0 = n ^^^ b := by rw [Nat.xor_zero]; omega
  have := xor_cl he'
  omega

end Go.Proofs.YtoofkikenfgbpaaDoor
