/- Bytes and two more: their sum is nothing just if these two are the sum of the first ones. -/
import Derived.Test.YtoofkikenfgbpaaDoorSumsN
namespace Go.Proofs.YtoofkikenfgbpaaDoor

set_option linter.unusedVariables false

theorem F_lt (x : Nat) (h : x < 65536) : four (four x) < 65536 := four_lt _ (four_lt _ h)

theorem F_inj (x y : Nat) (hx : x < 65536) (hy : y < 65536) (h : four (four x) = four (four y)) : x = y :=
  four_inj _ _ hx hy (four_inj _ _ (four_lt _ hx) (four_lt _ hy) h)

theorem F_zero : four (four 0) = 0 := by decide

theorem low_of (c lo hi : Nat) (hc : c < 65536) (hlo : lo < 256) (hhi : hi < 256) (h : c ^^^ lo = 256 * hi) : lo = c % 256 ∧ hi = c / 256 := by
  have h1 : (c ^^^ lo) % 2 ^ 8 = c % 2 ^ 8 ^^^ lo % 2 ^ 8 := Nat.xor_mod_two_pow
  rw [h, show 256 * hi % 2 ^ 8 = 0 by omega, show lo % 2 ^ 8 = lo by omega] at h1
  have h2 : c % 256 = lo := by
    have e : c % 2 ^ 8 ^^^ lo ^^^ lo = 0 ^^^ lo := by rw [← h1]
    rw [Nat.xor_assoc, Nat.xor_self, Nat.xor_zero, Nat.zero_xor] at e
    simpa using e
  have h3 := low_xor c hc
  rw [h2, h] at h3
  omega

theorem crc_nil_iff (c lo hi : Nat) (hc : c < 65536) (hlo : lo < 256) (hhi : hi < 256) : four (four (four (four (c ^^^ lo)) ^^^ hi)) = 0 ↔ lo = c % 256 ∧ hi = c / 256 := by
  have x1 : c ^^^ lo < 65536 := xor_lt _ _ hc (by omega)
  constructor
  · intro h
    have h1 : four (four (c ^^^ lo)) ^^^ hi = 0 := F_inj _ _ (xor_lt _ _ (F_lt _ x1) (by omega)) (by decide) (by rw [h, F_zero])
    have h2 : four (four (c ^^^ lo)) = hi := by
      have e : four (four (c ^^^ lo)) ^^^ hi ^^^ hi = 0 ^^^ hi := by rw [h1]
      rwa [Nat.xor_assoc, Nat.xor_self, Nat.xor_zero, Nat.zero_xor] at e
    have h3 : c ^^^ lo = 256 * hi := F_inj _ _ x1 (by omega) (by rw [h2, four_low])
    exact low_of c lo hi hc hlo hhi h3
  · rintro ⟨rfl, rfl⟩
    rw [low_xor c hc, four_low, Nat.xor_self]
    exact F_zero

theorem sum_iff (bs : List Int) (hr : ∀ i, 0 ≤ bs.getD i 0 ∧ bs.getD i 0 ≤ 255) (m : Nat) : crcTo bs (m + 1 + 1) = 0 ↔ bs.getD m 0 = ((crcTo bs m : Nat) : Int) % 256 ∧ bs.getD (m + 1) 0 = ((crcTo bs m : Nat) : Int) / 256 := by
  have hc := crcTo_lt bs hr m
  have r0 := hr m
  have r1 := hr (m + 1)
  have h := crc_nil_iff (crcTo bs m) (bs.getD m 0).toNat (bs.getD (m + 1) 0).toNat hc (by omega) (by omega)
  show four (four (four (four (crcTo bs m ^^^ (bs.getD m 0).toNat)) ^^^ (bs.getD (m + 1) 0).toNat)) = 0 ↔ _
  rw [h]
  omega

theorem crcTo_take (bs : List Int) (m : Nat) (hm : m ≤ bs.length) : crcTo (bs.take m) (bs.take m).length = crcTo bs m := by
  rw [show (bs.take m).length = m by simp; omega]
  exact crcTo_congr _ _ _ (fun j hj => by rw [List.getD_eq_getElem?_getD, List.getElem?_take, if_pos hj, ← List.getD_eq_getElem?_getD])

end Go.Proofs.YtoofkikenfgbpaaDoor
