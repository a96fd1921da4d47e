/- The sum of Modbus RTU over numbers: eight steps are two looks into a table of sixteen. -/
import Derived.Test.YtoofkikenfgbpaaDoorCrcT
namespace Go.Proofs.YtoofkikenfgbpaaDoor

theorem four_eq (x : Nat) (h : x < 65536) : st (st (st (st x))) = four x := by
  have := four_check ⟨x / 256, by omega⟩ ⟨x % 256, by omega⟩
  simpa [Nat.div_add_mod] using this

theorem xor_lt (a b : Nat) (ha : a < 65536) (hb : b < 65536) : a ^^^ b < 65536 := Nat.xor_lt_two_pow (n := 16) ha hb

theorem st_lt (x : Nat) (h : x < 65536) : st x < 65536 := by
  unfold st
  split
  · exact xor_lt _ _ (by omega) (by omega)
  · omega

theorem tab_lt (i : Nat) : tabN.getD i 0 < 65536 := by
  by_cases h : i < 16
  · have : ∀ j : Fin 16, tabN.getD j.val 0 < 65536 := by decide
    exact this ⟨i, h⟩
  · rw [List.getD_eq_getElem?_getD, List.getElem?_eq_none (by simp [tabN]; omega)]; decide

theorem four_lt (x : Nat) (h : x < 65536) : four x < 65536 := xor_lt _ _ (by omega) (tab_lt _)

theorem sts_lt (k x : Nat) (h : x < 65536) : sts k x < 65536 := by
  induction k with
  | zero => exact h
  | succ k ih => exact st_lt _ ih

theorem sts_eight (x : Nat) (h : x < 65536) : sts 8 x = four (four x) := by
  show st (st (st (st (st (st (st (st x))))))) = _
  rw [four_eq x h, four_eq _ (four_lt x h)]

/-- The sum of the first k bytes. -/
def crcTo (zs : List Int) : Nat → Nat
  | 0 => 65535
  | k + 1 => four (four (crcTo zs k ^^^ (zs.getD k 0).toNat))

theorem crcTo_lt (zs : List Int) (hr : ∀ i, 0 ≤ zs.getD i 0 ∧ zs.getD i 0 ≤ 255) : ∀ k, crcTo zs k < 65536
  | 0 => by show 65535 < 65536; decide
  | k + 1 => four_lt _ (four_lt _ (xor_lt _ _ (crcTo_lt zs hr k) (by have := hr k; omega)))

theorem xorI (a b : Nat) (ha : a < 65536) (hb : b < 65536) : bits .xor .i64 (a : Int) (b : Int) = ((a ^^^ b : Nat) : Int) := by
  have h := xor_lt a b ha hb
  have ha' : a % 2 ^ 64 = a := Nat.mod_eq_of_lt (by omega)
  have hb' : b % 2 ^ 64 = b := Nat.mod_eq_of_lt (by omega)
  have e : (BitVec.ofInt 64 (a : Int) ^^^ BitVec.ofInt 64 (b : Int)).toNat = a ^^^ b := by
    rw [BitVec.toNat_xor, BitVec.ofInt_natCast, BitVec.ofInt_natCast, BitVec.toNat_ofNat, BitVec.toNat_ofNat, ha', hb']
  show IntKind.i64.wrap ((BitVec.ofInt 64 (a : Int) ^^^ BitVec.ofInt 64 (b : Int)).toNat : Nat) = _
  rw [e, IntKind.wrap_i64]
  omega

end Go.Proofs.YtoofkikenfgbpaaDoor
