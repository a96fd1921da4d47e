/- Words masked, bit by bit. -/
import Derived.Test.YtmbkfoemhnhoiaaDev8
import Derived.Test.YtmbkfoemhnhoiaaBits
namespace Go.Proofs.Ytmbkfoemhnhoiaa
open Go.RowKit

/-- A word's bits. -/
abbrev wv (h : Int) : BitVec 64 := BitVec.ofInt 64 h

theorem wv_nat {h : Int} (h0 : 0 ≤ h) (h1 : h ≤ 65535) : ((wv h).toNat : Int) = h := by
  unfold wv
  rw [BitVec.toNat_ofInt]
  have e : h % ((2 ^ 64 : Nat) : Int) = h := Int.emod_eq_of_lt h0 (by omega)
  rw [e]; omega

theorem wrap_sm {n : Nat} (h : n < 65536) : IntKind.i64.wrap (n : Int) = (n : Int) := by rw [IntKind.wrap_i64]; omega

theorem wv_back {v : BitVec 64} : wv (v.toNat : Int) = v := by
  simp [wv, BitVec.ofInt_natCast]

theorem and_lt {a b : BitVec 64} (h : a.toNat < 65536) : (a &&& b).toNat < 65536 := by
  rw [BitVec.toNat_and]; exact Nat.lt_of_le_of_lt Nat.and_le_left h

theorem or_lt {a b : BitVec 64} (h : a.toNat < 65536) (h' : b.toNat < 65536) : (a ||| b).toNat < 65536 := by
  rw [BitVec.toNat_or]; exact Nat.or_lt_two_pow (n := 16) h h'

/-- The masked word's bits. -/
def mv (h x y : BitVec 64) : BitVec 64 := (h &&& x) ||| (y &&& ~~~x)

theorem wv_lt {h : Int} (h0 : 0 ≤ h) (h1 : h ≤ 65535) : (wv h).toNat < 65536 := by have := wv_nat h0 h1; omega

theorem mskI_eq {h x y : Int} (h0 : 0 ≤ h ∧ h ≤ 65535) (y0 : 0 ≤ y ∧ y ≤ 65535) : mskI h x y = ((mv (wv h) (wv x) (wv y)).toNat : Int) := by
  have a1 : bits .and .i64 h x = ((wv h &&& wv x).toNat : Int) := wrap_sm (and_lt (wv_lt h0.1 h0.2))
  have a2 : bits .andNot .i64 y x = ((wv y &&& ~~~(wv x)).toNat : Int) := wrap_sm (and_lt (wv_lt y0.1 y0.2))
  unfold mskI
  rw [a1, a2]
  have a3 : bits .or .i64 ((wv h &&& wv x).toNat : Int) ((wv y &&& ~~~(wv x)).toNat : Int) = ((wv ((wv h &&& wv x).toNat : Int) ||| wv ((wv y &&& ~~~(wv x)).toNat : Int)).toNat : Int) := by
    refine wrap_sm ?_
    show ((wv ((wv h &&& wv x).toNat : Int)) ||| wv ((wv y &&& ~~~(wv x)).toNat : Int)).toNat < 65536
    rw [wv_back, wv_back]
    exact or_lt (and_lt (wv_lt h0.1 h0.2)) (and_lt (wv_lt y0.1 y0.2))
  rw [a3, wv_back, wv_back]; rfl

theorem mv_lt {h x y : BitVec 64} (h0 : h.toNat < 65536) (y0 : y.toNat < 65536) : (mv h x y).toNat < 65536 := or_lt (and_lt h0) (and_lt y0)

theorem mskI_rg {h x y : Int} (h0 : 0 ≤ h ∧ h ≤ 65535) (y0 : 0 ≤ y ∧ y ≤ 65535) : 0 ≤ mskI h x y ∧ mskI h x y ≤ 65535 := by
  rw [mskI_eq h0 y0]
  have := mv_lt (x := wv x) (wv_lt h0.1 h0.2) (wv_lt y0.1 y0.2)
  omega

theorem mv_again (h x y : BitVec 64) : mv (mv h x y) x y = mv h x y := by
  apply BitVec.eq_of_getLsbD_eq
  intro i hi
  simp [mv]
  cases h.getLsbD i <;> cases x.getLsbD i <;> cases y.getLsbD i <;> simp [hi]

theorem mskI_again {h x y : Int} (h0 : 0 ≤ h ∧ h ≤ 65535) (y0 : 0 ≤ y ∧ y ≤ 65535) : mskI (mskI h x y) x y = mskI h x y := by
  rw [mskI_eq (mskI_rg h0 y0) y0, mskI_eq h0 y0, wv_back, mv_again]

theorem sm_bit {v : BitVec 64} (h : v.toNat < 65536) {i : Nat} (hi : 16 ≤ i) : v.getLsbD i = false := by
  rw [BitVec.getLsbD]
  exact Nat.testBit_lt_two_pow (Nat.lt_of_lt_of_le h (Nat.pow_le_pow_right (n := 2) (by decide) hi))

theorem ones_bit (i : Nat) (hi : i < 16) : (wv 65535).getLsbD i = true := by
  have h : ∀ i : Fin 16, (wv 65535).getLsbD i = true := by decide
  exact h ⟨i, hi⟩

theorem mskI_ones {h y : Int} (h0 : 0 ≤ h ∧ h ≤ 65535) (y0 : 0 ≤ y ∧ y ≤ 65535) : mskI h 65535 y = h := by
  rw [mskI_eq h0 y0]
  have e : mv (wv h) (wv 65535) (wv y) = wv h := by
    apply BitVec.eq_of_getLsbD_eq
    intro i hi
    simp only [mv, BitVec.getLsbD_or, BitVec.getLsbD_and, BitVec.getLsbD_not]
    by_cases h16 : i < 16
    · rw [ones_bit i h16]; simp
    · rw [sm_bit (wv_lt h0.1 h0.2) (by omega), sm_bit (wv_lt y0.1 y0.2) (by omega)]; simp
  rw [e, wv_nat h0.1 h0.2]

theorem mskI_none {h y : Int} (h0 : 0 ≤ h ∧ h ≤ 65535) (y0 : 0 ≤ y ∧ y ≤ 65535) : mskI h 0 y = y := by
  rw [mskI_eq h0 y0]
  have e : mv (wv h) (wv 0) (wv y) = wv y := by
    apply BitVec.eq_of_getLsbD_eq
    intro i hi
    have z : (wv 0).getLsbD i = false := by show (0#64 : BitVec 64).getLsbD i = false; simp
    simp only [mv, BitVec.getLsbD_or, BitVec.getLsbD_and, BitVec.getLsbD_not, z]
    simp [hi]
  rw [e, wv_nat y0.1 y0.2]

/-- A bit of a word, as the law asks for it. -/
def bitI (h : Int) (k : Nat) : Int := h / ((2 ^ k : Nat) : Int) % 2

theorem bitI_eq {h : Int} (h0 : 0 ≤ h ∧ h ≤ 65535) (k : Nat) : bitI h k = if (wv h).getLsbD k then 1 else 0 := by
  have e : (wv h).getLsbD k = (wv h).toNat.testBit k := rfl
  rw [e, Nat.testBit_eq_decide_div_mod_eq]
  unfold bitI
  have hn := wv_nat h0.1 h0.2
  have e2 : h / ((2 ^ k : Nat) : Int) % 2 = (((wv h).toNat / 2 ^ k % 2 : Nat) : Int) := by
    rw [Int.natCast_emod, Int.natCast_ediv, hn]; rfl
  rw [e2]
  have hlt : (wv h).toNat / 2 ^ k % 2 < 2 := Nat.mod_lt _ (by decide)
  by_cases q : (wv h).toNat / 2 ^ k % 2 = 1
  · rw [q]; simp
  · have q0 : (wv h).toNat / 2 ^ k % 2 = 0 := by omega
    rw [q0]; simp

/-- What the law asks of a masked word's bits. -/
theorem mskI_bit {h x y : Int} (h0 : 0 ≤ h ∧ h ≤ 65535) (x0 : 0 ≤ x ∧ x ≤ 65535) (y0 : 0 ≤ y ∧ y ≤ 65535) (k : Nat) (hk : k < 16) : bitI (mskI h x y) k = if bitI x k = 0 then bitI y k else bitI h k := by
  rw [bitI_eq (mskI_rg h0 y0), bitI_eq x0, bitI_eq y0, bitI_eq h0, mskI_eq h0 y0, wv_back]
  have h64 : k < 64 := by omega
  simp only [mv, BitVec.getLsbD_or, BitVec.getLsbD_and, BitVec.getLsbD_not, h64]
  cases (wv h).getLsbD k <;> cases (wv x).getLsbD k <;> cases (wv y).getLsbD k <;> rfl

theorem and1 (n : Int) : bits .and .i64 n 1 = n % 2 := i64_and_mask n 1 1 (by decide) (by decide)

theorem bit_form (h : Int) (k : Nat) : bits .and .i64 (h / 2 ^ k) 1 = bitI h k := by
  rw [and1]; unfold bitI; simp

end Go.Proofs.Ytmbkfoemhnhoiaa
