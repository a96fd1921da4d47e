/- Frames on streams come back, and are waited for where they are cut. -/
import Derived.Test.YtbdlppihiffjgaaMb3
namespace Go.Proofs.Ytbdlppihiffjgaa
open Go.RowKit

set_option linter.unusedVariables false

set_option linter.unusedSimpArgs false

theorem mbL_w4 (nu un : Int) (zs ys : List Int) (hl : zs.length ≤ 253) : wAt (mbL nu un zs ++ ys) 4 = (zs.length : Int) + 1 := by
  unfold wAt
  rw [if_pos (by simp [mbL])]
  simp [mbL]
  omega

theorem mbL_w0 (nu un : Int) (zs ys : List Int) (h0 : 0 ≤ nu) (h1 : nu ≤ 65535) : wAt (mbL nu un zs ++ ys) 0 = nu := by
  unfold wAt
  rw [if_pos (by simp [mbL])]
  simp [mbL]
  omega

theorem nx_mb (nu un : Int) (zs ys : List Int) (h0 : 0 ≤ nu) (h1 : nu ≤ 65535) (hz : 1 ≤ zs.length) (hl : zs.length ≤ 253) :
    nxC (mbL nu un zs ++ ys) = 1 ∧ nxN (mbL nu un zs ++ ys) = nu ∧ nxU (mbL nu un zs ++ ys) = un ∧ nxP (mbL nu un zs ++ ys) = zs ∧ nxK (mbL nu un zs ++ ys) = (zs.length : Int) + 7 := by
  have w4 := mbL_w4 nu un zs ys hl
  have w0 := mbL_w0 nu un zs ys h0 h1
  have len : (mbL nu un zs ++ ys).length = zs.length + 7 + ys.length := by simp [mbL_len]
  have M : nxM (mbL nu un zs ++ ys) = true := nxM_yes ⟨by simp [mbL], by simp [mbL], .inr (by rw [w4]; omega)⟩
  have C : nxC (mbL nu un zs ++ ys) = 1 := nxC_good M (by rw [w4, len]; omega)
  obtain ⟨e1, e2, e3, e4⟩ := nx_good C
  refine ⟨C, by rw [e1, w0], by rw [e2]; simp [mbL], ?_, by rw [e4, w4]; omega⟩
  rw [e3, w4, show ((zs.length : Int) + 1).toNat - 1 = zs.length by omega]
  simp [mbL]

theorem getD_takeM (xs : List Int) (k i : Nat) : (xs.take k).getD i 0 = if i < k then xs.getD i 0 else 0 := by
  rw [List.getD_eq_getElem?_getD, List.getElem?_take]
  split <;> simp [List.getD_eq_getElem?_getD]

theorem nx_cut (nu un : Int) (zs : List Int) (k : Nat) (hz : 1 ≤ zs.length) (hl : zs.length ≤ 253) (hk : k < zs.length + 7) : nxC ((mbL nu un zs).take k) = 0 := by
  have len : ((mbL nu un zs).take k).length = k := by rw [List.length_take, mbL_len]; omega
  have w4 : 6 ≤ k → wAt ((mbL nu un zs).take k) 4 = (zs.length : Int) + 1 := by
    intro h
    have := mbL_w4 nu un zs [] hl
    rw [List.append_nil] at this
    unfold wAt at this ⊢
    rw [if_pos (by rw [mbL_len]; omega)] at this
    rw [if_pos (by rw [len]; omega), getD_takeM, getD_takeM, if_pos (by omega), if_pos (by omega)]
    exact this
  have M : nxM ((mbL nu un zs).take k) = true := nxM_yes ⟨by rw [getD_takeM]; split <;> simp [mbL], by rw [getD_takeM]; split <;> simp [mbL], by
    by_cases h : k < 6
    · exact .inl (by rw [len]; exact h)
    · exact .inr (by rw [w4 (by omega)]; omega)⟩
  refine nxC_wait M ?_
  rw [len]
  by_cases h : k < 6
  · exact .inl h
  · exact .inr (by rw [w4 (by omega)]; omega)

end Go.Proofs.Ytbdlppihiffjgaa
