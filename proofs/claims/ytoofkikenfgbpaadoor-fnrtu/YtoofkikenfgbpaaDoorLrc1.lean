/- Lrc, of the program and of its model: one number. -/
import Derived.Test.YtoofkikenfgbpaaDoorBys
namespace Go.Proofs.YtoofkikenfgbpaaDoor
open Go.RowKit

/-- The sum of the first k bytes, modulo 256. -/
def lsum (zs : List Int) (k : Nat) : Int := (zs.take k).sum % 256

theorem lsum_zero (zs : List Int) : lsum zs 0 = 0 := by simp [lsum]

theorem lsum_bd (zs : List Int) (k : Nat) : 0 ≤ lsum zs k ∧ lsum zs k ≤ 255 := by unfold lsum; omega

theorem lsum_succ (zs : List Int) (k : Nat) (h : k < zs.length) : lsum zs (k + 1) = (lsum zs k + zs.getD k 0) % 256 := by
  unfold lsum
  rw [List.take_succ_eq_append_getElem h, List.sum_append, List.getD_eq_getElem?_getD, List.getElem?_eq_getElem h]
  simp

/-- What Lrc answers. -/
def lres (zs : List Int) : Int := (256 - lsum zs zs.length) % 256

end Go.Proofs.YtoofkikenfgbpaaDoor
