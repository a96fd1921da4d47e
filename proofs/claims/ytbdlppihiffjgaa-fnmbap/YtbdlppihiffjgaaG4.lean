/- Questions out of bytes: the model. -/
import Derived.Test.YtbdlppihiffjgaaG3
namespace Go.Proofs.Ytbdlppihiffjgaa
open Go.RowKit

set_option linter.unusedVariables false

set_option linter.unusedSimpArgs false

def sW (k : Int) (zs : List Int) : List Int := if k = 6 ∨ k = 22 then wsF zs 3 else if k = 16 then wsF zs 6 else if k = 23 then wsF zs 10 else []

def sB (k : Int) (zs : List Int) : List Bool := if k = 5 then [wAt zs 3 != 0] else if k = 15 then outU (zs.drop 6) (wAt zs 3) else []

def sOk (k : Int) (zs : List Int) : Bool := okR k (wAt zs 1) (gN k zs) (gA k zs) (sW k zs) (sW k zs).length (sB k zs).length && decide (putL k (wAt zs 1) (gN k zs) (gA k zs) (sW k zs) (sB k zs) = zs)

/-- What the model's GetReq ends with, of a kind. -/
def SPz (k : Int) (zs : List Int) (w w' : World) (e : Ending) : Prop :=
  if sOk k zs = true then GP w w' e k (wAt zs 1) (gN k zs) (gA k zs) (sW k zs) (sB k zs) 0 else GP w w' e 0 0 0 0 [] [] 3

theorem spz_yes {zs : List Int} {w w' : World} {e : Ending} {k : Int} (hy : sOk k zs = true) (h : GP w w' e k (wAt zs 1) (gN k zs) (gA k zs) (sW k zs) (sB k zs) 0) : SPz k zs w w' e := by
  unfold SPz; rw [if_pos hy]; exact h

theorem spz_no {zs : List Int} {w w' : World} {e : Ending} {k : Int} (hy : ¬ sOk k zs = true) (h : GP w w' e 0 0 0 0 [] [] 3) : SPz k zs w w' e := by
  unfold SPz; rw [if_neg hy]; exact h

theorem outU_le (ys : List Int) (x : Int) (h : x ≤ 65535) : (outU ys x).length ≤ 65535 := by
  unfold outU
  split
  · rw [ubs_length]; omega
  · simp

theorem outU_nil (x : Int) : outU [] x = [] := by
  unfold outU
  by_cases h : okU [] x = true
  · rw [if_pos h]
    unfold okU at h
    obtain ⟨h0, h1, _⟩ := of_decide_eq_true h
    have : x.toNat = 0 := by simp at h1; omega
    rw [this]; rfl
  · rw [if_neg h]

end Go.Proofs.Ytbdlppihiffjgaa
