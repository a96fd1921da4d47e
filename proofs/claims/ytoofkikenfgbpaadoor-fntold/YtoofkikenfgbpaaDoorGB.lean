/- Answers out of bytes: the model. -/
import Derived.Test.YtoofkikenfgbpaaDoorGA
import Derived.Test.YtoofkikenfgbpaaDoorG4
namespace Go.Proofs.YtoofkikenfgbpaaDoor
open Go.RowKit

set_option linter.unusedVariables false

set_option linter.unusedSimpArgs false

theorem putAV_le (kd fl pl nn : Int) (ws : List Int) (bs : List Bool) (l1 l2 : Nat) (h1 : l1 = ws.length) (h2 : l2 = bs.length) : (putAV (okA kd fl pl nn ws l1 l2) kd fl pl nn ws bs).length ≤ 300 := by
  cases hb : okA kd fl pl nn ws l1 l2
  · simp [putAV]
  · have hk : kindB kd = true := by unfold okA at hb; simp only [Bool.and_eq_true] at hb; exact hb.1
    by_cases h0 : fl = 0
    · subst h0
      obtain rfl | rfl | rfl | rfl | rfl | rfl | rfl | rfl | rfl | rfl := of_decide_eq_true hk
      all_goals (simp [okA, okAK, kindB, inB, zr4] at hb; simp [putAV, putA, wbs, wbs_length, packL_length]; try omega)
    · simp [putAV, putA, h0]

theorem outU_le8 (zs : List Int) (x : Int) (hx : x ≤ 16777216) : (outU zs x).length ≤ 20000000 := by
  unfold outU
  split
  · rw [ubs_length]; omega
  · simp

end Go.Proofs.YtoofkikenfgbpaaDoor
