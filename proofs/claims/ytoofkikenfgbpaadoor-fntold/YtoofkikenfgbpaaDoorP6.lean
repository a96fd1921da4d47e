/- The bytes of an answer: the model. -/
import Derived.Test.YtoofkikenfgbpaaDoorP2
import Derived.Test.YtoofkikenfgbpaaDoorR6
import Derived.Deep.RegionHeld3
namespace Go.Proofs.YtoofkikenfgbpaaDoor
open Go.RowKit

set_option linter.unusedVariables false

set_option linter.unusedSimpArgs false

/-- The bytes of an answer that is right. -/
def putA (kd fl pl nn : Int) (ws : List Int) (bs : List Bool) : List Int :=
  if fl = 0 then
    if kd = 1 ∨ kd = 2 then [kd] ++ [(((bs.length + 7) / 8 : Nat) : Int) % 256] ++ packL bs
    else if kd = 3 ∨ kd = 4 ∨ kd = 23 then [kd] ++ [((2 * ws.length : Nat) : Int) % 256] ++ wbs ws
    else if kd = 5 then 5 :: wbs [pl, bif bs.getD 0 false then 65280 else 0]
    else if kd = 6 ∨ kd = 22 then kd :: wbs (pl :: ws)
    else kd :: wbs [pl, nn]
  else [kd + 128, fl]

def putAV (b : Bool) (kd fl pl nn : Int) (ws : List Int) (bs : List Bool) : List Int := bif b then putA kd fl pl nn ws bs else []

theorem own_lit2 (w : World) (x y : Int) (B : Nat) (hB : B ≤ w.heap.size) : Own (w.alloc (.cells #[.int .u8 x, .int .u8 y] 5)) B (.slice (some ⟨w.heap.size, 0, none⟩) 2 2) [x, y] := by
  refine ⟨by simp, .inr ⟨w.heap.size, 2, #[.int .u8 x, .int .u8 y], rfl, hB, ?_, by simp, by unfold maxLen; omega, by simp, by simp⟩⟩
  show (w.heap.push (.cells #[.int .u8 x, .int .u8 y] 5 (0, 0)))[w.heap.size]? = _
  simp

end Go.Proofs.YtoofkikenfgbpaaDoor
