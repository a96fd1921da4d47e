/- Questions as bytes: the model. -/
import Derived.Test.YtigcjiipoidmfaaDoorR4
namespace Go.Proofs.YtigcjiipoidmfaaDoor
open Go.RowKit

set_option linter.unusedVariables false

set_option linter.unusedSimpArgs false

theorem byte_wrap (l1 : Nat) (h : l1 ≤ 1000000) : IntKind.u8.wrap (IntKind.i64.wrap (2 * (l1 : Int))) = ((2 * l1 : Nat) : Int) % 256 := by
  rw [IntKind.wrap_i64, IntKind.wrap_u8]
  omega

/-- The bytes of a question that is right. -/
def putL (kd pl nn wa : Int) (ws : List Int) (bs : List Bool) : List Int :=
  if kd = 5 then 5 :: wbs [pl, bif bs.getD 0 false then 65280 else 0]
  else if kd = 6 ∨ kd = 22 then kd :: wbs (pl :: ws)
  else if kd = 15 then (15 :: wbs [pl, (bs.length : Int)]) ++ [(((bs.length + 7) / 8 : Nat) : Int) % 256] ++ packL bs
  else if kd = 16 then (16 :: wbs [pl, (ws.length : Int)]) ++ [((2 * ws.length : Nat) : Int) % 256] ++ wbs ws
  else if kd = 23 then (23 :: wbs [pl, nn, wa, (ws.length : Int)]) ++ [((2 * ws.length : Nat) : Int) % 256] ++ wbs ws
  else kd :: wbs [pl, nn]

def putV (b : Bool) (kd pl nn wa : Int) (ws : List Int) (bs : List Bool) : List Int := bif b then putL kd pl nn wa ws bs else []

/-- Bytes in memory of the call's own, or none. -/
def NwO (w w' : World) (e : Ending) (zs : List Int) : Prop := ∃ a c n, e = .returned (.slice a n c) ∧ n = zs.length ∧ Own w' w.heap.size (.slice a n c) zs ∧ Below w.heap.size w w'

theorem Nw.o {w w' : World} {e : Ending} {zs : List Int} (h : Nw w w' e zs) : NwO w w' e zs := by
  obtain ⟨g, c, n, h⟩ := h
  exact ⟨_, c, n, h⟩

end Go.Proofs.YtigcjiipoidmfaaDoor
