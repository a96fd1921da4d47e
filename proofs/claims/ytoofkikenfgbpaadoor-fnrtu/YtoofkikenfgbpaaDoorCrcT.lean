/- The sum of Modbus RTU over numbers: at each of 65536 numbers four steps are one look into a table of sixteen. -/
import Derived.WalkKit
namespace Go.Proofs.YtoofkikenfgbpaaDoor

def tabN : List Nat := [0, 52225, 55297, 5120, 61441, 15360, 10240, 58369, 40961, 27648, 30720, 46081, 20480, 39937, 34817, 17408]

/-- One step. -/
def st (x : Nat) : Nat := if x % 2 = 1 then x / 2 ^^^ 40961 else x / 2

/-- Four steps. -/
def four (x : Nat) : Nat := x / 16 ^^^ tabN.getD (x % 16) 0

def sts : Nat → Nat → Nat
  | 0, x => x
  | k + 1, x => st (sts k x)

theorem four_check : ∀ a : Fin 256, ∀ b : Fin 256, st (st (st (st (256 * a.val + b.val)))) = four (256 * a.val + b.val) := by decide +kernel

end Go.Proofs.YtoofkikenfgbpaaDoor
