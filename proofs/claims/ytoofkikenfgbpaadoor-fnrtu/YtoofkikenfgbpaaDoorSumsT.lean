/- The lower byte turned into its own number is nothing: at each of 65536 numbers. -/
import Derived.WalkKit
namespace Go.Proofs.YtoofkikenfgbpaaDoor

theorem low_check : ∀ a : Fin 256, ∀ b : Fin 256, (256 * a.val + b.val) ^^^ b.val = 256 * a.val := by decide +kernel

end Go.Proofs.YtoofkikenfgbpaaDoor
