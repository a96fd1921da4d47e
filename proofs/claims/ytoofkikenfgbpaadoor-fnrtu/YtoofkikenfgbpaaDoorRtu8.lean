/- RtuWait of the model, where a frame ends. -/
import Derived.Test.YtoofkikenfgbpaaDoorRtu7
namespace Go.Proofs.YtoofkikenfgbpaaDoor
open Go.RowKit

set_option linter.unusedVariables false

set_option linter.unusedSimpArgs false

end Go.Proofs.YtoofkikenfgbpaaDoor
