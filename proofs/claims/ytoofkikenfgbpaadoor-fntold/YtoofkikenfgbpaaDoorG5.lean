/- Questions out of bytes: the model. -/
import Derived.Test.YtoofkikenfgbpaaDoorG4
namespace Go.Proofs.YtoofkikenfgbpaaDoor
open Go.RowKit

set_option linter.unusedVariables false

set_option linter.unusedSimpArgs false

end Go.Proofs.YtoofkikenfgbpaaDoor
