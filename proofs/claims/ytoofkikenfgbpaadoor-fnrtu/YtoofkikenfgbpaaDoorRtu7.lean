/- RtuWait of the model. -/
import Derived.Test.YtoofkikenfgbpaaDoorRtu6
namespace Go.Proofs.YtoofkikenfgbpaaDoor
open Go.RowKit

set_option linter.unusedVariables false

set_option linter.unusedSimpArgs false

end Go.Proofs.YtoofkikenfgbpaaDoor
