/- Questions within: a type for each kind. -/
import Derived.Test.YtoofkikenfgbpaaDoorQ1
namespace Go.Proofs.YtoofkikenfgbpaaDoor
open Go.RowKit

set_option linter.unusedVariables false

end Go.Proofs.YtoofkikenfgbpaaDoor
