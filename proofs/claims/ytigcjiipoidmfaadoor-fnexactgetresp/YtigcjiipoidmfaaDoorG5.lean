/- Questions out of bytes: the model. -/
import Derived.Test.YtigcjiipoidmfaaDoorG4
namespace Go.Proofs.YtigcjiipoidmfaaDoor
open Go.RowKit

set_option linter.unusedVariables false

set_option linter.unusedSimpArgs false

end Go.Proofs.YtigcjiipoidmfaaDoor
