/- Questions within: a type for each kind. -/
import Derived.Test.YtigcjiipoidmfaaDoorQ1
namespace Go.Proofs.YtigcjiipoidmfaaDoor
open Go.RowKit

set_option linter.unusedVariables false

end Go.Proofs.YtigcjiipoidmfaaDoor
