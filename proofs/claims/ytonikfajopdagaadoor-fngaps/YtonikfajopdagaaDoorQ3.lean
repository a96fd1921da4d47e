/- Questions within: a type for each kind. -/
import Derived.Test.YtonikfajopdagaaDoorQ1
namespace Go.Proofs.YtonikfajopdagaaDoor
open Go.RowKit

set_option linter.unusedVariables false

end Go.Proofs.YtonikfajopdagaaDoor
