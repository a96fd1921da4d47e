/- Questions within: a type for each kind. -/
import Derived.Test.YtbdlppihiffjgaaQ1
namespace Go.Proofs.Ytbdlppihiffjgaa
open Go.RowKit

set_option linter.unusedVariables false

end Go.Proofs.Ytbdlppihiffjgaa
