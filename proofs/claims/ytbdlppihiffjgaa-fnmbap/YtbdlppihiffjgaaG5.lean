/- Questions out of bytes: the model. -/
import Derived.Test.YtbdlppihiffjgaaG4
namespace Go.Proofs.Ytbdlppihiffjgaa
open Go.RowKit

set_option linter.unusedVariables false

set_option linter.unusedSimpArgs false

end Go.Proofs.Ytbdlppihiffjgaa
