/- Questions within: a type for each kind. -/
import Derived.Test.YtmcednhinafpeaaQ1
namespace Go.Proofs.Ytmcednhinafpeaa
open Go.RowKit

set_option linter.unusedVariables false

end Go.Proofs.Ytmcednhinafpeaa
