/- Questions within: a type for each kind. -/
import Derived.Test.YtimgohnnapaafaaQ1
namespace Go.Proofs.Ytimgohnnapaafaa
open Go.RowKit

set_option linter.unusedVariables false

end Go.Proofs.Ytimgohnnapaafaa
