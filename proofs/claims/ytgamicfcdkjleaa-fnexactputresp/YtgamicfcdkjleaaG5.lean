/- Questions out of bytes: the model. -/
import Derived.Test.YtgamicfcdkjleaaG4
namespace Go.Proofs.Ytgamicfcdkjleaa
open Go.RowKit

set_option linter.unusedVariables false

set_option linter.unusedSimpArgs false

end Go.Proofs.Ytgamicfcdkjleaa
