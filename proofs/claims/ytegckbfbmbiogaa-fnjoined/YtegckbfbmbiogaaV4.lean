/- Texts that the proof needs, joined: Sr7. -/
import Derived.Test.YtegckbfbmbiogaaV3
import Derived.Deep.Cut
import Derived.Deep.CutRange
import Derived.Deep.DeepCutAuto
namespace Go.Proofs.Ytegckbfbmbiogaa
open Go.RowKit
set_option linter.unusedVariables false
set_option linter.unusedSimpArgs false
end Go.Proofs.Ytegckbfbmbiogaa
