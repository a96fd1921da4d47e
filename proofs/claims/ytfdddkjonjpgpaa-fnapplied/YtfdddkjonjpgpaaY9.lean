/- Texts that the proof needs, joined: Tr3. -/
import Derived.Test.YtfdddkjonjpgpaaY8
namespace Go.Proofs.Ytfdddkjonjpgpaa
open Go.RowKit Go.Joins
set_option linter.unusedVariables false
set_option linter.unusedSimpArgs false
end Go.Proofs.Ytfdddkjonjpgpaa
