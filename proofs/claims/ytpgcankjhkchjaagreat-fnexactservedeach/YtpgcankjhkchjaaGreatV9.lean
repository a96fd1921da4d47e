/- Texts that the proof needs, joined: Q3. -/
import Derived.Test.YtpgcankjhkchjaaGreatV7
namespace Go.Proofs.YtpgcankjhkchjaaGreat
open Go.RowKit
set_option linter.unusedVariables false
end Go.Proofs.YtpgcankjhkchjaaGreat
