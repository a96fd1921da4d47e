/- Texts that the proof needs, joined: Tr12. -/
import Derived.Test.YtohikbpolofklaaGreatY9
import Derived.Test.YtohikbpolofklaaGreatY7
set_option linter.unusedVariables false
set_option linter.unusedSimpArgs false
