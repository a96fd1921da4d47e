/- Texts that the proof needs, joined: Tr3. -/
import Derived.Test.YtohikbpolofklaaGreatY8
set_option linter.unusedVariables false
set_option linter.unusedSimpArgs false
