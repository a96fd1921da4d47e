/- Texts that the proof needs, joined: R3. -/
import Derived.Test.YtohikbpolofklaaGreatY24
import Derived.Test.YtohikbpolofklaaGreatY25
import Derived.Test.YtohikbpolofklaaGreatY31
import Derived.Deep.RegionWith
import Derived.Deep.RegionHeld3
set_option linter.unusedVariables false
set_option linter.unusedSimpArgs false
namespace Go.Proofs.YtohikbpolofklaaGreat
open Go.RowKit
def packL(bs:List Bool):List Int:=(List.range ((bs.length+7) / 8)).map (fun i=>pv bs bs.length i)
end Go.Proofs.YtohikbpolofklaaGreat
