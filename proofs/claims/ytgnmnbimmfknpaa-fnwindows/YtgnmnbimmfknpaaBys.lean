/- The contracts of the laws' own helpers on byte slices. -/
import Derived.Test.YtgnmnbimmfknpaaBys0
namespace Go.Proofs.Ytgnmnbimmfknpaa
open Go.RowKit

end Go.Proofs.Ytgnmnbimmfknpaa
