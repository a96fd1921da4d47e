/- The contracts of the laws' own helpers on byte slices. -/
import Derived.Test.YtmhdneenjoelfaaGreatBys0
namespace Go.Proofs.YtmhdneenjoelfaaGreat
open Go.RowKit

end Go.Proofs.YtmhdneenjoelfaaGreat
