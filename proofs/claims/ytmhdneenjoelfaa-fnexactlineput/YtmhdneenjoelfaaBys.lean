/- The contracts of the laws' own helpers on byte slices. -/
import Derived.Test.YtmhdneenjoelfaaBys0
namespace Go.Proofs.Ytmhdneenjoelfaa
open Go.RowKit

end Go.Proofs.Ytmhdneenjoelfaa
