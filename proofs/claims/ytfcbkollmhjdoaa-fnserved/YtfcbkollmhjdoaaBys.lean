/- The contracts of the laws' own helpers on byte slices. -/
import Derived.Test.YtfcbkollmhjdoaaBys0
namespace Go.Proofs.Ytfcbkollmhjdoaa
open Go.RowKit

end Go.Proofs.Ytfcbkollmhjdoaa
