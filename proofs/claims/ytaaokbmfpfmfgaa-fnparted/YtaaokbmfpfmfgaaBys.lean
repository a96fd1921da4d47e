/- The contracts of the laws' own helpers on byte slices. -/
import Derived.Test.YtaaokbmfpfmfgaaBys0
namespace Go.Proofs.Ytaaokbmfpfmfgaa
open Go.RowKit

end Go.Proofs.Ytaaokbmfpfmfgaa
