/- The contracts of the laws' own helpers on byte slices. -/
import Derived.Test.YtgdnfibogkjdoaaBys0
namespace Go.Proofs.Ytgdnfibogkjdoaa
open Go.RowKit

end Go.Proofs.Ytgdnfibogkjdoaa
