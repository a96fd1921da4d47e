/- The contracts of the laws' own helpers on byte slices. -/
import Derived.Test.YtcnbbknmofonkaaBys0
namespace Go.Proofs.Ytcnbbknmofonkaa
open Go.RowKit

end Go.Proofs.Ytcnbbknmofonkaa
