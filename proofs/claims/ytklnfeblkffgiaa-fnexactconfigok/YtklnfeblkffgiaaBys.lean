/- The contracts of the laws' own helpers on byte slices. -/
import Derived.Test.YtklnfeblkffgiaaBys0
namespace Go.Proofs.Ytklnfeblkffgiaa
open Go.RowKit

end Go.Proofs.Ytklnfeblkffgiaa
