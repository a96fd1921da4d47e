/- The contracts of the laws' own helpers on byte slices. -/
import Derived.Test.YtghmbonbdfchgaaDoorBys0
namespace Go.Proofs.YtghmbonbdfchgaaDoor
open Go.RowKit

end Go.Proofs.YtghmbonbdfchgaaDoor
