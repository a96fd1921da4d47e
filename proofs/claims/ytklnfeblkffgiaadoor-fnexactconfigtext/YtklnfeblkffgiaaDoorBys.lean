/- The contracts of the laws' own helpers on byte slices. -/
import Derived.Test.YtklnfeblkffgiaaDoorBys0
namespace Go.Proofs.YtklnfeblkffgiaaDoor
open Go.RowKit

end Go.Proofs.YtklnfeblkffgiaaDoor
