/- The contracts of the laws' own helpers on byte slices. -/
import Derived.Test.YtgamicfcdkjleabBys0
namespace Go.Proofs.Ytgamicfcdkjleab
open Go.RowKit

end Go.Proofs.Ytgamicfcdkjleab
