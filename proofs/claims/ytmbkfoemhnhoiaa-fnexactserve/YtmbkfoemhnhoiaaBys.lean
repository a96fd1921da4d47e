/- The contracts of the laws' own helpers on byte slices. -/
import Derived.Test.YtmbkfoemhnhoiaaBys0
namespace Go.Proofs.Ytmbkfoemhnhoiaa
open Go.RowKit

end Go.Proofs.Ytmbkfoemhnhoiaa
