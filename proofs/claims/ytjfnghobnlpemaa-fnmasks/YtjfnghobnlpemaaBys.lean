/- The contracts of the laws' own helpers on byte slices. -/
import Derived.Test.YtjfnghobnlpemaaBys0
namespace Go.Proofs.Ytjfnghobnlpemaa
open Go.RowKit

end Go.Proofs.Ytjfnghobnlpemaa
