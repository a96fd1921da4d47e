/- WordAt, of the program and of its model: the same number and the same word. -/
import Derived.Test.YtcnbbknmofonkaaBys
namespace Go.Proofs.Ytcnbbknmofonkaa
open Go.RowKit

/-- The word of two bytes, as the walk writes it. -/
def word2 (x y : Int) : Int := bits BinOp.or IntKind.i64 (x * 256) y

theorem ret2_eq {k : IntKind} {a b : Int} {v : Value} (h : a = b) : Ending.returned (.tuple #[.int k a, v]) = .returned (.tuple #[.int k b, v]) := by rw [h]

end Go.Proofs.Ytcnbbknmofonkaa
