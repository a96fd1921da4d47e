/- Marking a ring, and looking at the marks. -/
import Derived.Test.YtolfomkllbbmhabRing1
import Derived.Test.YtolfomkllbbmhabMarks2
namespace Go.Proofs.Ytolfomkllbbmhab
open Go.RowKit

theorem grown_tr {w w1 w2 : World} {row : Option Nat} (h1 : w.grownBy w1 row) (h2 : w1.grownBy w2 row) : w.grownBy w2 row :=
  ⟨h2.os.trans h1.os, h2.tape.trans h1.tape, h2.output.trans h1.output, Nat.le_trans h1.size h2.size, fun k hk hne => (h2.block k (Nat.lt_of_lt_of_le hk h1.size) hne).trans (h1.block k hk hne)⟩

end Go.Proofs.Ytolfomkllbbmhab
