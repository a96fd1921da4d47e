/- An answer suits a question: by number. -/
import Derived.Test.YtcnbbknmofonkaaS1
import Derived.Test.YtcnbbknmofonkaaP2
import Derived.Test.YtcnbbknmofonkaaQ6
namespace Go.Proofs.Ytcnbbknmofonkaa
open Go.RowKit

/-- Whether an answer that is right, of the question's kind and no fault, is what the question asks for. -/
def anB (kd pl nn : Int) (m1 m2 : Nat) (qs : List Int) (qb : List Bool) (ap an : Int) (l1 l2 : Nat) (ws : List Int) (bs : List Bool) : Bool :=
  if kd = 1 ∨ kd = 2 then nfB bs nn.toNat && decide (l2 = (nn.toNat + 7) / 8 * 8)
  else if kd = 3 ∨ kd = 4 ∨ kd = 23 then decide ((l1 : Int) = nn)
  else if kd = 5 then decide (ap = pl) && decide (bs = qb)
  else if kd = 6 ∨ kd = 22 then decide (ap = pl) && decide (ws = qs)
  else if kd = 15 then decide (ap = pl) && decide (an = (m2 : Int))
  else decide (ap = pl) && decide (an = (m1 : Int))

/-- Whether an answer suits a question. -/
def suB (kd pl nn wa : Int) (m1 m2 : Nat) (qs : List Int) (qb : List Bool) (kd' fl ap an : Int) (l1 l2 : Nat) (ws : List Int) (bs : List Bool) : Bool :=
  okR kd pl nn wa qs m1 m2 && (okA kd' fl ap an ws l1 l2 && (decide (kd = kd') && (!decide (fl = 0) || anB kd pl nn m1 m2 qs qb ap an l1 l2 ws bs)))

end Go.Proofs.Ytcnbbknmofonkaa
