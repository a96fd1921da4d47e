/- Texts that the proof needs, joined: S0. -/
import Derived.Test.YtegckbfbmbiogaaV9
import Derived.Test.YtegckbfbmbiogaaV13
import Derived.Test.YtegckbfbmbiogaaV12
namespace Go.Proofs.Ytegckbfbmbiogaa
open Go.RowKit
def anB (kd pl nn : Int) (m1 m2 : Nat) (qs : List Int) (qb : List Bool) (ap an : Int) (l1 l2 : Nat) (ws : List Int) (bs : List Bool) : Bool :=
  if kd = 1 ∨ kd = 2 then nfB bs nn.toNat && decide (l2 = (nn.toNat + 7) / 8 * 8)
  else if kd = 3 ∨ kd = 4 ∨ kd = 23 then decide ((l1 : Int) = nn)
  else if kd = 5 then decide (ap = pl) && decide (bs = qb)
  else if kd = 6 ∨ kd = 22 then decide (ap = pl) && decide (ws = qs)
  else if kd = 15 then decide (ap = pl) && decide (an = (m2 : Int))
  else decide (ap = pl) && decide (an = (m1 : Int))
def suB (kd pl nn wa : Int) (m1 m2 : Nat) (qs : List Int) (qb : List Bool) (kd' fl ap an : Int) (l1 l2 : Nat) (ws : List Int) (bs : List Bool) : Bool :=
  okR kd pl nn wa qs m1 m2 && (okA kd' fl ap an ws l1 l2 && (decide (kd = kd') && (!decide (fl = 0) || anB kd pl nn m1 m2 qs qb ap an l1 l2 ws bs)))
end Go.Proofs.Ytegckbfbmbiogaa
