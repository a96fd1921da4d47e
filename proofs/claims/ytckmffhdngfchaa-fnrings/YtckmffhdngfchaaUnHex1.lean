/- UnHex of the model: bytes of digits, two and two. -/
import Derived.Test.YtckmffhdngfchaaHex1
import Derived.Lib.OthersKept
namespace Go.Proofs.Ytckmffhdngfchaa
open Go.RowKit

/-- The worth of a digit, -1 of what is none. -/
def dg (c : Int) : Int := if 48 ≤ c ∧ c ≤ 57 then c - 48 else if 65 ≤ c ∧ c ≤ 70 then c - 55 else -1

theorem dg_bd (c : Int) : -1 ≤ dg c ∧ dg c ≤ 15 := by unfold dg; split <;> (try split) <;> omega

theorem dg_ascii (c : Int) (h : 0 ≤ dg c) : 48 ≤ c ∧ c ≤ 70 := by
  unfold dg at h
  split at h
  · omega
  · split at h <;> omega

end Go.Proofs.Ytckmffhdngfchaa
