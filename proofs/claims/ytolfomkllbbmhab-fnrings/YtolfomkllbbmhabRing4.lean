/- RingPut of the model. -/
import Derived.Test.YtolfomkllbbmhabRing3
namespace Go.Proofs.Ytolfomkllbbmhab
open Go.RowKit

theorem putR_take {zs bs : List Int} {k : Nat} (hk : k = putK zs bs) : putR zs bs = zs ++ bs.take k := by
  unfold putR
  subst hk; unfold putK
  rcases Nat.le_total bs.length (300 - zs.length) with hh | hh
  · rw [Nat.min_eq_left hh, List.take_of_length_le hh, List.take_of_length_le (Nat.le_refl _)]
  · rw [Nat.min_eq_right hh]

end Go.Proofs.Ytolfomkllbbmhab
