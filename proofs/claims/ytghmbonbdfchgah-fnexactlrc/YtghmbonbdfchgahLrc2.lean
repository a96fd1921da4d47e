/- The law of Lrc, walked: both answer the same, and the argument reads as before. -/
import Derived.Test.YtghmbonbdfchgahLrc1
namespace Go.Proofs.Ytghmbonbdfchgah
open Go.RowKit

set_option maxHeartbeats 2000000 in
theorem lrc_law (a : Option Addr) (cap : Nat) (zs : List Int) (w : World) (hs : Sl w a zs) (hr : ∀ z ∈ zs, 0 ≤ z ∧ z ≤ 255) (hl : zs.length ≤ 1048576) :
    Calls Try.prog 3 #[.slice a zs.length cap] w fun e w' => e = .returned (.bool true) ∧ Below w.heap.size w w' := by
  go_enter Try.func3, Try.ntmps3
  go_wp2_with fail
  refine (toByteS_any a _ cap zs _ rfl hs (by omega)).mono ?_
  rintro e w1 ⟨rfl, q1, b1⟩
  go_wp2_with fail
  refine (specLrc_any _ _ zs _ (Sl.ofRow q1 (Nat.le_refl _)) hr (by omega)).mono ?_
  rintro e w2 ⟨rfl, e2⟩
  subst e2
  clear q1
  go_wp2_with fail
  refine (toByteS_any a _ cap zs _ rfl (hs.below b1) (by omega)).mono ?_
  rintro e w3 ⟨rfl, q3, b3'⟩
  have b3 := b1.trans (b3'.mono b1.size)
  clear b3' b1
  go_wp2_with fail
  refine (implLrc_any _ _ zs _ (Sl.ofRow q3 (Nat.le_refl _)) hr (by omega)).mono ?_
  rintro e w4 ⟨rfl, e4⟩
  subst e4
  go_wp2_with fail
  refine (toByteS_any a _ cap zs _ rfl (hs.below b3) (by omega)).mono ?_
  rintro e w5 ⟨rfl, q5, b5'⟩
  have b5 := b3.trans (b5'.mono b3.size)
  have q6 := row_below q3 b5'
  clear b5' b3 q3
  go_wp2_with fail
  refine (eqByteS_true _ _ _ _ _ _ zs _ rfl rfl (Sl.ofRow q6 (Nat.le_refl _)) (Sl.ofRow q5 (Nat.le_refl _)) (by omega)).mono ?_
  rintro e w6 ⟨rfl, n6, rfl⟩
  have b6 := bel_drewN b5 n6
  clear b5 q5 q6 hs
  go_wp2
  go_ret
  exact ⟨rfl, b6⟩
end Go.Proofs.Ytghmbonbdfchgah
