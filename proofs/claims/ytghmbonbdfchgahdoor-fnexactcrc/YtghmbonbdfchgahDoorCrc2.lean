/- The law of Crc, walked: both answer the same, and the argument reads as before. -/
import Derived.Test.YtghmbonbdfchgahDoorCrc1
namespace Go.Proofs.YtghmbonbdfchgahDoor
open Go.RowKit

set_option maxHeartbeats 2000000 in
theorem crc_law (a : Option Addr) (cap : Nat) (zs : List Int) (w : World) (hw : 0 < w.heap.size) (hT : Tab w) (hs : Sl w a zs) (hr : ∀ z ∈ zs, 0 ≤ z ∧ z ≤ 255) (hl : zs.length ≤ 1048576) :
    Calls Tryd.prog 3 #[.slice a zs.length cap] w fun e w' => e = .returned (.bool true) ∧ Below w.heap.size w w' := by
  have HT : Hid (Tab w) := hT
  clear hT
  generalize hc : crcTo zs zs.length = c
  have HC : Hid (crcTo zs zs.length = c) := hc
  clear hc
  go_enter Tryd.func3, Tryd.ntmps3
  go_wp2_with fail
  refine (toByteS_any a _ cap zs _ rfl hs (by omega)).mono ?_
  rintro e w1 ⟨rfl, q1, b1⟩
  go_wp2_with fail
  refine (specCrc_any _ _ _ zs _ rfl (Sl.ofRow q1 (Nat.le_refl _)) hr (by omega)).mono ?_
  rintro e w2 ⟨rfl, e2⟩
  subst e2
  rw [HC.out]
  clear q1
  go_wp2_with fail
  refine (toByteS_any a _ cap zs _ rfl (hs.below b1) (by omega)).mono ?_
  rintro e w3 ⟨rfl, q3, b3'⟩
  have b3 := b1.trans (b3'.mono b1.size)
  clear b3' b1
  go_wp2_with fail
  refine (implCrc_any _ _ _ zs _ rfl (HT.out.below b3 hw) (Sl.ofRow q3 (Nat.le_refl _)) hr (by omega)).mono ?_
  rintro e w4 ⟨rfl, e4⟩
  subst e4
  rw [HC.out]
  go_wp2_with fail
  refine (toByteS_any a _ cap zs _ rfl (hs.below b3) (by omega)).mono ?_
  rintro e w5 ⟨rfl, q5, b5'⟩
  have b5 := b3.trans (b5'.mono b3.size)
  have q6 := row_below q3 b5'
  clear b5' b3 q3
  go_wp2_with fail
  refine (eqByteS_true _ _ _ _ _ _ zs _ rfl rfl (Sl.ofRow q6 (Nat.le_refl _)) (Sl.ofRow q5 (Nat.le_refl _)) (by omega)).mono ?_
  rintro e w6 ⟨rfl, n6, rfl⟩
  have b6 := bel_drewN b5 n6
  clear b5 q5 q6 hs
  go_wp2
  go_ret
  exact ⟨rfl, b6⟩
end Go.Proofs.YtghmbonbdfchgahDoor
