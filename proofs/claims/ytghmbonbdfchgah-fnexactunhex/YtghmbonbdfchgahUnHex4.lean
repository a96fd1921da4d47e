/- The law of UnHex, walked: both answer the same, in memory of their own. -/
import Derived.Test.YtghmbonbdfchgahUnHex3
import Derived.Test.YtghmbonbdfchgahMarks
namespace Go.Proofs.Ytghmbonbdfchgah
open Go.RowKit

theorem outS_le (s : ByteArray) : (outS s).length ≤ s.size := by
  unfold outS
  split
  · rw [bytesTo_length]; omega
  · simp

set_option maxHeartbeats 4000000 in
theorem unHex_law (s : ByteArray) (w : World) (hl : s.size ≤ 1048576) :
    Calls Try.prog 5 #[.string s] w fun e w' => e = .returned (.bool true) ∧ Below w.heap.size w w' := by
  have hle := outS_le s
  have hsp := fun w => specUnHex_any s w (by omega)
  have him := fun w => implUnHex_any s w (by omega)
  unfold Ends at hsp him
  generalize outS s = R at *
  generalize okS s = ok at *
  obtain ⟨n, hn⟩ : ∃ n, n = R.length := ⟨_, rfl⟩
  rw [← hn] at hsp him hle
  have Hn : Hid (n = R.length) := hn
  have Hsp := hide hsp
  have Him := hide him
  clear hn hsp him
  go_enter Try.func5, Try.ntmps5
  go_wp2_with fail
  refine (unhide Hsp _).mono ?_
  rintro e w1 ⟨a0, c0, rfl, o1, b1⟩
  go_wp2_with fail
  refine (unhide Him _).mono ?_
  rintro e w2 ⟨a1, c1, rfl, g2, b2'⟩
  have b2 := b1.trans (b2'.mono b1.size)
  have o2 := o1.below b2'
  have ne := (own_ne o1 g2 (Nat.le_refl _)).1
  have hB : w.heap.size ≤ w1.heap.size := b1.size
  clear b1 b2' o1
  go_wp2_with fail
  refine (eqByteS_true _ _ _ _ _ _ R _ Hn.out Hn.out g2.sl.2 o2.sl.2 (by have := Hn.out; omega)).mono ?_
  rintro e w3 ⟨rfl, n3, rfl⟩
  have b3 := bel_drewN b2 n3
  have o3 := o2.below (drew_refl _ n3)
  have g3 := g2.below (drew_refl _ n3)
  clear b2 o2 g2
  generalize w2.drewN n3 = w3 at *
  go_wp2_with fail
  refine (markByteS_any _ _ _ _ R _ g3 (by omega)).mono ?_
  rintro e w4 ⟨rfl, g4, gr4⟩
  have b4 := below_own b3 g3 gr4 hB b3.size
  have o4 := o3.kept gr4 ne
  clear b3 o3 g3 gr4 ne
  go_wp2_with fail
  refine (heldByteS_any _ _ _ _ g4.sl.2 (by omega)).mono ?_
  rintro e w5 ⟨rfl, e5⟩
  subst e5
  go_wp2_with fail
  refine (unhide Him _).mono ?_
  rintro e w6 ⟨a2, c2, rfl, h6, b6'⟩
  have b6 := b4.trans (b6'.mono b4.size)
  have o6 := o4.below b6'
  have g6 := g4.below b6'
  clear b4 o4 g4 b6'
  go_wp2_with fail
  refine (eqByteS_true _ _ _ _ _ _ R _ Hn.out Hn.out h6.sl.2 o6.sl.2 (by have := Hn.out; omega)).mono ?_
  rintro e w7 ⟨rfl, n7, rfl⟩
  have b7 := bel_drewN b6 n7
  have g7 := g6.below (drew_refl _ n7)
  clear b6 o6 g6 h6
  generalize w6.drewN n7 = w7 at *
  go_wp2_with fail
  refine (heldByteS_any _ _ _ _ g7.sl.2 (by omega)).mono ?_
  rintro e w8 ⟨rfl, e8⟩
  subst e8
  clear g7
  go_wp2
  go_ret
  exact ⟨rfl, b7⟩
end Go.Proofs.Ytghmbonbdfchgah
