/- The law of WordAt, walked: both answer the same, and the argument reads as before. -/
import Derived.Test.YtghmbonbdfchgaiWordAt1
namespace Go.Proofs.Ytghmbonbdfchgai
open Go.RowKit

set_option maxHeartbeats 2000000 in
theorem wordAt_law (a : Option Addr) (cap : Nat) (zs : List Int) (k : Int) (w : World) (hs : Sl w a zs) (hr : ∀ z ∈ zs, 0 ≤ z ∧ z ≤ 255) (hl : zs.length ≤ 1048576) :
    Calls Try.prog 3 #[.slice a zs.length cap, .int .i64 k] w fun e w' => e = .returned (.bool true) ∧ Below w.heap.size w w' := by
  by_cases hin : 0 ≤ k ∧ k ≤ (zs.length : Int) - 2
  · obtain ⟨h0, h1⟩ := hin
    obtain ⟨n, rfl⟩ := Int.eq_ofNat_of_zero_le h0
    have r0 := get_range hr n
    have r1 := get_range hr (n + 1)
    go_enter Try.func3, Try.ntmps3
    go_wp2_with fail
    refine (toByteS_any a _ cap zs _ rfl hs (by omega)).mono ?_
    rintro e w1 ⟨rfl, q1, b1⟩
    go_wp2_with fail
    refine (specWordAt_in _ 0 _ _ (zs.getD n 0) (zs.getD (n + 1) 0) n _ (by omega) (by rw [Nat.zero_add]; exact q1.cell (by omega)) (by rw [Nat.zero_add]; exact q1.cell (by omega)) r0.1 r0.2 r1.1 r1.2 (by omega)).mono ?_
    rintro e w2 ⟨rfl, n2, rfl⟩
    have b2 := bel_drewN b1 n2
    clear b1 q1
    go_wp2_with fail
    refine (toByteS_any a _ cap zs _ rfl (hs.below b2) (by omega)).mono ?_
    rintro e w3 ⟨rfl, q3, b3'⟩
    have b3 := b2.trans (b3'.mono b2.size)
    clear b3' b2
    go_wp2_with fail
    refine (implWordAt_in _ 0 _ _ (zs.getD n 0) (zs.getD (n + 1) 0) n _ (by omega) (by rw [Nat.zero_add]; exact q3.cell (by omega)) (by rw [Nat.zero_add]; exact q3.cell (by omega)) r0.1 r0.2 r1.1 r1.2 (by omega)).mono ?_
    rintro e w4 ⟨rfl, n4, rfl⟩
    have b4 := bel_drewN b3 n4
    have q4 := row_below q3 (bel_drewN (Below.refl _ _) n4)
    clear b3 q3
    go_wp2_with fail
    refine (toByteS_any a _ cap zs _ rfl (hs.below b4) (by omega)).mono ?_
    rintro e w5 ⟨rfl, q5, b5'⟩
    have b5 := b4.trans (b5'.mono b4.size)
    have q6 := row_below q4 b5'
    clear b5' b4 q4
    go_wp2_with fail
    refine (eqByteS_true _ _ _ _ _ _ zs _ rfl rfl (Sl.ofRow q6 (Nat.le_refl _)) (Sl.ofRow q5 (Nat.le_refl _)) (by omega)).mono ?_
    rintro e w6 ⟨rfl, n6, rfl⟩
    have b6 := bel_drewN b5 n6
    clear b5 q5 q6 hs
    go_wp2
    go_ret
    exact ⟨rfl, b6⟩
  · have hout : k < 0 ∨ (zs.length : Int) - 2 < k := by omega
    clear hin
    go_enter Try.func3, Try.ntmps3
    go_wp2_with fail
    refine (toByteS_any a _ cap zs _ rfl hs (by omega)).mono ?_
    rintro e w1 ⟨rfl, q1, b1⟩
    go_wp2_with fail
    refine (specWordAt_out _ _ _ _ _ hout (by omega)).mono ?_
    rintro e w2 ⟨rfl, n2, rfl⟩
    have b2 := bel_drewN b1 n2
    clear b1 q1
    go_wp2_with fail
    refine (toByteS_any a _ cap zs _ rfl (hs.below b2) (by omega)).mono ?_
    rintro e w3 ⟨rfl, q3, b3'⟩
    have b3 := b2.trans (b3'.mono b2.size)
    clear b3' b2
    go_wp2_with fail
    refine (implWordAt_out _ _ _ _ _ hout (by omega)).mono ?_
    rintro e w4 ⟨rfl, n4, rfl⟩
    have b4 := bel_drewN b3 n4
    have q4 := row_below q3 (bel_drewN (Below.refl _ _) n4)
    clear b3 q3
    go_wp2_with fail
    refine (toByteS_any a _ cap zs _ rfl (hs.below b4) (by omega)).mono ?_
    rintro e w5 ⟨rfl, q5, b5'⟩
    have b5 := b4.trans (b5'.mono b4.size)
    have q6 := row_below q4 b5'
    clear b5' b4 q4
    go_wp2_with fail
    refine (eqByteS_true _ _ _ _ _ _ zs _ rfl rfl (Sl.ofRow q6 (Nat.le_refl _)) (Sl.ofRow q5 (Nat.le_refl _)) (by omega)).mono ?_
    rintro e w6 ⟨rfl, n6, rfl⟩
    have b6 := bel_drewN b5 n6
    clear b5 q5 q6 hs
    go_wp2
    go_ret
    exact ⟨rfl, b6⟩
end Go.Proofs.Ytghmbonbdfchgai
