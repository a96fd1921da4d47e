/- The law of NextMbap, walked: both answer the same, bytes in memory of their own. -/
import Derived.Test.YtbdlppihiffjgaaMb4
namespace Go.Proofs.Ytbdlppihiffjgaa
open Go.RowKit

set_option linter.unusedVariables false

theorem nxP_len (zs : List Int) : (nxP zs).length ≤ 256 := by
  by_cases h : nxC zs = 1
  · rw [(nx_good h).2.2.1]
    have := nxC_one h
    simp; omega
  · rw [(nx_bad rfl h).2.2.1]; simp

set_option maxHeartbeats 4000000 in
theorem nextMbap_law (a : Option Addr) (cap : Nat) (zs : List Int) (w : World) (hs : Sl w a zs) (hr : ∀ z ∈ zs, 0 ≤ z ∧ z ≤ 255) (hl : zs.length ≤ 1048576) :
    Calls Try.prog 6 #[.slice a zs.length cap] w fun e w' => e = .returned (.bool true) ∧ Below w.heap.size w w' := by
  have hml : zs.length ≤ maxLen := by unfold maxLen; omega
  have pl := nxP_len zs
  have HRg : Hid (∀ z ∈ zs, 0 ≤ z ∧ z ≤ 255) := hr
  clear hr
  generalize hR : nxP zs = R at *
  generalize hU : nxU zs = U at *
  generalize hC : nxC zs = C at *
  generalize hN : nxN zs = N at *
  generalize hK : nxK zs = K at *
  have HR : Hid (nxP zs = R ∧ nxU zs = U ∧ nxC zs = C ∧ nxN zs = N ∧ nxK zs = K) := ⟨hR, hU, hC, hN, hK⟩
  clear hR hU hC hN hK
  have f1 : decide ((zs.length : Int) + 1 < 0) = false := by simp; omega
  have pl' : Hid (R.length ≤ 256) := pl
  clear pl
  have Hs : Hid (Sl w a zs) := hs
  clear hs
  go_enter Try.func6, Try.ntmps6
  go_wp2_with fail
  refine (toByteS_any a _ cap zs _ rfl Hs.out (by omega)).mono ?_
  rintro e w1 ⟨rfl, q1, b1⟩
  go_wp2_with fail
  refine (specNextMbap_any _ _ _ zs _ rfl (Nat.le_refl _) (Sl.ofRow q1 (Nat.le_refl _)) HRg.out (by omega)).mono ?_
  rintro e w2 h'
  rw [HR.out.1, HR.out.2.1, HR.out.2.2.1, HR.out.2.2.2.1, HR.out.2.2.2.2] at h'
  obtain ⟨a0, c0, n0, rfl, hn0, o2, b2'⟩ := h'
  have H0 : Hid (n0 = R.length) := hn0
  clear hn0
  have b2 := b1.trans (b2'.mono b1.size)
  clear b2' b1 q1
  go_wp2_with fail
  refine (toByteS_any a _ cap zs _ rfl (Hs.out.below b2) (by omega)).mono ?_
  rintro e w3 ⟨rfl, q3, b3'⟩
  have b3 := b2.trans (b3'.mono b2.size)
  have o3 := o2.below b3'
  have x3 := Own.ofRow (base := w2.heap.size) q3 rfl (Nat.le_refl _) hml
  have ne1 := (own_ne o2 x3 (Nat.le_refl _)).1
  have hB2 : w.heap.size ≤ w2.heap.size := b2.size
  clear b3' o2 b2 q3
  go_wp2_with fail
  refine (implNextMbap_any _ _ _ zs _ rfl (Nat.le_refl _) x3.sl.2 HRg.out (by omega)).mono ?_
  rintro e w4 h'
  rw [HR.out.1, HR.out.2.1, HR.out.2.2.1, HR.out.2.2.2.1, HR.out.2.2.2.2] at h'
  obtain ⟨a1, c1, n1, rfl, hn1, g4, b4'⟩ := h'
  have H1 : Hid (n1 = R.length) := hn1
  have hn1' : n1 ≤ 256 := by have := pl'.out; omega
  have f2 : decide ((n1 : Int) + 1 < 0) = false := by simp; omega
  clear hn1
  have b4 := b3.trans (b4'.mono b3.size)
  have o4 := o3.below b4'
  have x4 := x3.below b4'
  have ne2 := (own_ne x3 g4 (Nat.le_refl _)).2
  have ne3 := (own_ne o3 g4 (Nat.le_refl _)).1
  have hB4 : w.heap.size ≤ w3.heap.size := b3.size
  clear b4' o3 x3 b3
  go_wp2_with fail
  refine (eqByteS_true _ _ _ _ _ _ R _ H1.out H0.out g4.sl.2 o4.sl.2 (by have := pl'.out; omega)).mono ?_
  rintro e w5 ⟨rfl, n5, rfl⟩
  have b5 := bel_drewN b4 n5
  have o5 := o4.below (drew_refl _ n5)
  have x5 := x4.below (drew_refl _ n5)
  have g5 := g4.below (drew_refl _ n5)
  clear b4 o4 x4 g4
  generalize w4.drewN n5 = w5 at *
  go_wp2_with fail
  refine (toByteS_any a _ cap zs _ rfl (Hs.out.below b5) (by omega)).mono ?_
  rintro e w6 ⟨rfl, q6, b6'⟩
  have b6 := b5.trans (b6'.mono b5.size)
  have o6 := o5.below b6'
  have x6 := x5.below b6'
  have g6 := g5.below b6'
  clear b5 o5 x5 g5 b6'
  go_wp2_with fail
  refine (eqByteS_true _ _ _ _ _ _ zs _ rfl rfl x6.sl.2 (Sl.ofRow q6 (Nat.le_refl _)) (by omega)).mono ?_
  rintro e w7 ⟨rfl, n7, rfl⟩
  have b7 := bel_drewN b6 n7
  have o7 := o6.below (drew_refl _ n7)
  have x7 := x6.below (drew_refl _ n7)
  have g7 := g6.below (drew_refl _ n7)
  clear b6 o6 x6 g6 q6
  generalize w6.drewN n7 = w7 at *
  go_wp2_with fail
  refine (markByteS_any _ _ _ _ zs _ x7 (by omega)).mono ?_
  rintro e w8 ⟨rfl, _, gr8⟩
  have b8 := below_own b7 x7 gr8 hB2 b7.size
  have o8 := o7.kept gr8 ne1
  have g8 := g7.kept gr8 ne2
  clear b7 o7 x7 g7 gr8 ne1 ne2
  go_wp2_with fail
  refine (eqByteS_true _ _ _ _ _ _ R _ H1.out H0.out g8.sl.2 o8.sl.2 (by have := pl'.out; omega)).mono ?_
  rintro e w9 ⟨rfl, n9, rfl⟩
  have b9 := bel_drewN b8 n9
  have o9 := o8.below (drew_refl _ n9)
  have g9 := g8.below (drew_refl _ n9)
  clear b8 o8 g8
  generalize w8.drewN n9 = w9 at *
  go_wp2_with fail
  refine (markByteS_any _ _ _ _ R _ g9 (by omega)).mono ?_
  rintro e w10 ⟨rfl, g10, gr10⟩
  have b10 := below_own b9 g9 gr10 hB4 b9.size
  have o10 := o9.kept gr10 ne3
  clear b9 o9 g9 gr10 ne3
  go_wp2_with fail
  refine (heldByteS_any _ _ _ _ g10.sl.2 (by omega)).mono ?_
  rintro e w11 ⟨rfl, e11⟩
  subst e11
  go_wp2_with fail
  refine (toByteS_any a _ cap zs _ rfl (Hs.out.below b10) (by omega)).mono ?_
  rintro e w12 ⟨rfl, q12, b12'⟩
  have b12 := b10.trans (b12'.mono b10.size)
  have o12 := o10.below b12'
  have g12 := g10.below b12'
  clear b10 o10 g10 b12'
  go_wp2_with fail
  refine (implNextMbap_any _ _ _ zs _ rfl (Nat.le_refl _) (Sl.ofRow q12 (Nat.le_refl _)) HRg.out (by omega)).mono ?_
  rintro e w13 h'
  rw [HR.out.1, HR.out.2.1, HR.out.2.2.1, HR.out.2.2.2.1, HR.out.2.2.2.2] at h'
  obtain ⟨a2, c2, n2, rfl, hn2, h13, b13'⟩ := h'
  have H2 : Hid (n2 = R.length) := hn2
  clear hn2
  have b13 := b12.trans (b13'.mono b12.size)
  have o13 := o12.below b13'
  have g13 := g12.below b13'
  clear b12 o12 g12 b13' q12
  go_wp2_with fail
  refine (eqByteS_true _ _ _ _ _ _ R _ H2.out H0.out h13.sl.2 o13.sl.2 (by have := pl'.out; omega)).mono ?_
  rintro e w14 ⟨rfl, n14, rfl⟩
  have b14 := bel_drewN b13 n14
  have g14 := g13.below (drew_refl _ n14)
  clear b13 o13 g13 h13
  generalize w13.drewN n14 = w14 at *
  go_wp2_with fail
  refine (heldByteS_any _ _ _ _ g14.sl.2 (by omega)).mono ?_
  rintro e w15 ⟨rfl, e15⟩
  subst e15
  clear g14
  go_wp2
  go_ret
  exact ⟨rfl, b14⟩

end Go.Proofs.Ytbdlppihiffjgaa
