/- The law of PutWord, walked: both answer the same bytes, in memory of their own. -/
import Derived.Test.YtghmbonbdfchgahPutWord2
import Derived.Test.YtghmbonbdfchgahMarks
namespace Go.Proofs.Ytghmbonbdfchgah
open Go.RowKit

theorem Own.shape {w : World} {base : Nat} {v : Value} {zs : List Int} (h : Own w base v zs) : ∃ a cap, v = .slice a zs.length cap := by
  obtain ⟨_, h2⟩ := h
  rcases h2 with ⟨h2, h3⟩ | ⟨g, cap', cur, hv, _⟩
  · exact ⟨none, 0, by rw [h3]; exact h2⟩
  · exact ⟨_, _, hv⟩

/-- What PutWord answers. -/
def putw (zs : List Int) (x : Int) : List Int := zs ++ [x / 256 % 256, x % 256]
theorem putw_length (zs : List Int) (x : Int) : (putw zs x).length = zs.length + 2 := by simp [putw]

theorem specPutWord_sl (ad : Addr) (n cap : Nat) (zs : List Int) (x : Int) (w : World) (hn : n = zs.length) (hs : Sl w (some ad) zs) (hl : zs.length ≤ 2000000) :
    Calls Try.prog 17 #[.slice (some ad) n cap, .int .i64 x] w fun e w' => ∃ a c, e = .returned (.slice a (zs.length + 2) c) ∧ Own w' w.heap.size (.slice a (zs.length + 2) c) (putw zs x) ∧ Below w.heap.size w w' := by
  refine (specPutWord_any ad n cap zs x w hn hs hl).mono ?_
  rintro e w' ⟨v, rfl, ho, hb⟩
  obtain ⟨a, c, rfl⟩ := ho.shape
  have e2 : (zs ++ [x / 256 % 256, x % 256]).length = zs.length + 2 := by simp
  rw [e2] at ho ⊢
  exact ⟨a, c, rfl, ho, hb⟩

theorem implPutWord_sl (ad : Addr) (n cap : Nat) (zs : List Int) (x : Int) (w : World) (hn : n = zs.length) (hs : Sl w (some ad) zs) (hl : zs.length ≤ 2000000) :
    Calls Try.prog 18 #[.slice (some ad) n cap, .int .i64 x] w fun e w' => ∃ a c, e = .returned (.slice a (zs.length + 2) c) ∧ Own w' w.heap.size (.slice a (zs.length + 2) c) (putw zs x) ∧ Below w.heap.size w w' := by
  refine (implPutWord_any ad n cap zs x w hn hs hl).mono ?_
  rintro e w' ⟨v, rfl, ho, hb⟩
  obtain ⟨a, c, rfl⟩ := ho.shape
  have e2 : (zs ++ [x / 256 % 256, x % 256]).length = zs.length + 2 := by simp
  rw [e2] at ho ⊢
  exact ⟨a, c, rfl, ho, hb⟩

theorem own_ne {w1 w2 : World} {b1 b2 : Nat} {v1 v2 : Value} {z1 z2 : List Int} (h1 : Own w1 b1 v1 z1) (h2 : Own w2 b2 v2 z2) (hb : w1.heap.size ≤ b2) :
    (v1.ownBlock = none ∨ v1.ownBlock ≠ v2.ownBlock) ∧ (v2.ownBlock = none ∨ v2.ownBlock ≠ v1.ownBlock) := by
  have key : ∀ k, v1.ownBlock = some k → v2.ownBlock = some k → False := fun k e e2 => by
    have a := (World.ownsRow.lt h1 k e).2
    have b := (World.ownsRow.lt h2 k e2).1
    omega
  constructor
  · cases e : v1.ownBlock with
    | none => exact .inl rfl
    | some k => exact .inr (fun e2 => key k e e2.symm)
  · cases e : v2.ownBlock with
    | none => exact .inl rfl
    | some k => exact .inr (fun e2 => key k e2.symm e)

theorem drew_refl (w : World) (n : Nat) : Below w.heap.size w (w.drewN n) := bel_drewN (Below.refl _ _) n

theorem below_own {B : Nat} {w0 w w' : World} {base : Nat} {v : Value} {zs : List Int} (hb : Below B w0 w) (h : Own w base v zs) (hg : w.grownBy w' v.ownBlock) (h1 : B ≤ base) (h2 : B ≤ w.heap.size) : Below B w0 w' :=
  hb.grown hg h2 (fun k hk => by have := (World.ownsRow.lt h k hk).1; omega)

set_option maxHeartbeats 4000000 in
theorem putWord_law (a : Option Addr) (cap : Nat) (zs : List Int) (x : Int) (w : World) (hs : Sl w a zs) (hl : zs.length ≤ 1048576) :
    Calls Try.prog 6 #[.slice a zs.length cap, .int .i64 x] w fun e w' => e = .returned (.bool true) ∧ Below w.heap.size w w' := by
  have hml : zs.length ≤ maxLen := by unfold maxLen; omega
  have pl := putw_length zs x
  generalize hR : putw zs x = R at *
  have HR : Hid (putw zs x = R) := hR
  clear hR
  have f1 : decide ((zs.length : Int) + 1 < 0) = false := by simp; omega
  have pl' : Hid (R.length = zs.length + 2) := pl
  clear pl
  have Hs : Hid (Sl w a zs) := hs
  clear hs
  go_enter Try.func6, Try.ntmps6
  go_wp2_with fail
  refine (toByteS_any a _ cap zs _ rfl Hs.out (by omega)).mono ?_
  rintro e w1 ⟨rfl, q1, b1⟩
  go_wp2_with fail
  refine (specPutWord_sl _ _ _ zs x _ rfl (Sl.ofRow q1 (Nat.le_refl _)) (by omega)).mono ?_
  rintro e w2 ⟨a0, c0, rfl, o2, b2'⟩
  rw [HR.out] at o2
  have b2 := b1.trans (b2'.mono b1.size)
  clear b2' b1 q1
  go_wp2_with fail
  refine (toByteS_any a _ cap zs _ rfl (Hs.out.below b2) (by omega)).mono ?_
  rintro e w3 ⟨rfl, q3, b3'⟩
  have b3 := b2.trans (b3'.mono b2.size)
  have o3 := o2.below b3'
  have x3 := Own.ofRow (base := w2.heap.size) q3 rfl (Nat.le_refl _) hml
  have ne1 := (own_ne o2 x3 (Nat.le_refl _)).1
  have hB2 : w.heap.size ≤ w2.heap.size := b2.size
  clear b3' o2 b2 q3
  go_wp2_with fail
  refine (implPutWord_sl _ _ _ zs x _ rfl x3.sl.2 (by omega)).mono ?_
  rintro e w4 ⟨a1, c1, rfl, g4, b4'⟩
  rw [HR.out] at g4
  have b4 := b3.trans (b4'.mono b3.size)
  have o4 := o3.below b4'
  have x4 := x3.below b4'
  have ne2 := (own_ne x3 g4 (Nat.le_refl _)).2
  have ne3 := (own_ne o3 g4 (Nat.le_refl _)).1
  have hB4 : w.heap.size ≤ w3.heap.size := b3.size
  clear b4' o3 x3 b3
  go_wp2_with fail
  refine (eqByteS_true _ _ _ _ _ _ R _ pl'.out.symm pl'.out.symm g4.sl.2 o4.sl.2 (by have := pl'.out; omega)).mono ?_
  rintro e w5 ⟨rfl, n5, rfl⟩
  have b5 := bel_drewN b4 n5
  have o5 := o4.below (drew_refl _ n5)
  have x5 := x4.below (drew_refl _ n5)
  have g5 := g4.below (drew_refl _ n5)
  clear b4 o4 x4 g4
  generalize w4.drewN n5 = w5 at *
  go_wp2_with fail
  refine (toByteS_any a _ cap zs _ rfl (Hs.out.below b5) (by omega)).mono ?_
  rintro e w6 ⟨rfl, q6, b6'⟩
  have b6 := b5.trans (b6'.mono b5.size)
  have o6 := o5.below b6'
  have x6 := x5.below b6'
  have g6 := g5.below b6'
  clear b5 o5 x5 g5 b6'
  go_wp2_with fail
  refine (eqByteS_true _ _ _ _ _ _ zs _ rfl rfl x6.sl.2 (Sl.ofRow q6 (Nat.le_refl _)) (by omega)).mono ?_
  rintro e w7 ⟨rfl, n7, rfl⟩
  have b7 := bel_drewN b6 n7
  have o7 := o6.below (drew_refl _ n7)
  have x7 := x6.below (drew_refl _ n7)
  have g7 := g6.below (drew_refl _ n7)
  clear b6 o6 x6 g6 q6
  generalize w6.drewN n7 = w7 at *
  go_wp2_with fail
  refine (markByteS_any _ _ _ _ zs _ x7 (by omega)).mono ?_
  rintro e w8 ⟨rfl, _, gr8⟩
  have b8 := below_own b7 x7 gr8 hB2 b7.size
  have o8 := o7.kept gr8 ne1
  have g8 := g7.kept gr8 ne2
  clear b7 o7 x7 g7 gr8 ne1 ne2
  go_wp2_with fail
  refine (eqByteS_true _ _ _ _ _ _ R _ pl'.out.symm pl'.out.symm g8.sl.2 o8.sl.2 (by have := pl'.out; omega)).mono ?_
  rintro e w9 ⟨rfl, n9, rfl⟩
  have b9 := bel_drewN b8 n9
  have o9 := o8.below (drew_refl _ n9)
  have g9 := g8.below (drew_refl _ n9)
  clear b8 o8 g8
  generalize w8.drewN n9 = w9 at *
  go_wp2_with fail
  refine (markByteS_any _ _ _ _ R _ g9 (by omega)).mono ?_
  rintro e w10 ⟨rfl, g10, gr10⟩
  have b10 := below_own b9 g9 gr10 hB4 b9.size
  have o10 := o9.kept gr10 ne3
  clear b9 o9 g9 gr10 ne3
  go_wp2_with fail
  refine (heldByteS_any _ _ _ _ g10.sl.2 (by omega)).mono ?_
  rintro e w11 ⟨rfl, e11⟩
  subst e11
  go_wp2_with fail
  refine (toByteS_any a _ cap zs _ rfl (Hs.out.below b10) (by omega)).mono ?_
  rintro e w12 ⟨rfl, q12, b12'⟩
  have b12 := b10.trans (b12'.mono b10.size)
  have o12 := o10.below b12'
  have g12 := g10.below b12'
  clear b10 o10 g10 b12'
  go_wp2_with fail
  refine (implPutWord_sl _ _ _ zs x _ rfl (Sl.ofRow q12 (Nat.le_refl _)) (by omega)).mono ?_
  rintro e w13 ⟨a2, c2, rfl, h13, b13'⟩
  rw [HR.out] at h13
  have b13 := b12.trans (b13'.mono b12.size)
  have o13 := o12.below b13'
  have g13 := g12.below b13'
  clear b12 o12 g12 b13' q12
  go_wp2_with fail
  refine (eqByteS_true _ _ _ _ _ _ R _ pl'.out.symm pl'.out.symm h13.sl.2 o13.sl.2 (by have := pl'.out; omega)).mono ?_
  rintro e w14 ⟨rfl, n14, rfl⟩
  have b14 := bel_drewN b13 n14
  have g14 := g13.below (drew_refl _ n14)
  clear b13 o13 g13 h13
  generalize w13.drewN n14 = w14 at *
  go_wp2_with fail
  refine (heldByteS_any _ _ _ _ g14.sl.2 (by omega)).mono ?_
  rintro e w15 ⟨rfl, e15⟩
  subst e15
  clear g14
  go_wp2
  go_ret
  exact ⟨rfl, b14⟩
end Go.Proofs.Ytghmbonbdfchgah
