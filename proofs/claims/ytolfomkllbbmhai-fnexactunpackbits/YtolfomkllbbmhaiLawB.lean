/- What laws of bits and bytes lean on. -/
import Derived.Test.YtolfomkllbbmhaiBos
import Derived.Test.YtolfomkllbbmhaiMarks2
namespace Go.Proofs.Ytolfomkllbbmhai
open Go.RowKit

theorem bel_next {w0 w w' : World} (h : Below w0.heap.size w0 w) (h' : Below w.heap.size w w') : Below w0.heap.size w0 w' := h.trans (h'.mono h.size)

theorem ne_lt {v1 v2 : Value} {B : Nat} (h1 : ∀ k, v1.ownBlock = some k → k < B) (h2 : ∀ k, v2.ownBlock = some k → B ≤ k) :
    (v1.ownBlock = none ∨ v1.ownBlock ≠ v2.ownBlock) ∧ (v2.ownBlock = none ∨ v2.ownBlock ≠ v1.ownBlock) := by
  constructor
  · cases e : v1.ownBlock with
    | none => exact .inl rfl
    | some k => exact .inr (fun e2 => by have a := h1 k e; have b := h2 k e2.symm; omega)
  · cases e : v2.ownBlock with
    | none => exact .inl rfl
    | some k => exact .inr (fun e2 => by have a := h2 k e; have b := h1 k e2.symm; omega)

theorem below_ownG {B : Nat} {w0 w w' : World} {base size n : Nat} {e : TypeId} {v : Value} {xs : List Value} (hb : Below B w0 w) (h : w.ownsRow base e size v n xs) (hg : w.grownBy w' v.ownBlock) (h1 : B ≤ base) (h2 : B ≤ w.heap.size) : Below B w0 w' :=
  hb.grown hg h2 (fun k hk => by have := (World.ownsRow.lt h k hk).1; omega)

theorem eqByteS_ok (a a' : Option Addr) (n n' cap cap' : Nat) (zs : List Int) (w : World) (hn : n = zs.length) (hn' : n' = zs.length) (hs : Sl w a zs) (hs' : Sl w a' zs) (hl : zs.length ≤ 2000000) :
    Calls Try.prog 12 #[.slice a n cap, .slice a' n' cap'] w fun e w' => e = .returned (.bool true) ∧ Below w.heap.size w w' := by
  refine (eqByteS_true a a' n n' cap cap' zs w hn hn' hs hs' hl).mono ?_
  rintro e w' ⟨rfl, k, rfl⟩
  exact ⟨rfl, drew_refl _ _⟩

theorem eqBoolS_ok (a a' : Option Addr) (n n' cap cap' : Nat) (zs : List Bool) (w : World) (hn : n = zs.length) (hn' : n' = zs.length) (hs : SlB w a zs) (hs' : SlB w a' zs) (hl : zs.length ≤ 20000000) :
    Calls Try.prog 22 #[.slice a n cap, .slice a' n' cap'] w fun e w' => e = .returned (.bool true) ∧ Below w.heap.size w w' := by
  refine (eqBoolS_true a a' n n' cap cap' zs w hn hn' hs hs' hl).mono ?_
  rintro e w' ⟨rfl, k, rfl⟩
  exact ⟨rfl, drew_refl _ _⟩

theorem toByteS_ok (a : Option Addr) (n cap : Nat) (zs : List Int) (w : World) (hn : n = zs.length) (hs : Sl w a zs) (hl : zs.length ≤ 2000000) :
    Calls Try.prog 10 #[.slice a n cap] w fun e w' => ∃ g, e = .returned (.slice (some ⟨g, 0, none⟩) n n) ∧ Own w' w.heap.size (.slice (some ⟨g, 0, none⟩) n n) zs ∧ Below w.heap.size w w' := by
  refine (toByteS_any a n cap zs w hn hs hl).mono ?_
  rintro e w' ⟨rfl, q, b⟩
  exact ⟨_, rfl, Own.ofRow q hn (Nat.le_refl _) (by unfold maxLen; omega), b⟩

theorem toBoolS_ok (a : Option Addr) (n cap : Nat) (zs : List Bool) (w : World) (hn : n = zs.length) (hs : SlB w a zs) (hl : zs.length ≤ 20000000) :
    Calls Try.prog 20 #[.slice a n cap] w fun e w' => ∃ g, e = .returned (.slice (some ⟨g, 0, none⟩) n n) ∧ OwnB w' w.heap.size (.slice (some ⟨g, 0, none⟩) n n) zs ∧ Below w.heap.size w w' := by
  refine (toBoolS_any a n cap zs w hn hs hl).mono ?_
  rintro e w' ⟨rfl, q, b⟩
  exact ⟨_, rfl, OwnB.ofRow q hn (Nat.le_refl _) (by unfold maxLen; omega), b⟩

theorem markByteS_sv (sv : Int) (a : Option Addr) (n cap base s : Nat) (zs : List Int) (w : World) (hsv : sv = (s : Int)) (h : Own w base (.slice a n cap) zs) (hl : n ≤ 3000000) (hs' : s ≤ 9000000) :
    Calls Try.prog 24 #[.slice a n cap, .int .i64 sv] w fun e w' => e = .returned (.int .i64 (sv + (n : Int))) ∧ Own w' base (.slice a n cap) (marksF s n) ∧ w.grownBy w' (Value.slice a n cap).ownBlock := by
  subst hsv; exact markByteS_from a n cap base s zs w h hl hs'

theorem markBoolS_sv (sv : Int) (a : Option Addr) (n cap base s : Nat) (zs : List Bool) (w : World) (hsv : sv = (s : Int)) (h : OwnB w base (.slice a n cap) zs) (hl : n ≤ 20000000) (hs' : s ≤ 9000000) :
    Calls Try.prog 23 #[.slice a n cap, .int .i64 sv] w fun e w' => e = .returned (.int .i64 (sv + (n : Int))) ∧ OwnB w' base (.slice a n cap) (marksB s n) ∧ w.grownBy w' (Value.slice a n cap).ownBlock := by
  subst hsv; exact markBoolS_from a n cap base s zs w h hl hs'

theorem heldByteS_sv (sv : Int) (a : Option Addr) (n cap s : Nat) (w : World) (hsv : sv = (s : Int)) (h : Sl w a (marksF s n)) (hl : n ≤ 3000000) (hs' : s ≤ 9000000) :
    Calls Try.prog 25 #[.slice a n cap, .int .i64 sv] w fun e w' => e = .returned (.int .i64 (sv + (n : Int))) ∧ Below w.heap.size w w' := by
  subst hsv
  refine (heldByteS_from a n cap s w h hl hs').mono ?_
  rintro e w' ⟨rfl, rfl⟩
  exact ⟨rfl, Below.refl _ _⟩

theorem heldBoolS_sv (sv : Int) (a : Option Addr) (n cap s : Nat) (w : World) (hsv : sv = (s : Int)) (h : SlB w a (marksB s n)) (hl : n ≤ 20000000) (hs' : s ≤ 9000000) :
    Calls Try.prog 28 #[.slice a n cap, .int .i64 sv] w fun e w' => e = .returned (.int .i64 (sv + (n : Int))) ∧ Below w.heap.size w w' := by
  subst hsv
  refine (heldBoolS_from a n cap s w h hl hs').mono ?_
  rintro e w' ⟨rfl, rfl⟩
  exact ⟨rfl, Below.refl _ _⟩

end Go.Proofs.Ytolfomkllbbmhai
