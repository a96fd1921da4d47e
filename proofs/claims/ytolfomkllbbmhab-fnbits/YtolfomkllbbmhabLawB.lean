/- What laws of bits and bytes lean on. -/
import Derived.Test.YtolfomkllbbmhabBos
import Derived.Test.YtolfomkllbbmhabMarks2
namespace Go.Proofs.Ytolfomkllbbmhab
open Go.RowKit

theorem bel_next {w0 w w' : World} (h : Below w0.heap.size w0 w) (h' : Below w.heap.size w w') : Below w0.heap.size w0 w' := h.trans (h'.mono h.size)

theorem ne_lt {v1 v2 : Value} {B : Nat} (h1 : ∀ k, v1.ownBlock = some k → k < B) (h2 : ∀ k, v2.ownBlock = some k → B ≤ k) :
    (v1.ownBlock = none ∨ v1.ownBlock ≠ v2.ownBlock) ∧ (v2.ownBlock = none ∨ v2.ownBlock ≠ v1.ownBlock) := by
  constructor
  · cases e : v1.ownBlock with
    | none => exact .inl rfl
    | some k => exact .inr (fun e2 => by have a := h1 k e; have b := h2 k e2.symm; omega)
  · cases e : v2.ownBlock with
    | none => exact .inl rfl
    | some k => exact .inr (fun e2 => by have a := h2 k e; have b := h1 k e2.symm; omega)

theorem below_ownG {B : Nat} {w0 w w' : World} {base size n : Nat} {e : TypeId} {v : Value} {xs : List Value} (hb : Below B w0 w) (h : w.ownsRow base e size v n xs) (hg : w.grownBy w' v.ownBlock) (h1 : B ≤ base) (h2 : B ≤ w.heap.size) : Below B w0 w' :=
  hb.grown hg h2 (fun k hk => by have := (World.ownsRow.lt h k hk).1; omega)

end Go.Proofs.Ytolfomkllbbmhab
