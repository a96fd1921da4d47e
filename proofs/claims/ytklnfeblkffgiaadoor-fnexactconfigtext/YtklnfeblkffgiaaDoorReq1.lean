/- Questions: what the laws' own helpers do with one. -/
import Derived.Test.YtklnfeblkffgiaaDoorIos
import Derived.Test.YtklnfeblkffgiaaDoorBos
import Derived.Deep.Cut
import Derived.Deep.CutRange
import Derived.Deep.DeepCutAuto
namespace Go.Proofs.YtklnfeblkffgiaaDoor
open Go.RowKit

theorem bel_next {w0 w w' : World} (h : Below w0.heap.size w0 w) (h' : Below w.heap.size w w') : Below w0.heap.size w0 w' := h.trans (h'.mono h.size)

theorem bel_alloc (w : World) (o : Obj) : Below w.heap.size w (w.alloc o) := (Below.refl _ w).alloc (Nat.le_refl _) o

/-- A block that is known whole. -/
def Blk (w : World) (g : Nat) (t : TypeId) (cs : Array Value) : Prop := w.heap[g]? = some (.cells cs t (0, 0))

theorem Blk.cell {w : World} {g : Nat} {t : TypeId} {cs : Array Value} (h : Blk w g t cs) (j : Nat) {v : Value} (hj : cs[j]? = some v) : w.cell? ⟨g, j, none⟩ = some v := by
  unfold Blk at h; simp [World.cell?, h, hj]

theorem Blk.fro {w : World} {g : Nat} {t : TypeId} {cs : Array Value} (h : Blk w g t cs) (j : Nat) : w.frozen? ⟨g, j, none⟩ = false := by
  unfold Blk at h; simp [World.frozen?, h]

theorem Blk.lt {w : World} {g : Nat} {t : TypeId} {cs : Array Value} (h : Blk w g t cs) : g < w.heap.size := (Array.getElem?_eq_some_iff.1 h).1

theorem Blk.new (w : World) (cs : Array Value) (t : TypeId) : Blk (w.alloc (.cells cs t)) w.heap.size t cs := by
  show (w.heap.push (.cells cs t (0, 0)))[w.heap.size]? = _; simp

theorem Blk.below {w w' : World} {g : Nat} {t : TypeId} {cs : Array Value} (h : Blk w g t cs) (hb : Below w.heap.size w w') : Blk w' g t cs := by
  unfold Blk; rw [hb.block g h.lt]; exact h

theorem Blk.grown {w w' : World} {g : Nat} {t : TypeId} {cs : Array Value} {row : Option Nat} (h : Blk w g t cs) (hg : w.grownBy w' row) (hne : row ≠ some g) : Blk w' g t cs := by
  unfold Blk; rw [hg.block g h.lt (fun e => hne e.symm)]; exact h

theorem Blk.set {w : World} {g : Nat} {t : TypeId} {cs : Array Value} (h : Blk w g t cs) (j : Nat) (y : Value) : Blk (w.setCell ⟨g, j, none⟩ y) g t (cs.setIfInBounds j y) := by
  unfold Blk at h ⊢; simp [World.setCell, Array.getElem?_modify, h]

theorem Blk.setNe {w : World} {g g' j : Nat} {t : TypeId} {cs : Array Value} {y : Value} (h : Blk w g t cs) (hne : g ≠ g') : Blk (w.setCell ⟨g', j, none⟩ y) g t cs := by
  unfold Blk; rw [Below.heap_setCell _ _ _ _ hne]; exact h

/-- A row of one element type does not lie in a block of another. -/
theorem row_noBlk {w : World} {base size n g : Nat} {e t : TypeId} {v : Value} {xs : List Value} {cs : Array Value} (h : w.ownsRow base e size v n xs) (hb : Blk w g t cs) (ht : t ≠ e) : v.ownBlock ≠ some g := by
  intro he
  obtain ⟨_, h2⟩ := h
  rcases h2 with ⟨h2, _⟩ | ⟨g', cap, cur, hv, _, hh, _⟩
  · rw [h2] at he; simp [Value.ownBlock] at he
  · rw [hv] at he
    simp [Value.ownBlock] at he
    subst he
    unfold Blk at hb
    rw [hb] at hh
    simp at hh
    exact ht hh.2

theorem grown_setj (w : World) (g o : Nat) (v : Value) : w.grownBy (w.setCell ⟨g, o, none⟩ v) (some g) :=
  ⟨rfl, rfl, rfl, by simp [World.setCell], fun k hk hne => Below.heap_setCell _ _ _ _ (fun e => hne (by simpa using e))⟩

/-- A row stays where a block of another type is written. -/
theorem row_set {w : World} {base size n g j : Nat} {e t : TypeId} {v y : Value} {xs : List Value} {cs : Array Value} (h : w.ownsRow base e size v n xs) (hb : Blk w g t cs) (ht : t ≠ e) : (w.setCell ⟨g, j, none⟩ y).ownsRow base e size v n xs :=
  World.ownsRow.kept h (grown_setj w g j y) (.inr (row_noBlk h hb ht))

/-- There is such a block. -/
def ExB (w : World) (g : Nat) (t : TypeId) : Prop := ∃ cs, Blk w g t cs

theorem ExB.set {w : World} {g g' j : Nat} {t : TypeId} {y : Value} (h : ExB w g t) : ExB (w.setCell ⟨g', j, none⟩ y) g t := by
  obtain ⟨cs, h⟩ := h
  by_cases e : g = g'
  · subst e; exact ⟨_, h.set j y⟩
  · exact ⟨_, h.setNe e⟩

/-- Rows of one element type, a block of another, and what lies below: over a store into that block. -/
theorem row_setE {w : World} {base size n g j : Nat} {e t : TypeId} {v y : Value} {xs : List Value} (h : w.ownsRow base e size v n xs) (hb : ExB w g t) (ht : t ≠ e) : (w.setCell ⟨g, j, none⟩ y).ownsRow base e size v n xs := by
  obtain ⟨cs, hb⟩ := hb
  exact row_set h hb ht

theorem OwnI.mono {w : World} {base base' : Nat} {v : Value} {zs : List Int} (h : OwnI w base v zs) (hb : base' ≤ base) : OwnI w base' v zs := by
  obtain ⟨h1, h2⟩ := h
  refine ⟨h1, ?_⟩
  rcases h2 with h2 | ⟨g, cap, cur, hv, hg, r⟩
  · exact .inl h2
  · exact .inr ⟨g, cap, cur, hv, by omega, r⟩

theorem OwnB.mono {w : World} {base base' : Nat} {v : Value} {zs : List Bool} (h : OwnB w base v zs) (hb : base' ≤ base) : OwnB w base' v zs := by
  obtain ⟨h1, h2⟩ := h
  refine ⟨h1, ?_⟩
  rcases h2 with h2 | ⟨g, cap, cur, hv, hg, r⟩
  · exact .inl h2
  · exact .inr ⟨g, cap, cur, hv, by omega, r⟩

theorem S2_below {w w' : World} {a : Option Addr} {zs : List Bool} (h : SlB w a zs) (hb : Below w.heap.size w w') : SlB w' a zs := h.below hb

end Go.Proofs.YtklnfeblkffgiaaDoor
