/- A block of one cell: a variable that a call boxed. -/
import Derived.Test.YtmhdneenjoelfaaMarks
namespace Go.Proofs.Ytmhdneenjoelfaa
open Go.RowKit

def Box (w : World) (g : Nat) (t : TypeId) (v : Value) : Prop := w.heap[g]? = some (.cells #[v] t (0, 0))

theorem Box.cell {w : World} {g : Nat} {t : TypeId} {v : Value} (h : Box w g t v) : w.cell? ⟨g, 0, none⟩ = some v := by
  unfold Box at h; simp [World.cell?, h]

theorem Box.fro {w : World} {g : Nat} {t : TypeId} {v : Value} (h : Box w g t v) : w.frozen? ⟨g, 0, none⟩ = false := by
  unfold Box at h; simp [World.frozen?, h]

theorem Box.lt {w : World} {g : Nat} {t : TypeId} {v : Value} (h : Box w g t v) : g < w.heap.size := (Array.getElem?_eq_some_iff.1 h).1

theorem Box.new (w : World) (v : Value) (t : TypeId) : Box (w.alloc (.cells #[v] t)) w.heap.size t v := by
  show (w.heap.push (.cells #[v] t (0, 0)))[w.heap.size]? = _; simp

theorem Box.below {w w' : World} {g : Nat} {t : TypeId} {v : Value} (h : Box w g t v) (hb : Below w.heap.size w w') : Box w' g t v := by
  unfold Box; rw [hb.block g h.lt]; exact h

theorem Box.grown {w w' : World} {g : Nat} {t : TypeId} {v : Value} {row : Option Nat} (h : Box w g t v) (hg : w.grownBy w' row) (hne : row ≠ some g) : Box w' g t v := by
  unfold Box; rw [hg.block g h.lt (fun e => hne e.symm)]; exact h

theorem Own.noBox {w : World} {base g : Nat} {v x : Value} {t : TypeId} {zs : List Int} (h : Own w base v zs) (hb : Box w g t x) (ht : t ≠ 5) : v.ownBlock ≠ some g := by
  intro e
  obtain ⟨_, h2⟩ := h
  rcases h2 with ⟨h2, _⟩ | ⟨g', cap, cur, hv, _, hh, _⟩
  · rw [h2] at e; simp [Value.ownBlock] at e
  · rw [hv] at e
    simp [Value.ownBlock] at e
    subst e
    unfold Box at hb
    rw [hb] at hh
    simp at hh
    exact ht hh.2

theorem grown_setb (w : World) (g o : Nat) (v : Value) : w.grownBy (w.setCell ⟨g, o, none⟩ v) (some g) :=
  ⟨rfl, rfl, rfl, by simp [World.setCell], fun k hk hne => Below.heap_setCell _ _ _ _ (fun e => hne (by simpa using e))⟩

theorem Own.setb {w : World} {base g : Nat} {v x y : Value} {t : TypeId} {zs : List Int} (h : Own w base v zs) (hb : Box w g t x) (ht : t ≠ 5) : Own (w.setCell ⟨g, 0, none⟩ y) base v zs :=
  h.kept (grown_setb w g 0 y) (.inr (h.noBox hb ht))

theorem Box.set {w : World} {g : Nat} {v : Value} {t : TypeId} (h : Box w g t v) (y : Value) : Box (w.setCell ⟨g, 0, none⟩ y) g t y := by
  unfold Box at h ⊢; simp [World.setCell, Array.getElem?_modify, h]

theorem Box.setNe {w : World} {g g' : Nat} {v y : Value} {t : TypeId} (h : Box w g t v) (hne : g ≠ g') : Box (w.setCell ⟨g', 0, none⟩ y) g t v := by
  unfold Box; rw [Below.heap_setCell _ _ _ _ hne]; exact h

theorem Box.drew {w : World} {g : Nat} {v : Value} {t : TypeId} (h : Box w g t v) : Box w.drew g t v := h

theorem Own.mono' {w : World} {base base' : Nat} {v : Value} {zs : List Int} (h : Own w base v zs) (hb : base' ≤ base) : Own w base' v zs := by
  obtain ⟨h1, h2⟩ := h
  refine ⟨h1, ?_⟩
  rcases h2 with h2 | ⟨g, cap, cur, hv, hg, r⟩
  · exact .inl h2
  · exact .inr ⟨g, cap, cur, hv, by omega, r⟩

theorem Own.shape' {w : World} {base : Nat} {v : Value} {zs : List Int} (h : Own w base v zs) : ∃ a cap, v = .slice a zs.length cap := by
  obtain ⟨_, h2⟩ := h
  rcases h2 with ⟨h2, h3⟩ | ⟨g, cap', cur, hv, _⟩
  · exact ⟨none, 0, by rw [h3]; exact h2⟩
  · exact ⟨_, _, hv⟩

theorem Own.ofRows {w : World} {base n m : Nat} {v : Value} {xs ys zs : List Int} (h : w.ownsRow base 5 1 v (n + m) (xs.map (Value.int .u8) ++ ys.map (Value.int .u8))) (e : zs = xs ++ ys) (hn : n + m = zs.length) : Own w base v zs := by
  unfold Own
  rw [← hn, e, List.map_append]; exact h

end Go.Proofs.Ytmhdneenjoelfaa
