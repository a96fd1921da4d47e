/- Marking a slice that the call made, and looking at the marks. -/
import Derived.Test.YtmhdneenjoelfaaGreatBys
namespace Go.Proofs.YtmhdneenjoelfaaGreat
open Go.RowKit

/-- The marks 1, 2, .. as bytes. -/
def marks (n : Nat) : List Int := (List.range n).map (fun i : Nat => ((i : Int) + 1) % 256)

theorem marks_length (n : Nat) : (marks n).length = n := by simp [marks]

theorem marks_get (n i : Nat) (h : i < n) : (marks n).getD i 0 = ((i : Int) + 1) % 256 := by simp [marks, h]

/-- A row of bytes of one length, its cells written. -/
theorem Own.cells {w : World} {base n cap : Nat} {a : Option Addr} {zs : List Int} (h : Own w base (.slice a n cap) zs) (hn : 0 < n) :
    ∃ g cur, a = some ⟨g, 0, none⟩ ∧ base ≤ g ∧ g < w.heap.size ∧ w.heap[g]? = some (.cells cur 5 (0, 0)) ∧ n ≤ cap ∧ cap ≤ maxLen ∧ cur.size = cap := by
  obtain ⟨_, h2⟩ := h
  rcases h2 with ⟨h2, h3⟩ | ⟨g, cap', cur, hv, hb, hh, hle, hm, hs, _⟩
  · simp only [Value.slice.injEq] at h2; omega
  · simp only [Value.slice.injEq] at hv
    obtain ⟨rfl, h4, rfl⟩ := hv
    exact ⟨g, cur, rfl, hb, (Array.getElem?_eq_some_iff.1 hh).1, hh, by omega, hm, by simpa using hs⟩

/-- Behind k marks. -/
def Marked (w wr : World) (g cap k : Nat) : Prop :=
  w.grownBy wr (some g) ∧ ∃ cur, wr.heap[g]? = some (.cells cur 5 (0, 0)) ∧ cur.size = cap ∧ ∀ i, i < k → cur[i]? = some (.int .u8 (((i : Int) + 1) % 256))

theorem marked_step {w wr : World} {g cap k : Nat} (h : Marked w wr g cap k) (hk : k < cap) : Marked w (wr.setCell ⟨g, k, none⟩ (.int .u8 (((k : Int) + 1) % 256))) g cap (k + 1) := by
  obtain ⟨hg, cur, hh, hs, hc⟩ := h
  refine ⟨⟨hg.os, hg.tape, hg.output, by simpa [World.setCell] using hg.size, fun j hj hne => ?_⟩, cur.setIfInBounds k (.int .u8 (((k : Int) + 1) % 256)), by simp [World.setCell, Array.getElem?_modify, hh], by simpa using hs, fun i hi => ?_⟩
  · rw [Below.heap_setCell _ _ _ _ (fun e => hne (by simpa using e))]; exact hg.block j hj hne
  · rw [Array.getElem?_setIfInBounds]
    by_cases e : i = k
    · subst e; rw [if_pos rfl, if_pos (by omega)]
    · rw [if_neg (fun h => e h.symm)]; exact hc i (by omega)

theorem marked_cell {w wr : World} {g cap k : Nat} (h : Marked w wr g cap k) (hk : k < cap) : (∃ v, wr.cell? ⟨g, k, none⟩ = some v) ∧ wr.frozen? ⟨g, k, none⟩ = false := by
  obtain ⟨_, cur, hh, hs, _⟩ := h
  refine ⟨⟨cur[k]'(by omega), ?_⟩, by simp [World.frozen?, hh]⟩
  simp [World.cell?, hh, hs, hk]

theorem marked_done {w wr : World} {base g n cap : Nat} (h : Marked w wr g cap n) (hb : base ≤ g) (hn : n ≤ cap) (hm : cap ≤ maxLen) : Own wr base (.slice (some ⟨g, 0, none⟩) n cap) (marks n) := by
  obtain ⟨_, cur, hh, hs, hc⟩ := h
  refine ⟨by simp, .inr ⟨g, cap, cur, by rw [marks_length], hb, hh, by rw [marks_length]; exact hn, hm, by simpa using hs, ?_⟩⟩
  rw [marks_length, Nat.mul_one]
  apply List.ext_getElem?
  intro i
  by_cases hi : i < n
  · rw [List.getElem?_take, if_pos hi, Array.getElem?_toList, hc i hi]
    simp [marks, hi]
  · rw [List.getElem?_eq_none (by simp; omega), List.getElem?_eq_none (by simp [marks]; omega)]

theorem own_ne {w1 w2 : World} {b1 b2 : Nat} {v1 v2 : Value} {z1 z2 : List Int} (h1 : Own w1 b1 v1 z1) (h2 : Own w2 b2 v2 z2) (hb : w1.heap.size ≤ b2) :
    (v1.ownBlock = none ∨ v1.ownBlock ≠ v2.ownBlock) ∧ (v2.ownBlock = none ∨ v2.ownBlock ≠ v1.ownBlock) := by
  have key : ∀ k, v1.ownBlock = some k → v2.ownBlock = some k → False := fun k e e2 => by
    have a := (World.ownsRow.lt h1 k e).2
    have b := (World.ownsRow.lt h2 k e2).1
    omega
  constructor
  · cases e : v1.ownBlock with
    | none => exact .inl rfl
    | some k => exact .inr (fun e2 => key k e e2.symm)
  · cases e : v2.ownBlock with
    | none => exact .inl rfl
    | some k => exact .inr (fun e2 => key k e2.symm e)

theorem drew_refl (w : World) (n : Nat) : Below w.heap.size w (w.drewN n) := bel_drewN (Below.refl _ _) n

theorem below_own {B : Nat} {w0 w w' : World} {base : Nat} {v : Value} {zs : List Int} (hb : Below B w0 w) (h : Own w base v zs) (hg : w.grownBy w' v.ownBlock) (h1 : B ≤ base) (h2 : B ≤ w.heap.size) : Below B w0 w' :=
  hb.grown hg h2 (fun k hk => by have := (World.ownsRow.lt h k hk).1; omega)

theorem hide {p : Prop} (h : p) : Hid p := h

theorem unhide {p : Prop} (h : Hid p) : p := h

end Go.Proofs.YtmhdneenjoelfaaGreat
