/- Marking from any number on. -/
import Derived.Test.YtmhdneenjoelfaaMarks
namespace Go.Proofs.Ytmhdneenjoelfaa
open Go.RowKit

/-- The marks s, s + 1, .. as bytes. -/
def marksF (s n : Nat) : List Int := (List.range n).map (fun i : Nat => ((s : Int) + (i : Int)) % 256)

theorem marksF_length (s n : Nat) : (marksF s n).length = n := by simp [marksF]

theorem marksF_get (s n i : Nat) (h : i < n) : (marksF s n).getD i 0 = ((s : Int) + (i : Int)) % 256 := by simp [marksF, h]

/-- Behind k marks. -/
def MarkedF (s : Nat) (w wr : World) (g cap k : Nat) : Prop :=
  w.grownBy wr (some g) ∧ ∃ cur, wr.heap[g]? = some (.cells cur 5 (0, 0)) ∧ cur.size = cap ∧ ∀ i, i < k → cur[i]? = some (.int .u8 (((s : Int) + (i : Int)) % 256))

theorem markedF_step {w wr : World} {s g cap k : Nat} (h : MarkedF s w wr g cap k) (hk : k < cap) : MarkedF s w (wr.setCell ⟨g, k, none⟩ (.int .u8 (((s : Int) + (k : Int)) % 256))) g cap (k + 1) := by
  obtain ⟨hg, cur, hh, hs, hc⟩ := h
  refine ⟨⟨hg.os, hg.tape, hg.output, by simpa [World.setCell] using hg.size, fun j hj hne => ?_⟩, cur.setIfInBounds k (.int .u8 (((s : Int) + (k : Int)) % 256)), by simp [World.setCell, Array.getElem?_modify, hh], by simpa using hs, fun i hi => ?_⟩
  · rw [Below.heap_setCell _ _ _ _ (fun e => hne (by simpa using e))]; exact hg.block j hj hne
  · rw [Array.getElem?_setIfInBounds]
    by_cases e : i = k
    · subst e; rw [if_pos rfl, if_pos (by omega)]
    · rw [if_neg (fun h => e h.symm)]; exact hc i (by omega)

theorem markedF_cell {w wr : World} {s g cap k : Nat} (h : MarkedF s w wr g cap k) (hk : k < cap) : (∃ v, wr.cell? ⟨g, k, none⟩ = some v) ∧ wr.frozen? ⟨g, k, none⟩ = false := by
  obtain ⟨_, cur, hh, hs, _⟩ := h
  refine ⟨⟨cur[k]'(by omega), ?_⟩, by simp [World.frozen?, hh]⟩
  simp [World.cell?, hh, hs, hk]

theorem markedF_done {w wr : World} {s base g n cap : Nat} (h : MarkedF s w wr g cap n) (hb : base ≤ g) (hn : n ≤ cap) (hm : cap ≤ maxLen) : Own wr base (.slice (some ⟨g, 0, none⟩) n cap) (marksF s n) := by
  obtain ⟨_, cur, hh, hs, hc⟩ := h
  refine ⟨by simp, .inr ⟨g, cap, cur, by rw [marksF_length], hb, hh, by rw [marksF_length]; exact hn, hm, by simpa using hs, ?_⟩⟩
  rw [marksF_length, Nat.mul_one]
  apply List.ext_getElem?
  intro i
  by_cases hi : i < n
  · rw [List.getElem?_take, if_pos hi, Array.getElem?_toList, hc i hi]
    simp [marksF, hi]
  · rw [List.getElem?_eq_none (by simp; omega), List.getElem?_eq_none (by simp [marksF]; omega)]

end Go.Proofs.Ytmhdneenjoelfaa
