/- What serving ends with; words written in place. -/
import Derived.Test.YtcnbbknmofonkaaDev4
import Derived.Test.YtcnbbknmofonkaaDev6
import Derived.BigRegion
namespace Go.Proofs.Ytcnbbknmofonkaa
open Go.RowKit

set_option linter.unusedVariables false

set_option linter.unusedSimpArgs false

/-- A place of a row of the call's own, and that it may be written. -/
theorem OwnI.place {w : World} {B n cap k : Nat} {g : Option Addr} {zs : List Int} (h : OwnI w B (.slice g n cap) zs) (hk : k < n) :
    ∃ b, g = some ⟨b, 0, none⟩ ∧ B ≤ b ∧ b < w.heap.size ∧ w.cell? ⟨b, k, none⟩ = some (.int .i64 (zs.getD k 0)) ∧ w.frozen? ⟨b, k, none⟩ = false ∧ ∀ x, OwnI (w.setCell ⟨b, k, none⟩ (.int .i64 x)) B (.slice g n cap) (zs.set k x) := by
  obtain ⟨b, cur, rfl, hB, hlt, hh, hle, hm, hsz⟩ := h.cells (by omega)
  have hn := h.sl.1
  obtain ⟨b', off', e', _, hc⟩ := cell_atI h.sl.2 (show k < zs.length by omega)
  simp at e'
  obtain ⟨rfl, rfl⟩ := e'
  refine ⟨b, rfl, hB, hlt, by simpa using hc, by simp [World.frozen?, hh], fun x => ?_⟩
  obtain ⟨_, h2⟩ := h
  rcases h2 with ⟨h2, _⟩ | ⟨g', cap', cur', hv, hb', hh', hle', hm', hs', ht'⟩
  · simp at h2
  · simp only [Value.slice.injEq, Option.some.injEq, Addr.mk.injEq] at hv
    obtain ⟨⟨rfl, _, _⟩, _, rfl⟩ := hv
    refine ⟨by simp, .inr ⟨b, cap, cur'.setIfInBounds k (.int .i64 x), by simp [hn], hb', by simp [World.setCell, Array.getElem?_modify, hh'], by simpa using hle', hm', by simpa using hs', ?_⟩⟩
    simp only [List.length_set, Nat.mul_one] at ht' ⊢
    rw [Array.toList_setIfInBounds, List.take_set, ht', List.map_set]

theorem OwnB.place {w : World} {B n cap k : Nat} {g : Option Addr} {zs : List Bool} (h : OwnB w B (.slice g n cap) zs) (hk : k < n) :
    ∃ b, g = some ⟨b, 0, none⟩ ∧ B ≤ b ∧ b < w.heap.size ∧ w.cell? ⟨b, k, none⟩ = some (.bool (zs.getD k false)) ∧ w.frozen? ⟨b, k, none⟩ = false ∧ ∀ x, OwnB (w.setCell ⟨b, k, none⟩ (.bool x)) B (.slice g n cap) (zs.set k x) := by
  obtain ⟨b, cur, rfl, hB, hlt, hh, hle, hm, hsz⟩ := h.cells (by omega)
  have hn := h.sl.1
  obtain ⟨b', off', e', _, hc⟩ := cell_atB h.sl.2 (show k < zs.length by omega)
  simp at e'
  obtain ⟨rfl, rfl⟩ := e'
  refine ⟨b, rfl, hB, hlt, by simpa using hc, by simp [World.frozen?, hh], fun x => ?_⟩
  obtain ⟨_, h2⟩ := h
  rcases h2 with ⟨h2, _⟩ | ⟨g', cap', cur', hv, hb', hh', hle', hm', hs', ht'⟩
  · simp at h2
  · simp only [Value.slice.injEq, Option.some.injEq, Addr.mk.injEq] at hv
    obtain ⟨⟨rfl, _, _⟩, _, rfl⟩ := hv
    refine ⟨by simp, .inr ⟨b, cap, cur'.setIfInBounds k (.bool x), by simp [hn], hb', by simp [World.setCell, Array.getElem?_modify, hh'], by simpa using hle', hm', by simpa using hs', ?_⟩⟩
    simp only [List.length_set, Nat.mul_one] at ht' ⊢
    rw [Array.toList_setIfInBounds, List.take_set, ht', List.map_set]

/-- What serving ends with: an answer in new memory, the device's rows as they are then, nothing else changed. -/
def SV (W0 w w' : World) (e : Ending) (a1 a2 a3 a4 : Option Addr) (l1 l2 l3 l4 c1 c2 c3 c4 : Nat) (cs is : List Bool) (hs rs : List Int) (kd fl pl nn : Int) (ws : List Int) (bs : List Bool) : Prop :=
  ∃ r1 r2 m1 m2 k1 k2, e = .returned (rp kd fl pl nn r1 r2 m1 m2 k1 k2) ∧ OwnI w' w.heap.size (.slice r1 m1 k1) ws ∧ OwnB w' w.heap.size (.slice r2 m2 k2) bs ∧ OwnD w' W0.heap.size a1 a2 a3 a4 l1 l2 l3 l4 c1 c2 c3 c4 cs is hs rs ∧ Below W0.heap.size W0 w' ∧ Chg w w' (Of4 (.slice a1 l1 c1) (.slice a2 l2 c2) (.slice a3 l3 c3) (.slice a4 l4 c4))

theorem bel_setG {B : Nat} {W w : World} {g k : Nat} {v : Value} (hb : Below B W w) (hg : B ≤ g) : Below B W (w.setCell ⟨g, k, none⟩ v) := hb.setCell (p := ⟨g, k, none⟩) hg v

/-- A device behind a word that was written. -/
theorem OwnD.setWord {w : World} {B k : Nat} {a1 a2 a3 a4 : Option Addr} {l1 l2 l3 l4 c1 c2 c3 c4 : Nat} {cs is : List Bool} {hs rs : List Int} (h : OwnD w B a1 a2 a3 a4 l1 l2 l3 l4 c1 c2 c3 c4 cs is hs rs) (hk : k < l3) :
    ∃ b, a3 = some ⟨b, 0, none⟩ ∧ B ≤ b ∧ b < w.heap.size ∧ w.cell? ⟨b, k, none⟩ = some (.int .i64 (hs.getD k 0)) ∧ w.frozen? ⟨b, k, none⟩ = false ∧
      ∀ x, OwnD (w.setCell ⟨b, k, none⟩ (.int .i64 x)) B a1 a2 a3 a4 l1 l2 l3 l4 c1 c2 c3 c4 cs is (hs.set k x) rs ∧ Chg w (w.setCell ⟨b, k, none⟩ (.int .i64 x)) (Of4 (.slice a1 l1 c1) (.slice a2 l2 c2) (.slice a3 l3 c3) (.slice a4 l4 c4)) := by
  obtain ⟨h1, h2, h3, h4, d12, d34⟩ := h
  obtain ⟨b, rfl, hB, hlt, hc, hf, hset⟩ := h3.place hk
  refine ⟨b, rfl, hB, hlt, hc, hf, fun x => ?_⟩
  have gr := grown_setj w b k (.int .i64 x)
  have ob : (Value.slice (some ⟨b, 0, none⟩) l3 c3).ownBlock = some b := rfl
  refine ⟨⟨World.ownsRow.kept h1 gr (ob ▸ ne_types h1 h3 (by decide)), World.ownsRow.kept h2 gr (ob ▸ ne_types h2 h3 (by decide)), hset x, World.ownsRow.kept h4 gr (ob ▸ d34.symm.ne), d12, d34⟩, Chg.ofGrown gr (fun g hg => .inr (.inr (.inl (ob.trans hg))))⟩

end Go.Proofs.Ytcnbbknmofonkaa
