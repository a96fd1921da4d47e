/- New devices. -/
import Derived.Test.YtcnbbknmofonkaaDev2
namespace Go.Proofs.Ytcnbbknmofonkaa
open Go.RowKit

set_option linter.unusedVariables false

set_option linter.unusedSimpArgs false

/-- A device of the call's own. -/
def ND (w w' : World) (e : Ending) (cs is : List Bool) (hs rs : List Int) : Prop :=
  ∃ a1 a2 a3 a4 l1 l2 l3 l4 c1 c2 c3 c4, e = .returned (dv a1 a2 a3 a4 l1 l2 l3 l4 c1 c2 c3 c4) ∧ OwnD w' w.heap.size a1 a2 a3 a4 l1 l2 l3 l4 c1 c2 c3 c4 cs is hs rs ∧ Below w.heap.size w w'

theorem inB_yes' {x lo hi : Int} (h : inB x lo hi = true) : lo ≤ x ∧ x ≤ hi := by unfold inB at h; exact of_decide_eq_true h

theorem ownI_nil0 (w : World) (B : Nat) : OwnI w B (.slice none 0 0) [] := ⟨rfl, .inl ⟨rfl, rfl⟩⟩

theorem ownB_nil0 (w : World) (B : Nat) : OwnB w B (.slice none 0 0) [] := ⟨rfl, .inl ⟨rfl, rfl⟩⟩

theorem ownD_nil (w : World) (B : Nat) : OwnD w B none none none none 0 0 0 0 0 0 0 0 [] [] [] [] := ⟨ownB_nil0 _ _, ownB_nil0 _ _, ownI_nil0 _ _, ownI_nil0 _ _, .inl rfl, .inl rfl⟩

theorem madeB (w : World) (m : Nat) (hm : m ≤ 2000000) : OwnB (w.alloc (.cells (madeCells #[.bool false] m) 4)) w.heap.size (.slice (some ⟨w.heap.size, 0, none⟩) m m) (List.replicate m false) :=
  OwnB.ofRow ((World.rowIs_made w (.bool false) m 4).congr (fun i hi => by simp [List.getD_eq_getElem?_getD, List.getElem?_replicate, hi])) (by simp) (Nat.le_refl _) (by unfold maxLen; omega)

theorem madeI (w : World) (m : Nat) (hm : m ≤ 2000000) : OwnI (w.alloc (.cells (madeCells #[.int .i64 0] m) 3)) w.heap.size (.slice (some ⟨w.heap.size, 0, none⟩) m m) (List.replicate m 0) :=
  OwnI.ofRow ((World.rowIs_made w (.int .i64 0) m 3).congr (fun i hi => by simp [List.getD_eq_getElem?_getD, List.getElem?_replicate, hi])) (by simp) (Nat.le_refl _) (by unfold maxLen; omega)

/-- Four rows made one behind the other. -/
theorem made4 (w : World) (m : Nat) (hm : m ≤ 2000000) :
    OwnD ((((w.alloc (.cells (madeCells #[.bool false] m) 4)).alloc (.cells (madeCells #[.bool false] m) 4)).alloc (.cells (madeCells #[.int .i64 0] m) 3)).alloc (.cells (madeCells #[.int .i64 0] m) 3)) w.heap.size
      (some ⟨w.heap.size, 0, none⟩) (some ⟨w.heap.size + 1, 0, none⟩) (some ⟨w.heap.size + 1 + 1, 0, none⟩) (some ⟨w.heap.size + 1 + 1 + 1, 0, none⟩) m m m m m m m m (List.replicate m false) (List.replicate m false) (List.replicate m 0) (List.replicate m 0) := by
  have o1 := madeB w m hm
  have o2 := madeB (w.alloc (.cells (madeCells #[.bool false] m) 4)) m hm
  have o3 := madeI ((w.alloc (.cells (madeCells #[.bool false] m) 4)).alloc (.cells (madeCells #[.bool false] m) 4)) m hm
  have o4 := madeI (((w.alloc (.cells (madeCells #[.bool false] m) 4)).alloc (.cells (madeCells #[.bool false] m) 4)).alloc (.cells (madeCells #[.int .i64 0] m) 3)) m hm
  have d12 := Df.ofBase o1 o2 (Nat.le_refl _)
  have d34 := Df.ofBase o3 o4 (Nat.le_refl _)
  have q1 := ((o1.below (bel_alloc _ (.cells (madeCells #[.bool false] m) 4))).below (bel_alloc _ (.cells (madeCells #[.int .i64 0] m) 3))).below (bel_alloc _ (.cells (madeCells #[.int .i64 0] m) 3))
  have q2 := (o2.below (bel_alloc _ (.cells (madeCells #[.int .i64 0] m) 3))).below (bel_alloc _ (.cells (madeCells #[.int .i64 0] m) 3))
  have q3 := o3.below (bel_alloc _ (.cells (madeCells #[.int .i64 0] m) 3))
  simp only [World.size_alloc] at q2 q3 o4 d12 d34
  exact ⟨q1, q2.mono (by omega), q3.mono (by omega), o4.mono (by omega), d12, d34⟩

theorem ownB_at {w : World} {B g m : Nat} (h : w.heap[g]? = some (.cells (madeCells #[.bool false] m) 4 (0, 0))) (hb : B ≤ g) (hm : m ≤ 2000000) : OwnB w B (.slice (some ⟨g, 0, none⟩) m m) (List.replicate m false) := by
  have hr : w.rowIs g 4 m (fun _ => .bool false) := by
    obtain ⟨c, hc, r⟩ := World.rowIs_made ({ w with heap := #[] } : World) (.bool false) m 4
    refine ⟨c, ?_, r⟩
    rw [h]
    exact hc
  exact OwnB.ofRow (hr.congr (fun i hi => by simp [List.getD_eq_getElem?_getD, List.getElem?_replicate, hi])) (by simp) hb (by unfold maxLen; omega)

theorem ownI_at {w : World} {B g m : Nat} (h : w.heap[g]? = some (.cells (madeCells #[.int .i64 0] m) 3 (0, 0))) (hb : B ≤ g) (hm : m ≤ 2000000) : OwnI w B (.slice (some ⟨g, 0, none⟩) m m) (List.replicate m 0) := by
  have hr : w.rowIs g 3 m (fun _ => .int .i64 0) := by
    obtain ⟨c, hc, r⟩ := World.rowIs_made ({ w with heap := #[] } : World) (.int .i64 0) m 3
    refine ⟨c, ?_, r⟩
    rw [h]
    exact hc
  exact OwnI.ofRow (hr.congr (fun i hi => by simp [List.getD_eq_getElem?_getD, List.getElem?_replicate, hi])) (by simp) hb (by unfold maxLen; omega)

theorem heap5 (w : World) (o0 o1 o2 o3 o4 : Obj) (W : World) (hW : W = (((((w.alloc o0).alloc o1).alloc o2).alloc o3).alloc o4).drew) :
    W.heap[w.heap.size + 1]? = some o1 ∧ W.heap[w.heap.size + 1 + 1]? = some o2 ∧ W.heap[w.heap.size + 1 + 1 + 1]? = some o3 ∧ W.heap[w.heap.size + 1 + 1 + 1 + 1]? = some o4 ∧ Below w.heap.size w W := by
  have hb : Below w.heap.size w W := by
    rw [hW]; exact (bel_next (bel_next (bel_next (bel_next (bel_alloc _ _) (bel_alloc _ _)) (bel_alloc _ _)) (bel_alloc _ _)) (bel_alloc _ _)).drew
  have e : W.heap = ((((w.heap.push o0).push o1).push o2).push o3).push o4 := by rw [hW]; rfl
  refine ⟨?_, ?_, ?_, ?_, hb⟩ <;> rw [e] <;> simp only [Array.getElem?_push, Array.size_push] <;> repeat (first | rw [if_pos trivial] | rw [if_pos (by omega)] | rw [if_neg (by omega)])

theorem nd_at {w W : World} {m g1 g2 g3 g4 : Nat} (hm : m ≤ 2000000) (h1 : W.heap[g1]? = some (.cells (madeCells #[.bool false] m) 4 (0, 0))) (h2 : W.heap[g2]? = some (.cells (madeCells #[.bool false] m) 4 (0, 0))) (h3 : W.heap[g3]? = some (.cells (madeCells #[.int .i64 0] m) 3 (0, 0))) (h4 : W.heap[g4]? = some (.cells (madeCells #[.int .i64 0] m) 3 (0, 0)))
    (q : w.heap.size ≤ g1 ∧ w.heap.size ≤ g2 ∧ w.heap.size ≤ g3 ∧ w.heap.size ≤ g4 ∧ g1 ≠ g2 ∧ g3 ≠ g4) (hb : Below w.heap.size w W) :
    ND w W (.returned (dv (some ⟨g1, 0, none⟩) (some ⟨g2, 0, none⟩) (some ⟨g3, 0, none⟩) (some ⟨g4, 0, none⟩) m m m m m m m m)) (List.replicate m false) (List.replicate m false) (List.replicate m 0) (List.replicate m 0) :=
  ⟨_, _, _, _, _, _, _, _, _, _, _, _, rfl, ⟨ownB_at h1 q.1 hm, ownB_at h2 q.2.1 hm, ownI_at h3 q.2.2.1 hm, ownI_at h4 q.2.2.2.1 hm, .inr (.inr (by simp [Value.ownBlock]; exact q.2.2.2.2.1)), .inr (.inr (by simp [Value.ownBlock]; exact q.2.2.2.2.2))⟩, hb⟩

/-- How many places a new device has. -/
def dnN (n : Int) : Nat := if 0 ≤ n ∧ n ≤ 64 then n.toNat else 0

abbrev NDn (w w' : World) (e : Ending) (m : Nat) : Prop := ND w w' e (List.replicate m false) (List.replicate m false) (List.replicate m 0) (List.replicate m 0)

end Go.Proofs.Ytcnbbknmofonkaa
