/- A frame's bytes come back; by number alone. -/
import Derived.Test.YtoofkikenfgbpaaDoorRtu3
namespace Go.Proofs.YtoofkikenfgbpaaDoor
open Go.RowKit

set_option linter.unusedVariables false

theorem back_rtu (un : Int) (bs : List Int) (hu : 0 ≤ un ∧ un ≤ 255) (hr : ∀ z ∈ bs, 0 ≤ z ∧ z ≤ 255) (h1 : 1 ≤ bs.length) (h2 : bs.length ≤ 253) :
    gtC (smL (un :: bs)) = 0 ∧ gtU (smL (un :: bs)) = un ∧ gtP (smL (un :: bs)) = bs := by
  have hru : ∀ z ∈ un :: bs, 0 ≤ z ∧ z ≤ 255 := fun z hz => by
    rcases List.mem_cons.1 hz with rfl | h
    · exact hu
    · exact hr z h
  have hc := crcTo_lt (un :: bs) (get_range hru) (un :: bs).length
  have hl : (smL (un :: bs)).length = bs.length + 3 := by rw [smL_len]; simp
  have h0 : crcTo (smL (un :: bs)) (smL (un :: bs)).length = 0 := crc_own (un :: bs) hc _ _ rfl (by omega)
  have hC : gtC (smL (un :: bs)) = 0 := by
    unfold gtC
    rw [if_neg (by omega), if_neg (by omega), if_pos h0]
  refine ⟨hC, ?_, ?_⟩
  · rw [(gt_good hC).1]; simp [smL]
  · rw [(gt_good hC).2, hl]
    simp [smL]

theorem turned_rtu (B : List Int) (hr : ∀ z ∈ B, 0 ≤ z ∧ z ≤ 255) (h0 : crcTo B B.length = 0) (h1 : 4 ≤ B.length) (h2 : B.length ≤ 256) (i : Nat) (y : Int) (hi : i < B.length) (hy : 0 ≤ y ∧ y ≤ 255) (hne : B.getD i 0 ≠ y) : gtC (B.set i y) = 3 := by
  have hz := get_range hr
  have hg : ∀ j, (B.set i y).getD j 0 = if j = i then y else B.getD j 0 := fun j => by
    by_cases e : j = i
    · subst e; simp [hi]
    · rw [if_neg e, List.getD_eq_getElem?_getD, List.getD_eq_getElem?_getD, List.getElem?_set, if_neg (fun h => e h.symm)]
  have hs : ∀ j, 0 ≤ (B.set i y).getD j 0 ∧ (B.set i y).getD j 0 ≤ 255 := fun j => by
    rw [hg j]; split
    · exact hy
    · exact hz j
  have hd := crcTo_ne (B.set i y) B hs hz i (by rw [hg i, if_pos rfl]; exact fun h => hne h.symm) (fun j hj => by rw [hg j, if_neg hj]) B.length hi
  unfold gtC
  rw [List.length_set, if_neg (by omega), if_neg (by omega), if_neg (by rw [← h0]; exact hd)]

end Go.Proofs.YtoofkikenfgbpaaDoor
