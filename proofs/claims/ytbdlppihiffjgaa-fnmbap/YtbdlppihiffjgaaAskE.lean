/- A question's bytes, cut or with a byte more, are no question's; a question's bytes are bytes; what a right question touches. By number alone. -/
import Derived.Test.YtbdlppihiffjgaaAskM
namespace Go.Proofs.Ytbdlppihiffjgaa
open Go.RowKit

set_option linter.unusedVariables false

set_option linter.unusedSimpArgs false

theorem putL_rg (kd pl nn wa : Int) (ws : List Int) (bs : List Bool) (hb : okR kd pl nn wa ws ws.length bs.length = true) : ∀ z ∈ putL kd pl nn wa ws bs, 0 ≤ z ∧ z ≤ 255 := by
  have hk := okR_kind hb
  intro z hz
  unfold putL at hz
  have hw := wbs_rg
  have hp := packL_rg bs
  split at hz
  · rcases List.mem_cons.mp hz with h | h
    · omega
    · exact hw _ z h
  · split at hz
    · rcases List.mem_cons.mp hz with h | h
      · omega
      · exact hw _ z h
    · split at hz
      · rcases List.mem_append.mp hz with h | h
        · rcases List.mem_append.mp h with h | h
          · rcases List.mem_cons.mp h with h | h
            · omega
            · exact hw _ z h
          · simp at h; omega
        · exact hp z h
      · split at hz
        · rcases List.mem_append.mp hz with h | h
          · rcases List.mem_append.mp h with h | h
            · rcases List.mem_cons.mp h with h | h
              · omega
              · exact hw _ z h
            · simp at h; omega
          · exact hw _ z h
        · split at hz
          · rcases List.mem_append.mp hz with h | h
            · rcases List.mem_append.mp h with h | h
              · rcases List.mem_cons.mp h with h | h
                · omega
                · exact hw _ z h
              · simp at h; omega
            · exact hw _ z h
          · rcases List.mem_cons.mp hz with h | h
            · omega
            · exact hw _ z h

theorem getD_take {zs : List Int} {m i : Nat} (h : i < m) : (zs.take m).getD i 0 = zs.getD i 0 := by
  simp [List.getD_eq_getElem?_getD, List.getElem?_take, h]

theorem getD_more {zs : List Int} {x : Int} {i : Nat} (h : i < zs.length) : (zs ++ [x]).getD i 0 = zs.getD i 0 := by
  simp [List.getD_eq_getElem?_getD, List.getElem?_append_left h]

theorem wAt_take {zs : List Int} {m i : Nat} (h : i + 2 ≤ m) (hm : m ≤ zs.length) : wAt (zs.take m) i = wAt zs i := by
  unfold wAt
  rw [List.length_take, if_pos (by omega), if_pos (by omega), getD_take (by omega), getD_take (by omega)]

theorem wAt_more {zs : List Int} {x : Int} {i : Nat} (h : i + 2 ≤ zs.length) : wAt (zs ++ [x]) i = wAt zs i := by
  unfold wAt
  rw [List.length_append, if_pos (by simp; omega), if_pos h]
  simp [List.getD_eq_getElem?_getD, List.getElem?_append_left (show i < zs.length by omega), List.getElem?_append_left (show i + 1 < zs.length by omega)]

theorem wAt_nn {zs : List Int} (hr : ∀ z ∈ zs, 0 ≤ z ∧ z ≤ 255) (i : Nat) : 0 ≤ wAt zs i := by
  unfold wAt
  split
  · have h1 := get_range hr i
    have h2 := get_range hr (i + 1)
    omega
  · omega

theorem cut_bad {k : Int} {zs : List Int} (hr : ∀ z ∈ zs, 0 ≤ z ∧ z ≤ 255) (h : gOk k zs = true) : ¬ gOk k (zs.take (zs.length - 1)) = true := by
  intro h'
  have e1 := ok_len h
  have e2 := ok_len h'
  have n3 := wAt_nn hr 3
  have n7 := wAt_nn hr 7
  rw [List.length_take] at e2
  unfold lenG at e1 e2
  by_cases hk : k = 22
  · rw [if_pos hk] at e1 e2; omega
  · rw [if_neg hk] at e1 e2
    by_cases hk : k = 15
    · rw [if_pos hk] at e1 e2
      rw [wAt_take (by omega) (by omega)] at e2; omega
    · rw [if_neg hk] at e1 e2
      by_cases hk : k = 16
      · rw [if_pos hk] at e1 e2
        rw [wAt_take (by omega) (by omega)] at e2; omega
      · rw [if_neg hk] at e1 e2
        by_cases hk : k = 23
        · rw [if_pos hk] at e1 e2
          rw [wAt_take (by omega) (by omega)] at e2; omega
        · rw [if_neg hk] at e1 e2; omega

theorem more_bad {k : Int} {zs : List Int} {x : Int} (hr : ∀ z ∈ zs, 0 ≤ z ∧ z ≤ 255) (h : gOk k zs = true) : ¬ gOk k (zs ++ [x]) = true := by
  intro h'
  have e1 := ok_len h
  have e2 := ok_len h'
  have n3 := wAt_nn hr 3
  have n7 := wAt_nn hr 7
  rw [List.length_append] at e2
  simp only [List.length_cons, List.length_nil] at e2
  unfold lenG at e1 e2
  by_cases hk : k = 22
  · rw [if_pos hk] at e1 e2; omega
  · rw [if_neg hk] at e1 e2
    by_cases hk : k = 15
    · rw [if_pos hk] at e1 e2
      rw [wAt_more (by omega)] at e2; omega
    · rw [if_neg hk] at e1 e2
      by_cases hk : k = 16
      · rw [if_pos hk] at e1 e2
        rw [wAt_more (by omega)] at e2; omega
      · rw [if_neg hk] at e1 e2
        by_cases hk : k = 23
        · rw [if_pos hk] at e1 e2
          rw [wAt_more (by omega)] at e2; omega
        · rw [if_neg hk] at e1 e2; omega

theorem ok_five {k : Int} {zs : List Int} (hr : ∀ z ∈ zs, 0 ≤ z ∧ z ≤ 255) (h : gOk k zs = true) : 5 ≤ zs.length := by
  have e1 := ok_len h
  have n3 := wAt_nn hr 3
  have n7 := wAt_nn hr 7
  unfold lenG at e1
  split at e1
  · omega
  · split at e1
    · omega
    · split at e1
      · omega
      · split at e1 <;> omega

/-- What the three calls of GetReq end with. -/
theorem get_back {kd pl nn wa : Int} {ws : List Int} {bs : List Bool} (hb : okR kd pl nn wa ws ws.length bs.length = true) {w w' : World} {e : Ending} (h : GPz (putL kd pl nn wa ws bs) w w' e) : GP w w' e kd pl nn wa ws bs 0 := by
  obtain ⟨⟨b0, b1, b2, b3, b4, b5⟩, hg⟩ := asked_back kd pl nn wa ws bs hb
  have hr := putL_rg kd pl nn wa ws bs hb
  have h5 := ok_five hr hg
  have hk : kindB kd = true := decide_eq_true (okR_kind hb)
  unfold GPz at h
  rw [b0, if_neg (by rw [hk]; simp; intro hh; rw [hh] at h5; simp at h5), if_pos hg, b1, b2, b3, b4, b5] at h
  exact h

theorem get_bad {kd : Int} {zs : List Int} {w w' : World} {e : Ending} (h0 : zs.getD 0 0 = kd) (h1 : zs.length ≠ 0) (hk : kindB kd = true) (hn : ¬ gOk kd zs = true) (h : GPz zs w w' e) : GP w w' e 0 0 0 0 [] [] 3 := by
  unfold GPz at h
  rw [h0, if_neg (by rw [hk]; simpa using h1), if_neg hn] at h
  exact h

theorem get_cut {kd pl nn wa : Int} {ws : List Int} {bs : List Bool} (hb : okR kd pl nn wa ws ws.length bs.length = true) {w w' : World} {e : Ending} (h : GPz ((putL kd pl nn wa ws bs).take ((putL kd pl nn wa ws bs).length - 1)) w w' e) : GP w w' e 0 0 0 0 [] [] 3 := by
  obtain ⟨⟨b0, _⟩, hg⟩ := asked_back kd pl nn wa ws bs hb
  have hr := putL_rg kd pl nn wa ws bs hb
  have h5 := ok_five hr hg
  exact get_bad (by rw [getD_take (by omega)]; exact b0) (by rw [List.length_take]; omega) (decide_eq_true (okR_kind hb)) (cut_bad hr hg) h

theorem get_more {kd pl nn wa : Int} {ws : List Int} {bs : List Bool} (hb : okR kd pl nn wa ws ws.length bs.length = true) {w w' : World} {e : Ending} (h : GPz (putL kd pl nn wa ws bs ++ [0]) w w' e) : GP w w' e 0 0 0 0 [] [] 3 := by
  obtain ⟨⟨b0, _⟩, hg⟩ := asked_back kd pl nn wa ws bs hb
  have hr := putL_rg kd pl nn wa ws bs hb
  have h5 := ok_five hr hg
  exact get_bad ((getD_more (by omega)).trans b0) (by simp) (decide_eq_true (okR_kind hb)) (more_bad hr hg) h

theorem touches {kd pl nn wa : Int} {ws : List Int} {l1 l2 : Nat} (hb : okR kd pl nn wa ws l1 l2 = true) : 0 ≤ spc0 kd ∧ spc0 kd ≤ 3 ∧ 1 ≤ spcN kd nn l1 l2 ∧ pl + spcN kd nn l1 l2 ≤ 65536 ∧ 0 ≤ pl ∧ spcN kd nn l1 l2 ≤ 65536 ∧ wrK kd = decide (kd > 4) := by
  have hk := okR_kind hb
  unfold okR at hb
  simp only [Bool.and_eq_true] at hb
  obtain ⟨_, hp, hb⟩ := hb
  unfold inB at hp
  have hp := of_decide_eq_true hp
  obtain rfl | rfl | rfl | rfl | rfl | rfl | rfl | rfl | rfl | rfl := hk
  all_goals (
    simp [okK, zrB, inB, fitB] at hb
    simp [spc0, spcN, wrK]
    omega)

end Go.Proofs.Ytbdlppihiffjgaa
