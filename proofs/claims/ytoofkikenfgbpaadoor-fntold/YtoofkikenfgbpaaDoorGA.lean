/- Answers out of bytes: what GetResp ends with. -/
import Derived.Test.YtoofkikenfgbpaaDoorP7
import Derived.Test.YtoofkikenfgbpaaDoorG3
namespace Go.Proofs.YtoofkikenfgbpaaDoor
open Go.RowKit

set_option linter.unusedVariables false

set_option linter.unusedSimpArgs false

def GPA (w w' : World) (e : Ending) (kd fl pl nn : Int) (ws : List Int) (bs : List Bool) (code : Int) : Prop :=
  ∃ a1 a2 l1 l2 c1 c2, e = .returned (.tuple #[rp kd fl pl nn a1 a2 l1 l2 c1 c2, .int .i64 code]) ∧ l1 = ws.length ∧ l2 = bs.length ∧ OwnI w' w.heap.size (.slice a1 l1 c1) ws ∧ OwnB w' w.heap.size (.slice a2 l2 c2) bs ∧ Below w.heap.size w w'

theorem gpa_zero {w w' : World} {c : Int} (hb : Below w.heap.size w w') : GPA w w' (.returned (.tuple #[rp 0 0 0 0 none none 0 0 0 0, .int .i64 c])) 0 0 0 0 [] [] c :=
  ⟨none, none, 0, 0, 0, 0, rfl, rfl, rfl, ⟨rfl, .inl ⟨rfl, rfl⟩⟩, ⟨rfl, .inl ⟨rfl, rfl⟩⟩, hb⟩

/-- Bytes are those of this answer, which is right. -/
def isA (k fl pl nn : Int) (ws : List Int) (bs : List Bool) (zs : List Int) : Bool := okA k fl pl nn ws ws.length bs.length && decide (putA k fl pl nn ws bs = zs)

def EndA (k fl pl nn : Int) (ws : List Int) (bs : List Bool) (zs : List Int) (w w' : World) (e : Ending) : Prop :=
  if isA k fl pl nn ws bs zs = true then GPA w w' e k fl pl nn ws bs 0 else GPA w w' e 0 0 0 0 [] [] 3

theorem enda_yes {k fl pl nn : Int} {ws : List Int} {bs : List Bool} {zs : List Int} {w w' : World} {e : Ending} (h1 : okA k fl pl nn ws ws.length bs.length = true) (h2 : putA k fl pl nn ws bs = zs) (h : GPA w w' e k fl pl nn ws bs 0) : EndA k fl pl nn ws bs zs w w' e := by
  unfold EndA isA; rw [h1, decide_eq_true h2, if_pos (by rfl)]; exact h

theorem enda_no1 {k fl pl nn : Int} {ws : List Int} {bs : List Bool} {zs : List Int} {w w' : World} {e : Ending} (h1 : okA k fl pl nn ws ws.length bs.length = false) (h : GPA w w' e 0 0 0 0 [] [] 3) : EndA k fl pl nn ws bs zs w w' e := by
  unfold EndA isA; rw [h1, if_neg (by simp)]; exact h

theorem enda_no2 {k fl pl nn : Int} {ws : List Int} {bs : List Bool} {zs : List Int} {w w' : World} {e : Ending} (h2 : ¬ putA k fl pl nn ws bs = zs) (h : GPA w w' e 0 0 0 0 [] [] 3) : EndA k fl pl nn ws bs zs w w' e := by
  unfold EndA isA; rw [decide_eq_false h2, if_neg (by simp)]; exact h

/-- What GetResp ends with. -/
def GZ (zs : List Int) (w w' : World) (e : Ending) : Prop :=
  if zs.length = 0 ∨ kindB (zs.getD 0 0 % 128) = false then GPA w w' e 0 0 0 0 [] [] 1
  else if 128 ≤ zs.getD 0 0 then EndA (zs.getD 0 0 - 128) (zs.getD 1 0) 0 0 [] [] zs w w' e
  else if zs.getD 0 0 = 1 ∨ zs.getD 0 0 = 2 then EndA (zs.getD 0 0) 0 0 0 [] (outU (zs.drop 2) (8 * ((zs.length : Int) - 2))) zs w w' e
  else if zs.getD 0 0 = 3 ∨ zs.getD 0 0 = 4 ∨ zs.getD 0 0 = 23 then EndA (zs.getD 0 0) 0 0 0 (wsF zs 2) [] zs w w' e
  else if zs.getD 0 0 = 5 then EndA 5 0 (wAt zs 1) 0 [] [wAt zs 3 == 65280] zs w w' e
  else if zs.getD 0 0 = 6 ∨ zs.getD 0 0 = 22 then EndA (zs.getD 0 0) 0 (wAt zs 1) 0 (wsF zs 3) [] zs w w' e
  else EndA (zs.getD 0 0) 0 (wAt zs 1) (wAt zs 3) [] [] zs w w' e

theorem wAtA_here (pre : List Int) (x y : Int) (r : List Int) : wAt (pre ++ x :: y :: r) pre.length = x * 256 + y := by
  unfold wAt
  rw [if_pos (by simp)]
  simp [List.getD_eq_getElem?_getD]

theorem five_bit {x : Bool} {pl : Int} {zs : List Int} (h : putA 5 0 pl 0 [] [x] = zs) : wAt zs 3 = bif x then 65280 else 0 := by
  subst h
  have := wAtA_here [5, pl / 256 % 256, pl % 256] ((bif x then 65280 else 0 : Int) / 256 % 256) ((bif x then 65280 else 0 : Int) % 256) []
  cases x <;> exact this

theorem enda5 {pl : Int} {zs : List Int} {w w' : World} {e : Ending} (h : EndA 5 0 pl 0 [] [wAt zs 3 != 0] zs w w' e) : EndA 5 0 pl 0 [] [wAt zs 3 == 65280] zs w w' e := by
  by_cases hx : (wAt zs 3 != 0) = (wAt zs 3 == 65280)
  · rw [← hx]; exact h
  · have n1 : ¬ putA 5 0 pl 0 [] [wAt zs 3 != 0] = zs := by
      intro hh
      have := five_bit hh
      apply hx
      cases hb : (wAt zs 3 != 0)
      · rw [hb] at this; simp at this; rw [this]; rfl
      · rw [hb] at this; simp at this; rw [this]; rfl
    have n2 : ¬ putA 5 0 pl 0 [] [wAt zs 3 == 65280] = zs := by
      intro hh
      have := five_bit hh
      apply hx
      cases hb : (wAt zs 3 == 65280)
      · rw [hb] at this; simp at this; rw [this]; rfl
      · rw [hb] at this; simp at this; rw [this]; rfl
    have h' : GPA w w' e 0 0 0 0 [] [] 3 := by
      unfold EndA isA at h; rw [decide_eq_false n1, if_neg (by simp)] at h; exact h
    exact enda_no2 n2 h'

theorem isA_small {k fl pl nn : Int} {ws : List Int} {bs : List Bool} {zs : List Int} (h : isA k fl pl nn ws bs zs = true) : ws.length ≤ 2000 ∧ bs.length ≤ 2000 := by
  unfold isA at h
  simp only [Bool.and_eq_true] at h
  have hb := h.1
  clear h
  generalize ws.length = L1 at *
  generalize bs.length = L2 at *
  have hk : kindB k = true := by unfold okA at hb; simp only [Bool.and_eq_true] at hb; exact hb.1
  by_cases h0 : fl = 0
  · subst h0
    obtain rfl | rfl | rfl | rfl | rfl | rfl | rfl | rfl | rfl | rfl := of_decide_eq_true hk
    all_goals (simp [okA, okAK, kindB, inB, zr4] at hb; omega)
  · have hp : 0 < fl := by unfold okA at hb; simp only [Bool.and_eq_true] at hb; have := inB_yes hb.2.1; omega
    unfold okA at hb
    rw [if_pos hp] at hb
    simp [zr4] at hb
    omega

theorem endA_form (k fl pl nn : Int) (ws : List Int) (bs : List Bool) (zs : List Int) : ∃ kd fl' pl' nn' ws' bs' code, (∀ w w' e, EndA k fl pl nn ws bs zs w w' e → GPA w w' e kd fl' pl' nn' ws' bs' code) ∧ ws'.length ≤ 2000 ∧ bs'.length ≤ 2000 := by
  by_cases h : isA k fl pl nn ws bs zs = true
  · exact ⟨k, fl, pl, nn, ws, bs, 0, fun w w' e hh => by unfold EndA at hh; rw [if_pos h] at hh; exact hh, isA_small h⟩
  · exact ⟨0, 0, 0, 0, [], [], 3, fun w w' e hh => by unfold EndA at hh; rw [if_neg h] at hh; exact hh, by simp, by simp⟩

theorem gz_form (zs : List Int) : ∃ kd fl pl nn ws bs code, (∀ w w' e, GZ zs w w' e → GPA w w' e kd fl pl nn ws bs code) ∧ ws.length ≤ 2000 ∧ bs.length ≤ 2000 := by
  unfold GZ
  split
  · exact ⟨0, 0, 0, 0, [], [], 1, fun w w' e h => h, by simp, by simp⟩
  · split
    · exact endA_form _ _ _ _ _ _ _
    · split
      · exact endA_form _ _ _ _ _ _ _
      · split
        · exact endA_form _ _ _ _ _ _ _
        · split
          · exact endA_form _ _ _ _ _ _ _
          · split
            · exact endA_form _ _ _ _ _ _ _
            · exact endA_form _ _ _ _ _ _ _

theorem and127 : ∀ x : Nat, x < 256 → bits .and .u8 (x : Int) 127 = (x : Int) % 128 := by decide +kernel

end Go.Proofs.YtoofkikenfgbpaaDoor
