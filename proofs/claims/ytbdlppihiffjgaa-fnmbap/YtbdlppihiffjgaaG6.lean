/- Questions out of bytes: the model and the program tell the same. -/
import Derived.Test.YtbdlppihiffjgaaG5
namespace Go.Proofs.Ytbdlppihiffjgaa
open Go.RowKit

set_option linter.unusedVariables false

set_option linter.unusedSimpArgs false

theorem spz_same {k : Int} {zs : List Int} {w w' : World} {e : Ending} (hc : ¬ (zs.length = 0 ∨ kindB (zs.getD 0 0) = false)) (hk : zs.getD 0 0 = k) (e1 : sW k zs = gW k zs) (e2 : sB k zs = gB k zs) (h : SPz k zs w w' e) : GPz zs w w' e := by
  have e3 : sOk k zs = gOk k zs := by unfold sOk gOk; rw [e1, e2]
  unfold SPz at h
  by_cases hy : sOk k zs = true
  · rw [if_pos hy, e1, e2] at h
    exact gpz_yes hc hk (e3 ▸ hy) h
  · rw [if_neg hy] at h
    exact gpz_no hc hk (e3 ▸ hy) h

theorem spz_none {k : Int} {zs : List Int} {w w' : World} {e : Ending} (hc : ¬ (zs.length = 0 ∨ kindB (zs.getD 0 0) = false)) (hk : zs.getD 0 0 = k) (e1 : ¬ sOk k zs = true) (e2 : ¬ gOk k zs = true) (h : SPz k zs w w' e) : GPz zs w w' e := by
  unfold SPz at h
  rw [if_neg e1] at h
  exact gpz_no hc hk e2 h

theorem ok_put {k : Int} {zs : List Int} (h : gOk k zs = true) : putL k (wAt zs 1) (gN k zs) (gA k zs) (gW k zs) (gB k zs) = zs := by
  unfold gOk at h
  simp at h
  exact h.2

theorem ok_puts {k : Int} {zs : List Int} (h : sOk k zs = true) : okR k (wAt zs 1) (gN k zs) (gA k zs) (sW k zs) (sW k zs).length (sB k zs).length = true ∧ putL k (wAt zs 1) (gN k zs) (gA k zs) (sW k zs) (sB k zs) = zs := by
  unfold sOk at h
  simp at h
  exact h

theorem spz_6 {zs : List Int} {w w' : World} {e : Ending} (hc : ¬ (zs.length = 0 ∨ kindB (zs.getD 0 0) = false)) (hk : zs.getD 0 0 = 6) (h : SPz 6 zs w w' e) : GPz zs w w' e := by
  by_cases hl : zs.length = 5
  · refine spz_same hc hk ?_ rfl h
    show wsF zs 3 = [wAt zs 3]
    unfold wsF
    rw [hl]
    rfl
  · refine spz_none hc hk (fun hy => hl ?_) (fun hy => hl ?_) h
    · obtain ⟨h1, h2⟩ := ok_puts hy
      rw [okI_6 _ _ _ _ _ _ rfl] at h1
      simp at h1
      rw [← h2]
      show (6 :: wbs (wAt zs 1 :: sW 6 zs)).length = 5
      simp [wbs, wbs_length]
      omega
    · rw [← ok_put hy]
      rfl

theorem spz_22 {zs : List Int} {w w' : World} {e : Ending} (hc : ¬ (zs.length = 0 ∨ kindB (zs.getD 0 0) = false)) (hk : zs.getD 0 0 = 22) (h : SPz 22 zs w w' e) : GPz zs w w' e := by
  by_cases hl : zs.length = 7
  · refine spz_same hc hk ?_ rfl h
    show wsF zs 3 = [wAt zs 3, wAt zs 5]
    unfold wsF
    rw [hl]
    rfl
  · refine spz_none hc hk (fun hy => hl ?_) (fun hy => hl ?_) h
    · obtain ⟨h1, h2⟩ := ok_puts hy
      rw [okI_22 _ _ _ _ _ _ rfl] at h1
      simp at h1
      rw [← h2]
      show (22 :: wbs (wAt zs 1 :: sW 22 zs)).length = 7
      simp [wbs, wbs_length]
      omega
    · rw [← ok_put hy]
      rfl

theorem put5_true {zs : List Int} {pl : Int} (h : 5 :: wbs [pl, 65280] = zs) : wAt zs 3 = 65280 := by
  subst h
  rfl

theorem put5_false {zs : List Int} {pl : Int} (h : 5 :: wbs [pl, 0] = zs) : wAt zs 3 = 0 := by
  subst h
  rfl

theorem spz_5 {zs : List Int} {w w' : World} {e : Ending} (hc : ¬ (zs.length = 0 ∨ kindB (zs.getD 0 0) = false)) (hk : zs.getD 0 0 = 5) (h : SPz 5 zs w w' e) : GPz zs w w' e := by
  by_cases h0 : wAt zs 3 = 0
  · refine spz_same hc hk rfl ?_ h
    show [wAt zs 3 != 0] = [wAt zs 3 == 65280]
    rw [h0]
    rfl
  · by_cases h1 : wAt zs 3 = 65280
    · refine spz_same hc hk rfl ?_ h
      show [wAt zs 3 != 0] = [wAt zs 3 == 65280]
      rw [h1]
      rfl
    · refine spz_none hc hk (fun hy => h1 ?_) (fun hy => h0 ?_) h
      · have h2 := (ok_puts hy).2
        have e1 : (wAt zs 3 != 0) = true := by simp [h0]
        have h3 : 5 :: wbs [wAt zs 1, bif (wAt zs 3 != 0) then 65280 else 0] = zs := h2
        rw [e1] at h3
        exact put5_true h3
      · have h2 := ok_put hy
        have e1 : (wAt zs 3 == 65280) = false := by simp [h1]
        have h3 : 5 :: wbs [wAt zs 1, bif (wAt zs 3 == 65280) then 65280 else 0] = zs := h2
        rw [e1] at h3
        exact put5_false h3

end Go.Proofs.Ytbdlppihiffjgaa
