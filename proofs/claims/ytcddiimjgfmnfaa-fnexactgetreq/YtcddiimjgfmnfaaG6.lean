/- Questions out of bytes: the model and the program tell the same. -/
import Derived.Test.YtcddiimjgfmnfaaG5
namespace Go.Proofs.Ytcddiimjgfmnfaa
open Go.RowKit

set_option linter.unusedVariables false

set_option linter.unusedSimpArgs false

theorem spz_same {k : Int} {zs : List Int} {w w' : World} {e : Ending} (hc : ¬ (zs.length = 0 ∨ kindB (zs.getD 0 0) = false)) (hk : zs.getD 0 0 = k) (e1 : sW k zs = gW k zs) (e2 : sB k zs = gB k zs) (h : SPz k zs w w' e) : GPz zs w w' e := by
  have e3 : sOk k zs = gOk k zs := by unfold sOk gOk; rw [e1, e2]
  unfold SPz at h
  by_cases hy : sOk k zs = true
  · rw [if_pos hy, e1, e2] at h
    exact gpz_yes hc hk (e3 ▸ hy) h
  · rw [if_neg hy] at h
    exact gpz_no hc hk (e3 ▸ hy) h

theorem spz_none {k : Int} {zs : List Int} {w w' : World} {e : Ending} (hc : ¬ (zs.length = 0 ∨ kindB (zs.getD 0 0) = false)) (hk : zs.getD 0 0 = k) (e1 : ¬ sOk k zs = true) (e2 : ¬ gOk k zs = true) (h : SPz k zs w w' e) : GPz zs w w' e := by
  unfold SPz at h
  rw [if_neg e1] at h
  exact gpz_no hc hk e2 h

theorem ok_put {k : Int} {zs : List Int} (h : gOk k zs = true) : putL k (wAt zs 1) (gN k zs) (gA k zs) (gW k zs) (gB k zs) = zs := by
  unfold gOk at h
  simp at h
  exact h.2

theorem ok_puts {k : Int} {zs : List Int} (h : sOk k zs = true) : okR k (wAt zs 1) (gN k zs) (gA k zs) (sW k zs) (sW k zs).length (sB k zs).length = true ∧ putL k (wAt zs 1) (gN k zs) (gA k zs) (sW k zs) (sB k zs) = zs := by
  unfold sOk at h
  simp at h
  exact h

theorem spz_6 {zs : List Int} {w w' : World} {e : Ending} (hc : ¬ (zs.length = 0 ∨ kindB (zs.getD 0 0) = false)) (hk : zs.getD 0 0 = 6) (h : SPz 6 zs w w' e) : GPz zs w w' e := by
  by_cases hl : zs.length = 5
  · refine spz_same hc hk ?_ rfl h
    show wsF zs 3 = [wAt zs 3]
    unfold wsF
    rw [hl]
    rfl
  · refine spz_none hc hk (fun hy => hl ?_) (fun hy => hl ?_) h
    · obtain ⟨h1, h2⟩ := ok_puts hy
      rw [okI_6 _ _ _ _ _ _ rfl] at h1
      simp at h1
      rw [← h2]
      show (6 :: wbs (wAt zs 1 :: sW 6 zs)).length = 5
      simp [wbs, wbs_length]
      omega
    · rw [← ok_put hy]
      rfl

theorem spz_22 {zs : List Int} {w w' : World} {e : Ending} (hc : ¬ (zs.length = 0 ∨ kindB (zs.getD 0 0) = false)) (hk : zs.getD 0 0 = 22) (h : SPz 22 zs w w' e) : GPz zs w w' e := by
  by_cases hl : zs.length = 7
  · refine spz_same hc hk ?_ rfl h
    show wsF zs 3 = [wAt zs 3, wAt zs 5]
    unfold wsF
    rw [hl]
    rfl
  · refine spz_none hc hk (fun hy => hl ?_) (fun hy => hl ?_) h
    · obtain ⟨h1, h2⟩ := ok_puts hy
      rw [okI_22 _ _ _ _ _ _ rfl] at h1
      simp at h1
      rw [← h2]
      show (22 :: wbs (wAt zs 1 :: sW 22 zs)).length = 7
      simp [wbs, wbs_length]
      omega
    · rw [← ok_put hy]
      rfl

theorem put5_true {zs : List Int} {pl : Int} (h : 5 :: wbs [pl, 65280] = zs) : wAt zs 3 = 65280 := by
  subst h
  rfl

theorem put5_false {zs : List Int} {pl : Int} (h : 5 :: wbs [pl, 0] = zs) : wAt zs 3 = 0 := by
  subst h
  rfl

theorem spz_5 {zs : List Int} {w w' : World} {e : Ending} (hc : ¬ (zs.length = 0 ∨ kindB (zs.getD 0 0) = false)) (hk : zs.getD 0 0 = 5) (h : SPz 5 zs w w' e) : GPz zs w w' e := by
  by_cases h0 : wAt zs 3 = 0
  · refine spz_same hc hk rfl ?_ h
    show [wAt zs 3 != 0] = [wAt zs 3 == 65280]
    rw [h0]
    rfl
  · by_cases h1 : wAt zs 3 = 65280
    · refine spz_same hc hk rfl ?_ h
      show [wAt zs 3 != 0] = [wAt zs 3 == 65280]
      rw [h1]
      rfl
    · refine spz_none hc hk (fun hy => h1 ?_) (fun hy => h0 ?_) h
      · have h2 := (ok_puts hy).2
        have e1 : (wAt zs 3 != 0) = true := by simp [h0]
        have h3 : 5 :: wbs [wAt zs 1, bif (wAt zs 3 != 0) then 65280 else 0] = zs := h2
        rw [e1] at h3
        exact put5_true h3
      · have h2 := ok_put hy
        have e1 : (wAt zs 3 == 65280) = false := by simp [h1]
        have h3 : 5 :: wbs [wAt zs 1, bif (wAt zs 3 == 65280) then 65280 else 0] = zs := h2
        rw [e1] at h3
        exact put5_false h3

set_option maxHeartbeats 4000000 in
theorem sget_none (a : Option Addr) (n cap : Nat) (zs : List Int) (w : World) (hn : n = zs.length) (hs : Sl w a zs) (hr : ∀ z ∈ zs, 0 ≤ z ∧ z ≤ 255) (hl : n ≤ 2000000) (hk : zs.length = 0) :
    Calls Try.prog 26 #[.slice a n cap] w fun e w' => GP w w' e 0 0 0 0 [] [] 1 := by
  have B0 := bel_alloc w (.cells #[.int .i64 0, .int .i64 0, .int .i64 0, .slice none 0 0, .slice none 0 0, .int .i64 0] 27)
  have hz : (n : Int) = 0 := by omega
  clear hn hs hr
  go_enter Try.func26, Try.ntmps26
  go_wp2
  refine bodyPost_ret (v := .tuple #[rq 0 0 0 0 none none 0 0 0 0, .int .i64 1]) (by simp [results, Try.results26, go_sem]) rfl ?_
  exact gp_zero (by first | exact B0 | exact bel_set6 B0 (Nat.le_refl _))

set_option maxRecDepth 20000 in
set_option maxHeartbeats 4000000 in
theorem sget_kind (a : Option Addr) (n cap : Nat) (zs : List Int) (w : World) (hn : n = zs.length) (hs : Sl w a zs) (hr : ∀ z ∈ zs, 0 ≤ z ∧ z ≤ 255) (hl : n ≤ 2000000) (hk0 : 0 < zs.length) (hk : kindB (zs.getD 0 0) = false) :
    Calls Try.prog 26 #[.slice a n cap] w fun e w' => GP w w' e 0 0 0 0 [] [] 1 := by
  obtain ⟨W0, hW0⟩ : ∃ W0, W0 = w.alloc (.cells #[.int .i64 0, .int .i64 0, .int .i64 0, .slice none 0 0, .slice none 0 0, .int .i64 0] 27) := ⟨_, rfl⟩
  have HW : Hid (W0 = _) := hW0
  have B0 : Below w.heap.size w W0 := by rw [hW0]; exact bel_alloc _ _
  have X0 : Blk W0 w.heap.size 27 #[.int .i64 0, .int .i64 0, .int .i64 0, .slice none 0 0, .slice none 0 0, .int .i64 0] := by rw [hW0]; exact Blk.new _ _ _
  obtain ⟨bk, off, ea, _, hc⟩ := cell_at (hs.below B0) (show 0 < zs.length by omega)
  have hc0 : W0.cell? ⟨bk, off, none⟩ = some (.int .u8 (zs.getD 0 0)) := by simpa using hc
  have rg := get_rg hr 0
  have hz : ¬ (n : Int) = 0 := by omega
  have hz0 : (0 : Int) < (n : Int) := by omega
  subst ea
  clear hn hs hr hc hW0 hk0
  generalize zs.getD 0 0 = z0 at *
  obtain ⟨x0, x1, x2, x3, x4, x5⟩ := X0.six
  have fr := X0.fro
  go_enter Try.func26, Try.ntmps26
  go_upto_region 1 with fail
  rw [← HW.out]
  go_wp2_with fail
  refine (l3Kind_any z0 _ _ hk).mono ?_
  rintro e wx ⟨rfl, rfl⟩
  go_wp2
  refine bodyPost_ret (v := .tuple #[rq 0 0 0 0 none none 0 0 0 0, .int .i64 1]) (by simp [results, Try.results26, go_sem, x0, x1, x2, x3, x4, x5]) rfl ?_
  exact gp_zero (bel_set6 B0 (Nat.le_refl _))

theorem specGet_q (a : Option Addr) (n cap : Nat) (zs : List Int) (w : World) (hn : n = zs.length) (hs : Sl w a zs) (hr : ∀ z ∈ zs, 0 ≤ z ∧ z ≤ 255) (hl : n ≤ 2000000) (hcap : n ≤ cap) :
    Calls Try.prog 26 #[.slice a n cap] w fun e w' => GPz zs w w' e := by
  by_cases h0 : zs.length = 0
  · exact (sget_none a n cap zs w hn hs hr hl h0).mono fun e w' h => gpz_none (.inl h0) h
  · cases hk : kindB (zs.getD 0 0)
    · exact (sget_kind a n cap zs w hn hs hr hl (by omega) hk).mono fun e w' h => gpz_none (.inr hk) h
    · have hcnd : ¬ (zs.length = 0 ∨ kindB (zs.getD 0 0) = false) := by
        rintro (h | h)
        · exact h0 h
        · rw [hk] at h; cases h
      have hk2 := of_decide_eq_true hk
      rcases hk2 with h | h | h | h | h | h | h | h | h | h
      · exact (specGet_1 a n cap zs w hn hs hr hl (by omega) hcap h).mono fun e w' q => spz_same hcnd h rfl rfl q
      · exact (specGet_2 a n cap zs w hn hs hr hl (by omega) hcap h).mono fun e w' q => spz_same hcnd h rfl rfl q
      · exact (specGet_3 a n cap zs w hn hs hr hl (by omega) hcap h).mono fun e w' q => spz_same hcnd h rfl rfl q
      · exact (specGet_4 a n cap zs w hn hs hr hl (by omega) hcap h).mono fun e w' q => spz_same hcnd h rfl rfl q
      · exact (specGet_5 a n cap zs w hn hs hr hl (by omega) hcap h).mono fun e w' q => spz_5 hcnd h q
      · exact (specGet_6 a n cap zs w hn hs hr hl (by omega) hcap h).mono fun e w' q => spz_6 hcnd h q
      · by_cases h6 : 6 < n
        · exact (specGet_15 a n cap zs w hn hs hr hl (by omega) hcap h h6).mono fun e w' q => spz_same hcnd h rfl rfl q
        · exact (specGet_15s a n cap zs w hn hs hr hl (by omega) hcap h h6).mono fun e w' q => spz_same hcnd h rfl rfl q
      · exact (specGet_16 a n cap zs w hn hs hr hl (by omega) hcap h).mono fun e w' q => spz_same hcnd h rfl rfl q
      · exact (specGet_22 a n cap zs w hn hs hr hl (by omega) hcap h).mono fun e w' q => spz_22 hcnd h q
      · exact (specGet_23 a n cap zs w hn hs hr hl (by omega) hcap h).mono fun e w' q => spz_same hcnd h rfl rfl q

end Go.Proofs.Ytcddiimjgfmnfaa
