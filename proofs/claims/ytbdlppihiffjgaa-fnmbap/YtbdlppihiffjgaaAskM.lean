/- A question that is right comes back of its bytes, by number alone; cut, or with a byte more, it is none. -/
import Derived.Test.YtbdlppihiffjgaaG6
namespace Go.Proofs.Ytbdlppihiffjgaa
open Go.RowKit

set_option linter.unusedVariables false

set_option linter.unusedSimpArgs false

theorem add_bitQ : ∀ s : Nat, s < 8 → ∀ x : Nat, x < 2 ^ s → ∀ r : Nat, r < 8 → (x + 2 ^ s) / 2 ^ r % 2 = if r = s then 1 else x / 2 ^ r % 2 := by decide +kernel

theorem pv_bitQ (bs : List Bool) (k : Nat) : ∀ K, (pv bs K (k / 8) / ((2 ^ (k % 8) : Nat) : Int)) % 2 = if k < K ∧ bs.getD k false = true then 1 else 0
  | 0 => by simp [pv]
  | K + 1 => by
    have ih := pv_bitQ bs k K
    rw [pv]
    by_cases h : K / 8 = k / 8 ∧ bs.getD K false = true
    · rw [if_pos h]
      obtain ⟨h0, _, h2, _⟩ := pv_bound bs K (k / 8)
      have hlt := h2 h.1.symm
      obtain ⟨x, hx⟩ := Int.eq_ofNat_of_zero_le h0
      rw [hx] at ih hlt ⊢
      have hxs : x < 2 ^ (K % 8) := by omega
      have e1 : ((x : Int) + ((2 ^ (K % 8) : Nat) : Int)) / ((2 ^ (k % 8) : Nat) : Int) % 2 = (((x + 2 ^ (K % 8)) / 2 ^ (k % 8) % 2 : Nat) : Int) := by simp
      have e2 : ((x : Int) / ((2 ^ (k % 8) : Nat) : Int)) % 2 = ((x / 2 ^ (k % 8) % 2 : Nat) : Int) := by simp
      rw [e1, add_bitQ (K % 8) (Nat.mod_lt _ (by decide)) x hxs (k % 8) (Nat.mod_lt _ (by decide))]
      rw [e2] at ih
      by_cases e : k = K
      · subst e
        rw [if_pos rfl, if_pos ⟨by omega, h.2⟩]; rfl
      · rw [if_neg (by omega), ih]
        by_cases hk : k < K ∧ bs.getD k false = true
        · rw [if_pos hk, if_pos ⟨by omega, hk.2⟩]
        · rw [if_neg hk, if_neg (fun hh => hk ⟨by omega, hh.2⟩)]
    · rw [if_neg h, ih]
      by_cases hk : k < K ∧ bs.getD k false = true
      · rw [if_pos hk, if_pos ⟨by omega, hk.2⟩]
      · rw [if_neg hk, if_neg (fun hh => hk ⟨by
          have := hh.1
          by_cases e : k = K
          · subst e; exact absurd ⟨rfl, hh.2⟩ h
          · omega, hh.2⟩)]

theorem ub_packQ (bs : List Bool) (k : Nat) (hk : k / 8 < (bs.length + 7) / 8) : ub (packL bs) k = (decide (k < bs.length) && bs.getD k false) := by
  unfold ub
  have e : (packL bs).getD (k / 8) 0 = pv bs bs.length (k / 8) := by simp [packL, hk]
  rw [e, pv_bitQ]
  by_cases h : k < bs.length ∧ bs.getD k false = true
  · rw [if_pos h, decide_eq_true h.1, h.2]; rfl
  · rw [if_neg h]
    by_cases h1 : k < bs.length
    · have : bs.getD k false = false := by
        cases hh : bs.getD k false with
        | false => rfl
        | true => exact absurd ⟨h1, hh⟩ h
      rw [this]; simp
    · rw [decide_eq_false h1]; rfl

theorem unpackQ (bs : List Bool) (n : Nat) (hn : n = bs.length) : okU (packL bs) (n : Int) = true ∧ outU (packL bs) (n : Int) = bs := by
  have Y := okU_yes (zs := packL bs) (x := n) (by rw [packL_length]; omega) (fun j hj hx => by
    rw [packL_length] at hj
    rw [ub_packQ bs j (by omega), decide_eq_false (by omega)]; rfl)
  refine ⟨Y.1, ?_⟩
  rw [Y.2]
  apply List.ext_getElem?
  intro i
  by_cases hi : i < bs.length
  · have e : (ubs (packL bs) n)[i]? = some (ub (packL bs) i) := by simp [ubs, hn, hi]
    rw [e, ub_packQ bs i (by omega), decide_eq_true hi]
    simp [hi]
  · rw [List.getElem?_eq_none (by rw [ubs_length]; omega), List.getElem?_eq_none (by omega)]

theorem wAt_here (pre : List Int) (x y : Int) (r : List Int) : wAt (pre ++ x :: y :: r) pre.length = x * 256 + y := by
  unfold wAt
  rw [if_pos (by simp)]
  simp [List.getD_eq_getElem?_getD]

theorem word_back (x : Int) (h : 0 ≤ x ∧ x ≤ 65535) : x / 256 % 256 * 256 + x % 256 = x := by omega

theorem wsT_here (ws : List Int) (hw : ∀ k, k < ws.length → 0 ≤ ws.getD k 0 ∧ ws.getD k 0 ≤ 65535) : ∀ (pre : List Int), wsT (pre ++ wbs ws) pre.length ws.length = ws := by
  induction ws with
  | nil => intro pre; rfl
  | cons x r ih =>
    intro pre
    have hx := hw 0 (by simp)
    simp at hx
    have e := ih (fun k hk => by have := hw (k + 1) (by simp; omega); simpa using this) (pre ++ [x / 256 % 256, x % 256])
    have e0 : wAt (pre ++ wbs (x :: r)) pre.length = x := by
      rw [show wbs (x :: r) = x / 256 % 256 :: x % 256 :: wbs r from rfl, wAt_here, word_back x hx]
    have e1 : pre ++ [x / 256 % 256, x % 256] ++ wbs r = pre ++ wbs (x :: r) := by simp [wbs]
    rw [e1] at e
    unfold wsT at e ⊢
    rw [show (x :: r).length = r.length + 1 from rfl, List.range_succ_eq_map, List.map_cons, List.map_map]
    rw [show pre.length + 2 * 0 = pre.length from rfl, e0]
    congr 1
    refine (List.map_congr_left ?_).trans e
    intro k _
    show wAt (pre ++ wbs (x :: r)) (pre.length + 2 * (k + 1)) = wAt (pre ++ wbs (x :: r)) ((pre ++ [x / 256 % 256, x % 256]).length + 2 * k)
    rw [List.length_append]
    congr 1
    simp
    omega

theorem wsF_here (pre ws : List Int) (f : Nat) (hf : f = pre.length) (hw : allW ws = true) : wsF (pre ++ wbs ws) f = ws := by
  subst hf
  have h := wsT_here ws (of_decide_eq_true hw) pre
  unfold wsF
  rw [show ((pre ++ wbs ws).length - pre.length) / 2 = ws.length from by simp [wbs_length]]
  exact h

/-- The words of a question come back. -/
def Back (k pl nn wa : Int) (ws : List Int) (bs : List Bool) : Prop :=
  (putL k pl nn wa ws bs).getD 0 0 = k ∧ wAt (putL k pl nn wa ws bs) 1 = pl ∧ gN k (putL k pl nn wa ws bs) = nn ∧ gA k (putL k pl nn wa ws bs) = wa ∧ gW k (putL k pl nn wa ws bs) = ws ∧ gB k (putL k pl nn wa ws bs) = bs

theorem back_1 (pl nn wa : Int) (ws : List Int) (bs : List Bool) (hb : okR 1 pl nn wa ws ws.length bs.length = true) : Back 1 pl nn wa ws bs := by
  rw [okI_1 _ _ _ _ _ _ rfl] at hb
  simp [rnB] at hb
  obtain ⟨hr, hwa, hl1, hl2⟩ := hb
  subst hwa hl1 hl2
  refine ⟨rfl, ?_, ?_, rfl, rfl, rfl⟩
  · exact (wAt_here [1] _ _ _).trans (word_back pl (by omega))
  · exact (wAt_here [1, pl / 256 % 256, pl % 256] _ _ _).trans (word_back nn (by omega))

theorem back_2 (pl nn wa : Int) (ws : List Int) (bs : List Bool) (hb : okR 2 pl nn wa ws ws.length bs.length = true) : Back 2 pl nn wa ws bs := by
  rw [okI_2 _ _ _ _ _ _ rfl] at hb
  simp [rnB] at hb
  obtain ⟨hr, hwa, hl1, hl2⟩ := hb
  subst hwa hl1 hl2
  refine ⟨rfl, ?_, ?_, rfl, rfl, rfl⟩
  · exact (wAt_here [2] _ _ _).trans (word_back pl (by omega))
  · exact (wAt_here [2, pl / 256 % 256, pl % 256] _ _ _).trans (word_back nn (by omega))

theorem back_3 (pl nn wa : Int) (ws : List Int) (bs : List Bool) (hb : okR 3 pl nn wa ws ws.length bs.length = true) : Back 3 pl nn wa ws bs := by
  rw [okI_3 _ _ _ _ _ _ rfl] at hb
  simp [rnB] at hb
  obtain ⟨hr, hwa, hl1, hl2⟩ := hb
  subst hwa hl1 hl2
  refine ⟨rfl, ?_, ?_, rfl, rfl, rfl⟩
  · exact (wAt_here [3] _ _ _).trans (word_back pl (by omega))
  · exact (wAt_here [3, pl / 256 % 256, pl % 256] _ _ _).trans (word_back nn (by omega))

theorem back_4 (pl nn wa : Int) (ws : List Int) (bs : List Bool) (hb : okR 4 pl nn wa ws ws.length bs.length = true) : Back 4 pl nn wa ws bs := by
  rw [okI_4 _ _ _ _ _ _ rfl] at hb
  simp [rnB] at hb
  obtain ⟨hr, hwa, hl1, hl2⟩ := hb
  subst hwa hl1 hl2
  refine ⟨rfl, ?_, ?_, rfl, rfl, rfl⟩
  · exact (wAt_here [4] _ _ _).trans (word_back pl (by omega))
  · exact (wAt_here [4, pl / 256 % 256, pl % 256] _ _ _).trans (word_back nn (by omega))

theorem back_5 (pl nn wa : Int) (ws : List Int) (bs : List Bool) (hb : okR 5 pl nn wa ws ws.length bs.length = true) : Back 5 pl nn wa ws bs := by
  rw [okI_5 _ _ _ _ _ _ rfl] at hb
  simp [inB] at hb
  obtain ⟨hl2, hp, hnn, hwa, hl1⟩ := hb
  subst hnn hwa hl1
  match bs, hl2 with
  | [x], _ =>
    have e3 : wAt (putL 5 pl 0 0 [] [x]) 3 = bif x then 65280 else 0 := by
      cases x
      · exact (wAt_here [5, pl / 256 % 256, pl % 256] _ _ _)
      · exact (wAt_here [5, pl / 256 % 256, pl % 256] _ _ _)
    refine ⟨rfl, ?_, rfl, rfl, rfl, ?_⟩
    · exact (wAt_here [5] _ _ _).trans (word_back pl (by omega))
    · show [wAt (putL 5 pl 0 0 [] [x]) 3 == 65280] = [x]
      rw [e3]
      cases x <;> rfl

theorem back_6 (pl nn wa : Int) (ws : List Int) (bs : List Bool) (hb : okR 6 pl nn wa ws ws.length bs.length = true) : Back 6 pl nn wa ws bs := by
  rw [okI_6 _ _ _ _ _ _ rfl] at hb
  simp [inB] at hb
  obtain ⟨hl1, hp, hx, hnn, hwa, hl2⟩ := hb
  subst hnn hwa hl2
  match ws, hl1, hx with
  | [x], _, hx =>
    simp at hx
    refine ⟨rfl, ?_, rfl, rfl, ?_, rfl⟩
    · exact (wAt_here [6] _ _ _).trans (word_back pl (by omega))
    · show [wAt (putL 6 pl 0 0 [x] []) 3] = [x]
      rw [show wAt (putL 6 pl 0 0 [x] []) 3 = x from (wAt_here [6, pl / 256 % 256, pl % 256] _ _ _).trans (word_back x (by omega))]

theorem back_22 (pl nn wa : Int) (ws : List Int) (bs : List Bool) (hb : okR 22 pl nn wa ws ws.length bs.length = true) : Back 22 pl nn wa ws bs := by
  rw [okI_22 _ _ _ _ _ _ rfl] at hb
  simp [inB] at hb
  obtain ⟨hl1, hp, hx, hy, hnn, hwa, hl2⟩ := hb
  subst hnn hwa hl2
  match ws, hl1, hx, hy with
  | [x, y], _, hx, hy =>
    simp at hx hy
    refine ⟨rfl, ?_, rfl, rfl, ?_, rfl⟩
    · exact (wAt_here [22] _ _ _).trans (word_back pl (by omega))
    · show [wAt (putL 22 pl 0 0 [x, y] []) 3, wAt (putL 22 pl 0 0 [x, y] []) 5] = [x, y]
      rw [show wAt (putL 22 pl 0 0 [x, y] []) 3 = x from (wAt_here [22, pl / 256 % 256, pl % 256] _ _ _).trans (word_back x (by omega))]
      rw [show wAt (putL 22 pl 0 0 [x, y] []) 5 = y from (wAt_here [22, pl / 256 % 256, pl % 256, x / 256 % 256, x % 256] _ _ _).trans (word_back y (by omega))]

theorem w3_15 (pl : Int) (bs : List Bool) (h : bs.length ≤ 1968) : wAt (putL 15 pl 0 0 [] bs) 3 = (bs.length : Int) := (wAt_here [15, pl / 256 % 256, pl % 256] _ _ _).trans (word_back _ (by omega))

theorem back_15 (pl nn wa : Int) (ws : List Int) (bs : List Bool) (hb : okR 15 pl nn wa ws ws.length bs.length = true) : Back 15 pl nn wa ws bs := by
  rw [okI_15 _ _ _ _ _ _ rfl] at hb
  simp [rnB] at hb
  obtain ⟨hr, hnn, hwa, hl1⟩ := hb
  subst hnn hwa hl1
  refine ⟨rfl, ?_, rfl, rfl, rfl, ?_⟩
  · exact (wAt_here [15] _ _ _).trans (word_back pl (by omega))
  · show outU ((putL 15 pl 0 0 [] bs).drop 6) (wAt (putL 15 pl 0 0 [] bs) 3) = bs
    rw [w3_15 pl bs (by omega)]
    exact (unpackQ bs bs.length rfl).2

theorem w3_16 (pl : Int) (ws : List Int) (h : ws.length ≤ 123) : wAt (putL 16 pl 0 0 ws []) 3 = (ws.length : Int) := (wAt_here [16, pl / 256 % 256, pl % 256] _ _ _).trans (word_back _ (by omega))

theorem back_16 (pl nn wa : Int) (ws : List Int) (bs : List Bool) (hb : okR 16 pl nn wa ws ws.length bs.length = true) : Back 16 pl nn wa ws bs := by
  rw [okI_16 _ _ _ _ _ _ rfl] at hb
  simp [rnB] at hb
  obtain ⟨hr, hw, hnn, hwa, hl2⟩ := hb
  subst hnn hwa hl2
  refine ⟨rfl, ?_, rfl, rfl, ?_, rfl⟩
  · exact (wAt_here [16] _ _ _).trans (word_back pl (by omega))
  · exact wsF_here ((16 :: wbs [pl, (ws.length : Int)]) ++ [((2 * ws.length : Nat) : Int) % 256]) ws 6 rfl hw

theorem w7_23 (pl nn wa : Int) (ws : List Int) (h : ws.length ≤ 121) : wAt (putL 23 pl nn wa ws []) 7 = (ws.length : Int) := (wAt_here [23, pl / 256 % 256, pl % 256, nn / 256 % 256, nn % 256, wa / 256 % 256, wa % 256] _ _ _).trans (word_back _ (by omega))

theorem back_23 (pl nn wa : Int) (ws : List Int) (bs : List Bool) (hb : okR 23 pl nn wa ws ws.length bs.length = true) : Back 23 pl nn wa ws bs := by
  rw [okI_23 _ _ _ _ _ _ rfl] at hb
  simp [rnB] at hb
  obtain ⟨hr, hq, hw, hl2⟩ := hb
  subst hl2
  refine ⟨rfl, ?_, ?_, ?_, ?_, rfl⟩
  · exact (wAt_here [23] _ _ _).trans (word_back pl (by omega))
  · exact (wAt_here [23, pl / 256 % 256, pl % 256] _ _ _).trans (word_back nn (by omega))
  · exact (wAt_here [23, pl / 256 % 256, pl % 256, nn / 256 % 256, nn % 256] _ _ _).trans (word_back wa (by omega))
  · exact wsF_here ((23 :: wbs [pl, nn, wa, (ws.length : Int)]) ++ [((2 * ws.length : Nat) : Int) % 256]) ws 10 rfl hw

/-- A question that is right comes back of its bytes. -/
theorem asked_back (kd pl nn wa : Int) (ws : List Int) (bs : List Bool) (hb : okR kd pl nn wa ws ws.length bs.length = true) : Back kd pl nn wa ws bs ∧ gOk kd (putL kd pl nn wa ws bs) = true := by
  have B : Back kd pl nn wa ws bs := by
    obtain rfl | rfl | rfl | rfl | rfl | rfl | rfl | rfl | rfl | rfl := okR_kind hb
    · exact back_1 pl nn wa ws bs hb
    · exact back_2 pl nn wa ws bs hb
    · exact back_3 pl nn wa ws bs hb
    · exact back_4 pl nn wa ws bs hb
    · exact back_5 pl nn wa ws bs hb
    · exact back_6 pl nn wa ws bs hb
    · exact back_15 pl nn wa ws bs hb
    · exact back_16 pl nn wa ws bs hb
    · exact back_22 pl nn wa ws bs hb
    · exact back_23 pl nn wa ws bs hb
  refine ⟨B, ?_⟩
  obtain ⟨_, h1, h2, h3, h4, h5⟩ := B
  unfold gOk
  rw [h1, h2, h3, h4, h5, hb]
  simp

/-- How long the bytes of a question of a kind are, by their own words. -/
def lenG (k : Int) (zs : List Int) : Int :=
  if k = 22 then 7 else if k = 15 then 6 + (wAt zs 3 + 7) / 8 else if k = 16 then 6 + 2 * wAt zs 3 else if k = 23 then 10 + 2 * wAt zs 7 else 5

theorem put_len (kd pl nn wa : Int) (ws : List Int) (bs : List Bool) (hb : okR kd pl nn wa ws ws.length bs.length = true) : ((putL kd pl nn wa ws bs).length : Int) = lenG kd (putL kd pl nn wa ws bs) := by
  obtain rfl | rfl | rfl | rfl | rfl | rfl | rfl | rfl | rfl | rfl := okR_kind hb
  · rfl
  · rfl
  · rfl
  · rfl
  · rfl
  · rw [okI_6 _ _ _ _ _ _ rfl] at hb
    simp at hb
    show ((6 :: wbs (pl :: ws)).length : Int) = 5
    simp [wbs, wbs_length]
    omega
  · rw [okI_15 _ _ _ _ _ _ rfl] at hb
    simp [rnB] at hb
    obtain ⟨hr, hnn, hwa, hl1⟩ := hb
    subst hnn hwa hl1
    show _ = 6 + (wAt (putL 15 pl 0 0 [] bs) 3 + 7) / 8
    rw [w3_15 pl bs (by omega)]
    simp [putL, wbs, packL_length]
    omega
  · rw [okI_16 _ _ _ _ _ _ rfl] at hb
    simp [rnB] at hb
    obtain ⟨hr, hw, hnn, hwa, hl2⟩ := hb
    subst hnn hwa hl2
    show _ = 6 + 2 * wAt (putL 16 pl 0 0 ws []) 3
    rw [w3_16 pl ws (by omega)]
    simp [putL, wbs, wbs_length]
    omega
  · rw [okI_22 _ _ _ _ _ _ rfl] at hb
    simp at hb
    show ((22 :: wbs (pl :: ws)).length : Int) = 7
    simp [wbs, wbs_length]
    omega
  · rw [okI_23 _ _ _ _ _ _ rfl] at hb
    simp [rnB] at hb
    obtain ⟨hr, hq, hw, hl2⟩ := hb
    subst hl2
    show _ = 10 + 2 * wAt (putL 23 pl nn wa ws []) 7
    rw [w7_23 pl nn wa ws (by omega)]
    simp [putL, wbs, wbs_length]
    omega

theorem ok_len {k : Int} {zs : List Int} (h : gOk k zs = true) : (zs.length : Int) = lenG k zs := by
  have h' := h
  unfold gOk at h
  simp only [Bool.and_eq_true, decide_eq_true_eq] at h
  have e := put_len k _ _ _ _ _ h.1
  rw [h.2] at e
  exact e

/-- Two rows of bytes with the same words where their length is told: not both are questions, unless they are as long. -/
theorem ok_apart {k : Int} {zs ys : List Int} (h : gOk k zs = true) (h3 : wAt zs 3 = wAt ys 3) (h7 : wAt zs 7 = wAt ys 7) (hne : zs.length ≠ ys.length) : ¬ gOk k ys = true := by
  intro h'
  have e1 := ok_len h
  have e2 := ok_len h'
  unfold lenG at e1 e2
  rw [h3, h7] at e1
  omega

end Go.Proofs.Ytbdlppihiffjgaa
