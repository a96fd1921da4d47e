/- Texts that the proof needs, joined. -/
import Derived.Test.YtoofkikenfgbpaaDoorG6
import Derived.Test.YtoofkikenfgbpaaDoorGA
import Derived.Test.YtoofkikenfgbpaaDoorCur3
import Derived.Test.YtoofkikenfgbpaaDoorG7
import Derived.Test.YtoofkikenfgbpaaDoorQ2
import Derived.Test.YtoofkikenfgbpaaDoorResp1
import Derived.Deep.Upon
import Derived.Lib.AppendZeros
import Derived.Deep.DeepCutAuto
import Derived.Deep.RegionWith
import Derived.Test.YtoofkikenfgbpaaDoorQ4
import Derived.Test.YtoofkikenfgbpaaDoorBys0
import Derived.Test.YtoofkikenfgbpaaDoorGF
import Derived.Test.YtoofkikenfgbpaaDoorP7
import Derived.Deep.RegionHeld3
namespace Go.Proofs.YtoofkikenfgbpaaDoor
open Go.RowKit

set_option linter.unusedVariables false

set_option linter.unusedSimpArgs false

theorem add_bitQ : ∀ s : Nat, s < 8 → ∀ x : Nat, x < 2 ^ s → ∀ r : Nat, r < 8 → (x + 2 ^ s) / 2 ^ r % 2 = if r = s then 1 else x / 2 ^ r % 2 := by decide +kernel

theorem pv_bitQ (bs : List Bool) (k : Nat) : ∀ K, (pv bs K (k / 8) / ((2 ^ (k % 8) : Nat) : Int)) % 2 = if k < K ∧ bs.getD k false = true then 1 else 0
  | 0 => by simp [pv]
  | K + 1 => by
    have ih := pv_bitQ bs k K
    rw [pv]
    by_cases h : K / 8 = k / 8 ∧ bs.getD K false = true
    · rw [if_pos h]
      obtain ⟨h0, _, h2, _⟩ := pv_bound bs K (k / 8)
      have hlt := h2 h.1.symm
      obtain ⟨x, hx⟩ := Int.eq_ofNat_of_zero_le h0
      rw [hx] at ih hlt ⊢
      have hxs : x < 2 ^ (K % 8) := by omega
      have e1 : ((x : Int) + ((2 ^ (K % 8) : Nat) : Int)) / ((2 ^ (k % 8) : Nat) : Int) % 2 = (((x + 2 ^ (K % 8)) / 2 ^ (k % 8) % 2 : Nat) : Int) := by simp
      have e2 : ((x : Int) / ((2 ^ (k % 8) : Nat) : Int)) % 2 = ((x / 2 ^ (k % 8) % 2 : Nat) : Int) := by simp
      rw [e1, add_bitQ (K % 8) (Nat.mod_lt _ (by decide)) x hxs (k % 8) (Nat.mod_lt _ (by decide))]
      rw [e2] at ih
      by_cases e : k = K
      · subst e
        rw [if_pos rfl, if_pos ⟨by omega, h.2⟩]; rfl
      · rw [if_neg (by omega), ih]
        by_cases hk : k < K ∧ bs.getD k false = true
        · rw [if_pos hk, if_pos ⟨by omega, hk.2⟩]
        · rw [if_neg hk, if_neg (fun hh => hk ⟨by omega, hh.2⟩)]
    · rw [if_neg h, ih]
      by_cases hk : k < K ∧ bs.getD k false = true
      · rw [if_pos hk, if_pos ⟨by omega, hk.2⟩]
      · rw [if_neg hk, if_neg (fun hh => hk ⟨by
          have := hh.1
          by_cases e : k = K
          · subst e; exact absurd ⟨rfl, hh.2⟩ h
          · omega, hh.2⟩)]

theorem ub_packQ (bs : List Bool) (k : Nat) (hk : k / 8 < (bs.length + 7) / 8) : ub (packL bs) k = (decide (k < bs.length) && bs.getD k false) := by
  unfold ub
  have e : (packL bs).getD (k / 8) 0 = pv bs bs.length (k / 8) := by simp [packL, hk]
  rw [e, pv_bitQ]
  by_cases h : k < bs.length ∧ bs.getD k false = true
  · rw [if_pos h, decide_eq_true h.1, h.2]; rfl
  · rw [if_neg h]
    by_cases h1 : k < bs.length
    · have : bs.getD k false = false := by
        cases hh : bs.getD k false with
        | false => rfl
        | true => exact absurd ⟨h1, hh⟩ h
      rw [this]; simp
    · rw [decide_eq_false h1]; rfl

theorem unpackQ (bs : List Bool) (n : Nat) (hn : n = bs.length) : okU (packL bs) (n : Int) = true ∧ outU (packL bs) (n : Int) = bs := by
  have Y := okU_yes (zs := packL bs) (x := n) (by rw [packL_length]; omega) (fun j hj hx => by
    rw [packL_length] at hj
    rw [ub_packQ bs j (by omega), decide_eq_false (by omega)]; rfl)
  refine ⟨Y.1, ?_⟩
  rw [Y.2]
  apply List.ext_getElem?
  intro i
  by_cases hi : i < bs.length
  · have e : (ubs (packL bs) n)[i]? = some (ub (packL bs) i) := by simp [ubs, hn, hi]
    rw [e, ub_packQ bs i (by omega), decide_eq_true hi]
    simp [hi]
  · rw [List.getElem?_eq_none (by rw [ubs_length]; omega), List.getElem?_eq_none (by omega)]

theorem wAt_here (pre : List Int) (x y : Int) (r : List Int) : wAt (pre ++ x :: y :: r) pre.length = x * 256 + y := by
  unfold wAt
  rw [if_pos (by simp)]
  simp [List.getD_eq_getElem?_getD]

theorem word_back (x : Int) (h : 0 ≤ x ∧ x ≤ 65535) : x / 256 % 256 * 256 + x % 256 = x := by omega

theorem wsT_here (ws : List Int) (hw : ∀ k, k < ws.length → 0 ≤ ws.getD k 0 ∧ ws.getD k 0 ≤ 65535) : ∀ (pre : List Int), wsT (pre ++ wbs ws) pre.length ws.length = ws := by
  induction ws with
  | nil => intro pre; rfl
  | cons x r ih =>
    intro pre
    have hx := hw 0 (by simp)
    simp at hx
    have e := ih (fun k hk => by have := hw (k + 1) (by simp; omega); simpa using this) (pre ++ [x / 256 % 256, x % 256])
    have e0 : wAt (pre ++ wbs (x :: r)) pre.length = x := by
      rw [show wbs (x :: r) = x / 256 % 256 :: x % 256 :: wbs r from rfl, wAt_here, word_back x hx]
    have e1 : pre ++ [x / 256 % 256, x % 256] ++ wbs r = pre ++ wbs (x :: r) := by simp [wbs]
    rw [e1] at e
    unfold wsT at e ⊢
    rw [show (x :: r).length = r.length + 1 from rfl, List.range_succ_eq_map, List.map_cons, List.map_map]
    rw [show pre.length + 2 * 0 = pre.length from rfl, e0]
    congr 1
    refine (List.map_congr_left ?_).trans e
    intro k _
    show wAt (pre ++ wbs (x :: r)) (pre.length + 2 * (k + 1)) = wAt (pre ++ wbs (x :: r)) ((pre ++ [x / 256 % 256, x % 256]).length + 2 * k)
    rw [List.length_append]
    congr 1
    simp
    omega

theorem wsF_here (pre ws : List Int) (f : Nat) (hf : f = pre.length) (hw : allW ws = true) : wsF (pre ++ wbs ws) f = ws := by
  subst hf
  have h := wsT_here ws (of_decide_eq_true hw) pre
  unfold wsF
  rw [show ((pre ++ wbs ws).length - pre.length) / 2 = ws.length from by simp [wbs_length]]
  exact h

/-- The words of a question come back. -/
def Back (k pl nn wa : Int) (ws : List Int) (bs : List Bool) : Prop :=
  (putL k pl nn wa ws bs).getD 0 0 = k ∧ wAt (putL k pl nn wa ws bs) 1 = pl ∧ gN k (putL k pl nn wa ws bs) = nn ∧ gA k (putL k pl nn wa ws bs) = wa ∧ gW k (putL k pl nn wa ws bs) = ws ∧ gB k (putL k pl nn wa ws bs) = bs

theorem back_1 (pl nn wa : Int) (ws : List Int) (bs : List Bool) (hb : okR 1 pl nn wa ws ws.length bs.length = true) : Back 1 pl nn wa ws bs := by
  rw [okI_1 _ _ _ _ _ _ rfl] at hb
  simp [rnB] at hb
  obtain ⟨hr, hwa, hl1, hl2⟩ := hb
  subst hwa hl1 hl2
  refine ⟨rfl, ?_, ?_, rfl, rfl, rfl⟩
  · exact (wAt_here [1] _ _ _).trans (word_back pl (by omega))
  · exact (wAt_here [1, pl / 256 % 256, pl % 256] _ _ _).trans (word_back nn (by omega))

theorem back_2 (pl nn wa : Int) (ws : List Int) (bs : List Bool) (hb : okR 2 pl nn wa ws ws.length bs.length = true) : Back 2 pl nn wa ws bs := by
  rw [okI_2 _ _ _ _ _ _ rfl] at hb
  simp [rnB] at hb
  obtain ⟨hr, hwa, hl1, hl2⟩ := hb
  subst hwa hl1 hl2
  refine ⟨rfl, ?_, ?_, rfl, rfl, rfl⟩
  · exact (wAt_here [2] _ _ _).trans (word_back pl (by omega))
  · exact (wAt_here [2, pl / 256 % 256, pl % 256] _ _ _).trans (word_back nn (by omega))

theorem back_3 (pl nn wa : Int) (ws : List Int) (bs : List Bool) (hb : okR 3 pl nn wa ws ws.length bs.length = true) : Back 3 pl nn wa ws bs := by
  rw [okI_3 _ _ _ _ _ _ rfl] at hb
  simp [rnB] at hb
  obtain ⟨hr, hwa, hl1, hl2⟩ := hb
  subst hwa hl1 hl2
  refine ⟨rfl, ?_, ?_, rfl, rfl, rfl⟩
  · exact (wAt_here [3] _ _ _).trans (word_back pl (by omega))
  · exact (wAt_here [3, pl / 256 % 256, pl % 256] _ _ _).trans (word_back nn (by omega))

theorem back_4 (pl nn wa : Int) (ws : List Int) (bs : List Bool) (hb : okR 4 pl nn wa ws ws.length bs.length = true) : Back 4 pl nn wa ws bs := by
  rw [okI_4 _ _ _ _ _ _ rfl] at hb
  simp [rnB] at hb
  obtain ⟨hr, hwa, hl1, hl2⟩ := hb
  subst hwa hl1 hl2
  refine ⟨rfl, ?_, ?_, rfl, rfl, rfl⟩
  · exact (wAt_here [4] _ _ _).trans (word_back pl (by omega))
  · exact (wAt_here [4, pl / 256 % 256, pl % 256] _ _ _).trans (word_back nn (by omega))

theorem back_5 (pl nn wa : Int) (ws : List Int) (bs : List Bool) (hb : okR 5 pl nn wa ws ws.length bs.length = true) : Back 5 pl nn wa ws bs := by
  rw [okI_5 _ _ _ _ _ _ rfl] at hb
  simp [inB] at hb
  obtain ⟨hl2, hp, hnn, hwa, hl1⟩ := hb
  subst hnn hwa hl1
  match bs, hl2 with
  | [x], _ =>
    have e3 : wAt (putL 5 pl 0 0 [] [x]) 3 = bif x then 65280 else 0 := by
      cases x
      · exact (wAt_here [5, pl / 256 % 256, pl % 256] _ _ _)
      · exact (wAt_here [5, pl / 256 % 256, pl % 256] _ _ _)
    refine ⟨rfl, ?_, rfl, rfl, rfl, ?_⟩
    · exact (wAt_here [5] _ _ _).trans (word_back pl (by omega))
    · show [wAt (putL 5 pl 0 0 [] [x]) 3 == 65280] = [x]
      rw [e3]
      cases x <;> rfl

theorem back_6 (pl nn wa : Int) (ws : List Int) (bs : List Bool) (hb : okR 6 pl nn wa ws ws.length bs.length = true) : Back 6 pl nn wa ws bs := by
  rw [okI_6 _ _ _ _ _ _ rfl] at hb
  simp [inB] at hb
  obtain ⟨hl1, hp, hx, hnn, hwa, hl2⟩ := hb
  subst hnn hwa hl2
  match ws, hl1, hx with
  | [x], _, hx =>
    simp at hx
    refine ⟨rfl, ?_, rfl, rfl, ?_, rfl⟩
    · exact (wAt_here [6] _ _ _).trans (word_back pl (by omega))
    · show [wAt (putL 6 pl 0 0 [x] []) 3] = [x]
      rw [show wAt (putL 6 pl 0 0 [x] []) 3 = x from (wAt_here [6, pl / 256 % 256, pl % 256] _ _ _).trans (word_back x (by omega))]

theorem back_22 (pl nn wa : Int) (ws : List Int) (bs : List Bool) (hb : okR 22 pl nn wa ws ws.length bs.length = true) : Back 22 pl nn wa ws bs := by
  rw [okI_22 _ _ _ _ _ _ rfl] at hb
  simp [inB] at hb
  obtain ⟨hl1, hp, hx, hy, hnn, hwa, hl2⟩ := hb
  subst hnn hwa hl2
  match ws, hl1, hx, hy with
  | [x, y], _, hx, hy =>
    simp at hx hy
    refine ⟨rfl, ?_, rfl, rfl, ?_, rfl⟩
    · exact (wAt_here [22] _ _ _).trans (word_back pl (by omega))
    · show [wAt (putL 22 pl 0 0 [x, y] []) 3, wAt (putL 22 pl 0 0 [x, y] []) 5] = [x, y]
      rw [show wAt (putL 22 pl 0 0 [x, y] []) 3 = x from (wAt_here [22, pl / 256 % 256, pl % 256] _ _ _).trans (word_back x (by omega))]
      rw [show wAt (putL 22 pl 0 0 [x, y] []) 5 = y from (wAt_here [22, pl / 256 % 256, pl % 256, x / 256 % 256, x % 256] _ _ _).trans (word_back y (by omega))]

theorem w3_15 (pl : Int) (bs : List Bool) (h : bs.length ≤ 1968) : wAt (putL 15 pl 0 0 [] bs) 3 = (bs.length : Int) := (wAt_here [15, pl / 256 % 256, pl % 256] _ _ _).trans (word_back _ (by omega))

theorem back_15 (pl nn wa : Int) (ws : List Int) (bs : List Bool) (hb : okR 15 pl nn wa ws ws.length bs.length = true) : Back 15 pl nn wa ws bs := by
  rw [okI_15 _ _ _ _ _ _ rfl] at hb
  simp [rnB] at hb
  obtain ⟨hr, hnn, hwa, hl1⟩ := hb
  subst hnn hwa hl1
  refine ⟨rfl, ?_, rfl, rfl, rfl, ?_⟩
  · exact (wAt_here [15] _ _ _).trans (word_back pl (by omega))
  · show outU ((putL 15 pl 0 0 [] bs).drop 6) (wAt (putL 15 pl 0 0 [] bs) 3) = bs
    rw [w3_15 pl bs (by omega)]
    exact (unpackQ bs bs.length rfl).2

theorem w3_16 (pl : Int) (ws : List Int) (h : ws.length ≤ 123) : wAt (putL 16 pl 0 0 ws []) 3 = (ws.length : Int) := (wAt_here [16, pl / 256 % 256, pl % 256] _ _ _).trans (word_back _ (by omega))

theorem back_16 (pl nn wa : Int) (ws : List Int) (bs : List Bool) (hb : okR 16 pl nn wa ws ws.length bs.length = true) : Back 16 pl nn wa ws bs := by
  rw [okI_16 _ _ _ _ _ _ rfl] at hb
  simp [rnB] at hb
  obtain ⟨hr, hw, hnn, hwa, hl2⟩ := hb
  subst hnn hwa hl2
  refine ⟨rfl, ?_, rfl, rfl, ?_, rfl⟩
  · exact (wAt_here [16] _ _ _).trans (word_back pl (by omega))
  · exact wsF_here ((16 :: wbs [pl, (ws.length : Int)]) ++ [((2 * ws.length : Nat) : Int) % 256]) ws 6 rfl hw

theorem w7_23 (pl nn wa : Int) (ws : List Int) (h : ws.length ≤ 121) : wAt (putL 23 pl nn wa ws []) 7 = (ws.length : Int) := (wAt_here [23, pl / 256 % 256, pl % 256, nn / 256 % 256, nn % 256, wa / 256 % 256, wa % 256] _ _ _).trans (word_back _ (by omega))

theorem back_23 (pl nn wa : Int) (ws : List Int) (bs : List Bool) (hb : okR 23 pl nn wa ws ws.length bs.length = true) : Back 23 pl nn wa ws bs := by
  rw [okI_23 _ _ _ _ _ _ rfl] at hb
  simp [rnB] at hb
  obtain ⟨hr, hq, hw, hl2⟩ := hb
  subst hl2
  refine ⟨rfl, ?_, ?_, ?_, ?_, rfl⟩
  · exact (wAt_here [23] _ _ _).trans (word_back pl (by omega))
  · exact (wAt_here [23, pl / 256 % 256, pl % 256] _ _ _).trans (word_back nn (by omega))
  · exact (wAt_here [23, pl / 256 % 256, pl % 256, nn / 256 % 256, nn % 256] _ _ _).trans (word_back wa (by omega))
  · exact wsF_here ((23 :: wbs [pl, nn, wa, (ws.length : Int)]) ++ [((2 * ws.length : Nat) : Int) % 256]) ws 10 rfl hw

/-- A question that is right comes back of its bytes. -/
theorem asked_back (kd pl nn wa : Int) (ws : List Int) (bs : List Bool) (hb : okR kd pl nn wa ws ws.length bs.length = true) : Back kd pl nn wa ws bs ∧ gOk kd (putL kd pl nn wa ws bs) = true := by
  have B : Back kd pl nn wa ws bs := by
    obtain rfl | rfl | rfl | rfl | rfl | rfl | rfl | rfl | rfl | rfl := okR_kind hb
    · exact back_1 pl nn wa ws bs hb
    · exact back_2 pl nn wa ws bs hb
    · exact back_3 pl nn wa ws bs hb
    · exact back_4 pl nn wa ws bs hb
    · exact back_5 pl nn wa ws bs hb
    · exact back_6 pl nn wa ws bs hb
    · exact back_15 pl nn wa ws bs hb
    · exact back_16 pl nn wa ws bs hb
    · exact back_22 pl nn wa ws bs hb
    · exact back_23 pl nn wa ws bs hb
  refine ⟨B, ?_⟩
  obtain ⟨_, h1, h2, h3, h4, h5⟩ := B
  unfold gOk
  rw [h1, h2, h3, h4, h5, hb]
  simp

/-- How long the bytes of a question of a kind are, by their own words. -/
def lenG (k : Int) (zs : List Int) : Int :=
  if k = 22 then 7 else if k = 15 then 6 + (wAt zs 3 + 7) / 8 else if k = 16 then 6 + 2 * wAt zs 3 else if k = 23 then 10 + 2 * wAt zs 7 else 5

theorem put_len (kd pl nn wa : Int) (ws : List Int) (bs : List Bool) (hb : okR kd pl nn wa ws ws.length bs.length = true) : ((putL kd pl nn wa ws bs).length : Int) = lenG kd (putL kd pl nn wa ws bs) := by
  obtain rfl | rfl | rfl | rfl | rfl | rfl | rfl | rfl | rfl | rfl := okR_kind hb
  · rfl
  · rfl
  · rfl
  · rfl
  · rfl
  · rw [okI_6 _ _ _ _ _ _ rfl] at hb
    simp at hb
    show ((6 :: wbs (pl :: ws)).length : Int) = 5
    simp [wbs, wbs_length]
    omega
  · rw [okI_15 _ _ _ _ _ _ rfl] at hb
    simp [rnB] at hb
    obtain ⟨hr, hnn, hwa, hl1⟩ := hb
    subst hnn hwa hl1
    show _ = 6 + (wAt (putL 15 pl 0 0 [] bs) 3 + 7) / 8
    rw [w3_15 pl bs (by omega)]
    simp [putL, wbs, packL_length]
    omega
  · rw [okI_16 _ _ _ _ _ _ rfl] at hb
    simp [rnB] at hb
    obtain ⟨hr, hw, hnn, hwa, hl2⟩ := hb
    subst hnn hwa hl2
    show _ = 6 + 2 * wAt (putL 16 pl 0 0 ws []) 3
    rw [w3_16 pl ws (by omega)]
    simp [putL, wbs, wbs_length]
    omega
  · rw [okI_22 _ _ _ _ _ _ rfl] at hb
    simp at hb
    show ((22 :: wbs (pl :: ws)).length : Int) = 7
    simp [wbs, wbs_length]
    omega
  · rw [okI_23 _ _ _ _ _ _ rfl] at hb
    simp [rnB] at hb
    obtain ⟨hr, hq, hw, hl2⟩ := hb
    subst hl2
    show _ = 10 + 2 * wAt (putL 23 pl nn wa ws []) 7
    rw [w7_23 pl nn wa ws (by omega)]
    simp [putL, wbs, wbs_length]
    omega

theorem ok_len {k : Int} {zs : List Int} (h : gOk k zs = true) : (zs.length : Int) = lenG k zs := by
  have h' := h
  unfold gOk at h
  simp only [Bool.and_eq_true, decide_eq_true_eq] at h
  have e := put_len k _ _ _ _ _ h.1
  rw [h.2] at e
  exact e

/-- Two rows of bytes with the same words where their length is told: not both are questions, unless they are as long. -/
theorem ok_apart {k : Int} {zs ys : List Int} (h : gOk k zs = true) (h3 : wAt zs 3 = wAt ys 3) (h7 : wAt zs 7 = wAt ys 7) (hne : zs.length ≠ ys.length) : ¬ gOk k ys = true := by
  intro h'
  have e1 := ok_len h
  have e2 := ok_len h'
  unfold lenG at e1 e2
  rw [h3, h7] at e1
  omega

end Go.Proofs.YtoofkikenfgbpaaDoor

namespace Go.Proofs.YtoofkikenfgbpaaDoor
open Go.RowKit

set_option linter.unusedVariables false

set_option linter.unusedSimpArgs false

theorem putL_rg (kd pl nn wa : Int) (ws : List Int) (bs : List Bool) (hb : okR kd pl nn wa ws ws.length bs.length = true) : ∀ z ∈ putL kd pl nn wa ws bs, 0 ≤ z ∧ z ≤ 255 := by
  have hk := okR_kind hb
  intro z hz
  unfold putL at hz
  have hw := wbs_rg
  have hp := packL_rg bs
  split at hz
  · rcases List.mem_cons.mp hz with h | h
    · omega
    · exact hw _ z h
  · split at hz
    · rcases List.mem_cons.mp hz with h | h
      · omega
      · exact hw _ z h
    · split at hz
      · rcases List.mem_append.mp hz with h | h
        · rcases List.mem_append.mp h with h | h
          · rcases List.mem_cons.mp h with h | h
            · omega
            · exact hw _ z h
          · simp at h; omega
        · exact hp z h
      · split at hz
        · rcases List.mem_append.mp hz with h | h
          · rcases List.mem_append.mp h with h | h
            · rcases List.mem_cons.mp h with h | h
              · omega
              · exact hw _ z h
            · simp at h; omega
          · exact hw _ z h
        · split at hz
          · rcases List.mem_append.mp hz with h | h
            · rcases List.mem_append.mp h with h | h
              · rcases List.mem_cons.mp h with h | h
                · omega
                · exact hw _ z h
              · simp at h; omega
            · exact hw _ z h
          · rcases List.mem_cons.mp hz with h | h
            · omega
            · exact hw _ z h

theorem getD_take {zs : List Int} {m i : Nat} (h : i < m) : (zs.take m).getD i 0 = zs.getD i 0 := by
  simp [List.getD_eq_getElem?_getD, List.getElem?_take, h]

theorem getD_more {zs : List Int} {x : Int} {i : Nat} (h : i < zs.length) : (zs ++ [x]).getD i 0 = zs.getD i 0 := by
  simp [List.getD_eq_getElem?_getD, List.getElem?_append_left h]

theorem wAt_take {zs : List Int} {m i : Nat} (h : i + 2 ≤ m) (hm : m ≤ zs.length) : wAt (zs.take m) i = wAt zs i := by
  unfold wAt
  rw [List.length_take, if_pos (by omega), if_pos (by omega), getD_take (by omega), getD_take (by omega)]

theorem wAt_more {zs : List Int} {x : Int} {i : Nat} (h : i + 2 ≤ zs.length) : wAt (zs ++ [x]) i = wAt zs i := by
  unfold wAt
  rw [List.length_append, if_pos (by simp; omega), if_pos h]
  simp [List.getD_eq_getElem?_getD, List.getElem?_append_left (show i < zs.length by omega), List.getElem?_append_left (show i + 1 < zs.length by omega)]

theorem wAt_nn {zs : List Int} (hr : ∀ z ∈ zs, 0 ≤ z ∧ z ≤ 255) (i : Nat) : 0 ≤ wAt zs i := by
  unfold wAt
  split
  · have h1 := get_range hr i
    have h2 := get_range hr (i + 1)
    omega
  · omega

theorem cut_bad {k : Int} {zs : List Int} (hr : ∀ z ∈ zs, 0 ≤ z ∧ z ≤ 255) (h : gOk k zs = true) : ¬ gOk k (zs.take (zs.length - 1)) = true := by
  intro h'
  have e1 := ok_len h
  have e2 := ok_len h'
  have n3 := wAt_nn hr 3
  have n7 := wAt_nn hr 7
  rw [List.length_take] at e2
  unfold lenG at e1 e2
  by_cases hk : k = 22
  · rw [if_pos hk] at e1 e2; omega
  · rw [if_neg hk] at e1 e2
    by_cases hk : k = 15
    · rw [if_pos hk] at e1 e2
      rw [wAt_take (by omega) (by omega)] at e2; omega
    · rw [if_neg hk] at e1 e2
      by_cases hk : k = 16
      · rw [if_pos hk] at e1 e2
        rw [wAt_take (by omega) (by omega)] at e2; omega
      · rw [if_neg hk] at e1 e2
        by_cases hk : k = 23
        · rw [if_pos hk] at e1 e2
          rw [wAt_take (by omega) (by omega)] at e2; omega
        · rw [if_neg hk] at e1 e2; omega

theorem more_bad {k : Int} {zs : List Int} {x : Int} (hr : ∀ z ∈ zs, 0 ≤ z ∧ z ≤ 255) (h : gOk k zs = true) : ¬ gOk k (zs ++ [x]) = true := by
  intro h'
  have e1 := ok_len h
  have e2 := ok_len h'
  have n3 := wAt_nn hr 3
  have n7 := wAt_nn hr 7
  rw [List.length_append] at e2
  simp only [List.length_cons, List.length_nil] at e2
  unfold lenG at e1 e2
  by_cases hk : k = 22
  · rw [if_pos hk] at e1 e2; omega
  · rw [if_neg hk] at e1 e2
    by_cases hk : k = 15
    · rw [if_pos hk] at e1 e2
      rw [wAt_more (by omega)] at e2; omega
    · rw [if_neg hk] at e1 e2
      by_cases hk : k = 16
      · rw [if_pos hk] at e1 e2
        rw [wAt_more (by omega)] at e2; omega
      · rw [if_neg hk] at e1 e2
        by_cases hk : k = 23
        · rw [if_pos hk] at e1 e2
          rw [wAt_more (by omega)] at e2; omega
        · rw [if_neg hk] at e1 e2; omega

theorem ok_five {k : Int} {zs : List Int} (hr : ∀ z ∈ zs, 0 ≤ z ∧ z ≤ 255) (h : gOk k zs = true) : 5 ≤ zs.length := by
  have e1 := ok_len h
  have n3 := wAt_nn hr 3
  have n7 := wAt_nn hr 7
  unfold lenG at e1
  split at e1
  · omega
  · split at e1
    · omega
    · split at e1
      · omega
      · split at e1 <;> omega

/-- What the three calls of GetReq end with. -/
theorem get_back {kd pl nn wa : Int} {ws : List Int} {bs : List Bool} (hb : okR kd pl nn wa ws ws.length bs.length = true) {w w' : World} {e : Ending} (h : GPz (putL kd pl nn wa ws bs) w w' e) : GP w w' e kd pl nn wa ws bs 0 := by
  obtain ⟨⟨b0, b1, b2, b3, b4, b5⟩, hg⟩ := asked_back kd pl nn wa ws bs hb
  have hr := putL_rg kd pl nn wa ws bs hb
  have h5 := ok_five hr hg
  have hk : kindB kd = true := decide_eq_true (okR_kind hb)
  unfold GPz at h
  rw [b0, if_neg (by rw [hk]; simp; intro hh; rw [hh] at h5; simp at h5), if_pos hg, b1, b2, b3, b4, b5] at h
  exact h

theorem get_bad {kd : Int} {zs : List Int} {w w' : World} {e : Ending} (h0 : zs.getD 0 0 = kd) (h1 : zs.length ≠ 0) (hk : kindB kd = true) (hn : ¬ gOk kd zs = true) (h : GPz zs w w' e) : GP w w' e 0 0 0 0 [] [] 3 := by
  unfold GPz at h
  rw [h0, if_neg (by rw [hk]; simpa using h1), if_neg hn] at h
  exact h

theorem get_cut {kd pl nn wa : Int} {ws : List Int} {bs : List Bool} (hb : okR kd pl nn wa ws ws.length bs.length = true) {w w' : World} {e : Ending} (h : GPz ((putL kd pl nn wa ws bs).take ((putL kd pl nn wa ws bs).length - 1)) w w' e) : GP w w' e 0 0 0 0 [] [] 3 := by
  obtain ⟨⟨b0, _⟩, hg⟩ := asked_back kd pl nn wa ws bs hb
  have hr := putL_rg kd pl nn wa ws bs hb
  have h5 := ok_five hr hg
  exact get_bad (by rw [getD_take (by omega)]; exact b0) (by rw [List.length_take]; omega) (decide_eq_true (okR_kind hb)) (cut_bad hr hg) h

theorem get_more {kd pl nn wa : Int} {ws : List Int} {bs : List Bool} (hb : okR kd pl nn wa ws ws.length bs.length = true) {w w' : World} {e : Ending} (h : GPz (putL kd pl nn wa ws bs ++ [0]) w w' e) : GP w w' e 0 0 0 0 [] [] 3 := by
  obtain ⟨⟨b0, _⟩, hg⟩ := asked_back kd pl nn wa ws bs hb
  have hr := putL_rg kd pl nn wa ws bs hb
  have h5 := ok_five hr hg
  exact get_bad ((getD_more (by omega)).trans b0) (by simp) (decide_eq_true (okR_kind hb)) (more_bad hr hg) h

theorem touches {kd pl nn wa : Int} {ws : List Int} {l1 l2 : Nat} (hb : okR kd pl nn wa ws l1 l2 = true) : 0 ≤ spc0 kd ∧ spc0 kd ≤ 3 ∧ 1 ≤ spcN kd nn l1 l2 ∧ pl + spcN kd nn l1 l2 ≤ 65536 ∧ 0 ≤ pl ∧ spcN kd nn l1 l2 ≤ 65536 ∧ wrK kd = decide (kd > 4) := by
  have hk := okR_kind hb
  unfold okR at hb
  simp only [Bool.and_eq_true] at hb
  obtain ⟨_, hp, hb⟩ := hb
  unfold inB at hp
  have hp := of_decide_eq_true hp
  obtain rfl | rfl | rfl | rfl | rfl | rfl | rfl | rfl | rfl | rfl := hk
  all_goals (
    simp [okK, zrB, inB, fitB] at hb
    simp [spc0, spcN, wrK]
    omega)

end Go.Proofs.YtoofkikenfgbpaaDoor

namespace Go.Proofs.YtoofkikenfgbpaaDoor
open Go.RowKit

set_option linter.unusedVariables false

set_option linter.unusedSimpArgs false

theorem kinds {kd : Int} (h : kindB kd = true) : kd = 1 ∨ kd = 2 ∨ kd = 3 ∨ kd = 4 ∨ kd = 5 ∨ kd = 6 ∨ kd = 15 ∨ kd = 16 ∨ kd = 22 ∨ kd = 23 := of_decide_eq_true h

theorem okA_parts {kd fl pl nn : Int} {ws : List Int} {bs : List Bool} (h : okA kd fl pl nn ws ws.length bs.length = true) :
    kindB kd = true ∧ 0 ≤ fl ∧ fl ≤ 255 ∧ allW ws = true ∧ 0 ≤ pl ∧ pl ≤ 65535 ∧ ((0 < fl ∧ pl = 0 ∧ nn = 0 ∧ ws = [] ∧ bs = []) ∨ (fl = 0 ∧ okAK kd pl nn ws.length bs.length = true)) := by
  unfold okA inB at h
  simp only [Bool.and_eq_true, decide_eq_true_eq] at h
  obtain ⟨h1, ⟨h2, h3⟩, h4, ⟨h5, h6⟩, h7⟩ := h
  refine ⟨h1, h2, h3, h4, h5, h6, ?_⟩
  by_cases hf : 0 < fl
  · rw [if_pos hf] at h7
    simp [zr4] at h7
    exact .inl ⟨hf, h7.1, h7.2.1, h7.2.2.1, h7.2.2.2⟩
  · rw [if_neg hf] at h7
    exact .inr ⟨by omega, h7⟩

/-- How many bytes an answer has that begins so. -/
def plen (x y : Int) : Int := if 128 ≤ x then 2 else if x = 1 ∨ x = 2 ∨ x = 3 ∨ x = 4 ∨ x = 23 then y + 2 else if x = 22 then 7 else 5

theorem putA_plen {kd fl pl nn : Int} {ws : List Int} {bs : List Bool} (h : okA kd fl pl nn ws ws.length bs.length = true) :
    2 ≤ (putA kd fl pl nn ws bs).length ∧ ((putA kd fl pl nn ws bs).length : Int) = plen ((putA kd fl pl nn ws bs).getD 0 0) ((putA kd fl pl nn ws bs).getD 1 0) := by
  obtain ⟨hk, hf0, hf1, hw, hp0, hp1, hc⟩ := okA_parts h
  have hk' := kinds hk
  rcases hc with ⟨hf, rfl, rfl, rfl, rfl⟩ | ⟨rfl, hK⟩
  · unfold putA
    rw [if_neg (by omega)]
    refine ⟨by simp, ?_⟩
    show ((2 : Nat) : Int) = plen (kd + 128) fl
    unfold plen
    rw [if_pos (by omega)]; rfl
  · unfold putA
    rw [if_pos rfl]
    unfold okAK zr4 inB at hK
    rcases hk' with rfl | rfl | rfl | rfl | rfl | rfl | rfl | rfl | rfl | rfl
    all_goals simp at hK
    all_goals simp [plen, packL_length, wbs_length, wbs]
    all_goals omega

/-- What is none. -/
theorem isA_len {k fl pl nn : Int} {ws : List Int} {bs : List Bool} {zs : List Int} (h : isA k fl pl nn ws bs zs = true) : 2 ≤ zs.length ∧ (zs.length : Int) = plen (zs.getD 0 0) (zs.getD 1 0) := by
  unfold isA at h
  simp only [Bool.and_eq_true, decide_eq_true_eq] at h
  rw [← h.2]
  exact putA_plen h.1

theorem gz_bad {zs : List Int} {w w' : World} {e : Ending} (hn : ¬ (2 ≤ zs.length ∧ (zs.length : Int) = plen (zs.getD 0 0) (zs.getD 1 0))) (h : GZ zs w w' e) : ∃ c, c ≠ 0 ∧ GPA w w' e 0 0 0 0 [] [] c := by
  have key : ∀ {k fl pl nn : Int} {ws : List Int} {bs : List Bool}, EndA k fl pl nn ws bs zs w w' e → ∃ c, c ≠ 0 ∧ GPA w w' e 0 0 0 0 [] [] c := by
    intro k fl pl nn ws bs h
    unfold EndA at h
    by_cases hi : isA k fl pl nn ws bs zs = true
    · exact absurd (isA_len hi) hn
    · rw [if_neg hi] at h; exact ⟨3, by decide, h⟩
  unfold GZ at h
  split at h
  · exact ⟨1, by decide, h⟩
  · split at h
    · exact key h
    · split at h
      · exact key h
      · split at h
        · exact key h
        · split at h
          · exact key h
          · split at h
            · exact key h
            · exact key h

theorem gz_cut {kd fl pl nn : Int} {ws : List Int} {bs : List Bool} (hb : okA kd fl pl nn ws ws.length bs.length = true) {w w' : World} {e : Ending} (h : GZ ((putA kd fl pl nn ws bs).take ((putA kd fl pl nn ws bs).length - 1)) w w' e) : ∃ c, c ≠ 0 ∧ GPA w w' e 0 0 0 0 [] [] c := by
  obtain ⟨h2, hl⟩ := putA_plen hb
  generalize putA kd fl pl nn ws bs = zs at *
  refine gz_bad (fun ⟨n2, nl⟩ => ?_) h
  have hlen : (zs.take (zs.length - 1)).length = zs.length - 1 := by simp
  rw [hlen] at n2 nl
  rw [getD_take (by omega), getD_take (by omega), ← hl] at nl
  omega

theorem gz_more {kd fl pl nn x : Int} {ws : List Int} {bs : List Bool} (hb : okA kd fl pl nn ws ws.length bs.length = true) {w w' : World} {e : Ending} (h : GZ (putA kd fl pl nn ws bs ++ [x]) w w' e) : ∃ c, c ≠ 0 ∧ GPA w w' e 0 0 0 0 [] [] c := by
  obtain ⟨h2, hl⟩ := putA_plen hb
  generalize putA kd fl pl nn ws bs = zs at *
  refine gz_bad (fun ⟨n2, nl⟩ => ?_) h
  rw [getD_more (by omega), getD_more (by omega), ← hl] at nl
  simp at nl
  omega

/-- An answer's bytes are bytes. -/
theorem putA_rgT {kd fl pl nn : Int} {ws : List Int} {bs : List Bool} (hb : okA kd fl pl nn ws ws.length bs.length = true) : ∀ z ∈ putA kd fl pl nn ws bs, 0 ≤ z ∧ z ≤ 255 := by
  obtain ⟨hk, hf0, hf1, hw, hp0, hp1, hc⟩ := okA_parts hb
  have hk' := kinds hk
  have hw := wbs_rg
  have hp := packL_rg bs
  intro z hz
  unfold putA at hz
  split at hz
  · split at hz
    · rcases List.mem_append.mp hz with h | h
      · simp at h; omega
      · exact hp z h
    · split at hz
      · rcases List.mem_append.mp hz with h | h
        · simp at h; omega
        · exact hw _ z h
      · split at hz
        · rcases List.mem_cons.mp hz with h | h
          · omega
          · exact hw _ z h
        · split at hz
          · rcases List.mem_cons.mp hz with h | h
            · omega
            · exact hw _ z h
          · rcases List.mem_cons.mp hz with h | h
            · omega
            · exact hw _ z h
  · simp at hz; omega

theorem enda_get {k fl pl nn : Int} {ws : List Int} {bs : List Bool} {zs : List Int} {w w' : World} {e : Ending} (h1 : okA k fl pl nn ws ws.length bs.length = true) (h2 : putA k fl pl nn ws bs = zs) (h : EndA k fl pl nn ws bs zs w w' e) : GPA w w' e k fl pl nn ws bs 0 := by
  unfold EndA isA at h; rw [h1, decide_eq_true h2, if_pos (by rfl)] at h; exact h

theorem back_bits {kd nz : Int} {bs : List Bool} (h8 : bs.length % 8 = 0) : outU (([kd] ++ [nz] ++ packL bs).drop 2) (8 * ((([kd] ++ [nz] ++ packL bs).length : Int) - 2)) = bs := by
  have e : (8 * ((([kd] ++ [nz] ++ packL bs).length : Int) - 2)) = (bs.length : Int) := by
    simp [packL_length]; omega
  rw [e]
  exact (unpackQ bs _ rfl).2

theorem gz_1 {zs : List Int} {w w' : World} {e : Ending} (g0 : zs.getD 0 0 = 1) (hl : zs.length ≠ 0) (h : GZ zs w w' e) : EndA 1 0 0 0 [] (outU (zs.drop 2) (8 * ((zs.length : Int) - 2))) zs w w' e := by
  unfold GZ at h
  rw [g0, if_neg (by rintro (hh | hh); exact hl hh; revert hh; decide), if_neg (by decide), if_pos (by decide)] at h
  exact h

theorem gz_2 {zs : List Int} {w w' : World} {e : Ending} (g0 : zs.getD 0 0 = 2) (hl : zs.length ≠ 0) (h : GZ zs w w' e) : EndA 2 0 0 0 [] (outU (zs.drop 2) (8 * ((zs.length : Int) - 2))) zs w w' e := by
  unfold GZ at h
  rw [g0, if_neg (by rintro (hh | hh); exact hl hh; revert hh; decide), if_neg (by decide), if_pos (by decide)] at h
  exact h

theorem gz_3 {zs : List Int} {w w' : World} {e : Ending} (g0 : zs.getD 0 0 = 3) (hl : zs.length ≠ 0) (h : GZ zs w w' e) : EndA 3 0 0 0 (wsF zs 2) [] zs w w' e := by
  unfold GZ at h
  rw [g0, if_neg (by rintro (hh | hh); exact hl hh; revert hh; decide), if_neg (by decide), if_neg (by decide), if_pos (by decide)] at h
  exact h

theorem gz_4 {zs : List Int} {w w' : World} {e : Ending} (g0 : zs.getD 0 0 = 4) (hl : zs.length ≠ 0) (h : GZ zs w w' e) : EndA 4 0 0 0 (wsF zs 2) [] zs w w' e := by
  unfold GZ at h
  rw [g0, if_neg (by rintro (hh | hh); exact hl hh; revert hh; decide), if_neg (by decide), if_neg (by decide), if_pos (by decide)] at h
  exact h

theorem gz_5 {zs : List Int} {w w' : World} {e : Ending} (g0 : zs.getD 0 0 = 5) (hl : zs.length ≠ 0) (h : GZ zs w w' e) : EndA 5 0 (wAt zs 1) 0 [] [wAt zs 3 == 65280] zs w w' e := by
  unfold GZ at h
  rw [g0, if_neg (by rintro (hh | hh); exact hl hh; revert hh; decide), if_neg (by decide), if_neg (by decide), if_neg (by decide), if_pos (by decide)] at h
  exact h

theorem gz_6 {zs : List Int} {w w' : World} {e : Ending} (g0 : zs.getD 0 0 = 6) (hl : zs.length ≠ 0) (h : GZ zs w w' e) : EndA 6 0 (wAt zs 1) 0 (wsF zs 3) [] zs w w' e := by
  unfold GZ at h
  rw [g0, if_neg (by rintro (hh | hh); exact hl hh; revert hh; decide), if_neg (by decide), if_neg (by decide), if_neg (by decide), if_neg (by decide), if_pos (by decide)] at h
  exact h

theorem gz_15 {zs : List Int} {w w' : World} {e : Ending} (g0 : zs.getD 0 0 = 15) (hl : zs.length ≠ 0) (h : GZ zs w w' e) : EndA 15 0 (wAt zs 1) (wAt zs 3) [] [] zs w w' e := by
  unfold GZ at h
  rw [g0, if_neg (by rintro (hh | hh); exact hl hh; revert hh; decide), if_neg (by decide), if_neg (by decide), if_neg (by decide), if_neg (by decide), if_neg (by decide)] at h
  exact h

theorem gz_16 {zs : List Int} {w w' : World} {e : Ending} (g0 : zs.getD 0 0 = 16) (hl : zs.length ≠ 0) (h : GZ zs w w' e) : EndA 16 0 (wAt zs 1) (wAt zs 3) [] [] zs w w' e := by
  unfold GZ at h
  rw [g0, if_neg (by rintro (hh | hh); exact hl hh; revert hh; decide), if_neg (by decide), if_neg (by decide), if_neg (by decide), if_neg (by decide), if_neg (by decide)] at h
  exact h

theorem gz_22 {zs : List Int} {w w' : World} {e : Ending} (g0 : zs.getD 0 0 = 22) (hl : zs.length ≠ 0) (h : GZ zs w w' e) : EndA 22 0 (wAt zs 1) 0 (wsF zs 3) [] zs w w' e := by
  unfold GZ at h
  rw [g0, if_neg (by rintro (hh | hh); exact hl hh; revert hh; decide), if_neg (by decide), if_neg (by decide), if_neg (by decide), if_neg (by decide), if_pos (by decide)] at h
  exact h

theorem gz_23 {zs : List Int} {w w' : World} {e : Ending} (g0 : zs.getD 0 0 = 23) (hl : zs.length ≠ 0) (h : GZ zs w w' e) : EndA 23 0 0 0 (wsF zs 2) [] zs w w' e := by
  unfold GZ at h
  rw [g0, if_neg (by rintro (hh | hh); exact hl hh; revert hh; decide), if_neg (by decide), if_neg (by decide), if_pos (by decide)] at h
  exact h

theorem gz_back {kd fl pl nn : Int} {ws : List Int} {bs : List Bool} (hb : okA kd fl pl nn ws ws.length bs.length = true) {w w' : World} {e : Ending} (h : GZ (putA kd fl pl nn ws bs) w w' e) : GPA w w' e kd fl pl nn ws bs 0 := by
  obtain ⟨hk, hf0, hf1, hw, hp0, hp1, hc⟩ := okA_parts hb
  have hk' := kinds hk
  rcases hc with ⟨hf, rfl, rfl, rfl, rfl⟩ | ⟨rfl, hK⟩
  · have hz : putA kd fl 0 0 [] [] = [kd + 128, fl] := by unfold putA; rw [if_neg (by omega)]
    have hkd : (kd + 128) % 128 = kd := by omega
    rw [hz] at h
    unfold GZ at h
    simp only [List.length_cons, List.length_nil, List.getD_cons_zero, List.getD_cons_succ, hkd, hk] at h
    rw [if_neg (by simp), if_pos (by omega), Int.add_sub_cancel] at h
    exact enda_get hb hz h
  · unfold okAK zr4 inB at hK
    rcases hk' with rfl | rfl | rfl | rfl | rfl | rfl | rfl | rfl | rfl | rfl
    · simp at hK
      obtain ⟨⟨rfl, rfl, rfl⟩, hn, h8⟩ := hK
      have g := gz_1 (by rfl) (by simp [putA]) h
      have e : outU (List.drop 2 (putA 1 0 0 0 [] bs)) (8 * (((putA 1 0 0 0 [] bs).length : Int) - 2)) = bs := back_bits h8
      rw [e] at g
      exact enda_get hb rfl g
    · simp at hK
      obtain ⟨⟨rfl, rfl, rfl⟩, hn, h8⟩ := hK
      have g := gz_2 (by rfl) (by simp [putA]) h
      have e : outU (List.drop 2 (putA 2 0 0 0 [] bs)) (8 * (((putA 2 0 0 0 [] bs).length : Int) - 2)) = bs := back_bits h8
      rw [e] at g
      exact enda_get hb rfl g
    · simp at hK
      obtain ⟨⟨rfl, rfl, rfl⟩, hn⟩ := hK
      have g := gz_3 (by rfl) (by simp [putA]) h
      have e : wsF (putA 3 0 0 0 ws []) 2 = ws := wsF_here [3, ((2 * ws.length : Nat) : Int) % 256] ws 2 rfl hw
      rw [e] at g
      exact enda_get hb rfl g
    · simp at hK
      obtain ⟨⟨rfl, rfl, rfl⟩, hn⟩ := hK
      have g := gz_4 (by rfl) (by simp [putA]) h
      have e : wsF (putA 4 0 0 0 ws []) 2 = ws := wsF_here [4, ((2 * ws.length : Nat) : Int) % 256] ws 2 rfl hw
      rw [e] at g
      exact enda_get hb rfl g
    · simp at hK
      obtain ⟨⟨rfl, rfl⟩, hn⟩ := hK
      match bs, hn with
      | [x], _ =>
        have g := gz_5 (by rfl) (by simp [putA]) h
        have e1 : wAt (putA 5 0 pl 0 [] [x]) 1 = pl := (wAt_here [5] _ _ _).trans (word_back pl (by omega))
        rw [e1, five_bit (x := x) rfl] at g
        have e2 : ((bif x then 65280 else 0 : Int) == 65280) = x := by cases x <;> rfl
        rw [e2] at g
        exact enda_get hb rfl g
    · simp at hK
      obtain ⟨⟨rfl, rfl⟩, hn⟩ := hK
      have g := gz_6 (by rfl) (by simp [putA]) h
      have e1 : wAt (putA 6 0 pl 0 ws []) 1 = pl := (wAt_here [6] _ _ _).trans (word_back pl (by omega))
      have e : wsF (putA 6 0 pl 0 ws []) 3 = ws := wsF_here [6, pl / 256 % 256, pl % 256] ws 3 rfl hw
      rw [e1, e] at g
      exact enda_get hb rfl g
    · simp at hK
      obtain ⟨⟨rfl, rfl⟩, hn⟩ := hK
      have g := gz_15 (by rfl) (by simp [putA]) h
      have e1 : wAt (putA 15 0 pl nn [] []) 1 = pl := (wAt_here [15] _ _ _).trans (word_back pl (by omega))
      have e3 : wAt (putA 15 0 pl nn [] []) 3 = nn := (wAt_here [15, pl / 256 % 256, pl % 256] _ _ _).trans (word_back nn (by omega))
      rw [e1, e3] at g
      exact enda_get hb rfl g
    · simp at hK
      obtain ⟨⟨rfl, rfl⟩, hn⟩ := hK
      have g := gz_16 (by rfl) (by simp [putA]) h
      have e1 : wAt (putA 16 0 pl nn [] []) 1 = pl := (wAt_here [16] _ _ _).trans (word_back pl (by omega))
      have e3 : wAt (putA 16 0 pl nn [] []) 3 = nn := (wAt_here [16, pl / 256 % 256, pl % 256] _ _ _).trans (word_back nn (by omega))
      rw [e1, e3] at g
      exact enda_get hb rfl g
    · simp at hK
      obtain ⟨⟨rfl, rfl⟩, hn⟩ := hK
      have g := gz_22 (by rfl) (by simp [putA]) h
      have e1 : wAt (putA 22 0 pl 0 ws []) 1 = pl := (wAt_here [22] _ _ _).trans (word_back pl (by omega))
      have e : wsF (putA 22 0 pl 0 ws []) 3 = ws := wsF_here [22, pl / 256 % 256, pl % 256] ws 3 rfl hw
      rw [e1, e] at g
      exact enda_get hb rfl g
    · simp at hK
      obtain ⟨⟨rfl, rfl, rfl⟩, hn⟩ := hK
      have g := gz_23 (by rfl) (by simp [putA]) h
      have e : wsF (putA 23 0 0 0 ws []) 2 = ws := wsF_here [23, ((2 * ws.length : Nat) : Int) % 256] ws 2 rfl hw
      rw [e] at g
      exact enda_get hb rfl g

end Go.Proofs.YtoofkikenfgbpaaDoor

namespace Go.Proofs.YtoofkikenfgbpaaDoor
open Go.RowKit

set_option linter.unusedVariables false

set_option linter.unusedSimpArgs false

set_option maxHeartbeats 1000000 in
theorem l1Once_any (w0 : World) (a : Option Addr) (cap : Nat) (zs : List Int) (w : World) (g : Nat) (n : Int) (hn : 1 ≤ n) (hC : Cur w0 a cap zs w g) :
    Calls Tryd.prog 48 #[.pointer (some ⟨g, 0, none⟩), .int .i64 n] w fun e w' => ∃ t : Bool, e = .returned (.bool t) ∧ Cur w0 a cap zs w' g ∧ w.grownBy w' (some g) := by
  go_enter Tryd.func48, Tryd.ntmps48
  go_wp2_with fail
  refine (l1Below_any w0 a cap zs _ g n hn hC).mono ?_
  rintro e w1 ⟨x, rfl, _, C1, g1⟩
  have R : Hid (Cur w0 a cap zs w1 g ∧ w.grownBy w1 (some g)) := ⟨C1, g1⟩
  clear hC C1 g1
  go_wp2
  go_ret
  exact ⟨_, rfl, R.out⟩

/-- What drawing bits ends with. -/
def DrawnBits (w0 : World) (a : Option Addr) (cap : Nat) (zs : List Int) (w : World) (g n : Nat) (e : Ending) (w' : World) : Prop :=
  ∃ (ad : Addr) (c : Nat) (bs : List Bool), e = .returned (.slice (some ad) n c) ∧ n = bs.length ∧ OwnB w' w.heap.size (.slice (some ad) n c) bs ∧ Cur w0 a cap zs w' g ∧ w.grownBy w' (some g)

theorem ownB_some {w : World} {base : Nat} {v : Value} {bs : List Bool} (h : OwnB w base v bs) (h0 : 0 < bs.length) : ∃ ad c, v = .slice (some ad) bs.length c := by
  obtain ⟨_, h2⟩ := h
  rcases h2 with ⟨h2, h3⟩ | ⟨g, cap', cur, hv, _⟩
  · omega
  · exact ⟨_, _, hv⟩

theorem bits_step {w0 w wr w1 w2 : World} {a : Option Addr} {cap g : Nat} {zs : List Int} {bs : List Bool} {v v' : Value} {o1 : Obj} {x : Bool} (hg : g < w.heap.size) (gr : w.grownBy wr (some g)) (ho : OwnB wr w.heap.size v bs) (C1 : Cur w0 a cap zs w1 g) (g1 : wr.grownBy w1 (some g))
    (h2 : w2.ownsRow w.heap.size 4 1 v' (bs.length + 1) (bs.map Value.bool ++ [Value.bool x])) (g2 : (w1.alloc o1).grownBy w2 v.ownBlock) (hlo : w0.heap.size ≤ g) :
    OwnB w2 w.heap.size v' (bs ++ [x]) ∧ Cur w0 a cap zs w2 g ∧ w.grownBy w2 (some g) := by
  have hv : ∀ k, v.ownBlock = some k → w.heap.size ≤ k := fun k hk => (World.ownsRow.lt ho k hk).1
  refine ⟨by simpa [OwnB] using h2, (C1.alloc o1).grown g2 (fun e => by have := hv g e.symm; omega) (fun k hk => by have := hv k hk; omega), ?_⟩
  have gg := grown_trans gr g1
  refine ⟨g2.os.trans gg.os, g2.tape.trans gg.tape, g2.output.trans gg.output, ?_, fun k hk hne => ?_⟩
  · have h := g2.size
    have h' := gg.size
    simp at h
    omega
  · rw [g2.block k (by have := gg.size; simp; omega) (fun e => by have := hv k e.symm; omega)]
    rw [Below.heap_alloc w1 o1 k (by have := gg.size; omega)]
    exact gg.block k hk hne

set_option maxHeartbeats 2000000 in
theorem l2Bits_any (w0 : World) (a : Option Addr) (cap : Nat) (zs : List Int) (w : World) (g : Nat) (n : Nat) (hn : n ≤ 1000000) (hC : Cur w0 a cap zs w g) :
    Calls Tryd.prog 76 #[.pointer (some ⟨g, 0, none⟩), .int .i64 n] w fun e w' => DrawnBits w0 a cap zs w g n e w' := by
  obtain ⟨i0, hi, hz0, hz1, hz2⟩ := info_parts Tryd.info4
  have hml : n + 2 ≤ maxLen := by unfold maxLen; omega
  have o0 := World.ownsRow_lit (base := w.heap.size) (e := 4) (size := 1) w #[] 0 (Nat.le_refl _) (by omega) rfl
  have hg := hC.hi
  have hlo := hC.lo
  have C0 := hC.alloc (.cells #[] 4)
  have G0 : w.grownBy (w.alloc (.cells #[] 4)) (some g) := World.grownBy_alloc _ _ _
  clear hC
  go_enter Tryd.func76, Tryd.ntmps76
  go_wp2
  go_loopw [5, 6] (fun v i wr => ∃ (k : Nat) (ad : Addr) (c : Nat) (bs : List Bool), k ≤ n ∧ i = .int .i64 k ∧ v = .slice (some ad) k c ∧ bs.length = k ∧ OwnB wr w.heap.size v bs ∧ Cur w0 a cap zs wr g ∧ w.grownBy wr (some g)) (fun _ i _ => n - (intOf i).toNat)
  case atStart => exact ⟨0, _, _, [], Nat.zero_le _, rfl, rfl, rfl, o0, C0, G0⟩
  case round =>
    obtain ⟨k, ad, c, bs, hk, rfl, rfl, hb, ho, C, G⟩ := hrel
    by_cases hlt : k < n
    · have hi' : (k : Int) < (n : Int) := by omega
      have HB : Hid (bs.length = k) := hb
      clear o0 C0 G0 hb
      go_wp2_with fail
      refine (l1Once_any w0 a cap zs _ g _ (by decide) C).mono ?_
      rintro e w1 ⟨x, rfl, C1, g1⟩
      have ho1 : w1.ownsRow w.heap.size 4 1 (.slice (some ad) k c) bs.length (bs.map Value.bool) := ho.kept g1 (.inr (fun e => by have := (World.ownsRow.lt ho g e).1; omega))
      have hm1 : bs.length + 1 ≤ maxLen := by rw [HB.out]; omega
      have hm2 : (bs.length + 1) * 1 ≤ 140737488355328 := by rw [HB.out]; omega
      have hsz : w.heap.size ≤ w1.heap.size := Nat.le_trans G.size g1.size
      go_wp2_with (at_builtin; refine wpList_append_own _ rfl (.tmp 13) (.tmp 16) 44 rfl w.heap.size 4 i0 (.bool false) 1 1 Tryd.underlying44 hi hz0 hz1 hz2 rfl (by decide) (.slice (some ad) k c) bs.length (bs.map Value.bool) rfl (ho1.alloc _) ⟨w1.heap.size, 0, none⟩ 1 1 [.bool x] rfl (by simp) one_cellB (one_oneB _) hm1 hm2 (by simp; omega) ?_; intro v' w2 o2 g2 _; have R := bits_step hg G ho C1 g1 o2 g2 hlo; clear ho ho1 o2 g2)
      obtain ⟨R1, R2, R3⟩ := R
      obtain ⟨ad', c', hv⟩ := ownB_some R1 (by simp)
      have hv' : Hid (v' = .slice (some ad') (k + 1) c') := by
        show v' = _
        rw [hv, List.length_append, HB.out]; rfl
      clear hv
      go_roundw
      case rel => exact ⟨k + 1, ad', c', bs ++ [x], by omega, by go_num, hv'.out, by rw [List.length_append, HB.out]; rfl, R1, R2, R3⟩
      case measure => simp [intOf]; omega
    · obtain rfl : k = n := by omega
      clear o0 C0 G0
      go_wp2
      go_ret
      exact ⟨ad, c, bs, rfl, hb.symm, ho, C, G⟩

theorem ints_lit (w : World) (l : List Int) (t : TypeId) : Ints (w.alloc (.cells (l.map (Value.int .i64)).toArray t)) ⟨w.heap.size, 0, none⟩ l :=
  ⟨w.heap.size, 0, rfl, by simp, fun i hi => by simp [hi]⟩

/-- What drawing words ends with. -/
def DrawnInts (w0 : World) (a : Option Addr) (cap : Nat) (zs : List Int) (w : World) (g n : Nat) (e : Ending) (w' : World) : Prop :=
  ∃ (ad : Option Addr) (c : Nat) (ws : List Int), e = .returned (.slice ad n c) ∧ n = ws.length ∧ OwnI w' w.heap.size (.slice ad n c) ws ∧ Cur w0 a cap zs w' g ∧ w.grownBy w' (some g)

theorem ints_step {w0 w wr w1 w2 : World} {a : Option Addr} {cap g : Nat} {zs : List Int} {ws : List Int} {v v' : Value} {o1 : Obj} {x : Int} (hg : g < w.heap.size) (gr : w.grownBy wr (some g)) (ho : OwnI wr w.heap.size v ws) (C1 : Cur w0 a cap zs w1 g) (g1 : wr.grownBy w1 (some g))
    (h2 : OwnI w2 w.heap.size v' (ws ++ [x])) (g2 : (w1.alloc o1).grownBy w2 v.ownBlock) (hlo : w0.heap.size ≤ g) :
    OwnI w2 w.heap.size v' (ws ++ [x]) ∧ Cur w0 a cap zs w2 g ∧ w.grownBy w2 (some g) := by
  have hv : ∀ k, v.ownBlock = some k → w.heap.size ≤ k := fun k hk => (World.ownsRow.lt ho k hk).1
  refine ⟨h2, (C1.alloc o1).grown g2 (fun e => by have := hv g e.symm; omega) (fun k hk => by have := hv k hk; omega), ?_⟩
  have gg := grown_trans gr g1
  refine ⟨g2.os.trans gg.os, g2.tape.trans gg.tape, g2.output.trans gg.output, ?_, fun k hk hne => ?_⟩
  · have h := g2.size
    have h' := gg.size
    simp at h
    omega
  · rw [g2.block k (by have := gg.size; simp; omega) (fun e => by have := hv k e.symm; omega)]
    rw [Below.heap_alloc w1 o1 k (by have := gg.size; omega)]
    exact gg.block k hk hne

set_option maxHeartbeats 4000000 in
theorem l3List_any (w0 : World) (a : Option Addr) (cap : Nat) (zs : List Int) (w : World) (g : Nat) (n : Nat) (hn : n ≤ 1000) (hC : Cur w0 a cap zs w g) :
    Calls Tryd.prog 77 #[.pointer (some ⟨g, 0, none⟩), .int .i64 n] w fun e w' => DrawnInts w0 a cap zs w g n e w' := by
  have o0 : OwnI (w.alloc (.cells #[] 3)) w.heap.size (.slice (some ⟨w.heap.size, 0, none⟩) 0 0) [] := ⟨rfl, .inr ⟨w.heap.size, 0, #[], rfl, Nat.le_refl _, Blk.new w #[] 3, by simp, by simp, rfl, rfl⟩⟩
  have hg := hC.hi
  have hlo := hC.lo
  have C0 := hC.alloc (.cells #[] 3)
  have G0 : w.grownBy (w.alloc (.cells #[] 3)) (some g) := World.grownBy_alloc _ _ _
  clear hC
  go_enter Tryd.func77, Tryd.ntmps77
  go_wp2
  go_loopw [5, 6] (fun v i wr => ∃ (k : Nat) (ad : Option Addr) (c : Nat) (ws : List Int), k ≤ n ∧ i = .int .i64 k ∧ v = .slice ad k c ∧ ws.length = k ∧ OwnI wr w.heap.size v ws ∧ Cur w0 a cap zs wr g ∧ w.grownBy wr (some g)) (fun _ i _ => n - (intOf i).toNat)
  case atStart => exact ⟨0, _, _, [], Nat.zero_le _, rfl, rfl, rfl, o0, C0, G0⟩
  case round =>
    obtain ⟨k, ad, c, ws, hk, rfl, rfl, hb, ho, C, G⟩ := hrel
    by_cases hlt : k < n
    · have hi' : (k : Int) < (n : Int) := by omega
      have HB : Hid (ws.length = k) := hb
      clear o0 C0 G0 hb
      go_wp2_with fail
      refine (l1Below_any w0 a cap zs _ g _ (by decide) C).mono ?_
      rintro e w1 ⟨x, rfl, _, C1, g1⟩
      have I1 := ints_lit w1 [0, 1, 65535, 256, x] 3
      have C1' := C1.alloc (.cells ([0, 1, 65535, 256, x].map (Value.int .i64)).toArray 3)
      have g1' : wr.grownBy (w1.alloc (.cells ([0, 1, 65535, 256, x].map (Value.int .i64)).toArray 3)) (some g) := grown_trans g1 (World.grownBy_alloc _ _ _)
      have hneg : w1.heap.size ≠ g := by have := C1.hi; omega
      clear C1 g1
      go_wp2_with fail
      refine (l1Int_any w0 a cap zs _ g ⟨w1.heap.size, 0, none⟩ 5 5 [0, 1, 65535, 256, x] rfl (by omega) (by omega) I1 hneg C1').mono ?_
      rintro e w2 ⟨y, rfl, _, C2, g2⟩
      have gg := grown_trans g1' g2
      have ho1 : OwnI w2 w.heap.size (.slice ad k c) ws := ho.kept gg (.inr (fun e => by have := (World.ownsRow.lt ho g e).1; omega))
      have HLn : Hid (ws.length + 1 ≤ 4000000) := by show ws.length + 1 ≤ 4000000; rw [HB.out]; omega
      have hsz : w.heap.size ≤ w2.heap.size := Nat.le_trans G.size gg.size
      clear I1 C1' g1' g2
      go_wp2_with (at_builtin; refine wpList_appI rfl (.tmp 13) (.tmp 19) rfl w.heap.size (.slice ad k c) ws rfl (ho1.below (bel_alloc _ _)) ⟨w2.heap.size, 0, none⟩ 1 1 [y] rfl rfl (lit_slI1' _ _ rfl) HLn.out (by simp; omega) ?_; intro v' w3 o3 g3)
      obtain ⟨R1, R2, R3⟩ := ints_step hg G ho C2 gg o3 g3 hlo
      obtain ⟨ad', c', n', hv, hn'⟩ := ownI_shape R1
      have en : n' = k + 1 := by rw [hn', List.length_append, HB.out]; rfl
      subst en
      subst hv
      clear o3 g3 ho1 ho C2 gg
      go_roundw
      case rel => exact ⟨k + 1, ad', c', ws ++ [y], by omega, by go_num, rfl, by rw [List.length_append, HB.out]; rfl, R1, R2, R3⟩
      case measure => simp [intOf]; omega
    · obtain rfl : k = n := by omega
      clear o0 C0 G0
      go_wp2
      go_ret
      exact ⟨ad, c, ws, rfl, hb.symm, ho, C, G⟩

end Go.Proofs.YtoofkikenfgbpaaDoor

namespace Go.Proofs.YtoofkikenfgbpaaDoor
open Go.RowKit

set_option linter.unusedVariables false

set_option linter.unusedSimpArgs false

theorem grown_setHi {w u : World} {g G j : Nat} {y : Value} (h : w.grownBy u (some g)) (hG : w.heap.size ≤ G) : w.grownBy (u.setCell ⟨G, j, none⟩ y) (some g) :=
  ⟨h.os, h.tape, h.output, by simpa [World.setCell] using h.size, fun k hk hne => (Below.heap_setCell _ _ _ _ (by show k ≠ G; omega)).trans (h.block k hk hne)⟩

theorem row_ne_g {u : World} {B size n g : Nat} {e : TypeId} {v : Value} {xs : List Value} (h : u.ownsRow B e size v n xs) (hg : g < B) : v.ownBlock = none ∨ v.ownBlock ≠ some g :=
  .inr (fun e => by have := (World.ownsRow.lt h g e).1; omega)

theorem Cur.setHi {w0 u : World} {a : Option Addr} {cap g G j : Nat} {zs : List Int} {y : Value} (h : Cur w0 a cap zs u g) (hne : g ≠ G) (hlo : w0.heap.size ≤ G) : Cur w0 a cap zs (u.setCell ⟨G, j, none⟩ y) g :=
  h.grown (grown_setj u G j y) (by simpa using hne) (fun k hk => by simp at hk; omega)

/-- What drawing words ends with: words. -/
def DrawnIntsR (w0 : World) (a : Option Addr) (cap : Nat) (zs : List Int) (w : World) (g n : Nat) (e : Ending) (w' : World) : Prop :=
  ∃ (ad : Option Addr) (c : Nat) (ws : List Int), e = .returned (.slice ad n c) ∧ n = ws.length ∧ (∀ z ∈ ws, 0 ≤ z ∧ z ≤ 65535) ∧ OwnI w' w.heap.size (.slice ad n c) ws ∧ Cur w0 a cap zs w' g ∧ w.grownBy w' (some g)

set_option maxHeartbeats 4000000 in
theorem l3ListR_any (w0 : World) (a : Option Addr) (cap : Nat) (zs : List Int) (w : World) (g : Nat) (n : Nat) (hn : n ≤ 1000) (hC : Cur w0 a cap zs w g) :
    Calls Tryd.prog 77 #[.pointer (some ⟨g, 0, none⟩), .int .i64 n] w fun e w' => DrawnIntsR w0 a cap zs w g n e w' := by
  have o0 : OwnI (w.alloc (.cells #[] 3)) w.heap.size (.slice (some ⟨w.heap.size, 0, none⟩) 0 0) [] := ⟨rfl, .inr ⟨w.heap.size, 0, #[], rfl, Nat.le_refl _, Blk.new w #[] 3, by simp, by simp, rfl, rfl⟩⟩
  have hg := hC.hi
  have hlo := hC.lo
  have C0 := hC.alloc (.cells #[] 3)
  have G0 : w.grownBy (w.alloc (.cells #[] 3)) (some g) := World.grownBy_alloc _ _ _
  clear hC
  go_enter Tryd.func77, Tryd.ntmps77
  go_wp2
  go_loopw [5, 6] (fun v i wr => ∃ (k : Nat) (ad : Option Addr) (c : Nat) (ws : List Int), k ≤ n ∧ i = .int .i64 k ∧ v = .slice ad k c ∧ ws.length = k ∧ (∀ z ∈ ws, 0 ≤ z ∧ z ≤ 65535) ∧ OwnI wr w.heap.size v ws ∧ Cur w0 a cap zs wr g ∧ w.grownBy wr (some g)) (fun _ i _ => n - (intOf i).toNat)
  case atStart => exact ⟨0, _, _, [], Nat.zero_le _, rfl, rfl, rfl, (fun z hz => by cases hz), o0, C0, G0⟩
  case round =>
    obtain ⟨k, ad, c, ws, hk, rfl, rfl, hb, hrg, ho, C, G⟩ := hrel
    have HRg : Hid (∀ z ∈ ws, 0 ≤ z ∧ z ≤ 65535) := hrg
    clear hrg
    by_cases hlt : k < n
    · have hi' : (k : Int) < (n : Int) := by omega
      have HB : Hid (ws.length = k) := hb
      clear o0 C0 G0 hb
      go_wp2_with fail
      refine (l1Below_any w0 a cap zs _ g _ (by decide) C).mono ?_
      rintro e w1 ⟨x, rfl, hx, C1, g1⟩
      have HX : Hid (0 ≤ x ∧ x < 65536) := hx
      clear hx
      have I1 := ints_lit w1 [0, 1, 65535, 256, x] 3
      have C1' := C1.alloc (.cells ([0, 1, 65535, 256, x].map (Value.int .i64)).toArray 3)
      have g1' : wr.grownBy (w1.alloc (.cells ([0, 1, 65535, 256, x].map (Value.int .i64)).toArray 3)) (some g) := grown_trans g1 (World.grownBy_alloc _ _ _)
      have hneg : w1.heap.size ≠ g := by have := C1.hi; omega
      clear C1 g1
      go_wp2_with fail
      refine (l1Int_any w0 a cap zs _ g ⟨w1.heap.size, 0, none⟩ 5 5 [0, 1, 65535, 256, x] rfl (by omega) (by omega) I1 hneg C1').mono ?_
      rintro e w2 ⟨y, rfl, hy, C2, g2⟩
      have HY : Hid (0 ≤ y ∧ y ≤ 65535) := by show _ ∧ _; have := HX.out; simp at hy; omega
      clear hy
      have gg := grown_trans g1' g2
      have ho1 : OwnI w2 w.heap.size (.slice ad k c) ws := ho.kept gg (.inr (fun e => by have := (World.ownsRow.lt ho g e).1; omega))
      have HLn : Hid (ws.length + 1 ≤ 4000000) := by show ws.length + 1 ≤ 4000000; rw [HB.out]; omega
      have hsz : w.heap.size ≤ w2.heap.size := Nat.le_trans G.size gg.size
      clear I1 C1' g1' g2
      go_wp2_with (at_builtin; refine wpList_appI rfl (.tmp 13) (.tmp 19) rfl w.heap.size (.slice ad k c) ws rfl (ho1.below (bel_alloc _ _)) ⟨w2.heap.size, 0, none⟩ 1 1 [y] rfl rfl (lit_slI1' _ _ rfl) HLn.out (by simp; omega) ?_; intro v' w3 o3 g3)
      obtain ⟨R1, R2, R3⟩ := ints_step hg G ho C2 gg o3 g3 hlo
      obtain ⟨ad', c', n', hv, hn'⟩ := ownI_shape R1
      have en : n' = k + 1 := by rw [hn', List.length_append, HB.out]; rfl
      subst en
      subst hv
      clear o3 g3 ho1 ho C2 gg
      go_roundw
      case rel => exact ⟨k + 1, ad', c', ws ++ [y], by omega, by go_num, rfl, by rw [List.length_append, HB.out]; rfl, (fun z hz => by rcases List.mem_append.1 hz with h | h; exact HRg.out z h; simp at h; subst h; exact HY.out), R1, R2, R3⟩
      case measure => simp [intOf]; omega
    · obtain rfl : k = n := by omega
      clear o0 C0 G0
      go_wp2
      go_ret
      exact ⟨ad, c, ws, rfl, hb.symm, HRg.out, ho, C, G⟩

theorem allW_of {ws : List Int} (h : ∀ z ∈ ws, 0 ≤ z ∧ z ≤ 65535) : allW ws = true := by
  unfold allW
  refine decide_eq_true (fun k hk => ?_)
  rw [List.getD_eq_getElem?_getD, List.getElem?_eq_getElem hk]
  exact h _ (List.getElem_mem hk)

theorem l3List_at (w0 : World) (a : Option Addr) (cap : Nat) (zs : List Int) (w : World) (g : Nat) (x : Int) (n : Nat) (hx : x = (n : Int)) (hn : n ≤ 1000) (hC : Cur w0 a cap zs w g) :
    Calls Tryd.prog 77 #[.pointer (some ⟨g, 0, none⟩), .int .i64 x] w fun e w' => DrawnIntsR w0 a cap zs w g n e w' := by
  subst hx
  exact l3ListR_any w0 a cap zs w g n hn hC

theorem l2Bits_at (w0 : World) (a : Option Addr) (cap : Nat) (zs : List Int) (w : World) (g : Nat) (x : Int) (n : Nat) (hx : x = (n : Int)) (hn : n ≤ 1000) (hC : Cur w0 a cap zs w g) :
    Calls Tryd.prog 76 #[.pointer (some ⟨g, 0, none⟩), .int .i64 x] w fun e w' => DrawnBits w0 a cap zs w g n e w' := by
  subst hx
  exact l2Bits_any w0 a cap zs w g n (by omega) hC

/-- What drawing a question ends with. -/
def DrawnReqR (w0 : World) (a : Option Addr) (cap : Nat) (zs : List Int) (w : World) (g : Nat) (e : Ending) (w' : World) : Prop :=
  ∃ (kd pl nn wa : Int) (a1 a2 : Option Addr) (l1 l2 c1 c2 : Nat) (ws : List Int) (bs : List Bool), e = .returned (rq kd pl nn wa a1 a2 l1 l2 c1 c2) ∧ l1 = ws.length ∧ l2 = bs.length ∧ l1 ≤ 6 ∧ l2 ≤ 20 ∧ okR kd pl nn wa ws l1 l2 = true ∧ OwnI w' w.heap.size (.slice a1 l1 c1) ws ∧ OwnB w' w.heap.size (.slice a2 l2 c2) bs ∧ Cur w0 a cap zs w' g ∧ w.grownBy w' (some g)

/-- As DrawnReqR, its numbers small. -/
def DrawnReqN (w0 : World) (a : Option Addr) (cap : Nat) (zs : List Int) (w : World) (g : Nat) (e : Ending) (w' : World) : Prop :=
  ∃ (kd pl nn wa : Int) (a1 a2 : Option Addr) (l1 l2 c1 c2 : Nat) (ws : List Int) (bs : List Bool), e = .returned (rq kd pl nn wa a1 a2 l1 l2 c1 c2) ∧ l1 = ws.length ∧ l2 = bs.length ∧ l1 ≤ 6 ∧ l2 ≤ 20 ∧ okR kd pl nn wa ws l1 l2 = true ∧ OwnI w' w.heap.size (.slice a1 l1 c1) ws ∧ OwnB w' w.heap.size (.slice a2 l2 c2) bs ∧ Cur w0 a cap zs w' g ∧ w.grownBy w' (some g) ∧ (0 ≤ pl ∧ pl ≤ 100 ∧ 0 ≤ nn ∧ nn ≤ 100)

set_option maxRecDepth 20000 in
set_option maxHeartbeats 16000000 in
theorem l3DrawN_any (w0 : World) (a : Option Addr) (cap : Nat) (zs : List Int) (w : World) (g : Nat) (hC : Cur w0 a cap zs w g) :
    Calls Tryd.prog 50 #[.pointer (some ⟨g, 0, none⟩), .int .i64 0] w fun e w' => DrawnReqN w0 a cap zs w g e w' := by
  obtain ⟨W0, hW0⟩ : ∃ W0, W0 = w.alloc (.cells #[.int .i64 0, .int .i64 0, .int .i64 0, .slice none 0 0, .slice none 0 0, .int .i64 0] 86) := ⟨_, rfl⟩
  have HW : Hid (W0 = _) := hW0
  have hg := hC.hi
  have hlo := hC.lo
  have C0 : Cur w0 a cap zs W0 g := by rw [hW0]; exact hC.alloc _
  have G0 : w.grownBy W0 (some g) := by rw [hW0]; exact World.grownBy_alloc _ _ _
  have R0 : Blk W0 w.heap.size 86 #[.int .i64 0, .int .i64 0, .int .i64 0, .slice none 0 0, .slice none 0 0, .int .i64 0] := by rw [hW0]; exact Blk.new _ _ _
  have I1 := ints_lit W0 [1, 2, 3, 4, 5, 6, 15, 16, 22, 23, 3, 16] 3
  have C1 := C0.alloc (.cells ([1, 2, 3, 4, 5, 6, 15, 16, 22, 23, 3, 16].map (Value.int .i64)).toArray 3)
  have G1 : w.grownBy (W0.alloc (.cells ([1, 2, 3, 4, 5, 6, 15, 16, 22, 23, 3, 16].map (Value.int .i64)).toArray 3)) (some g) := grown_trans G0 (World.grownBy_alloc _ _ _)
  have R1 := R0.below (bel_alloc W0 (.cells ([1, 2, 3, 4, 5, 6, 15, 16, 22, 23, 3, 16].map (Value.int .i64)).toArray 3))
  have hne1 : W0.heap.size ≠ g := by have := C0.hi; omega
  have HGR : Hid (g < w.heap.size ∧ w0.heap.size ≤ g) := ⟨hg, hlo⟩
  clear hC hW0 C0 G0 R0 hlo
  go_enter Tryd.func50, Tryd.ntmps50
  go_upto_region 1 with fail
  rw [← HW.out]
  go_wp2_with fail
  refine (l1Int_any w0 a cap zs _ g ⟨W0.heap.size, 0, none⟩ 12 12 [1, 2, 3, 4, 5, 6, 15, 16, 22, 23, 3, 16] rfl (by omega) (by omega) I1 hne1 C1).mono ?_
  rintro e u1 ⟨kd, rfl, hkd, C2, g2⟩
  have G2 := grown_trans G1 g2
  have R2 := R1.grown g2 (by simp; omega)
  have hk : kd = 1 ∨ kd = 2 ∨ kd = 3 ∨ kd = 4 ∨ kd = 5 ∨ kd = 6 ∨ kd = 15 ∨ kd = 16 ∨ kd = 22 ∨ kd = 23 := by simp at hkd; omega
  clear I1 C1 G1 R1 g2 hne1 hkd
  go_wp2_with fail
  refine (l1Below_any w0 a cap zs _ g _ (by decide) C2).mono ?_
  rintro e u2 ⟨p, rfl, hp, C3, g3⟩
  have G3 := grown_trans G2 g3
  have R3 := R2.grown g3 (by simp; omega)
  clear C2 G2 R2 g3
  obtain rfl | rfl | rfl | rfl | rfl | rfl | rfl | rfl | rfl | rfl := hk
  · skip
    obtain ⟨u3, hu3⟩ : ∃ u3, u3 = u2.alloc (.cells #[.int .i64 1, .int .i64 p, .int .i64 0, .slice none 0 0, .slice none 0 0, .int .i64 0] 86) := ⟨_, rfl⟩
    have HU : Hid (u3 = _) := hu3
    obtain ⟨B, hB⟩ : ∃ B, B = u2.heap.size := ⟨_, rfl⟩
    have HBe : Hid (B = u2.heap.size) := hB
    have HB : Hid (w.heap.size < B) := by show w.heap.size < B; have := R3.lt; omega
    have C4 : Cur w0 a cap zs u3 g := by rw [hu3]; exact C3.alloc _
    have G4 : w.grownBy u3 (some g) := by rw [hu3]; exact grown_trans G3 (World.grownBy_alloc _ _ _)
    have R4 : Blk u3 w.heap.size 86 #[.int .i64 0, .int .i64 0, .int .i64 0, .slice none 0 0, .slice none 0 0, .int .i64 0] := by rw [hu3]; exact R3.below (bel_alloc _ _)
    have Q4 : Blk u3 B 86 #[.int .i64 1, .int .i64 p, .int .i64 0, .slice none 0 0, .slice none 0 0, .int .i64 0] := by rw [hu3, hB]; exact Blk.new _ _ _
    clear C3 G3 R3 hu3 hB
    go_upto_region 2 with fail
    rw [← HU.out]
    simp only [← HBe.out]
    go_wp2_with fail
    refine (l1Below_any w0 a cap zs _ g _ (by decide) C4).mono ?_
    rintro e t5 ⟨x, rfl, hx, C5, gg⟩
    have G5 := grown_trans G4 gg
    have R5 := R4.grown gg (by have := HGR.out; simp; omega)
    have Q5 := Q4.grown gg (by have := HGR.out; have := HB.out; simp; omega)
    clear C4 R4 Q4 gg 
    clear G4
    have k0 := Q5.cell 0 rfl
    go_upto_region 4 with fail
    have qc := Q5.cell 2 rfl
    have qf := Q5.fro 2
    have Q6 := Q5.set 2 (.int .i64 (1 + x))
    have R6 := R5.setNe (g' := B) (j := 2) (y := .int .i64 (1 + x)) (by have := HB.out; omega)
    have C6 := C5.setHi (G := B) (j := 2) (y := .int .i64 (1 + x)) (by have := HB.out; have := HGR.out; omega) (by have := HB.out; have := HGR.out; omega)
    have G6 := grown_setHi (G := B) (j := 2) (y := .int .i64 (1 + x)) G5 (by have := HB.out; omega)
    go_upto_region 19 with fail
    obtain ⟨v6, hv6⟩ : ∃ v6, v6 = t5.setCell ⟨B, 2, none⟩ (.int .i64 (1 + x)) := ⟨_, rfl⟩
    rw [← hv6] at Q6 R6 C6 G6 ⊢
    clear hv6 qc qf Q5 R5 C5 G5 
    obtain ⟨q0, q1, q2, q3, q4, q5⟩ := Q6.six
    obtain ⟨y0, y1, y2, y3, y4, y5⟩ := R6.six
    have fy := R6.fro
    have OI : OwnI v6 w.heap.size (.slice none 0 0) [] := (ownI_nil _ _)
    have OB : OwnB v6 w.heap.size (.slice none 0 0) [] := (ownB_nil _ _)
    have HH : Hid (OwnI v6 w.heap.size (.slice none 0 0) [] ∧ OwnB v6 w.heap.size (.slice none 0 0) [] ∧ Cur w0 a cap zs v6 g ∧ w.grownBy v6 (some g) ∧ Blk v6 w.heap.size 86 #[.int .i64 0, .int .i64 0, .int .i64 0, .slice none 0 0, .slice none 0 0, .int .i64 0]) := ⟨OI, OB, C6, G6, R6⟩
    clear OI OB C6 G6 R6 Q6 
    go_wp2
    refine bodyPost_ret (v := rq 1 (p) ((1 + x)) (0) none none 0 0 0 0) (by simp [results, Tryd.results50, go_sem, y0, y1, y2, y3, y4, y5]) rfl ?_
    obtain ⟨OI, OB, CE, GE, RE⟩ := HH.out
    have hA0 : allW ([] : List Int) = true := by decide
    have hOK : okR 1 (p) ((1 + x)) (0) [] 0 0 = true := by first | (simp [okR, okK, zrB, inB, fitB, hA0]; omega) | (have h6 := HM.out; simp [okR, okK, zrB, inB, fitB, hA0]; omega) | (have h5 := HAW.out; have h6 := HM.out; simp [okR, okK, zrB, inB, fitB, h5]; omega) | (have h5 := HAW.out; simp [okR, okK, zrB, inB, fitB, h5]; omega)
    have hgR : g ≠ w.heap.size := by have := HGR.out; omega
    have hwR : w0.heap.size ≤ w.heap.size := by have := HGR.out; omega
    exact ⟨_, _, _, _, _, _, _, _, _, _, [], [], rfl, rfl, rfl, by first | omega | (have := HM.out; omega), by first | omega | (have := HM.out; omega), hOK, row_set6 OI ⟨_, RE⟩ (by decide), row_set6 OB ⟨_, RE⟩ (by decide), (((((CE.setHi hgR hwR).setHi hgR hwR).setHi hgR hwR).setHi hgR hwR).setHi hgR hwR).setHi hgR hwR, grown_setHi (grown_setHi (grown_setHi (grown_setHi (grown_setHi (grown_setHi GE (Nat.le_refl _)) (Nat.le_refl _)) (Nat.le_refl _)) (Nat.le_refl _)) (Nat.le_refl _)) (Nat.le_refl _), ⟨by first | omega | (have := HM.out; omega), by first | omega | (have := HM.out; omega), by first | omega | (have := HM.out; omega), by first | omega | (have := HM.out; omega)⟩⟩
  · skip
    obtain ⟨u3, hu3⟩ : ∃ u3, u3 = u2.alloc (.cells #[.int .i64 2, .int .i64 p, .int .i64 0, .slice none 0 0, .slice none 0 0, .int .i64 0] 86) := ⟨_, rfl⟩
    have HU : Hid (u3 = _) := hu3
    obtain ⟨B, hB⟩ : ∃ B, B = u2.heap.size := ⟨_, rfl⟩
    have HBe : Hid (B = u2.heap.size) := hB
    have HB : Hid (w.heap.size < B) := by show w.heap.size < B; have := R3.lt; omega
    have C4 : Cur w0 a cap zs u3 g := by rw [hu3]; exact C3.alloc _
    have G4 : w.grownBy u3 (some g) := by rw [hu3]; exact grown_trans G3 (World.grownBy_alloc _ _ _)
    have R4 : Blk u3 w.heap.size 86 #[.int .i64 0, .int .i64 0, .int .i64 0, .slice none 0 0, .slice none 0 0, .int .i64 0] := by rw [hu3]; exact R3.below (bel_alloc _ _)
    have Q4 : Blk u3 B 86 #[.int .i64 2, .int .i64 p, .int .i64 0, .slice none 0 0, .slice none 0 0, .int .i64 0] := by rw [hu3, hB]; exact Blk.new _ _ _
    clear C3 G3 R3 hu3 hB
    go_upto_region 2 with fail
    rw [← HU.out]
    simp only [← HBe.out]
    go_wp2_with fail
    refine (l1Below_any w0 a cap zs _ g _ (by decide) C4).mono ?_
    rintro e t5 ⟨x, rfl, hx, C5, gg⟩
    have G5 := grown_trans G4 gg
    have R5 := R4.grown gg (by have := HGR.out; simp; omega)
    have Q5 := Q4.grown gg (by have := HGR.out; have := HB.out; simp; omega)
    clear C4 R4 Q4 gg 
    clear G4
    have k0 := Q5.cell 0 rfl
    go_upto_region 4 with fail
    have qc := Q5.cell 2 rfl
    have qf := Q5.fro 2
    have Q6 := Q5.set 2 (.int .i64 (1 + x))
    have R6 := R5.setNe (g' := B) (j := 2) (y := .int .i64 (1 + x)) (by have := HB.out; omega)
    have C6 := C5.setHi (G := B) (j := 2) (y := .int .i64 (1 + x)) (by have := HB.out; have := HGR.out; omega) (by have := HB.out; have := HGR.out; omega)
    have G6 := grown_setHi (G := B) (j := 2) (y := .int .i64 (1 + x)) G5 (by have := HB.out; omega)
    go_upto_region 19 with fail
    obtain ⟨v6, hv6⟩ : ∃ v6, v6 = t5.setCell ⟨B, 2, none⟩ (.int .i64 (1 + x)) := ⟨_, rfl⟩
    rw [← hv6] at Q6 R6 C6 G6 ⊢
    clear hv6 qc qf Q5 R5 C5 G5 
    obtain ⟨q0, q1, q2, q3, q4, q5⟩ := Q6.six
    obtain ⟨y0, y1, y2, y3, y4, y5⟩ := R6.six
    have fy := R6.fro
    have OI : OwnI v6 w.heap.size (.slice none 0 0) [] := (ownI_nil _ _)
    have OB : OwnB v6 w.heap.size (.slice none 0 0) [] := (ownB_nil _ _)
    have HH : Hid (OwnI v6 w.heap.size (.slice none 0 0) [] ∧ OwnB v6 w.heap.size (.slice none 0 0) [] ∧ Cur w0 a cap zs v6 g ∧ w.grownBy v6 (some g) ∧ Blk v6 w.heap.size 86 #[.int .i64 0, .int .i64 0, .int .i64 0, .slice none 0 0, .slice none 0 0, .int .i64 0]) := ⟨OI, OB, C6, G6, R6⟩
    clear OI OB C6 G6 R6 Q6 
    go_wp2
    refine bodyPost_ret (v := rq 2 (p) ((1 + x)) (0) none none 0 0 0 0) (by simp [results, Tryd.results50, go_sem, y0, y1, y2, y3, y4, y5]) rfl ?_
    obtain ⟨OI, OB, CE, GE, RE⟩ := HH.out
    have hA0 : allW ([] : List Int) = true := by decide
    have hOK : okR 2 (p) ((1 + x)) (0) [] 0 0 = true := by first | (simp [okR, okK, zrB, inB, fitB, hA0]; omega) | (have h6 := HM.out; simp [okR, okK, zrB, inB, fitB, hA0]; omega) | (have h5 := HAW.out; have h6 := HM.out; simp [okR, okK, zrB, inB, fitB, h5]; omega) | (have h5 := HAW.out; simp [okR, okK, zrB, inB, fitB, h5]; omega)
    have hgR : g ≠ w.heap.size := by have := HGR.out; omega
    have hwR : w0.heap.size ≤ w.heap.size := by have := HGR.out; omega
    exact ⟨_, _, _, _, _, _, _, _, _, _, [], [], rfl, rfl, rfl, by first | omega | (have := HM.out; omega), by first | omega | (have := HM.out; omega), hOK, row_set6 OI ⟨_, RE⟩ (by decide), row_set6 OB ⟨_, RE⟩ (by decide), (((((CE.setHi hgR hwR).setHi hgR hwR).setHi hgR hwR).setHi hgR hwR).setHi hgR hwR).setHi hgR hwR, grown_setHi (grown_setHi (grown_setHi (grown_setHi (grown_setHi (grown_setHi GE (Nat.le_refl _)) (Nat.le_refl _)) (Nat.le_refl _)) (Nat.le_refl _)) (Nat.le_refl _)) (Nat.le_refl _), ⟨by first | omega | (have := HM.out; omega), by first | omega | (have := HM.out; omega), by first | omega | (have := HM.out; omega), by first | omega | (have := HM.out; omega)⟩⟩
  · skip
    obtain ⟨u3, hu3⟩ : ∃ u3, u3 = u2.alloc (.cells #[.int .i64 3, .int .i64 p, .int .i64 0, .slice none 0 0, .slice none 0 0, .int .i64 0] 86) := ⟨_, rfl⟩
    have HU : Hid (u3 = _) := hu3
    obtain ⟨B, hB⟩ : ∃ B, B = u2.heap.size := ⟨_, rfl⟩
    have HBe : Hid (B = u2.heap.size) := hB
    have HB : Hid (w.heap.size < B) := by show w.heap.size < B; have := R3.lt; omega
    have C4 : Cur w0 a cap zs u3 g := by rw [hu3]; exact C3.alloc _
    have G4 : w.grownBy u3 (some g) := by rw [hu3]; exact grown_trans G3 (World.grownBy_alloc _ _ _)
    have R4 : Blk u3 w.heap.size 86 #[.int .i64 0, .int .i64 0, .int .i64 0, .slice none 0 0, .slice none 0 0, .int .i64 0] := by rw [hu3]; exact R3.below (bel_alloc _ _)
    have Q4 : Blk u3 B 86 #[.int .i64 3, .int .i64 p, .int .i64 0, .slice none 0 0, .slice none 0 0, .int .i64 0] := by rw [hu3, hB]; exact Blk.new _ _ _
    clear C3 G3 R3 hu3 hB
    go_upto_region 2 with fail
    rw [← HU.out]
    simp only [← HBe.out]
    go_wp2_with fail
    refine (l1Below_any w0 a cap zs _ g _ (by decide) C4).mono ?_
    rintro e t5 ⟨x, rfl, hx, C5, gg⟩
    have G5 := grown_trans G4 gg
    have R5 := R4.grown gg (by have := HGR.out; simp; omega)
    have Q5 := Q4.grown gg (by have := HGR.out; have := HB.out; simp; omega)
    clear C4 R4 Q4 gg 
    clear G4
    have k0 := Q5.cell 0 rfl
    go_upto_region 4 with fail
    have qc := Q5.cell 2 rfl
    have qf := Q5.fro 2
    have Q6 := Q5.set 2 (.int .i64 (1 + x))
    have R6 := R5.setNe (g' := B) (j := 2) (y := .int .i64 (1 + x)) (by have := HB.out; omega)
    have C6 := C5.setHi (G := B) (j := 2) (y := .int .i64 (1 + x)) (by have := HB.out; have := HGR.out; omega) (by have := HB.out; have := HGR.out; omega)
    have G6 := grown_setHi (G := B) (j := 2) (y := .int .i64 (1 + x)) G5 (by have := HB.out; omega)
    go_upto_region 19 with fail
    obtain ⟨v6, hv6⟩ : ∃ v6, v6 = t5.setCell ⟨B, 2, none⟩ (.int .i64 (1 + x)) := ⟨_, rfl⟩
    rw [← hv6] at Q6 R6 C6 G6 ⊢
    clear hv6 qc qf Q5 R5 C5 G5 
    obtain ⟨q0, q1, q2, q3, q4, q5⟩ := Q6.six
    obtain ⟨y0, y1, y2, y3, y4, y5⟩ := R6.six
    have fy := R6.fro
    have OI : OwnI v6 w.heap.size (.slice none 0 0) [] := (ownI_nil _ _)
    have OB : OwnB v6 w.heap.size (.slice none 0 0) [] := (ownB_nil _ _)
    have HH : Hid (OwnI v6 w.heap.size (.slice none 0 0) [] ∧ OwnB v6 w.heap.size (.slice none 0 0) [] ∧ Cur w0 a cap zs v6 g ∧ w.grownBy v6 (some g) ∧ Blk v6 w.heap.size 86 #[.int .i64 0, .int .i64 0, .int .i64 0, .slice none 0 0, .slice none 0 0, .int .i64 0]) := ⟨OI, OB, C6, G6, R6⟩
    clear OI OB C6 G6 R6 Q6 
    go_wp2
    refine bodyPost_ret (v := rq 3 (p) ((1 + x)) (0) none none 0 0 0 0) (by simp [results, Tryd.results50, go_sem, y0, y1, y2, y3, y4, y5]) rfl ?_
    obtain ⟨OI, OB, CE, GE, RE⟩ := HH.out
    have hA0 : allW ([] : List Int) = true := by decide
    have hOK : okR 3 (p) ((1 + x)) (0) [] 0 0 = true := by first | (simp [okR, okK, zrB, inB, fitB, hA0]; omega) | (have h6 := HM.out; simp [okR, okK, zrB, inB, fitB, hA0]; omega) | (have h5 := HAW.out; have h6 := HM.out; simp [okR, okK, zrB, inB, fitB, h5]; omega) | (have h5 := HAW.out; simp [okR, okK, zrB, inB, fitB, h5]; omega)
    have hgR : g ≠ w.heap.size := by have := HGR.out; omega
    have hwR : w0.heap.size ≤ w.heap.size := by have := HGR.out; omega
    exact ⟨_, _, _, _, _, _, _, _, _, _, [], [], rfl, rfl, rfl, by first | omega | (have := HM.out; omega), by first | omega | (have := HM.out; omega), hOK, row_set6 OI ⟨_, RE⟩ (by decide), row_set6 OB ⟨_, RE⟩ (by decide), (((((CE.setHi hgR hwR).setHi hgR hwR).setHi hgR hwR).setHi hgR hwR).setHi hgR hwR).setHi hgR hwR, grown_setHi (grown_setHi (grown_setHi (grown_setHi (grown_setHi (grown_setHi GE (Nat.le_refl _)) (Nat.le_refl _)) (Nat.le_refl _)) (Nat.le_refl _)) (Nat.le_refl _)) (Nat.le_refl _), ⟨by first | omega | (have := HM.out; omega), by first | omega | (have := HM.out; omega), by first | omega | (have := HM.out; omega), by first | omega | (have := HM.out; omega)⟩⟩
  · skip
    obtain ⟨u3, hu3⟩ : ∃ u3, u3 = u2.alloc (.cells #[.int .i64 4, .int .i64 p, .int .i64 0, .slice none 0 0, .slice none 0 0, .int .i64 0] 86) := ⟨_, rfl⟩
    have HU : Hid (u3 = _) := hu3
    obtain ⟨B, hB⟩ : ∃ B, B = u2.heap.size := ⟨_, rfl⟩
    have HBe : Hid (B = u2.heap.size) := hB
    have HB : Hid (w.heap.size < B) := by show w.heap.size < B; have := R3.lt; omega
    have C4 : Cur w0 a cap zs u3 g := by rw [hu3]; exact C3.alloc _
    have G4 : w.grownBy u3 (some g) := by rw [hu3]; exact grown_trans G3 (World.grownBy_alloc _ _ _)
    have R4 : Blk u3 w.heap.size 86 #[.int .i64 0, .int .i64 0, .int .i64 0, .slice none 0 0, .slice none 0 0, .int .i64 0] := by rw [hu3]; exact R3.below (bel_alloc _ _)
    have Q4 : Blk u3 B 86 #[.int .i64 4, .int .i64 p, .int .i64 0, .slice none 0 0, .slice none 0 0, .int .i64 0] := by rw [hu3, hB]; exact Blk.new _ _ _
    clear C3 G3 R3 hu3 hB
    go_upto_region 2 with fail
    rw [← HU.out]
    simp only [← HBe.out]
    go_wp2_with fail
    refine (l1Below_any w0 a cap zs _ g _ (by decide) C4).mono ?_
    rintro e t5 ⟨x, rfl, hx, C5, gg⟩
    have G5 := grown_trans G4 gg
    have R5 := R4.grown gg (by have := HGR.out; simp; omega)
    have Q5 := Q4.grown gg (by have := HGR.out; have := HB.out; simp; omega)
    clear C4 R4 Q4 gg 
    clear G4
    have k0 := Q5.cell 0 rfl
    go_upto_region 4 with fail
    have qc := Q5.cell 2 rfl
    have qf := Q5.fro 2
    have Q6 := Q5.set 2 (.int .i64 (1 + x))
    have R6 := R5.setNe (g' := B) (j := 2) (y := .int .i64 (1 + x)) (by have := HB.out; omega)
    have C6 := C5.setHi (G := B) (j := 2) (y := .int .i64 (1 + x)) (by have := HB.out; have := HGR.out; omega) (by have := HB.out; have := HGR.out; omega)
    have G6 := grown_setHi (G := B) (j := 2) (y := .int .i64 (1 + x)) G5 (by have := HB.out; omega)
    go_upto_region 19 with fail
    obtain ⟨v6, hv6⟩ : ∃ v6, v6 = t5.setCell ⟨B, 2, none⟩ (.int .i64 (1 + x)) := ⟨_, rfl⟩
    rw [← hv6] at Q6 R6 C6 G6 ⊢
    clear hv6 qc qf Q5 R5 C5 G5 
    obtain ⟨q0, q1, q2, q3, q4, q5⟩ := Q6.six
    obtain ⟨y0, y1, y2, y3, y4, y5⟩ := R6.six
    have fy := R6.fro
    have OI : OwnI v6 w.heap.size (.slice none 0 0) [] := (ownI_nil _ _)
    have OB : OwnB v6 w.heap.size (.slice none 0 0) [] := (ownB_nil _ _)
    have HH : Hid (OwnI v6 w.heap.size (.slice none 0 0) [] ∧ OwnB v6 w.heap.size (.slice none 0 0) [] ∧ Cur w0 a cap zs v6 g ∧ w.grownBy v6 (some g) ∧ Blk v6 w.heap.size 86 #[.int .i64 0, .int .i64 0, .int .i64 0, .slice none 0 0, .slice none 0 0, .int .i64 0]) := ⟨OI, OB, C6, G6, R6⟩
    clear OI OB C6 G6 R6 Q6 
    go_wp2
    refine bodyPost_ret (v := rq 4 (p) ((1 + x)) (0) none none 0 0 0 0) (by simp [results, Tryd.results50, go_sem, y0, y1, y2, y3, y4, y5]) rfl ?_
    obtain ⟨OI, OB, CE, GE, RE⟩ := HH.out
    have hA0 : allW ([] : List Int) = true := by decide
    have hOK : okR 4 (p) ((1 + x)) (0) [] 0 0 = true := by first | (simp [okR, okK, zrB, inB, fitB, hA0]; omega) | (have h6 := HM.out; simp [okR, okK, zrB, inB, fitB, hA0]; omega) | (have h5 := HAW.out; have h6 := HM.out; simp [okR, okK, zrB, inB, fitB, h5]; omega) | (have h5 := HAW.out; simp [okR, okK, zrB, inB, fitB, h5]; omega)
    have hgR : g ≠ w.heap.size := by have := HGR.out; omega
    have hwR : w0.heap.size ≤ w.heap.size := by have := HGR.out; omega
    exact ⟨_, _, _, _, _, _, _, _, _, _, [], [], rfl, rfl, rfl, by first | omega | (have := HM.out; omega), by first | omega | (have := HM.out; omega), hOK, row_set6 OI ⟨_, RE⟩ (by decide), row_set6 OB ⟨_, RE⟩ (by decide), (((((CE.setHi hgR hwR).setHi hgR hwR).setHi hgR hwR).setHi hgR hwR).setHi hgR hwR).setHi hgR hwR, grown_setHi (grown_setHi (grown_setHi (grown_setHi (grown_setHi (grown_setHi GE (Nat.le_refl _)) (Nat.le_refl _)) (Nat.le_refl _)) (Nat.le_refl _)) (Nat.le_refl _)) (Nat.le_refl _), ⟨by first | omega | (have := HM.out; omega), by first | omega | (have := HM.out; omega), by first | omega | (have := HM.out; omega), by first | omega | (have := HM.out; omega)⟩⟩
  · skip
    obtain ⟨u3, hu3⟩ : ∃ u3, u3 = u2.alloc (.cells #[.int .i64 5, .int .i64 p, .int .i64 0, .slice none 0 0, .slice none 0 0, .int .i64 0] 86) := ⟨_, rfl⟩
    have HU : Hid (u3 = _) := hu3
    obtain ⟨B, hB⟩ : ∃ B, B = u2.heap.size := ⟨_, rfl⟩
    have HBe : Hid (B = u2.heap.size) := hB
    have HB : Hid (w.heap.size < B) := by show w.heap.size < B; have := R3.lt; omega
    have C4 : Cur w0 a cap zs u3 g := by rw [hu3]; exact C3.alloc _
    have G4 : w.grownBy u3 (some g) := by rw [hu3]; exact grown_trans G3 (World.grownBy_alloc _ _ _)
    have R4 : Blk u3 w.heap.size 86 #[.int .i64 0, .int .i64 0, .int .i64 0, .slice none 0 0, .slice none 0 0, .int .i64 0] := by rw [hu3]; exact R3.below (bel_alloc _ _)
    have Q4 : Blk u3 B 86 #[.int .i64 5, .int .i64 p, .int .i64 0, .slice none 0 0, .slice none 0 0, .int .i64 0] := by rw [hu3, hB]; exact Blk.new _ _ _
    clear C3 G3 R3 hu3 hB
    go_upto_region 2 with fail
    rw [← HU.out]
    simp only [← HBe.out]
    go_wp2_with fail
    refine (l1Below_any w0 a cap zs _ g _ (by decide) C4).mono ?_
    rintro e t5 ⟨x, rfl, hx, C5, gg⟩
    have G5 := grown_trans G4 gg
    have R5 := R4.grown gg (by have := HGR.out; simp; omega)
    have Q5 := Q4.grown gg (by have := HGR.out; have := HB.out; simp; omega)
    clear C4 R4 Q4 gg 
    clear G4
    have k0 := Q5.cell 0 rfl
    go_upto_region 6 with fail
    go_wp2_with fail
    refine (l2Bits_at w0 a cap zs _ g _ 1 rfl (by omega) C5).mono ?_
    rintro e t6 ⟨a', c', bs, rfl, hbs, oj, C6, gg⟩
    have G6 := grown_trans G5 gg
    have R6 := R5.grown gg (by have := HGR.out; simp; omega)
    have Q6 := Q5.grown gg (by have := HGR.out; have := HB.out; simp; omega)
    clear C5 R5 Q5 gg 
    have J6 := OwnB.mono oj G5.size
    have HBs : Hid (_ = bs.length) := hbs
    clear oj hbs G5
    have qc := Q6.cell 4 rfl
    have qf := Q6.fro 4
    have Q7 := Q6.set 4 (.slice (some a') 1 c')
    have R7 := R6.setNe (g' := B) (j := 4) (y := .slice (some a') 1 c') (by have := HB.out; omega)
    have C7 := C6.setHi (G := B) (j := 4) (y := .slice (some a') 1 c') (by have := HB.out; have := HGR.out; omega) (by have := HB.out; have := HGR.out; omega)
    have G7 := grown_setHi (G := B) (j := 4) (y := .slice (some a') 1 c') G6 (by have := HB.out; omega)
    have J7 := row_setE (j := 4) (y := .slice (some a') 1 c') J6 ⟨_, Q6⟩ (by decide)
    go_upto_region 19 with fail
    obtain ⟨v7, hv7⟩ : ∃ v7, v7 = t6.setCell ⟨B, 4, none⟩ (.slice (some a') 1 c') := ⟨_, rfl⟩
    rw [← hv7] at Q7 R7 C7 G7 J7 ⊢
    clear hv7 qc qf Q6 R6 C6 G6 J6
    obtain ⟨q0, q1, q2, q3, q4, q5⟩ := Q7.six
    obtain ⟨y0, y1, y2, y3, y4, y5⟩ := R7.six
    have fy := R7.fro
    have OI : OwnI v7 w.heap.size (.slice none 0 0) [] := (ownI_nil _ _)
    have OB : OwnB v7 w.heap.size (.slice (some a') 1 c') bs := J7
    have HH : Hid (OwnI v7 w.heap.size (.slice none 0 0) [] ∧ OwnB v7 w.heap.size (.slice (some a') 1 c') bs ∧ Cur w0 a cap zs v7 g ∧ w.grownBy v7 (some g) ∧ Blk v7 w.heap.size 86 #[.int .i64 0, .int .i64 0, .int .i64 0, .slice none 0 0, .slice none 0 0, .int .i64 0]) := ⟨OI, OB, C7, G7, R7⟩
    clear OI OB C7 G7 R7 Q7 J7
    go_wp2
    refine bodyPost_ret (v := rq 5 (p) (0) (0) none (some a') 0 1 0 c') (by simp [results, Tryd.results50, go_sem, y0, y1, y2, y3, y4, y5]) rfl ?_
    obtain ⟨OI, OB, CE, GE, RE⟩ := HH.out
    have hA0 : allW ([] : List Int) = true := by decide
    have hOK : okR 5 (p) (0) (0) [] 0 1 = true := by first | (simp [okR, okK, zrB, inB, fitB, hA0]; omega) | (have h6 := HM.out; simp [okR, okK, zrB, inB, fitB, hA0]; omega) | (have h5 := HAW.out; have h6 := HM.out; simp [okR, okK, zrB, inB, fitB, h5]; omega) | (have h5 := HAW.out; simp [okR, okK, zrB, inB, fitB, h5]; omega)
    have hgR : g ≠ w.heap.size := by have := HGR.out; omega
    have hwR : w0.heap.size ≤ w.heap.size := by have := HGR.out; omega
    exact ⟨_, _, _, _, _, _, _, _, _, _, [], bs, rfl, rfl, HBs.out, by first | omega | (have := HM.out; omega), by first | omega | (have := HM.out; omega), hOK, row_set6 OI ⟨_, RE⟩ (by decide), row_set6 OB ⟨_, RE⟩ (by decide), (((((CE.setHi hgR hwR).setHi hgR hwR).setHi hgR hwR).setHi hgR hwR).setHi hgR hwR).setHi hgR hwR, grown_setHi (grown_setHi (grown_setHi (grown_setHi (grown_setHi (grown_setHi GE (Nat.le_refl _)) (Nat.le_refl _)) (Nat.le_refl _)) (Nat.le_refl _)) (Nat.le_refl _)) (Nat.le_refl _), ⟨by first | omega | (have := HM.out; omega), by first | omega | (have := HM.out; omega), by first | omega | (have := HM.out; omega), by first | omega | (have := HM.out; omega)⟩⟩
  · skip
    obtain ⟨u3, hu3⟩ : ∃ u3, u3 = u2.alloc (.cells #[.int .i64 6, .int .i64 p, .int .i64 0, .slice none 0 0, .slice none 0 0, .int .i64 0] 86) := ⟨_, rfl⟩
    have HU : Hid (u3 = _) := hu3
    obtain ⟨B, hB⟩ : ∃ B, B = u2.heap.size := ⟨_, rfl⟩
    have HBe : Hid (B = u2.heap.size) := hB
    have HB : Hid (w.heap.size < B) := by show w.heap.size < B; have := R3.lt; omega
    have C4 : Cur w0 a cap zs u3 g := by rw [hu3]; exact C3.alloc _
    have G4 : w.grownBy u3 (some g) := by rw [hu3]; exact grown_trans G3 (World.grownBy_alloc _ _ _)
    have R4 : Blk u3 w.heap.size 86 #[.int .i64 0, .int .i64 0, .int .i64 0, .slice none 0 0, .slice none 0 0, .int .i64 0] := by rw [hu3]; exact R3.below (bel_alloc _ _)
    have Q4 : Blk u3 B 86 #[.int .i64 6, .int .i64 p, .int .i64 0, .slice none 0 0, .slice none 0 0, .int .i64 0] := by rw [hu3, hB]; exact Blk.new _ _ _
    clear C3 G3 R3 hu3 hB
    go_upto_region 2 with fail
    rw [← HU.out]
    simp only [← HBe.out]
    go_wp2_with fail
    refine (l1Below_any w0 a cap zs _ g _ (by decide) C4).mono ?_
    rintro e t5 ⟨x, rfl, hx, C5, gg⟩
    have G5 := grown_trans G4 gg
    have R5 := R4.grown gg (by have := HGR.out; simp; omega)
    have Q5 := Q4.grown gg (by have := HGR.out; have := HB.out; simp; omega)
    clear C4 R4 Q4 gg 
    clear G4
    have k0 := Q5.cell 0 rfl
    go_upto_region 8 with fail
    go_wp2_with fail
    refine (l3List_at w0 a cap zs _ g _ 1 rfl (by omega) C5).mono ?_
    rintro e t6 ⟨a', c', ws, rfl, hws, hrg, oi, C6, gg⟩
    have G6 := grown_trans G5 gg
    have R6 := R5.grown gg (by have := HGR.out; simp; omega)
    have Q6 := Q5.grown gg (by have := HGR.out; have := HB.out; simp; omega)
    clear C5 R5 Q5 gg 
    have I6 := OwnI.mono oi G5.size
    have HWs : Hid (_ = ws.length) := hws
    have HAW : Hid (allW ws = true) := allW_of hrg
    clear oi hws hrg G5
    have qc := Q6.cell 3 rfl
    have qf := Q6.fro 3
    have Q7 := Q6.set 3 (.slice a' 1 c')
    have R7 := R6.setNe (g' := B) (j := 3) (y := .slice a' 1 c') (by have := HB.out; omega)
    have C7 := C6.setHi (G := B) (j := 3) (y := .slice a' 1 c') (by have := HB.out; have := HGR.out; omega) (by have := HB.out; have := HGR.out; omega)
    have G7 := grown_setHi (G := B) (j := 3) (y := .slice a' 1 c') G6 (by have := HB.out; omega)
    have I7 := row_setE (j := 3) (y := .slice a' 1 c') I6 ⟨_, Q6⟩ (by decide)
    go_upto_region 19 with fail
    obtain ⟨v7, hv7⟩ : ∃ v7, v7 = t6.setCell ⟨B, 3, none⟩ (.slice a' 1 c') := ⟨_, rfl⟩
    rw [← hv7] at Q7 R7 C7 G7 I7 ⊢
    clear hv7 qc qf Q6 R6 C6 G6 I6
    obtain ⟨q0, q1, q2, q3, q4, q5⟩ := Q7.six
    obtain ⟨y0, y1, y2, y3, y4, y5⟩ := R7.six
    have fy := R7.fro
    have OI : OwnI v7 w.heap.size (.slice a' 1 c') ws := I7
    have OB : OwnB v7 w.heap.size (.slice none 0 0) [] := (ownB_nil _ _)
    have HH : Hid (OwnI v7 w.heap.size (.slice a' 1 c') ws ∧ OwnB v7 w.heap.size (.slice none 0 0) [] ∧ Cur w0 a cap zs v7 g ∧ w.grownBy v7 (some g) ∧ Blk v7 w.heap.size 86 #[.int .i64 0, .int .i64 0, .int .i64 0, .slice none 0 0, .slice none 0 0, .int .i64 0]) := ⟨OI, OB, C7, G7, R7⟩
    clear OI OB C7 G7 R7 Q7 I7
    go_wp2
    refine bodyPost_ret (v := rq 6 (p) (0) (0) a' none 1 0 c' 0) (by simp [results, Tryd.results50, go_sem, y0, y1, y2, y3, y4, y5]) rfl ?_
    obtain ⟨OI, OB, CE, GE, RE⟩ := HH.out
    have hA0 : allW ([] : List Int) = true := by decide
    have hOK : okR 6 (p) (0) (0) ws 1 0 = true := by first | (simp [okR, okK, zrB, inB, fitB, hA0]; omega) | (have h6 := HM.out; simp [okR, okK, zrB, inB, fitB, hA0]; omega) | (have h5 := HAW.out; have h6 := HM.out; simp [okR, okK, zrB, inB, fitB, h5]; omega) | (have h5 := HAW.out; simp [okR, okK, zrB, inB, fitB, h5]; omega)
    have hgR : g ≠ w.heap.size := by have := HGR.out; omega
    have hwR : w0.heap.size ≤ w.heap.size := by have := HGR.out; omega
    exact ⟨_, _, _, _, _, _, _, _, _, _, ws, [], rfl, HWs.out, rfl, by first | omega | (have := HM.out; omega), by first | omega | (have := HM.out; omega), hOK, row_set6 OI ⟨_, RE⟩ (by decide), row_set6 OB ⟨_, RE⟩ (by decide), (((((CE.setHi hgR hwR).setHi hgR hwR).setHi hgR hwR).setHi hgR hwR).setHi hgR hwR).setHi hgR hwR, grown_setHi (grown_setHi (grown_setHi (grown_setHi (grown_setHi (grown_setHi GE (Nat.le_refl _)) (Nat.le_refl _)) (Nat.le_refl _)) (Nat.le_refl _)) (Nat.le_refl _)) (Nat.le_refl _), ⟨by first | omega | (have := HM.out; omega), by first | omega | (have := HM.out; omega), by first | omega | (have := HM.out; omega), by first | omega | (have := HM.out; omega)⟩⟩
  · skip
    obtain ⟨u3, hu3⟩ : ∃ u3, u3 = u2.alloc (.cells #[.int .i64 15, .int .i64 p, .int .i64 0, .slice none 0 0, .slice none 0 0, .int .i64 0] 86) := ⟨_, rfl⟩
    have HU : Hid (u3 = _) := hu3
    obtain ⟨B, hB⟩ : ∃ B, B = u2.heap.size := ⟨_, rfl⟩
    have HBe : Hid (B = u2.heap.size) := hB
    have HB : Hid (w.heap.size < B) := by show w.heap.size < B; have := R3.lt; omega
    have C4 : Cur w0 a cap zs u3 g := by rw [hu3]; exact C3.alloc _
    have G4 : w.grownBy u3 (some g) := by rw [hu3]; exact grown_trans G3 (World.grownBy_alloc _ _ _)
    have R4 : Blk u3 w.heap.size 86 #[.int .i64 0, .int .i64 0, .int .i64 0, .slice none 0 0, .slice none 0 0, .int .i64 0] := by rw [hu3]; exact R3.below (bel_alloc _ _)
    have Q4 : Blk u3 B 86 #[.int .i64 15, .int .i64 p, .int .i64 0, .slice none 0 0, .slice none 0 0, .int .i64 0] := by rw [hu3, hB]; exact Blk.new _ _ _
    clear C3 G3 R3 hu3 hB
    go_upto_region 2 with fail
    rw [← HU.out]
    simp only [← HBe.out]
    go_wp2_with fail
    refine (l1Below_any w0 a cap zs _ g _ (by decide) C4).mono ?_
    rintro e t5 ⟨x, rfl, hx, C5, gg⟩
    have G5 := grown_trans G4 gg
    have R5 := R4.grown gg (by have := HGR.out; simp; omega)
    have Q5 := Q4.grown gg (by have := HGR.out; have := HB.out; simp; omega)
    clear C4 R4 Q4 gg 
    clear G4
    have k0 := Q5.cell 0 rfl
    go_upto_region 12 with fail
    go_wp2_with fail
    refine (l1Below_any w0 a cap zs _ g _ (by decide) C5).mono ?_
    rintro e t6 ⟨y, rfl, hy, C6, gg⟩
    have G6 := grown_trans G5 gg
    have R6 := R5.grown gg (by have := HGR.out; simp; omega)
    have Q6 := Q5.grown gg (by have := HGR.out; have := HB.out; simp; omega)
    clear C5 R5 Q5 gg 
    clear G5
    obtain ⟨m, hm⟩ : ∃ m : Nat, 1 + x + y = (m : Int) := ⟨(1 + x + y).toNat, by omega⟩
    have HM : Hid (1 + x + y = (m : Int) ∧ m ≤ 100) := ⟨hm, by omega⟩
    clear hm
    go_wp2_with fail
    refine (l2Bits_at w0 a cap zs _ g _ m HM.out.1 (by have := HM.out; omega) C6).mono ?_
    rintro e t7 ⟨a', c', bs, rfl, hbs, oj, C7, gg⟩
    have G7 := grown_trans G6 gg
    have R7 := R6.grown gg (by have := HGR.out; simp; omega)
    have Q7 := Q6.grown gg (by have := HGR.out; have := HB.out; simp; omega)
    clear C6 R6 Q6 gg 
    have J7 := OwnB.mono oj G6.size
    have HBs : Hid (_ = bs.length) := hbs
    clear oj hbs G6
    have qc := Q7.cell 4 rfl
    have qf := Q7.fro 4
    have Q8 := Q7.set 4 (.slice (some a') m c')
    have R8 := R7.setNe (g' := B) (j := 4) (y := .slice (some a') m c') (by have := HB.out; omega)
    have C8 := C7.setHi (G := B) (j := 4) (y := .slice (some a') m c') (by have := HB.out; have := HGR.out; omega) (by have := HB.out; have := HGR.out; omega)
    have G8 := grown_setHi (G := B) (j := 4) (y := .slice (some a') m c') G7 (by have := HB.out; omega)
    have J8 := row_setE (j := 4) (y := .slice (some a') m c') J7 ⟨_, Q7⟩ (by decide)
    go_upto_region 19 with fail
    obtain ⟨v8, hv8⟩ : ∃ v8, v8 = t7.setCell ⟨B, 4, none⟩ (.slice (some a') m c') := ⟨_, rfl⟩
    rw [← hv8] at Q8 R8 C8 G8 J8 ⊢
    clear hv8 qc qf Q7 R7 C7 G7 J7
    obtain ⟨q0, q1, q2, q3, q4, q5⟩ := Q8.six
    obtain ⟨y0, y1, y2, y3, y4, y5⟩ := R8.six
    have fy := R8.fro
    have OI : OwnI v8 w.heap.size (.slice none 0 0) [] := (ownI_nil _ _)
    have OB : OwnB v8 w.heap.size (.slice (some a') m c') bs := J8
    have HH : Hid (OwnI v8 w.heap.size (.slice none 0 0) [] ∧ OwnB v8 w.heap.size (.slice (some a') m c') bs ∧ Cur w0 a cap zs v8 g ∧ w.grownBy v8 (some g) ∧ Blk v8 w.heap.size 86 #[.int .i64 0, .int .i64 0, .int .i64 0, .slice none 0 0, .slice none 0 0, .int .i64 0]) := ⟨OI, OB, C8, G8, R8⟩
    clear OI OB C8 G8 R8 Q8 J8
    go_wp2
    refine bodyPost_ret (v := rq 15 (p) (0) (0) none (some a') 0 m 0 c') (by simp [results, Tryd.results50, go_sem, y0, y1, y2, y3, y4, y5]) rfl ?_
    obtain ⟨OI, OB, CE, GE, RE⟩ := HH.out
    have hA0 : allW ([] : List Int) = true := by decide
    have hOK : okR 15 (p) (0) (0) [] 0 m = true := by first | (simp [okR, okK, zrB, inB, fitB, hA0]; omega) | (have h6 := HM.out; simp [okR, okK, zrB, inB, fitB, hA0]; omega) | (have h5 := HAW.out; have h6 := HM.out; simp [okR, okK, zrB, inB, fitB, h5]; omega) | (have h5 := HAW.out; simp [okR, okK, zrB, inB, fitB, h5]; omega)
    have hgR : g ≠ w.heap.size := by have := HGR.out; omega
    have hwR : w0.heap.size ≤ w.heap.size := by have := HGR.out; omega
    exact ⟨_, _, _, _, _, _, _, _, _, _, [], bs, rfl, rfl, HBs.out, by first | omega | (have := HM.out; omega), by first | omega | (have := HM.out; omega), hOK, row_set6 OI ⟨_, RE⟩ (by decide), row_set6 OB ⟨_, RE⟩ (by decide), (((((CE.setHi hgR hwR).setHi hgR hwR).setHi hgR hwR).setHi hgR hwR).setHi hgR hwR).setHi hgR hwR, grown_setHi (grown_setHi (grown_setHi (grown_setHi (grown_setHi (grown_setHi GE (Nat.le_refl _)) (Nat.le_refl _)) (Nat.le_refl _)) (Nat.le_refl _)) (Nat.le_refl _)) (Nat.le_refl _), ⟨by first | omega | (have := HM.out; omega), by first | omega | (have := HM.out; omega), by first | omega | (have := HM.out; omega), by first | omega | (have := HM.out; omega)⟩⟩
  · skip
    obtain ⟨u3, hu3⟩ : ∃ u3, u3 = u2.alloc (.cells #[.int .i64 16, .int .i64 p, .int .i64 0, .slice none 0 0, .slice none 0 0, .int .i64 0] 86) := ⟨_, rfl⟩
    have HU : Hid (u3 = _) := hu3
    obtain ⟨B, hB⟩ : ∃ B, B = u2.heap.size := ⟨_, rfl⟩
    have HBe : Hid (B = u2.heap.size) := hB
    have HB : Hid (w.heap.size < B) := by show w.heap.size < B; have := R3.lt; omega
    have C4 : Cur w0 a cap zs u3 g := by rw [hu3]; exact C3.alloc _
    have G4 : w.grownBy u3 (some g) := by rw [hu3]; exact grown_trans G3 (World.grownBy_alloc _ _ _)
    have R4 : Blk u3 w.heap.size 86 #[.int .i64 0, .int .i64 0, .int .i64 0, .slice none 0 0, .slice none 0 0, .int .i64 0] := by rw [hu3]; exact R3.below (bel_alloc _ _)
    have Q4 : Blk u3 B 86 #[.int .i64 16, .int .i64 p, .int .i64 0, .slice none 0 0, .slice none 0 0, .int .i64 0] := by rw [hu3, hB]; exact Blk.new _ _ _
    clear C3 G3 R3 hu3 hB
    go_upto_region 2 with fail
    rw [← HU.out]
    simp only [← HBe.out]
    go_wp2_with fail
    refine (l1Below_any w0 a cap zs _ g _ (by decide) C4).mono ?_
    rintro e t5 ⟨x, rfl, hx, C5, gg⟩
    have G5 := grown_trans G4 gg
    have R5 := R4.grown gg (by have := HGR.out; simp; omega)
    have Q5 := Q4.grown gg (by have := HGR.out; have := HB.out; simp; omega)
    clear C4 R4 Q4 gg 
    clear G4
    have k0 := Q5.cell 0 rfl
    go_upto_region 14 with fail
    obtain ⟨m, hm⟩ : ∃ m : Nat, 1 + x = (m : Int) := ⟨(1 + x).toNat, by omega⟩
    have HM : Hid (1 + x = (m : Int) ∧ m ≤ 100) := ⟨hm, by omega⟩
    clear hm
    go_wp2_with fail
    refine (l3List_at w0 a cap zs _ g _ m HM.out.1 (by have := HM.out; omega) C5).mono ?_
    rintro e t6 ⟨a', c', ws, rfl, hws, hrg, oi, C6, gg⟩
    have G6 := grown_trans G5 gg
    have R6 := R5.grown gg (by have := HGR.out; simp; omega)
    have Q6 := Q5.grown gg (by have := HGR.out; have := HB.out; simp; omega)
    clear C5 R5 Q5 gg 
    have I6 := OwnI.mono oi G5.size
    have HWs : Hid (_ = ws.length) := hws
    have HAW : Hid (allW ws = true) := allW_of hrg
    clear oi hws hrg G5
    have qc := Q6.cell 3 rfl
    have qf := Q6.fro 3
    have Q7 := Q6.set 3 (.slice a' m c')
    have R7 := R6.setNe (g' := B) (j := 3) (y := .slice a' m c') (by have := HB.out; omega)
    have C7 := C6.setHi (G := B) (j := 3) (y := .slice a' m c') (by have := HB.out; have := HGR.out; omega) (by have := HB.out; have := HGR.out; omega)
    have G7 := grown_setHi (G := B) (j := 3) (y := .slice a' m c') G6 (by have := HB.out; omega)
    have I7 := row_setE (j := 3) (y := .slice a' m c') I6 ⟨_, Q6⟩ (by decide)
    go_upto_region 19 with fail
    obtain ⟨v7, hv7⟩ : ∃ v7, v7 = t6.setCell ⟨B, 3, none⟩ (.slice a' m c') := ⟨_, rfl⟩
    rw [← hv7] at Q7 R7 C7 G7 I7 ⊢
    clear hv7 qc qf Q6 R6 C6 G6 I6
    obtain ⟨q0, q1, q2, q3, q4, q5⟩ := Q7.six
    obtain ⟨y0, y1, y2, y3, y4, y5⟩ := R7.six
    have fy := R7.fro
    have OI : OwnI v7 w.heap.size (.slice a' m c') ws := I7
    have OB : OwnB v7 w.heap.size (.slice none 0 0) [] := (ownB_nil _ _)
    have HH : Hid (OwnI v7 w.heap.size (.slice a' m c') ws ∧ OwnB v7 w.heap.size (.slice none 0 0) [] ∧ Cur w0 a cap zs v7 g ∧ w.grownBy v7 (some g) ∧ Blk v7 w.heap.size 86 #[.int .i64 0, .int .i64 0, .int .i64 0, .slice none 0 0, .slice none 0 0, .int .i64 0]) := ⟨OI, OB, C7, G7, R7⟩
    clear OI OB C7 G7 R7 Q7 I7
    go_wp2
    refine bodyPost_ret (v := rq 16 (p) (0) (0) a' none m 0 c' 0) (by simp [results, Tryd.results50, go_sem, y0, y1, y2, y3, y4, y5]) rfl ?_
    obtain ⟨OI, OB, CE, GE, RE⟩ := HH.out
    have hA0 : allW ([] : List Int) = true := by decide
    have hOK : okR 16 (p) (0) (0) ws m 0 = true := by first | (simp [okR, okK, zrB, inB, fitB, hA0]; omega) | (have h6 := HM.out; simp [okR, okK, zrB, inB, fitB, hA0]; omega) | (have h5 := HAW.out; have h6 := HM.out; simp [okR, okK, zrB, inB, fitB, h5]; omega) | (have h5 := HAW.out; simp [okR, okK, zrB, inB, fitB, h5]; omega)
    have hgR : g ≠ w.heap.size := by have := HGR.out; omega
    have hwR : w0.heap.size ≤ w.heap.size := by have := HGR.out; omega
    exact ⟨_, _, _, _, _, _, _, _, _, _, ws, [], rfl, HWs.out, rfl, by first | omega | (have := HM.out; omega), by first | omega | (have := HM.out; omega), hOK, row_set6 OI ⟨_, RE⟩ (by decide), row_set6 OB ⟨_, RE⟩ (by decide), (((((CE.setHi hgR hwR).setHi hgR hwR).setHi hgR hwR).setHi hgR hwR).setHi hgR hwR).setHi hgR hwR, grown_setHi (grown_setHi (grown_setHi (grown_setHi (grown_setHi (grown_setHi GE (Nat.le_refl _)) (Nat.le_refl _)) (Nat.le_refl _)) (Nat.le_refl _)) (Nat.le_refl _)) (Nat.le_refl _), ⟨by first | omega | (have := HM.out; omega), by first | omega | (have := HM.out; omega), by first | omega | (have := HM.out; omega), by first | omega | (have := HM.out; omega)⟩⟩
  · skip
    obtain ⟨u3, hu3⟩ : ∃ u3, u3 = u2.alloc (.cells #[.int .i64 22, .int .i64 p, .int .i64 0, .slice none 0 0, .slice none 0 0, .int .i64 0] 86) := ⟨_, rfl⟩
    have HU : Hid (u3 = _) := hu3
    obtain ⟨B, hB⟩ : ∃ B, B = u2.heap.size := ⟨_, rfl⟩
    have HBe : Hid (B = u2.heap.size) := hB
    have HB : Hid (w.heap.size < B) := by show w.heap.size < B; have := R3.lt; omega
    have C4 : Cur w0 a cap zs u3 g := by rw [hu3]; exact C3.alloc _
    have G4 : w.grownBy u3 (some g) := by rw [hu3]; exact grown_trans G3 (World.grownBy_alloc _ _ _)
    have R4 : Blk u3 w.heap.size 86 #[.int .i64 0, .int .i64 0, .int .i64 0, .slice none 0 0, .slice none 0 0, .int .i64 0] := by rw [hu3]; exact R3.below (bel_alloc _ _)
    have Q4 : Blk u3 B 86 #[.int .i64 22, .int .i64 p, .int .i64 0, .slice none 0 0, .slice none 0 0, .int .i64 0] := by rw [hu3, hB]; exact Blk.new _ _ _
    clear C3 G3 R3 hu3 hB
    go_upto_region 2 with fail
    rw [← HU.out]
    simp only [← HBe.out]
    go_wp2_with fail
    refine (l1Below_any w0 a cap zs _ g _ (by decide) C4).mono ?_
    rintro e t5 ⟨x, rfl, hx, C5, gg⟩
    have G5 := grown_trans G4 gg
    have R5 := R4.grown gg (by have := HGR.out; simp; omega)
    have Q5 := Q4.grown gg (by have := HGR.out; have := HB.out; simp; omega)
    clear C4 R4 Q4 gg 
    clear G4
    have k0 := Q5.cell 0 rfl
    go_upto_region 10 with fail
    go_wp2_with fail
    refine (l3List_at w0 a cap zs _ g _ 2 rfl (by omega) C5).mono ?_
    rintro e t6 ⟨a', c', ws, rfl, hws, hrg, oi, C6, gg⟩
    have G6 := grown_trans G5 gg
    have R6 := R5.grown gg (by have := HGR.out; simp; omega)
    have Q6 := Q5.grown gg (by have := HGR.out; have := HB.out; simp; omega)
    clear C5 R5 Q5 gg 
    have I6 := OwnI.mono oi G5.size
    have HWs : Hid (_ = ws.length) := hws
    have HAW : Hid (allW ws = true) := allW_of hrg
    clear oi hws hrg G5
    have qc := Q6.cell 3 rfl
    have qf := Q6.fro 3
    have Q7 := Q6.set 3 (.slice a' 2 c')
    have R7 := R6.setNe (g' := B) (j := 3) (y := .slice a' 2 c') (by have := HB.out; omega)
    have C7 := C6.setHi (G := B) (j := 3) (y := .slice a' 2 c') (by have := HB.out; have := HGR.out; omega) (by have := HB.out; have := HGR.out; omega)
    have G7 := grown_setHi (G := B) (j := 3) (y := .slice a' 2 c') G6 (by have := HB.out; omega)
    have I7 := row_setE (j := 3) (y := .slice a' 2 c') I6 ⟨_, Q6⟩ (by decide)
    go_upto_region 19 with fail
    obtain ⟨v7, hv7⟩ : ∃ v7, v7 = t6.setCell ⟨B, 3, none⟩ (.slice a' 2 c') := ⟨_, rfl⟩
    rw [← hv7] at Q7 R7 C7 G7 I7 ⊢
    clear hv7 qc qf Q6 R6 C6 G6 I6
    obtain ⟨q0, q1, q2, q3, q4, q5⟩ := Q7.six
    obtain ⟨y0, y1, y2, y3, y4, y5⟩ := R7.six
    have fy := R7.fro
    have OI : OwnI v7 w.heap.size (.slice a' 2 c') ws := I7
    have OB : OwnB v7 w.heap.size (.slice none 0 0) [] := (ownB_nil _ _)
    have HH : Hid (OwnI v7 w.heap.size (.slice a' 2 c') ws ∧ OwnB v7 w.heap.size (.slice none 0 0) [] ∧ Cur w0 a cap zs v7 g ∧ w.grownBy v7 (some g) ∧ Blk v7 w.heap.size 86 #[.int .i64 0, .int .i64 0, .int .i64 0, .slice none 0 0, .slice none 0 0, .int .i64 0]) := ⟨OI, OB, C7, G7, R7⟩
    clear OI OB C7 G7 R7 Q7 I7
    go_wp2
    refine bodyPost_ret (v := rq 22 (p) (0) (0) a' none 2 0 c' 0) (by simp [results, Tryd.results50, go_sem, y0, y1, y2, y3, y4, y5]) rfl ?_
    obtain ⟨OI, OB, CE, GE, RE⟩ := HH.out
    have hA0 : allW ([] : List Int) = true := by decide
    have hOK : okR 22 (p) (0) (0) ws 2 0 = true := by first | (simp [okR, okK, zrB, inB, fitB, hA0]; omega) | (have h6 := HM.out; simp [okR, okK, zrB, inB, fitB, hA0]; omega) | (have h5 := HAW.out; have h6 := HM.out; simp [okR, okK, zrB, inB, fitB, h5]; omega) | (have h5 := HAW.out; simp [okR, okK, zrB, inB, fitB, h5]; omega)
    have hgR : g ≠ w.heap.size := by have := HGR.out; omega
    have hwR : w0.heap.size ≤ w.heap.size := by have := HGR.out; omega
    exact ⟨_, _, _, _, _, _, _, _, _, _, ws, [], rfl, HWs.out, rfl, by first | omega | (have := HM.out; omega), by first | omega | (have := HM.out; omega), hOK, row_set6 OI ⟨_, RE⟩ (by decide), row_set6 OB ⟨_, RE⟩ (by decide), (((((CE.setHi hgR hwR).setHi hgR hwR).setHi hgR hwR).setHi hgR hwR).setHi hgR hwR).setHi hgR hwR, grown_setHi (grown_setHi (grown_setHi (grown_setHi (grown_setHi (grown_setHi GE (Nat.le_refl _)) (Nat.le_refl _)) (Nat.le_refl _)) (Nat.le_refl _)) (Nat.le_refl _)) (Nat.le_refl _), ⟨by first | omega | (have := HM.out; omega), by first | omega | (have := HM.out; omega), by first | omega | (have := HM.out; omega), by first | omega | (have := HM.out; omega)⟩⟩
  · skip
    obtain ⟨u3, hu3⟩ : ∃ u3, u3 = u2.alloc (.cells #[.int .i64 23, .int .i64 p, .int .i64 0, .slice none 0 0, .slice none 0 0, .int .i64 0] 86) := ⟨_, rfl⟩
    have HU : Hid (u3 = _) := hu3
    obtain ⟨B, hB⟩ : ∃ B, B = u2.heap.size := ⟨_, rfl⟩
    have HBe : Hid (B = u2.heap.size) := hB
    have HB : Hid (w.heap.size < B) := by show w.heap.size < B; have := R3.lt; omega
    have C4 : Cur w0 a cap zs u3 g := by rw [hu3]; exact C3.alloc _
    have G4 : w.grownBy u3 (some g) := by rw [hu3]; exact grown_trans G3 (World.grownBy_alloc _ _ _)
    have R4 : Blk u3 w.heap.size 86 #[.int .i64 0, .int .i64 0, .int .i64 0, .slice none 0 0, .slice none 0 0, .int .i64 0] := by rw [hu3]; exact R3.below (bel_alloc _ _)
    have Q4 : Blk u3 B 86 #[.int .i64 23, .int .i64 p, .int .i64 0, .slice none 0 0, .slice none 0 0, .int .i64 0] := by rw [hu3, hB]; exact Blk.new _ _ _
    clear C3 G3 R3 hu3 hB
    go_upto_region 2 with fail
    rw [← HU.out]
    simp only [← HBe.out]
    go_wp2_with fail
    refine (l1Below_any w0 a cap zs _ g _ (by decide) C4).mono ?_
    rintro e t5 ⟨x, rfl, hx, C5, gg⟩
    have G5 := grown_trans G4 gg
    have R5 := R4.grown gg (by have := HGR.out; simp; omega)
    have Q5 := Q4.grown gg (by have := HGR.out; have := HB.out; simp; omega)
    clear C4 R4 Q4 gg 
    clear G4
    have k0 := Q5.cell 0 rfl
    go_upto_region 16 with fail
    have qc := Q5.cell 2 rfl
    have qf := Q5.fro 2
    have Q6 := Q5.set 2 (.int .i64 (1 + x))
    have R6 := R5.setNe (g' := B) (j := 2) (y := .int .i64 (1 + x)) (by have := HB.out; omega)
    have C6 := C5.setHi (G := B) (j := 2) (y := .int .i64 (1 + x)) (by have := HB.out; have := HGR.out; omega) (by have := HB.out; have := HGR.out; omega)
    have G6 := grown_setHi (G := B) (j := 2) (y := .int .i64 (1 + x)) G5 (by have := HB.out; omega)
    go_upto_region 17 with fail
    obtain ⟨v6, hv6⟩ : ∃ v6, v6 = t5.setCell ⟨B, 2, none⟩ (.int .i64 (1 + x)) := ⟨_, rfl⟩
    rw [← hv6] at Q6 R6 C6 G6 ⊢
    clear hv6 qc qf Q5 R5 C5 G5 
    go_wp2_with fail
    refine (l1Below_any w0 a cap zs _ g _ (by decide) C6).mono ?_
    rintro e t7 ⟨y, rfl, hy, C7, gg⟩
    have G7 := grown_trans G6 gg
    have R7 := R6.grown gg (by have := HGR.out; simp; omega)
    have Q7 := Q6.grown gg (by have := HGR.out; have := HB.out; simp; omega)
    clear C6 R6 Q6 gg 
    clear G6
    have qc := Q7.cell 5 rfl
    have qf := Q7.fro 5
    have Q8 := Q7.set 5 (.int .i64 y)
    have R8 := R7.setNe (g' := B) (j := 5) (y := .int .i64 y) (by have := HB.out; omega)
    have C8 := C7.setHi (G := B) (j := 5) (y := .int .i64 y) (by have := HB.out; have := HGR.out; omega) (by have := HB.out; have := HGR.out; omega)
    have G8 := grown_setHi (G := B) (j := 5) (y := .int .i64 y) G7 (by have := HB.out; omega)
    go_upto_region 18 with fail
    obtain ⟨v8, hv8⟩ : ∃ v8, v8 = t7.setCell ⟨B, 5, none⟩ (.int .i64 y) := ⟨_, rfl⟩
    rw [← hv8] at Q8 R8 C8 G8 ⊢
    clear hv8 qc qf Q7 R7 C7 G7 
    go_wp2_with fail
    refine (l1Below_any w0 a cap zs _ g _ (by decide) C8).mono ?_
    rintro e t9 ⟨z, rfl, hz, C9, gg⟩
    have G9 := grown_trans G8 gg
    have R9 := R8.grown gg (by have := HGR.out; simp; omega)
    have Q9 := Q8.grown gg (by have := HGR.out; have := HB.out; simp; omega)
    clear C8 R8 Q8 gg 
    clear G8
    obtain ⟨m, hm⟩ : ∃ m : Nat, 1 + z = (m : Int) := ⟨(1 + z).toNat, by omega⟩
    have HM : Hid (1 + z = (m : Int) ∧ m ≤ 100) := ⟨hm, by omega⟩
    clear hm
    go_wp2_with fail
    refine (l3List_at w0 a cap zs _ g _ m HM.out.1 (by have := HM.out; omega) C9).mono ?_
    rintro e t10 ⟨a', c', ws, rfl, hws, hrg, oi, C10, gg⟩
    have G10 := grown_trans G9 gg
    have R10 := R9.grown gg (by have := HGR.out; simp; omega)
    have Q10 := Q9.grown gg (by have := HGR.out; have := HB.out; simp; omega)
    clear C9 R9 Q9 gg 
    have I10 := OwnI.mono oi G9.size
    have HWs : Hid (_ = ws.length) := hws
    have HAW : Hid (allW ws = true) := allW_of hrg
    clear oi hws hrg G9
    have qc := Q10.cell 3 rfl
    have qf := Q10.fro 3
    have Q11 := Q10.set 3 (.slice a' m c')
    have R11 := R10.setNe (g' := B) (j := 3) (y := .slice a' m c') (by have := HB.out; omega)
    have C11 := C10.setHi (G := B) (j := 3) (y := .slice a' m c') (by have := HB.out; have := HGR.out; omega) (by have := HB.out; have := HGR.out; omega)
    have G11 := grown_setHi (G := B) (j := 3) (y := .slice a' m c') G10 (by have := HB.out; omega)
    have I11 := row_setE (j := 3) (y := .slice a' m c') I10 ⟨_, Q10⟩ (by decide)
    go_upto_region 19 with fail
    obtain ⟨v11, hv11⟩ : ∃ v11, v11 = t10.setCell ⟨B, 3, none⟩ (.slice a' m c') := ⟨_, rfl⟩
    rw [← hv11] at Q11 R11 C11 G11 I11 ⊢
    clear hv11 qc qf Q10 R10 C10 G10 I10
    obtain ⟨q0, q1, q2, q3, q4, q5⟩ := Q11.six
    obtain ⟨y0, y1, y2, y3, y4, y5⟩ := R11.six
    have fy := R11.fro
    have OI : OwnI v11 w.heap.size (.slice a' m c') ws := I11
    have OB : OwnB v11 w.heap.size (.slice none 0 0) [] := (ownB_nil _ _)
    have HH : Hid (OwnI v11 w.heap.size (.slice a' m c') ws ∧ OwnB v11 w.heap.size (.slice none 0 0) [] ∧ Cur w0 a cap zs v11 g ∧ w.grownBy v11 (some g) ∧ Blk v11 w.heap.size 86 #[.int .i64 0, .int .i64 0, .int .i64 0, .slice none 0 0, .slice none 0 0, .int .i64 0]) := ⟨OI, OB, C11, G11, R11⟩
    clear OI OB C11 G11 R11 Q11 I11
    go_wp2
    refine bodyPost_ret (v := rq 23 (p) ((1 + x)) (y) a' none m 0 c' 0) (by simp [results, Tryd.results50, go_sem, y0, y1, y2, y3, y4, y5]) rfl ?_
    obtain ⟨OI, OB, CE, GE, RE⟩ := HH.out
    have hA0 : allW ([] : List Int) = true := by decide
    have hOK : okR 23 (p) ((1 + x)) (y) ws m 0 = true := by first | (simp [okR, okK, zrB, inB, fitB, hA0]; omega) | (have h6 := HM.out; simp [okR, okK, zrB, inB, fitB, hA0]; omega) | (have h5 := HAW.out; have h6 := HM.out; simp [okR, okK, zrB, inB, fitB, h5]; omega) | (have h5 := HAW.out; simp [okR, okK, zrB, inB, fitB, h5]; omega)
    have hgR : g ≠ w.heap.size := by have := HGR.out; omega
    have hwR : w0.heap.size ≤ w.heap.size := by have := HGR.out; omega
    exact ⟨_, _, _, _, _, _, _, _, _, _, ws, [], rfl, HWs.out, rfl, by first | omega | (have := HM.out; omega), by first | omega | (have := HM.out; omega), hOK, row_set6 OI ⟨_, RE⟩ (by decide), row_set6 OB ⟨_, RE⟩ (by decide), (((((CE.setHi hgR hwR).setHi hgR hwR).setHi hgR hwR).setHi hgR hwR).setHi hgR hwR).setHi hgR hwR, grown_setHi (grown_setHi (grown_setHi (grown_setHi (grown_setHi (grown_setHi GE (Nat.le_refl _)) (Nat.le_refl _)) (Nat.le_refl _)) (Nat.le_refl _)) (Nat.le_refl _)) (Nat.le_refl _), ⟨by first | omega | (have := HM.out; omega), by first | omega | (have := HM.out; omega), by first | omega | (have := HM.out; omega), by first | omega | (have := HM.out; omega)⟩⟩

theorem l3DrawR_any (w0 : World) (a : Option Addr) (cap : Nat) (zs : List Int) (w : World) (g : Nat) (hC : Cur w0 a cap zs w g) :
    Calls Tryd.prog 50 #[.pointer (some ⟨g, 0, none⟩), .int .i64 0] w fun e w' => DrawnReqR w0 a cap zs w g e w' :=
  (l3DrawN_any w0 a cap zs w g hC).mono (fun e w' h => by
    obtain ⟨kd, pl, nn, wa, a1, a2, l1, l2, c1, c2, ws, bs, h1, h2, h3, h4, h5, h6, h7, h8, h9, h10, _⟩ := h
    exact ⟨kd, pl, nn, wa, a1, a2, l1, l2, c1, c2, ws, bs, h1, h2, h3, h4, h5, h6, h7, h8, h9, h10⟩)

end Go.Proofs.YtoofkikenfgbpaaDoor

namespace Go.Proofs.YtoofkikenfgbpaaDoor
open Go.RowKit

set_option linter.unusedVariables false

set_option linter.unusedSimpArgs false

theorem Cur.belowU {w0 u u' : World} {a : Option Addr} {cap g : Nat} {zs : List Int} (h : Cur w0 a cap zs u g) (hb : Below u.heap.size u u') : Cur w0 a cap zs u' g :=
  h.grown (grown_below hb (some u.heap.size)) (by have := h.hi; simp; omega) (fun k hk => by simp at hk; subst hk; have := h.hi; have := h.lo; omega)

theorem Blk.set6 {u : World} {B : Nat} {t : TypeId} {x0 x1 x2 x3 x4 x5 v0 v1 v2 v3 v4 v5 : Value} (h : Blk u B t #[x0, x1, x2, x3, x4, x5]) : Blk ((((((u.setCell ⟨B, 0, none⟩ v0).setCell ⟨B, 1, none⟩ v1).setCell ⟨B, 2, none⟩ v2).setCell ⟨B, 3, none⟩ v3).setCell ⟨B, 4, none⟩ v4).setCell ⟨B, 5, none⟩ v5) B t #[v0, v1, v2, v3, v4, v5] := by
  have := (((((h.set 0 v0).set 1 v1).set 2 v2).set 3 v3).set 4 v4).set 5 v5
  simpa using this

theorem grown_rowG {w u u' : World} {g : Nat} {e : TypeId} {size n : Nat} {v : Value} {xs : List Value} (h : w.grownBy u (some g)) (hr : u.ownsRow w.heap.size e size v n xs) (hg : u.grownBy u' v.ownBlock) : w.grownBy u' (some g) := by
  refine ⟨hg.os.trans h.os, hg.tape.trans h.tape, hg.output.trans h.output, Nat.le_trans h.size hg.size, fun k hk hne => ?_⟩
  rw [hg.block k (Nat.lt_of_lt_of_le hk h.size) (fun e => by have := (World.ownsRow.lt hr k e.symm).1; omega)]
  exact h.block k hk hne

theorem Cur.rowG {w0 u u' : World} {a : Option Addr} {cap g B : Nat} {zs : List Int} {e : TypeId} {size n : Nat} {v : Value} {xs : List Value} (h : Cur w0 a cap zs u g) (hr : u.ownsRow B e size v n xs) (hg : u.grownBy u' v.ownBlock) (hB : g < B) : Cur w0 a cap zs u' g := by
  have hlo := h.lo
  exact h.grown hg (fun e => by have := (World.ownsRow.lt hr g e.symm).1; omega) (fun k hk => by have := (World.ownsRow.lt hr k hk).1; omega)

theorem ints_none {w : World} {ys : List Int} (h : SlI w none ys) : ys = [] := by
  cases ys with
  | nil => rfl
  | cons y r => obtain ⟨b, off, e, _⟩ := cell_atI (k := 0) h (by simp); simp at e

theorem bools_none {w : World} {ys : List Bool} (h : SlB w none ys) : ys = [] := by
  cases ys with
  | nil => rfl
  | cons y r => obtain ⟨b, off, e, _⟩ := cell_atB (k := 0) h (by simp); simp at e

/-- append of a row of ints that may be none onto one of the call's own. -/
theorem wpList_appIO {w : World} {ops : Array Oper} {rest : List Oper} {o : Oper} {a : Act} {Q : Exit → Act → World → Prop} (hgd : o.guard = none) (s x : Operand)
    (ho : o.op = .call { callee := .builtin .append, args := #[s, x], argTypes := #[43, 43] }) (base : Nat) (v : Value) (zs : List Int) (hs : a.eval s = v) (hown : OwnI w base v zs)
    (ad : Option Addr) (m c : Nat) (ys : List Int) (hx : a.eval x = .slice ad m c) (hm : m = ys.length) (hsl : SlI w ad ys) (hlen : zs.length + ys.length ≤ 4000000) (hbase : base ≤ w.heap.size)
    (h : ∀ v' w', OwnI w' base v' (zs ++ ys) → w.grownBy w' v.ownBlock → wpList Tryd.prog ops Q rest (a.put o.dst v') w') : wpList Tryd.prog ops Q (o :: rest) a w := by
  cases ad with
  | some ad => exact wpList_appI hgd s x ho base v zs hs hown ad m c ys hx hm hsl hlen hbase h
  | none =>
    obtain rfl := ints_none hsl
    obtain rfl : m = 0 := hm
    obtain ⟨i0, hi, hz0, hz1, hz2⟩ := info_parts Tryd.infoQ3
    have hgo : ∀ (sa : Option Addr) (sn sc : Nat), sn ≤ sc → v = .slice sa sn sc → wpList Tryd.prog ops Q (o :: rest) a w := by
      rintro sa sn sc hcap rfl
      exact Lib.wpList_append_run _ hgd s x _ _ ho _ _ hs hx _ _ (run_append_nothing w 43 43 o.type 3 i0 Tryd.underlying43 hi sa sn sc hcap _ (Src.ofNil w Tryd.underlying43 c)) (h _ w (by simpa using hown) ⟨rfl, rfl, rfl, Nat.le_refl _, fun _ _ _ => rfl⟩)
    rcases hown.2 with ⟨e, _⟩ | ⟨g, cap', cur, hv, _, hh, h3, _⟩
    · exact hgo _ _ _ (Nat.le_refl 0) e
    · exact hgo _ _ _ h3 hv

theorem boolCells {w : World} {ad : Addr} {ys : List Bool} (h : SlB w (some ad) ys) : ∀ j u, (ys.map Value.bool)[j]? = some u → w.cell? (ad.add j) = some u := by
  intro j u hu
  rw [List.getElem?_map] at hu
  by_cases hj : j < ys.length
  · obtain ⟨b, off, e, _, hc⟩ := cell_atB h hj
    simp at e
    subst e
    rw [List.getElem?_eq_getElem hj] at hu
    simp at hu
    subst hu
    have : ys.getD j false = ys[j] := by simp [List.getD_eq_getElem?_getD, hj]
    rw [this] at hc
    by_cases h0 : j = 0
    · subst h0; simpa [Addr.add] using hc
    · simpa [Addr.add, h0] using hc
  · rw [List.getElem?_eq_none (by omega)] at hu; simp at hu

/-- append of a row of bools that may be none onto one of the call's own. -/
theorem wpList_appBO {w : World} {ops : Array Oper} {rest : List Oper} {o : Oper} {a : Act} {Q : Exit → Act → World → Prop} (hgd : o.guard = none) (s x : Operand)
    (ho : o.op = .call { callee := .builtin .append, args := #[s, x], argTypes := #[44, 44] }) (base : Nat) (v : Value) (zs : List Bool) (hs : a.eval s = v) (hown : OwnB w base v zs)
    (ad : Option Addr) (m c : Nat) (ys : List Bool) (hx : a.eval x = .slice ad m c) (hm : m = ys.length) (hsl : SlB w ad ys) (hlen : zs.length + ys.length ≤ 4000000) (hbase : base ≤ w.heap.size)
    (h : ∀ v' w', OwnB w' base v' (zs ++ ys) → w.grownBy w' v.ownBlock → wpList Tryd.prog ops Q rest (a.put o.dst v') w') : wpList Tryd.prog ops Q (o :: rest) a w := by
  obtain ⟨i0, hi, hz0, hz1, hz2⟩ := info_parts Tryd.info4
  cases ad with
  | some ad =>
    subst hm
    have hml : zs.length + ys.length ≤ maxLen := by unfold maxLen; omega
    refine wpList_append_own _ hgd s x 44 ho base 4 i0 (.bool false) 1 1 Tryd.underlying44 hi hz0 hz1 hz2 rfl (by decide) v zs.length (zs.map Value.bool) hs hown ad ys.length c (ys.map Value.bool) hx (by simp) (boolCells hsl) (by intro u hu; obtain ⟨y, _, rfl⟩ := List.mem_map.mp hu; rfl) hml (by omega) hbase ?_
    intro v' w' o' g' _
    exact h v' w' (by simpa [OwnB] using o') g'
  | none =>
    obtain rfl := bools_none hsl
    obtain rfl : m = 0 := hm
    have hgo : ∀ (sa : Option Addr) (sn sc : Nat), sn ≤ sc → v = .slice sa sn sc → wpList Tryd.prog ops Q (o :: rest) a w := by
      rintro sa sn sc hcap rfl
      exact Lib.wpList_append_run _ hgd s x _ _ ho _ _ hs hx _ _ (run_append_nothing w 44 44 o.type 4 i0 Tryd.underlying44 hi sa sn sc hcap _ (Src.ofNil w Tryd.underlying44 c)) (h _ w (by simpa using hown) ⟨rfl, rfl, rfl, Nat.le_refl _, fun _ _ _ => rfl⟩)
    rcases hown.2 with ⟨e, _⟩ | ⟨g, cap', cur, hv, _, hh, h3, _⟩
    · exact hgo _ _ _ (Nat.le_refl 0) e
    · exact hgo _ _ _ h3 hv

theorem newI (u : World) (base : Nat) (hb : base ≤ u.heap.size) : OwnI (u.alloc (.cells #[] 3)) base (.slice (some ⟨u.heap.size, 0, none⟩) 0 0) [] := ⟨rfl, .inr ⟨u.heap.size, 0, #[], rfl, hb, Blk.new u #[] 3, by simp, by simp, rfl, rfl⟩⟩

theorem newB (u : World) (base : Nat) (hb : base ≤ u.heap.size) : OwnB (u.alloc (.cells #[] 4)) base (.slice (some ⟨u.heap.size, 0, none⟩) 0 0) [] := ⟨rfl, .inr ⟨u.heap.size, 0, #[], rfl, hb, Blk.new u #[] 4, by simp, by simp, rfl, rfl⟩⟩

theorem ownB_shape {w : World} {base : Nat} {v : Value} {zs : List Bool} (h : OwnB w base v zs) : ∃ a c n, v = .slice a n c ∧ n = zs.length := by
  obtain ⟨_, h2⟩ := h
  rcases h2 with ⟨hv, h3⟩ | ⟨g, cap, cur, hv, hg, hh, _⟩
  · exact ⟨none, 0, 0, hv, h3.symm⟩
  · exact ⟨_, cap, _, hv, rfl⟩

/-- What drawing an answer ends with. -/
def RespAt (w0 : World) (a : Option Addr) (cap : Nat) (zs : List Int) (base m1 m2 : Nat) (w : World) (g : Nat) (e : Ending) (w' : World) : Prop :=
  ∃ (kd fl pl nn : Int) (a1 a2 : Option Addr) (l1 l2 c1 c2 : Nat) (ws : List Int) (bs : List Bool), e = .returned (rp kd fl pl nn a1 a2 l1 l2 c1 c2) ∧ l1 = ws.length ∧ l2 = bs.length ∧ l1 ≤ m1 ∧ l2 ≤ m2 ∧ OwnI w' base (.slice a1 l1 c1) ws ∧ OwnB w' base (.slice a2 l2 c2) bs ∧ Cur w0 a cap zs w' g ∧ w.grownBy w' (some g)

/-- As RespAt, its numbers small. -/
def RespIn (w0 : World) (a : Option Addr) (cap : Nat) (zs : List Int) (base m1 m2 : Nat) (w : World) (g : Nat) (e : Ending) (w' : World) : Prop :=
  ∃ (kd fl pl nn : Int) (a1 a2 : Option Addr) (l1 l2 c1 c2 : Nat) (ws : List Int) (bs : List Bool), e = .returned (rp kd fl pl nn a1 a2 l1 l2 c1 c2) ∧ l1 = ws.length ∧ l2 = bs.length ∧ l1 ≤ m1 ∧ l2 ≤ m2 ∧ OwnI w' base (.slice a1 l1 c1) ws ∧ OwnB w' base (.slice a2 l2 c2) bs ∧ Cur w0 a cap zs w' g ∧ w.grownBy w' (some g) ∧ (0 ≤ pl ∧ pl ≤ 65535 ∧ 0 ≤ nn ∧ nn ≤ 2900)

theorem st6_cur {w0 u : World} {a : Option Addr} {cap g B : Nat} {zs : List Int} {v0 v1 v2 v3 v4 v5 : Value} (h : Cur w0 a cap zs u g) (h1 : g ≠ B) (h2 : w0.heap.size ≤ B) : Cur w0 a cap zs ((((((u.setCell ⟨B, 0, none⟩ v0).setCell ⟨B, 1, none⟩ v1).setCell ⟨B, 2, none⟩ v2).setCell ⟨B, 3, none⟩ v3).setCell ⟨B, 4, none⟩ v4).setCell ⟨B, 5, none⟩ v5) g :=
  (((((h.setHi h1 h2).setHi h1 h2).setHi h1 h2).setHi h1 h2).setHi h1 h2).setHi h1 h2

theorem st6_grown {w u : World} {g B : Nat} {v0 v1 v2 v3 v4 v5 : Value} (h : w.grownBy u (some g)) (hB : w.heap.size ≤ B) : w.grownBy ((((((u.setCell ⟨B, 0, none⟩ v0).setCell ⟨B, 1, none⟩ v1).setCell ⟨B, 2, none⟩ v2).setCell ⟨B, 3, none⟩ v3).setCell ⟨B, 4, none⟩ v4).setCell ⟨B, 5, none⟩ v5) (some g) :=
  grown_setHi (grown_setHi (grown_setHi (grown_setHi (grown_setHi (grown_setHi h hB) hB) hB) hB) hB) hB

def lenAt (w : World) (B : Nat) : Nat := match w.cell? ⟨B, 5, none⟩ with | some (.slice _ n _) => n | _ => 0

set_option maxRecDepth 20000 in
set_option maxHeartbeats 16000000 in
theorem l4Draw_any (w0 : World) (a : Option Addr) (cap : Nat) (zs : List Int) (w : World) (g : Nat) (kd pl nn wa : Int) (a1 a2 : Option Addr) (l1 l2 c1 c2 : Nat) (ws : List Int) (bs : List Bool) (h1 : l1 = ws.length) (h2 : l2 = bs.length) (hl1 : l1 ≤ 200) (hl2 : l2 ≤ 2000) (hnn : 0 ≤ nn ∧ nn ≤ 900) (hpl : 0 ≤ pl ∧ pl ≤ 65535) (base : Nat) (hgb : g < base) (s1 : OwnI w base (.slice a1 l1 c1) ws) (s2 : OwnB w base (.slice a2 l2 c2) bs) (hC : Cur w0 a cap zs w g) :
    Calls Tryd.prog 53 #[.pointer (some ⟨g, 0, none⟩), rq kd pl nn wa a1 a2 l1 l2 c1 c2] w fun e w' => RespIn w0 a cap zs w.heap.size 900 2900 w g e w' := by
  have HE : Hid (l1 = ws.length ∧ l2 = bs.length ∧ l1 ≤ 200 ∧ l2 ≤ 2000 ∧ 0 ≤ nn ∧ nn ≤ 900 ∧ 0 ≤ pl ∧ pl ≤ 65535) := ⟨h1, h2, hl1, hl2, hnn.1, hnn.2, hpl.1, hpl.2⟩
  have hg := hC.hi
  have hlo := hC.lo
  have HGR : Hid (g < w.heap.size ∧ w0.heap.size ≤ g) := ⟨hg, hlo⟩
  have HS : Hid (OwnI w base (.slice a1 l1 c1) ws ∧ OwnB w base (.slice a2 l2 c2) bs ∧ g < base) := ⟨s1, s2, hgb⟩
  obtain ⟨W0, hW0⟩ : ∃ W0, W0 = (w.alloc (.cells #[.int .i64 kd, .int .i64 pl, .int .i64 nn, .slice a1 l1 c1, .slice a2 l2 c2, .int .i64 wa] 86)).alloc (.cells #[.int .i64 0, .int .i64 0, .int .i64 0, .int .i64 0, .slice none 0 0, .slice none 0 0] 46) := ⟨_, rfl⟩
  have HW : Hid (W0 = _) := hW0
  have C0 : Cur w0 a cap zs W0 g := by rw [hW0]; exact (hC.alloc _).alloc _
  have G0 : w.grownBy W0 (some g) := by rw [hW0]; exact grown_trans (World.grownBy_alloc _ _ _) (World.grownBy_alloc _ _ _)
  have X0 : Blk W0 w.heap.size 86 #[.int .i64 kd, .int .i64 pl, .int .i64 nn, .slice a1 l1 c1, .slice a2 l2 c2, .int .i64 wa] := by rw [hW0]; exact (Blk.new _ _ _).below (bel_alloc _ _)
  have R0 : Blk W0 (w.heap.size + 1) 46 #[.int .i64 0, .int .i64 0, .int .i64 0, .int .i64 0, .slice none 0 0, .slice none 0 0] := by rw [hW0]; have := Blk.new (w.alloc (.cells #[.int .i64 kd, .int .i64 pl, .int .i64 nn, .slice a1 l1 c1, .slice a2 l2 c2, .int .i64 wa] 86)) #[.int .i64 0, .int .i64 0, .int .i64 0, .int .i64 0, .slice none 0 0, .slice none 0 0] 46; simpa using this
  clear hC hW0 hg hlo h1 h2 hl1 hl2 hnn s1 s2 hgb hpl
  go_enter Tryd.func53, Tryd.ntmps53
  go_wp2_with fail
  rw [← HW.out]
  refine (l1Once_any w0 a cap zs _ g _ (by decide) C0).mono ?_
  rintro e u1 ⟨t, rfl, C1, gg⟩
  have G1 := grown_trans G0 gg
  have X1 := X0.grown gg (by have := HGR.out; simp; omega)
  have R1 := R0.grown gg (by have := HGR.out; simp; omega)
  clear C0 G0 X0 R0 gg
  obtain ⟨x0, x1, x2, x3, x4, x5⟩ := X1.six
  cases t
  case true =>
    obtain ⟨r0, r1, r2, r3, r4, r5⟩ := R1.six
    have fr := R1.fro
    have Cd : Cur w0 a cap zs u1.drew g := C1.belowU (Below.refl _ _).drew
    have Gd : w.grownBy u1.drew (some g) := grown_trans G1 (grown_below (Below.refl _ _).drew (some g))
    have Xd := X1.below (Below.refl _ _).drew
    have Rd := R1.below (Below.refl _ _).drew
    go_wp2_with fail
    go_cut [] (fun wc => ∃ x : Int, Cur w0 a cap zs wc g ∧ w.grownBy wc (some g) ∧ Blk wc (w.heap.size + 1) 46 #[.int .i64 kd, .int .i64 (1 + x), .int .i64 0, .int .i64 0, .slice none 0 0, .slice none 0 0])
    case first =>
      refine wp_region_any (by kernel_rfl) ?_
      (try (change wpAny _ _ _ _ _ _ _ (World.drew _)))
      refine wpAny_take (i := 0) (v := ?v0) rfl (by kernel_rfl) (by kernel_rfl) (by kernel_rfl) (fun _ _ _ h => h) (Or.inl ⟨by rfl, ?h0⟩) ?_
      case h0 => intro w; go_simp; try (with_reducible rfl)
      refine wpAny_take (i := 2) (v := ?v2) rfl (by kernel_rfl) (by kernel_rfl) (by kernel_rfl) (fun _ _ _ h => h) (Or.inl ⟨by rfl, ?h2⟩) ?_
      case h2 => intro w; go_simp; try (with_reducible rfl)
      refine wpAny_ready (rs := [1, 3]) (by kernel_rfl) (by simp) ?_
      refine AllReady.cons rfl (fun K hK => ?_) ?_
      · skip
        go_simp
        refine hK _ _ ?_
        clear hK K
        refine wpAny_ready (rs := [3]) (by kernel_rfl) (by simp) ?_
        refine AllReady.cons rfl (fun K hK => ?_) AllReady.nil
        go_simp
        go_wp2_with (go_at_call 23; refine (l1Below_any w0 a cap zs _ g _ (by decide) Cd).mono ?_; rintro e u2 ⟨x, rfl, hx, C2, gg⟩; have hwx : IntKind.i64.wrap (1 + x) = 1 + x := (by rw [IntKind.wrap_i64]; omega); have G2 := grown_trans Gd gg; have X2 := Xd.grown gg (by have := HGR.out; simp; omega); have R2 := Rd.grown gg (by have := HGR.out; simp; omega); clear gg; obtain ⟨z0, z1, z2, z3, z4, z5⟩ := X2.six; obtain ⟨s0, s1, s2, s3, s4, s5⟩ := R2.six; have fs := R2.fro)
        try (refine hK _ _ ?_; clear hK K)
        refine wpAny_ready (rs := [4]) (by kernel_rfl) (by simp) ?_
        refine AllReady.cons rfl (fun K hK => ?_) AllReady.nil
        go_simp
        refine hK _ _ ?_
        clear hK K
        refine wpAny_ready (rs := [5]) (by kernel_rfl) (by simp) ?_
        refine AllReady.cons rfl (fun K hK => ?_) AllReady.nil
        go_simp
        refine hK _ _ ?_
        clear hK K
        refine wpAny_ready (rs := [6]) (by kernel_rfl) (by simp) ?_
        refine AllReady.cons rfl (fun K hK => ?_) AllReady.nil
        go_simp
        refine hK _ _ ?_
        clear hK K
        refine wpAny_done (by kernel_rfl) ?_ _
        (go_wp2_with fail; go_meet; exact ⟨x, st6_cur C2 (by have := HGR.out; omega) (by have := HGR.out; omega), st6_grown G2 (by omega), Blk.set6 R2⟩)
      refine AllReady.cons rfl (fun K hK => ?_) AllReady.nil
      go_simp
      go_wp2_with (go_at_call 23; refine (l1Below_any w0 a cap zs _ g _ (by decide) Cd).mono ?_; rintro e u2 ⟨x, rfl, hx, C2, gg⟩; have hwx : IntKind.i64.wrap (1 + x) = 1 + x := (by rw [IntKind.wrap_i64]; omega); have G2 := grown_trans Gd gg; have X2 := Xd.grown gg (by have := HGR.out; simp; omega); have R2 := Rd.grown gg (by have := HGR.out; simp; omega); clear gg; obtain ⟨z0, z1, z2, z3, z4, z5⟩ := X2.six; obtain ⟨s0, s1, s2, s3, s4, s5⟩ := R2.six; have fs := R2.fro)
      try (refine hK _ _ ?_; clear hK K)
      refine wpAny_take (i := 4) (v := ?v4) rfl (by kernel_rfl) (by kernel_rfl) (by kernel_rfl) (fun _ _ _ h => h) (Or.inl ⟨by rfl, ?h4⟩) ?_
      case h4 => intro w; go_simp; try (with_reducible rfl)
      refine wpAny_ready (rs := [1]) (by kernel_rfl) (by simp) ?_
      refine AllReady.cons rfl (fun K hK => ?_) AllReady.nil
      go_simp
      refine hK _ _ ?_
      clear hK K
      refine wpAny_ready (rs := [5]) (by kernel_rfl) (by simp) ?_
      refine AllReady.cons rfl (fun K hK => ?_) AllReady.nil
      go_simp
      refine hK _ _ ?_
      clear hK K
      refine wpAny_ready (rs := [6]) (by kernel_rfl) (by simp) ?_
      refine AllReady.cons rfl (fun K hK => ?_) AllReady.nil
      go_simp
      refine hK _ _ ?_
      clear hK K
      refine wpAny_done (by kernel_rfl) ?_ _
      (go_wp2_with fail; go_meet; exact ⟨x, st6_cur C2 (by have := HGR.out; omega) (by have := HGR.out; omega), st6_grown G2 (by omega), Blk.set6 R2⟩)
    case rest =>
      obtain ⟨x, C2, G2, R2⟩ := hcut
      obtain ⟨r0, r1, r2, r3, r4, r5⟩ := R2.six
      go_wp2
      refine bodyPost_ret (v := rp kd (1 + x) 0 0 none none 0 0 0 0) (by simp [results, Tryd.results53, go_sem, r0, r1, r2, r3, r4, r5]) rfl ?_
      exact ⟨_, _, _, _, _, _, _, _, _, _, [], [], rfl, rfl, rfl, by omega, by omega, ownI_nil _ _, ownB_nil _ _, C2, G2, ⟨by first | omega | (have := HE.out; omega), by first | omega | (have := HE.out; omega), by first | omega | (have := HE.out; omega), by first | omega | (have := HE.out; omega)⟩⟩
  by_cases hk1 : kd = 1
  case pos =>
    subst hk1
    obtain ⟨u3, hu3⟩ : ∃ u3, u3 = u1.alloc (.cells #[.int .i64 1, .int .i64 0, .int .i64 0, .int .i64 0, .slice none 0 0, .slice none 0 0] 46) := ⟨_, rfl⟩
    have HU : Hid (u3 = _) := hu3
    obtain ⟨B, hB⟩ : ∃ B, B = u1.heap.size := ⟨_, rfl⟩
    have HBe : Hid (B = u1.heap.size) := hB
    have HB : Hid (w.heap.size + 1 < B) := by show w.heap.size + 1 < B; have := R1.lt; omega
    have C4 : Cur w0 a cap zs u3 g := by rw [hu3]; exact C1.alloc _
    have G4 : w.grownBy u3 (some g) := by rw [hu3]; exact grown_trans G1 (World.grownBy_alloc _ _ _)
    have X4 : Blk u3 w.heap.size 86 #[.int .i64 1, .int .i64 pl, .int .i64 nn, .slice a1 l1 c1, .slice a2 l2 c2, .int .i64 wa] := by rw [hu3]; exact X1.below (bel_alloc _ _)
    have R4 : Blk u3 (w.heap.size + 1) 46 #[.int .i64 0, .int .i64 0, .int .i64 0, .int .i64 0, .slice none 0 0, .slice none 0 0] := by rw [hu3]; exact R1.below (bel_alloc _ _)
    have Q4 : Blk u3 B 46 #[.int .i64 1, .int .i64 0, .int .i64 0, .int .i64 0, .slice none 0 0, .slice none 0 0] := by rw [hu3, hB]; exact Blk.new _ _ _
    clear hu3 hB
    go_upto_region 4 with fail
    rw [← HU.out]
    simp only [← HBe.out]
    clear C1 G1 X1 R1 x0 x1 x2 x3 x4 x5
    obtain ⟨x0, x1, x2, x3, x4, x5⟩ := X4.six
    obtain ⟨m, hm⟩ : ∃ m : Nat, nn = (m : Int) := ⟨nn.toNat, by have := HE.out; omega⟩
    have HM : Hid (nn = (m : Int) ∧ m ≤ 900) := ⟨hm, by have := HE.out; omega⟩
    clear hm
    go_wp2_with fail
    refine (l2Bits_at w0 a cap zs _ g _ m HM.out.1 (by have := HM.out; omega) C4).mono ?_
    rintro e t5 ⟨a', c', us, rfl, hus, oj, C5, gg⟩
    have G5 := grown_trans G4 gg
    have R5 := R4.grown gg (by have := HGR.out; simp; omega)
    have X5 := X4.grown gg (by have := HGR.out; simp; omega)
    have Q5 := Q4.grown gg (by have := HGR.out; have := HB.out; simp; omega)
    clear C4 R4 Q4 X4 gg
    have J5 := OwnB.mono oj G4.size
    have HWs : Hid (m = us.length) := hus
    clear oj hus G4 x0 x1 x2 x3 x4 x5
    have qc := Q5.cell 5 rfl
    have qf := Q5.fro 5
    have Q6 := Q5.set 5 (.slice (some a') m c')
    have R6 := R5.setNe (g' := B) (j := 5) (y := .slice (some a') m c') (by have := HB.out; omega)
    have C6 := C5.setHi (G := B) (j := 5) (y := .slice (some a') m c') (by have := HB.out; have := HGR.out; omega) (by have := HB.out; have := HGR.out; omega)
    have G6 := grown_setHi (G := B) (j := 5) (y := .slice (some a') m c') G5 (by have := HB.out; omega)
    have J6 := row_setE (j := 5) (y := .slice (some a') m c') J5 ⟨_, Q5⟩ (by decide)
    go_wp2_with fail
    obtain ⟨v6, hv6⟩ : ∃ v6, v6 = t5.setCell ⟨B, 5, none⟩ (.slice (some a') m c') := ⟨_, rfl⟩
    rw [← hv6] at Q6 R6 C6 G6 J6 ⊢
    clear hv6 qc qf Q5 R5 X5 C5 G5 J5
    go_loopw [] (fun wr => ∃ (ad : Option Addr) (n' c' : Nat) (vs : List Bool), n' = vs.length ∧ n' ≤ 8 * ((m + 7) / 8) ∧ Blk wr B 46 #[.int .i64 1, .int .i64 0, .int .i64 0, .int .i64 0, .slice none 0 0, .slice ad n' c'] ∧ OwnB wr w.heap.size (.slice ad n' c') vs ∧ Cur w0 a cap zs wr g ∧ w.grownBy wr (some g) ∧ Blk wr (w.heap.size + 1) 46 #[.int .i64 0, .int .i64 0, .int .i64 0, .int .i64 0, .slice none 0 0, .slice none 0 0]) (fun wr => (8 - lenAt wr B % 8) % 8)
    case atStart => exact ⟨some a', m, c', us, HWs.out, by omega, Q6, J6, C6, G6, R6⟩
    case round =>
      obtain ⟨ad, n', c'', vs, hn', hb, Qr, Jr, Cr, Gr, Rr⟩ := hrel
      have HV : Hid (n' = vs.length ∧ n' ≤ 8 * ((m + 7) / 8)) := ⟨hn', hb⟩
      obtain ⟨q0, q1, q2, q3, q4, q5⟩ := Qr.six
      have hnb : (n' : Int) ≤ 908 := by have := HM.out; omega
      by_cases h8 : n' % 8 = 0
      · have h8b : ((n' : Int) % 8 != 0) = false := by simp; omega
        obtain ⟨y0, y1, y2, y3, y4, y5⟩ := Rr.six
        have fy := Rr.fro
        have HH : Hid (OwnB wr w.heap.size (.slice ad n' c'') vs ∧ Cur w0 a cap zs wr g ∧ w.grownBy wr (some g) ∧ Blk wr (w.heap.size + 1) 46 #[.int .i64 0, .int .i64 0, .int .i64 0, .int .i64 0, .slice none 0 0, .slice none 0 0]) := ⟨Jr, Cr, Gr, Rr⟩
        clear Jr Cr Gr Rr Qr hn' hb Q6 R6 C6 G6 J6
        go_wp2
        refine bodyPost_ret (v := rp 1 0 0 0 none ad 0 n' 0 c'') (by simp [results, Tryd.results53, go_sem, y0, y1, y2, y3, y4, y5]) rfl ?_
        obtain ⟨OB, CE, GE, RE⟩ := HH.out
        have hgR : g ≠ w.heap.size + 1 := by have := HGR.out; omega
        have hwR : w0.heap.size ≤ w.heap.size + 1 := by have := HGR.out; omega
        exact ⟨_, _, _, _, _, _, _, _, _, _, [], vs, rfl, rfl, HV.out.1, by omega, by omega, rowp_set6 (ownI_nil _ _) ⟨_, RE⟩ (by decide), rowp_set6 OB ⟨_, RE⟩ (by decide), st6_cur CE hgR hwR, st6_grown GE (by omega), ⟨by first | omega | (have := HE.out; omega), by first | omega | (have := HE.out; omega), by first | omega | (have := HE.out; omega), by first | omega | (have := HE.out; omega)⟩⟩
      · have h8b : ((n' : Int) % 8 != 0) = true := by simp; omega
        have q := bel_alloc wr (.cells #[.bool false] 4)
        have Q7 := Qr.below q
        have R7 := Rr.below q
        have J7 := Jr.below q
        have C7 := Cr.alloc (.cells #[.bool false] 4)
        have G7 : w.grownBy (wr.alloc (.cells #[.bool false] 4)) (some g) := grown_trans Gr (World.grownBy_alloc _ _ _)
        have SL : Hid (SlB (wr.alloc (.cells #[.bool false] 4)) (some ⟨wr.heap.size, 0, none⟩) [false]) := .inr ⟨wr.heap.size, 0, rfl, by simp, fun i hi => by match i, hi with | 0, _ => simp⟩
        have HLQ : Hid (vs.length + [false].length ≤ 4000000) := by show vs.length + [false].length ≤ 4000000; have := HV.out; simp; omega
        have hl0 : Hid (lenAt wr B = n') := by show lenAt wr B = n'; unfold lenAt; rw [q5]
        clear q Qr Rr Jr Cr Gr hn' hb Q6 R6 C6 G6 J6
        obtain ⟨k0, k1, k2, k3, k4, k5⟩ := Q7.six
        go_wp2_with (at_builtin; refine wpList_appBO rfl (.tmp 40) (.tmp 41) rfl w.heap.size (.slice ad n' c'') vs rfl J7 (some ⟨wr.heap.size, 0, none⟩) 1 1 [false] rfl rfl SL.out HLQ.out G7.size ?_; intro v' w' o8 gq; have Q8 := Q7.grown gq (row_noBlk J7 Q7 (by decide)); have R8 := R7.grown gq (row_noBlk J7 R7 (by decide)); have C8 := C7.rowG J7 gq HGR.out.1; have G8 := grown_rowG G7 J7 gq; obtain ⟨ad9, c9, n9, rfl, hn9⟩ := ownB_shape o8; have HN9 : Hid (n9 = (vs ++ [false]).length) := hn9; clear hn9 gq Q7 R7 C7 G7 J7 SL k0 k1 k2 k3 k4 k5 q0 q1 q2 q3 q4 q5; have qc := Q8.cell 5 rfl; have qf := Q8.fro 5)
        go_roundw
        case rel =>
          have Q9 := Q8.set 5 (.slice ad9 n9 c9)
          refine ⟨ad9, n9, c9, vs ++ [false], HN9.out, ?_, by simpa using Q9, row_setE o8 ⟨_, Q8⟩ (by decide), C8.setHi (by have := HB.out; have := HGR.out; omega) (by have := HB.out; have := HGR.out; omega), grown_setHi G8 (by have := HB.out; omega), R8.setNe (by have := HB.out; omega)⟩
          have h9 : n9 = vs.length + 1 := by have := HN9.out; simpa using this
          have := HV.out
          omega
        case measure =>
          have Q9 : (w'.setCell ⟨B, 5, none⟩ (.slice ad9 n9 c9)).cell? ⟨B, 5, none⟩ = some (.slice ad9 n9 c9) := (Q8.set 5 (.slice ad9 n9 c9)).cell 5 (by simp)
          have e : lenAt (w'.setCell ⟨B, 5, none⟩ (.slice ad9 n9 c9)) B = n9 := by unfold lenAt; rw [Q9]
          rw [e, hl0.out]
          have h9 : n9 = vs.length + 1 := by have := HN9.out; simpa using this
          have := HV.out
          omega
  by_cases hk2 : kd = 2
  case pos =>
    subst hk2
    obtain ⟨u3, hu3⟩ : ∃ u3, u3 = u1.alloc (.cells #[.int .i64 2, .int .i64 0, .int .i64 0, .int .i64 0, .slice none 0 0, .slice none 0 0] 46) := ⟨_, rfl⟩
    have HU : Hid (u3 = _) := hu3
    obtain ⟨B, hB⟩ : ∃ B, B = u1.heap.size := ⟨_, rfl⟩
    have HBe : Hid (B = u1.heap.size) := hB
    have HB : Hid (w.heap.size + 1 < B) := by show w.heap.size + 1 < B; have := R1.lt; omega
    have C4 : Cur w0 a cap zs u3 g := by rw [hu3]; exact C1.alloc _
    have G4 : w.grownBy u3 (some g) := by rw [hu3]; exact grown_trans G1 (World.grownBy_alloc _ _ _)
    have X4 : Blk u3 w.heap.size 86 #[.int .i64 2, .int .i64 pl, .int .i64 nn, .slice a1 l1 c1, .slice a2 l2 c2, .int .i64 wa] := by rw [hu3]; exact X1.below (bel_alloc _ _)
    have R4 : Blk u3 (w.heap.size + 1) 46 #[.int .i64 0, .int .i64 0, .int .i64 0, .int .i64 0, .slice none 0 0, .slice none 0 0] := by rw [hu3]; exact R1.below (bel_alloc _ _)
    have Q4 : Blk u3 B 46 #[.int .i64 2, .int .i64 0, .int .i64 0, .int .i64 0, .slice none 0 0, .slice none 0 0] := by rw [hu3, hB]; exact Blk.new _ _ _
    clear hu3 hB
    go_upto_region 4 with fail
    rw [← HU.out]
    simp only [← HBe.out]
    clear C1 G1 X1 R1 x0 x1 x2 x3 x4 x5
    obtain ⟨x0, x1, x2, x3, x4, x5⟩ := X4.six
    obtain ⟨m, hm⟩ : ∃ m : Nat, nn = (m : Int) := ⟨nn.toNat, by have := HE.out; omega⟩
    have HM : Hid (nn = (m : Int) ∧ m ≤ 900) := ⟨hm, by have := HE.out; omega⟩
    clear hm
    go_wp2_with fail
    refine (l2Bits_at w0 a cap zs _ g _ m HM.out.1 (by have := HM.out; omega) C4).mono ?_
    rintro e t5 ⟨a', c', us, rfl, hus, oj, C5, gg⟩
    have G5 := grown_trans G4 gg
    have R5 := R4.grown gg (by have := HGR.out; simp; omega)
    have X5 := X4.grown gg (by have := HGR.out; simp; omega)
    have Q5 := Q4.grown gg (by have := HGR.out; have := HB.out; simp; omega)
    clear C4 R4 Q4 X4 gg
    have J5 := OwnB.mono oj G4.size
    have HWs : Hid (m = us.length) := hus
    clear oj hus G4 x0 x1 x2 x3 x4 x5
    have qc := Q5.cell 5 rfl
    have qf := Q5.fro 5
    have Q6 := Q5.set 5 (.slice (some a') m c')
    have R6 := R5.setNe (g' := B) (j := 5) (y := .slice (some a') m c') (by have := HB.out; omega)
    have C6 := C5.setHi (G := B) (j := 5) (y := .slice (some a') m c') (by have := HB.out; have := HGR.out; omega) (by have := HB.out; have := HGR.out; omega)
    have G6 := grown_setHi (G := B) (j := 5) (y := .slice (some a') m c') G5 (by have := HB.out; omega)
    have J6 := row_setE (j := 5) (y := .slice (some a') m c') J5 ⟨_, Q5⟩ (by decide)
    go_wp2_with fail
    obtain ⟨v6, hv6⟩ : ∃ v6, v6 = t5.setCell ⟨B, 5, none⟩ (.slice (some a') m c') := ⟨_, rfl⟩
    rw [← hv6] at Q6 R6 C6 G6 J6 ⊢
    clear hv6 qc qf Q5 R5 X5 C5 G5 J5
    go_loopw [] (fun wr => ∃ (ad : Option Addr) (n' c' : Nat) (vs : List Bool), n' = vs.length ∧ n' ≤ 8 * ((m + 7) / 8) ∧ Blk wr B 46 #[.int .i64 2, .int .i64 0, .int .i64 0, .int .i64 0, .slice none 0 0, .slice ad n' c'] ∧ OwnB wr w.heap.size (.slice ad n' c') vs ∧ Cur w0 a cap zs wr g ∧ w.grownBy wr (some g) ∧ Blk wr (w.heap.size + 1) 46 #[.int .i64 0, .int .i64 0, .int .i64 0, .int .i64 0, .slice none 0 0, .slice none 0 0]) (fun wr => (8 - lenAt wr B % 8) % 8)
    case atStart => exact ⟨some a', m, c', us, HWs.out, by omega, Q6, J6, C6, G6, R6⟩
    case round =>
      obtain ⟨ad, n', c'', vs, hn', hb, Qr, Jr, Cr, Gr, Rr⟩ := hrel
      have HV : Hid (n' = vs.length ∧ n' ≤ 8 * ((m + 7) / 8)) := ⟨hn', hb⟩
      obtain ⟨q0, q1, q2, q3, q4, q5⟩ := Qr.six
      have hnb : (n' : Int) ≤ 908 := by have := HM.out; omega
      by_cases h8 : n' % 8 = 0
      · have h8b : ((n' : Int) % 8 != 0) = false := by simp; omega
        obtain ⟨y0, y1, y2, y3, y4, y5⟩ := Rr.six
        have fy := Rr.fro
        have HH : Hid (OwnB wr w.heap.size (.slice ad n' c'') vs ∧ Cur w0 a cap zs wr g ∧ w.grownBy wr (some g) ∧ Blk wr (w.heap.size + 1) 46 #[.int .i64 0, .int .i64 0, .int .i64 0, .int .i64 0, .slice none 0 0, .slice none 0 0]) := ⟨Jr, Cr, Gr, Rr⟩
        clear Jr Cr Gr Rr Qr hn' hb Q6 R6 C6 G6 J6
        go_wp2
        refine bodyPost_ret (v := rp 2 0 0 0 none ad 0 n' 0 c'') (by simp [results, Tryd.results53, go_sem, y0, y1, y2, y3, y4, y5]) rfl ?_
        obtain ⟨OB, CE, GE, RE⟩ := HH.out
        have hgR : g ≠ w.heap.size + 1 := by have := HGR.out; omega
        have hwR : w0.heap.size ≤ w.heap.size + 1 := by have := HGR.out; omega
        exact ⟨_, _, _, _, _, _, _, _, _, _, [], vs, rfl, rfl, HV.out.1, by omega, by omega, rowp_set6 (ownI_nil _ _) ⟨_, RE⟩ (by decide), rowp_set6 OB ⟨_, RE⟩ (by decide), st6_cur CE hgR hwR, st6_grown GE (by omega), ⟨by first | omega | (have := HE.out; omega), by first | omega | (have := HE.out; omega), by first | omega | (have := HE.out; omega), by first | omega | (have := HE.out; omega)⟩⟩
      · have h8b : ((n' : Int) % 8 != 0) = true := by simp; omega
        have q := bel_alloc wr (.cells #[.bool false] 4)
        have Q7 := Qr.below q
        have R7 := Rr.below q
        have J7 := Jr.below q
        have C7 := Cr.alloc (.cells #[.bool false] 4)
        have G7 : w.grownBy (wr.alloc (.cells #[.bool false] 4)) (some g) := grown_trans Gr (World.grownBy_alloc _ _ _)
        have SL : Hid (SlB (wr.alloc (.cells #[.bool false] 4)) (some ⟨wr.heap.size, 0, none⟩) [false]) := .inr ⟨wr.heap.size, 0, rfl, by simp, fun i hi => by match i, hi with | 0, _ => simp⟩
        have HLQ : Hid (vs.length + [false].length ≤ 4000000) := by show vs.length + [false].length ≤ 4000000; have := HV.out; simp; omega
        have hl0 : Hid (lenAt wr B = n') := by show lenAt wr B = n'; unfold lenAt; rw [q5]
        clear q Qr Rr Jr Cr Gr hn' hb Q6 R6 C6 G6 J6
        obtain ⟨k0, k1, k2, k3, k4, k5⟩ := Q7.six
        go_wp2_with (at_builtin; refine wpList_appBO rfl (.tmp 40) (.tmp 41) rfl w.heap.size (.slice ad n' c'') vs rfl J7 (some ⟨wr.heap.size, 0, none⟩) 1 1 [false] rfl rfl SL.out HLQ.out G7.size ?_; intro v' w' o8 gq; have Q8 := Q7.grown gq (row_noBlk J7 Q7 (by decide)); have R8 := R7.grown gq (row_noBlk J7 R7 (by decide)); have C8 := C7.rowG J7 gq HGR.out.1; have G8 := grown_rowG G7 J7 gq; obtain ⟨ad9, c9, n9, rfl, hn9⟩ := ownB_shape o8; have HN9 : Hid (n9 = (vs ++ [false]).length) := hn9; clear hn9 gq Q7 R7 C7 G7 J7 SL k0 k1 k2 k3 k4 k5 q0 q1 q2 q3 q4 q5; have qc := Q8.cell 5 rfl; have qf := Q8.fro 5)
        go_roundw
        case rel =>
          have Q9 := Q8.set 5 (.slice ad9 n9 c9)
          refine ⟨ad9, n9, c9, vs ++ [false], HN9.out, ?_, by simpa using Q9, row_setE o8 ⟨_, Q8⟩ (by decide), C8.setHi (by have := HB.out; have := HGR.out; omega) (by have := HB.out; have := HGR.out; omega), grown_setHi G8 (by have := HB.out; omega), R8.setNe (by have := HB.out; omega)⟩
          have h9 : n9 = vs.length + 1 := by have := HN9.out; simpa using this
          have := HV.out
          omega
        case measure =>
          have Q9 : (w'.setCell ⟨B, 5, none⟩ (.slice ad9 n9 c9)).cell? ⟨B, 5, none⟩ = some (.slice ad9 n9 c9) := (Q8.set 5 (.slice ad9 n9 c9)).cell 5 (by simp)
          have e : lenAt (w'.setCell ⟨B, 5, none⟩ (.slice ad9 n9 c9)) B = n9 := by unfold lenAt; rw [Q9]
          rw [e, hl0.out]
          have h9 : n9 = vs.length + 1 := by have := HN9.out; simpa using this
          have := HV.out
          omega
  by_cases hk3 : kd = 3
  case pos =>
    subst hk3
    obtain ⟨u3, hu3⟩ : ∃ u3, u3 = u1.alloc (.cells #[.int .i64 3, .int .i64 0, .int .i64 0, .int .i64 0, .slice none 0 0, .slice none 0 0] 46) := ⟨_, rfl⟩
    have HU : Hid (u3 = _) := hu3
    obtain ⟨B, hB⟩ : ∃ B, B = u1.heap.size := ⟨_, rfl⟩
    have HBe : Hid (B = u1.heap.size) := hB
    have HB : Hid (w.heap.size + 1 < B) := by show w.heap.size + 1 < B; have := R1.lt; omega
    have C4 : Cur w0 a cap zs u3 g := by rw [hu3]; exact C1.alloc _
    have G4 : w.grownBy u3 (some g) := by rw [hu3]; exact grown_trans G1 (World.grownBy_alloc _ _ _)
    have X4 : Blk u3 w.heap.size 86 #[.int .i64 3, .int .i64 pl, .int .i64 nn, .slice a1 l1 c1, .slice a2 l2 c2, .int .i64 wa] := by rw [hu3]; exact X1.below (bel_alloc _ _)
    have R4 : Blk u3 (w.heap.size + 1) 46 #[.int .i64 0, .int .i64 0, .int .i64 0, .int .i64 0, .slice none 0 0, .slice none 0 0] := by rw [hu3]; exact R1.below (bel_alloc _ _)
    have Q4 : Blk u3 B 46 #[.int .i64 3, .int .i64 0, .int .i64 0, .int .i64 0, .slice none 0 0, .slice none 0 0] := by rw [hu3, hB]; exact Blk.new _ _ _
    clear hu3 hB
    go_upto_region 4 with fail
    rw [← HU.out]
    simp only [← HBe.out]
    clear C1 G1 X1 R1 x0 x1 x2 x3 x4 x5
    obtain ⟨x0, x1, x2, x3, x4, x5⟩ := X4.six
    obtain ⟨m, hm⟩ : ∃ m : Nat, nn = (m : Int) := ⟨nn.toNat, by have := HE.out; omega⟩
    have HM : Hid (nn = (m : Int) ∧ m ≤ 900) := ⟨hm, by have := HE.out; omega⟩
    clear hm
    go_wp2_with fail
    refine (l3List_at w0 a cap zs _ g _ m HM.out.1 (by have := HM.out; omega) C4).mono ?_
    rintro e t5 ⟨a', c', us, rfl, hus, hrg, oi, C5, gg⟩
    have G5 := grown_trans G4 gg
    have R5 := R4.grown gg (by have := HGR.out; simp; omega)
    have X5 := X4.grown gg (by have := HGR.out; simp; omega)
    have Q5 := Q4.grown gg (by have := HGR.out; have := HB.out; simp; omega)
    clear C4 R4 Q4 X4 gg
    have I5 := OwnI.mono oi G4.size
    have HWs : Hid (m = us.length) := hus
    clear oi hus hrg G4
    have qc := Q5.cell 4 rfl
    have qf := Q5.fro 4
    have Q6 := Q5.set 4 (.slice a' m c')
    have R6 := R5.setNe (g' := B) (j := 4) (y := .slice a' m c') (by have := HB.out; omega)
    have X6 := X5.setNe (g' := B) (j := 4) (y := .slice a' m c') (by have := HB.out; omega)
    have C6 := C5.setHi (G := B) (j := 4) (y := .slice a' m c') (by have := HB.out; have := HGR.out; omega) (by have := HB.out; have := HGR.out; omega)
    have G6 := grown_setHi (G := B) (j := 4) (y := .slice a' m c') G5 (by have := HB.out; omega)
    have I6 := row_setE (j := 4) (y := .slice a' m c') I5 ⟨_, Q5⟩ (by decide)
    go_upto_region 26 with fail
    obtain ⟨v6, hv6⟩ : ∃ v6, v6 = t5.setCell ⟨B, 4, none⟩ (.slice a' m c') := ⟨_, rfl⟩
    rw [← hv6] at Q6 R6 X6 C6 G6 I6 ⊢
    clear hv6 qc qf Q5 R5 X5 C5 G5 I5
    clear x0 x1 x2 x3 x4 x5
    obtain ⟨x0, x1, x2, x3, x4, x5⟩ := X6.six
    obtain ⟨q0, q1, q2, q3, q4, q5⟩ := Q6.six
    obtain ⟨y0, y1, y2, y3, y4, y5⟩ := R6.six
    have fy := R6.fro
    have OI : OwnI v6 w.heap.size (.slice a' m c') us := I6
    have OB : OwnB v6 w.heap.size (.slice none 0 0) [] := (ownB_nil _ _)
    have HH : Hid (OwnI v6 w.heap.size (.slice a' m c') us ∧ OwnB v6 w.heap.size (.slice none 0 0) [] ∧ Cur w0 a cap zs v6 g ∧ w.grownBy v6 (some g) ∧ Blk v6 (w.heap.size + 1) 46 #[.int .i64 0, .int .i64 0, .int .i64 0, .int .i64 0, .slice none 0 0, .slice none 0 0]) := ⟨OI, OB, C6, G6, R6⟩
    clear OI OB C6 G6 R6 Q6 X6 x0 x1 x2 x3 x4 x5 I6
    go_wp2
    refine bodyPost_ret (v := rp (3) (0) (0) (0) a' none m 0 c' 0) (by simp [results, Tryd.results53, go_sem, y0, y1, y2, y3, y4, y5]) rfl ?_
    obtain ⟨OI, OB, CE, GE, RE⟩ := HH.out
    have hgR : g ≠ w.heap.size + 1 := by have := HGR.out; omega
    have hwR : w0.heap.size ≤ w.heap.size + 1 := by have := HGR.out; omega
    exact ⟨_, _, _, _, _, _, _, _, _, _, us, [], rfl, HWs.out, rfl, by first | omega | (have := HM.out; omega) | (have := HE.out; have := HNN.out; omega) | (have := HE.out; omega), by first | omega | (have := HM.out; omega) | (have := HE.out; have := HNN.out; omega) | (have := HE.out; omega), rowp_set6 OI ⟨_, RE⟩ (by decide), rowp_set6 OB ⟨_, RE⟩ (by decide), st6_cur CE hgR hwR, st6_grown GE (by omega), ⟨by first | omega | (have := HE.out; omega), by first | omega | (have := HE.out; omega), by first | omega | (have := HE.out; omega), by first | omega | (have := HE.out; omega)⟩⟩
  by_cases hk4 : kd = 4
  case pos =>
    subst hk4
    obtain ⟨u3, hu3⟩ : ∃ u3, u3 = u1.alloc (.cells #[.int .i64 4, .int .i64 0, .int .i64 0, .int .i64 0, .slice none 0 0, .slice none 0 0] 46) := ⟨_, rfl⟩
    have HU : Hid (u3 = _) := hu3
    obtain ⟨B, hB⟩ : ∃ B, B = u1.heap.size := ⟨_, rfl⟩
    have HBe : Hid (B = u1.heap.size) := hB
    have HB : Hid (w.heap.size + 1 < B) := by show w.heap.size + 1 < B; have := R1.lt; omega
    have C4 : Cur w0 a cap zs u3 g := by rw [hu3]; exact C1.alloc _
    have G4 : w.grownBy u3 (some g) := by rw [hu3]; exact grown_trans G1 (World.grownBy_alloc _ _ _)
    have X4 : Blk u3 w.heap.size 86 #[.int .i64 4, .int .i64 pl, .int .i64 nn, .slice a1 l1 c1, .slice a2 l2 c2, .int .i64 wa] := by rw [hu3]; exact X1.below (bel_alloc _ _)
    have R4 : Blk u3 (w.heap.size + 1) 46 #[.int .i64 0, .int .i64 0, .int .i64 0, .int .i64 0, .slice none 0 0, .slice none 0 0] := by rw [hu3]; exact R1.below (bel_alloc _ _)
    have Q4 : Blk u3 B 46 #[.int .i64 4, .int .i64 0, .int .i64 0, .int .i64 0, .slice none 0 0, .slice none 0 0] := by rw [hu3, hB]; exact Blk.new _ _ _
    clear hu3 hB
    go_upto_region 4 with fail
    rw [← HU.out]
    simp only [← HBe.out]
    clear C1 G1 X1 R1 x0 x1 x2 x3 x4 x5
    obtain ⟨x0, x1, x2, x3, x4, x5⟩ := X4.six
    obtain ⟨m, hm⟩ : ∃ m : Nat, nn = (m : Int) := ⟨nn.toNat, by have := HE.out; omega⟩
    have HM : Hid (nn = (m : Int) ∧ m ≤ 900) := ⟨hm, by have := HE.out; omega⟩
    clear hm
    go_wp2_with fail
    refine (l3List_at w0 a cap zs _ g _ m HM.out.1 (by have := HM.out; omega) C4).mono ?_
    rintro e t5 ⟨a', c', us, rfl, hus, hrg, oi, C5, gg⟩
    have G5 := grown_trans G4 gg
    have R5 := R4.grown gg (by have := HGR.out; simp; omega)
    have X5 := X4.grown gg (by have := HGR.out; simp; omega)
    have Q5 := Q4.grown gg (by have := HGR.out; have := HB.out; simp; omega)
    clear C4 R4 Q4 X4 gg
    have I5 := OwnI.mono oi G4.size
    have HWs : Hid (m = us.length) := hus
    clear oi hus hrg G4
    have qc := Q5.cell 4 rfl
    have qf := Q5.fro 4
    have Q6 := Q5.set 4 (.slice a' m c')
    have R6 := R5.setNe (g' := B) (j := 4) (y := .slice a' m c') (by have := HB.out; omega)
    have X6 := X5.setNe (g' := B) (j := 4) (y := .slice a' m c') (by have := HB.out; omega)
    have C6 := C5.setHi (G := B) (j := 4) (y := .slice a' m c') (by have := HB.out; have := HGR.out; omega) (by have := HB.out; have := HGR.out; omega)
    have G6 := grown_setHi (G := B) (j := 4) (y := .slice a' m c') G5 (by have := HB.out; omega)
    have I6 := row_setE (j := 4) (y := .slice a' m c') I5 ⟨_, Q5⟩ (by decide)
    go_upto_region 26 with fail
    obtain ⟨v6, hv6⟩ : ∃ v6, v6 = t5.setCell ⟨B, 4, none⟩ (.slice a' m c') := ⟨_, rfl⟩
    rw [← hv6] at Q6 R6 X6 C6 G6 I6 ⊢
    clear hv6 qc qf Q5 R5 X5 C5 G5 I5
    clear x0 x1 x2 x3 x4 x5
    obtain ⟨x0, x1, x2, x3, x4, x5⟩ := X6.six
    obtain ⟨q0, q1, q2, q3, q4, q5⟩ := Q6.six
    obtain ⟨y0, y1, y2, y3, y4, y5⟩ := R6.six
    have fy := R6.fro
    have OI : OwnI v6 w.heap.size (.slice a' m c') us := I6
    have OB : OwnB v6 w.heap.size (.slice none 0 0) [] := (ownB_nil _ _)
    have HH : Hid (OwnI v6 w.heap.size (.slice a' m c') us ∧ OwnB v6 w.heap.size (.slice none 0 0) [] ∧ Cur w0 a cap zs v6 g ∧ w.grownBy v6 (some g) ∧ Blk v6 (w.heap.size + 1) 46 #[.int .i64 0, .int .i64 0, .int .i64 0, .int .i64 0, .slice none 0 0, .slice none 0 0]) := ⟨OI, OB, C6, G6, R6⟩
    clear OI OB C6 G6 R6 Q6 X6 x0 x1 x2 x3 x4 x5 I6
    go_wp2
    refine bodyPost_ret (v := rp (4) (0) (0) (0) a' none m 0 c' 0) (by simp [results, Tryd.results53, go_sem, y0, y1, y2, y3, y4, y5]) rfl ?_
    obtain ⟨OI, OB, CE, GE, RE⟩ := HH.out
    have hgR : g ≠ w.heap.size + 1 := by have := HGR.out; omega
    have hwR : w0.heap.size ≤ w.heap.size + 1 := by have := HGR.out; omega
    exact ⟨_, _, _, _, _, _, _, _, _, _, us, [], rfl, HWs.out, rfl, by first | omega | (have := HM.out; omega) | (have := HE.out; have := HNN.out; omega) | (have := HE.out; omega), by first | omega | (have := HM.out; omega) | (have := HE.out; have := HNN.out; omega) | (have := HE.out; omega), rowp_set6 OI ⟨_, RE⟩ (by decide), rowp_set6 OB ⟨_, RE⟩ (by decide), st6_cur CE hgR hwR, st6_grown GE (by omega), ⟨by first | omega | (have := HE.out; omega), by first | omega | (have := HE.out; omega), by first | omega | (have := HE.out; omega), by first | omega | (have := HE.out; omega)⟩⟩
  by_cases hk23 : kd = 23
  case pos =>
    subst hk23
    obtain ⟨u3, hu3⟩ : ∃ u3, u3 = u1.alloc (.cells #[.int .i64 23, .int .i64 0, .int .i64 0, .int .i64 0, .slice none 0 0, .slice none 0 0] 46) := ⟨_, rfl⟩
    have HU : Hid (u3 = _) := hu3
    obtain ⟨B, hB⟩ : ∃ B, B = u1.heap.size := ⟨_, rfl⟩
    have HBe : Hid (B = u1.heap.size) := hB
    have HB : Hid (w.heap.size + 1 < B) := by show w.heap.size + 1 < B; have := R1.lt; omega
    have C4 : Cur w0 a cap zs u3 g := by rw [hu3]; exact C1.alloc _
    have G4 : w.grownBy u3 (some g) := by rw [hu3]; exact grown_trans G1 (World.grownBy_alloc _ _ _)
    have X4 : Blk u3 w.heap.size 86 #[.int .i64 23, .int .i64 pl, .int .i64 nn, .slice a1 l1 c1, .slice a2 l2 c2, .int .i64 wa] := by rw [hu3]; exact X1.below (bel_alloc _ _)
    have R4 : Blk u3 (w.heap.size + 1) 46 #[.int .i64 0, .int .i64 0, .int .i64 0, .int .i64 0, .slice none 0 0, .slice none 0 0] := by rw [hu3]; exact R1.below (bel_alloc _ _)
    have Q4 : Blk u3 B 46 #[.int .i64 23, .int .i64 0, .int .i64 0, .int .i64 0, .slice none 0 0, .slice none 0 0] := by rw [hu3, hB]; exact Blk.new _ _ _
    clear hu3 hB
    go_upto_region 4 with fail
    rw [← HU.out]
    simp only [← HBe.out]
    clear C1 G1 X1 R1 x0 x1 x2 x3 x4 x5
    obtain ⟨x0, x1, x2, x3, x4, x5⟩ := X4.six
    obtain ⟨m, hm⟩ : ∃ m : Nat, nn = (m : Int) := ⟨nn.toNat, by have := HE.out; omega⟩
    have HM : Hid (nn = (m : Int) ∧ m ≤ 900) := ⟨hm, by have := HE.out; omega⟩
    clear hm
    go_wp2_with fail
    refine (l3List_at w0 a cap zs _ g _ m HM.out.1 (by have := HM.out; omega) C4).mono ?_
    rintro e t5 ⟨a', c', us, rfl, hus, hrg, oi, C5, gg⟩
    have G5 := grown_trans G4 gg
    have R5 := R4.grown gg (by have := HGR.out; simp; omega)
    have X5 := X4.grown gg (by have := HGR.out; simp; omega)
    have Q5 := Q4.grown gg (by have := HGR.out; have := HB.out; simp; omega)
    clear C4 R4 Q4 X4 gg
    have I5 := OwnI.mono oi G4.size
    have HWs : Hid (m = us.length) := hus
    clear oi hus hrg G4
    have qc := Q5.cell 4 rfl
    have qf := Q5.fro 4
    have Q6 := Q5.set 4 (.slice a' m c')
    have R6 := R5.setNe (g' := B) (j := 4) (y := .slice a' m c') (by have := HB.out; omega)
    have X6 := X5.setNe (g' := B) (j := 4) (y := .slice a' m c') (by have := HB.out; omega)
    have C6 := C5.setHi (G := B) (j := 4) (y := .slice a' m c') (by have := HB.out; have := HGR.out; omega) (by have := HB.out; have := HGR.out; omega)
    have G6 := grown_setHi (G := B) (j := 4) (y := .slice a' m c') G5 (by have := HB.out; omega)
    have I6 := row_setE (j := 4) (y := .slice a' m c') I5 ⟨_, Q5⟩ (by decide)
    go_upto_region 26 with fail
    obtain ⟨v6, hv6⟩ : ∃ v6, v6 = t5.setCell ⟨B, 4, none⟩ (.slice a' m c') := ⟨_, rfl⟩
    rw [← hv6] at Q6 R6 X6 C6 G6 I6 ⊢
    clear hv6 qc qf Q5 R5 X5 C5 G5 I5
    clear x0 x1 x2 x3 x4 x5
    obtain ⟨x0, x1, x2, x3, x4, x5⟩ := X6.six
    obtain ⟨q0, q1, q2, q3, q4, q5⟩ := Q6.six
    obtain ⟨y0, y1, y2, y3, y4, y5⟩ := R6.six
    have fy := R6.fro
    have OI : OwnI v6 w.heap.size (.slice a' m c') us := I6
    have OB : OwnB v6 w.heap.size (.slice none 0 0) [] := (ownB_nil _ _)
    have HH : Hid (OwnI v6 w.heap.size (.slice a' m c') us ∧ OwnB v6 w.heap.size (.slice none 0 0) [] ∧ Cur w0 a cap zs v6 g ∧ w.grownBy v6 (some g) ∧ Blk v6 (w.heap.size + 1) 46 #[.int .i64 0, .int .i64 0, .int .i64 0, .int .i64 0, .slice none 0 0, .slice none 0 0]) := ⟨OI, OB, C6, G6, R6⟩
    clear OI OB C6 G6 R6 Q6 X6 x0 x1 x2 x3 x4 x5 I6
    go_wp2
    refine bodyPost_ret (v := rp (23) (0) (0) (0) a' none m 0 c' 0) (by simp [results, Tryd.results53, go_sem, y0, y1, y2, y3, y4, y5]) rfl ?_
    obtain ⟨OI, OB, CE, GE, RE⟩ := HH.out
    have hgR : g ≠ w.heap.size + 1 := by have := HGR.out; omega
    have hwR : w0.heap.size ≤ w.heap.size + 1 := by have := HGR.out; omega
    exact ⟨_, _, _, _, _, _, _, _, _, _, us, [], rfl, HWs.out, rfl, by first | omega | (have := HM.out; omega) | (have := HE.out; have := HNN.out; omega) | (have := HE.out; omega), by first | omega | (have := HM.out; omega) | (have := HE.out; have := HNN.out; omega) | (have := HE.out; omega), rowp_set6 OI ⟨_, RE⟩ (by decide), rowp_set6 OB ⟨_, RE⟩ (by decide), st6_cur CE hgR hwR, st6_grown GE (by omega), ⟨by first | omega | (have := HE.out; omega), by first | omega | (have := HE.out; omega), by first | omega | (have := HE.out; omega), by first | omega | (have := HE.out; omega)⟩⟩
  by_cases hk5 : kd = 5
  case pos =>
    subst hk5
    obtain ⟨u3, hu3⟩ : ∃ u3, u3 = u1.alloc (.cells #[.int .i64 5, .int .i64 0, .int .i64 0, .int .i64 0, .slice none 0 0, .slice none 0 0] 46) := ⟨_, rfl⟩
    have HU : Hid (u3 = _) := hu3
    obtain ⟨B, hB⟩ : ∃ B, B = u1.heap.size := ⟨_, rfl⟩
    have HBe : Hid (B = u1.heap.size) := hB
    have HB : Hid (w.heap.size + 1 < B) := by show w.heap.size + 1 < B; have := R1.lt; omega
    have C4 : Cur w0 a cap zs u3 g := by rw [hu3]; exact C1.alloc _
    have G4 : w.grownBy u3 (some g) := by rw [hu3]; exact grown_trans G1 (World.grownBy_alloc _ _ _)
    have X4 : Blk u3 w.heap.size 86 #[.int .i64 5, .int .i64 pl, .int .i64 nn, .slice a1 l1 c1, .slice a2 l2 c2, .int .i64 wa] := by rw [hu3]; exact X1.below (bel_alloc _ _)
    have R4 : Blk u3 (w.heap.size + 1) 46 #[.int .i64 0, .int .i64 0, .int .i64 0, .int .i64 0, .slice none 0 0, .slice none 0 0] := by rw [hu3]; exact R1.below (bel_alloc _ _)
    have Q4 : Blk u3 B 46 #[.int .i64 5, .int .i64 0, .int .i64 0, .int .i64 0, .slice none 0 0, .slice none 0 0] := by rw [hu3, hB]; exact Blk.new _ _ _
    clear hu3 hB
    go_upto_region 4 with fail
    rw [← HU.out]
    simp only [← HBe.out]
    clear C1 G1 X1 R1 x0 x1 x2 x3 x4 x5
    obtain ⟨x0, x1, x2, x3, x4, x5⟩ := X4.six
    have qc := Q4.cell 2 rfl
    have qf := Q4.fro 2
    have Q5 := Q4.set 2 (.int .i64 pl)
    have R5 := R4.setNe (g' := B) (j := 2) (y := .int .i64 pl) (by have := HB.out; omega)
    have X5 := X4.setNe (g' := B) (j := 2) (y := .int .i64 pl) (by have := HB.out; omega)
    have C5 := C4.setHi (G := B) (j := 2) (y := .int .i64 pl) (by have := HB.out; have := HGR.out; omega) (by have := HB.out; have := HGR.out; omega)
    have G5 := grown_setHi (G := B) (j := 2) (y := .int .i64 pl) G4 (by have := HB.out; omega)
    go_upto_region 18 with fail
    obtain ⟨v5, hv5⟩ : ∃ v5, v5 = u3.setCell ⟨B, 2, none⟩ (.int .i64 pl) := ⟨_, rfl⟩
    rw [← hv5] at Q5 R5 X5 C5 G5 ⊢
    clear hv5 qc qf Q4 R4 X4 C4 G4 
    clear x0 x1 x2 x3 x4 x5
    obtain ⟨x0, x1, x2, x3, x4, x5⟩ := X5.six
    have oL := newB v5 w.heap.size G5.size
    have q := bel_alloc v5 (.cells #[] 4)
    have Q20 := Q5.below q
    have R20 := R5.below q
    have X20 := X5.below q
    have C20 := C5.alloc (.cells #[] 4)
    have G20 : w.grownBy (v5.alloc (.cells #[] 4)) (some g) := grown_trans G5 (World.grownBy_alloc _ _ _)
    have oQ : OwnB (v5.alloc (.cells #[] 4)) base (.slice a2 l2 c2) bs := World.ownsRow.kept HS.out.2.1 G20 (row_ne_g HS.out.2.1 HS.out.2.2)
    have SQ := hide oQ.sl.2
    have HLQ : Hid (l2 = bs.length ∧ ([] : List Bool).length + bs.length ≤ 4000000) := by show _ ∧ _; have := HE.out; simp; omega
    have qc := Q20.cell 5 rfl
    have qf := Q20.fro 5
    clear oQ q
    obtain ⟨m0, m1, m2, m3, m4, m5⟩ := X20.six
    have hnX : ¬ w.heap.size = v5.heap.size := by have := X5.lt; omega
    have hnB : ¬ B = v5.heap.size := by have := Q5.lt; omega
    go_upto_region 26 with (at_builtin; refine wpList_appBO rfl (.tmp 58) (.tmp 60) rfl w.heap.size (.slice (some ⟨v5.heap.size, 0, none⟩) 0 0) [] rfl oL a2 l2 c2 bs rfl HLQ.out.1 SQ.out HLQ.out.2 G20.size ?_; intro v' w' o30 gq; rw [List.nil_append] at o30; have Q30 := Q20.grown gq (row_noBlk oL Q20 (by decide)); have R30 := R20.grown gq (row_noBlk oL R20 (by decide)); have X30 := X20.grown gq (row_noBlk oL X20 (by decide)); have C30 := C20.rowG oL gq HGR.out.1; have G30 := grown_rowG G20 oL gq; obtain ⟨a', c', n', rfl, hn'⟩ := ownB_shape o30; have HNN : Hid (n' = bs.length) := hn'; clear hn' gq oL Q20 R20 X20 C20 G20 qc qf SQ x0 x1 x2 x3 x4 x5 m0 m1 m2 m3 m4 m5 hnX hnB; have qc := Q30.cell 5 rfl; have qf := Q30.fro 5)
    have Q31 := Q30.set 5 (.slice a' n' c')
    have R31 := R30.setNe (g' := B) (j := 5) (y := .slice a' n' c') (by have := HB.out; omega)
    have X31 := X30.setNe (g' := B) (j := 5) (y := .slice a' n' c') (by have := HB.out; omega)
    have C31 := C30.setHi (G := B) (j := 5) (y := .slice a' n' c') (by have := HB.out; have := HGR.out; omega) (by have := HB.out; have := HGR.out; omega)
    have G31 := grown_setHi (G := B) (j := 5) (y := .slice a' n' c') G30 (by have := HB.out; omega)
    have J31 := row_setE (j := 5) (y := .slice a' n' c') o30 ⟨_, Q30⟩ (by decide)
    obtain ⟨v31, hv31⟩ : ∃ v31, v31 = w'.setCell ⟨B, 5, none⟩ (.slice a' n' c') := ⟨_, rfl⟩
    rw [← hv31] at Q31 R31 X31 C31 G31 J31 ⊢
    clear hv31 qc qf Q30 R30 X30 C30 G30 o30
    obtain ⟨x0, x1, x2, x3, x4, x5⟩ := X31.six
    obtain ⟨q0, q1, q2, q3, q4, q5⟩ := Q31.six
    obtain ⟨y0, y1, y2, y3, y4, y5⟩ := R31.six
    have fy := R31.fro
    have OI : OwnI v31 w.heap.size (.slice none 0 0) [] := (ownI_nil _ _)
    have OB : OwnB v31 w.heap.size (.slice a' n' c') bs := J31
    have HH : Hid (OwnI v31 w.heap.size (.slice none 0 0) [] ∧ OwnB v31 w.heap.size (.slice a' n' c') bs ∧ Cur w0 a cap zs v31 g ∧ w.grownBy v31 (some g) ∧ Blk v31 (w.heap.size + 1) 46 #[.int .i64 0, .int .i64 0, .int .i64 0, .int .i64 0, .slice none 0 0, .slice none 0 0]) := ⟨OI, OB, C31, G31, R31⟩
    clear OI OB C31 G31 R31 Q31 X31 x0 x1 x2 x3 x4 x5 J31
    go_wp2
    refine bodyPost_ret (v := rp (5) (0) (pl) (0) none a' 0 n' 0 c') (by simp [results, Tryd.results53, go_sem, y0, y1, y2, y3, y4, y5]) rfl ?_
    obtain ⟨OI, OB, CE, GE, RE⟩ := HH.out
    have hgR : g ≠ w.heap.size + 1 := by have := HGR.out; omega
    have hwR : w0.heap.size ≤ w.heap.size + 1 := by have := HGR.out; omega
    exact ⟨_, _, _, _, _, _, _, _, _, _, [], bs, rfl, rfl, HNN.out, by first | omega | (have := HM.out; omega) | (have := HE.out; have := HNN.out; omega) | (have := HE.out; omega), by first | omega | (have := HM.out; omega) | (have := HE.out; have := HNN.out; omega) | (have := HE.out; omega), rowp_set6 OI ⟨_, RE⟩ (by decide), rowp_set6 OB ⟨_, RE⟩ (by decide), st6_cur CE hgR hwR, st6_grown GE (by omega), ⟨by first | omega | (have := HE.out; omega), by first | omega | (have := HE.out; omega), by first | omega | (have := HE.out; omega), by first | omega | (have := HE.out; omega)⟩⟩
  by_cases hk6 : kd = 6
  case pos =>
    subst hk6
    obtain ⟨u3, hu3⟩ : ∃ u3, u3 = u1.alloc (.cells #[.int .i64 6, .int .i64 0, .int .i64 0, .int .i64 0, .slice none 0 0, .slice none 0 0] 46) := ⟨_, rfl⟩
    have HU : Hid (u3 = _) := hu3
    obtain ⟨B, hB⟩ : ∃ B, B = u1.heap.size := ⟨_, rfl⟩
    have HBe : Hid (B = u1.heap.size) := hB
    have HB : Hid (w.heap.size + 1 < B) := by show w.heap.size + 1 < B; have := R1.lt; omega
    have C4 : Cur w0 a cap zs u3 g := by rw [hu3]; exact C1.alloc _
    have G4 : w.grownBy u3 (some g) := by rw [hu3]; exact grown_trans G1 (World.grownBy_alloc _ _ _)
    have X4 : Blk u3 w.heap.size 86 #[.int .i64 6, .int .i64 pl, .int .i64 nn, .slice a1 l1 c1, .slice a2 l2 c2, .int .i64 wa] := by rw [hu3]; exact X1.below (bel_alloc _ _)
    have R4 : Blk u3 (w.heap.size + 1) 46 #[.int .i64 0, .int .i64 0, .int .i64 0, .int .i64 0, .slice none 0 0, .slice none 0 0] := by rw [hu3]; exact R1.below (bel_alloc _ _)
    have Q4 : Blk u3 B 46 #[.int .i64 6, .int .i64 0, .int .i64 0, .int .i64 0, .slice none 0 0, .slice none 0 0] := by rw [hu3, hB]; exact Blk.new _ _ _
    clear hu3 hB
    go_upto_region 4 with fail
    rw [← HU.out]
    simp only [← HBe.out]
    clear C1 G1 X1 R1 x0 x1 x2 x3 x4 x5
    obtain ⟨x0, x1, x2, x3, x4, x5⟩ := X4.six
    have qc := Q4.cell 2 rfl
    have qf := Q4.fro 2
    have Q5 := Q4.set 2 (.int .i64 pl)
    have R5 := R4.setNe (g' := B) (j := 2) (y := .int .i64 pl) (by have := HB.out; omega)
    have X5 := X4.setNe (g' := B) (j := 2) (y := .int .i64 pl) (by have := HB.out; omega)
    have C5 := C4.setHi (G := B) (j := 2) (y := .int .i64 pl) (by have := HB.out; have := HGR.out; omega) (by have := HB.out; have := HGR.out; omega)
    have G5 := grown_setHi (G := B) (j := 2) (y := .int .i64 pl) G4 (by have := HB.out; omega)
    go_upto_region 22 with fail
    obtain ⟨v5, hv5⟩ : ∃ v5, v5 = u3.setCell ⟨B, 2, none⟩ (.int .i64 pl) := ⟨_, rfl⟩
    rw [← hv5] at Q5 R5 X5 C5 G5 ⊢
    clear hv5 qc qf Q4 R4 X4 C4 G4 
    clear x0 x1 x2 x3 x4 x5
    obtain ⟨x0, x1, x2, x3, x4, x5⟩ := X5.six
    have oL := newI v5 w.heap.size G5.size
    have q := bel_alloc v5 (.cells #[] 3)
    have Q20 := Q5.below q
    have R20 := R5.below q
    have X20 := X5.below q
    have C20 := C5.alloc (.cells #[] 3)
    have G20 : w.grownBy (v5.alloc (.cells #[] 3)) (some g) := grown_trans G5 (World.grownBy_alloc _ _ _)
    have oQ : OwnI (v5.alloc (.cells #[] 3)) base (.slice a1 l1 c1) ws := World.ownsRow.kept HS.out.1 G20 (row_ne_g HS.out.1 HS.out.2.2)
    have SQ := hide oQ.sl.2
    have HLQ : Hid (l1 = ws.length ∧ ([] : List Int).length + ws.length ≤ 4000000) := by show _ ∧ _; have := HE.out; simp; omega
    have qc := Q20.cell 4 rfl
    have qf := Q20.fro 4
    clear oQ q
    obtain ⟨m0, m1, m2, m3, m4, m5⟩ := X20.six
    have hnX : ¬ w.heap.size = v5.heap.size := by have := X5.lt; omega
    have hnB : ¬ B = v5.heap.size := by have := Q5.lt; omega
    go_upto_region 26 with (at_builtin; refine wpList_appIO rfl (.tmp 69) (.tmp 71) rfl w.heap.size (.slice (some ⟨v5.heap.size, 0, none⟩) 0 0) [] rfl oL a1 l1 c1 ws rfl HLQ.out.1 SQ.out HLQ.out.2 G20.size ?_; intro v' w' o30 gq; rw [List.nil_append] at o30; have Q30 := Q20.grown gq (row_noBlk oL Q20 (by decide)); have R30 := R20.grown gq (row_noBlk oL R20 (by decide)); have X30 := X20.grown gq (row_noBlk oL X20 (by decide)); have C30 := C20.rowG oL gq HGR.out.1; have G30 := grown_rowG G20 oL gq; obtain ⟨a', c', n', rfl, hn'⟩ := ownI_shape o30; have HNN : Hid (n' = ws.length) := hn'; clear hn' gq oL Q20 R20 X20 C20 G20 qc qf SQ x0 x1 x2 x3 x4 x5 m0 m1 m2 m3 m4 m5 hnX hnB; have qc := Q30.cell 4 rfl; have qf := Q30.fro 4)
    have Q31 := Q30.set 4 (.slice a' n' c')
    have R31 := R30.setNe (g' := B) (j := 4) (y := .slice a' n' c') (by have := HB.out; omega)
    have X31 := X30.setNe (g' := B) (j := 4) (y := .slice a' n' c') (by have := HB.out; omega)
    have C31 := C30.setHi (G := B) (j := 4) (y := .slice a' n' c') (by have := HB.out; have := HGR.out; omega) (by have := HB.out; have := HGR.out; omega)
    have G31 := grown_setHi (G := B) (j := 4) (y := .slice a' n' c') G30 (by have := HB.out; omega)
    have I31 := row_setE (j := 4) (y := .slice a' n' c') o30 ⟨_, Q30⟩ (by decide)
    obtain ⟨v31, hv31⟩ : ∃ v31, v31 = w'.setCell ⟨B, 4, none⟩ (.slice a' n' c') := ⟨_, rfl⟩
    rw [← hv31] at Q31 R31 X31 C31 G31 I31 ⊢
    clear hv31 qc qf Q30 R30 X30 C30 G30 o30
    obtain ⟨x0, x1, x2, x3, x4, x5⟩ := X31.six
    obtain ⟨q0, q1, q2, q3, q4, q5⟩ := Q31.six
    obtain ⟨y0, y1, y2, y3, y4, y5⟩ := R31.six
    have fy := R31.fro
    have OI : OwnI v31 w.heap.size (.slice a' n' c') ws := I31
    have OB : OwnB v31 w.heap.size (.slice none 0 0) [] := (ownB_nil _ _)
    have HH : Hid (OwnI v31 w.heap.size (.slice a' n' c') ws ∧ OwnB v31 w.heap.size (.slice none 0 0) [] ∧ Cur w0 a cap zs v31 g ∧ w.grownBy v31 (some g) ∧ Blk v31 (w.heap.size + 1) 46 #[.int .i64 0, .int .i64 0, .int .i64 0, .int .i64 0, .slice none 0 0, .slice none 0 0]) := ⟨OI, OB, C31, G31, R31⟩
    clear OI OB C31 G31 R31 Q31 X31 x0 x1 x2 x3 x4 x5 I31
    go_wp2
    refine bodyPost_ret (v := rp (6) (0) (pl) (0) a' none n' 0 c' 0) (by simp [results, Tryd.results53, go_sem, y0, y1, y2, y3, y4, y5]) rfl ?_
    obtain ⟨OI, OB, CE, GE, RE⟩ := HH.out
    have hgR : g ≠ w.heap.size + 1 := by have := HGR.out; omega
    have hwR : w0.heap.size ≤ w.heap.size + 1 := by have := HGR.out; omega
    exact ⟨_, _, _, _, _, _, _, _, _, _, ws, [], rfl, HNN.out, rfl, by first | omega | (have := HM.out; omega) | (have := HE.out; have := HNN.out; omega) | (have := HE.out; omega), by first | omega | (have := HM.out; omega) | (have := HE.out; have := HNN.out; omega) | (have := HE.out; omega), rowp_set6 OI ⟨_, RE⟩ (by decide), rowp_set6 OB ⟨_, RE⟩ (by decide), st6_cur CE hgR hwR, st6_grown GE (by omega), ⟨by first | omega | (have := HE.out; omega), by first | omega | (have := HE.out; omega), by first | omega | (have := HE.out; omega), by first | omega | (have := HE.out; omega)⟩⟩
  by_cases hk22 : kd = 22
  case pos =>
    subst hk22
    obtain ⟨u3, hu3⟩ : ∃ u3, u3 = u1.alloc (.cells #[.int .i64 22, .int .i64 0, .int .i64 0, .int .i64 0, .slice none 0 0, .slice none 0 0] 46) := ⟨_, rfl⟩
    have HU : Hid (u3 = _) := hu3
    obtain ⟨B, hB⟩ : ∃ B, B = u1.heap.size := ⟨_, rfl⟩
    have HBe : Hid (B = u1.heap.size) := hB
    have HB : Hid (w.heap.size + 1 < B) := by show w.heap.size + 1 < B; have := R1.lt; omega
    have C4 : Cur w0 a cap zs u3 g := by rw [hu3]; exact C1.alloc _
    have G4 : w.grownBy u3 (some g) := by rw [hu3]; exact grown_trans G1 (World.grownBy_alloc _ _ _)
    have X4 : Blk u3 w.heap.size 86 #[.int .i64 22, .int .i64 pl, .int .i64 nn, .slice a1 l1 c1, .slice a2 l2 c2, .int .i64 wa] := by rw [hu3]; exact X1.below (bel_alloc _ _)
    have R4 : Blk u3 (w.heap.size + 1) 46 #[.int .i64 0, .int .i64 0, .int .i64 0, .int .i64 0, .slice none 0 0, .slice none 0 0] := by rw [hu3]; exact R1.below (bel_alloc _ _)
    have Q4 : Blk u3 B 46 #[.int .i64 22, .int .i64 0, .int .i64 0, .int .i64 0, .slice none 0 0, .slice none 0 0] := by rw [hu3, hB]; exact Blk.new _ _ _
    clear hu3 hB
    go_upto_region 4 with fail
    rw [← HU.out]
    simp only [← HBe.out]
    clear C1 G1 X1 R1 x0 x1 x2 x3 x4 x5
    obtain ⟨x0, x1, x2, x3, x4, x5⟩ := X4.six
    have qc := Q4.cell 2 rfl
    have qf := Q4.fro 2
    have Q5 := Q4.set 2 (.int .i64 pl)
    have R5 := R4.setNe (g' := B) (j := 2) (y := .int .i64 pl) (by have := HB.out; omega)
    have X5 := X4.setNe (g' := B) (j := 2) (y := .int .i64 pl) (by have := HB.out; omega)
    have C5 := C4.setHi (G := B) (j := 2) (y := .int .i64 pl) (by have := HB.out; have := HGR.out; omega) (by have := HB.out; have := HGR.out; omega)
    have G5 := grown_setHi (G := B) (j := 2) (y := .int .i64 pl) G4 (by have := HB.out; omega)
    go_upto_region 22 with fail
    obtain ⟨v5, hv5⟩ : ∃ v5, v5 = u3.setCell ⟨B, 2, none⟩ (.int .i64 pl) := ⟨_, rfl⟩
    rw [← hv5] at Q5 R5 X5 C5 G5 ⊢
    clear hv5 qc qf Q4 R4 X4 C4 G4 
    clear x0 x1 x2 x3 x4 x5
    obtain ⟨x0, x1, x2, x3, x4, x5⟩ := X5.six
    have oL := newI v5 w.heap.size G5.size
    have q := bel_alloc v5 (.cells #[] 3)
    have Q20 := Q5.below q
    have R20 := R5.below q
    have X20 := X5.below q
    have C20 := C5.alloc (.cells #[] 3)
    have G20 : w.grownBy (v5.alloc (.cells #[] 3)) (some g) := grown_trans G5 (World.grownBy_alloc _ _ _)
    have oQ : OwnI (v5.alloc (.cells #[] 3)) base (.slice a1 l1 c1) ws := World.ownsRow.kept HS.out.1 G20 (row_ne_g HS.out.1 HS.out.2.2)
    have SQ := hide oQ.sl.2
    have HLQ : Hid (l1 = ws.length ∧ ([] : List Int).length + ws.length ≤ 4000000) := by show _ ∧ _; have := HE.out; simp; omega
    have qc := Q20.cell 4 rfl
    have qf := Q20.fro 4
    clear oQ q
    obtain ⟨m0, m1, m2, m3, m4, m5⟩ := X20.six
    have hnX : ¬ w.heap.size = v5.heap.size := by have := X5.lt; omega
    have hnB : ¬ B = v5.heap.size := by have := Q5.lt; omega
    go_upto_region 26 with (at_builtin; refine wpList_appIO rfl (.tmp 69) (.tmp 71) rfl w.heap.size (.slice (some ⟨v5.heap.size, 0, none⟩) 0 0) [] rfl oL a1 l1 c1 ws rfl HLQ.out.1 SQ.out HLQ.out.2 G20.size ?_; intro v' w' o30 gq; rw [List.nil_append] at o30; have Q30 := Q20.grown gq (row_noBlk oL Q20 (by decide)); have R30 := R20.grown gq (row_noBlk oL R20 (by decide)); have X30 := X20.grown gq (row_noBlk oL X20 (by decide)); have C30 := C20.rowG oL gq HGR.out.1; have G30 := grown_rowG G20 oL gq; obtain ⟨a', c', n', rfl, hn'⟩ := ownI_shape o30; have HNN : Hid (n' = ws.length) := hn'; clear hn' gq oL Q20 R20 X20 C20 G20 qc qf SQ x0 x1 x2 x3 x4 x5 m0 m1 m2 m3 m4 m5 hnX hnB; have qc := Q30.cell 4 rfl; have qf := Q30.fro 4)
    have Q31 := Q30.set 4 (.slice a' n' c')
    have R31 := R30.setNe (g' := B) (j := 4) (y := .slice a' n' c') (by have := HB.out; omega)
    have X31 := X30.setNe (g' := B) (j := 4) (y := .slice a' n' c') (by have := HB.out; omega)
    have C31 := C30.setHi (G := B) (j := 4) (y := .slice a' n' c') (by have := HB.out; have := HGR.out; omega) (by have := HB.out; have := HGR.out; omega)
    have G31 := grown_setHi (G := B) (j := 4) (y := .slice a' n' c') G30 (by have := HB.out; omega)
    have I31 := row_setE (j := 4) (y := .slice a' n' c') o30 ⟨_, Q30⟩ (by decide)
    obtain ⟨v31, hv31⟩ : ∃ v31, v31 = w'.setCell ⟨B, 4, none⟩ (.slice a' n' c') := ⟨_, rfl⟩
    rw [← hv31] at Q31 R31 X31 C31 G31 I31 ⊢
    clear hv31 qc qf Q30 R30 X30 C30 G30 o30
    obtain ⟨x0, x1, x2, x3, x4, x5⟩ := X31.six
    obtain ⟨q0, q1, q2, q3, q4, q5⟩ := Q31.six
    obtain ⟨y0, y1, y2, y3, y4, y5⟩ := R31.six
    have fy := R31.fro
    have OI : OwnI v31 w.heap.size (.slice a' n' c') ws := I31
    have OB : OwnB v31 w.heap.size (.slice none 0 0) [] := (ownB_nil _ _)
    have HH : Hid (OwnI v31 w.heap.size (.slice a' n' c') ws ∧ OwnB v31 w.heap.size (.slice none 0 0) [] ∧ Cur w0 a cap zs v31 g ∧ w.grownBy v31 (some g) ∧ Blk v31 (w.heap.size + 1) 46 #[.int .i64 0, .int .i64 0, .int .i64 0, .int .i64 0, .slice none 0 0, .slice none 0 0]) := ⟨OI, OB, C31, G31, R31⟩
    clear OI OB C31 G31 R31 Q31 X31 x0 x1 x2 x3 x4 x5 I31
    go_wp2
    refine bodyPost_ret (v := rp (22) (0) (pl) (0) a' none n' 0 c' 0) (by simp [results, Tryd.results53, go_sem, y0, y1, y2, y3, y4, y5]) rfl ?_
    obtain ⟨OI, OB, CE, GE, RE⟩ := HH.out
    have hgR : g ≠ w.heap.size + 1 := by have := HGR.out; omega
    have hwR : w0.heap.size ≤ w.heap.size + 1 := by have := HGR.out; omega
    exact ⟨_, _, _, _, _, _, _, _, _, _, ws, [], rfl, HNN.out, rfl, by first | omega | (have := HM.out; omega) | (have := HE.out; have := HNN.out; omega) | (have := HE.out; omega), by first | omega | (have := HM.out; omega) | (have := HE.out; have := HNN.out; omega) | (have := HE.out; omega), rowp_set6 OI ⟨_, RE⟩ (by decide), rowp_set6 OB ⟨_, RE⟩ (by decide), st6_cur CE hgR hwR, st6_grown GE (by omega), ⟨by first | omega | (have := HE.out; omega), by first | omega | (have := HE.out; omega), by first | omega | (have := HE.out; omega), by first | omega | (have := HE.out; omega)⟩⟩
  by_cases hk15 : kd = 15
  case pos =>
    subst hk15
    obtain ⟨u3, hu3⟩ : ∃ u3, u3 = u1.alloc (.cells #[.int .i64 15, .int .i64 0, .int .i64 0, .int .i64 0, .slice none 0 0, .slice none 0 0] 46) := ⟨_, rfl⟩
    have HU : Hid (u3 = _) := hu3
    obtain ⟨B, hB⟩ : ∃ B, B = u1.heap.size := ⟨_, rfl⟩
    have HBe : Hid (B = u1.heap.size) := hB
    have HB : Hid (w.heap.size + 1 < B) := by show w.heap.size + 1 < B; have := R1.lt; omega
    have C4 : Cur w0 a cap zs u3 g := by rw [hu3]; exact C1.alloc _
    have G4 : w.grownBy u3 (some g) := by rw [hu3]; exact grown_trans G1 (World.grownBy_alloc _ _ _)
    have X4 : Blk u3 w.heap.size 86 #[.int .i64 15, .int .i64 pl, .int .i64 nn, .slice a1 l1 c1, .slice a2 l2 c2, .int .i64 wa] := by rw [hu3]; exact X1.below (bel_alloc _ _)
    have R4 : Blk u3 (w.heap.size + 1) 46 #[.int .i64 0, .int .i64 0, .int .i64 0, .int .i64 0, .slice none 0 0, .slice none 0 0] := by rw [hu3]; exact R1.below (bel_alloc _ _)
    have Q4 : Blk u3 B 46 #[.int .i64 15, .int .i64 0, .int .i64 0, .int .i64 0, .slice none 0 0, .slice none 0 0] := by rw [hu3, hB]; exact Blk.new _ _ _
    clear hu3 hB
    go_upto_region 4 with fail
    rw [← HU.out]
    simp only [← HBe.out]
    clear C1 G1 X1 R1 x0 x1 x2 x3 x4 x5
    obtain ⟨x0, x1, x2, x3, x4, x5⟩ := X4.six
    have qc := Q4.cell 2 rfl
    have qf := Q4.fro 2
    have Q5 := Q4.set 2 (.int .i64 pl)
    have R5 := R4.setNe (g' := B) (j := 2) (y := .int .i64 pl) (by have := HB.out; omega)
    have X5 := X4.setNe (g' := B) (j := 2) (y := .int .i64 pl) (by have := HB.out; omega)
    have C5 := C4.setHi (G := B) (j := 2) (y := .int .i64 pl) (by have := HB.out; have := HGR.out; omega) (by have := HB.out; have := HGR.out; omega)
    have G5 := grown_setHi (G := B) (j := 2) (y := .int .i64 pl) G4 (by have := HB.out; omega)
    go_upto_region 25 with fail
    obtain ⟨v5, hv5⟩ : ∃ v5, v5 = u3.setCell ⟨B, 2, none⟩ (.int .i64 pl) := ⟨_, rfl⟩
    rw [← hv5] at Q5 R5 X5 C5 G5 ⊢
    clear hv5 qc qf Q4 R4 X4 C4 G4 
    clear x0 x1 x2 x3 x4 x5
    obtain ⟨x0, x1, x2, x3, x4, x5⟩ := X5.six
    have qc := Q5.cell 3 rfl
    have qf := Q5.fro 3
    have Q6 := Q5.set 3 (.int .i64 (l2 : Int))
    have R6 := R5.setNe (g' := B) (j := 3) (y := .int .i64 (l2 : Int)) (by have := HB.out; omega)
    have X6 := X5.setNe (g' := B) (j := 3) (y := .int .i64 (l2 : Int)) (by have := HB.out; omega)
    have C6 := C5.setHi (G := B) (j := 3) (y := .int .i64 (l2 : Int)) (by have := HB.out; have := HGR.out; omega) (by have := HB.out; have := HGR.out; omega)
    have G6 := grown_setHi (G := B) (j := 3) (y := .int .i64 (l2 : Int)) G5 (by have := HB.out; omega)
    go_upto_region 26 with fail
    obtain ⟨v6, hv6⟩ : ∃ v6, v6 = v5.setCell ⟨B, 3, none⟩ (.int .i64 (l2 : Int)) := ⟨_, rfl⟩
    rw [← hv6] at Q6 R6 X6 C6 G6 ⊢
    clear hv6 qc qf Q5 R5 X5 C5 G5 
    clear x0 x1 x2 x3 x4 x5
    obtain ⟨x0, x1, x2, x3, x4, x5⟩ := X6.six
    obtain ⟨q0, q1, q2, q3, q4, q5⟩ := Q6.six
    obtain ⟨y0, y1, y2, y3, y4, y5⟩ := R6.six
    have fy := R6.fro
    have OI : OwnI v6 w.heap.size (.slice none 0 0) [] := (ownI_nil _ _)
    have OB : OwnB v6 w.heap.size (.slice none 0 0) [] := (ownB_nil _ _)
    have HH : Hid (OwnI v6 w.heap.size (.slice none 0 0) [] ∧ OwnB v6 w.heap.size (.slice none 0 0) [] ∧ Cur w0 a cap zs v6 g ∧ w.grownBy v6 (some g) ∧ Blk v6 (w.heap.size + 1) 46 #[.int .i64 0, .int .i64 0, .int .i64 0, .int .i64 0, .slice none 0 0, .slice none 0 0]) := ⟨OI, OB, C6, G6, R6⟩
    clear OI OB C6 G6 R6 Q6 X6 x0 x1 x2 x3 x4 x5 
    go_wp2
    refine bodyPost_ret (v := rp (15) (0) (pl) ((l2 : Int)) none none 0 0 0 0) (by simp [results, Tryd.results53, go_sem, y0, y1, y2, y3, y4, y5]) rfl ?_
    obtain ⟨OI, OB, CE, GE, RE⟩ := HH.out
    have hgR : g ≠ w.heap.size + 1 := by have := HGR.out; omega
    have hwR : w0.heap.size ≤ w.heap.size + 1 := by have := HGR.out; omega
    exact ⟨_, _, _, _, _, _, _, _, _, _, [], [], rfl, rfl, rfl, by first | omega | (have := HM.out; omega) | (have := HE.out; have := HNN.out; omega) | (have := HE.out; omega), by first | omega | (have := HM.out; omega) | (have := HE.out; have := HNN.out; omega) | (have := HE.out; omega), rowp_set6 OI ⟨_, RE⟩ (by decide), rowp_set6 OB ⟨_, RE⟩ (by decide), st6_cur CE hgR hwR, st6_grown GE (by omega), ⟨by first | omega | (have := HE.out; omega), by first | omega | (have := HE.out; omega), by first | omega | (have := HE.out; omega), by first | omega | (have := HE.out; omega)⟩⟩
  have hb1 : (kd == 1) = false := by simpa using hk1
  have hb2 : (kd == 2) = false := by simpa using hk2
  have hb3 : (kd == 3) = false := by simpa using hk3
  have hb4 : (kd == 4) = false := by simpa using hk4
  have hb23 : (kd == 23) = false := by simpa using hk23
  have hb5 : (kd == 5) = false := by simpa using hk5
  have hb6 : (kd == 6) = false := by simpa using hk6
  have hb22 : (kd == 22) = false := by simpa using hk22
  have hb15 : (kd == 15) = false := by simpa using hk15
  obtain ⟨u3, hu3⟩ : ∃ u3, u3 = u1.alloc (.cells #[.int .i64 kd, .int .i64 0, .int .i64 0, .int .i64 0, .slice none 0 0, .slice none 0 0] 46) := ⟨_, rfl⟩
  have HU : Hid (u3 = _) := hu3
  obtain ⟨B, hB⟩ : ∃ B, B = u1.heap.size := ⟨_, rfl⟩
  have HBe : Hid (B = u1.heap.size) := hB
  have HB : Hid (w.heap.size + 1 < B) := by show w.heap.size + 1 < B; have := R1.lt; omega
  have C4 : Cur w0 a cap zs u3 g := by rw [hu3]; exact C1.alloc _
  have G4 : w.grownBy u3 (some g) := by rw [hu3]; exact grown_trans G1 (World.grownBy_alloc _ _ _)
  have X4 : Blk u3 w.heap.size 86 #[.int .i64 kd, .int .i64 pl, .int .i64 nn, .slice a1 l1 c1, .slice a2 l2 c2, .int .i64 wa] := by rw [hu3]; exact X1.below (bel_alloc _ _)
  have R4 : Blk u3 (w.heap.size + 1) 46 #[.int .i64 0, .int .i64 0, .int .i64 0, .int .i64 0, .slice none 0 0, .slice none 0 0] := by rw [hu3]; exact R1.below (bel_alloc _ _)
  have Q4 : Blk u3 B 46 #[.int .i64 kd, .int .i64 0, .int .i64 0, .int .i64 0, .slice none 0 0, .slice none 0 0] := by rw [hu3, hB]; exact Blk.new _ _ _
  clear hu3 hB
  go_upto_region 4 with fail
  rw [← HU.out]
  simp only [← HBe.out]
  clear C1 G1 X1 R1 x0 x1 x2 x3 x4 x5
  obtain ⟨x0, x1, x2, x3, x4, x5⟩ := X4.six
  have qc := Q4.cell 2 rfl
  have qf := Q4.fro 2
  have Q5 := Q4.set 2 (.int .i64 pl)
  have R5 := R4.setNe (g' := B) (j := 2) (y := .int .i64 pl) (by have := HB.out; omega)
  have X5 := X4.setNe (g' := B) (j := 2) (y := .int .i64 pl) (by have := HB.out; omega)
  have C5 := C4.setHi (G := B) (j := 2) (y := .int .i64 pl) (by have := HB.out; have := HGR.out; omega) (by have := HB.out; have := HGR.out; omega)
  have G5 := grown_setHi (G := B) (j := 2) (y := .int .i64 pl) G4 (by have := HB.out; omega)
  go_upto_region 6 with fail
  obtain ⟨v5, hv5⟩ : ∃ v5, v5 = u3.setCell ⟨B, 2, none⟩ (.int .i64 pl) := ⟨_, rfl⟩
  rw [← hv5] at Q5 R5 X5 C5 G5 ⊢
  clear hv5 qc qf Q4 R4 X4 C4 G4 
  clear x0 x1 x2 x3 x4 x5
  obtain ⟨x0, x1, x2, x3, x4, x5⟩ := X5.six
  have qc := Q5.cell 3 rfl
  have qf := Q5.fro 3
  have Q6 := Q5.set 3 (.int .i64 (l1 : Int))
  have R6 := R5.setNe (g' := B) (j := 3) (y := .int .i64 (l1 : Int)) (by have := HB.out; omega)
  have X6 := X5.setNe (g' := B) (j := 3) (y := .int .i64 (l1 : Int)) (by have := HB.out; omega)
  have C6 := C5.setHi (G := B) (j := 3) (y := .int .i64 (l1 : Int)) (by have := HB.out; have := HGR.out; omega) (by have := HB.out; have := HGR.out; omega)
  have G6 := grown_setHi (G := B) (j := 3) (y := .int .i64 (l1 : Int)) G5 (by have := HB.out; omega)
  go_upto_region 26 with fail
  obtain ⟨v6, hv6⟩ : ∃ v6, v6 = v5.setCell ⟨B, 3, none⟩ (.int .i64 (l1 : Int)) := ⟨_, rfl⟩
  rw [← hv6] at Q6 R6 X6 C6 G6 ⊢
  clear hv6 qc qf Q5 R5 X5 C5 G5 
  clear x0 x1 x2 x3 x4 x5
  obtain ⟨x0, x1, x2, x3, x4, x5⟩ := X6.six
  obtain ⟨q0, q1, q2, q3, q4, q5⟩ := Q6.six
  obtain ⟨y0, y1, y2, y3, y4, y5⟩ := R6.six
  have fy := R6.fro
  have OI : OwnI v6 w.heap.size (.slice none 0 0) [] := (ownI_nil _ _)
  have OB : OwnB v6 w.heap.size (.slice none 0 0) [] := (ownB_nil _ _)
  have HH : Hid (OwnI v6 w.heap.size (.slice none 0 0) [] ∧ OwnB v6 w.heap.size (.slice none 0 0) [] ∧ Cur w0 a cap zs v6 g ∧ w.grownBy v6 (some g) ∧ Blk v6 (w.heap.size + 1) 46 #[.int .i64 0, .int .i64 0, .int .i64 0, .int .i64 0, .slice none 0 0, .slice none 0 0]) := ⟨OI, OB, C6, G6, R6⟩
  clear OI OB C6 G6 R6 Q6 X6 x0 x1 x2 x3 x4 x5 
  go_wp2
  refine bodyPost_ret (v := rp (kd) (0) (pl) ((l1 : Int)) none none 0 0 0 0) (by simp [results, Tryd.results53, go_sem, y0, y1, y2, y3, y4, y5]) rfl ?_
  obtain ⟨OI, OB, CE, GE, RE⟩ := HH.out
  have hgR : g ≠ w.heap.size + 1 := by have := HGR.out; omega
  have hwR : w0.heap.size ≤ w.heap.size + 1 := by have := HGR.out; omega
  exact ⟨_, _, _, _, _, _, _, _, _, _, [], [], rfl, rfl, rfl, by first | omega | (have := HM.out; omega) | (have := HE.out; have := HNN.out; omega) | (have := HE.out; omega), by first | omega | (have := HM.out; omega) | (have := HE.out; have := HNN.out; omega) | (have := HE.out; omega), rowp_set6 OI ⟨_, RE⟩ (by decide), rowp_set6 OB ⟨_, RE⟩ (by decide), st6_cur CE hgR hwR, st6_grown GE (by omega), ⟨by first | omega | (have := HE.out; omega), by first | omega | (have := HE.out; omega), by first | omega | (have := HE.out; omega), by first | omega | (have := HE.out; omega)⟩⟩

end Go.Proofs.YtoofkikenfgbpaaDoor

namespace Go.Proofs.YtoofkikenfgbpaaDoor
open Go.RowKit

set_option linter.unusedVariables false

set_option linter.unusedSimpArgs false

set_option maxRecDepth 20000 in
set_option maxHeartbeats 16000000 in
theorem l4Bend_any (w0 : World) (a : Option Addr) (cap : Nat) (zs : List Int) (w : World) (g : Nat) (kd fl pl nn : Int) (a1 a2 : Option Addr) (l1 l2 c1 c2 : Nat) (ws : List Int) (bs : List Bool) (base : Nat) (h1 : l1 = ws.length) (h2 : l2 = bs.length) (hl1 : l1 ≤ 1000) (hl2 : l2 ≤ 10000) (hpn : 0 ≤ pl ∧ pl ≤ 65535 ∧ 0 ≤ nn ∧ nn ≤ 2900) (hgb : g < base) (hbw : base ≤ w.heap.size) (o1 : OwnI w base (.slice a1 l1 c1) ws) (o2 : OwnB w base (.slice a2 l2 c2) bs) (hC : Cur w0 a cap zs w g) :
    Calls Tryd.prog 54 #[.pointer (some ⟨g, 0, none⟩), rp kd fl pl nn a1 a2 l1 l2 c1 c2] w fun e w' => RespAt w0 a cap zs base (l1 + 1) (l2 + 1) w g e w' := by
  obtain ⟨W0, hW0⟩ : ∃ W0, W0 = (w.alloc (.cells #[.int .i64 kd, .int .i64 fl, .int .i64 pl, .int .i64 nn, .slice a1 l1 c1, .slice a2 l2 c2] 46)).alloc (.cells #[.int .i64 0, .int .i64 0, .int .i64 0, .int .i64 0, .slice none 0 0, .slice none 0 0] 46) := ⟨_, rfl⟩
  have HW : Hid (W0 = _) := hW0
  have bw : Below w.heap.size w W0 := by rw [hW0]; exact bel_next (bel_alloc w _) (bel_alloc _ _)
  have C0 : Cur w0 a cap zs W0 g := by rw [hW0]; exact (hC.alloc _).alloc _
  have G0 : w.grownBy W0 (some g) := grown_below bw _
  have Q0 : Blk W0 w.heap.size 46 #[.int .i64 kd, .int .i64 fl, .int .i64 pl, .int .i64 nn, .slice a1 l1 c1, .slice a2 l2 c2] := by rw [hW0]; exact (Blk.new w _ _).below (bel_alloc _ _)
  have R0 : Blk W0 (w.heap.size + 1) 46 #[.int .i64 0, .int .i64 0, .int .i64 0, .int .i64 0, .slice none 0 0, .slice none 0 0] := by
    rw [hW0]; have := Blk.new (w.alloc (.cells #[.int .i64 kd, .int .i64 fl, .int .i64 pl, .int .i64 nn, .slice a1 l1 c1, .slice a2 l2 c2] 46)) #[.int .i64 0, .int .i64 0, .int .i64 0, .int .i64 0, .slice none 0 0, .slice none 0 0] 46; simpa using this
  have I0 := o1.below bw
  have J0 := o2.below bw
  have HX : Hid (g < base ∧ base ≤ w.heap.size ∧ w0.heap.size ≤ g ∧ g < w.heap.size ∧ l1 ≤ 1000 ∧ l2 ≤ 10000) := ⟨hgb, hbw, hC.lo, hC.hi, hl1, hl2⟩
  have HL : Hid (l1 = ws.length ∧ l2 = bs.length) := ⟨h1, h2⟩
  clear hC hW0 bw o1 o2 h1 h2 hl1 hl2 hgb hbw
  go_enter Tryd.func54, Tryd.ntmps54
  go_upto_region 1 with fail
  rw [← HW.out]
  go_wp2_with fail
  refine (l1Below_any w0 a cap zs _ g _ (by decide) C0).mono ?_
  rintro e u1 ⟨x, rfl, hx, C1, gg⟩
  have G1 := grown_trans G0 gg
  have R1 := R0.grown gg (by have := HX.out; simp; omega)
  have Q1 := Q0.grown gg (by have := HX.out; simp; omega)
  have I1 := OwnI.kept I0 gg (row_ne_g I0 HX.out.1)
  have J1 := OwnB.kept J0 gg (row_ne_g J0 HX.out.1)
  clear C0 G0 R0 Q0 I0 J0 gg
  obtain rfl | rfl | rfl | rfl | rfl | rfl | rfl : x = 0 ∨ x = 1 ∨ x = 2 ∨ x = 3 ∨ x = 4 ∨ x = 5 ∨ x = 6 := by omega
  · clear hx
    go_upto_region 3 with fail
    go_wp2_with fail
    refine (l1Below_any w0 a cap zs _ g _ (by decide) C1).mono ?_
    rintro e t2 ⟨y, rfl, _, C2, gg⟩
    have G2 := grown_trans G1 gg
    have R2 := R1.grown gg (by have := HX.out; simp; omega)
    have Q2 := Q1.grown gg (by have := HX.out; simp; omega)
    have I2 := OwnI.kept I1 gg (row_ne_g I1 HX.out.1)
    have J2 := OwnB.kept J1 gg (row_ne_g J1 HX.out.1)
    clear gg C1 G1 R1 Q1 I1 J1
    have qc := Q2.cell 0 rfl
    have qf := Q2.fro 0
    have Q3 := Q2.set 0 (.int .i64 y)
    have R3 := R2.setNe (g' := w.heap.size) (j := 0) (y := .int .i64 y) (by omega)
    have C3 := C2.setHi (G := w.heap.size) (j := 0) (y := .int .i64 y) (by have := HX.out; omega) (by have := HX.out; omega)
    have G3 := grown_setHi (G := w.heap.size) (j := 0) (y := .int .i64 y) G2 (Nat.le_refl _)
    have I3 : OwnI _ _ _ _ := row_setE (j := 0) (y := .int .i64 y) I2 ⟨_, Q2⟩ (by decide)
    have J3 : OwnB _ _ _ _ := row_setE (j := 0) (y := .int .i64 y) J2 ⟨_, Q2⟩ (by decide)
    go_upto_region 14 with fail
    obtain ⟨v3, hv3⟩ : ∃ v3, v3 = t2.setCell ⟨w.heap.size, 0, none⟩ (.int .i64 y) := ⟨_, rfl⟩
    rw [← hv3] at Q3 R3 C3 G3 I3 J3 ⊢
    clear hv3 qc qf C2 G2 R2 Q2 I2 J2
    obtain ⟨q0, q1, q2, q3, q4, q5⟩ := Q3.six
    obtain ⟨y0, y1, y2, y3, y4, y5⟩ := R3.six
    have fy := R3.fro
    have HH : Hid (OwnI v3 base (.slice a1 l1 c1) ws ∧ OwnB v3 base (.slice a2 l2 c2) bs ∧ Cur w0 a cap zs v3 g ∧ w.grownBy v3 (some g) ∧ Blk v3 (w.heap.size + 1) 46 #[.int .i64 0, .int .i64 0, .int .i64 0, .int .i64 0, .slice none 0 0, .slice none 0 0]) := ⟨I3, J3, C3, G3, R3⟩
    clear C3 G3 R3 Q3 I3 J3
    go_wp2
    refine bodyPost_ret (v := rp (y) (fl) (pl) (nn) a1 a2 l1 l2 c1 c2) (by simp [results, Tryd.results54, go_sem, y0, y1, y2, y3, y4, y5]) rfl ?_
    obtain ⟨OI, OB, CE, GE, RE⟩ := HH.out
    have hgR : g ≠ w.heap.size + 1 := by have := HX.out; omega
    have hwR : w0.heap.size ≤ w.heap.size + 1 := by have := HX.out; omega
    have hn1 : l1 ≤ l1 + 1 := by omega
    have hn2 : l2 ≤ l2 + 1 := by omega
    exact ⟨_, _, _, _, _, _, _, _, _, _, ws, bs, rfl, HL.out.1, HL.out.2, hn1, hn2, rowp_set6 OI ⟨_, RE⟩ (by decide), rowp_set6 OB ⟨_, RE⟩ (by decide), (((((CE.setHi hgR hwR).setHi hgR hwR).setHi hgR hwR).setHi hgR hwR).setHi hgR hwR).setHi hgR hwR, grown_setHi (grown_setHi (grown_setHi (grown_setHi (grown_setHi (grown_setHi GE (Nat.le_succ _)) (Nat.le_succ _)) (Nat.le_succ _)) (Nat.le_succ _)) (Nat.le_succ _)) (Nat.le_succ _)⟩
  · clear hx
    go_upto_region 5 with fail
    have IL := ints_lit u1 [0, 1, 255, 256, -1] 3
    have hne : u1.heap.size ≠ g := by have := C1.hi; omega
    have b' := bel_alloc u1 (.cells ([0, 1, 255, 256, -1].map (Value.int .i64)).toArray 3)
    have C2 := C1.alloc (.cells ([0, 1, 255, 256, -1].map (Value.int .i64)).toArray 3)
    have G2 := grown_trans G1 (grown_below b' (some g))
    have R2 := R1.below b'
    have Q2 := Q1.below b'
    have I2 := OwnI.below I1 b'
    have J2 := OwnB.below J1 b'
    clear b' C1 G1 R1 Q1 I1 J1
    go_wp2_with fail
    refine (l1Int_any w0 a cap zs _ g ⟨u1.heap.size, 0, none⟩ 5 5 [0, 1, 255, 256, -1] rfl (by omega) (by omega) IL hne C2).mono ?_
    rintro e t3 ⟨y, rfl, _, C3, gg⟩
    have G3 := grown_trans G2 gg
    have R3 := R2.grown gg (by have := HX.out; simp; omega)
    have Q3 := Q2.grown gg (by have := HX.out; simp; omega)
    have I3 := OwnI.kept I2 gg (row_ne_g I2 HX.out.1)
    have J3 := OwnB.kept J2 gg (row_ne_g J2 HX.out.1)
    clear gg C2 G2 R2 Q2 I2 J2
    clear IL hne
    have qc := Q3.cell 1 rfl
    have qf := Q3.fro 1
    have Q4 := Q3.set 1 (.int .i64 y)
    have R4 := R3.setNe (g' := w.heap.size) (j := 1) (y := .int .i64 y) (by omega)
    have C4 := C3.setHi (G := w.heap.size) (j := 1) (y := .int .i64 y) (by have := HX.out; omega) (by have := HX.out; omega)
    have G4 := grown_setHi (G := w.heap.size) (j := 1) (y := .int .i64 y) G3 (Nat.le_refl _)
    have I4 : OwnI _ _ _ _ := row_setE (j := 1) (y := .int .i64 y) I3 ⟨_, Q3⟩ (by decide)
    have J4 : OwnB _ _ _ _ := row_setE (j := 1) (y := .int .i64 y) J3 ⟨_, Q3⟩ (by decide)
    go_upto_region 14 with fail
    obtain ⟨v4, hv4⟩ : ∃ v4, v4 = t3.setCell ⟨w.heap.size, 1, none⟩ (.int .i64 y) := ⟨_, rfl⟩
    rw [← hv4] at Q4 R4 C4 G4 I4 J4 ⊢
    clear hv4 qc qf C3 G3 R3 Q3 I3 J3
    obtain ⟨q0, q1, q2, q3, q4, q5⟩ := Q4.six
    obtain ⟨y0, y1, y2, y3, y4, y5⟩ := R4.six
    have fy := R4.fro
    have HH : Hid (OwnI v4 base (.slice a1 l1 c1) ws ∧ OwnB v4 base (.slice a2 l2 c2) bs ∧ Cur w0 a cap zs v4 g ∧ w.grownBy v4 (some g) ∧ Blk v4 (w.heap.size + 1) 46 #[.int .i64 0, .int .i64 0, .int .i64 0, .int .i64 0, .slice none 0 0, .slice none 0 0]) := ⟨I4, J4, C4, G4, R4⟩
    clear C4 G4 R4 Q4 I4 J4
    go_wp2
    refine bodyPost_ret (v := rp (kd) (y) (pl) (nn) a1 a2 l1 l2 c1 c2) (by simp [results, Tryd.results54, go_sem, y0, y1, y2, y3, y4, y5]) rfl ?_
    obtain ⟨OI, OB, CE, GE, RE⟩ := HH.out
    have hgR : g ≠ w.heap.size + 1 := by have := HX.out; omega
    have hwR : w0.heap.size ≤ w.heap.size + 1 := by have := HX.out; omega
    have hn1 : l1 ≤ l1 + 1 := by omega
    have hn2 : l2 ≤ l2 + 1 := by omega
    exact ⟨_, _, _, _, _, _, _, _, _, _, ws, bs, rfl, HL.out.1, HL.out.2, hn1, hn2, rowp_set6 OI ⟨_, RE⟩ (by decide), rowp_set6 OB ⟨_, RE⟩ (by decide), (((((CE.setHi hgR hwR).setHi hgR hwR).setHi hgR hwR).setHi hgR hwR).setHi hgR hwR).setHi hgR hwR, grown_setHi (grown_setHi (grown_setHi (grown_setHi (grown_setHi (grown_setHi GE (Nat.le_succ _)) (Nat.le_succ _)) (Nat.le_succ _)) (Nat.le_succ _)) (Nat.le_succ _)) (Nat.le_succ _)⟩
  · clear hx
    go_upto_region 7 with fail
    have d1 : Below u1.heap.size u1 (u1.drew.alloc (.cells ([1, -1, 65536].map (Value.int .i64)).toArray 3)) := bel_next (Below.refl _ _).drew (bel_alloc _ _)
    have IL := ints_lit u1.drew [1, -1, 65536] 3
    have hne : u1.heap.size ≠ g := by have := C1.hi; omega
    have Cd := C1.belowU d1
    have Gd := grown_trans G1 (grown_below d1 (some g))
    have Rd := R1.below d1
    have Qd := Q1.below d1
    have Id := OwnI.below I1 d1
    have Jd := OwnB.below J1 d1
    obtain ⟨q0, q1, q2, q3, q4, q5⟩ := Q1.six
    obtain ⟨k0, k1, k2, k3, k4, k5⟩ := Qd.six
    have hnq : ¬ w.heap.size = u1.heap.size := by have := Q1.lt; omega
    have kk : (u1.drew.alloc (.cells #[.int .i64 1, .int .i64 (-1), .int .i64 65536] 3)).cell? ⟨w.heap.size, 2, none⟩ = some (.int .i64 pl) := k2
    have kl : (u1.alloc (.cells #[.int .i64 1, .int .i64 (-1), .int .i64 65536] 3)).cell? ⟨w.heap.size, 2, none⟩ = some (.int .i64 pl) := (Q1.below (bel_alloc u1 (.cells #[.int .i64 1, .int .i64 (-1), .int .i64 65536] 3))).cell 2 rfl
    refine wp_region_any (by kernel_rfl) ?_
    (try (change wpAny _ _ _ _ _ _ _ (World.drew _)))
    refine wpAny_take (i := 0) (v := ?v0) rfl (by kernel_rfl) (by kernel_rfl) (by kernel_rfl) (fun _ _ _ h => h) (Or.inl ⟨by rfl, ?h0⟩) ?_
    case h0 => intro w; go_simp; try (with_reducible rfl)
    refine wpAny_take (i := 2) (v := ?v2) rfl (by kernel_rfl) (by kernel_rfl) (by kernel_rfl) (fun _ _ _ h => h) (Or.inl ⟨by rfl, ?h2⟩) ?_
    case h2 => intro w; go_simp; try (with_reducible rfl)
    refine wpAny_ready (rs := [1, 3]) (by kernel_rfl) (by simp) ?_
    refine AllReady.cons rfl (fun K hK => ?_) ?_
    · skip
      go_simp
      refine hK _ _ ?_
      clear hK K
      refine wpAny_ready (rs := [3]) (by kernel_rfl) (by simp) ?_
      refine AllReady.cons rfl (fun K hK => ?_) AllReady.nil
      go_simp
      refine hK _ _ ?_
      clear hK K
      refine wpAny_ready (rs := [4]) (by kernel_rfl) (by simp) ?_
      refine AllReady.cons rfl (fun K hK => ?_) AllReady.nil
      go_simp
      go_wp2_with (go_at_call 75; refine (l1Int_any w0 a cap zs _ g ⟨u1.heap.size, 0, none⟩ 3 3 [1, -1, 65536] rfl (by omega) (by omega) IL hne Cd).mono ?_; rintro e t2 ⟨y, rfl, hy, C2, gg⟩; have hyb : -1 ≤ y ∧ y ≤ 65536 := (by simp at hy; omega); have hwz : IntKind.i64.wrap (pl + y) = pl + y := (by rw [IntKind.wrap_i64]; omega); have G2 := grown_trans Gd gg; have R2 := Rd.grown gg (by have := HX.out; simp; omega); have Q2 := Qd.grown gg (by have := HX.out; simp; omega); have I2 := OwnI.kept Id gg (row_ne_g Id HX.out.1); have J2 := OwnB.kept Jd gg (row_ne_g Jd HX.out.1); clear gg hy; obtain ⟨z0, z1, z2, z3, z4, z5⟩ := Q2.six; have fz := Q2.fro; clear k0 k1 k2 k3 k4 k5 hnq d1 IL hne Cd Gd Rd Qd Id Jd C1 G1 R1 Q1 I1 J1)
      try (refine hK _ _ ?_; clear hK K)
      refine wpAny_ready (rs := [5]) (by kernel_rfl) (by simp) ?_
      refine AllReady.cons rfl (fun K hK => ?_) AllReady.nil
      go_simp
      refine hK _ _ ?_
      clear hK K
      refine wpAny_ready (rs := [6]) (by kernel_rfl) (by simp) ?_
      refine AllReady.cons rfl (fun K hK => ?_) AllReady.nil
      go_simp
      refine hK _ _ ?_
      clear hK K
      refine wpAny_ready (rs := [7]) (by kernel_rfl) (by simp) ?_
      refine AllReady.cons rfl (fun K hK => ?_) AllReady.nil
      go_simp
      refine hK _ _ ?_
      clear hK K
      refine wpAny_done (by kernel_rfl) ?_ _
      go_upto_region 14 with fail
      have qc := True.intro
      have qf := True.intro
      have Q3 := Q2.set 2 (.int .i64 (pl + y))
      have R3 := R2.setNe (g' := w.heap.size) (j := 2) (y := .int .i64 (pl + y)) (by omega)
      have C3 := C2.setHi (G := w.heap.size) (j := 2) (y := .int .i64 (pl + y)) (by have := HX.out; omega) (by have := HX.out; omega)
      have G3 := grown_setHi (G := w.heap.size) (j := 2) (y := .int .i64 (pl + y)) G2 (Nat.le_refl _)
      have I3 : OwnI _ _ _ _ := row_setE (j := 2) (y := .int .i64 (pl + y)) I2 ⟨_, Q2⟩ (by decide)
      have J3 : OwnB _ _ _ _ := row_setE (j := 2) (y := .int .i64 (pl + y)) J2 ⟨_, Q2⟩ (by decide)
      obtain ⟨v3, hv3⟩ : ∃ v3, v3 = t2.setCell ⟨w.heap.size, 2, none⟩ (.int .i64 (pl + y)) := ⟨_, rfl⟩
      rw [← hv3] at Q3 R3 C3 G3 I3 J3 ⊢
      clear hv3 qc qf C2 G2 R2 Q2 I2 J2
      clear z0 z1 z2 z3 z4 z5 fz
      obtain ⟨q0, q1, q2, q3, q4, q5⟩ := Q3.six
      obtain ⟨y0, y1, y2, y3, y4, y5⟩ := R3.six
      have fy := R3.fro
      have HH : Hid (OwnI v3 base (.slice a1 l1 c1) ws ∧ OwnB v3 base (.slice a2 l2 c2) bs ∧ Cur w0 a cap zs v3 g ∧ w.grownBy v3 (some g) ∧ Blk v3 (w.heap.size + 1) 46 #[.int .i64 0, .int .i64 0, .int .i64 0, .int .i64 0, .slice none 0 0, .slice none 0 0]) := ⟨I3, J3, C3, G3, R3⟩
      clear C3 G3 R3 Q3 I3 J3
      go_wp2
      refine bodyPost_ret (v := rp (kd) (fl) ((pl + y)) (nn) a1 a2 l1 l2 c1 c2) (by simp [results, Tryd.results54, go_sem, y0, y1, y2, y3, y4, y5]) rfl ?_
      obtain ⟨OI, OB, CE, GE, RE⟩ := HH.out
      have hgR : g ≠ w.heap.size + 1 := by have := HX.out; omega
      have hwR : w0.heap.size ≤ w.heap.size + 1 := by have := HX.out; omega
      have hn1 : l1 ≤ l1 + 1 := by omega
      have hn2 : l2 ≤ l2 + 1 := by omega
      exact ⟨_, _, _, _, _, _, _, _, _, _, ws, bs, rfl, HL.out.1, HL.out.2, hn1, hn2, rowp_set6 OI ⟨_, RE⟩ (by decide), rowp_set6 OB ⟨_, RE⟩ (by decide), (((((CE.setHi hgR hwR).setHi hgR hwR).setHi hgR hwR).setHi hgR hwR).setHi hgR hwR).setHi hgR hwR, grown_setHi (grown_setHi (grown_setHi (grown_setHi (grown_setHi (grown_setHi GE (Nat.le_succ _)) (Nat.le_succ _)) (Nat.le_succ _)) (Nat.le_succ _)) (Nat.le_succ _)) (Nat.le_succ _)⟩
    refine AllReady.cons rfl (fun K hK => ?_) AllReady.nil
    go_simp
    refine hK _ _ ?_
    clear hK K
    refine wpAny_ready (rs := [1, 4]) (by kernel_rfl) (by simp) ?_
    refine AllReady.cons rfl (fun K hK => ?_) ?_
    · skip
      go_simp
      refine hK _ _ ?_
      clear hK K
      refine wpAny_ready (rs := [4]) (by kernel_rfl) (by simp) ?_
      refine AllReady.cons rfl (fun K hK => ?_) AllReady.nil
      go_simp
      go_wp2_with (go_at_call 75; refine (l1Int_any w0 a cap zs _ g ⟨u1.heap.size, 0, none⟩ 3 3 [1, -1, 65536] rfl (by omega) (by omega) IL hne Cd).mono ?_; rintro e t2 ⟨y, rfl, hy, C2, gg⟩; have hyb : -1 ≤ y ∧ y ≤ 65536 := (by simp at hy; omega); have hwz : IntKind.i64.wrap (pl + y) = pl + y := (by rw [IntKind.wrap_i64]; omega); have G2 := grown_trans Gd gg; have R2 := Rd.grown gg (by have := HX.out; simp; omega); have Q2 := Qd.grown gg (by have := HX.out; simp; omega); have I2 := OwnI.kept Id gg (row_ne_g Id HX.out.1); have J2 := OwnB.kept Jd gg (row_ne_g Jd HX.out.1); clear gg hy; obtain ⟨z0, z1, z2, z3, z4, z5⟩ := Q2.six; have fz := Q2.fro; clear k0 k1 k2 k3 k4 k5 hnq d1 IL hne Cd Gd Rd Qd Id Jd C1 G1 R1 Q1 I1 J1)
      try (refine hK _ _ ?_; clear hK K)
      refine wpAny_ready (rs := [5]) (by kernel_rfl) (by simp) ?_
      refine AllReady.cons rfl (fun K hK => ?_) AllReady.nil
      go_simp
      refine hK _ _ ?_
      clear hK K
      refine wpAny_ready (rs := [6]) (by kernel_rfl) (by simp) ?_
      refine AllReady.cons rfl (fun K hK => ?_) AllReady.nil
      go_simp
      refine hK _ _ ?_
      clear hK K
      refine wpAny_ready (rs := [7]) (by kernel_rfl) (by simp) ?_
      refine AllReady.cons rfl (fun K hK => ?_) AllReady.nil
      go_simp
      refine hK _ _ ?_
      clear hK K
      refine wpAny_done (by kernel_rfl) ?_ _
      go_upto_region 14 with fail
      have qc := True.intro
      have qf := True.intro
      have Q3 := Q2.set 2 (.int .i64 (pl + y))
      have R3 := R2.setNe (g' := w.heap.size) (j := 2) (y := .int .i64 (pl + y)) (by omega)
      have C3 := C2.setHi (G := w.heap.size) (j := 2) (y := .int .i64 (pl + y)) (by have := HX.out; omega) (by have := HX.out; omega)
      have G3 := grown_setHi (G := w.heap.size) (j := 2) (y := .int .i64 (pl + y)) G2 (Nat.le_refl _)
      have I3 : OwnI _ _ _ _ := row_setE (j := 2) (y := .int .i64 (pl + y)) I2 ⟨_, Q2⟩ (by decide)
      have J3 : OwnB _ _ _ _ := row_setE (j := 2) (y := .int .i64 (pl + y)) J2 ⟨_, Q2⟩ (by decide)
      obtain ⟨v3, hv3⟩ : ∃ v3, v3 = t2.setCell ⟨w.heap.size, 2, none⟩ (.int .i64 (pl + y)) := ⟨_, rfl⟩
      rw [← hv3] at Q3 R3 C3 G3 I3 J3 ⊢
      clear hv3 qc qf C2 G2 R2 Q2 I2 J2
      clear z0 z1 z2 z3 z4 z5 fz
      obtain ⟨q0, q1, q2, q3, q4, q5⟩ := Q3.six
      obtain ⟨y0, y1, y2, y3, y4, y5⟩ := R3.six
      have fy := R3.fro
      have HH : Hid (OwnI v3 base (.slice a1 l1 c1) ws ∧ OwnB v3 base (.slice a2 l2 c2) bs ∧ Cur w0 a cap zs v3 g ∧ w.grownBy v3 (some g) ∧ Blk v3 (w.heap.size + 1) 46 #[.int .i64 0, .int .i64 0, .int .i64 0, .int .i64 0, .slice none 0 0, .slice none 0 0]) := ⟨I3, J3, C3, G3, R3⟩
      clear C3 G3 R3 Q3 I3 J3
      go_wp2
      refine bodyPost_ret (v := rp (kd) (fl) ((pl + y)) (nn) a1 a2 l1 l2 c1 c2) (by simp [results, Tryd.results54, go_sem, y0, y1, y2, y3, y4, y5]) rfl ?_
      obtain ⟨OI, OB, CE, GE, RE⟩ := HH.out
      have hgR : g ≠ w.heap.size + 1 := by have := HX.out; omega
      have hwR : w0.heap.size ≤ w.heap.size + 1 := by have := HX.out; omega
      have hn1 : l1 ≤ l1 + 1 := by omega
      have hn2 : l2 ≤ l2 + 1 := by omega
      exact ⟨_, _, _, _, _, _, _, _, _, _, ws, bs, rfl, HL.out.1, HL.out.2, hn1, hn2, rowp_set6 OI ⟨_, RE⟩ (by decide), rowp_set6 OB ⟨_, RE⟩ (by decide), (((((CE.setHi hgR hwR).setHi hgR hwR).setHi hgR hwR).setHi hgR hwR).setHi hgR hwR).setHi hgR hwR, grown_setHi (grown_setHi (grown_setHi (grown_setHi (grown_setHi (grown_setHi GE (Nat.le_succ _)) (Nat.le_succ _)) (Nat.le_succ _)) (Nat.le_succ _)) (Nat.le_succ _)) (Nat.le_succ _)⟩
    refine AllReady.cons rfl (fun K hK => ?_) AllReady.nil
    go_simp
    go_wp2_with (go_at_call 75; refine (l1Int_any w0 a cap zs _ g ⟨u1.heap.size, 0, none⟩ 3 3 [1, -1, 65536] rfl (by omega) (by omega) IL hne Cd).mono ?_; rintro e t2 ⟨y, rfl, hy, C2, gg⟩; have hyb : -1 ≤ y ∧ y ≤ 65536 := (by simp at hy; omega); have hwz : IntKind.i64.wrap (pl + y) = pl + y := (by rw [IntKind.wrap_i64]; omega); have G2 := grown_trans Gd gg; have R2 := Rd.grown gg (by have := HX.out; simp; omega); have Q2 := Qd.grown gg (by have := HX.out; simp; omega); have I2 := OwnI.kept Id gg (row_ne_g Id HX.out.1); have J2 := OwnB.kept Jd gg (row_ne_g Jd HX.out.1); clear gg hy; obtain ⟨z0, z1, z2, z3, z4, z5⟩ := Q2.six; have fz := Q2.fro; clear k0 k1 k2 k3 k4 k5 hnq d1 IL hne Cd Gd Rd Qd Id Jd C1 G1 R1 Q1 I1 J1)
    try (refine hK _ _ ?_; clear hK K)
    refine wpAny_ready (rs := [1]) (by kernel_rfl) (by simp) ?_
    refine AllReady.cons rfl (fun K hK => ?_) AllReady.nil
    go_simp
    refine hK _ _ ?_
    clear hK K
    refine wpAny_ready (rs := [5]) (by kernel_rfl) (by simp) ?_
    refine AllReady.cons rfl (fun K hK => ?_) AllReady.nil
    go_simp
    refine hK _ _ ?_
    clear hK K
    refine wpAny_ready (rs := [6]) (by kernel_rfl) (by simp) ?_
    refine AllReady.cons rfl (fun K hK => ?_) AllReady.nil
    go_simp
    refine hK _ _ ?_
    clear hK K
    refine wpAny_ready (rs := [7]) (by kernel_rfl) (by simp) ?_
    refine AllReady.cons rfl (fun K hK => ?_) AllReady.nil
    go_simp
    refine hK _ _ ?_
    clear hK K
    refine wpAny_done (by kernel_rfl) ?_ _
    go_upto_region 14 with fail
    have qc := True.intro
    have qf := True.intro
    have Q3 := Q2.set 2 (.int .i64 (pl + y))
    have R3 := R2.setNe (g' := w.heap.size) (j := 2) (y := .int .i64 (pl + y)) (by omega)
    have C3 := C2.setHi (G := w.heap.size) (j := 2) (y := .int .i64 (pl + y)) (by have := HX.out; omega) (by have := HX.out; omega)
    have G3 := grown_setHi (G := w.heap.size) (j := 2) (y := .int .i64 (pl + y)) G2 (Nat.le_refl _)
    have I3 : OwnI _ _ _ _ := row_setE (j := 2) (y := .int .i64 (pl + y)) I2 ⟨_, Q2⟩ (by decide)
    have J3 : OwnB _ _ _ _ := row_setE (j := 2) (y := .int .i64 (pl + y)) J2 ⟨_, Q2⟩ (by decide)
    obtain ⟨v3, hv3⟩ : ∃ v3, v3 = t2.setCell ⟨w.heap.size, 2, none⟩ (.int .i64 (pl + y)) := ⟨_, rfl⟩
    rw [← hv3] at Q3 R3 C3 G3 I3 J3 ⊢
    clear hv3 qc qf C2 G2 R2 Q2 I2 J2
    clear z0 z1 z2 z3 z4 z5 fz
    obtain ⟨q0, q1, q2, q3, q4, q5⟩ := Q3.six
    obtain ⟨y0, y1, y2, y3, y4, y5⟩ := R3.six
    have fy := R3.fro
    have HH : Hid (OwnI v3 base (.slice a1 l1 c1) ws ∧ OwnB v3 base (.slice a2 l2 c2) bs ∧ Cur w0 a cap zs v3 g ∧ w.grownBy v3 (some g) ∧ Blk v3 (w.heap.size + 1) 46 #[.int .i64 0, .int .i64 0, .int .i64 0, .int .i64 0, .slice none 0 0, .slice none 0 0]) := ⟨I3, J3, C3, G3, R3⟩
    clear C3 G3 R3 Q3 I3 J3
    go_wp2
    refine bodyPost_ret (v := rp (kd) (fl) ((pl + y)) (nn) a1 a2 l1 l2 c1 c2) (by simp [results, Tryd.results54, go_sem, y0, y1, y2, y3, y4, y5]) rfl ?_
    obtain ⟨OI, OB, CE, GE, RE⟩ := HH.out
    have hgR : g ≠ w.heap.size + 1 := by have := HX.out; omega
    have hwR : w0.heap.size ≤ w.heap.size + 1 := by have := HX.out; omega
    have hn1 : l1 ≤ l1 + 1 := by omega
    have hn2 : l2 ≤ l2 + 1 := by omega
    exact ⟨_, _, _, _, _, _, _, _, _, _, ws, bs, rfl, HL.out.1, HL.out.2, hn1, hn2, rowp_set6 OI ⟨_, RE⟩ (by decide), rowp_set6 OB ⟨_, RE⟩ (by decide), (((((CE.setHi hgR hwR).setHi hgR hwR).setHi hgR hwR).setHi hgR hwR).setHi hgR hwR).setHi hgR hwR, grown_setHi (grown_setHi (grown_setHi (grown_setHi (grown_setHi (grown_setHi GE (Nat.le_succ _)) (Nat.le_succ _)) (Nat.le_succ _)) (Nat.le_succ _)) (Nat.le_succ _)) (Nat.le_succ _)⟩
  · clear hx
    go_upto_region 9 with fail
    have hwz : IntKind.i64.wrap (nn + 1) = nn + 1 := by rw [IntKind.wrap_i64]; omega
    have k3 := Q1.cell 3 rfl
    have qc := Q1.cell 3 rfl
    have qf := Q1.fro 3
    have Q2 := Q1.set 3 (.int .i64 (nn + 1))
    have R2 := R1.setNe (g' := w.heap.size) (j := 3) (y := .int .i64 (nn + 1)) (by omega)
    have C2 := C1.setHi (G := w.heap.size) (j := 3) (y := .int .i64 (nn + 1)) (by have := HX.out; omega) (by have := HX.out; omega)
    have G2 := grown_setHi (G := w.heap.size) (j := 3) (y := .int .i64 (nn + 1)) G1 (Nat.le_refl _)
    have I2 : OwnI _ _ _ _ := row_setE (j := 3) (y := .int .i64 (nn + 1)) I1 ⟨_, Q1⟩ (by decide)
    have J2 : OwnB _ _ _ _ := row_setE (j := 3) (y := .int .i64 (nn + 1)) J1 ⟨_, Q1⟩ (by decide)
    go_upto_region 14 with fail
    obtain ⟨v2, hv2⟩ : ∃ v2, v2 = u1.setCell ⟨w.heap.size, 3, none⟩ (.int .i64 (nn + 1)) := ⟨_, rfl⟩
    rw [← hv2] at Q2 R2 C2 G2 I2 J2 ⊢
    clear hv2 qc qf C1 G1 R1 Q1 I1 J1
    clear k3 hwz
    obtain ⟨q0, q1, q2, q3, q4, q5⟩ := Q2.six
    obtain ⟨y0, y1, y2, y3, y4, y5⟩ := R2.six
    have fy := R2.fro
    have HH : Hid (OwnI v2 base (.slice a1 l1 c1) ws ∧ OwnB v2 base (.slice a2 l2 c2) bs ∧ Cur w0 a cap zs v2 g ∧ w.grownBy v2 (some g) ∧ Blk v2 (w.heap.size + 1) 46 #[.int .i64 0, .int .i64 0, .int .i64 0, .int .i64 0, .slice none 0 0, .slice none 0 0]) := ⟨I2, J2, C2, G2, R2⟩
    clear C2 G2 R2 Q2 I2 J2
    go_wp2
    refine bodyPost_ret (v := rp (kd) (fl) (pl) ((nn + 1)) a1 a2 l1 l2 c1 c2) (by simp [results, Tryd.results54, go_sem, y0, y1, y2, y3, y4, y5]) rfl ?_
    obtain ⟨OI, OB, CE, GE, RE⟩ := HH.out
    have hgR : g ≠ w.heap.size + 1 := by have := HX.out; omega
    have hwR : w0.heap.size ≤ w.heap.size + 1 := by have := HX.out; omega
    have hn1 : l1 ≤ l1 + 1 := by omega
    have hn2 : l2 ≤ l2 + 1 := by omega
    exact ⟨_, _, _, _, _, _, _, _, _, _, ws, bs, rfl, HL.out.1, HL.out.2, hn1, hn2, rowp_set6 OI ⟨_, RE⟩ (by decide), rowp_set6 OB ⟨_, RE⟩ (by decide), (((((CE.setHi hgR hwR).setHi hgR hwR).setHi hgR hwR).setHi hgR hwR).setHi hgR hwR).setHi hgR hwR, grown_setHi (grown_setHi (grown_setHi (grown_setHi (grown_setHi (grown_setHi GE (Nat.le_succ _)) (Nat.le_succ _)) (Nat.le_succ _)) (Nat.le_succ _)) (Nat.le_succ _)) (Nat.le_succ _)⟩
  · clear hx
    go_upto_region 11 with fail
    have N2 := newI u1 w.heap.size G1.size
    have b' := bel_alloc u1 (.cells #[] 3)
    have C2 := C1.alloc (.cells #[] 3)
    have G2 := grown_trans G1 (grown_below b' (some g))
    have R2 := R1.below b'
    have Q2 := Q1.below b'
    have I2 := OwnI.below I1 b'
    have J2 := OwnB.below J1 b'
    clear b' C1 G1 R1 Q1 I1 J1
    have q3 := Q2.cell 4 rfl
    have hsz : w.heap.size ≤ (u1.alloc (.cells #[] 3)).heap.size := G2.size
    go_wp2_with (at_builtin; refine wpList_appIO rfl (.tmp 35) (.tmp 37) rfl w.heap.size (.slice (some ⟨u1.heap.size, 0, none⟩) 0 0) [] rfl N2 a1 l1 c1 ws rfl HL.out.1 I2.sl.2 (by have := HL.out; have := HX.out; simp; omega) hsz ?_; intro v' t3 N3 gg; obtain ⟨n1, n2, n3, rfl, hn3⟩ := ownI_shape N3; have HN3 : Hid (n3 = ([] ++ ws).length) := hn3; clear hn3)
    have C3 := C2.rowG N2 gg HX.out.2.2.2.1
    have G3 := grown_rowG G2 N2 gg
    have R3 := R2.row N2 gg (by decide)
    have Q3 := Q2.row N2 gg (by decide)
    have J3 := OwnB.kept J2 gg (ne_types J2 N2 (by decide))
    clear gg q3 hsz C2 G2 R2 Q2 I2 J2 N2
    have IL := ints_lit t3 [0, 65536] 3
    have hne : t3.heap.size ≠ g := by have := C3.hi; omega
    have b' := bel_alloc t3 (.cells ([0, 65536].map (Value.int .i64)).toArray 3)
    have C4 := C3.alloc (.cells ([0, 65536].map (Value.int .i64)).toArray 3)
    have G4 := grown_trans G3 (grown_below b' (some g))
    have R4 := R3.below b'
    have Q4 := Q3.below b'
    have J4 := OwnB.below J3 b'
    have N4 := OwnI.below N3 b'
    clear b' C3 G3 R3 Q3 J3 N3
    go_wp2_with fail
    refine (l1Int_any w0 a cap zs _ g ⟨t3.heap.size, 0, none⟩ 2 2 [0, 65536] rfl (by omega) (by omega) IL hne C4).mono ?_
    rintro e t5 ⟨y, rfl, _, C5, gg⟩
    have G5 := grown_trans G4 gg
    have R5 := R4.grown gg (by have := HX.out; simp; omega)
    have Q5 := Q4.grown gg (by have := HX.out; simp; omega)
    have J5 := OwnB.kept J4 gg (row_ne_g J4 HX.out.1)
    have N5 := OwnI.kept N4 gg (row_ne_g N4 HX.out.2.2.2.1)
    clear gg C4 G4 R4 Q4 J4 N4
    clear IL hne
    have b' := bel_alloc t5 (.cells #[.int .i64 y] 3)
    have C6 := C5.alloc (.cells #[.int .i64 y] 3)
    have G6 := grown_trans G5 (grown_below b' (some g))
    have R6 := R5.below b'
    have Q6 := Q5.below b'
    have J6 := OwnB.below J5 b'
    have N6 := OwnI.below N5 b'
    clear b' C5 G5 R5 Q5 J5 N5
    have hsz : w.heap.size ≤ (t5.alloc (.cells #[.int .i64 y] 3)).heap.size := G6.size
    go_upto_region 14 with (at_builtin; refine wpList_appI rfl (.tmp 38) (.tmp 42) rfl w.heap.size (.slice n1 n3 n2) ([] ++ ws) rfl N6 ⟨t5.heap.size, 0, none⟩ 1 1 [y] rfl rfl (lit_slI1' _ _ rfl) (by have := HL.out; have := HX.out; simp; omega) hsz ?_; intro v' t7 I7 gg; obtain ⟨m1, m2, m3, rfl, hm3⟩ := ownI_shape I7; have HM3 : Hid (m3 = ([] ++ ws ++ [y]).length) := hm3; have Q' := Q6.row N6 gg (by decide); have qc := Q'.cell 4 rfl; have qf := Q'.fro 4; clear hm3 Q')
    have C7 := C6.rowG N6 gg HX.out.2.2.2.1
    have G7 := grown_rowG G6 N6 gg
    have R7 := R6.row N6 gg (by decide)
    have Q7 := Q6.row N6 gg (by decide)
    have J7 := OwnB.kept J6 gg (ne_types J6 N6 (by decide))
    clear gg hsz C6 G6 R6 Q6 J6 N6
    have I7 := OwnI.mono I7 HX.out.2.1
    have Q8 := Q7.set 4 (.slice m1 m3 m2)
    have R8 := R7.setNe (g' := w.heap.size) (j := 4) (y := .slice m1 m3 m2) (by omega)
    have C8 := C7.setHi (G := w.heap.size) (j := 4) (y := .slice m1 m3 m2) (by have := HX.out; omega) (by have := HX.out; omega)
    have G8 := grown_setHi (G := w.heap.size) (j := 4) (y := .slice m1 m3 m2) G7 (Nat.le_refl _)
    have I8 : OwnI _ _ _ _ := row_setE (j := 4) (y := .slice m1 m3 m2) I7 ⟨_, Q7⟩ (by decide)
    have J8 : OwnB _ _ _ _ := row_setE (j := 4) (y := .slice m1 m3 m2) J7 ⟨_, Q7⟩ (by decide)
    obtain ⟨v8, hv8⟩ : ∃ v8, v8 = t7.setCell ⟨w.heap.size, 4, none⟩ (.slice m1 m3 m2) := ⟨_, rfl⟩
    rw [← hv8] at Q8 R8 C8 G8 I8 J8 ⊢
    clear hv8 qc qf C7 G7 R7 Q7 I7 J7
    obtain ⟨q0, q1, q2, q3, q4, q5⟩ := Q8.six
    obtain ⟨y0, y1, y2, y3, y4, y5⟩ := R8.six
    have fy := R8.fro
    have HH : Hid (OwnI v8 base (.slice m1 m3 m2) ([] ++ ws ++ [y]) ∧ OwnB v8 base (.slice a2 l2 c2) bs ∧ Cur w0 a cap zs v8 g ∧ w.grownBy v8 (some g) ∧ Blk v8 (w.heap.size + 1) 46 #[.int .i64 0, .int .i64 0, .int .i64 0, .int .i64 0, .slice none 0 0, .slice none 0 0]) := ⟨I8, J8, C8, G8, R8⟩
    clear C8 G8 R8 Q8 I8 J8
    go_wp2
    refine bodyPost_ret (v := rp (kd) (fl) (pl) (nn) m1 a2 m3 l2 m2 c2) (by simp [results, Tryd.results54, go_sem, y0, y1, y2, y3, y4, y5]) rfl ?_
    obtain ⟨OI, OB, CE, GE, RE⟩ := HH.out
    have hgR : g ≠ w.heap.size + 1 := by have := HX.out; omega
    have hwR : w0.heap.size ≤ w.heap.size + 1 := by have := HX.out; omega
    have hn1 : m3 ≤ l1 + 1 := by have h := HM3.out; have := HL.out; simp at h; omega
    have hn2 : l2 ≤ l2 + 1 := by omega
    exact ⟨_, _, _, _, _, _, _, _, _, _, ([] ++ ws ++ [y]), bs, rfl, HM3.out, HL.out.2, hn1, hn2, rowp_set6 OI ⟨_, RE⟩ (by decide), rowp_set6 OB ⟨_, RE⟩ (by decide), (((((CE.setHi hgR hwR).setHi hgR hwR).setHi hgR hwR).setHi hgR hwR).setHi hgR hwR).setHi hgR hwR, grown_setHi (grown_setHi (grown_setHi (grown_setHi (grown_setHi (grown_setHi GE (Nat.le_succ _)) (Nat.le_succ _)) (Nat.le_succ _)) (Nat.le_succ _)) (Nat.le_succ _)) (Nat.le_succ _)⟩
  · clear hx
    go_upto_region 13 with fail
    have N2 := newB u1 w.heap.size G1.size
    have b' := bel_alloc u1 (.cells #[] 4)
    have C2 := C1.alloc (.cells #[] 4)
    have G2 := grown_trans G1 (grown_below b' (some g))
    have R2 := R1.below b'
    have Q2 := Q1.below b'
    have I2 := OwnI.below I1 b'
    have J2 := OwnB.below J1 b'
    clear b' C1 G1 R1 Q1 I1 J1
    have q4 := Q2.cell 5 rfl
    have hsz : w.heap.size ≤ (u1.alloc (.cells #[] 4)).heap.size := G2.size
    go_upto_region 14 with (first | (at_builtin; refine wpList_appBO rfl (.tmp 47) (.tmp 49) rfl w.heap.size (.slice (some ⟨u1.heap.size, 0, none⟩) 0 0) [] rfl N2 a2 l2 c2 bs rfl HL.out.2 J2.sl.2 (by have := HL.out; have := HX.out; simp; omega) hsz ?_; intro v' t3 N3 gg; obtain ⟨n1, n2, n3, rfl, hn3⟩ := ownB_shape N3; have HN3 : Hid (n3 = ([] ++ bs).length) := hn3; have G3 := grown_rowG G2 N2 gg; have hsz2 := Nat.le_trans G3.size (bel_alloc t3 (.cells #[.bool true] 4)).size; clear hn3) | (at_builtin; refine wpList_appBO rfl (.tmp 50) (.tmp 51) rfl w.heap.size (.slice n1 n3 n2) ([] ++ bs) rfl (OwnB.below N3 (bel_alloc _ _)) (some ⟨t3.heap.size, 0, none⟩) 1 1 [true] rfl rfl (lit_slB1 _ _ rfl) (by have := HL.out; have := HX.out; simp; omega) hsz2 ?_; intro v' t4 J4 gg2; obtain ⟨m1, m2, m3, rfl, hm3⟩ := ownB_shape J4; have HM3 : Hid (m3 = ([] ++ bs ++ [true]).length) := hm3; have Q' := ((Q2.row N2 gg (by decide)).below (bel_alloc t3 (.cells #[.bool true] 4))).row (OwnB.below N3 (bel_alloc _ _)) gg2 (by decide); have qc := Q'.cell 5 rfl; have qf := Q'.fro 5; clear hm3 Q'))
    have b' := bel_alloc t3 (.cells #[.bool true] 4)
    have N' := OwnB.below N3 b'
    have C4 := ((C2.rowG N2 gg HX.out.2.2.2.1).alloc (.cells #[.bool true] 4)).rowG N' gg2 HX.out.2.2.2.1
    have G4 := grown_rowG (grown_trans G3 (grown_below b' (some g))) N' gg2
    have R4 := ((R2.row N2 gg (by decide)).below b').row N' gg2 (by decide)
    have Q4 := ((Q2.row N2 gg (by decide)).below b').row N' gg2 (by decide)
    have I4' := OwnI.below (OwnI.kept I2 gg (ne_types I2 N2 (by decide))) b'
    have I4 := OwnI.kept I4' gg2 (ne_types I4' N' (by decide))
    clear gg gg2 q4 hsz hsz2 b' N' I4' N3 G3 C2 G2 R2 Q2 I2 J2 N2
    have J4 := OwnB.mono J4 HX.out.2.1
    have Q5 := Q4.set 5 (.slice m1 m3 m2)
    have R5 := R4.setNe (g' := w.heap.size) (j := 5) (y := .slice m1 m3 m2) (by omega)
    have C5 := C4.setHi (G := w.heap.size) (j := 5) (y := .slice m1 m3 m2) (by have := HX.out; omega) (by have := HX.out; omega)
    have G5 := grown_setHi (G := w.heap.size) (j := 5) (y := .slice m1 m3 m2) G4 (Nat.le_refl _)
    have I5 : OwnI _ _ _ _ := row_setE (j := 5) (y := .slice m1 m3 m2) I4 ⟨_, Q4⟩ (by decide)
    have J5 : OwnB _ _ _ _ := row_setE (j := 5) (y := .slice m1 m3 m2) J4 ⟨_, Q4⟩ (by decide)
    obtain ⟨v5, hv5⟩ : ∃ v5, v5 = t4.setCell ⟨w.heap.size, 5, none⟩ (.slice m1 m3 m2) := ⟨_, rfl⟩
    rw [← hv5] at Q5 R5 C5 G5 I5 J5 ⊢
    clear hv5 qc qf C4 G4 R4 Q4 I4 J4
    obtain ⟨q0, q1, q2, q3, q4, q5⟩ := Q5.six
    obtain ⟨y0, y1, y2, y3, y4, y5⟩ := R5.six
    have fy := R5.fro
    have HH : Hid (OwnI v5 base (.slice a1 l1 c1) ws ∧ OwnB v5 base (.slice m1 m3 m2) ([] ++ bs ++ [true]) ∧ Cur w0 a cap zs v5 g ∧ w.grownBy v5 (some g) ∧ Blk v5 (w.heap.size + 1) 46 #[.int .i64 0, .int .i64 0, .int .i64 0, .int .i64 0, .slice none 0 0, .slice none 0 0]) := ⟨I5, J5, C5, G5, R5⟩
    clear C5 G5 R5 Q5 I5 J5
    go_wp2
    refine bodyPost_ret (v := rp (kd) (fl) (pl) (nn) a1 m1 l1 m3 c1 m2) (by simp [results, Tryd.results54, go_sem, y0, y1, y2, y3, y4, y5]) rfl ?_
    obtain ⟨OI, OB, CE, GE, RE⟩ := HH.out
    have hgR : g ≠ w.heap.size + 1 := by have := HX.out; omega
    have hwR : w0.heap.size ≤ w.heap.size + 1 := by have := HX.out; omega
    have hn1 : l1 ≤ l1 + 1 := by omega
    have hn2 : m3 ≤ l2 + 1 := by have h := HM3.out; have := HL.out; simp at h; omega
    exact ⟨_, _, _, _, _, _, _, _, _, _, ws, ([] ++ bs ++ [true]), rfl, HL.out.1, HM3.out, hn1, hn2, rowp_set6 OI ⟨_, RE⟩ (by decide), rowp_set6 OB ⟨_, RE⟩ (by decide), (((((CE.setHi hgR hwR).setHi hgR hwR).setHi hgR hwR).setHi hgR hwR).setHi hgR hwR).setHi hgR hwR, grown_setHi (grown_setHi (grown_setHi (grown_setHi (grown_setHi (grown_setHi GE (Nat.le_succ _)) (Nat.le_succ _)) (Nat.le_succ _)) (Nat.le_succ _)) (Nat.le_succ _)) (Nat.le_succ _)⟩
  · clear hx
    obtain ⟨q0, q1, q2, q3, q4, q5⟩ := Q1.six
    obtain ⟨y0, y1, y2, y3, y4, y5⟩ := R1.six
    have fy := R1.fro
    have HH : Hid (OwnI u1 base (.slice a1 l1 c1) ws ∧ OwnB u1 base (.slice a2 l2 c2) bs ∧ Cur w0 a cap zs u1 g ∧ w.grownBy u1 (some g) ∧ Blk u1 (w.heap.size + 1) 46 #[.int .i64 0, .int .i64 0, .int .i64 0, .int .i64 0, .slice none 0 0, .slice none 0 0]) := ⟨I1, J1, C1, G1, R1⟩
    clear C1 G1 R1 Q1 I1 J1
    go_wp2
    refine bodyPost_ret (v := rp (kd) (fl) (pl) (nn) a1 a2 l1 l2 c1 c2) (by simp [results, Tryd.results54, go_sem, y0, y1, y2, y3, y4, y5]) rfl ?_
    obtain ⟨OI, OB, CE, GE, RE⟩ := HH.out
    have hgR : g ≠ w.heap.size + 1 := by have := HX.out; omega
    have hwR : w0.heap.size ≤ w.heap.size + 1 := by have := HX.out; omega
    have hn1 : l1 ≤ l1 + 1 := by omega
    have hn2 : l2 ≤ l2 + 1 := by omega
    exact ⟨_, _, _, _, _, _, _, _, _, _, ws, bs, rfl, HL.out.1, HL.out.2, hn1, hn2, rowp_set6 OI ⟨_, RE⟩ (by decide), rowp_set6 OB ⟨_, RE⟩ (by decide), (((((CE.setHi hgR hwR).setHi hgR hwR).setHi hgR hwR).setHi hgR hwR).setHi hgR hwR).setHi hgR hwR, grown_setHi (grown_setHi (grown_setHi (grown_setHi (grown_setHi (grown_setHi GE (Nat.le_succ _)) (Nat.le_succ _)) (Nat.le_succ _)) (Nat.le_succ _)) (Nat.le_succ _)) (Nat.le_succ _)⟩

end Go.Proofs.YtoofkikenfgbpaaDoor

namespace Go.Proofs.YtoofkikenfgbpaaDoor
open Go.RowKit

set_option linter.unusedVariables false

set_option linter.unusedSimpArgs false

theorem Blk.setNe6 {u : World} {g B : Nat} {t : TypeId} {cs : Array Value} {v0 v1 v2 v3 v4 v5 : Value} (h : Blk u g t cs) (hne : g ≠ B) : Blk ((((((u.setCell ⟨B, 0, none⟩ v0).setCell ⟨B, 1, none⟩ v1).setCell ⟨B, 2, none⟩ v2).setCell ⟨B, 3, none⟩ v3).setCell ⟨B, 4, none⟩ v4).setCell ⟨B, 5, none⟩ v5) g t cs :=
  (((((h.setNe hne).setNe hne).setNe hne).setNe hne).setNe hne).setNe hne

set_option maxRecDepth 20000 in
set_option maxHeartbeats 4000000 in
theorem l4DrawAny_any (w0 : World) (a : Option Addr) (cap : Nat) (zs : List Int) (w : World) (g : Nat) (hC : Cur w0 a cap zs w g) :
    Calls Tryd.prog 36 #[.pointer (some ⟨g, 0, none⟩)] w fun e w' => RespAt w0 a cap zs w.heap.size 1000 3000 w g e w' := by
  obtain ⟨W0, hW0⟩ : ∃ W0, W0 = w.alloc (.cells #[.int .i64 0, .int .i64 0, .int .i64 0, .int .i64 0, .slice none 0 0, .slice none 0 0] 46) := ⟨_, rfl⟩
  have HW : Hid (W0 = _) := hW0
  have C0 : Cur w0 a cap zs W0 g := by rw [hW0]; exact hC.alloc _
  have G0 : w.grownBy W0 (some g) := by rw [hW0]; exact World.grownBy_alloc _ _ _
  have R0 : Blk W0 w.heap.size 46 #[.int .i64 0, .int .i64 0, .int .i64 0, .int .i64 0, .slice none 0 0, .slice none 0 0] := by rw [hW0]; exact Blk.new _ _ _
  have HX : Hid (g < w.heap.size ∧ w0.heap.size ≤ g) := ⟨hC.hi, hC.lo⟩
  clear hC hW0
  go_enter Tryd.func36, Tryd.ntmps36
  go_wp2_with fail
  rw [← HW.out]
  refine (l3DrawN_any w0 a cap zs W0 g C0).mono ?_
  rintro e z1 ⟨kd, pl, nn, wa, a1, a2, l1, l2, c1, c2, ws, bs, rfl, e1, e2, m1, m2, _, oi, oj, C1, gg, hpn⟩
  have G1 := grown_trans G0 gg
  have R1 := R0.grown gg (by have := HX.out; simp; omega)
  have I1 := OwnI.mono oi G0.size
  have J1 := OwnB.mono oj G0.size
  have HE : Hid (l1 = ws.length ∧ l2 = bs.length ∧ l1 ≤ 6 ∧ l2 ≤ 20 ∧ 0 ≤ pl ∧ pl ≤ 100 ∧ 0 ≤ nn ∧ nn ≤ 100) := ⟨e1, e2, m1, m2, hpn⟩
  clear gg oi oj e1 e2 m1 m2 hpn C0 G0 R0
  go_wp2_with fail
  refine (l4Draw_any w0 a cap zs z1 g kd pl nn wa a1 a2 l1 l2 c1 c2 ws bs HE.out.1 HE.out.2.1 (by have := HE.out; omega) (by have := HE.out; omega) (by have := HE.out; omega) (by have := HE.out; omega) w.heap.size HX.out.1 I1 J1 C1).mono ?_
  rintro e z2 ⟨kd2, fl2, pl2, nn2, a12, a22, l12, l22, c12, c22, ws2, bs2, rfl, e1, e2, m1, m2, oi, oj, C2, gg, hpn⟩
  have G2 := grown_trans G1 gg
  have R2 := R1.grown gg (by have := HX.out; simp; omega)
  have I2 := OwnI.mono oi G1.size
  have J2 := OwnB.mono oj G1.size
  have HE2 : Hid (l12 = ws2.length ∧ l22 = bs2.length ∧ l12 ≤ 900 ∧ l22 ≤ 2900 ∧ 0 ≤ pl2 ∧ pl2 ≤ 65535 ∧ 0 ≤ nn2 ∧ nn2 ≤ 2900) := ⟨e1, e2, m1, m2, hpn⟩
  clear gg oi oj e1 e2 m1 m2 hpn C1 G1 R1 I1 J1 HE
  obtain ⟨z3, hz3⟩ : ∃ z3, z3 = z2.alloc (.cells #[.int .i64 kd2, .int .i64 fl2, .int .i64 pl2, .int .i64 nn2, .slice a12 l12 c12, .slice a22 l22 c22] 46) := ⟨_, rfl⟩
  have HU : Hid (z3 = _) := hz3
  obtain ⟨B, hB⟩ : ∃ B, B = z2.heap.size := ⟨_, rfl⟩
  have HBe : Hid (B = z2.heap.size) := hB
  have HB : Hid (w.heap.size < B) := by show w.heap.size < B; have := R2.lt; omega
  have bz : Below z2.heap.size z2 z3 := by rw [hz3]; exact bel_alloc _ _
  have C3 : Cur w0 a cap zs z3 g := by rw [hz3]; exact C2.alloc _
  have Q3 : Blk z3 B 46 #[.int .i64 kd2, .int .i64 fl2, .int .i64 pl2, .int .i64 nn2, .slice a12 l12 c12, .slice a22 l22 c22] := by rw [hz3, hB]; exact Blk.new _ _ _
  have R3 := R2.below bz
  have I3 := OwnI.below I2 bz
  have J3 := OwnB.below J2 bz
  have G3 := grown_trans G2 (grown_below bz (some g))
  clear hz3 hB bz C2 R2 I2 J2 G2
  go_wp2_with fail
  rw [← HU.out]
  simp only [← HBe.out]
  refine (l1Once_any w0 a cap zs _ g _ (by decide) C3).mono ?_
  rintro e z4 ⟨t, rfl, C4, gg⟩
  have G4 := grown_trans G3 gg
  have R4 := R3.grown gg (by have := HX.out; simp; omega)
  have Q4 := Q3.grown gg (by have := HX.out; have := HB.out; simp; omega)
  have I4 := OwnI.kept I3 gg (row_ne_g I3 HX.out.1)
  have J4 := OwnB.kept J3 gg (row_ne_g J3 HX.out.1)
  clear gg C3 G3 R3 Q3 I3 J3
  obtain ⟨q0, q1, q2, q3, q4, q5⟩ := Q4.six
  cases t
  · obtain ⟨y0, y1, y2, y3, y4, y5⟩ := R4.six
    have fy := R4.fro
    have HH := hide (show OwnI z4 w.heap.size (.slice a12 l12 c12) ws2 ∧ OwnB z4 w.heap.size (.slice a22 l22 c22) bs2 ∧ Cur w0 a cap zs z4 g ∧ w.grownBy z4 (some g) ∧ Blk z4 w.heap.size 46 #[.int .i64 0, .int .i64 0, .int .i64 0, .int .i64 0, .slice none 0 0, .slice none 0 0] from ⟨I4, J4, C4, G4, R4⟩)
    clear I4 J4 C4 G4 R4 Q4
    go_wp2
    refine bodyPost_ret (v := rp kd2 fl2 pl2 nn2 a12 a22 l12 l22 c12 c22) (by simp [results, Tryd.results36, go_sem, y0, y1, y2, y3, y4, y5]) rfl ?_
    obtain ⟨OI, OB, CE, GE, RE⟩ := HH.out
    exact ⟨_, _, _, _, _, _, _, _, _, _, ws2, bs2, rfl, HE2.out.1, HE2.out.2.1, by have := HE2.out; omega, by have := HE2.out; omega, rowp_set6 OI ⟨_, RE⟩ (by decide), rowp_set6 OB ⟨_, RE⟩ (by decide), st6_cur CE (by have := HX.out; omega) (by have := HX.out; omega), st6_grown GE (Nat.le_refl _)⟩
  · go_wp2_with fail
    refine (l4Bend_any w0 a cap zs z4 g kd2 fl2 pl2 nn2 a12 a22 l12 l22 c12 c22 ws2 bs2 w.heap.size HE2.out.1 HE2.out.2.1 (by have := HE2.out; omega) (by have := HE2.out; omega) HE2.out.2.2.2.2 HX.out.1 G4.size I4 J4 C4).mono ?_
    rintro e z5 ⟨kd5, fl5, pl5, nn5, a15, a25, l15, l25, c15, c25, ws5, bs5, rfl, e1, e2, m1, m2, I5, J5, C5, gg⟩
    have G5 := grown_trans G4 gg
    have R5 := R4.grown gg (by have := HX.out; simp; omega)
    have Q5 := Q4.grown gg (by have := HX.out; have := HB.out; simp; omega)
    have HE5 : Hid (l15 = ws5.length ∧ l25 = bs5.length ∧ l15 ≤ 1000 ∧ l25 ≤ 3000) := ⟨e1, e2, by have := HE2.out; omega, by have := HE2.out; omega⟩
    clear gg C4 G4 R4 Q4 I4 J4 e1 e2 m1 m2 q0 q1 q2 q3 q4 q5
    obtain ⟨q0, q1, q2, q3, q4, q5⟩ := Q5.six
    have fq := Q5.fro
    go_upto_region 4 with fail
    have Q6 : Blk ((((((z5.setCell ⟨B, 0, none⟩ (.int .i64 kd5)).setCell ⟨B, 1, none⟩ (.int .i64 fl5)).setCell ⟨B, 2, none⟩ (.int .i64 pl5)).setCell ⟨B, 3, none⟩ (.int .i64 nn5)).setCell ⟨B, 4, none⟩ (.slice a15 l15 c15)).setCell ⟨B, 5, none⟩ (.slice a25 l25 c25)) B 46 #[.int .i64 kd5, .int .i64 fl5, .int .i64 pl5, .int .i64 nn5, .slice a15 l15 c15, .slice a25 l25 c25] := Blk.set6 Q5
    have R6 : Blk ((((((z5.setCell ⟨B, 0, none⟩ (.int .i64 kd5)).setCell ⟨B, 1, none⟩ (.int .i64 fl5)).setCell ⟨B, 2, none⟩ (.int .i64 pl5)).setCell ⟨B, 3, none⟩ (.int .i64 nn5)).setCell ⟨B, 4, none⟩ (.slice a15 l15 c15)).setCell ⟨B, 5, none⟩ (.slice a25 l25 c25)) w.heap.size 46 #[.int .i64 0, .int .i64 0, .int .i64 0, .int .i64 0, .slice none 0 0, .slice none 0 0] := R5.setNe6 (by have := HB.out; omega)
    have I6 : OwnI ((((((z5.setCell ⟨B, 0, none⟩ (.int .i64 kd5)).setCell ⟨B, 1, none⟩ (.int .i64 fl5)).setCell ⟨B, 2, none⟩ (.int .i64 pl5)).setCell ⟨B, 3, none⟩ (.int .i64 nn5)).setCell ⟨B, 4, none⟩ (.slice a15 l15 c15)).setCell ⟨B, 5, none⟩ (.slice a25 l25 c25)) w.heap.size (.slice a15 l15 c15) ws5 := rowp_set6 I5 ⟨_, Q5⟩ (by decide)
    have J6 : OwnB ((((((z5.setCell ⟨B, 0, none⟩ (.int .i64 kd5)).setCell ⟨B, 1, none⟩ (.int .i64 fl5)).setCell ⟨B, 2, none⟩ (.int .i64 pl5)).setCell ⟨B, 3, none⟩ (.int .i64 nn5)).setCell ⟨B, 4, none⟩ (.slice a15 l15 c15)).setCell ⟨B, 5, none⟩ (.slice a25 l25 c25)) w.heap.size (.slice a25 l25 c25) bs5 := rowp_set6 J5 ⟨_, Q5⟩ (by decide)
    have C6 : Cur w0 a cap zs ((((((z5.setCell ⟨B, 0, none⟩ (.int .i64 kd5)).setCell ⟨B, 1, none⟩ (.int .i64 fl5)).setCell ⟨B, 2, none⟩ (.int .i64 pl5)).setCell ⟨B, 3, none⟩ (.int .i64 nn5)).setCell ⟨B, 4, none⟩ (.slice a15 l15 c15)).setCell ⟨B, 5, none⟩ (.slice a25 l25 c25)) g := st6_cur C5 (by have := HX.out; have := HB.out; omega) (by have := HX.out; have := HB.out; omega)
    have G6 : w.grownBy ((((((z5.setCell ⟨B, 0, none⟩ (.int .i64 kd5)).setCell ⟨B, 1, none⟩ (.int .i64 fl5)).setCell ⟨B, 2, none⟩ (.int .i64 pl5)).setCell ⟨B, 3, none⟩ (.int .i64 nn5)).setCell ⟨B, 4, none⟩ (.slice a15 l15 c15)).setCell ⟨B, 5, none⟩ (.slice a25 l25 c25)) (some g) := st6_grown G5 (by have := HB.out; omega)
    generalize ((((((z5.setCell ⟨B, 0, none⟩ (.int .i64 kd5)).setCell ⟨B, 1, none⟩ (.int .i64 fl5)).setCell ⟨B, 2, none⟩ (.int .i64 pl5)).setCell ⟨B, 3, none⟩ (.int .i64 nn5)).setCell ⟨B, 4, none⟩ (.slice a15 l15 c15)).setCell ⟨B, 5, none⟩ (.slice a25 l25 c25)) = z6 at *
    clear q0 q1 q2 q3 q4 q5 fq Q5 R5 I5 J5 C5 G5
    obtain ⟨q0, q1, q2, q3, q4, q5⟩ := Q6.six
    obtain ⟨y0, y1, y2, y3, y4, y5⟩ := R6.six
    have fy := R6.fro
    have HH := hide (show OwnI z6 w.heap.size (.slice a15 l15 c15) ws5 ∧ OwnB z6 w.heap.size (.slice a25 l25 c25) bs5 ∧ Cur w0 a cap zs z6 g ∧ w.grownBy z6 (some g) ∧ Blk z6 w.heap.size 46 #[.int .i64 0, .int .i64 0, .int .i64 0, .int .i64 0, .slice none 0 0, .slice none 0 0] from ⟨I6, J6, C6, G6, R6⟩)
    clear I6 J6 C6 G6 R6 Q6
    go_wp2
    refine bodyPost_ret (v := rp kd5 fl5 pl5 nn5 a15 a25 l15 l25 c15 c25) (by simp [results, Tryd.results36, go_sem, y0, y1, y2, y3, y4, y5]) rfl ?_
    obtain ⟨OI, OB, CE, GE, RE⟩ := HH.out
    exact ⟨_, _, _, _, _, _, _, _, _, _, ws5, bs5, rfl, HE5.out.1, HE5.out.2.1, HE5.out.2.2.1, HE5.out.2.2.2, rowp_set6 OI ⟨_, RE⟩ (by decide), rowp_set6 OB ⟨_, RE⟩ (by decide), st6_cur CE (by have := HX.out; omega) (by have := HX.out; omega), st6_grown GE (Nat.le_refl _)⟩

/-- A new answer. -/
def NewResp (w : World) (e : Ending) (w' : World) : Prop :=
  ∃ (kd fl pl nn : Int) (a1 a2 : Option Addr) (l1 l2 c1 c2 : Nat) (ws : List Int) (bs : List Bool), e = .returned (rp kd fl pl nn a1 a2 l1 l2 c1 c2) ∧ l1 = ws.length ∧ l2 = bs.length ∧ l1 ≤ 1000 ∧ l2 ≤ 3000 ∧ OwnI w' w.heap.size (.slice a1 l1 c1) ws ∧ OwnB w' w.heap.size (.slice a2 l2 c2) bs ∧ Below w.heap.size w w'

set_option maxRecDepth 20000 in
set_option maxHeartbeats 4000000 in
theorem drawPutResp_any (w : World) (a : Option Addr) (n cap : Nat) (zs : List Int) (hn : n = zs.length) (hs : Sl w a zs) (hr : ∀ z ∈ zs, 0 ≤ z ∧ z ≤ 255) (hl : zs.length ≤ 1048576) :
    Calls Tryd.prog 16 #[.slice a n cap] w fun e w' => NewResp w e w' := by
  obtain ⟨W0, hW0⟩ : ∃ W0, W0 = w.alloc (.cells #[.int .i64 0, .int .i64 0, .int .i64 0, .int .i64 0, .slice none 0 0, .slice none 0 0] 46) := ⟨_, rfl⟩
  have HW : Hid (W0 = _) := hW0
  have bw : Below w.heap.size w W0 := by rw [hW0]; exact bel_alloc _ _
  have hsz : W0.heap.size = w.heap.size + 1 := by rw [hW0]; simp
  have R0 : Blk W0 w.heap.size 46 #[.int .i64 0, .int .i64 0, .int .i64 0, .int .i64 0, .slice none 0 0, .slice none 0 0] := by rw [hW0]; exact Blk.new _ _ _
  have HS : Hid (Sl W0 a zs) := hs.below bw
  have HN : Hid (n = zs.length) := hn
  have HR : Hid (∀ z ∈ zs, 0 ≤ z ∧ z ≤ 255) := hr
  have HZ : Hid (W0.heap.size = w.heap.size + 1) := hsz
  have HB : Hid (Below w.heap.size w W0) := bw
  have HR0 : Hid (Blk W0 w.heap.size 46 #[.int .i64 0, .int .i64 0, .int .i64 0, .int .i64 0, .slice none 0 0, .slice none 0 0]) := R0
  clear hW0 hs hn hr hsz bw R0
  go_enter Tryd.func16, Tryd.ntmps16
  go_upto_region 1 with fail
  rw [← HW.out]
  go_wp2_with fail
  refine (l1New_any W0 a n cap zs HN.out HS.out HR.out hl).mono ?_
  rintro e z1 ⟨rfl, C1, _⟩
  obtain ⟨g, hg⟩ : ∃ g, g = W0.heap.size := ⟨_, rfl⟩
  rw [← hg] at C1
  simp only [← hg]
  have HG : Hid (g = W0.heap.size) := hg
  clear hg
  go_wp2_with fail
  refine (l4DrawAny_any W0 a cap zs z1 g C1).mono ?_
  rintro e z2 ⟨kd, fl, pl, nn, a1, a2, l1, l2, c1, c2, ws, bs, rfl, e1, e2, m1, m2, i, j, C2, gg⟩
  have R2 := HR0.out.below C2.bel
  obtain ⟨y0, y1, y2, y3, y4, y5⟩ := R2.six
  have fy := R2.fro
  have b2 := bel_next HB.out C2.bel
  have hz1 : w.heap.size ≤ z1.heap.size := by have := C1.bel.size; have := HB.out.size; omega
  have HH : Hid (OwnI z2 w.heap.size (.slice a1 l1 c1) ws ∧ OwnB z2 w.heap.size (.slice a2 l2 c2) bs ∧ Below w.heap.size w z2 ∧ Blk z2 w.heap.size 46 #[.int .i64 0, .int .i64 0, .int .i64 0, .int .i64 0, .slice none 0 0, .slice none 0 0]) := ⟨OwnI.mono i hz1, OwnB.mono j hz1, b2, R2⟩
  have HE : Hid (l1 = ws.length ∧ l2 = bs.length ∧ l1 ≤ 1000 ∧ l2 ≤ 3000) := ⟨e1, e2, m1, m2⟩
  clear e1 e2 m1 m2 i j C1 C2 gg R2 b2 hz1
  go_wp2
  refine bodyPost_ret (v := rp kd fl pl nn a1 a2 l1 l2 c1 c2) (by simp [results, Tryd.results16, go_sem, y0, y1, y2, y3, y4, y5]) rfl ?_
  obtain ⟨OI, OB, B2, RE⟩ := HH.out
  exact ⟨_, _, _, _, _, _, _, _, _, _, ws, bs, rfl, HE.out.1, HE.out.2.1, HE.out.2.2.1, HE.out.2.2.2, rowp_set6 OI ⟨_, RE⟩ (by decide), rowp_set6 OB ⟨_, RE⟩ (by decide), belp_set6 B2 (Nat.le_refl _)⟩

end Go.Proofs.YtoofkikenfgbpaaDoor

namespace Go.Proofs.YtoofkikenfgbpaaDoor
open Go.RowKit

set_option linter.unusedVariables false

set_option maxHeartbeats 4000000 in
theorem lawSameResp_t (kd fl pl nn : Int) (a1 a2 a1' a2' : Option Addr) (l1 l2 c1 c2 l1' l2' c1' c2' : Nat) (w : World) (ws : List Int) (h1 : l1 = ws.length) (h1' : l1' = ws.length) (s1 : SlI w a1 ws) (s1' : SlI w a1' ws) (hl1 : ws.length ≤ 2000000) (bs : List Bool) (h2 : l2 = bs.length) (h2' : l2' = bs.length) (s2 : SlB w a2 bs) (s2' : SlB w a2' bs) (hl2 : bs.length ≤ 2000000) :
    Calls Tryd.prog 21 #[rp kd fl pl nn a1 a2 l1 l2 c1 c2, rp kd fl pl nn a1' a2' l1' l2' c1' c2'] w fun e w' => e = .returned (.bool true) ∧ Below w.heap.size w w' := by
  obtain ⟨W0, hW0'⟩ : ∃ W0, W0 = (w.alloc (.cells #[.int .i64 kd, .int .i64 fl, .int .i64 pl, .int .i64 nn, .slice a1 l1 c1, .slice a2 l2 c2] 46)).alloc (.cells #[.int .i64 kd, .int .i64 fl, .int .i64 pl, .int .i64 nn, .slice a1' l1' c1', .slice a2' l2' c2'] 46) := ⟨_, rfl⟩
  have hW0 : Hid (W0 = _) := hW0'
  have B0 : Below w.heap.size w W0 := by rw [hW0']; exact bel_next (bel_alloc w _) (bel_alloc _ _)
  have X0 : Blk W0 w.heap.size 46 #[.int .i64 kd, .int .i64 fl, .int .i64 pl, .int .i64 nn, .slice a1 l1 c1, .slice a2 l2 c2] := by rw [hW0']; exact (Blk.new w _ _).below (bel_alloc _ _)
  have Y0 : Blk W0 (w.heap.size + 1) 46 #[.int .i64 kd, .int .i64 fl, .int .i64 pl, .int .i64 nn, .slice a1' l1' c1', .slice a2' l2' c2'] := by
    rw [hW0']; have := Blk.new (w.alloc (.cells #[.int .i64 kd, .int .i64 fl, .int .i64 pl, .int .i64 nn, .slice a1 l1 c1, .slice a2 l2 c2] 46)) #[.int .i64 kd, .int .i64 fl, .int .i64 pl, .int .i64 nn, .slice a1' l1' c1', .slice a2' l2' c2'] 46; simpa using this
  obtain ⟨x0, x1, x2, x3, x4, x5⟩ := X0.six
  obtain ⟨y0, y1, y2, y3, y4, y5⟩ := Y0.six
  have HH : Hid (l1 = ws.length ∧ l1' = ws.length ∧ SlI W0 a1 ws ∧ SlI W0 a1' ws) := ⟨h1, h1', s1.below B0, s1'.below B0⟩
  clear h1 h1' s1 s1'
  have HB : Hid (l2 = bs.length ∧ l2' = bs.length ∧ SlB W0 a2 bs ∧ SlB W0 a2' bs) := ⟨h2, h2', s2.below B0, s2'.below B0⟩
  clear h2 h2' s2 s2'
  clear hW0'
  go_enter Tryd.func21, Tryd.ntmps21
  go_upto_region 1 with fail
  rw [← hW0.out]
  go_wp2_with fail
  refine (sameInts_true _ _ _ _ _ _ ws _ HH.out.1 HH.out.2.1 HH.out.2.2.1 HH.out.2.2.2 hl1).mono ?_
  rintro e w1 ⟨rfl, n1, hw1⟩
  have b' : Below W0.heap.size W0 w1 := by rw [hw1]; exact drew_refl _ _
  have b1 := bel_next B0 b'
  obtain ⟨x0, x1, x2, x3, x4, x5⟩ := (X0.below b').six
  obtain ⟨y0, y1, y2, y3, y4, y5⟩ := (Y0.below b').six
  have HB1 : Hid (l2 = bs.length ∧ l2' = bs.length ∧ SlB w1 a2 bs ∧ SlB w1 a2' bs) := ⟨HB.out.1, HB.out.2.1, HB.out.2.2.1.below b', HB.out.2.2.2.below b'⟩
  clear hw1 b'
  go_wp2_with fail
  refine (sameBits_true _ _ _ _ _ _ bs _ HB1.out.1 HB1.out.2.1 HB1.out.2.2.1 HB1.out.2.2.2 (by omega)).mono ?_
  rintro e w2 ⟨rfl, n2, hw2⟩
  have b2' : Below w1.heap.size w1 w2 := by rw [hw2]; exact drew_refl _ _
  have b2 := bel_next b1 b2'
  clear hw2 b2'
  go_wp2
  go_ret
  exact ⟨rfl, b2⟩

end Go.Proofs.YtoofkikenfgbpaaDoor

namespace Go.Proofs.YtoofkikenfgbpaaDoor
open Go.RowKit

set_option maxHeartbeats 1000000 in
theorem at_any (w : World) (a : Option Addr) (n cap : Nat) (zs : List Int) (j : Int) (hj0 : 0 ≤ j) (hj : j ≤ 100) (hn : n = zs.length) (hs : Sl w a zs) (hr : ∀ z ∈ zs, 0 ≤ z ∧ z ≤ 255) (hl : zs.length ≤ 1048576) :
    Calls Tryd.prog 10 #[.slice a n cap, .int .i64 j] w fun e w' => ∃ x : Int, e = .returned (.int .i64 x) ∧ 0 ≤ x ∧ x ≤ 255 ∧ w' = w := by
  subst hn
  obtain ⟨k, rfl⟩ := Int.eq_ofNat_of_zero_le hj0
  by_cases hlt : k < zs.length
  · obtain ⟨b, off, rfl, _, hc⟩ := cell_at hs hlt
    have rg := get_range hr k
    generalize zs.getD k 0 = z at *
    have hi' : (k : Int) < (zs.length : Int) := by omega
    clear hs hr
    go_enter Tryd.func10, Tryd.ntmps10
    go_wp2
    go_ret
    exact ⟨z, rfl, rg.1, rg.2, rfl⟩
  · have hi' : ¬ (k : Int) < (zs.length : Int) := by omega
    clear hs hr
    go_enter Tryd.func10, Tryd.ntmps10
    go_wp2
    go_ret
    exact ⟨_, rfl, by omega, by omega, rfl⟩

end Go.Proofs.YtoofkikenfgbpaaDoor

namespace Go.Proofs.YtoofkikenfgbpaaDoor
open Go.RowKit

set_option linter.unusedVariables false

set_option linter.unusedSimpArgs false

theorem own_capT {w : World} {base n c : Nat} {a : Option Addr} {zs : List Int} (h : Own w base (.slice a n c) zs) : n ≤ c := by
  rcases h.2 with ⟨e, _⟩ | ⟨g, cap', cur, hv, _, hh, h3, _⟩
  · simp at e; omega
  · simp at hv; omega

theorem own_shapeT {w : World} {base : Nat} {v : Value} {zs : List Int} (h : Own w base v zs) : ∃ a c n, v = .slice a n c ∧ n = zs.length := by
  obtain ⟨_, h2⟩ := h
  rcases h2 with ⟨hv, h3⟩ | ⟨g, cap, cur, hv, hg, hh, _⟩
  · exact ⟨none, 0, 0, hv, h3.symm⟩
  · exact ⟨_, cap, _, hv, rfl⟩

theorem sl_takeT {w : World} {a : Option Addr} {zs : List Int} (h : Sl w a zs) (m : Nat) : Sl w a (zs.take m) := by
  rcases h with h | ⟨b, off, e, hb, hc⟩
  · subst h; simp; exact .inl rfl
  · refine .inr ⟨b, off, e, hb, fun i hi => ?_⟩
    rw [List.length_take] at hi
    rw [getD_take (by omega)]
    exact hc i (by omega)

/-- An answer's bytes are few. -/
theorem putA_few {kd fl pl nn : Int} {ws : List Int} {bs : List Bool} (hb : okA kd fl pl nn ws ws.length bs.length = true) : (putA kd fl pl nn ws bs).length ≤ 300 := by
  obtain ⟨h2, hl⟩ := putA_plen hb
  have h1 := putA_rgT hb
  have hy : (putA kd fl pl nn ws bs).getD 1 0 ≤ 255 := by
    have := h1 _ (List.getElem_mem (n := 1) (by omega))
    rw [List.getD_eq_getElem?_getD, List.getElem?_eq_getElem (by omega)]
    exact this.2
  unfold plen at hl
  split at hl
  · omega
  · split at hl
    · omega
    · split at hl <;> omega

/-- A fault of a right answer's kind is right. -/
theorem okA_fault {kd fl pl nn f : Int} {ws : List Int} {l1 l2 : Nat} (hb : okA kd fl pl nn ws l1 l2 = true) (hf : 1 ≤ f ∧ f ≤ 255) : okA kd f 0 0 [] 0 0 = true := by
  unfold okA at hb ⊢
  simp only [Bool.and_eq_true] at hb
  simp [hb.1, inB, zr4, allW]
  omega

set_option maxRecDepth 20000 in
set_option maxHeartbeats 4000000 in
theorem told_law (a : Option Addr) (n cap : Nat) (zs : List Int) (w : World) (hE : Eh w) (hn : n = zs.length) (hs : Sl w a zs) (hr : ∀ z ∈ zs, 0 ≤ z ∧ z ≤ 255) (hl : n ≤ 1048576) :
    Calls Tryd.prog 4 #[.slice a n cap] w fun e w' => e = .returned (.bool true) ∧ Below w.heap.size w w' := by
  have HN : Hid (n = zs.length ∧ zs.length ≤ 1048576) := by show _ ∧ _; omega
  have HR : Hid (∀ z ∈ zs, 0 ≤ z ∧ z ≤ 255) := hr
  have HS : Hid (Sl w a zs) := hs
  have HEh : Hid (Eh w) := hE
  have f0 : ¬ ((1048576 : Int) < (n : Int)) := by omega
  have f0' : ¬ ((n : Int) > 1048576) := by omega
  clear hn hs hr hE
  go_enter Tryd.func4, Tryd.ntmps4
  go_wp2_with (first | (go_at_call 5; go_in) | fail)
  refine (drawPutResp_any w a n cap zs HN.out.1 HS.out HR.out HN.out.2).mono ?_
  rintro e z1 ⟨kd, fl, pl, nn, a1, a2, l1, l2, c1, c2, ws, bs, rfl, e1, e2, m1, m2, i, j, b1⟩
  have HE : Hid (l1 = ws.length ∧ l2 = bs.length ∧ ws.length ≤ 1000 ∧ bs.length ≤ 3000) := by show _ ∧ _; omega
  obtain ⟨z2, hz2⟩ : ∃ z2, z2 = z1.alloc (.cells #[.int .i64 kd, .int .i64 fl, .int .i64 pl, .int .i64 nn, .slice a1 l1 c1, .slice a2 l2 c2] 46) := ⟨_, rfl⟩
  have HU : Hid (z2 = _) := hz2
  obtain ⟨B, hB⟩ : ∃ B, B = z1.heap.size := ⟨_, rfl⟩
  have HBe : Hid (B = z1.heap.size) := hB
  have bz : Below z1.heap.size z1 z2 := by rw [hz2]; exact bel_alloc _ _
  have X2 : Blk z2 B 46 #[.int .i64 kd, .int .i64 fl, .int .i64 pl, .int .i64 nn, .slice a1 l1 c1, .slice a2 l2 c2] := by rw [hz2, hB]; exact Blk.new _ _ _
  have b2 := bel_next b1 bz
  have I2 := OwnI.below i bz
  have J2 := OwnB.below j bz
  clear hz2 hB bz b1 i j e1 e2 m1 m2
  go_upto_region 4 with fail
  rw [← HU.out]
  simp only [← HBe.out]
  clear HU HBe
  obtain ⟨x0, x1, x2, x3, x4, x5⟩ := X2.six
  go_wp2_with fail
  refine (implPutA_q kd fl pl nn a1 a2 l1 l2 c1 c2 ws bs _ HE.out.1 HE.out.2.1 I2.sl.2 J2.sl.2 (by have := HE.out; omega) (by have := HE.out; omega)).mono ?_
  rintro e z3 ⟨ab, cb, nb, rfl, hnb, ob, b'⟩
  have HNB : Hid (nb = (putAV (okA kd fl pl nn ws l1 l2) kd fl pl nn ws bs).length) := hnb
  have b3 := bel_next b2 b'
  have I3 := OwnI.below I2 b'
  have J3 := OwnB.below J2 b'
  have X3 := X2.below b'
  have O3 := own_mono ob b2.size
  clear b2 I2 J2 X2 b' hnb ob x0 x1 x2 x3 x4 x5
  obtain ⟨x0, x1, x2, x3, x4, x5⟩ := X3.six
  go_wp2_with fail
  refine (specRespOk_q kd fl pl nn a1 a2 l1 l2 c1 c2 ws bs _ HE.out.1 HE.out.2.1 I3.sl.2 J3.sl.2 (by have := HE.out; omega) (by have := HE.out; omega)).mono ?_
  rintro e z4 ⟨rfl, b'⟩
  have b4 := bel_next b3 b'
  have I4 := OwnI.below I3 b'
  have J4 := OwnB.below J3 b'
  have X4 := X3.below b'
  have O4 := Own.below O3 b'
  clear b3 I3 J3 X3 O3 b' x0 x1 x2 x3 x4 x5
  obtain ⟨x0, x1, x2, x3, x4, x5⟩ := X4.six
  cases hok : okA kd fl pl nn ws l1 l2
  · rw [hok] at HNB O4
    obtain rfl : nb = 0 := HNB.out
    go_wp2_with fail
    refine (implRespOk_q kd fl pl nn a1 a2 l1 l2 c1 c2 ws bs _ HE.out.1 HE.out.2.1 I4.sl.2 J4.sl.2 (by have := HE.out; omega) (by have := HE.out; omega)).mono ?_
    rintro e z6 ⟨rfl, b'⟩
    rw [hok]
    have b6 := bel_next b4 b'
    clear b4 I4 J4 X4 b' x0 x1 x2 x3 x4 x5
    go_wp2
    go_ret
    exact ⟨rfl, b6⟩
  · rw [hok] at HNB O4
    have HOK : Hid (okA kd fl pl nn ws ws.length bs.length = true) := by show _ = true; rw [← HE.out.1, ← HE.out.2.1]; exact hok
    obtain ⟨L, hL⟩ : ∃ L, L = putA kd fl pl nn ws bs := ⟨_, rfl⟩
    have HL : Hid (L = putA kd fl pl nn ws bs) := hL
    have HNB2 : Hid (nb = L.length) := by show nb = L.length; rw [hL]; exact HNB.out
    have O5 : Own z4 w.heap.size (.slice ab nb cb) L := by rw [hL]; exact O4
    have HRL : Hid (∀ z ∈ L, 0 ≤ z ∧ z ≤ 255) := by show ∀ z ∈ L, _; rw [hL]; exact putA_rgT HOK.out
    have HL5 : Hid (2 ≤ L.length ∧ L.length ≤ 300) := by
      show _ ∧ _
      rw [hL]
      exact ⟨(putA_plen HOK.out).1, putA_few HOK.out⟩
    clear O4 HNB hL
    obtain ⟨gb, cb', hvb, hgb1, hgb2⟩ := own_some O5 (by have := HL5.out; omega)
    have hcb := own_capT O5
    simp at hvb
    obtain ⟨rfl, hvb2, rfl⟩ := hvb
    obtain ⟨m, rfl⟩ : ∃ m, nb = m + 1 := ⟨nb - 1, by have := HL5.out; have := HNB2.out; omega⟩
    have HCB : Hid (m + 1 ≤ cb ∧ m + 1 ≤ 300) := ⟨hcb, by have := HL5.out; have := HNB2.out; omega⟩
    clear hvb2 hcb
    go_wp2_with fail
    refine (implGetA_q _ (m + 1) cb L _ HNB2.out O5.sl.2 HRL.out (by have := HCB.out; omega) HCB.out.1 (HEh.out.below b4)).mono ?_
    rintro e z6 h'
    obtain ⟨a1x, a2x, l1x, l2x, c1x, c2x, rfl, e1', e2', i', j', b'⟩ := gz_back HOK.out (HL.out ▸ h')
    have HEx : Hid (l1x = ws.length ∧ l2x = bs.length) := ⟨e1', e2'⟩
    have b6 := bel_next b4 b'
    have I6 := OwnI.below I4 b'
    have J6 := OwnB.below J4 b'
    have X6 := X4.below b'
    have O6 := Own.below O5 b'
    obtain ⟨z7, hz7⟩ : ∃ z7, z7 = z6.alloc (.cells #[.int .i64 kd, .int .i64 fl, .int .i64 pl, .int .i64 nn, .slice a1x l1x c1x, .slice a2x l2x c2x] 46) := ⟨_, rfl⟩
    have HU : Hid (z7 = _) := hz7
    obtain ⟨Bx, hBx⟩ : ∃ Bx, Bx = z6.heap.size := ⟨_, rfl⟩
    have HBe : Hid (Bx = z6.heap.size) := hBx
    have bz : Below z6.heap.size z6 z7 := by rw [hz7]; exact bel_alloc _ _
    have Y7 : Blk z7 Bx 46 #[.int .i64 kd, .int .i64 fl, .int .i64 pl, .int .i64 nn, .slice a1x l1x c1x, .slice a2x l2x c2x] := by rw [hz7, hBx]; exact Blk.new _ _ _
    have b7 := bel_next b6 bz
    have I7 := OwnI.below I6 bz
    have J7 := OwnB.below J6 bz
    have M7 := OwnI.below i' bz
    have N7 := OwnB.below j' bz
    have X7 := X6.below bz
    have O7 := Own.below O6 bz
    clear hz7 hBx bz b4 b6 I4 J4 X4 O5 I6 J6 X6 O6 i' j' b' h' e1' e2' x0 x1 x2 x3 x4 x5
    go_upto_region 8 with fail
    rw [← HU.out]
    simp only [← HBe.out]
    clear HU HBe
    have ecut : Hid (m = (L.take m).length) := by show m = _; have := HNB2.out; rw [List.length_take]; omega
    have HCut : Hid (∀ z ∈ L.take m, 0 ≤ z ∧ z ≤ 255) := fun z hz => HRL.out z (List.mem_of_mem_take hz)
    have HS7 : Hid (Sl z7 (some ⟨gb, 0, none⟩) (L.take m)) := sl_takeT O7.sl.2 m
    have hm63 : m ≤ 300 := by have := HCB.out; omega
    have hmc : m ≤ cb := by have := HCB.out; omega
    have hsub : ((m + 1 : Nat) : Int) - 1 = (m : Int) := by omega
    go_wp2_with fail
    refine (implGetA_q _ m cb (L.take m) _ ecut.out HS7.out HCut.out (by omega) hmc (HEh.out.below b7)).mono ?_
    rintro e z8 h'
    obtain ⟨cd, hcd, a1y, a2y, l1y, l2y, c1y, c2y, rfl, e1', e2', i', j', b'⟩ := gz_cut HOK.out (by rw [← HL.out, show L.length - 1 = m from by have := HNB2.out; omega]; exact h')
    have b8 := bel_next b7 b'
    have I8 := OwnI.below I7 b'
    have J8 := OwnB.below J7 b'
    have M8 := OwnI.below M7 b'
    have N8 := OwnB.below N7 b'
    have X8 := X7.below b'
    have Y8 := Y7.below b'
    have O8 := Own.below O7 b'
    obtain ⟨z9, hz9⟩ : ∃ z9, z9 = z8.alloc (.cells #[.int .i64 0, .int .i64 0, .int .i64 0, .int .i64 0, .slice a1y l1y c1y, .slice a2y l2y c2y] 46) := ⟨_, rfl⟩
    have HU : Hid (z9 = _) := hz9
    have bz : Below z8.heap.size z8 z9 := by rw [hz9]; exact bel_alloc _ _
    have b9 := bel_next b8 bz
    have I9 := OwnI.below I8 bz
    have J9 := OwnB.below J8 bz
    have M9 := OwnI.below M8 bz
    have N9 := OwnB.below N8 bz
    have X9 := X8.below bz
    have Y9 := Y8.below bz
    have O9 := Own.below O8 bz
    clear hz9 bz b7 b8 I7 J7 M7 N7 X7 Y7 O7 I8 J8 M8 N8 X8 Y8 O8 i' j' b' h' e1' e2' HS7 HCut ecut hmc hsub
    go_upto_region 9 with fail
    rw [← HU.out]
    clear HU
    have E9 : Own (z9.alloc (.cells #[] 5)) z9.heap.size (.slice (some ⟨z9.heap.size, 0, none⟩) 0 0) [] := ⟨rfl, .inr ⟨z9.heap.size, 0, #[], rfl, Nat.le_refl _, Blk.new z9 #[] 5, by simp, by simp, rfl, rfl⟩⟩
    have q9 := bel_alloc z9 (.cells #[] 5)
    have S9 : Hid (Sl (z9.alloc (.cells #[] 5)) (some ⟨gb, 0, none⟩) L) := O9.sl.2.below q9
    go_wp2_with (first
      | (at_builtin; refine wpList_app rfl (.tmp 46) (.tmp 47) rfl z9.heap.size (.slice (some ⟨z9.heap.size, 0, none⟩) 0 0) [] rfl E9 ⟨gb, 0, none⟩ (m + 1) cb L rfl HNB2.out S9.out (by have := HL5.out; simp; omega) q9.size ?_; intro v' zA EA gA; obtain ⟨ea, ec, en, rfl, hen⟩ := own_shapeT EA; have qA := below_own q9 E9 gA (Nat.le_refl _) q9.size; have qA1 := bel_next qA (bel_alloc zA (.cells #[.int .u8 0] 5)); clear hen gA)
      | (at_builtin; refine wpList_app rfl (.tmp 48) (.tmp 49) rfl z9.heap.size (.slice ea en ec) ([] ++ L) rfl (Own.below EA (bel_alloc _ _)) ⟨zA.heap.size, 0, none⟩ 1 1 [0] rfl rfl (sl_lit1 _ _ rfl) (by have := HL5.out; simp; omega) qA1.size ?_; intro v' zB EB gB; obtain ⟨fa, fc, fn, rfl, hfn⟩ := own_shapeT EB; have qB := below_own qA1 (Own.below EA (bel_alloc _ _)) gB (Nat.le_refl _) qA1.size; have HFN : Hid (fn = ([] ++ L ++ [0]).length) := hfn; clear hfn gB))
    have HC10 : Hid (fn ≤ fc) := own_capT EB
    have HM10 : Hid (∀ z ∈ L ++ [0], 0 ≤ z ∧ z ≤ 255) := by
      intro z hz
      rcases List.mem_append.mp hz with h | h
      · exact HRL.out z h
      · simp at h; omega
    have SB : Hid (Sl zB fa (L ++ [0])) := EB.sl.2
    have HFN' : Hid (fn = (L ++ [0]).length) := HFN.out
    have b10 := bel_next b9 qB
    have I10 := OwnI.below I9 qB
    have J10 := OwnB.below J9 qB
    have M10 := OwnI.below M9 qB
    have N10 := OwnB.below N9 qB
    have X10 := X9.below qB
    have Y10 := Y9.below qB
    clear b9 I9 J9 M9 N9 X9 Y9 O9 E9 q9 S9 EA qA qA1 EB qB HFN
    refine (implGetA_q _ fn fc (L ++ [0]) _ HFN'.out SB.out HM10.out (by have h := HFN'.out; have := HL5.out; rw [List.length_append] at h; simp at h; omega) HC10.out (HEh.out.below b10)).mono ?_
    rintro e z11 h'
    obtain ⟨ce, hce, a1u, a2u, l1u, l2u, c1u, c2u, rfl, e1', e2', i', j', b'⟩ := gz_more HOK.out (HL.out ▸ h')
    have b11 := bel_next b10 b'
    have I11 := OwnI.below I10 b'
    have J11 := OwnB.below J10 b'
    have M11 := OwnI.below M10 b'
    have N11 := OwnB.below N10 b'
    have X11 := X10.below b'
    have Y11 := Y10.below b'
    obtain ⟨z12, hz12⟩ : ∃ z12, z12 = z11.alloc (.cells #[.int .i64 0, .int .i64 0, .int .i64 0, .int .i64 0, .slice a1u l1u c1u, .slice a2u l2u c2u] 46) := ⟨_, rfl⟩
    have HU : Hid (z12 = _) := hz12
    have bz : Below z11.heap.size z11 z12 := by rw [hz12]; exact bel_alloc _ _
    have b12 := bel_next b11 bz
    have I12 := OwnI.below I11 bz
    have J12 := OwnB.below J11 bz
    have M12 := OwnI.below M11 bz
    have N12 := OwnB.below N11 bz
    have X12 := X11.below bz
    have Y12 := Y11.below bz
    clear hz12 bz b10 b11 I10 J10 M10 N10 X10 Y10 I11 J11 M11 N11 X11 Y11 i' j' b' h' e1' e2' HC10 HM10 SB HFN'
    go_upto_region 10 with fail
    rw [← HU.out]
    clear HU
    obtain ⟨x0, x1, x2, x3, x4, x5⟩ := X12.six
    have HOKl : Hid (okA kd fl pl nn ws l1 l2 = true) := hok
    have HCD : Hid (cd ≠ 0 ∧ ce ≠ 0) := ⟨hcd, hce⟩
    clear hok hcd hce HNB2 HL5 HCB HRL hgb1 hgb2 hm63
    have AT : Hid (∀ u : World, Below w.heap.size w u → Calls Tryd.prog 10 #[.slice a n cap, .int .i64 2] u fun e w' => ∃ y : Int, e = .returned (.int .i64 y) ∧ 0 ≤ y ∧ y ≤ 255 ∧ w' = u) := fun u hb => at_any u a n cap zs 2 (by decide) (by decide) HN.out.1 (HS.out.below hb) HR.out HN.out.2
    have hB12 : B < z12.heap.size := by
      rcases Nat.lt_or_ge B z12.heap.size with h | h
      · exact h
      · simp [World.cell?, Array.getElem?_eq_none h] at x0
    go_region_held3 (fun w' => w'.cell? ⟨B, 0, none⟩ = some (.int .i64 kd)) (go_keep)
      (first | (go_at_call 10; refine (AT.out _ (by first | exact b12 | exact b12.drew | exact bel_next b12 (bel_alloc _ _) | exact (bel_next b12 (bel_alloc _ _)).drew | exact bel_next b12.drew (bel_alloc _ _) | exact (bel_next b12.drew (bel_alloc _ _)).drew)).mono ?_; rintro e u ⟨y, rfl, hy0, hy1, rfl⟩))
    all_goals
      (generalize hF : IntKind.i64.wrap (1 + y.tmod 255) = F
       have HF : Hid (1 ≤ F ∧ F ≤ 255) := by
         show _ ∧ _
         rw [← hF, Int.tmod_eq_emod_of_nonneg hy0, wraps_i64' _ (by omega) (by omega)]
         omega
       have HOKf : Hid (okA kd F 0 0 [] ([] : List Int).length ([] : List Bool).length = true) := okA_fault HOKl.out HF.out
       obtain ⟨z13, hz13⟩ : ∃ z13, z13 = (z12.alloc (.cells #[.int .i64 kd, .int .i64 F, .int .i64 0, .int .i64 0, .slice none 0 0, .slice none 0 0] 46)).drew := ⟨_, rfl⟩
       rw [← hz13]
       have b' : Below z12.heap.size z12 z13 := by rw [hz13]; exact (bel_alloc _ _).drew
       have F13 : Blk z13 z12.heap.size 46 #[.int .i64 kd, .int .i64 F, .int .i64 0, .int .i64 0, .slice none 0 0, .slice none 0 0] := by rw [hz13]; exact Blk.new _ _ _
       obtain ⟨Bf, hBf⟩ : ∃ Bf, Bf = z12.heap.size := ⟨_, rfl⟩
       rw [← hBf] at F13 ⊢
       have b13 := bel_next b12 b'
       have I13 := OwnI.below I12 b'
       have J13 := OwnB.below J12 b'
       have M13 := OwnI.below M12 b'
       have N13 := OwnB.below N12 b'
       have X13 := Blk.below X12 b'
       have Y13 := Blk.below Y12 b'
       clear hz13 hBf b' b12 I12 J12 M12 N12 X12 Y12 x0 x1 x2 x3 x4 x5 hF hy0 hy1 hB12
       obtain ⟨g0, g1, g2, g3, g4, g5⟩ := F13.six
       go_wp2_with fail
       refine (implPutA_q kd F 0 0 none none 0 0 0 0 [] [] _ rfl rfl (.inl rfl) (.inl rfl) (by simp) (by simp)).mono ?_
       rintro e z14 ⟨af, cf, nf, rfl, hnf, of, b'⟩
       rw [show okA kd F 0 0 [] 0 0 = true from HOKf.out] at hnf of
       have HNF : Hid (nf = (putA kd F 0 0 [] []).length) := hnf
       have OF : Hid (Own z14 z13.heap.size (.slice af nf cf) (putA kd F 0 0 [] [])) := of
       have b14 := bel_next b13 b'
       have I14 := OwnI.below I13 b'
       have J14 := OwnB.below J13 b'
       have M14 := OwnI.below M13 b'
       have N14 := OwnB.below N13 b'
       have X14 := Blk.below X13 b'
       have Y14 := Blk.below Y13 b'
       have F14 := F13.below b'
       clear hnf of b' b13 I13 J13 M13 N13 X13 Y13 F13 g0 g1 g2 g3 g4 g5
       go_wp2_with fail
       refine (implGetA_q _ nf cf (putA kd F 0 0 [] []) _ HNF.out OF.out.sl.2 (putA_rgT HOKf.out) (by have := putA_few HOKf.out; have := HNF.out; omega) (own_capT OF.out) (HEh.out.below b14)).mono ?_
       rintro e z15 h'
       obtain ⟨a1v, a2v, l1v, l2v, c1v, c2v, rfl, e1', e2', i', j', b'⟩ := gz_back HOKf.out h'
       have HEv : Hid (l1v = ([] : List Int).length ∧ l2v = ([] : List Bool).length) := ⟨e1', e2'⟩
       have b15 := bel_next b14 b'
       have I15 := OwnI.below I14 b'
       have J15 := OwnB.below J14 b'
       have M15 := OwnI.below M14 b'
       have N15 := OwnB.below N14 b'
       have X15 := Blk.below X14 b'
       have Y15 := Blk.below Y14 b'
       have F15 := F14.below b'
       obtain ⟨z16, hz16⟩ : ∃ z16, z16 = z15.alloc (.cells #[.int .i64 kd, .int .i64 F, .int .i64 0, .int .i64 0, .slice a1v l1v c1v, .slice a2v l2v c2v] 46) := ⟨_, rfl⟩
       have HU : Hid (z16 = _) := hz16
       obtain ⟨Bv, hBv⟩ : ∃ Bv, Bv = z15.heap.size := ⟨_, rfl⟩
       have HBe : Hid (Bv = z15.heap.size) := hBv
       clear b'
       have b' : Below z15.heap.size z15 z16 := by rw [hz16]; exact bel_alloc _ _
       have V16 : Blk z16 Bv 46 #[.int .i64 kd, .int .i64 F, .int .i64 0, .int .i64 0, .slice a1v l1v c1v, .slice a2v l2v c2v] := by rw [hz16, hBv]; exact Blk.new _ _ _
       have b16 := bel_next b15 b'
       have I16 := OwnI.below I15 b'
       have J16 := OwnB.below J15 b'
       have M16 := OwnI.below M15 b'
       have N16 := OwnB.below N15 b'
       have X16 := Blk.below X15 b'
       have Y16 := Blk.below Y15 b'
       have F16 := F15.below b'
       have S16 : SlI z16 a1v [] := .inl rfl
       have T16 : SlB z16 a2v [] := .inl rfl
       clear hz16 hBv b' b14 b15 I14 J14 M14 N14 X14 Y14 F14 I15 J15 M15 N15 X15 Y15 F15 e1' e2' i' j' h' HNF OF
       go_upto_region 12 with fail
       rw [← HU.out]
       simp only [← HBe.out]
       clear HU HBe
       obtain ⟨x0, x1, x2, x3, x4, x5⟩ := X16.six
       obtain ⟨y0, y1, y2, y3, y4, y5⟩ := Y16.six
       obtain ⟨g0, g1, g2, g3, g4, g5⟩ := F16.six
       obtain ⟨v0, v1, v2, v3, v4, v5⟩ := V16.six
       have d16 : Below z16.heap.size z16 z16.drew := (Below.refl _ _).drew
       obtain ⟨hcd, hce⟩ := HCD.out
       clear HCD hl HN HR HS HEh AT
       go_wp2_with fail
       refine (lawSameResp_t kd fl pl nn a1x a2x a1 a2 l1x l2x c1x c2x l1 l2 c1 c2 _ ws HEx.out.1 HE.out.1 (by first | exact M16.sl.2 | exact (OwnI.below M16 d16).sl.2) (by first | exact I16.sl.2 | exact (OwnI.below I16 d16).sl.2) (by have := HE.out; omega) bs HEx.out.2 HE.out.2.1 (by first | exact N16.sl.2 | exact (OwnB.below N16 d16).sl.2) (by first | exact J16.sl.2 | exact (OwnB.below J16 d16).sl.2) (by have := HE.out; omega)).mono ?_
       rintro e zA ⟨rfl, bA⟩
       have BA := bel_next (w0 := w) (by first | exact b16 | exact b16.drew) bA
       have IA := OwnI.below (by first | exact I16 | exact OwnI.below I16 d16) bA
       have JA := OwnB.below (by first | exact J16 | exact OwnB.below J16 d16) bA
       have XA := Blk.below (by first | exact X16 | exact Blk.below X16 d16) bA
       have YA := Blk.below (by first | exact Y16 | exact Blk.below Y16 d16) bA
       have FA := Blk.below (by first | exact F16 | exact Blk.below F16 d16) bA
       have VA := Blk.below (by first | exact V16 | exact Blk.below V16 d16) bA
       obtain ⟨xa0, xa1, xa2, xa3, xa4, xa5⟩ := XA.six
       obtain ⟨ya0, ya1, ya2, ya3, ya4, ya5⟩ := YA.six
       obtain ⟨ga0, ga1, ga2, ga3, ga4, ga5⟩ := FA.six
       obtain ⟨va0, va1, va2, va3, va4, va5⟩ := VA.six
       clear bA
       go_wp2_with fail
       refine (lawSameResp_t kd F 0 0 a1v a2v none none l1v l2v c1v c2v 0 0 0 0 _ [] HEv.out.1 rfl (.inl rfl) (.inl rfl) (by simp) [] HEv.out.2 rfl (.inl rfl) (.inl rfl) (by simp)).mono ?_
       rintro e zB ⟨rfl, bB⟩
       have BB := bel_next (w0 := w) (by first | exact BA | exact BA.drew) bB
       have IB := OwnI.below (by first | exact IA | exact OwnI.below IA (Below.refl _ _).drew) bB
       have JB := OwnB.below (by first | exact JA | exact OwnB.below JA (Below.refl _ _).drew) bB
       have XB := Blk.below (by first | exact XA | exact Blk.below XA (Below.refl _ _).drew) bB
       have YB := Blk.below (by first | exact YA | exact Blk.below YA (Below.refl _ _).drew) bB
       have FB := Blk.below (by first | exact FA | exact Blk.below FA (Below.refl _ _).drew) bB
       have VB := Blk.below (by first | exact VA | exact Blk.below VA (Below.refl _ _).drew) bB
       obtain ⟨xb0, xb1, xb2, xb3, xb4, xb5⟩ := XB.six
       obtain ⟨yb0, yb1, yb2, yb3, yb4, yb5⟩ := YB.six
       obtain ⟨gb0, gb1, gb2, gb3, gb4, gb5⟩ := FB.six
       obtain ⟨vb0, vb1, vb2, vb3, vb4, vb5⟩ := VB.six
       clear bB
       go_wp2_with fail
       refine (implRespOk_q kd fl pl nn a1 a2 l1 l2 c1 c2 ws bs _ HE.out.1 HE.out.2.1 (by first | exact IB.sl.2 | exact (OwnI.below IB (Below.refl _ _).drew).sl.2) (by first | exact JB.sl.2 | exact (OwnB.below JB (Below.refl _ _).drew).sl.2) (by have := HE.out; omega) (by have := HE.out; omega)).mono ?_
       rintro e zC ⟨he, bC⟩
       rw [HOKl.out] at he
       subst he
       have BC := bel_next (w0 := w) (by first | exact BB | exact BB.drew) bC
       obtain ⟨xc0, xc1, xc2, xc3, xc4, xc5⟩ := (Blk.below (by first | exact XB | exact XB.below (Below.refl _ _).drew) bC).six
       obtain ⟨yc0, yc1, yc2, yc3, yc4, yc5⟩ := (Blk.below (by first | exact YB | exact YB.below (Below.refl _ _).drew) bC).six
       obtain ⟨gc0, gc1, gc2, gc3, gc4, gc5⟩ := (Blk.below (by first | exact FB | exact FB.below (Below.refl _ _).drew) bC).six
       obtain ⟨vc0, vc1, vc2, vc3, vc4, vc5⟩ := (Blk.below (by first | exact VB | exact VB.below (Below.refl _ _).drew) bC).six
       clear bC
       go_wp2
       go_ret
       refine ⟨?_, BC⟩
       show Ending.returned (.bool (cd != 0 && ce != 0)) = _
       rw [show (cd != 0) = true from by simpa using hcd, show (ce != 0) = true from by simpa using hce]
       rfl)

end Go.Proofs.YtoofkikenfgbpaaDoor
