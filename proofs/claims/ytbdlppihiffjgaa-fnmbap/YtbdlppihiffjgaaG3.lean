/- Questions out of bytes: the program. -/
import Derived.Test.YtbdlppihiffjgaaG2
import Derived.Test.YtbdlppihiffjgaaUnp2
import Derived.Test.YtbdlppihiffjgaaR6
import Derived.Lib.MinMax
namespace Go.Proofs.Ytbdlppihiffjgaa
open Go.RowKit

set_option linter.unusedVariables false

set_option linter.unusedSimpArgs false

/-- Bools in memory of the call's own, or none. -/
def NwB (w w' : World) (e : Ending) (bs : List Bool) : Prop := ∃ a c n, e = .returned (.slice a n c) ∧ n = bs.length ∧ OwnB w' w.heap.size (.slice a n c) bs ∧ Below w.heap.size w w'

theorem sl_drop {w : World} {b off : Nat} {zs : List Int} (h : Sl w (some ⟨b, off, none⟩) zs) (k : Nat) : Sl w (some ⟨b, off + k, none⟩) (zs.drop k) := by
  rcases h with h | ⟨b', off', e, hb, hc⟩
  · subst h; exact .inl (by simp)
  · simp at e
    obtain ⟨rfl, rfl⟩ := e
    refine .inr ⟨_, _, rfl, hb, fun i hi => ?_⟩
    simp at hi
    rw [show off + k + i = off + (k + i) from by omega, hc (k + i) (by omega)]
    simp [List.getD_eq_getElem?_getD]

theorem drop_rg {zs : List Int} (hr : ∀ z ∈ zs, 0 ≤ z ∧ z ≤ 255) (k : Nat) : ∀ z ∈ zs.drop k, 0 ≤ z ∧ z ≤ 255 := fun z hz => hr z (List.mem_of_mem_drop hz)

theorem ownB_lit1 (w : World) (x : Bool) (B g : Nat) (hB : B ≤ w.heap.size) (hg : g = w.heap.size) : OwnB (w.alloc (.cells #[.bool x] 4)) B (.slice (some ⟨g, 0, none⟩) 1 1) [x] := by
  subst hg
  exact ⟨rfl, .inr ⟨w.heap.size, 1, #[.bool x], rfl, hB, Blk.new w _ _, by simp, by unfold maxLen; omega, rfl, rfl⟩⟩

theorem ownI_lit1 (w : World) (x : Int) (B g : Nat) (hB : B ≤ w.heap.size) (hg : g = w.heap.size) : OwnI (w.alloc (.cells #[.int .i64 x] 3)) B (.slice (some ⟨g, 0, none⟩) 1 1) [x] := by
  subst hg
  exact ⟨rfl, .inr ⟨w.heap.size, 1, #[.int .i64 x], rfl, hB, Blk.new w _ _, by simp, by unfold maxLen; omega, rfl, rfl⟩⟩

theorem ownI_lit2 (w : World) (x y : Int) (B g : Nat) (hB : B ≤ w.heap.size) (hg : g = w.heap.size) : OwnI (w.alloc (.cells #[.int .i64 x, .int .i64 y] 3)) B (.slice (some ⟨g, 0, none⟩) 2 2) [x, y] := by
  subst hg
  exact ⟨rfl, .inr ⟨w.heap.size, 2, #[.int .i64 x, .int .i64 y], rfl, hB, Blk.new w _ _, by simp, by unfold maxLen; omega, rfl, rfl⟩⟩

theorem wbs_rg : ∀ (ws : List Int), ∀ z ∈ wbs ws, 0 ≤ z ∧ z ≤ 255
  | [], z, hz => by simp [wbs] at hz
  | x :: r, z, hz => by
    simp only [wbs, List.mem_cons] at hz
    rcases hz with rfl | rfl | hz
    · omega
    · omega
    · exact wbs_rg r z hz

theorem packL_rg (bs : List Bool) : ∀ z ∈ packL bs, 0 ≤ z ∧ z ≤ 255 := by
  intro z hz
  simp [packL] at hz
  obtain ⟨i, hi, rfl⟩ := hz
  obtain ⟨h0, h1, h2, h3⟩ := pv_bound bs bs.length i
  refine ⟨h0, ?_⟩
  rcases Nat.lt_trichotomy i (bs.length / 8) with e | e | e
  · have := h1 e; omega
  · have := h2 e
    have h4 : 2 ^ (bs.length % 8) ≤ 2 ^ 7 := Nat.pow_le_pow_right (by omega) (by omega)
    omega
  · have := h3 e; omega

theorem cons_rg {x : Int} {l : List Int} (hx : 0 ≤ x ∧ x ≤ 255) (hl : ∀ z ∈ l, 0 ≤ z ∧ z ≤ 255) : ∀ z ∈ x :: l, 0 ≤ z ∧ z ≤ 255 := by
  intro z hz
  simp only [List.mem_cons] at hz
  rcases hz with rfl | hz
  · exact hx
  · exact hl z hz

theorem app_rg {l m : List Int} (hl : ∀ z ∈ l, 0 ≤ z ∧ z ≤ 255) (hm : ∀ z ∈ m, 0 ≤ z ∧ z ≤ 255) : ∀ z ∈ l ++ m, 0 ≤ z ∧ z ≤ 255 := by
  intro z hz
  simp only [List.mem_append] at hz
  rcases hz with hz | hz
  · exact hl z hz
  · exact hm z hz

theorem one_rg (m : Nat) : ∀ z ∈ [((m : Nat) : Int) % 256], 0 ≤ z ∧ z ≤ 255 := by
  intro z hz
  simp at hz
  omega

def gW (k : Int) (zs : List Int) : List Int := if k = 6 then [wAt zs 3] else if k = 22 then [wAt zs 3, wAt zs 5] else if k = 16 then wsF zs 6 else if k = 23 then wsF zs 10 else []

def gB (k : Int) (zs : List Int) : List Bool := if k = 5 then [wAt zs 3 == 65280] else if k = 15 then outU (zs.drop 6) (wAt zs 3) else []

def gN (k : Int) (zs : List Int) : Int := if k = 5 ∨ k = 6 ∨ k = 15 ∨ k = 16 ∨ k = 22 then 0 else wAt zs 3

def gA (k : Int) (zs : List Int) : Int := if k = 23 then wAt zs 5 else 0

def gOk (k : Int) (zs : List Int) : Bool := okR k (wAt zs 1) (gN k zs) (gA k zs) (gW k zs) (gW k zs).length (gB k zs).length && decide (putL k (wAt zs 1) (gN k zs) (gA k zs) (gW k zs) (gB k zs) = zs)

/-- What GetReq ends with. -/
def GPz (zs : List Int) (w w' : World) (e : Ending) : Prop :=
  if zs.length = 0 ∨ kindB (zs.getD 0 0) = false then GP w w' e 0 0 0 0 [] [] 1
  else if gOk (zs.getD 0 0) zs = true then GP w w' e (zs.getD 0 0) (wAt zs 1) (gN (zs.getD 0 0) zs) (gA (zs.getD 0 0) zs) (gW (zs.getD 0 0) zs) (gB (zs.getD 0 0) zs) 0
  else GP w w' e 0 0 0 0 [] [] 3

theorem gpz_none {zs : List Int} {w w' : World} {e : Ending} (hc : zs.length = 0 ∨ kindB (zs.getD 0 0) = false) (h : GP w w' e 0 0 0 0 [] [] 1) : GPz zs w w' e := by
  unfold GPz; rw [if_pos hc]; exact h

theorem gpz_yes {zs : List Int} {w w' : World} {e : Ending} {k : Int} (hc : ¬ (zs.length = 0 ∨ kindB (zs.getD 0 0) = false)) (hk : zs.getD 0 0 = k) (hy : gOk k zs = true) (h : GP w w' e k (wAt zs 1) (gN k zs) (gA k zs) (gW k zs) (gB k zs) 0) : GPz zs w w' e := by
  unfold GPz; rw [if_neg hc, hk, if_pos hy]; exact h

theorem gpz_no {zs : List Int} {w w' : World} {e : Ending} {k : Int} (hc : ¬ (zs.length = 0 ∨ kindB (zs.getD 0 0) = false)) (hk : zs.getD 0 0 = k) (hy : ¬ gOk k zs = true) (h : GP w w' e 0 0 0 0 [] [] 3) : GPz zs w w' e := by
  unfold GPz; rw [if_neg hc, hk, if_neg hy]; exact h

theorem okg_1 (zs : List Int) : okR 1 (wAt zs 1) (gN 1 zs) (gA 1 zs) (gW 1 zs) (gW 1 zs).length (gB 1 zs).length = (rnB (wAt zs 1) (wAt zs 3) 2000) := by
  rw [okI_1 _ _ _ _ _ _ rfl]
  simp [gN, gA, gW, gB]

theorem putg_1 (zs : List Int) : putL 1 (wAt zs 1) (gN 1 zs) (gA 1 zs) (gW 1 zs) (gB 1 zs) = 1 % 256 :: wbs [wAt zs 1, wAt zs 3] := by
  rfl

theorem okg_2 (zs : List Int) : okR 2 (wAt zs 1) (gN 2 zs) (gA 2 zs) (gW 2 zs) (gW 2 zs).length (gB 2 zs).length = (rnB (wAt zs 1) (wAt zs 3) 2000) := by
  rw [okI_2 _ _ _ _ _ _ rfl]
  simp [gN, gA, gW, gB]

theorem putg_2 (zs : List Int) : putL 2 (wAt zs 1) (gN 2 zs) (gA 2 zs) (gW 2 zs) (gB 2 zs) = 2 % 256 :: wbs [wAt zs 1, wAt zs 3] := by
  rfl

theorem okg_3 (zs : List Int) : okR 3 (wAt zs 1) (gN 3 zs) (gA 3 zs) (gW 3 zs) (gW 3 zs).length (gB 3 zs).length = (rnB (wAt zs 1) (wAt zs 3) 125) := by
  rw [okI_3 _ _ _ _ _ _ rfl]
  simp [gN, gA, gW, gB]

theorem putg_3 (zs : List Int) : putL 3 (wAt zs 1) (gN 3 zs) (gA 3 zs) (gW 3 zs) (gB 3 zs) = 3 % 256 :: wbs [wAt zs 1, wAt zs 3] := by
  rfl

theorem okg_4 (zs : List Int) : okR 4 (wAt zs 1) (gN 4 zs) (gA 4 zs) (gW 4 zs) (gW 4 zs).length (gB 4 zs).length = (rnB (wAt zs 1) (wAt zs 3) 125) := by
  rw [okI_4 _ _ _ _ _ _ rfl]
  simp [gN, gA, gW, gB]

theorem putg_4 (zs : List Int) : putL 4 (wAt zs 1) (gN 4 zs) (gA 4 zs) (gW 4 zs) (gB 4 zs) = 4 % 256 :: wbs [wAt zs 1, wAt zs 3] := by
  rfl

theorem okg_5 (zs : List Int) : okR 5 (wAt zs 1) (gN 5 zs) (gA 5 zs) (gW 5 zs) (gW 5 zs).length (gB 5 zs).length = (inB (wAt zs 1) 0 65535) := by
  rw [okI_5 _ _ _ _ _ _ rfl]
  simp [gN, gA, gW, gB]

theorem putg_5 (zs : List Int) : putL 5 (wAt zs 1) (gN 5 zs) (gA 5 zs) (gW 5 zs) (gB 5 zs) = 5 % 256 :: wbs [wAt zs 1, bif wAt zs 3 == 65280 then 65280 else 0] := by
  rfl

theorem okg_6 (zs : List Int) : okR 6 (wAt zs 1) (gN 6 zs) (gA 6 zs) (gW 6 zs) (gW 6 zs).length (gB 6 zs).length = (inB (wAt zs 1) 0 65535 && inB (wAt zs 3) 0 65535) := by
  rw [okI_6 _ _ _ _ _ _ rfl]
  simp [gN, gA, gW, gB]

theorem putg_6 (zs : List Int) : putL 6 (wAt zs 1) (gN 6 zs) (gA 6 zs) (gW 6 zs) (gB 6 zs) = 6 % 256 :: wbs [wAt zs 1, wAt zs 3] := by
  rfl

theorem okg_15 (zs : List Int) : okR 15 (wAt zs 1) (gN 15 zs) (gA 15 zs) (gW 15 zs) (gW 15 zs).length (gB 15 zs).length = (rnB (wAt zs 1) ((outU (zs.drop 6) (wAt zs 3)).length : Int) 1968) := by
  rw [okI_15 _ _ _ _ _ _ rfl]
  simp [gN, gA, gW, gB]

theorem putg_15 (zs : List Int) : putL 15 (wAt zs 1) (gN 15 zs) (gA 15 zs) (gW 15 zs) (gB 15 zs) = (15 % 256 :: wbs [wAt zs 1, ((outU (zs.drop 6) (wAt zs 3)).length : Int)]) ++ [((((outU (zs.drop 6) (wAt zs 3)).length + 7) / 8 : Nat) : Int) % 256] ++ packL (outU (zs.drop 6) (wAt zs 3)) := by
  rfl

theorem okg_16 (zs : List Int) : okR 16 (wAt zs 1) (gN 16 zs) (gA 16 zs) (gW 16 zs) (gW 16 zs).length (gB 16 zs).length = (rnB (wAt zs 1) ((wsF zs 6).length : Int) 123 && allW (wsF zs 6)) := by
  rw [okI_16 _ _ _ _ _ _ rfl]
  simp [gN, gA, gW, gB]

theorem putg_16 (zs : List Int) : putL 16 (wAt zs 1) (gN 16 zs) (gA 16 zs) (gW 16 zs) (gB 16 zs) = (16 % 256 :: wbs [wAt zs 1, ((wsF zs 6).length : Int)]) ++ [((2 * (wsF zs 6).length : Nat) : Int) % 256] ++ wbs (wsF zs 6) := by
  rfl

theorem okg_22 (zs : List Int) : okR 22 (wAt zs 1) (gN 22 zs) (gA 22 zs) (gW 22 zs) (gW 22 zs).length (gB 22 zs).length = (inB (wAt zs 1) 0 65535 && (inB (wAt zs 3) 0 65535 && inB (wAt zs 5) 0 65535)) := by
  rw [okI_22 _ _ _ _ _ _ rfl]
  simp [gN, gA, gW, gB]

theorem putg_22 (zs : List Int) : putL 22 (wAt zs 1) (gN 22 zs) (gA 22 zs) (gW 22 zs) (gB 22 zs) = 22 % 256 :: wbs [wAt zs 1, wAt zs 3, wAt zs 5] := by
  rfl

theorem okg_23 (zs : List Int) : okR 23 (wAt zs 1) (gN 23 zs) (gA 23 zs) (gW 23 zs) (gW 23 zs).length (gB 23 zs).length = (rnB (wAt zs 1) (wAt zs 3) 125 && (rnB (wAt zs 5) ((wsF zs 10).length : Int) 121 && allW (wsF zs 10))) := by
  rw [okI_23 _ _ _ _ _ _ rfl]
  simp [gN, gA, gW, gB]

theorem putg_23 (zs : List Int) : putL 23 (wAt zs 1) (gN 23 zs) (gA 23 zs) (gW 23 zs) (gB 23 zs) = (23 % 256 :: wbs [wAt zs 1, wAt zs 3, wAt zs 5, ((wsF zs 10).length : Int)]) ++ [((2 * (wsF zs 10).length : Nat) : Int) % 256] ++ wbs (wsF zs 10) := by
  rfl

end Go.Proofs.Ytbdlppihiffjgaa
