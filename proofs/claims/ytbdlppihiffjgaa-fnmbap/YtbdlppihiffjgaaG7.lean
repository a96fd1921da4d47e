/- Questions: marks in them, and what GetReq tells as one. -/
import Derived.Test.YtbdlppihiffjgaaG6
namespace Go.Proofs.Ytbdlppihiffjgaa
open Go.RowKit

set_option linter.unusedVariables false

set_option linter.unusedSimpArgs false

theorem toB_ok (a : Option Addr) (n cap : Nat) (zs : List Int) (w : World) (hn : n = zs.length) (hs : Sl w a zs) (hl : zs.length ≤ 2000000) :
    Calls Try.prog 21 #[.slice a n cap] w fun e w' => ∃ g, e = .returned (.slice (some ⟨g, 0, none⟩) n n) ∧ Own w' w.heap.size (.slice (some ⟨g, 0, none⟩) n n) zs ∧ Below w.heap.size w w' := by
  refine (toByteS_any a n cap zs w hn hs hl).mono ?_
  rintro e w' ⟨rfl, q, b⟩
  exact ⟨_, rfl, Own.ofRow q hn (Nat.le_refl _) (by unfold maxLen; omega), b⟩

theorem gW_le (k : Int) (zs : List Int) (hl : zs.length ≤ 1048576) : (gW k zs).length ≤ 2000000 := by
  unfold gW
  split
  · simp
  · split
    · simp
    · split
      · rw [wsF_length]; omega
      · split
        · rw [wsF_length]; omega
        · simp

theorem gB_le (k : Int) (zs : List Int) (hr : ∀ z ∈ zs, 0 ≤ z ∧ z ≤ 255) : (gB k zs).length ≤ 2000000 := by
  unfold gB
  split
  · simp
  · split
    · have h := outU_le (zs.drop 6) (wAt zs 3) (by have := wAt_bd hr 3; omega)
      omega
    · simp

theorem gpz_form (zs : List Int) (hl : zs.length ≤ 1048576) (hr : ∀ z ∈ zs, 0 ≤ z ∧ z ≤ 255) : ∃ kd pl nn wa ws bs code, (∀ w w' e, GPz zs w w' e → GP w w' e kd pl nn wa ws bs code) ∧ ws.length ≤ 2000000 ∧ bs.length ≤ 2000000 := by
  by_cases h1 : zs.length = 0 ∨ kindB (zs.getD 0 0) = false
  · refine ⟨0, 0, 0, 0, [], [], 1, fun w w' e h => ?_, by simp, by simp⟩
    unfold GPz at h; rw [if_pos h1] at h; exact h
  · by_cases h2 : gOk (zs.getD 0 0) zs = true
    · refine ⟨zs.getD 0 0, wAt zs 1, gN (zs.getD 0 0) zs, gA (zs.getD 0 0) zs, gW (zs.getD 0 0) zs, gB (zs.getD 0 0) zs, 0, fun w w' e h => ?_, ?_, ?_⟩
      · unfold GPz at h; rw [if_neg h1, if_pos h2] at h; exact h
      · exact gW_le _ zs hl
      · exact gB_le _ zs hr
    · refine ⟨0, 0, 0, 0, [], [], 3, fun w w' e h => ?_, by simp, by simp⟩
      unfold GPz at h; rw [if_neg h1, if_neg h2] at h; exact h

theorem neq_lt {v1 v2 : Value} {B : Nat} (h1 : ∀ k, v1.ownBlock = some k → k < B) (h2 : ∀ k, v2.ownBlock = some k → B ≤ k) : v1.ownBlock = none ∨ v1.ownBlock ≠ v2.ownBlock := by
  cases e : v1.ownBlock with
  | none => exact .inl rfl
  | some k =>
    refine .inr (fun e2 => ?_)
    have a := h1 k e
    have b := h2 k e2.symm
    omega

theorem eqB_any (a a' : Option Addr) (n n' cap cap' : Nat) (zs : List Int) (w : World) (hn : n = zs.length) (hn' : n' = zs.length) (hs : Sl w a zs) (hs' : Sl w a' zs) (hl : zs.length ≤ 2000000) :
    Calls Try.prog 22 #[.slice a n cap, .slice a' n' cap'] w fun e w' => e = .returned (.bool true) ∧ Below w.heap.size w w' := by
  refine (eqByteS_true a a' n n' cap cap' zs w hn hn' hs hs' hl).mono ?_
  rintro e w' ⟨rfl, k, rfl⟩
  exact ⟨rfl, drew_refl _ _⟩

end Go.Proofs.Ytbdlppihiffjgaa
