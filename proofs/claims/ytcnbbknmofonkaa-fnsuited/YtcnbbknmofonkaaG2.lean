/- GetReq of the program: its frame, whatever the kind. -/
import Derived.Test.YtcnbbknmofonkaaG1
import Derived.Test.YtcnbbknmofonkaaQ5
namespace Go.Proofs.Ytcnbbknmofonkaa
open Go.RowKit

set_option linter.unusedVariables false

set_option linter.unusedSimpArgs false

def kindB (k : Int) : Bool := decide (k = 1 ∨ k = 2 ∨ k = 3 ∨ k = 4 ∨ k = 5 ∨ k = 6 ∨ k = 15 ∨ k = 16 ∨ k = 22 ∨ k = 23)

set_option maxHeartbeats 2000000 in
theorem isKind_any (k : Int) (w : World) (b : Bool) (hb : kindB k = b) : Calls Try.prog 114 #[.int .i64 k] w fun e w' => e = .returned (.bool b) ∧ w' = w := by
  by_cases hk : k = 1 ∨ k = 2 ∨ k = 3 ∨ k = 4 ∨ k = 5 ∨ k = 6 ∨ k = 15 ∨ k = 16 ∨ k = 22 ∨ k = 23
  · have e : kindB k = true := decide_eq_true hk
    rw [e] at hb
    subst hb
    clear e
    obtain rfl | rfl | rfl | rfl | rfl | rfl | rfl | rfl | rfl | rfl := hk
    all_goals (
      go_enter Try.func114, Try.ntmps114
      go_wp2
      go_ret
      exact ⟨rfl, rfl⟩)
  · have e : kindB k = false := decide_eq_false hk
    rw [e] at hb
    subst hb
    have h1 : ¬ k = 1 := by omega
    have h2 : ¬ k = 2 := by omega
    have h3 : ¬ k = 3 := by omega
    have h4 : ¬ k = 4 := by omega
    have h5 : ¬ k = 5 := by omega
    have h6 : ¬ k = 6 := by omega
    have h15 : ¬ k = 15 := by omega
    have h16 : ¬ k = 16 := by omega
    have h22 : ¬ k = 22 := by omega
    have h23 : ¬ k = 23 := by omega
    clear hk e
    go_enter Try.func114, Try.ntmps114
    go_wp2
    go_ret
    exact ⟨rfl, rfl⟩

set_option maxHeartbeats 2000000 in
theorem l3Kind_any (k : Int) (w : World) (b : Bool) (hb : kindB k = b) : Calls Try.prog 94 #[.int .i64 k] w fun e w' => e = .returned (.bool b) ∧ w' = w := by
  by_cases hk : k = 1 ∨ k = 2 ∨ k = 3 ∨ k = 4 ∨ k = 5 ∨ k = 6 ∨ k = 15 ∨ k = 16 ∨ k = 22 ∨ k = 23
  · have e : kindB k = true := decide_eq_true hk
    rw [e] at hb
    subst hb
    clear e
    obtain rfl | rfl | rfl | rfl | rfl | rfl | rfl | rfl | rfl | rfl := hk
    all_goals (
      go_enter Try.func94, Try.ntmps94
      go_wp2_with (go_at_call 64; go_in)
      go_ret
      exact ⟨rfl, rfl⟩)
  · have e : kindB k = false := decide_eq_false hk
    rw [e] at hb
    subst hb
    have h15 : ¬ k = 15 := by omega
    have h16 : ¬ k = 16 := by omega
    have h22 : ¬ k = 22 := by omega
    have h23 : ¬ k = 23 := by omega
    have hq : (k == 23) = false := by simp [h23]
    have hq1 : (k == 15) = false := by simp [h15]
    have hq2 : (k == 16) = false := by simp [h16]
    have hq3 : (k == 22) = false := by simp [h22]
    by_cases h1 : 1 ≤ k
    · have h6 : ¬ k ≤ 6 := by omega
      clear hk e
      go_enter Try.func94, Try.ntmps94
      go_wp2_with (go_at_call 64; go_in)
      go_ret
      exact ⟨rfl, rfl⟩
    · clear hk e
      go_enter Try.func94, Try.ntmps94
      go_wp2_with (go_at_call 64; go_in)
      go_ret
      exact ⟨rfl, rfl⟩

/-- A question told, with its number. -/
def GP (w w' : World) (e : Ending) (kd pl nn wa : Int) (ws : List Int) (bs : List Bool) (code : Int) : Prop :=
  ∃ a1 a2 l1 l2 c1 c2, e = .returned (.tuple #[rq kd pl nn wa a1 a2 l1 l2 c1 c2, .int .i64 code]) ∧ l1 = ws.length ∧ l2 = bs.length ∧ OwnI w' w.heap.size (.slice a1 l1 c1) ws ∧ OwnB w' w.heap.size (.slice a2 l2 c2) bs ∧ Below w.heap.size w w'

theorem gp_zero {w w' : World} {c : Int} (hb : Below w.heap.size w w') : GP w w' (.returned (.tuple #[rq 0 0 0 0 none none 0 0 0 0, .int .i64 c])) 0 0 0 0 [] [] c :=
  ⟨none, none, 0, 0, 0, 0, rfl, rfl, rfl, ownI_nil _ _, ownB_nil _ _, hb⟩

theorem bel_set6 {B : Nat} {W w : World} {g : Nat} {v0 v1 v2 v3 v4 v5 : Value} (hb : Below B W w) (hg : B ≤ g) :
    Below B W ((((((w.setCell ⟨g, 0, none⟩ v0).setCell ⟨g, 1, none⟩ v1).setCell ⟨g, 2, none⟩ v2).setCell ⟨g, 3, none⟩ v3).setCell ⟨g, 4, none⟩ v4).setCell ⟨g, 5, none⟩ v5) :=
  (((((hb.setCell (p := ⟨g, 0, none⟩) hg _).setCell (p := ⟨g, 1, none⟩) hg _).setCell (p := ⟨g, 2, none⟩) hg _).setCell (p := ⟨g, 3, none⟩) hg _).setCell (p := ⟨g, 4, none⟩) hg _).setCell (p := ⟨g, 5, none⟩) hg _

theorem row_set6 {w : World} {base size n g : Nat} {e t : TypeId} {v v0 v1 v2 v3 v4 v5 : Value} {xs : List Value} (h : w.ownsRow base e size v n xs) (hb : ExB w g t) (ht : t ≠ e) :
    ((((((w.setCell ⟨g, 0, none⟩ v0).setCell ⟨g, 1, none⟩ v1).setCell ⟨g, 2, none⟩ v2).setCell ⟨g, 3, none⟩ v3).setCell ⟨g, 4, none⟩ v4).setCell ⟨g, 5, none⟩ v5).ownsRow base e size v n xs :=
  row_setE (row_setE (row_setE (row_setE (row_setE (row_setE h hb ht) (ExB.set hb) ht) (ExB.set (ExB.set hb)) ht) (ExB.set (ExB.set (ExB.set hb))) ht) (ExB.set (ExB.set (ExB.set (ExB.set hb)))) ht) (ExB.set (ExB.set (ExB.set (ExB.set (ExB.set hb))))) ht

end Go.Proofs.Ytcnbbknmofonkaa
