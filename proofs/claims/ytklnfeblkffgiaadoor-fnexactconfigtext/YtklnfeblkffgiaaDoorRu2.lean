/- Which rule has a place: RuleAt of both sides. -/
import Derived.Test.YtklnfeblkffgiaaDoorRu1
import Derived.Test.YtklnfeblkffgiaaDoorQ1
namespace Go.Proofs.YtklnfeblkffgiaaDoor
open Go.RowKit

set_option linter.unusedVariables false

set_option linter.unusedSimpArgs false

/-- Whether a rule has a place. -/
def hasR (r : Ru) (un sp pl : Int) : Bool := decide (r.u = un) && decide (r.s = sp) && decide (r.lo ≤ pl) && decide (pl ≤ r.hi)

/-- The first of n rules that has it, from k on. -/
def atFrom (f : Nat → Ru) (un sp pl : Int) (n k : Nat) : Int :=
  if h : k < n then (if hasR (f k) un sp pl = true then (k : Int) else atFrom f un sp pl n (k + 1)) else -1
termination_by n - k

abbrev atR (f : Nat → Ru) (n : Nat) (un sp pl : Int) : Int := atFrom f un sp pl n 0

theorem atFrom_hit {f : Nat → Ru} {un sp pl : Int} {n k : Nat} (h : k < n) (hh : hasR (f k) un sp pl = true) : atFrom f un sp pl n k = (k : Int) := by
  rw [atFrom, dif_pos h, if_pos hh]

theorem atFrom_miss {f : Nat → Ru} {un sp pl : Int} {n k : Nat} (h : k < n) (hh : hasR (f k) un sp pl = false) : atFrom f un sp pl n k = atFrom f un sp pl n (k + 1) := by
  rw [atFrom, dif_pos h, if_neg (by rw [hh]; decide)]

theorem atFrom_end {f : Nat → Ru} {un sp pl : Int} {n k : Nat} (h : ¬ k < n) : atFrom f un sp pl n k = -1 := by
  rw [atFrom, dif_neg h]

set_option maxHeartbeats 1000000 in
theorem has_any (r : Ru) (un sp pl : Int) (w : World) :
    Calls Tryd.prog 64 #[.agg (ruc r), .int .i64 un, .int .i64 sp, .int .i64 pl] w fun e w' => e = .returned (.bool (hasR r un sp pl)) ∧ Below w.heap.size w w' := by
  unfold hasR
  by_cases h1 : r.u = un
  · by_cases h2 : r.s = sp
    · by_cases h3 : r.lo ≤ pl
      · by_cases h4 : pl ≤ r.hi
        · skip
          have e : (decide (r.u = un) && decide (r.s = sp) && decide (r.lo ≤ pl) && decide (pl ≤ r.hi)) = true := by simp [h1, h2, h3, h4]
          rw [e]
          clear e
          go_enter Tryd.func64, Tryd.ntmps64
          go_wp2
          go_ret
          exact ⟨rfl, (Below.refl _ w).alloc (Nat.le_refl _) _⟩
        · skip
          have e : (decide (r.u = un) && decide (r.s = sp) && decide (r.lo ≤ pl) && decide (pl ≤ r.hi)) = false := by simp [h1, h2, h3, h4]
          rw [e]
          clear e
          go_enter Tryd.func64, Tryd.ntmps64
          go_wp2
          go_ret
          exact ⟨rfl, (Below.refl _ w).alloc (Nat.le_refl _) _⟩
      · skip
        have e : (decide (r.u = un) && decide (r.s = sp) && decide (r.lo ≤ pl) && decide (pl ≤ r.hi)) = false := by simp [h1, h2, h3]
        rw [e]
        clear e
        go_enter Tryd.func64, Tryd.ntmps64
        go_wp2
        go_ret
        exact ⟨rfl, (Below.refl _ w).alloc (Nat.le_refl _) _⟩
    · skip
      have e : (decide (r.u = un) && decide (r.s = sp) && decide (r.lo ≤ pl) && decide (pl ≤ r.hi)) = false := by simp [h1, h2]
      rw [e]
      clear e
      go_enter Tryd.func64, Tryd.ntmps64
      go_wp2
      go_ret
      exact ⟨rfl, (Below.refl _ w).alloc (Nat.le_refl _) _⟩
  · skip
    have e : (decide (r.u = un) && decide (r.s = sp) && decide (r.lo ≤ pl) && decide (pl ≤ r.hi)) = false := by simp [h1]
    rw [e]
    clear e
    go_enter Tryd.func64, Tryd.ntmps64
    go_wp2
    go_ret
    exact ⟨rfl, (Below.refl _ w).alloc (Nat.le_refl _) _⟩

/-- The three boxes that the closure of RuleAt has caught. -/
def Tri (w : World) (g1 g2 g3 : Nat) (un sp pl : Int) : Prop :=
  Box w g1 3 (.int .i64 un) ∧ Box w g2 3 (.int .i64 sp) ∧ Box w g3 3 (.int .i64 pl)

theorem Tri.below {w w' : World} {g1 g2 g3 : Nat} {un sp pl : Int} (h : Tri w g1 g2 g3 un sp pl) (hb : Below w.heap.size w w') : Tri w' g1 g2 g3 un sp pl :=
  ⟨h.1.below hb, h.2.1.below hb, h.2.2.below hb⟩

end Go.Proofs.YtklnfeblkffgiaaDoor
