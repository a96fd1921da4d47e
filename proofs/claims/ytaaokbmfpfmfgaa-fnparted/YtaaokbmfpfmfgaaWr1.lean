/- Which questions write. -/
import Derived.Test.YtaaokbmfpfmfgaaReq1
namespace Go.Proofs.Ytaaokbmfpfmfgaa
open Go.RowKit

theorem Blk.six {w : World} {g : Nat} {t : TypeId} {v0 v1 v2 v3 v4 v5 : Value} (h : Blk w g t #[v0, v1, v2, v3, v4, v5]) : w.cell? ⟨g, 0, none⟩ = some v0 ∧ w.cell? ⟨g, 1, none⟩ = some v1 ∧ w.cell? ⟨g, 2, none⟩ = some v2 ∧ w.cell? ⟨g, 3, none⟩ = some v3 ∧ w.cell? ⟨g, 4, none⟩ = some v4 ∧ w.cell? ⟨g, 5, none⟩ = some v5 :=
  ⟨h.cell 0 rfl, h.cell 1 rfl, h.cell 2 rfl, h.cell 3 rfl, h.cell 4 rfl, h.cell 5 rfl⟩

/-- A question as a value. -/
abbrev rq (kd pl nn wa : Int) (a1 a2 : Option Addr) (l1 l2 c1 c2 : Nat) : Value := .agg #[.int .i64 kd, .int .i64 pl, .int .i64 nn, .slice a1 l1 c1, .slice a2 l2 c2, .int .i64 wa]

def wrK (kd : Int) : Bool := decide (kd = 5 ∨ kd = 6 ∨ kd = 15 ∨ kd = 16 ∨ kd = 22 ∨ kd = 23)

set_option maxHeartbeats 4000000 in
theorem specWrites_any (kd pl nn wa : Int) (a1 a2 : Option Addr) (l1 l2 c1 c2 : Nat) (w : World) :
    Calls Try.prog 60 #[rq kd pl nn wa a1 a2 l1 l2 c1 c2] w fun e w' => e = .returned (.bool (wrK kd)) ∧ Below w.heap.size w w' := by
  have B0 := bel_alloc w (.cells #[.int .i64 kd, .int .i64 pl, .int .i64 nn, .slice a1 l1 c1, .slice a2 l2 c2, .int .i64 wa] 28)
  by_cases hk : (1 ≤ kd ∧ kd ≤ 6) ∨ kd = 15 ∨ kd = 16 ∨ kd = 22 ∨ kd = 23
  · obtain rfl | rfl | rfl | rfl | rfl | rfl | rfl | rfl | rfl | rfl : kd = 1 ∨ kd = 2 ∨ kd = 3 ∨ kd = 4 ∨ kd = 5 ∨ kd = 6 ∨ kd = 15 ∨ kd = 16 ∨ kd = 22 ∨ kd = 23 := by omega
    all_goals (
      clear hk
      go_enter Try.func60, Try.ntmps60
      go_wp2_with (first | (go_at_call 110; go_in) | (go_at_call 63; go_in))
      go_ret
      exact ⟨rfl, B0⟩)
  · have e : wrK kd = false := by unfold wrK; exact decide_eq_false (by omega)
    rw [e]
    have h15 : ¬ kd = 15 := by omega
    have h16 : ¬ kd = 16 := by omega
    have h22 : ¬ kd = 22 := by omega
    have h23 : ¬ kd = 23 := by omega
    by_cases h1 : 1 ≤ kd
    · have h6 : ¬ kd ≤ 6 := by omega
      clear hk e
      go_enter Try.func60, Try.ntmps60
      go_wp2_with (first | (go_at_call 110; go_in) | (go_at_call 63; go_in))
      go_ret
      exact ⟨rfl, B0⟩
    · clear hk e
      go_enter Try.func60, Try.ntmps60
      go_wp2_with (first | (go_at_call 110; go_in) | (go_at_call 63; go_in))
      go_ret
      exact ⟨rfl, B0⟩

end Go.Proofs.Ytaaokbmfpfmfgaa
