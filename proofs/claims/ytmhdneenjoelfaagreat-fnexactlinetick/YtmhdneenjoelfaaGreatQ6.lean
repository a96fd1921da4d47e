/- A question is right, and the places that it touches: both sides. -/
import Derived.Test.YtmhdneenjoelfaaGreatQ5
namespace Go.Proofs.YtmhdneenjoelfaaGreat
open Go.RowKit

set_option linter.unusedVariables false

set_option linter.unusedSimpArgs false

abbrev WfQ (kd pl nn wa : Int) (ws : List Int) : Prop := (∀ n ∈ ws, -9223372036854775808 ≤ n ∧ n ≤ 9223372036854775807) ∧ (Lit.int .i64 kd).wf = true ∧ (Lit.int .i64 pl).wf = true ∧ (Lit.int .i64 nn).wf = true ∧ (Lit.int .i64 wa).wf = true

theorem specReqOk_q (kd pl nn wa : Int) (a1 a2 : Option Addr) (l1 l2 c1 c2 : Nat) (ws : List Int) (bs : List Bool) (w : World) (h1 : l1 = ws.length) (h2 : l2 = bs.length) (s1 : SlI w a1 ws) (s2 : SlB w a2 bs) (hl1 : ws.length ≤ 2000000) (hl2 : bs.length ≤ 2000000) :
    Calls Tryz.prog 34 #[rq kd pl nn wa a1 a2 l1 l2 c1 c2] w fun e w' => e = .returned (.bool (okR kd pl nn wa ws l1 l2)) ∧ Below w.heap.size w w' :=
  specReqOk_any kd pl nn wa a1 a2 l1 l2 c1 c2 ws w h1 s1 hl1 (by omega) _ rfl

theorem neq_if (T : TypeId) (v : Value) (w : World) : (binOp .neq 129 (.iface T v) .nilIface).run Tryz.prog w = .ok (.bool true) w := by kernel_rfl

theorem neq_nil (w : World) : (binOp .neq 129 .nilIface .nilIface).run Tryz.prog w = .ok (.bool false) w := by kernel_rfl

set_option maxHeartbeats 2000000 in
theorem implReqOk_if (kd pl nn wa : Int) (a1 a2 : Option Addr) (l1 l2 c1 c2 : Nat) (w : World) (b : Bool) (T : TypeId) (v : Value)
    (hq : ∀ u, Below w.heap.size w u → Calls Tryz.prog 122 #[rq kd pl nn wa a1 a2 l1 l2 c1 c2] u fun e u' => e = .returned (bif b then .iface T v else .nilIface) ∧ Below u.heap.size u u') :
    Calls Tryz.prog 93 #[rq kd pl nn wa a1 a2 l1 l2 c1 c2] w fun e w' => e = .returned (.bool b) ∧ Below w.heap.size w w' := by
  have B0 := bel_alloc w (.cells #[.int .i64 kd, .int .i64 pl, .int .i64 nn, .slice a1 l1 c1, .slice a2 l2 c2, .int .i64 wa] 28)
  have q1 := neq_if T v
  have q2 := neq_nil
  go_enter Tryz.func93, Tryz.ntmps93
  go_wp2_with fail
  refine (hq _ B0).mono ?_
  rintro e w1 ⟨rfl, b'⟩
  have B1 := bel_next B0 b'
  clear hq
  cases b
  · simp only [cond_false]
    go_wp2
    go_ret
    exact ⟨rfl, B1⟩
  · simp only [cond_true]
    go_wp2
    go_ret
    exact ⟨rfl, B1⟩

theorem okR_kind {kd pl nn wa : Int} {ws : List Int} {l1 l2 : Nat} (h : okR kd pl nn wa ws l1 l2 = true) : kd = 1 ∨ kd = 2 ∨ kd = 3 ∨ kd = 4 ∨ kd = 5 ∨ kd = 6 ∨ kd = 15 ∨ kd = 16 ∨ kd = 22 ∨ kd = 23 := by
  by_cases hk : kd = 1 ∨ kd = 2 ∨ kd = 3 ∨ kd = 4 ∨ kd = 5 ∨ kd = 6 ∨ kd = 15 ∨ kd = 16 ∨ kd = 22 ∨ kd = 23
  · exact hk
  · have e : okR kd pl nn wa ws l1 l2 = false := by
      have k1 : ¬ kd = 1 := by omega
      have k2 : ¬ kd = 2 := by omega
      have k3 : ¬ kd = 3 := by omega
      have k4 : ¬ kd = 4 := by omega
      have k5 : ¬ kd = 5 := by omega
      have k6 : ¬ kd = 6 := by omega
      have k7 : ¬ kd = 15 := by omega
      have k8 : ¬ kd = 16 := by omega
      have k9 : ¬ kd = 22 := by omega
      have k10 : ¬ kd = 23 := by omega
      simp [okR, okK, k1, k2, k3, k4, k5, k6, k7, k8, k9, k10]
    rw [e] at h
    cases h

theorem implReqOk_q (kd pl nn wa : Int) (a1 a2 : Option Addr) (l1 l2 c1 c2 : Nat) (ws : List Int) (bs : List Bool) (w : World) (h1 : l1 = ws.length) (h2 : l2 = bs.length) (s1 : SlI w a1 ws) (s2 : SlB w a2 bs) (hl1 : ws.length ≤ 2000000) (hl2 : bs.length ≤ 2000000) :
    Calls Tryz.prog 93 #[rq kd pl nn wa a1 a2 l1 l2 c1 c2] w fun e w' => e = .returned (.bool (okR kd pl nn wa ws l1 l2)) ∧ Below w.heap.size w w' := by
  by_cases hk : kd = 1 ∨ kd = 2 ∨ kd = 3 ∨ kd = 4 ∨ kd = 5 ∨ kd = 6 ∨ kd = 15 ∨ kd = 16 ∨ kd = 22 ∨ kd = 23
  · obtain rfl | rfl | rfl | rfl | rfl | rfl | rfl | rfl | rfl | rfl := hk
    · exact implReqOk_if 1 pl nn wa a1 a2 l1 l2 c1 c2 w _ _ _ (fun u hu => rightQuestion_1 pl nn wa a1 a2 l1 l2 c1 c2 ws bs u h1 h2 (s1.below hu) (s2.below hu) hl1 hl2 _ rfl)
    · exact implReqOk_if 2 pl nn wa a1 a2 l1 l2 c1 c2 w _ _ _ (fun u hu => rightQuestion_2 pl nn wa a1 a2 l1 l2 c1 c2 ws bs u h1 h2 (s1.below hu) (s2.below hu) hl1 hl2 _ rfl)
    · exact implReqOk_if 3 pl nn wa a1 a2 l1 l2 c1 c2 w _ _ _ (fun u hu => rightQuestion_3 pl nn wa a1 a2 l1 l2 c1 c2 ws bs u h1 h2 (s1.below hu) (s2.below hu) hl1 hl2 _ rfl)
    · exact implReqOk_if 4 pl nn wa a1 a2 l1 l2 c1 c2 w _ _ _ (fun u hu => rightQuestion_4 pl nn wa a1 a2 l1 l2 c1 c2 ws bs u h1 h2 (s1.below hu) (s2.below hu) hl1 hl2 _ rfl)
    · exact implReqOk_if 5 pl nn wa a1 a2 l1 l2 c1 c2 w _ _ _ (fun u hu => rightQuestion_5 pl nn wa a1 a2 l1 l2 c1 c2 ws bs u h1 h2 (s1.below hu) (s2.below hu) hl1 hl2 _ rfl)
    · exact implReqOk_if 6 pl nn wa a1 a2 l1 l2 c1 c2 w _ _ _ (fun u hu => rightQuestion_6 pl nn wa a1 a2 l1 l2 c1 c2 ws bs u h1 h2 (s1.below hu) (s2.below hu) hl1 hl2 _ rfl)
    · exact implReqOk_if 15 pl nn wa a1 a2 l1 l2 c1 c2 w _ _ _ (fun u hu => rightQuestion_15 pl nn wa a1 a2 l1 l2 c1 c2 ws bs u h1 h2 (s1.below hu) (s2.below hu) hl1 hl2 _ rfl)
    · exact implReqOk_if 16 pl nn wa a1 a2 l1 l2 c1 c2 w _ _ _ (fun u hu => rightQuestion_16 pl nn wa a1 a2 l1 l2 c1 c2 ws bs u h1 h2 (s1.below hu) (s2.below hu) hl1 hl2 _ rfl)
    · exact implReqOk_if 22 pl nn wa a1 a2 l1 l2 c1 c2 w _ _ _ (fun u hu => rightQuestion_22 pl nn wa a1 a2 l1 l2 c1 c2 ws bs u h1 h2 (s1.below hu) (s2.below hu) hl1 hl2 _ rfl)
    · exact implReqOk_if 23 pl nn wa a1 a2 l1 l2 c1 c2 w _ _ _ (fun u hu => rightQuestion_23 pl nn wa a1 a2 l1 l2 c1 c2 ws bs u h1 h2 (s1.below hu) (s2.below hu) hl1 hl2 _ rfl)
  · have e : okR kd pl nn wa ws l1 l2 = false := by
      cases e : okR kd pl nn wa ws l1 l2
      · rfl
      · exact absurd (okR_kind e) hk
    rw [e]
    exact implReqOk_if kd pl nn wa a1 a2 l1 l2 c1 c2 w false 0 .nilIface (fun u hu => rightQuestion_none kd pl nn wa a1 a2 l1 l2 c1 c2 ws bs u h1 h2 (s1.below hu) (s2.below hu) hl1 hl2 (by omega) (by omega) (by omega) (by omega) (by omega) (by omega) (by omega) (by omega) (by omega) (by omega))

def spcN (kd nn : Int) (l1 l2 : Nat) : Int := if kd = 5 ∨ kd = 15 then l2 else if kd = 6 ∨ kd = 22 then 1 else if kd = 16 then l1 else nn

def spc0 (kd : Int) : Int := if kd = 1 ∨ kd = 5 ∨ kd = 15 then 0 else if kd = 2 then 1 else if kd = 4 then 3 else 2

/-- What Spaces tells. -/
def spcV (b : Bool) (kd pl nn : Int) (l1 l2 : Nat) : Value := bif b then .tuple #[.int .i64 (spc0 kd), .int .i64 pl, .int .i64 (spcN kd nn l1 l2)] else .tuple #[.int .i64 (-1), .int .i64 0, .int .i64 0]

theorem spcV_form (b : Bool) (kd pl nn : Int) (l1 l2 : Nat) : ∃ i j k, spcV b kd pl nn l1 l2 = .tuple #[.int .i64 i, .int .i64 j, .int .i64 k] := by
  cases b
  · exact ⟨_, _, _, rfl⟩
  · exact ⟨_, _, _, rfl⟩

end Go.Proofs.YtmhdneenjoelfaaGreat
