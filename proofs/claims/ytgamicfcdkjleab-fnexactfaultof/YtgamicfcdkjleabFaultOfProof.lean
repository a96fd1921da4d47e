/-
FaultOf answers as its model at every question and number, and the law that says so returns true and leaves the question as it was.
-/
import Derived.Test.YtgamicfcdkjleabRows
import Derived.WalkKit
import Derived.ProofKit
import Derived.OpenShut
import Derived.ShutString
import Derived.ChangeOld
import Derived.Below
import Derived.Test.YtgamicfcdkjleabArgQ
import Derived.Test.YtgamicfcdkjleabFaultOfL
namespace Go.Proofs.Ytgamicfcdkjleab.fnExactFaultOf
open Go.ChangeShapes Go.WideShapes Go.ChangeAt Go.RowKit
set_option linter.unusedVariables false

theorem own : ownKnob Try.prog.godebug = none := by kernel_rfl
theorem laidOut : laidOutB Try.prog = true := by kernel_rfl


theorem walk (kd0 pl0 nn0 wa0 : Int) (a0 b0 : Option Addr) (la0 ca0 lb0 cb0 : Nat) (ws0 : List Int) (bs0 : List Bool) (a1 : Int) (w : World) (w0 : InReq w kd0 pl0 nn0 wa0 a0 b0 la0 lb0 ws0 bs0) (w1 : (Lit.int .i64 a1).wf = true) :
    Calls Try.prog 3 #[.agg #[.int .i64 kd0, .int .i64 pl0, .int .i64 nn0, .slice a0 la0 ca0, .slice b0 lb0 cb0, .int .i64 wa0], .int .i64 a1] w fun e w' => e = .returned (.bool true) ∧ Below w.heap.size w w' := by
  by_cases hbig : la0 + lb0 ≤ 1048576
  · exact faultOf_law kd0 pl0 nn0 wa0 a0 b0 la0 lb0 ca0 cb0 ws0 bs0 a1 w w0 hbig
  · obtain ⟨⟨_, hm1, _⟩, _, hm2, _⟩ := w0
    go_enter Try.func3, Try.ntmps3
    go_wp2_with fail
    refine (szReq_big kd0 pl0 nn0 wa0 a0 b0 la0 lb0 ca0 cb0 _ hm1 hm2 hbig).mono ?_
    rintro e w1 ⟨rfl, b1⟩
    have b2 := bel_next (bel_alloc w (.cells #[.int .i64 kd0, .int .i64 pl0, .int .i64 nn0, .slice a0 la0 ca0, .slice b0 lb0 cb0, .int .i64 wa0] 25)) b1
    clear b1 hm1 hm2
    go_wp2
    go_ret
    exact ⟨rfl, b2⟩

set_option maxRecDepth 100000 in
theorem lifted (os : Os) (started : os.Started) (H : Type) (enc : TypeId × Value → H) :
    ReturnsInHanded {} Try.checked os 3 .any (Rows.fnExactFaultOfSpec.pre6 enc Try.prog Try.f3 Rows.fnExactFaultOfRow.domain false) (Rows.fnExactFaultOfSpec.post enc Try.prog Try.f3 false true false false) := by
  refine returnsInHanded_of_change (C := Try.checked) own started (by kernel_rfl) Try.func3
    (ChangeSpec.witness6 (enc := enc) (C := Try.checked) false ⟨#[], #[.agg #[.int .i64 0, .int .i64 0, .int .i64 0, .slice none 0 0, .slice none 0 0, .int .i64 0], .int .i64 0], []⟩ 8 (by kernel_rfl) (by kernel_rfl) (by kernel_rfl) (by kernel_rfl)) ?_
  intro W base args ds gs before hval0 hW hcnd _
  have hval : ∀ (j : Nat) t v, Try.f3.params[j]? = some t → args[j]? = some v → Value.okWide Try.prog W .any base t v := hval0
  have hW' := hW
  obtain ⟨p, q, hA0, hV, rfl, hfz, hnd⟩ := hW
  have hA : DataW.TrodAll enc Try.prog W 0 (fun _ => true) true Try.f3.params.toList args.toList ds p := hA0
  rw [Try.params3] at hA hval
  obtain ⟨v0, vs0, d0, ds0, p0, q0, hargs, rfl, rfl, h0, r0⟩ := trodAll_cons hA
  obtain ⟨v1, vs1, d1, ds1, p1, q1, rfl, rfl, rfl, h1, r1⟩ := trodAll_cons r0
  obtain ⟨rfl, rfl, rfl⟩ := trodAll_nil r1
  obtain rfl : args = #[v0, v1] := by cases args; simp_all
  obtain ⟨rfl, rfl⟩ := trodVars_none hV
  have k0 := h0
  obtain ⟨kd0, pl0, nn0, wa0, a0, b0, la0, ca0, lb0, cb0, ws0, bs0, rfl, w0⟩ := opened_req Try.underlying25 (by kernel_rfl) (by kernel_rfl) rfl rfl rfl rfl rfl rfl Try.underlying3 Try.underlying22 Try.underlying23 Try.underlying4 (by kernel_rfl) (by kernel_rfl) (hval 0 25 v0 rfl rfl) h0
  have lt0 : ∀ x ∈ p0, x.block < W.heap.size := by obtain ⟨m, hm⟩ := k0; exact DataW.trod_lt m _ _ _ hm
  obtain ⟨a1, rfl, rfl, rfl, w1⟩ := open_int Try.underlying3 (hval 1 3 v1 rfl rfl) h1
  clear hA0 hval0
  refine (walk kd0 pl0 nn0 wa0 a0 b0 la0 ca0 lb0 cb0 ws0 bs0 a1 W w0 w1).mono fun e W' ⟨he, bel⟩ => ?_
  subst he
  exact ⟨_, rfl, _, _, _, [], _, [], hW', trodAll_mk1 (shut_bool Try.underlying4 _), (trodAll_cons_mk (Below.trod laidOut (by kernel_rfl) (of_decide_eq_true (by kernel_rfl)) k0 bel lt0) (trodAll_cons_mk (shut_int Try.underlying3 w1) trodAll_mk0)), rfl, bel.frame _, fun h => by cases h⟩

theorem over : Rows.fnExactFaultOfRow.holds Try.pinned (OpenSpec.ofChange Rows.fnExactFaultOfSpec) :=
  OpenClaim.holds_of_wide 3 Try.f3 rfl rfl rfl rfl rfl rfl rfl ⟨rfl, rfl, rfl, rfl, rfl⟩ rfl rfl rfl rfl rfl (by kernel_rfl) Try.func3 (by kernel_rfl)
    (of_decide_eq_true (by kernel_rfl)) (by unfold Func.isWrapper; first | (rw [if_pos (by decide +kernel)]; kernel_rfl) | (rw [if_neg (by decide +kernel)]; exact ⟨rfl, rfl⟩))
    (fun os started H enc _ => lifted os started H enc)

theorem proved : Rows.FnExactFaultOfSaid := over
#print axioms proved
end Go.Proofs.Ytgamicfcdkjleab.fnExactFaultOf
namespace Go.Proofs.Ytgamicfcdkjleab
theorem FnExactFaultOf_holds : Rows.FnExactFaultOfSaid := fnExactFaultOf.proved
end Go.Proofs.Ytgamicfcdkjleab
