/-
PutResp answers as its model at every answer, and the law that says so returns true and leaves the answer as it was.
-/
import Derived.Test.YtgamicfcdkjleaaRows
import Derived.WalkKit
import Derived.ProofKit
import Derived.OpenShut
import Derived.ShutString
import Derived.ChangeOld
import Derived.Below
import Derived.Test.YtgamicfcdkjleaaArgP
import Derived.Test.YtgamicfcdkjleaaPutRespL
namespace Go.Proofs.Ytgamicfcdkjleaa.fnExactPutResp
open Go.ChangeShapes Go.WideShapes Go.ChangeAt Go.RowKit
set_option linter.unusedVariables false

theorem own : ownKnob Try.prog.godebug = none := by kernel_rfl
theorem laidOut : laidOutB Try.prog = true := by kernel_rfl


theorem walk (kd0 fl0 pl0 nn0 : Int) (a0 b0 : Option Addr) (la0 ca0 lb0 cb0 : Nat) (ws0 : List Int) (bs0 : List Bool) (w : World) (w0 : InResp w kd0 fl0 pl0 nn0 a0 b0 la0 lb0 ws0 bs0) :
    Calls Try.prog 5 #[.agg #[.int .i64 kd0, .int .i64 fl0, .int .i64 pl0, .int .i64 nn0, .slice a0 la0 ca0, .slice b0 lb0 cb0]] w fun e w' => e = .returned (.bool true) ∧ Below w.heap.size w w' := by
  by_cases hbig : la0 + lb0 ≤ 1048576
  · exact putResp_law kd0 fl0 pl0 nn0 a0 b0 la0 lb0 ca0 cb0 ws0 bs0 w w0 hbig
  · obtain ⟨⟨_, hm1, _⟩, _, hm2, _⟩ := w0
    go_enter Try.func5, Try.ntmps5
    go_wp2_with fail
    refine (szResp_over kd0 fl0 pl0 nn0 a0 b0 la0 lb0 ca0 cb0 1048576 _ (by omega) (by omega) hm1 hm2 (by omega)).mono ?_
    rintro e w1 ⟨rfl, b1⟩
    have b2 := bel_next (bel_alloc w (.cells #[.int .i64 kd0, .int .i64 fl0, .int .i64 pl0, .int .i64 nn0, .slice a0 la0 ca0, .slice b0 lb0 cb0] 37)) b1
    clear b1 hm1 hm2
    go_wp2
    go_ret
    exact ⟨rfl, b2⟩

set_option maxRecDepth 100000 in
theorem lifted (os : Os) (started : os.Started) (H : Type) (enc : TypeId × Value → H) :
    ReturnsInHanded {} Try.checked os 5 .any (Rows.fnExactPutRespSpec.pre6 enc Try.prog Try.f5 Rows.fnExactPutRespRow.domain false) (Rows.fnExactPutRespSpec.post enc Try.prog Try.f5 false true false false) := by
  refine returnsInHanded_of_change (C := Try.checked) own started (by kernel_rfl) Try.func5
    (ChangeSpec.witness6 (enc := enc) (C := Try.checked) false ⟨#[], #[.agg #[.int .i64 0, .int .i64 0, .int .i64 0, .int .i64 0, .slice none 0 0, .slice none 0 0]], []⟩ 8 (by kernel_rfl) (by kernel_rfl) (by kernel_rfl) (by kernel_rfl)) ?_
  intro W base args ds gs before hval0 hW hcnd _
  have hval : ∀ (j : Nat) t v, Try.f5.params[j]? = some t → args[j]? = some v → Value.okWide Try.prog W .any base t v := hval0
  have hW' := hW
  obtain ⟨p, q, hA0, hV, rfl, hfz, hnd⟩ := hW
  have hA : DataW.TrodAll enc Try.prog W 0 (fun _ => true) true Try.f5.params.toList args.toList ds p := hA0
  rw [Try.params5] at hA hval
  obtain ⟨v0, vs0, d0, ds0, p0, q0, hargs, rfl, rfl, h0, r0⟩ := trodAll_cons hA
  obtain ⟨rfl, rfl, rfl⟩ := trodAll_nil r0
  obtain rfl : args = #[v0] := by cases args; simp_all
  obtain ⟨rfl, rfl⟩ := trodVars_none hV
  have k0 := h0
  obtain ⟨kd0, fl0, pl0, nn0, a0, b0, la0, ca0, lb0, cb0, ws0, bs0, rfl, w0⟩ := opened_resp Try.underlying37 (by kernel_rfl) (by kernel_rfl) rfl rfl rfl rfl rfl rfl Try.underlying3 Try.underlying24 Try.underlying25 Try.underlying4 (by kernel_rfl) (by kernel_rfl) (hval 0 37 v0 rfl rfl) h0
  have lt0 : ∀ x ∈ p0, x.block < W.heap.size := by obtain ⟨m, hm⟩ := k0; exact DataW.trod_lt m _ _ _ hm
  clear hA0 hval0
  refine (walk kd0 fl0 pl0 nn0 a0 b0 la0 ca0 lb0 cb0 ws0 bs0 W w0).mono fun e W' ⟨he, bel⟩ => ?_
  subst he
  exact ⟨_, rfl, _, _, _, [], _, [], hW', trodAll_mk1 (shut_bool Try.underlying4 _), (trodAll_cons_mk (Below.trod laidOut (by kernel_rfl) (of_decide_eq_true (by kernel_rfl)) k0 bel lt0) trodAll_mk0), rfl, bel.frame _, fun h => by cases h⟩

theorem over : Rows.fnExactPutRespRow.holds Try.pinned (OpenSpec.ofChange Rows.fnExactPutRespSpec) :=
  OpenClaim.holds_of_wide 5 Try.f5 rfl rfl rfl rfl rfl rfl rfl ⟨rfl, rfl, rfl, rfl, rfl⟩ rfl rfl rfl rfl rfl (by kernel_rfl) Try.func5 (by kernel_rfl)
    (of_decide_eq_true (by kernel_rfl)) (by unfold Func.isWrapper; first | (rw [if_pos (by decide +kernel)]; kernel_rfl) | (rw [if_neg (by decide +kernel)]; exact ⟨rfl, rfl⟩))
    (fun os started H enc _ => lifted os started H enc)

theorem proved : Rows.FnExactPutRespSaid := over
#print axioms proved
end Go.Proofs.Ytgamicfcdkjleaa.fnExactPutResp
namespace Go.Proofs.Ytgamicfcdkjleaa
theorem FnExactPutResp_holds : Rows.FnExactPutRespSaid := fnExactPutResp.proved
end Go.Proofs.Ytgamicfcdkjleaa
