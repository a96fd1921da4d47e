/-
FabricNew answers as its model at every settings, and the law that says so returns true and leaves the settings as they were.
-/
import Derived.Test.YtccffbbboodolaaRows
import Derived.WalkKit
import Derived.ProofKit
import Derived.OpenShut
import Derived.ShutString
import Derived.ChangeOld
import Derived.Below
import Derived.Test.YtccffbbboodolaaV1
import Derived.Test.YtccffbbboodolaaV13
namespace Go.Proofs.Ytccffbbboodolaa.fnExactFabricNew
open Go.ChangeShapes Go.WideShapes Go.ChangeAt Go.RowKit
set_option linter.unusedVariables false

theorem own : ownKnob Try.prog.godebug = none := by kernel_rfl
theorem laidOut : laidOutB Try.prog = true := by kernel_rfl


theorem walk (wt0 tr0 : Int) (a0 : Option Addr) (l0 c0 : Nat) (f0 : Nat → Ru) (w : World) (w0 : InRus w a0 l0 f0) :
    Calls Try.prog 3 #[.agg #[.int .i64 wt0, .int .i64 tr0, .slice a0 l0 c0]] w fun e w' => e = .returned (.bool true) ∧ Below w.heap.size w w' := by
  obtain ⟨hm, hs, h64⟩ := w0
  by_cases hbig : l0 ≤ 1048576
  · exact fabricNew_law wt0 tr0 a0 l0 c0 f0 w hs hbig h64
  · clear hs
    go_enter Try.func3, Try.ntmps3
    go_wp2_with fail
    refine (szConfig_big wt0 tr0 a0 l0 c0 _ hm hbig).mono ?_
    rintro e w1 ⟨rfl, b1⟩
    have b2 := bel_next (bel_alloc w (.cells (cfc wt0 tr0 a0 l0 c0) 24)) b1
    clear b1
    go_wp2
    go_ret
    exact ⟨rfl, b2⟩

set_option maxRecDepth 100000 in
theorem lifted (os : Os) (started : os.Started) (H : Type) (enc : TypeId × Value → H) :
    ReturnsInHanded {} Try.checked os 3 .any (Rows.fnExactFabricNewSpec.pre6 enc Try.prog Try.f3 Rows.fnExactFabricNewRow.domain false) (Rows.fnExactFabricNewSpec.post enc Try.prog Try.f3 false true false false) := by
  refine returnsInHanded_of_change (C := Try.checked) own started (by kernel_rfl) Try.func3
    (ChangeSpec.witness6 (enc := enc) (C := Try.checked) false ⟨#[], #[.agg #[.int .i64 0, .int .i64 0, .slice none 0 0]], []⟩ 8 (by kernel_rfl) (by kernel_rfl) (by kernel_rfl) (by kernel_rfl)) ?_
  intro W base args ds gs before hval0 hW hcnd _
  have hval : ∀ (j : Nat) t v, Try.f3.params[j]? = some t → args[j]? = some v → Value.okWide Try.prog W .any base t v := hval0
  have hW' := hW
  obtain ⟨p, q, hA0, hV, rfl, hfz, hnd⟩ := hW
  have hA : DataW.TrodAll enc Try.prog W 0 (fun _ => true) true Try.f3.params.toList args.toList ds p := hA0
  rw [Try.params3] at hA hval
  obtain ⟨v0, vs0, d0, ds0, p0, q0, hargs, rfl, rfl, h0, r0⟩ := trodAll_cons hA
  obtain ⟨rfl, rfl, rfl⟩ := trodAll_nil r0
  obtain rfl : args = #[v0] := by cases args; simp_all
  obtain ⟨rfl, rfl⟩ := trodVars_none hV
  have k0 := h0
  obtain ⟨wt0, tr0, a0, l0, c0, f0, rfl, w0⟩ := opened_cfg Try.underlying24 (by kernel_rfl) (by kernel_rfl) rfl rfl rfl Try.underlying3 Try.underlying22 (by kernel_rfl) Try.underlying67 (by kernel_rfl) rfl rfl rfl rfl rfl rfl rfl (hval 0 24 v0 rfl rfl) h0
  have lt0 : ∀ x ∈ p0, x.block < W.heap.size := by obtain ⟨m, hm⟩ := k0; exact DataW.trod_lt m _ _ _ hm
  clear hA0 hval0
  refine (walk wt0 tr0 a0 l0 c0 f0 W w0).mono fun e W' ⟨he, bel⟩ => ?_
  subst he
  exact ⟨_, rfl, _, _, _, [], _, [], hW', trodAll_mk1 (shut_bool Try.underlying4 _), (trodAll_cons_mk (Below.trod laidOut (by kernel_rfl) (of_decide_eq_true (by kernel_rfl)) k0 bel lt0) trodAll_mk0), rfl, bel.frame _, fun h => by cases h⟩

theorem over : Rows.fnExactFabricNewRow.holds Try.pinned (OpenSpec.ofChange Rows.fnExactFabricNewSpec) :=
  OpenClaim.holds_of_wide 3 Try.f3 rfl rfl rfl rfl rfl rfl rfl ⟨rfl, rfl, rfl, rfl, rfl⟩ rfl rfl rfl rfl rfl (by kernel_rfl) Try.func3 (by kernel_rfl)
    (of_decide_eq_true (by kernel_rfl)) (by unfold Func.isWrapper; first | (rw [if_pos (by decide +kernel)]; kernel_rfl) | (rw [if_neg (by decide +kernel)]; exact ⟨rfl, rfl⟩))
    (fun os started H enc _ => lifted os started H enc)

theorem proved : Rows.FnExactFabricNewSaid := over
#print axioms proved
end Go.Proofs.Ytccffbbboodolaa.fnExactFabricNew
namespace Go.Proofs.Ytccffbbboodolaa
theorem FnExactFabricNew_holds : Rows.FnExactFabricNewSaid := fnExactFabricNew.proved
end Go.Proofs.Ytccffbbboodolaa
