/-
Quiet answers as its model at every world, and the law that says so returns true and leaves the world as it was.
-/
import Derived.Test.YtplaoagcedgdfaaRows
import Derived.WalkKit
import Derived.ProofKit
import Derived.OpenShut
import Derived.ShutString
import Derived.ChangeOld
import Derived.Below
import Derived.Test.YtplaoagcedgdfaaV7
import Derived.Test.YtplaoagcedgdfaaV12
namespace Go.Proofs.Ytplaoagcedgdfaa.fnExactQuiet
open Go.ChangeShapes Go.WideShapes Go.ChangeAt Go.RowKit
set_option linter.unusedVariables false

theorem own : ownKnob Try.prog.godebug = none := by kernel_rfl
theorem laidOut : laidOutB Try.prog = true := by kernel_rfl


theorem walk (X0 : VW) (a0_1 : Option Addr) (l0_1 c0_1 : Nat) (a0_2 : Option Addr) (l0_2 c0_2 : Nat) (a0_3 : Option Addr) (l0_3 c0_3 : Nat) (a0_4 : Option Addr) (l0_4 c0_4 : Nat) (a0_5 : Option Addr) (l0_5 c0_5 : Nat) (a0_6 : Option Addr) (l0_6 c0_6 : Nat) (a0_7 : Option Addr) (l0_7 c0_7 : Nat) (w : World) (w0 : (Rd w 0 (.list 7 X0.fb.set.n (fun i => trs (xrT (X0.fb.set.f i)))) (.slice a0_1 l0_1 c0_1) ∧ Rd w 0 (.list 13 X0.fb.op.m (fun i => trs (dT (X0.fb.op.f i)))) (.slice a0_2 l0_2 c0_2) ∧ Rd w 0 (.list 17 X0.fb.nl (fun i => trs (xnT (X0.fb.lf i)))) (.slice a0_3 l0_3 c0_3) ∧ Rd w 0 (.list 6 X0.ns (fun i => trs (xsT (X0.sf i)))) (.slice a0_4 l0_4 c0_4) ∧ Rd w 0 (.list 16 X0.nk (fun i => trs (xkT (X0.kf i)))) (.slice a0_5 l0_5 c0_5) ∧ Rd w 0 (.list 16 X0.nr (fun i => trs (xyT (X0.rf i)))) (.slice a0_6 l0_6 c0_6) ∧ Rd w 0 (.list 15 X0.ne (fun i => trs (xeT (X0.ef i)))) (.slice a0_7 l0_7 c0_7)) ∧ ∀ k, k < X0.fb.set.n → -9223372036854775808 ≤ (X0.fb.set.f k).sh ∧ (X0.fb.set.f k).sh ≤ 9223372036854775807) :
    Calls Try.prog 3 #[.agg (xwL X0 a0_1 l0_1 c0_1 a0_2 l0_2 c0_2 a0_3 l0_3 c0_3 a0_4 l0_4 c0_4 a0_5 l0_5 c0_5 a0_6 l0_6 c0_6 a0_7 l0_7 c0_7).toArray] w fun e w' => e = .returned (.bool true) ∧ Below w.heap.size w w' := by
  obtain ⟨⟨r1, r2, r3, r4, r5, r6, r7⟩, w64⟩ := w0
  obtain ⟨_, _, e1, -, -⟩ := r1.shape
  simp only [Value.slice.injEq] at e1
  obtain ⟨-, rfl, -⟩ := e1
  obtain ⟨_, _, e2, -, -⟩ := r2.shape
  simp only [Value.slice.injEq] at e2
  obtain ⟨-, rfl, -⟩ := e2
  obtain ⟨_, _, e3, -, -⟩ := r3.shape
  simp only [Value.slice.injEq] at e3
  obtain ⟨-, rfl, -⟩ := e3
  obtain ⟨_, _, e4, -, -⟩ := r4.shape
  simp only [Value.slice.injEq] at e4
  obtain ⟨-, rfl, -⟩ := e4
  obtain ⟨_, _, e5, -, -⟩ := r5.shape
  simp only [Value.slice.injEq] at e5
  obtain ⟨-, rfl, -⟩ := e5
  obtain ⟨_, _, e6, -, -⟩ := r6.shape
  simp only [Value.slice.injEq] at e6
  obtain ⟨-, rfl, -⟩ := e6
  obtain ⟨_, _, e7, -, -⟩ := r7.shape
  simp only [Value.slice.injEq] at e7
  obtain ⟨-, rfl, -⟩ := e7
  by_cases hz : szT 15 (trs (xwT X0)) ≤ 1048576
  · exact quiet_law X0 a0_1 c0_1 a0_2 c0_2 a0_3 c0_3 a0_4 c0_4 a0_5 c0_5 a0_6 c0_6 a0_7 c0_7 w ⟨r1, r2, r3, r4, r5, r6, r7⟩ w64 hz
  · exact quiet_big X0 a0_1 c0_1 a0_2 c0_2 a0_3 c0_3 a0_4 c0_4 a0_5 c0_5 a0_6 c0_6 a0_7 c0_7 w ⟨r1, r2, r3, r4, r5, r6, r7⟩ hz

set_option maxRecDepth 100000 in
theorem lifted (os : Os) (started : os.Started) (H : Type) (enc : TypeId × Value → H) :
    ReturnsInHanded {} Try.checked os 3 .any (Rows.fnExactQuietSpec.pre6 enc Try.prog Try.f3 Rows.fnExactQuietRow.domain false) (Rows.fnExactQuietSpec.post enc Try.prog Try.f3 false true false false) := by
  refine returnsInHanded_of_change (C := Try.checked) own started (by kernel_rfl) Try.func3
    (ChangeSpec.witness6 (enc := enc) (C := Try.checked) false ⟨#[], #[.agg #[.int .i64 0, .int .i64 0, .int .i64 0, .slice none 0 0, .int .i64 0, .slice none 0 0, .slice none 0 0, .int .i64 0, .int .i64 0, .int .i64 0, .int .i64 0, .slice none 0 0, .slice none 0 0, .slice none 0 0, .slice none 0 0]], []⟩ 8 (by kernel_rfl) (by kernel_rfl) (by kernel_rfl) (by kernel_rfl)) ?_
  intro W base args ds gs before hval0 hW hcnd _
  have hval : ∀ (j : Nat) t v, Try.f3.params[j]? = some t → args[j]? = some v → Value.okWide Try.prog W .any base t v := hval0
  have hW' := hW
  obtain ⟨p, q, hA0, hV, rfl, hfz, hnd⟩ := hW
  have hA : DataW.TrodAll enc Try.prog W 0 (fun _ => true) true Try.f3.params.toList args.toList ds p := hA0
  rw [Try.params3] at hA hval
  obtain ⟨v0, vs0, d0, ds0, p0, q0, hargs, rfl, rfl, h0, r0⟩ := trodAll_cons hA
  obtain ⟨rfl, rfl, rfl⟩ := trodAll_nil r0
  obtain rfl : args = #[v0] := by cases args; simp_all
  obtain ⟨rfl, rfl⟩ := trodVars_none hV
  have k0 := h0
  obtain ⟨X0, a0_1, l0_1, c0_1, a0_2, l0_2, c0_2, a0_3, l0_3, c0_3, a0_4, l0_4, c0_4, a0_5, l0_5, c0_5, a0_6, l0_6, c0_6, a0_7, l0_7, c0_7, rfl, w0⟩ := opened_xwv (N := 14) Try.underlying36 (by kernel_rfl) (hval 0 36 v0 rfl rfl) h0
  have w64_0 := opened_64 (N := 14) (S := xwSh) (by kernel_rfl) h0 rfl rfl rfl w0.1
  replace w0 := And.intro w0 w64_0
  have lt0 : ∀ x ∈ p0, x.block < W.heap.size := by obtain ⟨m, hm⟩ := k0; exact DataW.trod_lt m _ _ _ hm
  clear hA0 hval0
  refine (walk X0 a0_1 l0_1 c0_1 a0_2 l0_2 c0_2 a0_3 l0_3 c0_3 a0_4 l0_4 c0_4 a0_5 l0_5 c0_5 a0_6 l0_6 c0_6 a0_7 l0_7 c0_7 W w0).mono fun e W' ⟨he, bel⟩ => ?_
  subst he
  exact ⟨_, rfl, _, _, _, [], _, [], hW', trodAll_mk1 (shut_bool Try.underlying4 _), (trodAll_cons_mk (Below.trod laidOut (by kernel_rfl) (of_decide_eq_true (by kernel_rfl)) k0 bel lt0) trodAll_mk0), rfl, bel.frame _, fun h => by cases h⟩

set_option maxHeartbeats 40000000 in
set_option maxRecDepth 100000 in
theorem closedF : joinedFacts Try.pinned.checked.prog 3 Try.f3 Rows.fnExactQuietSpec Rows.fnExactQuietRow = true := by
  simp only [joinedFacts, Bool.and_eq_true]
  repeat' refine And.intro ?_ ?_
  all_goals (as_aux_lemma => kernel_rfl)

theorem over : Rows.fnExactQuietRow.holds Try.pinned (OpenSpec.ofChange Rows.fnExactQuietSpec) :=
  OpenClaim.holds_of_wide 3 Try.f3 rfl rfl rfl rfl rfl rfl rfl ⟨rfl, rfl, rfl, rfl, rfl⟩ rfl rfl rfl rfl rfl (by kernel_rfl) Try.func3 closedF
    (of_decide_eq_true (by kernel_rfl)) (by unfold Func.isWrapper; first | (rw [if_pos (by decide +kernel)]; kernel_rfl) | (rw [if_neg (by decide +kernel)]; exact ⟨rfl, rfl⟩))
    (fun os started H enc _ => lifted os started H enc)

theorem proved : Rows.FnExactQuietSaid := over
#print axioms proved
end Go.Proofs.Ytplaoagcedgdfaa.fnExactQuiet
namespace Go.Proofs.Ytplaoagcedgdfaa
theorem FnExactQuiet_holds : Rows.FnExactQuietSaid := fnExactQuiet.proved
end Go.Proofs.Ytplaoagcedgdfaa
