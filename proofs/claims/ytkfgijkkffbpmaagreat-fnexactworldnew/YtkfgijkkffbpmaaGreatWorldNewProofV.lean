/-
WorldNew answers as its model at every settings and every list of posts, and the law that says so returns true and leaves them as they were.
-/
import Derived.Test.YtkfgijkkffbpmaaGreatRows
import Derived.WalkKit
import Derived.ProofKit
import Derived.OpenShut
import Derived.ShutString
import Derived.ChangeOld
import Derived.Below
import Derived.Test.YtkfgijkkffbpmaaGreatV4
import Derived.Test.YtkfgijkkffbpmaaGreatV22
namespace Go.Proofs.YtkfgijkkffbpmaaGreat.fnExactWorldNew
open Go.ChangeShapes Go.WideShapes Go.ChangeAt Go.RowKit
set_option linter.unusedVariables false

theorem own : ownKnob Tryz.prog.godebug = none := by kernel_rfl
theorem laidOut : laidOutB Tryz.prog = true := by kernel_rfl


theorem walk (wt0 tr0 : Int) (a0 : Option Addr) (l0 c0 : Nat) (f0 : Nat → Ru) (n1 : Nat) (f1 : Nat → VS) (a1 : Option Addr) (c1 : Nat) (w : World) (w0 : InRus w a0 l0 f0) (w1 : Rd w 0 (.list 6 n1 (fun i => trs (xsT (f1 i)))) (.slice a1 n1 c1)) :
    Calls Tryz.prog 6 #[.agg #[.int .i64 wt0, .int .i64 tr0, .slice a0 l0 c0], .slice a1 n1 c1] w fun e w' => e = .returned (.bool true) ∧ Below w.heap.size w w' := by
  obtain ⟨hm, hs, h64⟩ := w0
  by_cases hbig : l0 ≤ 1048576
  · by_cases h2 : l0 + (Tr.list 6 n1 (fun i => trs (xsT (f1 i)))).sz ≤ 1048576
    · exact worldNew_law wt0 tr0 a0 l0 c0 f0 n1 f1 a1 c1 w hs w1 h64 h2
    · exact worldNew_big2 wt0 tr0 a0 l0 c0 f0 n1 f1 a1 c1 w hs w1 hbig h2
  · exact worldNew_big1 wt0 tr0 a0 l0 c0 f0 n1 f1 a1 c1 w hs w1 hm hbig

set_option maxRecDepth 100000 in
theorem lifted (os : Os) (started : os.Started) (H : Type) (enc : TypeId × Value → H) :
    ReturnsInHanded {} Tryz.checked os 6 .any (Rows.fnExactWorldNewSpec.pre6 enc Tryz.prog Tryz.f6 Rows.fnExactWorldNewRow.domain false) (Rows.fnExactWorldNewSpec.post enc Tryz.prog Tryz.f6 false true false false) := by
  refine returnsInHanded_of_change (C := Tryz.checked) own started (by kernel_rfl) Tryz.func6
    (ChangeSpec.witness6 (enc := enc) (C := Tryz.checked) false ⟨#[], #[.agg #[.int .i64 0, .int .i64 0, .slice none 0 0], .slice none 0 0], []⟩ 8 (by kernel_rfl) (by kernel_rfl) (by kernel_rfl) (by kernel_rfl)) ?_
  intro W base args ds gs before hval0 hW hcnd _
  have hval : ∀ (j : Nat) t v, Tryz.f6.params[j]? = some t → args[j]? = some v → Value.okWide Tryz.prog W .any base t v := hval0
  have hW' := hW
  obtain ⟨p, q, hA0, hV, rfl, hfz, hnd⟩ := hW
  have hA : DataW.TrodAll enc Tryz.prog W 0 (fun _ => true) true Tryz.f6.params.toList args.toList ds p := hA0
  rw [Tryz.params6] at hA hval
  obtain ⟨v0, vs0, d0, ds0, p0, q0, hargs, rfl, rfl, h0, r0⟩ := trodAll_cons hA
  obtain ⟨v1, vs1, d1, ds1, p1, q1, rfl, rfl, rfl, h1, r1⟩ := trodAll_cons r0
  obtain ⟨rfl, rfl, rfl⟩ := trodAll_nil r1
  obtain rfl : args = #[v0, v1] := by cases args; simp_all
  obtain ⟨rfl, rfl⟩ := trodVars_none hV
  have k0 := h0
  obtain ⟨wt0, tr0, a0, l0, c0, f0, rfl, w0⟩ := opened_cfg Tryz.underlying24 (by kernel_rfl) (by kernel_rfl) rfl rfl rfl Tryz.underlying3 Tryz.underlying22 (by kernel_rfl) Tryz.underlying112 (by kernel_rfl) rfl rfl rfl rfl rfl rfl rfl (hval 0 24 v0 rfl rfl) h0
  have lt0 : ∀ x ∈ p0, x.block < W.heap.size := by obtain ⟨m, hm⟩ := k0; exact DataW.trod_lt m _ _ _ hm
  have k1 := h1
  obtain ⟨n1, f1, a1, c1, rfl, w1⟩ := opened_xss (N := 8) Tryz.underlying54 (by kernel_rfl) (hval 1 54 v1 rfl rfl) h1
  have lt1 : ∀ x ∈ p1, x.block < W.heap.size := by obtain ⟨m, hm⟩ := k1; exact DataW.trod_lt m _ _ _ hm
  clear hA0 hval0
  refine (walk wt0 tr0 a0 l0 c0 f0 n1 f1 a1 c1 W w0 w1).mono fun e W' ⟨he, bel⟩ => ?_
  subst he
  exact ⟨_, rfl, _, _, _, [], _, [], hW', trodAll_mk1 (shut_bool Tryz.underlying4 _), (trodAll_cons_mk (Below.trod laidOut (by kernel_rfl) (of_decide_eq_true (by kernel_rfl)) k0 bel lt0) (trodAll_cons_mk (Below.trod laidOut (by kernel_rfl) (of_decide_eq_true (by kernel_rfl)) k1 bel lt1) trodAll_mk0)), rfl, bel.frame _, fun h => by cases h⟩

theorem over : Rows.fnExactWorldNewRow.holds Tryz.pinned (OpenSpec.ofChange Rows.fnExactWorldNewSpec) :=
  OpenClaim.holds_of_wide 6 Tryz.f6 rfl rfl rfl rfl rfl rfl rfl ⟨rfl, rfl, rfl, rfl, rfl⟩ rfl rfl rfl rfl rfl (by kernel_rfl) Tryz.func6 (by kernel_rfl)
    (of_decide_eq_true (by kernel_rfl)) (by unfold Func.isWrapper; first | (rw [if_pos (by decide +kernel)]; kernel_rfl) | (rw [if_neg (by decide +kernel)]; exact ⟨rfl, rfl⟩))
    (fun os started H enc _ => lifted os started H enc)

theorem proved : Rows.FnExactWorldNewSaid := over
#print axioms proved
end Go.Proofs.YtkfgijkkffbpmaaGreat.fnExactWorldNew
namespace Go.Proofs.YtkfgijkkffbpmaaGreat
theorem FnExactWorldNew_holds : Rows.FnExactWorldNewSaid := fnExactWorldNew.proved
end Go.Proofs.YtkfgijkkffbpmaaGreat
