/-
BoxTell answers as its model at every box and every answer, and the law that says so returns true and leaves both as they were.
-/
import Derived.Test.YtohikbpolofklaaRows
import Derived.WalkKit
import Derived.ProofKit
import Derived.OpenShut
import Derived.ShutString
import Derived.ChangeOld
import Derived.Below
import Derived.Test.YtohikbpolofklaaV1
import Derived.Test.YtohikbpolofklaaV6
namespace Go.Proofs.Ytohikbpolofklaa.fnExactBoxTell
open Go.ChangeShapes Go.WideShapes Go.ChangeAt Go.RowKit
set_option linter.unusedVariables false

theorem own : ownKnob Try.prog.godebug = none := by kernel_rfl
theorem laidOut : laidOutB Try.prog = true := by kernel_rfl


theorem walk (nm0 un0 : Int) (a0 : Option Addr) (l0 c0 : Nat) (z0 : List Int) (kd1 fl1 pl1 nn1 : Int) (a1 b1 : Option Addr) (la1 ca1 lb1 cb1 : Nat) (ws1 : List Int) (bs1 : List Bool) (w : World) (w0 : InBox w nm0 un0 a0 l0 z0) (w1 : InResp w kd1 fl1 pl1 nn1 a1 b1 la1 lb1 ws1 bs1) :
    Calls Try.prog 3 #[.agg #[.int .i64 nm0, .int .i64 un0, .slice a0 l0 c0], .agg #[.int .i64 kd1, .int .i64 fl1, .int .i64 pl1, .int .i64 nn1, .slice a1 la1 ca1, .slice b1 lb1 cb1]] w fun e w' => e = .returned (.bool true) ∧ Below w.heap.size w w' := by
  by_cases hbig : l0 + (la1 + lb1) ≤ 1048576
  · exact boxTell_law nm0 un0 a0 l0 c0 z0 kd1 fl1 pl1 nn1 a1 b1 la1 lb1 ca1 cb1 ws1 bs1 w w0 w1 hbig
  · obtain ⟨⟨_, hm0, _⟩, _⟩ := w0
    obtain ⟨⟨_, hm1, _⟩, _, hm2, _⟩ := w1
    exact boxTell_over nm0 un0 a0 l0 c0 kd1 fl1 pl1 nn1 a1 b1 la1 lb1 ca1 cb1 w hm0 hm1 hm2 hbig

set_option maxRecDepth 100000 in
theorem lifted (os : Os) (started : os.Started) (H : Type) (enc : TypeId × Value → H) :
    ReturnsInHanded {} Try.checked os 3 .any (Rows.fnExactBoxTellSpec.pre6 enc Try.prog Try.f3 Rows.fnExactBoxTellRow.domain false) (Rows.fnExactBoxTellSpec.post enc Try.prog Try.f3 false true false false) := by
  refine returnsInHanded_of_change (C := Try.checked) own started (by kernel_rfl) Try.func3
    (ChangeSpec.witness6 (enc := enc) (C := Try.checked) false ⟨#[], #[.agg #[.int .i64 0, .int .i64 0, .slice none 0 0], .agg #[.int .i64 0, .int .i64 0, .int .i64 0, .int .i64 0, .slice none 0 0, .slice none 0 0]], []⟩ 8 (by kernel_rfl) (by kernel_rfl) (by kernel_rfl) (by kernel_rfl)) ?_
  intro W base args ds gs before hval0 hW hcnd _
  have hval : ∀ (j : Nat) t v, Try.f3.params[j]? = some t → args[j]? = some v → Value.okWide Try.prog W .any base t v := hval0
  have hW' := hW
  obtain ⟨p, q, hA0, hV, rfl, hfz, hnd⟩ := hW
  have hA : DataW.TrodAll enc Try.prog W 0 (fun _ => true) true Try.f3.params.toList args.toList ds p := hA0
  rw [Try.params3] at hA hval
  obtain ⟨v0, vs0, d0, ds0, p0, q0, hargs, rfl, rfl, h0, r0⟩ := trodAll_cons hA
  obtain ⟨v1, vs1, d1, ds1, p1, q1, rfl, rfl, rfl, h1, r1⟩ := trodAll_cons r0
  obtain ⟨rfl, rfl, rfl⟩ := trodAll_nil r1
  obtain rfl : args = #[v0, v1] := by cases args; simp_all
  obtain ⟨rfl, rfl⟩ := trodVars_none hV
  have k0 := h0
  obtain ⟨nm0, un0, a0, l0, c0, z0, rfl, w0⟩ := opened_box Try.underlying24 (by kernel_rfl) (by kernel_rfl) rfl rfl rfl Try.underlying3 Try.underlying22 Try.underlying5 (by kernel_rfl) (hval 0 24 v0 rfl rfl) h0
  have lt0 : ∀ x ∈ p0, x.block < W.heap.size := by obtain ⟨m, hm⟩ := k0; exact DataW.trod_lt m _ _ _ hm
  have k1 := h1
  obtain ⟨kd1, fl1, pl1, nn1, a1, b1, la1, ca1, lb1, cb1, ws1, bs1, rfl, w1⟩ := opened_resp Try.underlying28 (by kernel_rfl) (by kernel_rfl) rfl rfl rfl rfl rfl rfl Try.underlying3 Try.underlying25 Try.underlying26 Try.underlying4 (by kernel_rfl) (by kernel_rfl) (hval 1 28 v1 rfl rfl) h1
  have lt1 : ∀ x ∈ p1, x.block < W.heap.size := by obtain ⟨m, hm⟩ := k1; exact DataW.trod_lt m _ _ _ hm
  clear hA0 hval0
  refine (walk nm0 un0 a0 l0 c0 z0 kd1 fl1 pl1 nn1 a1 b1 la1 ca1 lb1 cb1 ws1 bs1 W w0 w1).mono fun e W' ⟨he, bel⟩ => ?_
  subst he
  exact ⟨_, rfl, _, _, _, [], _, [], hW', trodAll_mk1 (shut_bool Try.underlying4 _), (trodAll_cons_mk (Below.trod laidOut (by kernel_rfl) (of_decide_eq_true (by kernel_rfl)) k0 bel lt0) (trodAll_cons_mk (Below.trod laidOut (by kernel_rfl) (of_decide_eq_true (by kernel_rfl)) k1 bel lt1) trodAll_mk0)), rfl, bel.frame _, fun h => by cases h⟩

theorem over : Rows.fnExactBoxTellRow.holds Try.pinned (OpenSpec.ofChange Rows.fnExactBoxTellSpec) :=
  OpenClaim.holds_of_wide 3 Try.f3 rfl rfl rfl rfl rfl rfl rfl ⟨rfl, rfl, rfl, rfl, rfl⟩ rfl rfl rfl rfl rfl (by kernel_rfl) Try.func3 (by kernel_rfl)
    (of_decide_eq_true (by kernel_rfl)) (by unfold Func.isWrapper; first | (rw [if_pos (by decide +kernel)]; kernel_rfl) | (rw [if_neg (by decide +kernel)]; exact ⟨rfl, rfl⟩))
    (fun os started H enc _ => lifted os started H enc)

theorem proved : Rows.FnExactBoxTellSaid := over
#print axioms proved
end Go.Proofs.Ytohikbpolofklaa.fnExactBoxTell
namespace Go.Proofs.Ytohikbpolofklaa
theorem FnExactBoxTell_holds : Rows.FnExactBoxTellSaid := fnExactBoxTell.proved
end Go.Proofs.Ytohikbpolofklaa
