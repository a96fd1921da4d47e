/-
Apply answers as its model at every device and every list of questions, and the law that says so returns true and leaves both as they were.
-/
import Derived.Test.YtfdddkjonjpgpaaRows
import Derived.WalkKit
import Derived.ProofKit
import Derived.OpenShut
import Derived.ShutString
import Derived.ChangeOld
import Derived.Below
import Derived.Test.YtfdddkjonjpgpaaV2
import Derived.Test.YtfdddkjonjpgpaaV20
import Derived.Test.YtfdddkjonjpgpaaV15
namespace Go.Proofs.Ytfdddkjonjpgpaa.fnExactApply
open Go.ChangeShapes Go.WideShapes Go.ChangeAt Go.RowKit
set_option linter.unusedVariables false

theorem own : ownKnob Try.prog.godebug = none := by kernel_rfl
theorem laidOut : laidOutB Try.prog = true := by kernel_rfl


theorem walk (xa0 xb0 xc0 xd0 : Option Addr) (la0 ca0 lb0 cb0 lc0 cc0 ld0 cd0 : Nat) (cs0 is0 : List Bool) (hs0 rs0 : List Int) (n1 : Nat) (f1 : Nat → VQ) (a1 : Option Addr) (c1 : Nat) (w : World) (w0 : InDev w xa0 xb0 xc0 xd0 la0 lb0 lc0 ld0 cs0 is0 hs0 rs0) (w1 : Rd w 0 (.list 6 n1 (fun i => trs (qT (f1 i)))) (.slice a1 n1 c1)) :
    Calls Try.prog 4 #[.agg #[.slice xa0 la0 ca0, .slice xb0 lb0 cb0, .slice xc0 lc0 cc0, .slice xd0 ld0 cd0], .slice a1 n1 c1] w fun e w' => e = .returned (.bool true) ∧ Below w.heap.size w w' := by
  obtain ⟨⟨i1, m1⟩, ⟨i2, m2⟩, i3, i4⟩ := w0
  have hn : LnD la0 lb0 lc0 ld0 cs0 is0 hs0 rs0 := ⟨i1.1.symm, i2.1.symm, i3.1.symm, i4.1.symm⟩
  have hs : SlD w xa0 xb0 xc0 xd0 cs0 is0 hs0 rs0 := ⟨i1.2, i2.2, i3.2.2.1, i4.2.2.1⟩
  by_cases h1 : la0 + lb0 + lc0 + ld0 ≤ 1048576
  · by_cases h2 : la0 + lb0 + lc0 + ld0 + (Tr.list 6 n1 (fun i => trs (qT (f1 i)))).sz ≤ 1048576
    · exact apply_law xa0 xb0 xc0 xd0 la0 lb0 lc0 ld0 ca0 cb0 cc0 cd0 cs0 is0 hs0 rs0 n1 f1 a1 c1 w hn hs w1 h2
    · exact apply_big2 xa0 xb0 xc0 xd0 la0 lb0 lc0 ld0 ca0 cb0 cc0 cd0 n1 f1 a1 c1 w w1 h1 h2
  · exact apply_big1 xa0 xb0 xc0 xd0 la0 lb0 lc0 ld0 ca0 cb0 cc0 cd0 n1 a1 c1 w m1 m2 i3.2.1 i4.2.1 h1

set_option maxRecDepth 100000 in
theorem lifted (os : Os) (started : os.Started) (H : Type) (enc : TypeId × Value → H) :
    ReturnsInHanded {} Try.checked os 4 .any (Rows.fnExactApplySpec.pre6 enc Try.prog Try.f4 Rows.fnExactApplyRow.domain false) (Rows.fnExactApplySpec.post enc Try.prog Try.f4 false true false false) := by
  refine returnsInHanded_of_change (C := Try.checked) own started (by kernel_rfl) Try.func4
    (ChangeSpec.witness6 (enc := enc) (C := Try.checked) false ⟨#[], #[.agg #[.slice none 0 0, .slice none 0 0, .slice none 0 0, .slice none 0 0], .slice none 0 0], []⟩ 8 (by kernel_rfl) (by kernel_rfl) (by kernel_rfl) (by kernel_rfl)) ?_
  intro W base args ds gs before hval0 hW hcnd _
  have hval : ∀ (j : Nat) t v, Try.f4.params[j]? = some t → args[j]? = some v → Value.okWide Try.prog W .any base t v := hval0
  have hW' := hW
  obtain ⟨p, q, hA0, hV, rfl, hfz, hnd⟩ := hW
  have hA : DataW.TrodAll enc Try.prog W 0 (fun _ => true) true Try.f4.params.toList args.toList ds p := hA0
  rw [Try.params4] at hA hval
  obtain ⟨v0, vs0, d0, ds0, p0, q0, hargs, rfl, rfl, h0, r0⟩ := trodAll_cons hA
  obtain ⟨v1, vs1, d1, ds1, p1, q1, rfl, rfl, rfl, h1, r1⟩ := trodAll_cons r0
  obtain ⟨rfl, rfl, rfl⟩ := trodAll_nil r1
  obtain rfl : args = #[v0, v1] := by cases args; simp_all
  obtain ⟨rfl, rfl⟩ := trodVars_none hV
  have k0 := h0
  obtain ⟨xa0, xb0, xc0, xd0, la0, ca0, lb0, cb0, lc0, cc0, ld0, cd0, cs0, is0, hs0, rs0, rfl, w0⟩ := opened_dev Try.underlying40 (by kernel_rfl) (by kernel_rfl) rfl rfl rfl rfl Try.underlying3 Try.underlying25 Try.underlying24 Try.underlying4 (by kernel_rfl) (by kernel_rfl) (hval 0 40 v0 rfl rfl) h0
  have lt0 : ∀ x ∈ p0, x.block < W.heap.size := by obtain ⟨m, hm⟩ := k0; exact DataW.trod_lt m _ _ _ hm
  have k1 := h1
  obtain ⟨n1, f1, a1, c1, rfl, w1⟩ := opened_qs (N := 8) Try.underlying41 (by kernel_rfl) (hval 1 41 v1 rfl rfl) h1
  have lt1 : ∀ x ∈ p1, x.block < W.heap.size := by obtain ⟨m, hm⟩ := k1; exact DataW.trod_lt m _ _ _ hm
  clear hA0 hval0
  refine (walk xa0 xb0 xc0 xd0 la0 ca0 lb0 cb0 lc0 cc0 ld0 cd0 cs0 is0 hs0 rs0 n1 f1 a1 c1 W w0 w1).mono fun e W' ⟨he, bel⟩ => ?_
  subst he
  exact ⟨_, rfl, _, _, _, [], _, [], hW', trodAll_mk1 (shut_bool Try.underlying4 _), (trodAll_cons_mk (Below.trod laidOut (by kernel_rfl) (of_decide_eq_true (by kernel_rfl)) k0 bel lt0) (trodAll_cons_mk (Below.trod laidOut (by kernel_rfl) (of_decide_eq_true (by kernel_rfl)) k1 bel lt1) trodAll_mk0)), rfl, bel.frame _, fun h => by cases h⟩

theorem over : Rows.fnExactApplyRow.holds Try.pinned (OpenSpec.ofChange Rows.fnExactApplySpec) :=
  OpenClaim.holds_of_wide 4 Try.f4 rfl rfl rfl rfl rfl rfl rfl ⟨rfl, rfl, rfl, rfl, rfl⟩ rfl rfl rfl rfl rfl (by kernel_rfl) Try.func4 (by kernel_rfl)
    (of_decide_eq_true (by kernel_rfl)) (by unfold Func.isWrapper; first | (rw [if_pos (by decide +kernel)]; kernel_rfl) | (rw [if_neg (by decide +kernel)]; exact ⟨rfl, rfl⟩))
    (fun os started H enc _ => lifted os started H enc)

theorem proved : Rows.FnExactApplySaid := over
#print axioms proved
end Go.Proofs.Ytfdddkjonjpgpaa.fnExactApply
namespace Go.Proofs.Ytfdddkjonjpgpaa
theorem FnExactApply_holds : Rows.FnExactApplySaid := fnExactApply.proved
end Go.Proofs.Ytfdddkjonjpgpaa
