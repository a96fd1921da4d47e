/-
LineOk answers as its model at every line, and the law that says so returns true and leaves the line as it was.
-/
import Derived.Test.YtgdnfibogkjdoaaRows
import Derived.WalkKit
import Derived.ProofKit
import Derived.OpenShut
import Derived.ShutString
import Derived.ChangeOld
import Derived.Below
import Derived.Test.YtgdnfibogkjdoaaArgL
import Derived.Test.YtgdnfibogkjdoaaLineOkL
namespace Go.Proofs.Ytgdnfibogkjdoaa.fnExactLineOk
open Go.ChangeShapes Go.WideShapes Go.ChangeAt Go.RowKit
set_option linter.unusedVariables false

theorem own : ownKnob Try.prog.godebug = none := by kernel_rfl
theorem laidOut : laidOutB Try.prog = true := by kernel_rfl


theorem walk (L0 : La) (a0 : Option Addr) (n0 cp0 : Nat) (xa0 xb0 : Option Addr) (la0 lb0 ca0 cb0 : Nat) (f0 : Nat → Ca) (w : World) (w0 : InLn w n0 f0 L0 a0 xa0 xb0 la0 lb0) :
    Calls Try.prog 5 #[.agg (lac L0 a0 n0 cp0 xa0 xb0 la0 lb0 ca0 cb0)] w fun e w' => e = .returned (.bool true) ∧ Below w.heap.size w w' := by
  by_cases hbig : n0 + tl f0 n0 + la0 + lb0 ≤ 1048576
  · exact lineOk_law L0 a0 xa0 xb0 n0 cp0 la0 lb0 ca0 cb0 f0 w w0 hbig
  · obtain ⟨hs, hm, hmk, hm1, hm2⟩ := w0
    have HX : Hid (lfL n0 f0 la0 lb0 = -1) := by show lfL n0 f0 la0 lb0 = -1; unfold lfL; rw [if_neg hbig]
    obtain ⟨W, hW⟩ : ∃ W, W = w.alloc (.cells (lac L0 a0 n0 cp0 xa0 xb0 la0 lb0 ca0 cb0) 54) := ⟨_, rfl⟩
    have b0 : Below w.heap.size w W := by rw [hW]; exact bel_alloc _ _
    have A0 : Blk W w.heap.size 54 (lac L0 a0 n0 cp0 xa0 xb0 la0 lb0 ca0 cb0) := by rw [hW]; exact Blk.new _ _ _
    have HH : Hid (LnR W n0 f0 L0 a0 xa0 xb0 la0 lb0 ∧ n0 ≤ maxLen ∧ (∀ k, k < n0 → (f0 k).ws.length ≤ maxLen ∧ (f0 k).bs.length ≤ maxLen) ∧ la0 ≤ maxLen ∧ lb0 ≤ maxLen ∧ Below w.heap.size w W) := ⟨hs.below b0, hm, hmk, hm1, hm2, b0⟩
    have hr := A0.all
    clear hs hm hmk hm1 hm2 b0 A0 hbig
    go_enter Try.func5, Try.ntmps5
    go_upto_region 1 with fail
    rw [← hW]
    clear hW
    go_upto_region 2 with fail
    refine wp_region_lit ?_
    refine wpList_load_mid rfl 54 (.tmp 1) rfl w.heap.size 0 rfl (lacL L0 a0 n0 cp0 xa0 xb0 la0 lb0 ca0 cb0) _ hr Try.underlying54 rfl (by kernel_rfl) ?_
    go_wp2_with fail
    refine (szLine_any L0 a0 xa0 xb0 n0 cp0 la0 lb0 ca0 cb0 f0 _ HH.out.1 HH.out.2.1 HH.out.2.2.1 HH.out.2.2.2.1 HH.out.2.2.2.2.1).mono ?_
    rintro e w1 ⟨rfl, b1⟩
    rw [HX.out]
    have b2 := bel_nx HH.out.2.2.2.2.2 b1
    clear b1 hr
    go_wp2
    go_ret
    exact ⟨rfl, b2⟩

set_option maxRecDepth 100000 in
theorem lifted (os : Os) (started : os.Started) (H : Type) (enc : TypeId × Value → H) :
    ReturnsInHanded {} Try.checked os 5 .any (Rows.fnExactLineOkSpec.pre6 enc Try.prog Try.f5 Rows.fnExactLineOkRow.domain false) (Rows.fnExactLineOkSpec.post enc Try.prog Try.f5 false true false false) := by
  refine returnsInHanded_of_change (C := Try.checked) own started (by kernel_rfl) Try.func5
    (ChangeSpec.witness6 (enc := enc) (C := Try.checked) false ⟨#[], #[.agg lzc], []⟩ 8 (by kernel_rfl) (by kernel_rfl) (by kernel_rfl) (by kernel_rfl)) ?_
  intro W base args ds gs before hval0 hW hcnd _
  have hval : ∀ (j : Nat) t v, Try.f5.params[j]? = some t → args[j]? = some v → Value.okWide Try.prog W .any base t v := hval0
  have hW' := hW
  obtain ⟨p, q, hA0, hV, rfl, hfz, hnd⟩ := hW
  have hA : DataW.TrodAll enc Try.prog W 0 (fun _ => true) true Try.f5.params.toList args.toList ds p := hA0
  rw [Try.params5] at hA hval
  obtain ⟨v0, vs0, d0, ds0, p0, q0, hargs, rfl, rfl, h0, r0⟩ := trodAll_cons hA
  obtain ⟨rfl, rfl, rfl⟩ := trodAll_nil r0
  obtain rfl : args = #[v0] := by cases args; simp_all
  obtain ⟨rfl, rfl⟩ := trodVars_none hV
  have k0 := h0
  obtain ⟨L0, a0, n0, cp0, xa0, xb0, la0, lb0, ca0, cb0, f0, rfl, w0⟩ := opened_line Try.underlying54 (by kernel_rfl) rfl rfl rfl rfl rfl rfl rfl rfl rfl rfl rfl rfl rfl rfl rfl rfl rfl rfl Try.underlying49 (by kernel_rfl) Try.underlying52 (by kernel_rfl) rfl rfl rfl rfl rfl rfl rfl rfl Try.underlying50 (by kernel_rfl) (by kernel_rfl) rfl rfl rfl rfl rfl rfl Try.underlying3 Try.underlying25 Try.underlying26 Try.underlying4 (by kernel_rfl) (by kernel_rfl) (hval 0 54 v0 rfl rfl) h0
  have lt0 : ∀ x ∈ p0, x.block < W.heap.size := by obtain ⟨m, hm⟩ := k0; exact DataW.trod_lt m _ _ _ hm
  clear hA0 hval0
  refine (walk L0 a0 n0 cp0 xa0 xb0 la0 lb0 ca0 cb0 f0 W w0).mono fun e W' ⟨he, bel⟩ => ?_
  subst he
  exact ⟨_, rfl, _, _, _, [], _, [], hW', trodAll_mk1 (shut_bool Try.underlying4 _), (trodAll_cons_mk (Below.trod laidOut (by kernel_rfl) (of_decide_eq_true (by kernel_rfl)) k0 bel lt0) trodAll_mk0), rfl, bel.frame _, fun h => by cases h⟩

theorem over : Rows.fnExactLineOkRow.holds Try.pinned (OpenSpec.ofChange Rows.fnExactLineOkSpec) :=
  OpenClaim.holds_of_wide 5 Try.f5 rfl rfl rfl rfl rfl rfl rfl ⟨rfl, rfl, rfl, rfl, rfl⟩ rfl rfl rfl rfl rfl (by kernel_rfl) Try.func5 (by kernel_rfl)
    (of_decide_eq_true (by kernel_rfl)) (by unfold Func.isWrapper; first | (rw [if_pos (by decide +kernel)]; kernel_rfl) | (rw [if_neg (by decide +kernel)]; exact ⟨rfl, rfl⟩))
    (fun os started H enc _ => lifted os started H enc)

theorem proved : Rows.FnExactLineOkSaid := over
#print axioms proved
end Go.Proofs.Ytgdnfibogkjdoaa.fnExactLineOk
namespace Go.Proofs.Ytgdnfibogkjdoaa
theorem FnExactLineOk_holds : Rows.FnExactLineOkSaid := fnExactLineOk.proved
end Go.Proofs.Ytgdnfibogkjdoaa
