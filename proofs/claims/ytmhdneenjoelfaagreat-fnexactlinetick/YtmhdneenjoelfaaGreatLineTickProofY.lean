/-
LineTick answers as its model at every line and tick, writes into no argument and keeps nothing of one; the law that says so returns true and leaves its arguments as they were.
-/
import Derived.Test.YtmhdneenjoelfaaGreatRows
import Derived.WalkKit
import Derived.ProofKit
import Derived.OpenShut
import Derived.ShutString
import Derived.ChangeOld
import Derived.Below
import Derived.Test.YtmhdneenjoelfaaGreatY2
import Derived.Test.YtmhdneenjoelfaaGreatY14
namespace Go.Proofs.YtmhdneenjoelfaaGreat.fnExactLineTick
open Go.ChangeShapes Go.WideShapes Go.ChangeAt Go.RowKit
set_option linter.unusedVariables false

theorem own : ownKnob Tryz.prog.godebug = none := by kernel_rfl
theorem laidOut : laidOutB Tryz.prog = true := by kernel_rfl


theorem walk (L0 : La) (a0 : Option Addr) (n0 cp0 : Nat) (xa0 xb0 : Option Addr) (la0 lb0 ca0 cb0 : Nat) (f0 : Nat → Ca) (a1 : Int) (w : World) (w0 : InLn w n0 f0 L0 a0 xa0 xb0 la0 lb0) (w1 : (Lit.int .i64 a1).wf = true) :
    Calls Tryz.prog 4 #[.agg (lac L0 a0 n0 cp0 xa0 xb0 la0 lb0 ca0 cb0), .int .i64 a1] w fun e w' => e = .returned (.bool true) ∧ Below w.heap.size w w' := by
  by_cases hbig : n0 + tl f0 n0 + la0 + lb0 ≤ 1048576
  · exact lineTick_law L0 a0 xa0 xb0 n0 cp0 la0 lb0 ca0 cb0 f0 a1 w w0 hbig
  · obtain ⟨hs, hm, hmk, hm1, hm2⟩ := w0
    obtain ⟨B, hB⟩ : ∃ B, B = w.heap.size := ⟨_, rfl⟩
    obtain ⟨W, hW⟩ : ∃ W, W = w.alloc (.cells (lac L0 a0 n0 cp0 xa0 xb0 la0 lb0 ca0 cb0) 53) := ⟨_, rfl⟩
    have b0 : Below w.heap.size w W := by rw [hW]; exact bel_alloc _ _
    have A0 : Blk W B 53 (lac L0 a0 n0 cp0 xa0 xb0 la0 lb0 ca0 cb0) := by rw [hW, hB]; exact Blk.new w _ _
    have HH : Hid (LnR W n0 f0 L0 a0 xa0 xb0 la0 lb0 ∧ n0 ≤ maxLen ∧ (∀ k, k < n0 → (f0 k).ws.length ≤ maxLen ∧ (f0 k).bs.length ≤ maxLen) ∧ la0 ≤ maxLen ∧ lb0 ≤ maxLen ∧ Below w.heap.size w W) := ⟨hs.below b0, hm, hmk, hm1, hm2, b0⟩
    have hr := A0.all
    have HX : Hid (lfL n0 f0 la0 lb0 = -1) := by show lfL n0 f0 la0 lb0 = -1; unfold lfL; rw [if_neg hbig]
    clear hs hm hmk hm1 hm2 b0 A0 hbig
    set_option maxRecDepth 20000 in
    go_enter Tryz.func4, Tryz.ntmps4
    go_upto_region 1 with fail
    rw [← hW, ← hB]
    clear hW hB
    go_upto_region 2 with fail
    refine wp_region_lit ?_
    refine wpList_load_mid rfl 53 (.tmp 2) rfl B 0 rfl (lacL L0 a0 n0 cp0 xa0 xb0 la0 lb0 ca0 cb0) _ hr Tryz.underlying53 rfl (by kernel_rfl) ?_
    go_wp2_with fail
    refine (szLine_any L0 a0 xa0 xb0 n0 cp0 la0 lb0 ca0 cb0 f0 _ HH.out.1 HH.out.2.1 HH.out.2.2.1 HH.out.2.2.2.1 HH.out.2.2.2.2.1).mono ?_
    rintro e w1 ⟨rfl, b1'⟩
    rw [HX.out]
    have B2 : Hid (Below w.heap.size w w1) := bel_nx HH.out.2.2.2.2.2 b1'
    clear b1' hr
    go_wp2
    go_ret
    exact ⟨rfl, B2.out⟩

set_option maxRecDepth 100000 in
theorem lifted (os : Os) (started : os.Started) (H : Type) (enc : TypeId × Value → H) :
    ReturnsInHanded {} Tryz.checked os 4 .any (Rows.fnExactLineTickSpec.pre6 enc Tryz.prog Tryz.f4 Rows.fnExactLineTickRow.domain false) (Rows.fnExactLineTickSpec.post enc Tryz.prog Tryz.f4 false true false false) := by
  refine returnsInHanded_of_change (C := Tryz.checked) own started (by kernel_rfl) Tryz.func4
    (ChangeSpec.witness6 (enc := enc) (C := Tryz.checked) false ⟨#[], #[.agg lzc, .int .i64 0], []⟩ 8 (by kernel_rfl) (by kernel_rfl) (by kernel_rfl) (by kernel_rfl)) ?_
  intro W base args ds gs before hval0 hW hcnd _
  have hval : ∀ (j : Nat) t v, Tryz.f4.params[j]? = some t → args[j]? = some v → Value.okWide Tryz.prog W .any base t v := hval0
  have hW' := hW
  obtain ⟨p, q, hA0, hV, rfl, hfz, hnd⟩ := hW
  have hA : DataW.TrodAll enc Tryz.prog W 0 (fun _ => true) true Tryz.f4.params.toList args.toList ds p := hA0
  rw [Tryz.params4] at hA hval
  obtain ⟨v0, vs0, d0, ds0, p0, q0, hargs, rfl, rfl, h0, r0⟩ := trodAll_cons hA
  obtain ⟨v1, vs1, d1, ds1, p1, q1, rfl, rfl, rfl, h1, r1⟩ := trodAll_cons r0
  obtain ⟨rfl, rfl, rfl⟩ := trodAll_nil r1
  obtain rfl : args = #[v0, v1] := by cases args; simp_all
  obtain ⟨rfl, rfl⟩ := trodVars_none hV
  have k0 := h0
  obtain ⟨L0, a0, n0, cp0, xa0, xb0, la0, lb0, ca0, cb0, f0, rfl, w0⟩ := opened_line Tryz.underlying53 (by kernel_rfl) rfl rfl rfl rfl rfl rfl rfl rfl rfl rfl rfl rfl rfl rfl rfl rfl rfl rfl Tryz.underlying48 (by kernel_rfl) Tryz.underlying51 (by kernel_rfl) rfl rfl rfl rfl rfl rfl rfl rfl Tryz.underlying49 (by kernel_rfl) (by kernel_rfl) rfl rfl rfl rfl rfl rfl Tryz.underlying3 Tryz.underlying25 Tryz.underlying26 Tryz.underlying4 (by kernel_rfl) (by kernel_rfl) (hval 0 53 v0 rfl rfl) h0
  have lt0 : ∀ x ∈ p0, x.block < W.heap.size := by obtain ⟨m, hm⟩ := k0; exact DataW.trod_lt m _ _ _ hm
  obtain ⟨a1, rfl, rfl, rfl, w1⟩ := open_int Tryz.underlying3 (hval 1 3 v1 rfl rfl) h1
  clear hA0 hval0
  refine (walk L0 a0 n0 cp0 xa0 xb0 la0 lb0 ca0 cb0 f0 a1 W w0 w1).mono fun e W' ⟨he, bel⟩ => ?_
  subst he
  exact ⟨_, rfl, _, _, _, [], _, [], hW', trodAll_mk1 (shut_bool Tryz.underlying4 _), (trodAll_cons_mk (Below.trod laidOut (by kernel_rfl) (of_decide_eq_true (by kernel_rfl)) k0 bel lt0) (trodAll_cons_mk (shut_int Tryz.underlying3 w1) trodAll_mk0)), rfl, bel.frame _, fun h => by cases h⟩

theorem over : Rows.fnExactLineTickRow.holds Tryz.pinned (OpenSpec.ofChange Rows.fnExactLineTickSpec) :=
  OpenClaim.holds_of_wide 4 Tryz.f4 rfl rfl rfl rfl rfl rfl rfl ⟨rfl, rfl, rfl, rfl, rfl⟩ rfl rfl rfl rfl rfl (by kernel_rfl) Tryz.func4 (by kernel_rfl)
    (of_decide_eq_true (by kernel_rfl)) (by unfold Func.isWrapper; first | (rw [if_pos (by decide +kernel)]; kernel_rfl) | (rw [if_neg (by decide +kernel)]; exact ⟨rfl, rfl⟩))
    (fun os started H enc _ => lifted os started H enc)

theorem proved : Rows.FnExactLineTickSaid := over
#print axioms proved
end Go.Proofs.YtmhdneenjoelfaaGreat.fnExactLineTick
namespace Go.Proofs.YtmhdneenjoelfaaGreat
theorem FnExactLineTick_holds : Rows.FnExactLineTickSaid := fnExactLineTick.proved
end Go.Proofs.YtmhdneenjoelfaaGreat
