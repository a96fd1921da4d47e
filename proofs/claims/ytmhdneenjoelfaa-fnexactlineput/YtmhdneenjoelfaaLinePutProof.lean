/-
LinePut answers as its model at every line and every call, writes into neither and keeps nothing of them; the law that says so returns true and leaves its arguments as they were.
-/
import Derived.Test.YtmhdneenjoelfaaRows
import Derived.WalkKit
import Derived.ProofKit
import Derived.OpenShut
import Derived.ShutString
import Derived.ChangeOld
import Derived.Below
import Derived.Test.YtmhdneenjoelfaaArgL
import Derived.Test.YtmhdneenjoelfaaLinePutL
namespace Go.Proofs.Ytmhdneenjoelfaa.fnExactLinePut
open Go.ChangeShapes Go.WideShapes Go.ChangeAt Go.RowKit
set_option linter.unusedVariables false

theorem own : ownKnob Try.prog.godebug = none := by kernel_rfl
theorem laidOut : laidOutB Try.prog = true := by kernel_rfl


theorem walk (L0 : La) (a0 : Option Addr) (n0 cp0 : Nat) (xa0 xb0 : Option Addr) (la0 lb0 ca0 cb0 : Nat) (f0 : Nat → Ca) (C1 : Ca) (a1 b1 : Option Addr) (la1 ca1 lb1 cb1 : Nat) (w : World) (w0 : InLn w n0 f0 L0 a0 xa0 xb0 la0 lb0) (e1 : la1 = C1.ws.length) (z1 : lb1 = C1.bs.length) (w1 : InCa w C1 a1 b1) :
    Calls Try.prog 4 #[.agg (lac L0 a0 n0 cp0 xa0 xb0 la0 lb0 ca0 cb0), .agg (cac C1 a1 b1 la1 lb1 ca1 cb1)] w fun e w' => e = .returned (.bool true) ∧ Below w.heap.size w w' := by
  by_cases hbig : n0 + tl f0 n0 + la0 + lb0 + (C1.ws.length + C1.bs.length) ≤ 1048576
  · exact linePut_law L0 a0 xa0 xb0 n0 cp0 la0 lb0 ca0 cb0 f0 C1 a1 b1 la1 lb1 ca1 cb1 w w0 e1 z1 w1 hbig
  · obtain ⟨hs, hm, hmk, hm1, hm2⟩ := w0
    obtain ⟨B, hB⟩ : ∃ B, B = w.heap.size := ⟨_, rfl⟩
    obtain ⟨W, hW⟩ : ∃ W, W = (w.alloc (.cells (lac L0 a0 n0 cp0 xa0 xb0 la0 lb0 ca0 cb0) 50)).alloc (.cells (cac C1 a1 b1 la1 lb1 ca1 cb1) 48) := ⟨_, rfl⟩
    have b0 : Below w.heap.size w W := by rw [hW]; exact bel_nx (bel_alloc _ _) (bel_alloc _ _)
    have A0 : Blk W B 50 (lac L0 a0 n0 cp0 xa0 xb0 la0 lb0 ca0 cb0) := by rw [hW, hB]; exact (Blk.new w _ _).below (bel_alloc _ _)
    have A1 : Blk W (B + 1) 48 (cac C1 a1 b1 la1 lb1 ca1 cb1) := by
      rw [hW, hB]; have := Blk.new (w.alloc (.cells (lac L0 a0 n0 cp0 xa0 xb0 la0 lb0 ca0 cb0) 50)) (cac C1 a1 b1 la1 lb1 ca1 cb1) 48; simpa using this
    have HH : Hid (LnR W n0 f0 L0 a0 xa0 xb0 la0 lb0 ∧ n0 ≤ maxLen ∧ (∀ k, k < n0 → (f0 k).ws.length ≤ maxLen ∧ (f0 k).bs.length ≤ maxLen) ∧ la0 ≤ maxLen ∧ lb0 ≤ maxLen ∧ Below w.heap.size w W ∧ la1 ≤ maxLen ∧ lb1 ≤ maxLen ∧ Blk W (B + 1) 48 (cac C1 a1 b1 la1 lb1 ca1 cb1)) := ⟨hs.below b0, hm, hmk, hm1, hm2, b0, by rw [e1]; exact w1.1, by rw [z1]; exact w1.2.1, A1⟩
    have hr := A0.all
    by_cases hf : n0 + tl f0 n0 + la0 + lb0 ≤ 1048576
    · obtain ⟨lf, hlf⟩ : ∃ lf : Nat, lf = 1048576 - (n0 + tl f0 n0 + la0 + lb0) := ⟨_, rfl⟩
      have HX : Hid (lfL n0 f0 la0 lb0 = (lf : Int) ∧ lfC lf la1 lb1 = -1 ∧ lf ≤ 1048576) := ⟨by rw [hlf]; exact lf_fits hf, by unfold lfC; rw [if_neg (by omega)], by omega⟩
      have h0 : ¬ (lf : Int) < 0 := by omega
      clear hs hm hmk hm1 hm2 b0 A0 A1 hbig hf hlf e1 z1 w1
      go_enter Try.func4, Try.ntmps4
      go_upto_region 1 with fail
      have hB1 : w.heap.size + 1 = B + 1 := by omega
      rw [← hW, hB1, ← hB]
      clear hW hB hB1
      go_upto_region 2 with fail
      refine wp_region_lit ?_
      refine wpList_load_mid rfl 50 (.tmp 2) rfl B 0 rfl (lacL L0 a0 n0 cp0 xa0 xb0 la0 lb0 ca0 cb0) _ hr Try.underlying50 rfl (by kernel_rfl) ?_
      go_wp2_with fail
      refine (szLine_any L0 a0 xa0 xb0 n0 cp0 la0 lb0 ca0 cb0 f0 _ HH.out.1 HH.out.2.1 HH.out.2.2.1 HH.out.2.2.2.1 HH.out.2.2.2.2.1).mono ?_
      rintro e w1 ⟨rfl, b1'⟩
      rw [HX.out.1]
      have H2 : Hid (Blk w1 (B + 1) 48 (cac C1 a1 b1 la1 lb1 ca1 cb1) ∧ Below w.heap.size w w1) := ⟨HH.out.2.2.2.2.2.2.2.2.below b1', bel_nx HH.out.2.2.2.2.2.1 b1'⟩
      clear b1' hr
      go_upto_region 5 with fail
      refine wp_region_lit ?_
      refine wpList_load_mid rfl 48 (.tmp 3) rfl (B + 1) 0 rfl (calL C1 a1 b1 la1 lb1 ca1 cb1) _ H2.out.1.all Try.underlying48 rfl (by kernel_rfl) ?_
      go_wp2_with fail
      refine (szCall_any C1 a1 b1 la1 lb1 ca1 cb1 lf _ HH.out.2.2.2.2.2.2.1 HH.out.2.2.2.2.2.2.2.1 HX.out.2.2).mono ?_
      rintro e w2 ⟨rfl, b2⟩
      rw [HX.out.2.1]
      have B2 : Hid (Below w.heap.size w w2) := bel_nx H2.out.2 b2
      clear b2
      go_wp2
      go_ret
      exact ⟨rfl, B2.out⟩
    · have HX : Hid (lfL n0 f0 la0 lb0 = -1) := by show lfL n0 f0 la0 lb0 = -1; unfold lfL; rw [if_neg hf]
      clear hs hm hmk hm1 hm2 b0 A0 A1 hbig hf e1 z1 w1
      go_enter Try.func4, Try.ntmps4
      go_upto_region 1 with fail
      have hB1 : w.heap.size + 1 = B + 1 := by omega
      rw [← hW, hB1, ← hB]
      clear hW hB hB1
      go_upto_region 2 with fail
      refine wp_region_lit ?_
      refine wpList_load_mid rfl 50 (.tmp 2) rfl B 0 rfl (lacL L0 a0 n0 cp0 xa0 xb0 la0 lb0 ca0 cb0) _ hr Try.underlying50 rfl (by kernel_rfl) ?_
      go_wp2_with fail
      refine (szLine_any L0 a0 xa0 xb0 n0 cp0 la0 lb0 ca0 cb0 f0 _ HH.out.1 HH.out.2.1 HH.out.2.2.1 HH.out.2.2.2.1 HH.out.2.2.2.2.1).mono ?_
      rintro e w1 ⟨rfl, b1'⟩
      rw [HX.out]
      have B2 : Hid (Below w.heap.size w w1) := bel_nx HH.out.2.2.2.2.2.1 b1'
      clear b1' hr
      go_wp2
      go_ret
      exact ⟨rfl, B2.out⟩

set_option maxRecDepth 100000 in
theorem lifted (os : Os) (started : os.Started) (H : Type) (enc : TypeId × Value → H) :
    ReturnsInHanded {} Try.checked os 4 .any (Rows.fnExactLinePutSpec.pre6 enc Try.prog Try.f4 Rows.fnExactLinePutRow.domain false) (Rows.fnExactLinePutSpec.post enc Try.prog Try.f4 false true false false) := by
  refine returnsInHanded_of_change (C := Try.checked) own started (by kernel_rfl) Try.func4
    (ChangeSpec.witness6 (enc := enc) (C := Try.checked) false ⟨#[], #[.agg lzc, .agg ca0c], []⟩ 8 (by kernel_rfl) (by kernel_rfl) (by kernel_rfl) (by kernel_rfl)) ?_
  intro W base args ds gs before hval0 hW hcnd _
  have hval : ∀ (j : Nat) t v, Try.f4.params[j]? = some t → args[j]? = some v → Value.okWide Try.prog W .any base t v := hval0
  have hW' := hW
  obtain ⟨p, q, hA0, hV, rfl, hfz, hnd⟩ := hW
  have hA : DataW.TrodAll enc Try.prog W 0 (fun _ => true) true Try.f4.params.toList args.toList ds p := hA0
  rw [Try.params4] at hA hval
  obtain ⟨v0, vs0, d0, ds0, p0, q0, hargs, rfl, rfl, h0, r0⟩ := trodAll_cons hA
  obtain ⟨v1, vs1, d1, ds1, p1, q1, rfl, rfl, rfl, h1, r1⟩ := trodAll_cons r0
  obtain ⟨rfl, rfl, rfl⟩ := trodAll_nil r1
  obtain rfl : args = #[v0, v1] := by cases args; simp_all
  obtain ⟨rfl, rfl⟩ := trodVars_none hV
  have k0 := h0
  obtain ⟨L0, a0, n0, cp0, xa0, xb0, la0, lb0, ca0, cb0, f0, rfl, w0⟩ := opened_line Try.underlying50 (by kernel_rfl) rfl rfl rfl rfl rfl rfl rfl rfl rfl rfl rfl rfl rfl rfl rfl rfl rfl rfl Try.underlying45 (by kernel_rfl) Try.underlying48 (by kernel_rfl) rfl rfl rfl rfl rfl rfl rfl rfl Try.underlying46 (by kernel_rfl) (by kernel_rfl) rfl rfl rfl rfl rfl rfl Try.underlying3 Try.underlying25 Try.underlying26 Try.underlying4 (by kernel_rfl) (by kernel_rfl) (hval 0 50 v0 rfl rfl) h0
  have lt0 : ∀ x ∈ p0, x.block < W.heap.size := by obtain ⟨m, hm⟩ := k0; exact DataW.trod_lt m _ _ _ hm
  have k1 := h1
  obtain ⟨C1, a1, b1, la1, ca1, lb1, cb1, rfl, e1, z1, w1⟩ := opened_call Try.underlying48 (by kernel_rfl) rfl rfl rfl rfl rfl rfl rfl rfl Try.underlying46 (by kernel_rfl) (by kernel_rfl) rfl rfl rfl rfl rfl rfl Try.underlying3 Try.underlying25 Try.underlying26 Try.underlying4 (by kernel_rfl) (by kernel_rfl) (hval 1 48 v1 rfl rfl) h1
  have lt1 : ∀ x ∈ p1, x.block < W.heap.size := by obtain ⟨m, hm⟩ := k1; exact DataW.trod_lt m _ _ _ hm
  clear hA0 hval0
  refine (walk L0 a0 n0 cp0 xa0 xb0 la0 lb0 ca0 cb0 f0 C1 a1 b1 la1 ca1 lb1 cb1 W w0 e1 z1 w1).mono fun e W' ⟨he, bel⟩ => ?_
  subst he
  exact ⟨_, rfl, _, _, _, [], _, [], hW', trodAll_mk1 (shut_bool Try.underlying4 _), (trodAll_cons_mk (Below.trod laidOut (by kernel_rfl) (of_decide_eq_true (by kernel_rfl)) k0 bel lt0) (trodAll_cons_mk (Below.trod laidOut (by kernel_rfl) (of_decide_eq_true (by kernel_rfl)) k1 bel lt1) trodAll_mk0)), rfl, bel.frame _, fun h => by cases h⟩

theorem over : Rows.fnExactLinePutRow.holds Try.pinned (OpenSpec.ofChange Rows.fnExactLinePutSpec) :=
  OpenClaim.holds_of_wide 4 Try.f4 rfl rfl rfl rfl rfl rfl rfl ⟨rfl, rfl, rfl, rfl, rfl⟩ rfl rfl rfl rfl rfl (by kernel_rfl) Try.func4 (by kernel_rfl)
    (of_decide_eq_true (by kernel_rfl)) (by unfold Func.isWrapper; first | (rw [if_pos (by decide +kernel)]; kernel_rfl) | (rw [if_neg (by decide +kernel)]; exact ⟨rfl, rfl⟩))
    (fun os started H enc _ => lifted os started H enc)

theorem proved : Rows.FnExactLinePutSaid := over
#print axioms proved
end Go.Proofs.Ytmhdneenjoelfaa.fnExactLinePut
namespace Go.Proofs.Ytmhdneenjoelfaa
theorem FnExactLinePut_holds : Rows.FnExactLinePutSaid := fnExactLinePut.proved
end Go.Proofs.Ytmhdneenjoelfaa
