/-
LineHear answers as its model at every line, number, unit and answer, writes into neither line nor answer and keeps nothing of them; the law that says so returns true and leaves its arguments as they were.
-/
import Derived.Test.YtmhdneenjoelfaaGreatRows
import Derived.WalkKit
import Derived.ProofKit
import Derived.OpenShut
import Derived.ShutString
import Derived.ChangeOld
import Derived.Below
import Derived.Test.YtmhdneenjoelfaaGreatV2
import Derived.Test.YtmhdneenjoelfaaGreatV17
namespace Go.Proofs.YtmhdneenjoelfaaGreat.fnExactLineHear
open Go.ChangeShapes Go.WideShapes Go.ChangeAt Go.RowKit
set_option linter.unusedVariables false

theorem own : ownKnob Tryz.prog.godebug = none := by kernel_rfl
theorem laidOut : laidOutB Tryz.prog = true := by kernel_rfl


theorem walk (L0 : La) (a0 : Option Addr) (n0 cp0 : Nat) (xa0 xb0 : Option Addr) (la0 lb0 ca0 cb0 : Nat) (f0 : Nat → Ca) (a1 : Int) (a2 : Int) (kd3 fl3 pl3 nn3 : Int) (a3 b3 : Option Addr) (la3 ca3 lb3 cb3 : Nat) (ws3 : List Int) (bs3 : List Bool) (w : World) (w0 : InLn w n0 f0 L0 a0 xa0 xb0 la0 lb0) (w1 : (Lit.int .i64 a1).wf = true) (w2 : (Lit.int .i64 a2).wf = true) (w3 : InResp w kd3 fl3 pl3 nn3 a3 b3 la3 lb3 ws3 bs3) :
    Calls Tryz.prog 5 #[.agg (lac L0 a0 n0 cp0 xa0 xb0 la0 lb0 ca0 cb0), .int .i64 a1, .int .i64 a2, .agg #[.int .i64 kd3, .int .i64 fl3, .int .i64 pl3, .int .i64 nn3, .slice a3 la3 ca3, .slice b3 lb3 cb3]] w fun e w' => e = .returned (.bool true) ∧ Below w.heap.size w w' := by
  have hr1 := w3.1.1.symm
  have hr2 := w3.2.1.1.symm
  by_cases hbig : n0 + tl f0 n0 + la0 + lb0 + (la3 + lb3) ≤ 1048576
  · exact lineHear_law L0 a0 xa0 xb0 n0 cp0 la0 lb0 ca0 cb0 f0 a1 a2 kd3 fl3 pl3 nn3 a3 b3 la3 lb3 ca3 cb3 ws3 bs3 w w0 hr1 hr2 w3.1.2.2.1 w3.2.1.2 hbig
  · obtain ⟨hs, hm, hmk, hm1, hm2⟩ := w0
    obtain ⟨B, hB⟩ : ∃ B, B = w.heap.size := ⟨_, rfl⟩
    obtain ⟨W, hW⟩ : ∃ W, W = (w.alloc (.cells (lac L0 a0 n0 cp0 xa0 xb0 la0 lb0 ca0 cb0) 53)).alloc (.cells (rpL kd3 fl3 pl3 nn3 a3 b3 la3 lb3 ca3 cb3) 63) := ⟨_, rfl⟩
    have b0 : Below w.heap.size w W := by rw [hW]; exact bel_nx (bel_alloc _ _) (bel_alloc _ _)
    have A0 : Blk W B 53 (lac L0 a0 n0 cp0 xa0 xb0 la0 lb0 ca0 cb0) := by rw [hW, hB]; exact (Blk.new w _ _).below (bel_alloc _ _)
    have A1 : Blk W (B + 1) 63 (rpL kd3 fl3 pl3 nn3 a3 b3 la3 lb3 ca3 cb3) := by
      rw [hW, hB]; have := Blk.new (w.alloc (.cells (lac L0 a0 n0 cp0 xa0 xb0 la0 lb0 ca0 cb0) 53)) (rpL kd3 fl3 pl3 nn3 a3 b3 la3 lb3 ca3 cb3) 63; simpa using this
    have HH : Hid (LnR W n0 f0 L0 a0 xa0 xb0 la0 lb0 ∧ n0 ≤ maxLen ∧ (∀ k, k < n0 → (f0 k).ws.length ≤ maxLen ∧ (f0 k).bs.length ≤ maxLen) ∧ la0 ≤ maxLen ∧ lb0 ≤ maxLen ∧ Below w.heap.size w W ∧ la3 ≤ maxLen ∧ lb3 ≤ maxLen ∧ Blk W (B + 1) 63 (rpL kd3 fl3 pl3 nn3 a3 b3 la3 lb3 ca3 cb3)) := ⟨hs.below b0, hm, hmk, hm1, hm2, b0, w3.1.2.1, w3.2.2.1, A1⟩
    have hr := A0.all
    by_cases hf : n0 + tl f0 n0 + la0 + lb0 ≤ 1048576
    · obtain ⟨lf, hlf⟩ : ∃ lf : Nat, lf = 1048576 - (n0 + tl f0 n0 + la0 + lb0) := ⟨_, rfl⟩
      have HX : Hid (lfL n0 f0 la0 lb0 = (lf : Int) ∧ ¬ (la3 : Int) + (lb3 : Int) ≤ (lf : Int) ∧ (lf : Int) ≤ 1048576) := ⟨by rw [hlf]; exact lf_fits9 hf, by omega, by omega⟩
      have h0 : ¬ (lf : Int) < 0 := by omega
      clear hs hm hmk hm1 hm2 b0 A0 A1 hbig hf hlf w3 hr1 hr2
      go_enter Tryz.func5, Tryz.ntmps5
      go_upto_region 1 with fail
      have hB1 : w.heap.size + 1 = B + 1 := by omega
      rw [← hW, hB1, ← hB]
      clear hW hB hB1
      go_upto_region 2 with fail
      refine wp_region_lit ?_
      refine wpList_load_mid rfl 53 (.tmp 4) rfl B 0 rfl (lacL L0 a0 n0 cp0 xa0 xb0 la0 lb0 ca0 cb0) _ hr Tryz.underlying53 rfl (by kernel_rfl) ?_
      go_wp2_with fail
      refine (szLine_any L0 a0 xa0 xb0 n0 cp0 la0 lb0 ca0 cb0 f0 _ HH.out.1 HH.out.2.1 HH.out.2.2.1 HH.out.2.2.2.1 HH.out.2.2.2.2.1).mono ?_
      rintro e w1 ⟨rfl, b1'⟩
      rw [HX.out.1]
      have H2 : Hid (Blk w1 (B + 1) 63 (rpL kd3 fl3 pl3 nn3 a3 b3 la3 lb3 ca3 cb3) ∧ Below w.heap.size w w1) := ⟨HH.out.2.2.2.2.2.2.2.2.below b1', bel_nx HH.out.2.2.2.2.2.1 b1'⟩
      clear b1' hr
      go_upto_region 5 with fail
      refine wp_region_lit ?_
      refine wpList_load_mid rfl 63 (.tmp 7) rfl (B + 1) 0 rfl (rpLL kd3 fl3 pl3 nn3 a3 b3 la3 lb3 ca3 cb3) _ H2.out.1.all Tryz.underlying63 rfl (by kernel_rfl) ?_
      go_wp2_with fail
      refine (szResp_over kd3 fl3 pl3 nn3 a3 b3 la3 lb3 ca3 cb3 (lf : Int) _ (by omega) HX.out.2.2 HH.out.2.2.2.2.2.2.1 HH.out.2.2.2.2.2.2.2.1 (by have := HX.out.2.1; omega)).mono ?_
      rintro e w2 ⟨rfl, b2⟩
      have B2 : Hid (Below w.heap.size w w2) := bel_nx H2.out.2 b2
      clear b2
      go_wp2
      go_ret
      exact ⟨rfl, B2.out⟩
    · have HX : Hid (lfL n0 f0 la0 lb0 = -1) := by show lfL n0 f0 la0 lb0 = -1; unfold lfL; rw [if_neg hf]
      clear hs hm hmk hm1 hm2 b0 A0 A1 hbig hf w3 hr1 hr2
      go_enter Tryz.func5, Tryz.ntmps5
      go_upto_region 1 with fail
      have hB1 : w.heap.size + 1 = B + 1 := by omega
      rw [← hW, hB1, ← hB]
      clear hW hB hB1
      go_upto_region 2 with fail
      refine wp_region_lit ?_
      refine wpList_load_mid rfl 53 (.tmp 4) rfl B 0 rfl (lacL L0 a0 n0 cp0 xa0 xb0 la0 lb0 ca0 cb0) _ hr Tryz.underlying53 rfl (by kernel_rfl) ?_
      go_wp2_with fail
      refine (szLine_any L0 a0 xa0 xb0 n0 cp0 la0 lb0 ca0 cb0 f0 _ HH.out.1 HH.out.2.1 HH.out.2.2.1 HH.out.2.2.2.1 HH.out.2.2.2.2.1).mono ?_
      rintro e w1 ⟨rfl, b1'⟩
      rw [HX.out]
      have B2 : Hid (Below w.heap.size w w1) := bel_nx HH.out.2.2.2.2.2.1 b1'
      clear b1' hr
      go_wp2
      go_ret
      exact ⟨rfl, B2.out⟩

set_option maxRecDepth 100000 in
theorem lifted (os : Os) (started : os.Started) (H : Type) (enc : TypeId × Value → H) :
    ReturnsInHanded {} Tryz.checked os 5 .any (Rows.fnExactLineHearSpec.pre6 enc Tryz.prog Tryz.f5 Rows.fnExactLineHearRow.domain false) (Rows.fnExactLineHearSpec.post enc Tryz.prog Tryz.f5 false true false false) := by
  refine returnsInHanded_of_change (C := Tryz.checked) own started (by kernel_rfl) Tryz.func5
    (ChangeSpec.witness6 (enc := enc) (C := Tryz.checked) false ⟨#[], #[.agg lzc, .int .i64 0, .int .i64 0, .agg #[.int .i64 0, .int .i64 0, .int .i64 0, .int .i64 0, .slice none 0 0, .slice none 0 0]], []⟩ 8 (by kernel_rfl) (by kernel_rfl) (by kernel_rfl) (by kernel_rfl)) ?_
  intro W base args ds gs before hval0 hW hcnd _
  have hval : ∀ (j : Nat) t v, Tryz.f5.params[j]? = some t → args[j]? = some v → Value.okWide Tryz.prog W .any base t v := hval0
  have hW' := hW
  obtain ⟨p, q, hA0, hV, rfl, hfz, hnd⟩ := hW
  have hA : DataW.TrodAll enc Tryz.prog W 0 (fun _ => true) true Tryz.f5.params.toList args.toList ds p := hA0
  rw [Tryz.params5] at hA hval
  obtain ⟨v0, vs0, d0, ds0, p0, q0, hargs, rfl, rfl, h0, r0⟩ := trodAll_cons hA
  obtain ⟨v1, vs1, d1, ds1, p1, q1, rfl, rfl, rfl, h1, r1⟩ := trodAll_cons r0
  obtain ⟨v2, vs2, d2, ds2, p2, q2, rfl, rfl, rfl, h2, r2⟩ := trodAll_cons r1
  obtain ⟨v3, vs3, d3, ds3, p3, q3, rfl, rfl, rfl, h3, r3⟩ := trodAll_cons r2
  obtain ⟨rfl, rfl, rfl⟩ := trodAll_nil r3
  obtain rfl : args = #[v0, v1, v2, v3] := by cases args; simp_all
  obtain ⟨rfl, rfl⟩ := trodVars_none hV
  have k0 := h0
  obtain ⟨L0, a0, n0, cp0, xa0, xb0, la0, lb0, ca0, cb0, f0, rfl, w0⟩ := opened_line Tryz.underlying53 (by kernel_rfl) rfl rfl rfl rfl rfl rfl rfl rfl rfl rfl rfl rfl rfl rfl rfl rfl rfl rfl Tryz.underlying48 (by kernel_rfl) Tryz.underlying51 (by kernel_rfl) rfl rfl rfl rfl rfl rfl rfl rfl Tryz.underlying49 (by kernel_rfl) (by kernel_rfl) rfl rfl rfl rfl rfl rfl Tryz.underlying3 Tryz.underlying25 Tryz.underlying26 Tryz.underlying4 (by kernel_rfl) (by kernel_rfl) (hval 0 53 v0 rfl rfl) h0
  have lt0 : ∀ x ∈ p0, x.block < W.heap.size := by obtain ⟨m, hm⟩ := k0; exact DataW.trod_lt m _ _ _ hm
  obtain ⟨a1, rfl, rfl, rfl, w1⟩ := open_int Tryz.underlying3 (hval 1 3 v1 rfl rfl) h1
  obtain ⟨a2, rfl, rfl, rfl, w2⟩ := open_int Tryz.underlying3 (hval 2 3 v2 rfl rfl) h2
  have k3 := h3
  obtain ⟨kd3, fl3, pl3, nn3, a3, b3, la3, ca3, lb3, cb3, ws3, bs3, rfl, w3⟩ := opened_resp Tryz.underlying63 (by kernel_rfl) (by kernel_rfl) rfl rfl rfl rfl rfl rfl Tryz.underlying3 Tryz.underlying25 Tryz.underlying26 Tryz.underlying4 (by kernel_rfl) (by kernel_rfl) (hval 3 63 v3 rfl rfl) h3
  have lt3 : ∀ x ∈ p3, x.block < W.heap.size := by obtain ⟨m, hm⟩ := k3; exact DataW.trod_lt m _ _ _ hm
  clear hA0 hval0
  refine (walk L0 a0 n0 cp0 xa0 xb0 la0 lb0 ca0 cb0 f0 a1 a2 kd3 fl3 pl3 nn3 a3 b3 la3 ca3 lb3 cb3 ws3 bs3 W w0 w1 w2 w3).mono fun e W' ⟨he, bel⟩ => ?_
  subst he
  exact ⟨_, rfl, _, _, _, [], _, [], hW', trodAll_mk1 (shut_bool Tryz.underlying4 _), (trodAll_cons_mk (Below.trod laidOut (by kernel_rfl) (of_decide_eq_true (by kernel_rfl)) k0 bel lt0) (trodAll_cons_mk (shut_int Tryz.underlying3 w1) (trodAll_cons_mk (shut_int Tryz.underlying3 w2) (trodAll_cons_mk (Below.trod laidOut (by kernel_rfl) (of_decide_eq_true (by kernel_rfl)) k3 bel lt3) trodAll_mk0)))), rfl, bel.frame _, fun h => by cases h⟩

theorem over : Rows.fnExactLineHearRow.holds Tryz.pinned (OpenSpec.ofChange Rows.fnExactLineHearSpec) :=
  OpenClaim.holds_of_wide 5 Tryz.f5 rfl rfl rfl rfl rfl rfl rfl ⟨rfl, rfl, rfl, rfl, rfl⟩ rfl rfl rfl rfl rfl (by kernel_rfl) Tryz.func5 (by kernel_rfl)
    (of_decide_eq_true (by kernel_rfl)) (by unfold Func.isWrapper; first | (rw [if_pos (by decide +kernel)]; kernel_rfl) | (rw [if_neg (by decide +kernel)]; exact ⟨rfl, rfl⟩))
    (fun os started H enc _ => lifted os started H enc)

theorem proved : Rows.FnExactLineHearSaid := over
#print axioms proved
end Go.Proofs.YtmhdneenjoelfaaGreat.fnExactLineHear
namespace Go.Proofs.YtmhdneenjoelfaaGreat
theorem FnExactLineHear_holds : Rows.FnExactLineHearSaid := fnExactLineHear.proved
end Go.Proofs.YtmhdneenjoelfaaGreat
