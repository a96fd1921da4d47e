/-
Suits answers as its model at every question and answer, and the law that says so returns true and leaves both as they were.
-/
import Derived.Test.YtgamicfcdkjleaaRows
import Derived.WalkKit
import Derived.ProofKit
import Derived.OpenShut
import Derived.ShutString
import Derived.ChangeOld
import Derived.Below
import Derived.Test.YtgamicfcdkjleaaArgP
import Derived.Test.YtgamicfcdkjleaaSuitsL
namespace Go.Proofs.Ytgamicfcdkjleaa.fnExactSuits
open Go.ChangeShapes Go.WideShapes Go.ChangeAt Go.RowKit
set_option linter.unusedVariables false

theorem own : ownKnob Try.prog.godebug = none := by kernel_rfl
theorem laidOut : laidOutB Try.prog = true := by kernel_rfl


theorem walk (kd0 pl0 nn0 wa0 : Int) (a0 b0 : Option Addr) (la0 ca0 lb0 cb0 : Nat) (ws0 : List Int) (bs0 : List Bool) (kd1 fl1 pl1 nn1 : Int) (a1 b1 : Option Addr) (la1 ca1 lb1 cb1 : Nat) (ws1 : List Int) (bs1 : List Bool) (w : World) (w0 : InReq w kd0 pl0 nn0 wa0 a0 b0 la0 lb0 ws0 bs0) (w1 : InResp w kd1 fl1 pl1 nn1 a1 b1 la1 lb1 ws1 bs1) :
    Calls Try.prog 6 #[.agg #[.int .i64 kd0, .int .i64 pl0, .int .i64 nn0, .slice a0 la0 ca0, .slice b0 lb0 cb0, .int .i64 wa0], .agg #[.int .i64 kd1, .int .i64 fl1, .int .i64 pl1, .int .i64 nn1, .slice a1 la1 ca1, .slice b1 lb1 cb1]] w fun e w' => e = .returned (.bool true) ∧ Below w.heap.size w w' := by
  by_cases hbig : la0 + lb0 + la1 + lb1 ≤ 1048576
  · exact suits_law kd0 pl0 nn0 wa0 a0 b0 la0 lb0 ca0 cb0 ws0 bs0 kd1 fl1 pl1 nn1 a1 b1 la1 lb1 ca1 cb1 ws1 bs1 w w0 w1 hbig
  · obtain ⟨⟨_, hm1, _⟩, _, hm2, _⟩ := w0
    obtain ⟨⟨_, hn1, _⟩, _, hn2, _⟩ := w1
    obtain ⟨W, hW⟩ : ∃ W, W = (w.alloc (.cells #[.int .i64 kd0, .int .i64 pl0, .int .i64 nn0, .slice a0 la0 ca0, .slice b0 lb0 cb0, .int .i64 wa0] 48)).alloc (.cells #[.int .i64 kd1, .int .i64 fl1, .int .i64 pl1, .int .i64 nn1, .slice a1 la1 ca1, .slice b1 lb1 cb1] 37) := ⟨_, rfl⟩
    have HW : Hid (W = _) := hW
    have B0 : Below w.heap.size w W := by rw [hW]; exact bel_next (bel_alloc w _) (bel_alloc _ _)
    have A0 : Blk W w.heap.size 48 #[.int .i64 kd0, .int .i64 pl0, .int .i64 nn0, .slice a0 la0 ca0, .slice b0 lb0 cb0, .int .i64 wa0] := by rw [hW]; exact (Blk.new w _ _).below (bel_alloc _ _)
    have D0 : Blk W (w.heap.size + 1) 37 #[.int .i64 kd1, .int .i64 fl1, .int .i64 pl1, .int .i64 nn1, .slice a1 la1 ca1, .slice b1 lb1 cb1] := by
      rw [hW]; have := Blk.new (w.alloc (.cells #[.int .i64 kd0, .int .i64 pl0, .int .i64 nn0, .slice a0 la0 ca0, .slice b0 lb0 cb0, .int .i64 wa0] 48)) #[.int .i64 kd1, .int .i64 fl1, .int .i64 pl1, .int .i64 nn1, .slice a1 la1 ca1, .slice b1 lb1 cb1] 37; simpa using this
    obtain ⟨x0, x1, x2, x3, x4, x5⟩ := A0.six
    clear hW
    by_cases hb1 : la0 + lb0 ≤ 1048576
    · have f0 : ¬ (1048576 - (la0 : Int) - (lb0 : Int) < 0) := by omega
      have f2 : Hid (0 ≤ 1048576 - (la0 : Int) - (lb0 : Int) ∧ 1048576 - (la0 : Int) - (lb0 : Int) ≤ 1048576 ∧ ¬ (la1 : Int) + (lb1 : Int) ≤ 1048576 - (la0 : Int) - (lb0 : Int)) := by show _ ∧ _; omega
      have HB : Hid (la0 + lb0 ≤ 1048576 ∧ la1 ≤ maxLen ∧ lb1 ≤ maxLen) := ⟨hb1, hn1, hn2⟩
      clear hbig hb1 hm1 hm2 hn1 hn2
      go_enter Try.func6, Try.ntmps6
      go_upto_region 1 with fail
      rw [← HW.out]
      go_wp2_with fail
      refine (szReq_fits kd0 pl0 nn0 wa0 a0 b0 la0 lb0 ca0 cb0 _ HB.out.1).mono ?_
      rintro e z1 ⟨rfl, b'⟩
      have B1 := bel_next B0 b'
      obtain ⟨d0, d1, d2, d3, d4, d5⟩ := (D0.below b').six
      clear b' B0 A0 D0 x0 x1 x2 x3 x4 x5
      go_wp2_with fail
      refine (szResp_over kd1 fl1 pl1 nn1 a1 b1 la1 lb1 ca1 cb1 _ _ f2.out.1 f2.out.2.1 HB.out.2.1 HB.out.2.2 (by have := f2.out; omega)).mono ?_
      rintro e z2 ⟨rfl, b'⟩
      have B2 := bel_next B1 b'
      go_wp2
      go_ret
      exact ⟨rfl, B2⟩
    · clear hbig hn1 hn2
      go_enter Try.func6, Try.ntmps6
      go_upto_region 1 with fail
      rw [← HW.out]
      go_wp2_with fail
      refine (szReq_big kd0 pl0 nn0 wa0 a0 b0 la0 lb0 ca0 cb0 _ hm1 hm2 hb1).mono ?_
      rintro e z1 ⟨rfl, b'⟩
      have B1 := bel_next B0 b'
      go_wp2
      go_ret
      exact ⟨rfl, B1⟩

set_option maxRecDepth 100000 in
theorem lifted (os : Os) (started : os.Started) (H : Type) (enc : TypeId × Value → H) :
    ReturnsInHanded {} Try.checked os 6 .any (Rows.fnExactSuitsSpec.pre6 enc Try.prog Try.f6 Rows.fnExactSuitsRow.domain false) (Rows.fnExactSuitsSpec.post enc Try.prog Try.f6 false true false false) := by
  refine returnsInHanded_of_change (C := Try.checked) own started (by kernel_rfl) Try.func6
    (ChangeSpec.witness6 (enc := enc) (C := Try.checked) false ⟨#[], #[.agg #[.int .i64 0, .int .i64 0, .int .i64 0, .slice none 0 0, .slice none 0 0, .int .i64 0], .agg #[.int .i64 0, .int .i64 0, .int .i64 0, .int .i64 0, .slice none 0 0, .slice none 0 0]], []⟩ 8 (by kernel_rfl) (by kernel_rfl) (by kernel_rfl) (by kernel_rfl)) ?_
  intro W base args ds gs before hval0 hW hcnd _
  have hval : ∀ (j : Nat) t v, Try.f6.params[j]? = some t → args[j]? = some v → Value.okWide Try.prog W .any base t v := hval0
  have hW' := hW
  obtain ⟨p, q, hA0, hV, rfl, hfz, hnd⟩ := hW
  have hA : DataW.TrodAll enc Try.prog W 0 (fun _ => true) true Try.f6.params.toList args.toList ds p := hA0
  rw [Try.params6] at hA hval
  obtain ⟨v0, vs0, d0, ds0, p0, q0, hargs, rfl, rfl, h0, r0⟩ := trodAll_cons hA
  obtain ⟨v1, vs1, d1, ds1, p1, q1, rfl, rfl, rfl, h1, r1⟩ := trodAll_cons r0
  obtain ⟨rfl, rfl, rfl⟩ := trodAll_nil r1
  obtain rfl : args = #[v0, v1] := by cases args; simp_all
  obtain ⟨rfl, rfl⟩ := trodVars_none hV
  have k0 := h0
  obtain ⟨kd0, pl0, nn0, wa0, a0, b0, la0, ca0, lb0, cb0, ws0, bs0, rfl, w0⟩ := opened_req Try.underlying48 (by kernel_rfl) (by kernel_rfl) rfl rfl rfl rfl rfl rfl Try.underlying3 Try.underlying24 Try.underlying25 Try.underlying4 (by kernel_rfl) (by kernel_rfl) (hval 0 48 v0 rfl rfl) h0
  have lt0 : ∀ x ∈ p0, x.block < W.heap.size := by obtain ⟨m, hm⟩ := k0; exact DataW.trod_lt m _ _ _ hm
  have k1 := h1
  obtain ⟨kd1, fl1, pl1, nn1, a1, b1, la1, ca1, lb1, cb1, ws1, bs1, rfl, w1⟩ := opened_resp Try.underlying37 (by kernel_rfl) (by kernel_rfl) rfl rfl rfl rfl rfl rfl Try.underlying3 Try.underlying24 Try.underlying25 Try.underlying4 (by kernel_rfl) (by kernel_rfl) (hval 1 37 v1 rfl rfl) h1
  have lt1 : ∀ x ∈ p1, x.block < W.heap.size := by obtain ⟨m, hm⟩ := k1; exact DataW.trod_lt m _ _ _ hm
  clear hA0 hval0
  refine (walk kd0 pl0 nn0 wa0 a0 b0 la0 ca0 lb0 cb0 ws0 bs0 kd1 fl1 pl1 nn1 a1 b1 la1 ca1 lb1 cb1 ws1 bs1 W w0 w1).mono fun e W' ⟨he, bel⟩ => ?_
  subst he
  exact ⟨_, rfl, _, _, _, [], _, [], hW', trodAll_mk1 (shut_bool Try.underlying4 _), (trodAll_cons_mk (Below.trod laidOut (by kernel_rfl) (of_decide_eq_true (by kernel_rfl)) k0 bel lt0) (trodAll_cons_mk (Below.trod laidOut (by kernel_rfl) (of_decide_eq_true (by kernel_rfl)) k1 bel lt1) trodAll_mk0)), rfl, bel.frame _, fun h => by cases h⟩

theorem over : Rows.fnExactSuitsRow.holds Try.pinned (OpenSpec.ofChange Rows.fnExactSuitsSpec) :=
  OpenClaim.holds_of_wide 6 Try.f6 rfl rfl rfl rfl rfl rfl rfl ⟨rfl, rfl, rfl, rfl, rfl⟩ rfl rfl rfl rfl rfl (by kernel_rfl) Try.func6 (by kernel_rfl)
    (of_decide_eq_true (by kernel_rfl)) (by unfold Func.isWrapper; first | (rw [if_pos (by decide +kernel)]; kernel_rfl) | (rw [if_neg (by decide +kernel)]; exact ⟨rfl, rfl⟩))
    (fun os started H enc _ => lifted os started H enc)

theorem proved : Rows.FnExactSuitsSaid := over
#print axioms proved
end Go.Proofs.Ytgamicfcdkjleaa.fnExactSuits
namespace Go.Proofs.Ytgamicfcdkjleaa
theorem FnExactSuits_holds : Rows.FnExactSuitsSaid := fnExactSuits.proved
end Go.Proofs.Ytgamicfcdkjleaa
