/-
Serve answers as its model at every device and question, and the law that says so returns true and leaves both as they were.
-/
import Derived.Test.YtmbkfoemhnhoiaaRows
import Derived.WalkKit
import Derived.ProofKit
import Derived.OpenShut
import Derived.ShutString
import Derived.ChangeOld
import Derived.Below
import Derived.Test.YtmbkfoemhnhoiaaMC
import Derived.Test.YtmbkfoemhnhoiaaServeLmmm
namespace Go.Proofs.Ytmbkfoemhnhoiaa.fnExactServe
open Go.ChangeShapes Go.WideShapes Go.ChangeAt Go.RowKit
set_option linter.unusedVariables false

theorem own : ownKnob Try.prog.godebug = none := by kernel_rfl
theorem laidOut : laidOutB Try.prog = true := by kernel_rfl


theorem walk (xa0 xb0 xc0 xd0 : Option Addr) (la0 ca0 lb0 cb0 lc0 cc0 ld0 cd0 : Nat) (cs0 is0 : List Bool) (hs0 rs0 : List Int) (kd1 pl1 nn1 wa1 : Int) (a1 b1 : Option Addr) (la1 ca1 lb1 cb1 : Nat) (ws1 : List Int) (bs1 : List Bool) (w : World) (w0 : InDev w xa0 xb0 xc0 xd0 la0 lb0 lc0 ld0 cs0 is0 hs0 rs0) (w1 : InReq w kd1 pl1 nn1 wa1 a1 b1 la1 lb1 ws1 bs1) :
    Calls Try.prog 7 #[.agg #[.slice xa0 la0 ca0, .slice xb0 lb0 cb0, .slice xc0 lc0 cc0, .slice xd0 ld0 cd0], .agg #[.int .i64 kd1, .int .i64 pl1, .int .i64 nn1, .slice a1 la1 ca1, .slice b1 lb1 cb1, .int .i64 wa1]] w fun e w' => e = .returned (.bool true) ∧ Below w.heap.size w w' := by
  by_cases hbig : (la0 : Int) + (lb0 : Int) + (lc0 : Int) + (ld0 : Int) + (la1 : Int) + (lb1 : Int) ≤ 1048576
  · exact serve_law xa0 xb0 xc0 xd0 la0 lb0 lc0 ld0 ca0 cb0 cc0 cd0 cs0 is0 hs0 rs0 kd1 pl1 nn1 wa1 a1 b1 la1 lb1 ca1 cb1 ws1 bs1 w w0 w1 hbig _ rfl
  · obtain ⟨⟨_, hm1⟩, ⟨_, hm2⟩, ⟨_, hm3, _⟩, _, hm4, _⟩ := w0
    obtain ⟨⟨_, hn1, _⟩, _, hn2, _⟩ := w1
    obtain ⟨W, hW⟩ : ∃ W, W = (w.alloc (.cells #[.slice xa0 la0 ca0, .slice xb0 lb0 cb0, .slice xc0 lc0 cc0, .slice xd0 ld0 cd0] 56)).alloc (.cells #[.int .i64 kd1, .int .i64 pl1, .int .i64 nn1, .slice a1 la1 ca1, .slice b1 lb1 cb1, .int .i64 wa1] 57) := ⟨_, rfl⟩
    have HW : Hid (W = _) := hW
    have B0 : Below w.heap.size w W := by rw [hW]; exact bel_next (bel_alloc w _) (bel_alloc _ _)
    have A0 : Blk W w.heap.size 56 #[.slice xa0 la0 ca0, .slice xb0 lb0 cb0, .slice xc0 lc0 cc0, .slice xd0 ld0 cd0] := by rw [hW]; exact (Blk.new w _ _).below (bel_alloc _ _)
    have D0 : Blk W (w.heap.size + 1) 57 #[.int .i64 kd1, .int .i64 pl1, .int .i64 nn1, .slice a1 la1 ca1, .slice b1 lb1 cb1, .int .i64 wa1] := by
      rw [hW]; have := Blk.new (w.alloc (.cells #[.slice xa0 la0 ca0, .slice xb0 lb0 cb0, .slice xc0 lc0 cc0, .slice xd0 ld0 cd0] 56)) #[.int .i64 kd1, .int .i64 pl1, .int .i64 nn1, .slice a1 la1 ca1, .slice b1 lb1 cb1, .int .i64 wa1] 57; simpa using this
    obtain ⟨x0, x1, x2, x3⟩ := A0.four
    have HM : Hid (la0 ≤ maxLen ∧ lb0 ≤ maxLen ∧ lc0 ≤ maxLen ∧ ld0 ≤ maxLen ∧ la1 ≤ maxLen ∧ lb1 ≤ maxLen) := ⟨hm1, hm2, hm3, hm4, hn1, hn2⟩
    clear hW hm1 hm2 hm3 hm4 hn1 hn2
    by_cases hb1 : (la0 : Int) + (lb0 : Int) + (lc0 : Int) + (ld0 : Int) ≤ 1048576
    · have f0 : ¬ (1048576 - (la0 : Int) - (lb0 : Int) - (lc0 : Int) - (ld0 : Int) < 0) := by omega
      have f2 : Hid ((la0 : Int) + (lb0 : Int) + (lc0 : Int) + (ld0 : Int) ≤ 1048576 ∧ 0 ≤ 1048576 - (la0 : Int) - (lb0 : Int) - (lc0 : Int) - (ld0 : Int) ∧ 1048576 - (la0 : Int) - (lb0 : Int) - (lc0 : Int) - (ld0 : Int) ≤ 1048576 ∧ ¬ (la1 : Int) + (lb1 : Int) ≤ 1048576 - (la0 : Int) - (lb0 : Int) - (lc0 : Int) - (ld0 : Int)) := by show _ ∧ _; omega
      clear hbig hb1
      go_enter Try.func7, Try.ntmps7
      go_upto_region 1 with fail
      rw [← HW.out]
      go_wp2_with fail
      refine (szDevice_at xa0 xb0 xc0 xd0 la0 lb0 lc0 ld0 ca0 cb0 cc0 cd0 1048576 _ (by omega) f2.out.1).mono ?_
      rintro e z1 ⟨rfl, b'⟩
      have B1 := bel_next B0 b'
      obtain ⟨d0, d1, d2, d3, d4, d5⟩ := (D0.below b').six
      clear b' B0 A0 D0 x0 x1 x2 x3
      go_wp2_with fail
      refine (szReq_over kd1 pl1 nn1 wa1 a1 b1 la1 lb1 ca1 cb1 _ _ f2.out.2.1 f2.out.2.2.1 HM.out.2.2.2.2.1 HM.out.2.2.2.2.2 (by have := f2.out; omega)).mono ?_
      rintro e z2 ⟨rfl, b'⟩
      have B2 := bel_next B1 b'
      go_wp2
      go_ret
      exact ⟨rfl, B2⟩
    · clear hbig
      go_enter Try.func7, Try.ntmps7
      go_upto_region 1 with fail
      rw [← HW.out]
      go_wp2_with fail
      refine (szDevice_over xa0 xb0 xc0 xd0 la0 lb0 lc0 ld0 ca0 cb0 cc0 cd0 1048576 _ (by omega) (by omega) HM.out.1 HM.out.2.1 HM.out.2.2.1 HM.out.2.2.2.1 (by omega)).mono ?_
      rintro e z1 ⟨rfl, b'⟩
      have B1 := bel_next B0 b'
      go_wp2
      go_ret
      exact ⟨rfl, B1⟩

set_option maxRecDepth 100000 in
theorem lifted (os : Os) (started : os.Started) (H : Type) (enc : TypeId × Value → H) :
    ReturnsInHanded {} Try.checked os 7 .any (Rows.fnExactServeSpec.pre6 enc Try.prog Try.f7 Rows.fnExactServeRow.domain false) (Rows.fnExactServeSpec.post enc Try.prog Try.f7 false true false false) := by
  refine returnsInHanded_of_change (C := Try.checked) own started (by kernel_rfl) Try.func7
    (ChangeSpec.witness6 (enc := enc) (C := Try.checked) false ⟨#[], #[.agg #[.slice none 0 0, .slice none 0 0, .slice none 0 0, .slice none 0 0], .agg #[.int .i64 0, .int .i64 0, .int .i64 0, .slice none 0 0, .slice none 0 0, .int .i64 0]], []⟩ 8 (by kernel_rfl) (by kernel_rfl) (by kernel_rfl) (by kernel_rfl)) ?_
  intro W base args ds gs before hval0 hW hcnd _
  have hval : ∀ (j : Nat) t v, Try.f7.params[j]? = some t → args[j]? = some v → Value.okWide Try.prog W .any base t v := hval0
  have hW' := hW
  obtain ⟨p, q, hA0, hV, rfl, hfz, hnd⟩ := hW
  have hA : DataW.TrodAll enc Try.prog W 0 (fun _ => true) true Try.f7.params.toList args.toList ds p := hA0
  rw [Try.params7] at hA hval
  obtain ⟨v0, vs0, d0, ds0, p0, q0, hargs, rfl, rfl, h0, r0⟩ := trodAll_cons hA
  obtain ⟨v1, vs1, d1, ds1, p1, q1, rfl, rfl, rfl, h1, r1⟩ := trodAll_cons r0
  obtain ⟨rfl, rfl, rfl⟩ := trodAll_nil r1
  obtain rfl : args = #[v0, v1] := by cases args; simp_all
  obtain ⟨rfl, rfl⟩ := trodVars_none hV
  have k0 := h0
  obtain ⟨xa0, xb0, xc0, xd0, la0, ca0, lb0, cb0, lc0, cc0, ld0, cd0, cs0, is0, hs0, rs0, rfl, w0⟩ := opened_dev Try.underlying56 (by kernel_rfl) (by kernel_rfl) rfl rfl rfl rfl Try.underlying3 Try.underlying24 Try.underlying25 Try.underlying4 (by kernel_rfl) (by kernel_rfl) (hval 0 56 v0 rfl rfl) h0
  have lt0 : ∀ x ∈ p0, x.block < W.heap.size := by obtain ⟨m, hm⟩ := k0; exact DataW.trod_lt m _ _ _ hm
  have k1 := h1
  obtain ⟨kd1, pl1, nn1, wa1, a1, b1, la1, ca1, lb1, cb1, ws1, bs1, rfl, w1⟩ := opened_req Try.underlying57 (by kernel_rfl) (by kernel_rfl) rfl rfl rfl rfl rfl rfl Try.underlying3 Try.underlying24 Try.underlying25 Try.underlying4 (by kernel_rfl) (by kernel_rfl) (hval 1 57 v1 rfl rfl) h1
  have lt1 : ∀ x ∈ p1, x.block < W.heap.size := by obtain ⟨m, hm⟩ := k1; exact DataW.trod_lt m _ _ _ hm
  clear hA0 hval0
  refine (walk xa0 xb0 xc0 xd0 la0 ca0 lb0 cb0 lc0 cc0 ld0 cd0 cs0 is0 hs0 rs0 kd1 pl1 nn1 wa1 a1 b1 la1 ca1 lb1 cb1 ws1 bs1 W w0 w1).mono fun e W' ⟨he, bel⟩ => ?_
  subst he
  exact ⟨_, rfl, _, _, _, [], _, [], hW', trodAll_mk1 (shut_bool Try.underlying4 _), (trodAll_cons_mk (Below.trod laidOut (by kernel_rfl) (of_decide_eq_true (by kernel_rfl)) k0 bel lt0) (trodAll_cons_mk (Below.trod laidOut (by kernel_rfl) (of_decide_eq_true (by kernel_rfl)) k1 bel lt1) trodAll_mk0)), rfl, bel.frame _, fun h => by cases h⟩

theorem over : Rows.fnExactServeRow.holds Try.pinned (OpenSpec.ofChange Rows.fnExactServeSpec) :=
  OpenClaim.holds_of_wide 7 Try.f7 rfl rfl rfl rfl rfl rfl rfl ⟨rfl, rfl, rfl, rfl, rfl⟩ rfl rfl rfl rfl rfl (by kernel_rfl) Try.func7 (by kernel_rfl)
    (of_decide_eq_true (by kernel_rfl)) (by unfold Func.isWrapper; first | (rw [if_pos (by decide +kernel)]; kernel_rfl) | (rw [if_neg (by decide +kernel)]; exact ⟨rfl, rfl⟩))
    (fun os started H enc _ => lifted os started H enc)

theorem proved : Rows.FnExactServeSaid := over
#print axioms proved
end Go.Proofs.Ytmbkfoemhnhoiaa.fnExactServe
namespace Go.Proofs.Ytmbkfoemhnhoiaa
theorem FnExactServe_holds : Rows.FnExactServeSaid := fnExactServe.proved
end Go.Proofs.Ytmbkfoemhnhoiaa
