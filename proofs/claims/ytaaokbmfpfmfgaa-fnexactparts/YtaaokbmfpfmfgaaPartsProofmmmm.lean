/-
Parts answers as its model at every list of rules, unit and question, every field of every part; the law that says so returns true: nothing is written into the rules or the question, and what is told owns its memory.
-/
import Derived.Test.YtaaokbmfpfmfgaaRows
import Derived.WalkKit
import Derived.ProofKit
import Derived.OpenShut
import Derived.ShutString
import Derived.ChangeOld
import Derived.Below
import Derived.Test.YtaaokbmfpfmfgaaArgU
import Derived.Test.YtaaokbmfpfmfgaaPartsLmmmm
namespace Go.Proofs.Ytaaokbmfpfmfgaa.fnExactParts
open Go.ChangeShapes Go.WideShapes Go.ChangeAt Go.RowKit
set_option linter.unusedVariables false

theorem own : ownKnob Try.prog.godebug = none := by kernel_rfl
theorem laidOut : laidOutB Try.prog = true := by kernel_rfl


theorem walk (a0 : Option Addr) (len0 cap0 : Nat) (f0 : Nat → Ru) (a1 : Int) (kd2 pl2 nn2 wa2 : Int) (a2 b2 : Option Addr) (la2 ca2 lb2 cb2 : Nat) (ws2 : List Int) (bs2 : List Bool) (w : World) (w0 : InRus w a0 len0 f0) (w1 : (Lit.int .i64 a1).wf = true) (w2 : InReq w kd2 pl2 nn2 wa2 a2 b2 la2 lb2 ws2 bs2) :
    Calls Try.prog 5 #[.slice a0 len0 cap0, .int .i64 a1, .agg #[.int .i64 kd2, .int .i64 pl2, .int .i64 nn2, .slice a2 la2 ca2, .slice b2 lb2 cb2, .int .i64 wa2]] w fun e w' => e = .returned (.bool true) ∧ Below w.heap.size w w' := by
  obtain ⟨hm, hs, h64⟩ := w0
  obtain ⟨⟨h1, hm1, s1, _⟩, ⟨h2, s2⟩, hm2, _⟩ := w2
  by_cases hbig : len0 + la2 + lb2 ≤ 1048576
  · exact parts_law a0 len0 cap0 f0 a1 kd2 pl2 nn2 wa2 a2 b2 la2 lb2 ca2 cb2 ws2 bs2 w hs h64 h1.symm h2.symm s1 s2 hbig
  · clear hs s1 s2 h1 h2 h64
    have b0 := bel_alloc w (.cells #[.int .i64 kd2, .int .i64 pl2, .int .i64 nn2, .slice a2 la2 ca2, .slice b2 lb2 cb2, .int .i64 wa2] 54)
    have A0 := Blk.new w #[.int .i64 kd2, .int .i64 pl2, .int .i64 nn2, .slice a2 la2 ca2, .slice b2 lb2 cb2, .int .i64 wa2] 54
    obtain ⟨x0, x1, x2, x3, x4, x5⟩ := A0.six
    by_cases hn : len0 ≤ 1048576
    · obtain ⟨m, hmm⟩ : ∃ m : Int, m = ((1048576 - len0 : Nat) : Int) := ⟨_, rfl⟩
      have fm : ¬ (m < 0) := by omega
      have HM : Hid (m = ((1048576 - len0 : Nat) : Int) ∧ 0 ≤ m ∧ m ≤ 1048576 ∧ ¬ (la2 : Int) + (lb2 : Int) ≤ m) := ⟨hmm, by omega, by omega, by omega⟩
      clear hmm A0
      go_enter Try.func5, Try.ntmps5
      go_wp2_with fail
      refine (szRuleS_fits a0 len0 cap0 1048576 _ hn (Nat.le_refl _)).mono ?_
      rintro e w1 ⟨rfl, rfl⟩
      rw [← HM.out.1]
      go_wp2_with fail
      refine (szReq_over kd2 pl2 nn2 wa2 a2 b2 la2 lb2 ca2 cb2 m _ HM.out.2.1 HM.out.2.2.1 hm1 hm2 (by have := HM.out; omega)).mono ?_
      rintro e w1 ⟨rfl, b1⟩
      have B1 := bel_next b0 b1
      clear b1 b0 x0 x1 x2 x3 x4 x5
      go_wp2
      go_ret
      exact ⟨rfl, B1⟩
    · clear A0 x0 x1 x2 x3 x4 x5
      go_enter Try.func5, Try.ntmps5
      go_wp2_with fail
      refine (szRuleS_big a0 len0 cap0 1048576 _ hm hn (Nat.le_refl _)).mono ?_
      rintro e w1 ⟨rfl, rfl⟩
      go_wp2
      go_ret
      exact ⟨rfl, b0⟩

set_option maxRecDepth 100000 in
theorem lifted (os : Os) (started : os.Started) (H : Type) (enc : TypeId × Value → H) :
    ReturnsInHanded {} Try.checked os 5 .any (Rows.fnExactPartsSpec.pre6 enc Try.prog Try.f5 Rows.fnExactPartsRow.domain false) (Rows.fnExactPartsSpec.post enc Try.prog Try.f5 false true false false) := by
  refine returnsInHanded_of_change (C := Try.checked) own started (by kernel_rfl) Try.func5
    (ChangeSpec.witness6 (enc := enc) (C := Try.checked) false ⟨#[], #[.slice none 0 0, .int .i64 0, .agg #[.int .i64 0, .int .i64 0, .int .i64 0, .slice none 0 0, .slice none 0 0, .int .i64 0]], []⟩ 8 (by kernel_rfl) (by kernel_rfl) (by kernel_rfl) (by kernel_rfl)) ?_
  intro W base args ds gs before hval0 hW hcnd _
  have hval : ∀ (j : Nat) t v, Try.f5.params[j]? = some t → args[j]? = some v → Value.okWide Try.prog W .any base t v := hval0
  have hW' := hW
  obtain ⟨p, q, hA0, hV, rfl, hfz, hnd⟩ := hW
  have hA : DataW.TrodAll enc Try.prog W 0 (fun _ => true) true Try.f5.params.toList args.toList ds p := hA0
  rw [Try.params5] at hA hval
  obtain ⟨v0, vs0, d0, ds0, p0, q0, hargs, rfl, rfl, h0, r0⟩ := trodAll_cons hA
  obtain ⟨v1, vs1, d1, ds1, p1, q1, rfl, rfl, rfl, h1, r1⟩ := trodAll_cons r0
  obtain ⟨v2, vs2, d2, ds2, p2, q2, rfl, rfl, rfl, h2, r2⟩ := trodAll_cons r1
  obtain ⟨rfl, rfl, rfl⟩ := trodAll_nil r2
  obtain rfl : args = #[v0, v1, v2] := by cases args; simp_all
  obtain ⟨rfl, rfl⟩ := trodVars_none hV
  have k0 := h0
  obtain ⟨a0, len0, cap0, rfl⟩ := okWide_slice Try.underlying53 (hval 0 53 v0 rfl rfl)
  obtain ⟨f0, w0⟩ : ∃ f, InRus W a0 len0 f := by
    obtain ⟨fuel, hf⟩ := h0
    exact opened_rus Try.underlying53 (by kernel_rfl) Try.underlying97 (by kernel_rfl) rfl rfl rfl rfl rfl rfl rfl Try.underlying3 (by simpa [Value.cells] using hf)
  have lt0 : ∀ x ∈ p0, x.block < W.heap.size := by obtain ⟨m, hm⟩ := k0; exact DataW.trod_lt m _ _ _ hm
  obtain ⟨a1, rfl, rfl, rfl, w1⟩ := open_int Try.underlying3 (hval 1 3 v1 rfl rfl) h1
  have k2 := h2
  obtain ⟨kd2, pl2, nn2, wa2, a2, b2, la2, ca2, lb2, cb2, ws2, bs2, rfl, w2⟩ := opened_req Try.underlying54 (by kernel_rfl) (by kernel_rfl) rfl rfl rfl rfl rfl rfl Try.underlying3 Try.underlying25 Try.underlying26 Try.underlying4 (by kernel_rfl) (by kernel_rfl) (hval 2 54 v2 rfl rfl) h2
  have lt2 : ∀ x ∈ p2, x.block < W.heap.size := by obtain ⟨m, hm⟩ := k2; exact DataW.trod_lt m _ _ _ hm
  clear hA0 hval0
  refine (walk a0 len0 cap0 f0 a1 kd2 pl2 nn2 wa2 a2 b2 la2 ca2 lb2 cb2 ws2 bs2 W w0 w1 w2).mono fun e W' ⟨he, bel⟩ => ?_
  subst he
  exact ⟨_, rfl, _, _, _, [], _, [], hW', trodAll_mk1 (shut_bool Try.underlying4 _), (trodAll_cons_mk (Below.trod laidOut (by kernel_rfl) (of_decide_eq_true (by kernel_rfl)) k0 bel lt0) (trodAll_cons_mk (shut_int Try.underlying3 w1) (trodAll_cons_mk (Below.trod laidOut (by kernel_rfl) (of_decide_eq_true (by kernel_rfl)) k2 bel lt2) trodAll_mk0))), rfl, bel.frame _, fun h => by cases h⟩

theorem over : Rows.fnExactPartsRow.holds Try.pinned (OpenSpec.ofChange Rows.fnExactPartsSpec) :=
  OpenClaim.holds_of_wide 5 Try.f5 rfl rfl rfl rfl rfl rfl rfl ⟨rfl, rfl, rfl, rfl, rfl⟩ rfl rfl rfl rfl rfl (by kernel_rfl) Try.func5 (by kernel_rfl)
    (of_decide_eq_true (by kernel_rfl)) (by unfold Func.isWrapper; first | (rw [if_pos (by decide +kernel)]; kernel_rfl) | (rw [if_neg (by decide +kernel)]; exact ⟨rfl, rfl⟩))
    (fun os started H enc _ => lifted os started H enc)

theorem proved : Rows.FnExactPartsSaid := over
#print axioms proved
end Go.Proofs.Ytaaokbmfpfmfgaa.fnExactParts
namespace Go.Proofs.Ytaaokbmfpfmfgaa
theorem FnExactParts_holds : Rows.FnExactPartsSaid := fnExactParts.proved
end Go.Proofs.Ytaaokbmfpfmfgaa
