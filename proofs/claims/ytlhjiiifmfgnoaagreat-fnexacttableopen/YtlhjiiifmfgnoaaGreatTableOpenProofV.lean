/-
TableOpen answers as its model at every table, every question and every list of parts, and the law that says so returns true and leaves them as they were.
-/
import Derived.Test.YtlhjiiifmfgnoaaGreatRows
import Derived.WalkKit
import Derived.ProofKit
import Derived.OpenShut
import Derived.ShutString
import Derived.ChangeOld
import Derived.Below
import Derived.Test.YtlhjiiifmfgnoaaGreatV2
import Derived.Test.YtlhjiiifmfgnoaaGreatV22
namespace Go.Proofs.YtlhjiiifmfgnoaaGreat.fnExactTableOpen
open Go.ChangeShapes Go.WideShapes Go.ChangeAt Go.RowKit
set_option linter.unusedVariables false

theorem own : ownKnob Tryz.prog.godebug = none := by kernel_rfl
theorem laidOut : laidOutB Tryz.prog = true := by kernel_rfl


theorem walk (X0 : VT) (a0 : Option Addr) (l0 c0 : Nat) (a1 : Int) (a2 : Int) (a3 : Int) (X4 : VQ) (a4 : Option Addr) (l4 c4 : Nat) (b4 : Option Addr) (m4 d4 : Nat) (n5 : Nat) (f5 : Nat → VP) (a5 : Option Addr) (c5 : Nat) (w : World) (w0 : Rd w 0 (.list 13 X0.m (fun i => trs (dT (X0.f i)))) (.slice a0 l0 c0)) (w1 : (Lit.int .i64 a1).wf = true) (w2 : (Lit.int .i64 a2).wf = true) (w3 : (Lit.int .i64 a3).wf = true) (w4 : Rd w 0 (intsT X4.ws) (.slice a4 l4 c4) ∧ Rd w 0 (boolsT X4.bs) (.slice b4 m4 d4)) (w5 : Rd w 0 (.list 8 n5 (fun i => trs (pT (f5 i)))) (.slice a5 n5 c5)) :
    Calls Tryz.prog 3 #[.agg (tL X0 a0 l0 c0).toArray, .int .i64 a1, .int .i64 a2, .int .i64 a3, .agg (qL X4 a4 l4 c4 b4 m4 d4).toArray, .slice a5 n5 c5] w fun e w' => e = .returned (.bool true) ∧ Below w.heap.size w w' := by
  obtain ⟨a9, c9, h9, -, -⟩ := w0.shape
  simp only [Value.slice.injEq] at h9
  obtain ⟨-, rfl, -⟩ := h9
  obtain ⟨r1, r2⟩ := w4
  obtain ⟨a9, c9, h9, -, -⟩ := r1.ints
  obtain ⟨a8, c8, h8, -, -⟩ := r2.bools
  simp only [Value.slice.injEq] at h9 h8
  obtain ⟨-, rfl, -⟩ := h9
  obtain ⟨-, rfl, -⟩ := h8
  by_cases h1 : szT 2 (trs (tT X0)) ≤ 1048576
  · by_cases h2 : szT 2 (trs (tT X0)) + szT 6 (trs (qT X4)) ≤ 1048576
    · by_cases h3 : szT 2 (trs (tT X0)) + szT 6 (trs (qT X4)) + (Tr.list 8 n5 (fun i => trs (pT (f5 i)))).sz ≤ 1048576
      · exact tableOpen_law X0 a0 c0 _ _ _ X4 a4 c4 b4 d4 n5 f5 a5 c5 w w0 r1 r2 w5 h3
      · exact tableOpen_big3 X0 a0 c0 _ _ _ X4 a4 c4 b4 d4 n5 f5 a5 c5 w w0 r1 r2 w5 h2 h3
    · exact tableOpen_big2 X0 a0 c0 _ _ _ X4 a4 c4 b4 d4 n5 f5 a5 c5 w w0 r1 r2 w5 h1 h2
  · exact tableOpen_big1 X0 a0 c0 _ _ _ X4 a4 c4 b4 d4 n5 f5 a5 c5 w w0 r1 r2 w5 h1

set_option maxRecDepth 100000 in
theorem lifted (os : Os) (started : os.Started) (H : Type) (enc : TypeId × Value → H) :
    ReturnsInHanded {} Tryz.checked os 3 .any (Rows.fnExactTableOpenSpec.pre6 enc Tryz.prog Tryz.f3 Rows.fnExactTableOpenRow.domain false) (Rows.fnExactTableOpenSpec.post enc Tryz.prog Tryz.f3 false true false false) := by
  refine returnsInHanded_of_change (C := Tryz.checked) own started (by kernel_rfl) Tryz.func3
    (ChangeSpec.witness6 (enc := enc) (C := Tryz.checked) false ⟨#[], #[.agg #[.int .i64 0, .slice none 0 0], .int .i64 0, .int .i64 0, .int .i64 0, .agg #[.int .i64 0, .int .i64 0, .int .i64 0, .slice none 0 0, .slice none 0 0, .int .i64 0], .slice none 0 0], []⟩ 8 (by kernel_rfl) (by kernel_rfl) (by kernel_rfl) (by kernel_rfl)) ?_
  intro W base args ds gs before hval0 hW hcnd _
  have hval : ∀ (j : Nat) t v, Tryz.f3.params[j]? = some t → args[j]? = some v → Value.okWide Tryz.prog W .any base t v := hval0
  have hW' := hW
  obtain ⟨p, q, hA0, hV, rfl, hfz, hnd⟩ := hW
  have hA : DataW.TrodAll enc Tryz.prog W 0 (fun _ => true) true Tryz.f3.params.toList args.toList ds p := hA0
  rw [Tryz.params3] at hA hval
  obtain ⟨v0, vs0, d0, ds0, p0, q0, hargs, rfl, rfl, h0, r0⟩ := trodAll_cons hA
  obtain ⟨v1, vs1, d1, ds1, p1, q1, rfl, rfl, rfl, h1, r1⟩ := trodAll_cons r0
  obtain ⟨v2, vs2, d2, ds2, p2, q2, rfl, rfl, rfl, h2, r2⟩ := trodAll_cons r1
  obtain ⟨v3, vs3, d3, ds3, p3, q3, rfl, rfl, rfl, h3, r3⟩ := trodAll_cons r2
  obtain ⟨v4, vs4, d4, ds4, p4, q4, rfl, rfl, rfl, h4, r4⟩ := trodAll_cons r3
  obtain ⟨v5, vs5, d5, ds5, p5, q5, rfl, rfl, rfl, h5, r5⟩ := trodAll_cons r4
  obtain ⟨rfl, rfl, rfl⟩ := trodAll_nil r5
  obtain rfl : args = #[v0, v1, v2, v3, v4, v5] := by cases args; simp_all
  obtain ⟨rfl, rfl⟩ := trodVars_none hV
  have k0 := h0
  obtain ⟨X0, a0, l0, c0, rfl, w0⟩ := opened_tv (N := 8) Tryz.underlying24 (by kernel_rfl) (hval 0 24 v0 rfl rfl) h0
  have lt0 : ∀ x ∈ p0, x.block < W.heap.size := by obtain ⟨m, hm⟩ := k0; exact DataW.trod_lt m _ _ _ hm
  obtain ⟨a1, rfl, rfl, rfl, w1⟩ := open_int Tryz.underlying3 (hval 1 3 v1 rfl rfl) h1
  obtain ⟨a2, rfl, rfl, rfl, w2⟩ := open_int Tryz.underlying3 (hval 2 3 v2 rfl rfl) h2
  obtain ⟨a3, rfl, rfl, rfl, w3⟩ := open_int Tryz.underlying3 (hval 3 3 v3 rfl rfl) h3
  have k4 := h4
  obtain ⟨X4, a4, l4, c4, b4, m4, d4, rfl, w4⟩ := opened_qv (N := 8) Tryz.underlying28 (by kernel_rfl) (hval 4 28 v4 rfl rfl) h4
  have lt4 : ∀ x ∈ p4, x.block < W.heap.size := by obtain ⟨m, hm⟩ := k4; exact DataW.trod_lt m _ _ _ hm
  have k5 := h5
  obtain ⟨n5, f5, a5, c5, rfl, w5⟩ := opened_ps (N := 8) Tryz.underlying29 (by kernel_rfl) (hval 5 29 v5 rfl rfl) h5
  have lt5 : ∀ x ∈ p5, x.block < W.heap.size := by obtain ⟨m, hm⟩ := k5; exact DataW.trod_lt m _ _ _ hm
  clear hA0 hval0
  refine (walk X0 a0 l0 c0 a1 a2 a3 X4 a4 l4 c4 b4 m4 d4 n5 f5 a5 c5 W w0 w1 w2 w3 w4 w5).mono fun e W' ⟨he, bel⟩ => ?_
  subst he
  exact ⟨_, rfl, _, _, _, [], _, [], hW', trodAll_mk1 (shut_bool Tryz.underlying4 _), (trodAll_cons_mk (Below.trod laidOut (by kernel_rfl) (of_decide_eq_true (by kernel_rfl)) k0 bel lt0) (trodAll_cons_mk (shut_int Tryz.underlying3 w1) (trodAll_cons_mk (shut_int Tryz.underlying3 w2) (trodAll_cons_mk (shut_int Tryz.underlying3 w3) (trodAll_cons_mk (Below.trod laidOut (by kernel_rfl) (of_decide_eq_true (by kernel_rfl)) k4 bel lt4) (trodAll_cons_mk (Below.trod laidOut (by kernel_rfl) (of_decide_eq_true (by kernel_rfl)) k5 bel lt5) trodAll_mk0)))))), rfl, bel.frame _, fun h => by cases h⟩

theorem over : Rows.fnExactTableOpenRow.holds Tryz.pinned (OpenSpec.ofChange Rows.fnExactTableOpenSpec) :=
  OpenClaim.holds_of_wide 3 Tryz.f3 rfl rfl rfl rfl rfl rfl rfl ⟨rfl, rfl, rfl, rfl, rfl⟩ rfl rfl rfl rfl rfl (by kernel_rfl) Tryz.func3 (by kernel_rfl)
    (of_decide_eq_true (by kernel_rfl)) (by unfold Func.isWrapper; first | (rw [if_pos (by decide +kernel)]; kernel_rfl) | (rw [if_neg (by decide +kernel)]; exact ⟨rfl, rfl⟩))
    (fun os started H enc _ => lifted os started H enc)

theorem proved : Rows.FnExactTableOpenSaid := over
#print axioms proved
end Go.Proofs.YtlhjiiifmfgnoaaGreat.fnExactTableOpen
namespace Go.Proofs.YtlhjiiifmfgnoaaGreat
theorem FnExactTableOpen_holds : Rows.FnExactTableOpenSaid := fnExactTableOpen.proved
end Go.Proofs.YtlhjiiifmfgnoaaGreat
