/-
RingPut answers as its model at every ring and every slice of bytes, in memory of its own, and the law that says so returns true and leaves both as they were.
-/
import Derived.Test.YtckmffhdngfchaaRows
import Derived.WalkKit
import Derived.ProofKit
import Derived.OpenShut
import Derived.ShutString
import Derived.ChangeOld
import Derived.Below
import Derived.Test.YtckmffhdngfchaaArgS
import Derived.Test.YtckmffhdngfchaaRingPutL
namespace Go.Proofs.Ytckmffhdngfchaa.fnExactRingPut
open Go.ChangeShapes Go.WideShapes Go.ChangeAt Go.RowKit
set_option linter.unusedVariables false

theorem own : ownKnob Try.prog.godebug = none := by kernel_rfl
theorem laidOut : laidOutB Try.prog = true := by kernel_rfl


theorem walk (a0 : Option Addr) (len0 cap0 : Nat) (z0 : List Int) (a1 : Option Addr) (len1 cap1 : Nat) (z1 : List Int) (w : World) (w0 : InBys w a0 len0 z0) (w1 : InBys w a1 len1 z1) :
    Calls Try.prog 4 #[.agg #[.slice a0 len0 cap0], .slice a1 len1 cap1] w fun e w' => e = .returned (.bool true) ∧ Below w.heap.size w w' := by
  obtain ⟨hz, hm, hs, _⟩ := w0
  obtain ⟨hz1, hm1, hs1, _⟩ := w1
  by_cases hb1 : len1 ≤ 1048576
  · by_cases hb0 : len0 ≤ 1048576
    · have hk : len0 + putK z0 z1 ≤ 1049000 := by unfold putK; omega
      exact ringPut_law a0 a1 len0 len1 cap0 cap1 z0 z1 _ _ _ w hz.symm hz1.symm hs hs1 hb0 hb1 ⟨rfl, rfl, rfl⟩ (by omega) (by omega)
    · have hb2 : ¬ ((1048576 : Int) < (len1 : Int)) := by omega
      clear hs hs1
      go_enter Try.func4, Try.ntmps4
      go_wp2_with fail
      refine (szRing_big a0 len0 cap0 _ hm hb0).mono ?_
      rintro e w1 ⟨rfl, b1⟩
      have b2 := bel_next (bel_alloc w (.cells #[.slice a0 len0 cap0] 35)) b1
      clear b1 hm hz hz1 hm1
      go_wp2
      go_ret
      exact ⟨rfl, b2⟩
  · have hb2 : (1048576 : Int) < (len1 : Int) := by omega
    have b2 := bel_alloc w (.cells #[.slice a0 len0 cap0] 35)
    clear hs hs1 hm hz hz1 hm1
    go_enter Try.func4, Try.ntmps4
    go_wp2
    go_ret
    exact ⟨rfl, b2⟩

set_option maxRecDepth 100000 in
theorem lifted (os : Os) (started : os.Started) (H : Type) (enc : TypeId × Value → H) :
    ReturnsInHanded {} Try.checked os 4 .any (Rows.fnExactRingPutSpec.pre6 enc Try.prog Try.f4 Rows.fnExactRingPutRow.domain false) (Rows.fnExactRingPutSpec.post enc Try.prog Try.f4 false true false false) := by
  refine returnsInHanded_of_change (C := Try.checked) own started (by kernel_rfl) Try.func4
    (ChangeSpec.witness6 (enc := enc) (C := Try.checked) false ⟨#[], #[.agg #[.slice none 0 0], .slice none 0 0], []⟩ 8 (by kernel_rfl) (by kernel_rfl) (by kernel_rfl) (by kernel_rfl)) ?_
  intro W base args ds gs before hval0 hW hcnd _
  have hval : ∀ (j : Nat) t v, Try.f4.params[j]? = some t → args[j]? = some v → Value.okWide Try.prog W .any base t v := hval0
  have hW' := hW
  obtain ⟨p, q, hA0, hV, rfl, hfz, hnd⟩ := hW
  have hA : DataW.TrodAll enc Try.prog W 0 (fun _ => true) true Try.f4.params.toList args.toList ds p := hA0
  rw [Try.params4] at hA hval
  obtain ⟨v0, vs0, d0, ds0, p0, q0, hargs, rfl, rfl, h0, r0⟩ := trodAll_cons hA
  obtain ⟨v1, vs1, d1, ds1, p1, q1, rfl, rfl, rfl, h1, r1⟩ := trodAll_cons r0
  obtain ⟨rfl, rfl, rfl⟩ := trodAll_nil r1
  obtain rfl : args = #[v0, v1] := by cases args; simp_all
  obtain ⟨rfl, rfl⟩ := trodVars_none hV
  have k0 := h0
  obtain ⟨a0, len0, cap0, n0, x0, rfl, hf0⟩ := opened_struct1 Try.underlying35 (by kernel_rfl) (by kernel_rfl) rfl Try.underlying22 (hval 0 35 v0 rfl rfl) h0
  obtain ⟨z0, w0⟩ := opened_bys Try.underlying22 Try.underlying5 (by kernel_rfl) hf0
  have lt0 : ∀ x ∈ p0, x.block < W.heap.size := by obtain ⟨m, hm⟩ := k0; exact DataW.trod_lt m _ _ _ hm
  have k1 := h1
  obtain ⟨a1, len1, cap1, rfl⟩ := okWide_slice Try.underlying22 (hval 1 22 v1 rfl rfl)
  obtain ⟨z1, w1⟩ : ∃ zs, InBys W a1 len1 zs := by
    obtain ⟨fuel, hf⟩ := h1
    exact opened_bys Try.underlying22 Try.underlying5 (by kernel_rfl) (by simpa [Value.cells] using hf)
  have lt1 : ∀ x ∈ p1, x.block < W.heap.size := by obtain ⟨m, hm⟩ := k1; exact DataW.trod_lt m _ _ _ hm
  clear hA0 hval0
  refine (walk a0 len0 cap0 z0 a1 len1 cap1 z1 W w0 w1).mono fun e W' ⟨he, bel⟩ => ?_
  subst he
  exact ⟨_, rfl, _, _, _, [], _, [], hW', trodAll_mk1 (shut_bool Try.underlying4 _), (trodAll_cons_mk (Below.trod laidOut (by kernel_rfl) (of_decide_eq_true (by kernel_rfl)) k0 bel lt0) (trodAll_cons_mk (Below.trod laidOut (by kernel_rfl) (of_decide_eq_true (by kernel_rfl)) k1 bel lt1) trodAll_mk0)), rfl, bel.frame _, fun h => by cases h⟩

theorem over : Rows.fnExactRingPutRow.holds Try.pinned (OpenSpec.ofChange Rows.fnExactRingPutSpec) :=
  OpenClaim.holds_of_wide 4 Try.f4 rfl rfl rfl rfl rfl rfl rfl ⟨rfl, rfl, rfl, rfl, rfl⟩ rfl rfl rfl rfl rfl (by kernel_rfl) Try.func4 (by kernel_rfl)
    (of_decide_eq_true (by kernel_rfl)) (by unfold Func.isWrapper; first | (rw [if_pos (by decide +kernel)]; kernel_rfl) | (rw [if_neg (by decide +kernel)]; exact ⟨rfl, rfl⟩))
    (fun os started H enc _ => lifted os started H enc)

theorem proved : Rows.FnExactRingPutSaid := over
#print axioms proved
end Go.Proofs.Ytckmffhdngfchaa.fnExactRingPut
namespace Go.Proofs.Ytckmffhdngfchaa
theorem FnExactRingPut_holds : Rows.FnExactRingPutSaid := fnExactRingPut.proved
end Go.Proofs.Ytckmffhdngfchaa
