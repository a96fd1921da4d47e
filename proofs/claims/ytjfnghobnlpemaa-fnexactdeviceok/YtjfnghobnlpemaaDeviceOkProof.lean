/-
DeviceOk answers as its model at every device, and the law that says so returns true and leaves the device as it was.
-/
import Derived.Test.YtjfnghobnlpemaaRows
import Derived.WalkKit
import Derived.ProofKit
import Derived.OpenShut
import Derived.ShutString
import Derived.ChangeOld
import Derived.Below
import Derived.Test.YtjfnghobnlpemaaArgD
import Derived.Test.YtjfnghobnlpemaaDeviceOkL
namespace Go.Proofs.Ytjfnghobnlpemaa.fnExactDeviceOk
open Go.ChangeShapes Go.WideShapes Go.ChangeAt Go.RowKit
set_option linter.unusedVariables false

theorem own : ownKnob Try.prog.godebug = none := by kernel_rfl
theorem laidOut : laidOutB Try.prog = true := by kernel_rfl


theorem walk (xa0 xb0 xc0 xd0 : Option Addr) (la0 ca0 lb0 cb0 lc0 cc0 ld0 cd0 : Nat) (cs0 is0 : List Bool) (hs0 rs0 : List Int) (w : World) (w0 : InDev w xa0 xb0 xc0 xd0 la0 lb0 lc0 ld0 cs0 is0 hs0 rs0) :
    Calls Try.prog 8 #[.agg #[.slice xa0 la0 ca0, .slice xb0 lb0 cb0, .slice xc0 lc0 cc0, .slice xd0 ld0 cd0]] w fun e w' => e = .returned (.bool true) ∧ Below w.heap.size w w' := by
  by_cases hbig : (la0 : Int) + (lb0 : Int) + (lc0 : Int) + (ld0 : Int) ≤ 1048576
  · exact deviceOk_law xa0 xb0 xc0 xd0 la0 lb0 lc0 ld0 ca0 cb0 cc0 cd0 cs0 is0 hs0 rs0 w w0 hbig
  · obtain ⟨⟨_, hm1⟩, ⟨_, hm2⟩, ⟨_, hm3, _⟩, _, hm4, _⟩ := w0
    go_enter Try.func8, Try.ntmps8
    go_wp2_with fail
    refine (szDevice_over xa0 xb0 xc0 xd0 la0 lb0 lc0 ld0 ca0 cb0 cc0 cd0 1048576 _ (by omega) (by omega) hm1 hm2 hm3 hm4 (by omega)).mono ?_
    rintro e w1 ⟨rfl, b1⟩
    have b2 := bel_next (bel_alloc w (.cells #[.slice xa0 la0 ca0, .slice xb0 lb0 cb0, .slice xc0 lc0 cc0, .slice xd0 ld0 cd0] 57)) b1
    clear b1 hm1 hm2 hm3 hm4
    go_wp2
    go_ret
    exact ⟨rfl, b2⟩

set_option maxRecDepth 100000 in
theorem lifted (os : Os) (started : os.Started) (H : Type) (enc : TypeId × Value → H) :
    ReturnsInHanded {} Try.checked os 8 .any (Rows.fnExactDeviceOkSpec.pre6 enc Try.prog Try.f8 Rows.fnExactDeviceOkRow.domain false) (Rows.fnExactDeviceOkSpec.post enc Try.prog Try.f8 false true false false) := by
  refine returnsInHanded_of_change (C := Try.checked) own started (by kernel_rfl) Try.func8
    (ChangeSpec.witness6 (enc := enc) (C := Try.checked) false ⟨#[], #[.agg #[.slice none 0 0, .slice none 0 0, .slice none 0 0, .slice none 0 0]], []⟩ 8 (by kernel_rfl) (by kernel_rfl) (by kernel_rfl) (by kernel_rfl)) ?_
  intro W base args ds gs before hval0 hW hcnd _
  have hval : ∀ (j : Nat) t v, Try.f8.params[j]? = some t → args[j]? = some v → Value.okWide Try.prog W .any base t v := hval0
  have hW' := hW
  obtain ⟨p, q, hA0, hV, rfl, hfz, hnd⟩ := hW
  have hA : DataW.TrodAll enc Try.prog W 0 (fun _ => true) true Try.f8.params.toList args.toList ds p := hA0
  rw [Try.params8] at hA hval
  obtain ⟨v0, vs0, d0, ds0, p0, q0, hargs, rfl, rfl, h0, r0⟩ := trodAll_cons hA
  obtain ⟨rfl, rfl, rfl⟩ := trodAll_nil r0
  obtain rfl : args = #[v0] := by cases args; simp_all
  obtain ⟨rfl, rfl⟩ := trodVars_none hV
  have k0 := h0
  obtain ⟨xa0, xb0, xc0, xd0, la0, ca0, lb0, cb0, lc0, cc0, ld0, cd0, cs0, is0, hs0, rs0, rfl, w0⟩ := opened_dev Try.underlying57 (by kernel_rfl) (by kernel_rfl) rfl rfl rfl rfl Try.underlying3 Try.underlying24 Try.underlying25 Try.underlying4 (by kernel_rfl) (by kernel_rfl) (hval 0 57 v0 rfl rfl) h0
  have lt0 : ∀ x ∈ p0, x.block < W.heap.size := by obtain ⟨m, hm⟩ := k0; exact DataW.trod_lt m _ _ _ hm
  clear hA0 hval0
  refine (walk xa0 xb0 xc0 xd0 la0 ca0 lb0 cb0 lc0 cc0 ld0 cd0 cs0 is0 hs0 rs0 W w0).mono fun e W' ⟨he, bel⟩ => ?_
  subst he
  exact ⟨_, rfl, _, _, _, [], _, [], hW', trodAll_mk1 (shut_bool Try.underlying4 _), (trodAll_cons_mk (Below.trod laidOut (by kernel_rfl) (of_decide_eq_true (by kernel_rfl)) k0 bel lt0) trodAll_mk0), rfl, bel.frame _, fun h => by cases h⟩

theorem over : Rows.fnExactDeviceOkRow.holds Try.pinned (OpenSpec.ofChange Rows.fnExactDeviceOkSpec) :=
  OpenClaim.holds_of_wide 8 Try.f8 rfl rfl rfl rfl rfl rfl rfl ⟨rfl, rfl, rfl, rfl, rfl⟩ rfl rfl rfl rfl rfl (by kernel_rfl) Try.func8 (by kernel_rfl)
    (of_decide_eq_true (by kernel_rfl)) (by unfold Func.isWrapper; first | (rw [if_pos (by decide +kernel)]; kernel_rfl) | (rw [if_neg (by decide +kernel)]; exact ⟨rfl, rfl⟩))
    (fun os started H enc _ => lifted os started H enc)

theorem proved : Rows.FnExactDeviceOkSaid := over
#print axioms proved
end Go.Proofs.Ytjfnghobnlpemaa.fnExactDeviceOk
namespace Go.Proofs.Ytjfnghobnlpemaa
theorem FnExactDeviceOk_holds : Rows.FnExactDeviceOkSaid := fnExactDeviceOk.proved
end Go.Proofs.Ytjfnghobnlpemaa
