/-
RtuHear answers as its model at every listener, byte and number, and the law that says so returns true and leaves the listener and the table of sums as they were; the table reads as the program's text lays it, which the card ties.
-/
import Derived.Test.YtonikfajopdagaaDoorCards
import Derived.Test.YtonikfajopdagaaDoorTie
import Derived.Test.YtonikfajopdagaaDoorArgT
import Derived.Test.YtonikfajopdagaaDoorRtuHearL
import Derived.WalkKit
import Derived.ProofKit
import Derived.LaidMore
import Derived.OpenShut
import Derived.ShutString
import Derived.ChangeOld
import Derived.Below
import Derived.WalkSmall
import Derived.Stop.Joined
import Derived.Lib.LaidTab
namespace Go.Proofs.YtonikfajopdagaaDoor.fnExactRtuHear
open Go.ChangeShapes Go.WideShapes Go.ChangeAt Go.RowKit
set_option linter.unusedVariables false

theorem own : ownKnob Tryd.prog.godebug = none := by kernel_rfl
theorem laidOut : laidOutB Tryd.prog = true := by kernel_rfl

/-- The table's name, its cells, its datum. -/
def tabName : String := Rows.fnExactRtuHearSpec.vars.headD default
def tabI : List Int := [0, 52225, 55297, 5120, 61441, 15360, 10240, 58369, 40961, 27648, 30720, 46081, 20480, 39937, 34817, 17408]
def tabCells : Array Value := #[.int .i64 0, .int .i64 52225, .int .i64 55297, .int .i64 5120, .int .i64 61441, .int .i64 15360, .int .i64 10240, .int .i64 58369, .int .i64 40961, .int .i64 27648, .int .i64 30720, .int .i64 46081, .int .i64 20480, .int .i64 39937, .int .i64 34817, .int .i64 17408]
theorem gTab : Tryd.prog.globalNamed tabName = some 0 := by kernel_rfl
theorem tTab : (Tryd.prog.globals[0]?).map (·.type) = some 77 := by kernel_rfl
theorem cTab : Tryd.prog.cellsOf 77 = 16 := by kernel_rfl
theorem cInt : Tryd.prog.cellsOf 3 = 1 := by kernel_rfl
theorem reads_table {H : Type} (enc : TypeId × Value → H) (W : World) (sp : Nat → Bool) : DataW.trod enc Tryd.prog W 0 sp true 3 77 tabCells.toList = some (Lib.tabData .i64 tabI, []) := by kernel_rfl

theorem tab_is {W : World} (h : laidMetH Tryd.prog Rows.fnExactRtuHearRow.laid W) : Lib.TabIs Tryd.prog W tabName .i64 tabI := by
  rw [MakeChecks.laidMetH_plain _ _ _ (by kernel_rfl)] at h
  have h' : laidMet Tryd.prog ((tabName, Lib.tabData .i64 tabI) :: []) W := h
  exact Lib.tabIs_of_head gTab tTab Tryd.underlying77 Tryd.underlying3 cInt cTab h'

theorem tab_of {W : World} (h : laidMetH Tryd.prog Rows.fnExactRtuHearRow.laid W) : Tab W := by
  intro i hi
  have h1 := (tab_is h).cell gTab i (by simpa [tabI] using hi)
  rw [h1]
  have h2 : ∀ j : Fin 16, tabI.getD j.val 0 = ((tabN.getD j.val 0 : Nat) : Int) := by decide
  rw [h2 ⟨i, hi⟩]

/-- The door's own heap meets the condition. -/
theorem door_met (os : Os) (args : Array Value) : laidMetH Tryd.prog Rows.fnExactRtuHearRow.laid ((World.doorLaid Tryd.prog 400 os).forCall (fun _ _ => 0) ⟨#[], args, []⟩).memory :=
  laidMetH_of_parts3 (fuel := 8) (laidMet_of_run' 8 (by kernel_rfl) (by kernel_rfl)) (by kernel_rfl) (by kernel_rfl)


theorem walk (a0 : Option Addr) (l0 c0 : Nat) (ls0 : Int) (bd0 : Bool) (hf0 wh0 : Int) (z0 : List Int) (a1 : Int) (a2 : Int) (w : World) (w0 : InRtu w a0 l0 ls0 hf0 wh0 z0) (w1 : (Lit.int .u8 a1).wf = true) (w2 : (Lit.int .i64 a2).wf = true) (hh : 0 < w.heap.size) (hT : Tab w) :
    Calls Tryd.prog 7 #[.agg #[.slice a0 l0 c0, .int .i64 ls0, .bool bd0, .int .i64 hf0, .int .i64 wh0], .int .u8 a1, .int .i64 a2] w fun e w' => e = .returned (.bool true) ∧ Below w.heap.size w w' := by
  by_cases hbig : l0 ≤ 1048576
  · exact rtuHear_law a0 l0 c0 ls0 bd0 hf0 wh0 a2 a1 z0 w w0 hbig hh hT
  · obtain ⟨⟨_, hm, _⟩, _⟩ := w0
    clear hT
    go_enter Tryd.func7, Tryd.ntmps7
    go_wp2_with fail
    refine (szRtu_big a0 l0 c0 ls0 bd0 hf0 wh0 _ hm hbig).mono ?_
    rintro e w1 ⟨rfl, b1⟩
    have b2 := bel_next (bel_alloc w (.cells #[.slice a0 l0 c0, .int .i64 ls0, .bool bd0, .int .i64 hf0, .int .i64 wh0] 45)) b1
    clear b1 hm
    go_wp2
    go_ret
    exact ⟨rfl, b2⟩

set_option maxRecDepth 100000 in
theorem lifted (os : Os) (started : os.Started) (H : Type) (enc : TypeId × Value → H) :
    ReturnsInHanded {} Tryd.checked os 7 .any (fun w args => (Rows.fnExactRtuHearSpec.pre enc Tryd.prog Tryd.f7 [] false w args ∧ laidMetH Tryd.prog Rows.fnExactRtuHearRow.laid w) ∧ sizedMet enc Tryd.prog Tryd.f7 (OpenSpec.ofChange Rows.fnExactRtuHearSpec) false w args)
      (Rows.fnExactRtuHearSpec.post enc Tryd.prog Tryd.f7 false true false false) := by
  refine returnsInHanded_of_change_and (C := Tryd.checked) (X := fun w _ => laidMetH Tryd.prog Rows.fnExactRtuHearRow.laid w) (fun _ _ _ hh h => h.of_heap hh) own started (by kernel_rfl) Tryd.func7
    (ChangeSpec.witness_shaped (enc := enc) (C := Tryd.checked) (os := os) (X := fun w _ => laidMetH Tryd.prog Rows.fnExactRtuHearRow.laid w) false (World.doorLaid Tryd.prog 400 os) #[.agg #[.slice none 0 0, .int .i64 0, .bool false, .int .i64 0, .int .i64 0], .int .u8 0, .int .i64 0] 8 rfl (World.shaped_of_RefB (by kernel_rfl) (by kernel_rfl)) (by kernel_rfl) (by kernel_rfl) (by kernel_rfl) (door_met os _)) ?_
  intro W base args ds gs before hval0 hW _ _ hL _
  have hval : ∀ (j : Nat) t v, Tryd.f7.params[j]? = some t → args[j]? = some v → Value.okWide Tryd.prog W .any base t v := hval0
  have hW' := hW
  obtain ⟨p, q, hA0, hV0, rfl, hfz, hnd⟩ := hW
  have hA : DataW.TrodAll enc Tryd.prog W 0 (fun _ => true) true Tryd.f7.params.toList args.toList ds p := hA0
  have hV : DataW.TrodVars enc Tryd.prog W (fun _ => true) [tabName] gs q := hV0
  rw [Tryd.params7] at hA hval
  obtain ⟨v0, vs0, d0, ds0, p0, q0, hargs, rfl, rfl, h0, r0⟩ := trodAll_cons hA
  obtain ⟨v1, vs1, d1, ds1, p1, q1, rfl, rfl, rfl, h1, r1⟩ := trodAll_cons r0
  obtain ⟨v2, vs2, d2, ds2, p2, q2, rfl, rfl, rfl, h2, r2⟩ := trodAll_cons r1
  obtain ⟨rfl, rfl, rfl⟩ := trodAll_nil r2
  obtain rfl : args = #[v0, v1, v2] := by cases args; simp_all
  obtain ⟨gg, tt, cs, fuel, dd, p', rfl, hg, ht, hvar, hd, rfl⟩ := trodVars_one hV
  obtain rfl := Option.some.inj (gTab.symm.trans hg)
  obtain rfl := Option.some.inj (tTab.symm.trans ht)
  obtain rfl : cs = tabCells := Option.some.inj (hvar.symm.trans (tab_is hL))
  obtain ⟨rfl, rfl⟩ := DataW.Trod.unique (v := .agg tabCells) ⟨fuel, hd⟩ ⟨3, reads_table enc W _⟩
  have k0 := h0
  obtain ⟨a0, l0, c0, ls0, bd0, hf0, wh0, z0, rfl, w0⟩ := opened_rtu Tryd.underlying45 (by kernel_rfl) (by kernel_rfl) rfl rfl rfl rfl rfl Tryd.underlying3 Tryd.underlying22 Tryd.underlying5 Tryd.underlying4 (by kernel_rfl) (hval 0 45 v0 rfl rfl) h0
  have lt0 : ∀ x ∈ p0, x.block < W.heap.size := by obtain ⟨m, hm⟩ := k0; exact DataW.trod_lt m _ _ _ hm
  obtain ⟨a1, rfl, rfl, rfl, w1⟩ := open_int Tryd.underlying5 (hval 1 5 v1 rfl rfl) h1
  obtain ⟨a2, rfl, rfl, rfl, w2⟩ := open_int Tryd.underlying3 (hval 2 3 v2 rfl rfl) h2
  have hTab := tab_of hL
  have hh : 0 < W.heap.size := World.block_lt_of_cell? _ _ (hTab 0 (by decide))
  clear hA0 hV0 hval0
  refine (walk a0 l0 c0 ls0 bd0 hf0 wh0 z0 a1 a2 W w0 w1 w2 hh hTab).mono fun e W' ⟨he, bel⟩ => ?_
  subst he
  have hvars : DataW.TrodVars enc Tryd.prog W' (fun b => decide (b < W.heap.size)) [tabName] [Lib.tabData .i64 tabI] (MemPlace.row ⟨0, 0, none⟩ tabCells.size ++ [] ++ []) :=
    ⟨0, 77, tabCells, 3, [], [], gTab, tTab, var?_below bel gTab hh hvar, reads_table enc W' _, rfl, rfl⟩
  exact ⟨_, rfl, _, _, _, [], _, _, hW', trodAll_mk1 (shut_bool Tryd.underlying4 _), (trodAll_cons_mk (Below.trod laidOut (by kernel_rfl) (of_decide_eq_true (by kernel_rfl)) k0 bel lt0) (trodAll_cons_mk (shut_int Tryd.underlying5 w1) (trodAll_cons_mk (shut_int Tryd.underlying3 w2) trodAll_mk0))), hvars, bel.frame _, fun h => by cases h⟩

theorem over : Rows.fnExactRtuHearRow.holds Tryd.pinned (OpenSpec.ofChange Rows.fnExactRtuHearSpec) :=
  OpenClaim.holds_of_wide 7 Tryd.f7 rfl rfl rfl rfl rfl rfl rfl ⟨rfl, rfl, rfl, rfl, rfl⟩ rfl rfl rfl rfl rfl (by kernel_rfl) Tryd.func7 (by kernel_rfl)
    (of_decide_eq_true (by kernel_rfl)) (by unfold Func.isWrapper; first | (rw [if_pos (by decide +kernel)]; kernel_rfl) | (rw [if_neg (by decide +kernel)]; exact ⟨rfl, rfl⟩))
    (fun os started H enc _ => lifted os started H enc)

theorem card : Rows.FnExactRtuHearCardSaid :=
  Claim7.holds_tied_plain_at .later [] [.data] true Rows.fnExactRtuHearCard.stood.harness false
    over (fun _ h => by cases h) (by kernel_rfl) (fun _ h => by cases h) fnExactRtuHear_row_tie rfl ⟨rfl, rfl⟩ (by kernel_rfl) rfl
    (fun f fn hf hfn => by
      obtain rfl : f = 7 := Option.some.inj ((show Tryd.prog.funcNamed Rows.fnExactRtuHearRow.func = some 7 by kernel_rfl).symm.trans hf) |>.symm
      obtain rfl : fn = Tryd.f7 := (Option.some.inj (Tryd.func7.symm.trans hfn)).symm
      exact ⟨by kernel_rfl, fun j t ht => by
        rw [Tryd.params7] at ht
        have hm : t ∈ [45, 5, 3] := by simpa using Array.mem_of_getElem? ht
        have hall : ([45, 5, 3].all fun u => !Tryd.prog.wantsStandIn u) = true := by kernel_rfl
        exact (show Tryd.prog.wantsStandIn t = false by simpa using List.all_eq_true.1 hall t hm)⟩)
    (by kernel_rfl)
#print axioms card
end Go.Proofs.YtonikfajopdagaaDoor.fnExactRtuHear
namespace Go.Proofs.YtonikfajopdagaaDoor
theorem FnExactRtuHear_holds : Rows.FnExactRtuHearCardSaid := fnExactRtuHear.card
end Go.Proofs.YtonikfajopdagaaDoor
