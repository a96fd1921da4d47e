/-
The law of frames returns true at every slice of bytes, and leaves the slice and the table of sums as they were; the table reads as the program's text lays it, which the card ties.
-/
import Derived.Test.YtoofkikenfgbpaaDoorCards
import Derived.Test.YtoofkikenfgbpaaDoorTie
import Derived.Test.YtoofkikenfgbpaaDoorArgS
import Derived.Test.YtoofkikenfgbpaaDoorRtuLm
import Derived.WalkKit
import Derived.ProofKit
import Derived.LaidMore
import Derived.OpenShut
import Derived.ShutString
import Derived.ChangeOld
import Derived.Below
import Derived.WalkSmall
import Derived.Stop.Joined
import Derived.Lib.LaidTab
namespace Go.Proofs.YtoofkikenfgbpaaDoor.fnRtu
open Go.ChangeShapes Go.WideShapes Go.ChangeAt Go.RowKit
set_option linter.unusedVariables false

theorem own : ownKnob Tryd.prog.godebug = none := by kernel_rfl
theorem laidOut : laidOutB Tryd.prog = true := by kernel_rfl

/-- The table's name, its cells, its datum. -/
def tabName : String := Rows.fnRtuSpec.vars.headD default
def tabI : List Int := [0, 52225, 55297, 5120, 61441, 15360, 10240, 58369, 40961, 27648, 30720, 46081, 20480, 39937, 34817, 17408]
def tabCells : Array Value := #[.int .i64 0, .int .i64 52225, .int .i64 55297, .int .i64 5120, .int .i64 61441, .int .i64 15360, .int .i64 10240, .int .i64 58369, .int .i64 40961, .int .i64 27648, .int .i64 30720, .int .i64 46081, .int .i64 20480, .int .i64 39937, .int .i64 34817, .int .i64 17408]
theorem gTab : Tryd.prog.globalNamed tabName = some 0 := by kernel_rfl
theorem tTab : (Tryd.prog.globals[0]?).map (·.type) = some 89 := by kernel_rfl
theorem cTab : Tryd.prog.cellsOf 89 = 16 := by kernel_rfl
theorem cInt : Tryd.prog.cellsOf 3 = 1 := by kernel_rfl
theorem reads_table {H : Type} (enc : TypeId × Value → H) (W : World) (sp : Nat → Bool) : DataW.trod enc Tryd.prog W 0 sp true 3 89 tabCells.toList = some (Lib.tabData .i64 tabI, []) := by kernel_rfl

theorem tab_is {W : World} (h : laidMetH Tryd.prog Rows.fnRtuRow.laid W) : Lib.TabIs Tryd.prog W tabName .i64 tabI := by
  rw [MakeChecks.laidMetH_plain _ _ _ (by kernel_rfl)] at h
  have h' : laidMet Tryd.prog ((tabName, Lib.tabData .i64 tabI) :: []) W := h
  exact Lib.tabIs_of_head gTab tTab Tryd.underlying89 Tryd.underlying3 cInt cTab h'

theorem tab_of {W : World} (h : laidMetH Tryd.prog Rows.fnRtuRow.laid W) : Tab W := by
  intro i hi
  have h1 := (tab_is h).cell gTab i (by simpa [tabI] using hi)
  rw [h1]
  have h2 : ∀ j : Fin 16, tabI.getD j.val 0 = ((tabN.getD j.val 0 : Nat) : Int) := by decide
  rw [h2 ⟨i, hi⟩]

/-- The door's own heap meets the condition. -/
theorem door_met (os : Os) (args : Array Value) : laidMetH Tryd.prog Rows.fnRtuRow.laid ((World.doorLaid Tryd.prog 400 os).forCall (fun _ _ => 0) ⟨#[], args, []⟩).memory :=
  laidMetH_of_parts3 (fuel := 8) (laidMet_of_run' 8 (by kernel_rfl) (by kernel_rfl)) (by kernel_rfl) (by kernel_rfl)


set_option maxRecDepth 20000 in
theorem walk (a0 : Option Addr) (len0 cap0 : Nat) (z0 : List Int) (w : World) (w0 : InBys w a0 len0 z0) (hh : 0 < w.heap.size) (hT : Tab w) :
    Calls Tryd.prog 3 #[.slice a0 len0 cap0] w fun e w' => e = .returned (.bool true) ∧ Below w.heap.size w w' := by
  by_cases hbig : (1048576 : Int) < (len0 : Int)
  · clear w0
    go_enter Tryd.func3, Tryd.ntmps3
    go_wp2_with (go_at_call 5; go_in)
    go_ret
    exact ⟨rfl, Below.refl _ _⟩
  · obtain ⟨rfl, _, hs, hr⟩ := w0
    exact rtu_law a0 cap0 z0 w hs hr (by omega) hh hT

set_option maxRecDepth 100000 in
theorem lifted (os : Os) (started : os.Started) (H : Type) (enc : TypeId × Value → H) :
    ReturnsInHanded {} Tryd.checked os 3 .any (fun w args => (Rows.fnRtuSpec.pre enc Tryd.prog Tryd.f3 [] false w args ∧ laidMetH Tryd.prog Rows.fnRtuRow.laid w) ∧ sizedMet enc Tryd.prog Tryd.f3 (OpenSpec.ofChange Rows.fnRtuSpec) false w args)
      (Rows.fnRtuSpec.post enc Tryd.prog Tryd.f3 false true false false) := by
  refine returnsInHanded_of_change_and (C := Tryd.checked) (X := fun w _ => laidMetH Tryd.prog Rows.fnRtuRow.laid w) (fun _ _ _ hh h => h.of_heap hh) own started (by kernel_rfl) Tryd.func3
    (ChangeSpec.witness_shaped (enc := enc) (C := Tryd.checked) (os := os) (X := fun w _ => laidMetH Tryd.prog Rows.fnRtuRow.laid w) false (World.doorLaid Tryd.prog 400 os) #[.slice none 0 0] 8 rfl (World.shaped_of_RefB (by kernel_rfl) (by kernel_rfl)) (by kernel_rfl) (by kernel_rfl) (by kernel_rfl) (door_met os _)) ?_
  intro W base args ds gs before hval0 hW _ _ hL _
  have hval : ∀ (j : Nat) t v, Tryd.f3.params[j]? = some t → args[j]? = some v → Value.okWide Tryd.prog W .any base t v := hval0
  have hW' := hW
  obtain ⟨p, q, hA0, hV0, rfl, hfz, hnd⟩ := hW
  have hA : DataW.TrodAll enc Tryd.prog W 0 (fun _ => true) true Tryd.f3.params.toList args.toList ds p := hA0
  have hV : DataW.TrodVars enc Tryd.prog W (fun _ => true) [tabName] gs q := hV0
  rw [Tryd.params3] at hA hval
  obtain ⟨v0, vs0, d0, ds0, p0, q0, hargs, rfl, rfl, h0, r0⟩ := trodAll_cons hA
  obtain ⟨rfl, rfl, rfl⟩ := trodAll_nil r0
  obtain rfl : args = #[v0] := by cases args; simp_all
  obtain ⟨gg, tt, cs, fuel, dd, p', rfl, hg, ht, hvar, hd, rfl⟩ := trodVars_one hV
  obtain rfl := Option.some.inj (gTab.symm.trans hg)
  obtain rfl := Option.some.inj (tTab.symm.trans ht)
  obtain rfl : cs = tabCells := Option.some.inj (hvar.symm.trans (tab_is hL))
  obtain ⟨rfl, rfl⟩ := DataW.Trod.unique (v := .agg tabCells) ⟨fuel, hd⟩ ⟨3, reads_table enc W _⟩
  have k0 := h0
  obtain ⟨a0, len0, cap0, rfl⟩ := okWide_slice Tryd.underlying22 (hval 0 22 v0 rfl rfl)
  obtain ⟨z0, w0⟩ : ∃ zs, InBys W a0 len0 zs := by
    obtain ⟨fuel, hf⟩ := h0
    exact opened_bys Tryd.underlying22 Tryd.underlying5 (by kernel_rfl) (by simpa [Value.cells] using hf)
  have lt0 : ∀ x ∈ p0, x.block < W.heap.size := by obtain ⟨m, hm⟩ := k0; exact DataW.trod_lt m _ _ _ hm
  have hTab := tab_of hL
  have hh : 0 < W.heap.size := World.block_lt_of_cell? _ _ (hTab 0 (by decide))
  clear hA0 hV0 hval0
  refine (walk a0 len0 cap0 z0 W w0 hh hTab).mono fun e W' ⟨he, bel⟩ => ?_
  subst he
  have hvars : DataW.TrodVars enc Tryd.prog W' (fun b => decide (b < W.heap.size)) [tabName] [Lib.tabData .i64 tabI] (MemPlace.row ⟨0, 0, none⟩ tabCells.size ++ [] ++ []) :=
    ⟨0, 89, tabCells, 3, [], [], gTab, tTab, var?_below bel gTab hh hvar, reads_table enc W' _, rfl, rfl⟩
  exact ⟨_, rfl, _, _, _, [], _, _, hW', trodAll_mk1 (shut_bool Tryd.underlying4 _), (trodAll_cons_mk (Below.trod laidOut (by kernel_rfl) (of_decide_eq_true (by kernel_rfl)) k0 bel lt0) trodAll_mk0), hvars, bel.frame _, fun h => by cases h⟩

theorem over : Rows.fnRtuRow.holds Tryd.pinned (OpenSpec.ofChange Rows.fnRtuSpec) :=
  OpenClaim.holds_of_wide 3 Tryd.f3 rfl rfl rfl rfl rfl rfl rfl ⟨rfl, rfl, rfl, rfl, rfl⟩ rfl rfl rfl rfl rfl (by kernel_rfl) Tryd.func3 (by kernel_rfl)
    (of_decide_eq_true (by kernel_rfl)) (by unfold Func.isWrapper; first | (rw [if_pos (by decide +kernel)]; kernel_rfl) | (rw [if_neg (by decide +kernel)]; exact ⟨rfl, rfl⟩))
    (fun os started H enc _ => lifted os started H enc)

theorem card : Rows.FnRtuCardSaid :=
  Claim7.holds_tied_plain_at .later [] [.data] true Rows.fnRtuCard.stood.harness true
    over (fun _ h => by cases h) (by kernel_rfl) (fun _ h => by cases h) fnRtu_row_tie rfl ⟨rfl, rfl⟩ (by kernel_rfl) rfl
    (fun f fn hf hfn => by
      obtain rfl : f = 3 := Option.some.inj ((show Tryd.prog.funcNamed Rows.fnRtuRow.func = some 3 by kernel_rfl).symm.trans hf) |>.symm
      obtain rfl : fn = Tryd.f3 := (Option.some.inj (Tryd.func3.symm.trans hfn)).symm
      exact ⟨by kernel_rfl, fun j t ht => by
        rw [Tryd.params3] at ht
        have hm : t ∈ [22] := by simpa using Array.mem_of_getElem? ht
        have hall : ([22].all fun u => !Tryd.prog.wantsStandIn u) = true := by kernel_rfl
        exact (show Tryd.prog.wantsStandIn t = false by simpa using List.all_eq_true.1 hall t hm)⟩)
    (by kernel_rfl)
#print axioms card
end Go.Proofs.YtoofkikenfgbpaaDoor.fnRtu
namespace Go.Proofs.YtoofkikenfgbpaaDoor
theorem FnRtu_holds : Rows.FnRtuCardSaid := fnRtu.card
end Go.Proofs.YtoofkikenfgbpaaDoor
