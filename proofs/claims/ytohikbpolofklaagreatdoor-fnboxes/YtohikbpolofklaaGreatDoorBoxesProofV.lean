/-
The law of boxes returns true at every slice of bytes by which it draws, where the two errors are laid as the program lays them, and leaves the slice as it was.
-/
import Derived.Test.YtohikbpolofklaaGreatDoorCards
import Derived.Test.YtohikbpolofklaaGreatDoorTie
import Derived.Test.YtohikbpolofklaaGreatDoorV1
import Derived.Test.YtohikbpolofklaaGreatDoorV20
import Derived.WalkKit
import Derived.ProofKit
import Derived.LaidMore
import Derived.OpenShut
import Derived.ShutString
import Derived.ChangeOld
import Derived.Below
import Derived.WalkSmall
import Derived.Stop.Joined
import Derived.LaidLaws
import Derived.LaidHandle
import Derived.Stop.LaidTwo
import Derived.SevenTiedAt
import Derived.RowKitTokens
import Derived.ChangeVars
import Derived.ChangeSame
import Derived.JoinedOf
namespace Go.Proofs.YtohikbpolofklaaGreatDoor.fnBoxes
open Go.ChangeShapes Go.WideShapes Go.ChangeAt Go.RowKit
set_option linter.unusedVariables false

theorem own : ownKnob Tryz.prog.godebug = none := by kernel_rfl
theorem laidOut : laidOutB Tryz.prog = true := by kernel_rfl

theorem gN : Tryz.prog.globalNamed "loop.example/g00129/impl.errNoKind" = some 0 := by kernel_rfl
theorem gF : Tryz.prog.globalNamed "loop.example/g00129/impl.errNoForm" = some 1 := by kernel_rfl
theorem gNT : (Tryz.prog.globals[0]?).map (·.type) = some 47 := by kernel_rfl
theorem gFT : (Tryz.prog.globals[1]?).map (·.type) = some 47 := by kernel_rfl
theorem cellsS : Tryz.prog.cellsOf 168 = 1 := by kernel_rfl
theorem cells9 : Tryz.prog.cellsOf 9 = 1 := by kernel_rfl
theorem star : "*" ++ "errors.errorString" = "*errors.errorString" := by decide
theorem rowE (u : TypeId) (h : Tryz.prog.typeName? 3 u = some "*errors.errorString") : u = 142 :=
  typeName_ptr_named (nm := "errors.errorString") (by rw [star]; kernel_rfl) (by kernel_rfl) (by decide) u (by rw [star]; exact h)

theorem var_below {W W' : World} {n : String} {cs : Array Value} (h : W.var? Tryz.prog n = some cs) (hb : Below W.heap.size W W') : W'.var? Tryz.prog n = some cs := by
  unfold World.var? at h ⊢
  cases hg : Tryz.prog.globalNamed n with
  | none => simp [hg] at h
  | some g =>
    simp only [hg, Option.bind_some] at h ⊢
    have hlt : g < W.heap.size := by
      rcases Nat.lt_or_ge g W.heap.size with h' | h'
      · exact h'
      · simp [Array.getElem?_eq_none h'] at h
    rw [hb.block g hlt]
    exact h

/-- What the condition gives a walk: the two variables, and that they are two. -/
theorem sent_is {W : World} (h : laidMetH Tryz.prog Rows.fnBoxesRow.laid W) : ∃ a0 a1, EnB a0 a1 W ∧ W.var? Tryz.prog "loop.example/g00129/impl.errNoKind" = some #[.iface 142 (.pointer (some a0))] ∧ W.var? Tryz.prog "loop.example/g00129/impl.errNoForm" = some #[.iface 142 (.pointer (some a1))] := by
  rw [MakeChecks.laidMetH_plain _ _ _ (by kernel_rfl)] at h
  obtain ⟨a0, a1, s0, s1, c0, c1, t0, t1, hv0, hv1, hc0, hs0, hz0, hc1, hs1, hz1, hne, hb0, hb1⟩ := laid_sentinels2 h gN gNT gF gFT Tryz.underlying47 rowE Tryz.underlying142 Tryz.underlying168 rfl rfl Tryz.underlying9 cellsS cells9
  exact ⟨a0, a1, ⟨⟨by simpa using World.var?_cell gN hv0 0, by simpa using World.var?_cell gF hv1 0⟩, hne, ⟨_, _, hb0⟩, ⟨_, _, hb1⟩⟩, hv0, hv1⟩

abbrev sN : ByteArray := { data := #[110, 111, 32, 107, 105, 110, 100, 32, 111, 102, 32, 113, 117, 101, 115, 116, 105, 111, 110] }
abbrev sF : ByteArray := { data := #[110, 111, 116, 32, 105, 110, 32, 116, 104, 101, 32, 102, 111, 114, 109, 32, 111, 102, 32, 105, 116, 115, 32, 107, 105, 110, 100] }
noncomputable def base9 : Nat := (World.holding Tryz.prog default ⟨#[], #[], []⟩).heap.size
noncomputable def layS (os : Os) : World :=
  let w0 := World.holding Tryz.prog os ⟨#[.cells #[.string sN] 168, .cells #[.string sF] 168], #[], []⟩
  { w0 with heap := (w0.heap.modify 0 fun
      | .cells _ t frozen => .cells #[.iface 142 (.pointer (some ⟨base9, 0, none⟩))] t frozen
      | o => o).modify 1 fun
      | .cells _ t frozen => .cells #[.iface 142 (.pointer (some ⟨base9 + 1, 0, none⟩))] t frozen
      | o => o }

theorem met (os : Os) (args : Array Value) : laidMetH Tryz.prog Rows.fnBoxesRow.laid ((layS os).forCall (fun _ _ => 0) ⟨#[], args, []⟩).memory :=
  laidMetH_of_parts (laidMet_of_run (ps := [.cell 0 0, .cell base9 0, .cell 1 0, .cell (base9 + 1) 0]) 8 (by kernel_rfl) (by kernel_rfl) (by kernel_rfl)) (by kernel_rfl)


theorem walk (a0 : Option Addr) (len0 cap0 : Nat) (z0 : List Int) (w : World) (w0 : InBys w a0 len0 z0) (a0_ a1_ : Addr) (hE : EnB a0_ a1_ w) :
    Calls Tryz.prog 3 #[.slice a0 len0 cap0] w fun e w' => e = .returned (.bool true) ∧ Below w.heap.size w w' := by
  obtain ⟨rfl, _, hs, hr⟩ := w0
  by_cases hbig : (1048576 : Int) < (z0.length : Int)
  · clear hs hr
    go_enter Tryz.func3, Tryz.ntmps3
    go_wp2_with (first | (go_at_call 4; go_in) | fail)
    go_ret
    exact ⟨rfl, Below.refl _ _⟩
  · exact boxes_law a0_ a1_ a0 z0.length cap0 z0 w hE rfl hs hr (by omega)

set_option maxRecDepth 100000 in
theorem lifted (os : Os) (started : os.Started) (H : Type) (enc : TypeId × Value → H) :
    ReturnsInHanded {} Tryz.checked os 3 .any (fun w args => (Rows.fnBoxesSpec.pre enc Tryz.prog Tryz.f3 [] false w args ∧ laidMetH Tryz.prog Rows.fnBoxesRow.laid w) ∧ sizedMet enc Tryz.prog Tryz.f3 (OpenSpec.ofChange Rows.fnBoxesSpec) false w args)
      (Rows.fnBoxesSpec.post enc Tryz.prog Tryz.f3 false true false false) := by
  refine returnsInHanded_of_change_and (C := Tryz.checked) (X := fun w _ => laidMetH Tryz.prog Rows.fnBoxesRow.laid w) (fun _ _ _ hh h => h.of_heap hh) own started (by kernel_rfl) Tryz.func3
    (ChangeSpec.witness_at (enc := enc) (C := Tryz.checked) (os := os) (X := fun w _ => laidMetH Tryz.prog Rows.fnBoxesRow.laid w) false (layS os) #[.slice none 0 0] 8 rfl (by kernel_rfl) (by kernel_rfl) (by kernel_rfl) (by kernel_rfl) (by kernel_rfl) (met os _)) ?_
  intro W base args ds gs before hval0 hW _ _ hL _
  have hval : ∀ (j : Nat) t v, Tryz.f3.params[j]? = some t → args[j]? = some v → Value.okWide Tryz.prog W .any base t v := hval0
  have hW' := hW
  obtain ⟨p, q, hA0, hV0, rfl, hfz, hnd⟩ := hW
  have hA : DataW.TrodAll enc Tryz.prog W 0 (fun _ => true) true Tryz.f3.params.toList args.toList ds p := hA0
  have hV : DataW.TrodVars enc Tryz.prog W (fun _ => true) ["loop.example/g00129/impl.errNoKind", "loop.example/g00129/impl.errNoForm"] gs q := hV0
  rw [Tryz.params3] at hA hval
  obtain ⟨v0, vs0, d0, ds0, p0, q0, hargs, rfl, rfl, h0, r0⟩ := trodAll_cons hA
  obtain ⟨rfl, rfl, rfl⟩ := trodAll_nil r0
  obtain rfl : args = #[v0] := by cases args; simp_all
  obtain ⟨a0_, a1_, hEn, hv0, hv1⟩ := sent_is hL
  have vr : ∀ {X : World}, X.var? Tryz.prog "loop.example/g00129/impl.errNoKind" = some #[.iface 142 (.pointer (some a0_))] → X.var? Tryz.prog "loop.example/g00129/impl.errNoForm" = some #[.iface 142 (.pointer (some a1_))] → ∀ sp : Nat → Bool,
      DataW.TrodVars enc Tryz.prog X sp ["loop.example/g00129/impl.errNoKind", "loop.example/g00129/impl.errNoForm"] [tok enc (.iface 142 (.pointer (some a0_))), tok enc (.iface 142 (.pointer (some a1_)))] [.cell 0 0, .cell 1 0] :=
    fun x0 x1 sp => vars_read2 enc gN gNT Tryz.underlying47 x0 trivial gF gFT Tryz.underlying47 x1 trivial sp
  obtain ⟨rfl, rfl⟩ := hV.unique (vr hv0 hv1 _)
  have k0 := h0
  obtain ⟨a0, len0, cap0, rfl⟩ := okWide_slice Tryz.underlying22 (hval 0 22 v0 rfl rfl)
  obtain ⟨z0, w0⟩ : ∃ zs, InBys W a0 len0 zs := by
    obtain ⟨fuel, hf⟩ := h0
    exact opened_bys Tryz.underlying22 Tryz.underlying5 (by kernel_rfl) (by simpa [Value.cells] using hf)
  have lt0 : ∀ x ∈ p0, x.block < W.heap.size := by obtain ⟨m, hm⟩ := k0; exact DataW.trod_lt m _ _ _ hm
  clear hA0 hV0 hval0
  refine (walk a0 len0 cap0 z0 W w0 a0_ a1_ hEn).mono fun e W' ⟨he, bel⟩ => ?_
  subst he
  exact ⟨_, rfl, _, _, _, [], _, [.cell 0 0, .cell 1 0], hW', trodAll_mk1 (shut_bool Tryz.underlying4 _), (trodAll_cons_mk (Below.trod laidOut (by kernel_rfl) (of_decide_eq_true (by kernel_rfl)) k0 bel lt0) trodAll_mk0), vr (var_below hv0 bel) (var_below hv1 bel) _, bel.frame _, fun h => by cases h⟩

theorem over : Rows.fnBoxesRow.holds Tryz.pinned (OpenSpec.ofChange Rows.fnBoxesSpec) :=
  OpenClaim.holds_of_wide 3 Tryz.f3 rfl rfl rfl rfl rfl rfl rfl ⟨rfl, rfl, rfl, rfl, rfl⟩ rfl rfl rfl rfl rfl (by kernel_rfl) Tryz.func3 (by kernel_rfl)
    (of_decide_eq_true (by kernel_rfl)) (by unfold Func.isWrapper; first | (rw [if_pos (by decide +kernel)]; kernel_rfl) | (rw [if_neg (by decide +kernel)]; exact ⟨rfl, rfl⟩))
    (fun os started H enc _ => lifted os started H enc)

theorem card : Rows.FnBoxesCardSaid :=
  Claim7.holds_tied_plain_at .later [] [.sentinel, .sentinel] true Rows.fnBoxesCard.stood.harness true
    over (fun _ h => by cases h) (by kernel_rfl) (fun _ h => by cases h) fnBoxes_row_tie rfl ⟨rfl, rfl⟩ (by kernel_rfl) rfl
    (fun f fn hf hfn => by
      obtain rfl : f = 3 := Option.some.inj ((show Tryz.prog.funcNamed Rows.fnBoxesRow.func = some 3 by kernel_rfl).symm.trans hf) |>.symm
      obtain rfl : fn = Tryz.f3 := (Option.some.inj (Tryz.func3.symm.trans hfn)).symm
      exact ⟨by kernel_rfl, fun j t ht => by
        rw [Tryz.params3] at ht
        have hm : t ∈ [22] := by simpa using Array.mem_of_getElem? ht
        have hall : ([22].all fun u => !Tryz.prog.wantsStandIn u) = true := by kernel_rfl
        exact (show Tryz.prog.wantsStandIn t = false by simpa using List.all_eq_true.1 hall t hm)⟩)
    (by kernel_rfl)
#print axioms card
end Go.Proofs.YtohikbpolofklaaGreatDoor.fnBoxes
namespace Go.Proofs.YtohikbpolofklaaGreatDoor
theorem FnBoxes_holds : Rows.FnBoxesCardSaid := fnBoxes.card
end Go.Proofs.YtohikbpolofklaaGreatDoor
