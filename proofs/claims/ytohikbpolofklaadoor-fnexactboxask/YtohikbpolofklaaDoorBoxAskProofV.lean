/-
BoxAsk answers as its model at every box, where the two errors are laid as the program lays them, and the law that says so returns true and leaves the box as it was.
-/
import Derived.Test.YtohikbpolofklaaDoorCards
import Derived.Test.YtohikbpolofklaaDoorTie
import Derived.Test.YtohikbpolofklaaDoorV1
import Derived.Test.YtohikbpolofklaaDoorV10
import Derived.WalkKit
import Derived.ProofKit
import Derived.LaidMore
import Derived.OpenShut
import Derived.ShutString
import Derived.ChangeOld
import Derived.Below
import Derived.WalkSmall
import Derived.Stop.Joined
import Derived.LaidLaws
import Derived.LaidHandle
import Derived.Stop.LaidTwo
import Derived.SevenTiedAt
import Derived.RowKitTokens
import Derived.ChangeVars
import Derived.ChangeSame
import Derived.JoinedOf
namespace Go.Proofs.YtohikbpolofklaaDoor.fnExactBoxAsk
open Go.ChangeShapes Go.WideShapes Go.ChangeAt Go.RowKit
set_option linter.unusedVariables false

theorem own : ownKnob Tryd.prog.godebug = none := by kernel_rfl
theorem laidOut : laidOutB Tryd.prog = true := by kernel_rfl

theorem gN : Tryd.prog.globalNamed "loop.example/g00129/impl.errNoKind" = some 0 := by kernel_rfl
theorem gF : Tryd.prog.globalNamed "loop.example/g00129/impl.errNoForm" = some 1 := by kernel_rfl
theorem gNT : (Tryd.prog.globals[0]?).map (·.type) = some 45 := by kernel_rfl
theorem gFT : (Tryd.prog.globals[1]?).map (·.type) = some 45 := by kernel_rfl
theorem cellsS : Tryd.prog.cellsOf 147 = 1 := by kernel_rfl
theorem cells9 : Tryd.prog.cellsOf 9 = 1 := by kernel_rfl
theorem star : "*" ++ "errors.errorString" = "*errors.errorString" := by decide
theorem rowE (u : TypeId) (h : Tryd.prog.typeName? 3 u = some "*errors.errorString") : u = 121 :=
  typeName_ptr_named (nm := "errors.errorString") (by rw [star]; kernel_rfl) (by kernel_rfl) (by decide) u (by rw [star]; exact h)

theorem var_below {W W' : World} {n : String} {cs : Array Value} (h : W.var? Tryd.prog n = some cs) (hb : Below W.heap.size W W') : W'.var? Tryd.prog n = some cs := by
  unfold World.var? at h ⊢
  cases hg : Tryd.prog.globalNamed n with
  | none => simp [hg] at h
  | some g =>
    simp only [hg, Option.bind_some] at h ⊢
    have hlt : g < W.heap.size := by
      rcases Nat.lt_or_ge g W.heap.size with h' | h'
      · exact h'
      · simp [Array.getElem?_eq_none h'] at h
    rw [hb.block g hlt]
    exact h

/-- What the condition gives a walk: the two variables, and that they are two. -/
theorem sent_is {W : World} (h : laidMetH Tryd.prog Rows.fnExactBoxAskRow.laid W) : ∃ a0 a1, EnB a0 a1 W ∧ W.var? Tryd.prog "loop.example/g00129/impl.errNoKind" = some #[.iface 121 (.pointer (some a0))] ∧ W.var? Tryd.prog "loop.example/g00129/impl.errNoForm" = some #[.iface 121 (.pointer (some a1))] := by
  rw [MakeChecks.laidMetH_plain _ _ _ (by kernel_rfl)] at h
  obtain ⟨a0, a1, s0, s1, c0, c1, t0, t1, hv0, hv1, hc0, hs0, hz0, hc1, hs1, hz1, hne, hb0, hb1⟩ := laid_sentinels2 h gN gNT gF gFT Tryd.underlying45 rowE Tryd.underlying121 Tryd.underlying147 rfl rfl Tryd.underlying9 cellsS cells9
  exact ⟨a0, a1, ⟨⟨by simpa using World.var?_cell gN hv0 0, by simpa using World.var?_cell gF hv1 0⟩, hne, ⟨_, _, hb0⟩, ⟨_, _, hb1⟩⟩, hv0, hv1⟩

abbrev sN : ByteArray := { data := #[110, 111, 32, 107, 105, 110, 100, 32, 111, 102, 32, 113, 117, 101, 115, 116, 105, 111, 110] }
abbrev sF : ByteArray := { data := #[110, 111, 116, 32, 105, 110, 32, 116, 104, 101, 32, 102, 111, 114, 109, 32, 111, 102, 32, 105, 116, 115, 32, 107, 105, 110, 100] }
noncomputable def base9 : Nat := (World.holding Tryd.prog default ⟨#[], #[], []⟩).heap.size
noncomputable def layS (os : Os) : World :=
  let w0 := World.holding Tryd.prog os ⟨#[.cells #[.string sN] 147, .cells #[.string sF] 147], #[], []⟩
  { w0 with heap := (w0.heap.modify 0 fun
      | .cells _ t frozen => .cells #[.iface 121 (.pointer (some ⟨base9, 0, none⟩))] t frozen
      | o => o).modify 1 fun
      | .cells _ t frozen => .cells #[.iface 121 (.pointer (some ⟨base9 + 1, 0, none⟩))] t frozen
      | o => o }

theorem met (os : Os) (args : Array Value) : laidMetH Tryd.prog Rows.fnExactBoxAskRow.laid ((layS os).forCall (fun _ _ => 0) ⟨#[], args, []⟩).memory :=
  laidMetH_of_parts (laidMet_of_run (ps := [.cell 0 0, .cell base9 0, .cell 1 0, .cell (base9 + 1) 0]) 8 (by kernel_rfl) (by kernel_rfl) (by kernel_rfl)) (by kernel_rfl)


theorem walk (nm0 un0 : Int) (a0 : Option Addr) (l0 c0 : Nat) (z0 : List Int) (w : World) (w0 : InBox w nm0 un0 a0 l0 z0) (a0_ a1_ : Addr) (hE : EnB a0_ a1_ w) :
    Calls Tryd.prog 3 #[.agg #[.int .i64 nm0, .int .i64 un0, .slice a0 l0 c0]] w fun e w' => e = .returned (.bool true) ∧ Below w.heap.size w w' := by
  by_cases hbig : l0 ≤ 1048576
  · exact boxAsk_law nm0 un0 a0 l0 c0 z0 a0_ a1_ w hE w0 hbig
  · obtain ⟨⟨_, hm0, _⟩, _⟩ := w0
    exact boxAsk_over nm0 un0 a0 l0 c0 w hm0 hbig

set_option maxRecDepth 100000 in
theorem lifted (os : Os) (started : os.Started) (H : Type) (enc : TypeId × Value → H) :
    ReturnsInHanded {} Tryd.checked os 3 .any (fun w args => (Rows.fnExactBoxAskSpec.pre enc Tryd.prog Tryd.f3 [] false w args ∧ laidMetH Tryd.prog Rows.fnExactBoxAskRow.laid w) ∧ sizedMet enc Tryd.prog Tryd.f3 (OpenSpec.ofChange Rows.fnExactBoxAskSpec) false w args)
      (Rows.fnExactBoxAskSpec.post enc Tryd.prog Tryd.f3 false true false false) := by
  refine returnsInHanded_of_change_and (C := Tryd.checked) (X := fun w _ => laidMetH Tryd.prog Rows.fnExactBoxAskRow.laid w) (fun _ _ _ hh h => h.of_heap hh) own started (by kernel_rfl) Tryd.func3
    (ChangeSpec.witness_at (enc := enc) (C := Tryd.checked) (os := os) (X := fun w _ => laidMetH Tryd.prog Rows.fnExactBoxAskRow.laid w) false (layS os) #[.agg #[.int .i64 0, .int .i64 0, .slice none 0 0]] 8 rfl (by kernel_rfl) (by kernel_rfl) (by kernel_rfl) (by kernel_rfl) (by kernel_rfl) (met os _)) ?_
  intro W base args ds gs before hval0 hW _ _ hL _
  have hval : ∀ (j : Nat) t v, Tryd.f3.params[j]? = some t → args[j]? = some v → Value.okWide Tryd.prog W .any base t v := hval0
  have hW' := hW
  obtain ⟨p, q, hA0, hV0, rfl, hfz, hnd⟩ := hW
  have hA : DataW.TrodAll enc Tryd.prog W 0 (fun _ => true) true Tryd.f3.params.toList args.toList ds p := hA0
  have hV : DataW.TrodVars enc Tryd.prog W (fun _ => true) ["loop.example/g00129/impl.errNoKind", "loop.example/g00129/impl.errNoForm"] gs q := hV0
  rw [Tryd.params3] at hA hval
  obtain ⟨v0, vs0, d0, ds0, p0, q0, hargs, rfl, rfl, h0, r0⟩ := trodAll_cons hA
  obtain ⟨rfl, rfl, rfl⟩ := trodAll_nil r0
  obtain rfl : args = #[v0] := by cases args; simp_all
  obtain ⟨a0_, a1_, hEn, hv0, hv1⟩ := sent_is hL
  have vr : ∀ {X : World}, X.var? Tryd.prog "loop.example/g00129/impl.errNoKind" = some #[.iface 121 (.pointer (some a0_))] → X.var? Tryd.prog "loop.example/g00129/impl.errNoForm" = some #[.iface 121 (.pointer (some a1_))] → ∀ sp : Nat → Bool,
      DataW.TrodVars enc Tryd.prog X sp ["loop.example/g00129/impl.errNoKind", "loop.example/g00129/impl.errNoForm"] [tok enc (.iface 121 (.pointer (some a0_))), tok enc (.iface 121 (.pointer (some a1_)))] [.cell 0 0, .cell 1 0] :=
    fun x0 x1 sp => vars_read2 enc gN gNT Tryd.underlying45 x0 trivial gF gFT Tryd.underlying45 x1 trivial sp
  obtain ⟨rfl, rfl⟩ := hV.unique (vr hv0 hv1 _)
  have k0 := h0
  obtain ⟨nm0, un0, a0, l0, c0, z0, rfl, w0⟩ := opened_box Tryd.underlying24 (by kernel_rfl) (by kernel_rfl) rfl rfl rfl Tryd.underlying3 Tryd.underlying22 Tryd.underlying5 (by kernel_rfl) (hval 0 24 v0 rfl rfl) h0
  have lt0 : ∀ x ∈ p0, x.block < W.heap.size := by obtain ⟨m, hm⟩ := k0; exact DataW.trod_lt m _ _ _ hm
  clear hA0 hV0 hval0
  refine (walk nm0 un0 a0 l0 c0 z0 W w0 a0_ a1_ hEn).mono fun e W' ⟨he, bel⟩ => ?_
  subst he
  exact ⟨_, rfl, _, _, _, [], _, [.cell 0 0, .cell 1 0], hW', trodAll_mk1 (shut_bool Tryd.underlying4 _), (trodAll_cons_mk (Below.trod laidOut (by kernel_rfl) (of_decide_eq_true (by kernel_rfl)) k0 bel lt0) trodAll_mk0), vr (var_below hv0 bel) (var_below hv1 bel) _, bel.frame _, fun h => by cases h⟩

theorem over : Rows.fnExactBoxAskRow.holds Tryd.pinned (OpenSpec.ofChange Rows.fnExactBoxAskSpec) :=
  OpenClaim.holds_of_wide 3 Tryd.f3 rfl rfl rfl rfl rfl rfl rfl ⟨rfl, rfl, rfl, rfl, rfl⟩ rfl rfl rfl rfl rfl (by kernel_rfl) Tryd.func3 (by kernel_rfl)
    (of_decide_eq_true (by kernel_rfl)) (by unfold Func.isWrapper; first | (rw [if_pos (by decide +kernel)]; kernel_rfl) | (rw [if_neg (by decide +kernel)]; exact ⟨rfl, rfl⟩))
    (fun os started H enc _ => lifted os started H enc)

theorem card : Rows.FnExactBoxAskCardSaid :=
  Claim7.holds_tied_plain_at .later [] [.sentinel, .sentinel] true Rows.fnExactBoxAskCard.stood.harness true
    over (fun _ h => by cases h) (by kernel_rfl) (fun _ h => by cases h) fnExactBoxAsk_row_tie rfl ⟨rfl, rfl⟩ (by kernel_rfl) rfl
    (fun f fn hf hfn => by
      obtain rfl : f = 3 := Option.some.inj ((show Tryd.prog.funcNamed Rows.fnExactBoxAskRow.func = some 3 by kernel_rfl).symm.trans hf) |>.symm
      obtain rfl : fn = Tryd.f3 := (Option.some.inj (Tryd.func3.symm.trans hfn)).symm
      exact ⟨by kernel_rfl, fun j t ht => by
        rw [Tryd.params3] at ht
        have hm : t ∈ [24] := by simpa using Array.mem_of_getElem? ht
        have hall : ([24].all fun u => !Tryd.prog.wantsStandIn u) = true := by kernel_rfl
        exact (show Tryd.prog.wantsStandIn t = false by simpa using List.all_eq_true.1 hall t hm)⟩)
    (by kernel_rfl)
#print axioms card
end Go.Proofs.YtohikbpolofklaaDoor.fnExactBoxAsk
namespace Go.Proofs.YtohikbpolofklaaDoor
theorem FnExactBoxAsk_holds : Rows.FnExactBoxAskCardSaid := fnExactBoxAsk.card
end Go.Proofs.YtohikbpolofklaaDoor
