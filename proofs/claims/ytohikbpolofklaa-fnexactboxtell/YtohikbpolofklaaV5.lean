/- Texts that the proof needs, joined: RgY RgL RgM RgB RgE Box StR Cpy El0 Cl1 Cl2 Mid Mid2 Tr0 RgZ Bx2. -/
import Derived.Test.YtohikbpolofklaaV4
import Derived.Test.YtohikbpolofklaaV1
import Derived.Lib.SmallJoins
import Derived.Laws.MakeOwn
import Derived.WideMake
import Derived.Carry
import Derived.Laws.CopyOwn
import Derived.Deep.RegionHeld3
import Derived.Deep.MidRow
import Derived.Test.YtohikbpolofklaaV2
import Derived.Test.YtohikbpolofklaaV3
namespace Go.Proofs.Ytohikbpolofklaa
open Go.RowKit
def updS (σ : Nat → Value) (od : Option Nat) (v : Value) : Nat → Value := match od with
  | some d => fun s => if s = d then v else σ s
  | none => σ
def StpY (P : Program) (ops : Array Oper) (Φ : Nat → Value → World → Prop) (R : Value → World → Prop) (M : World → World → Prop) (i : Nat) (o : Oper) (ρ : Operand → Value) (u : World) : Prop :=
  (wantV ops o ρ = true ∧ ((∃ v u', (execOp ρ o).run P u = .ok (.value v) u' ∧ Φ i v u' ∧ R v u' ∧ M u u') ∨ (∃ f args, (execOp ρ o).run P u = .ok (.enter f args) u ∧ Calls P f args u fun e u' => ∃ v, e = .returned v ∧ Φ i v u' ∧ R v u' ∧ M u u') ∨ (o.dst = none ∧ ∃ u', (execOp ρ o).run P u = .ok .skip u' ∧ R undef u' ∧ M u u')))
  ∨ (wantV ops o ρ = false ∧ Φ i undef u ∧ R undef u)
structure InvY (md : Region.Mode) (ops : Array Oper) (Φ : Nat → Value → World → Prop) (R : (Nat → Bool) → (Nat → Value) → World → Prop) (a0 : Act) (l : Array Bool) (a : Act) (u : World) : Prop where
  r : R (fun i => l.getD i false) (fun s => a.tmps.getD s undef) u
  ls : l.size = ops.size
  df : a.defers = a0.defers
  sz : a.tmps.size = a0.tmps.size
  old : ∀ s, (∀ i d, dstOf ops i = some d → l.getD i false = true → d ≠ s) → a.tmps.getD s undef = a0.tmps.getD s undef
  val : ∀ i d, dstOf ops i = some d → l.getD i false = true → Φ i (a.tmps.getD d undef) u
  cl : ∀ i o, ops[i]? = some o → l.getD i false = true → ∀ e ∈ o.after, Region.binds md e = true → l.getD e.on false = true
theorem InvY.next {md : Region.Mode} {ops : Array Oper} {Φ : Nat → Value → World → Prop} {R : (Nat → Bool) → (Nat → Value) → World → Prop} {M : World → World → Prop} {a0 : Act} {l : Array Bool} {a : Act} {u u' : World} (h : InvY md ops Φ R a0 l a u) (hB : dstC ops a0.tmps.size = true)
    (hmono : ∀ i v u u', Φ i v u → M u u' → Φ i v u') {i : Nat} {o : Oper} (ho : ops[i]? = some o) (hdep : ∀ e ∈ o.after, Region.binds md e = true → l.getD e.on false = true) {v : Value} (hv : ∀ d, o.dst = some d → Φ i v u') (hr : R (updB (fun j => l.getD j false) i) (updS (fun s => a.tmps.getD s undef) o.dst v) u') (hb : M u u') :
    InvY md ops Φ R a0 (l.setIfInBounds i true) (a.put o.dst v) u' := by
  have hi : i < ops.size := (Array.getElem?_eq_some_iff.1 ho).1
  have hil : i < l.size := by rw [h.ls]; exact hi
  have hcl : ∀ j oj, ops[j]? = some oj → (l.setIfInBounds i true).getD j false = true → ∀ e ∈ oj.after, Region.binds md e = true → (l.setIfInBounds i true).getD e.on false = true := by
    intro j oj hoj hlj e he hbd
    rw [getD_set hil]
    split
    · rfl
    · rw [getD_set hil] at hlj
      by_cases e1 : j = i
      · subst e1
        rw [ho] at hoj
        cases hoj
        exact hdep e he hbd
      · rw [if_neg e1] at hlj
        exact h.cl j oj hoj hlj e he hbd
  rw [← getD_upd hil] at hr
  cases hod : o.dst with
  | none =>
    have hd : dstOf ops i = none := by simp [dstOf, ho, hod]
    rw [hod] at hr
    refine ⟨hr, by simpa using h.ls, h.df, h.sz, fun s hs => ?_, fun j e hj hl => ?_, hcl⟩
    · exact h.old s (fun j e hj hl => hs j e hj (by rw [getD_set hil]; split; rfl; exact hl))
    · have e2 : j ≠ i := fun e2 => by subst e2; rw [hd] at hj; cases hj
      rw [getD_set hil, if_neg e2] at hl
      exact hmono _ _ _ _ (h.val j e hj hl) hb
  | some d =>
    have hd : dstOf ops i = some d := by simp [dstOf, ho, hod]
    obtain ⟨hlt, hun⟩ := dstC_of hB hi hd
    have hlt' : d < a.tmps.size := by rw [h.sz]; exact hlt
    rw [hod] at hr
    have hr' : R (fun j => (l.setIfInBounds i true).getD j false) (fun s => (a.put (some d) v).tmps.getD s undef) u' := by
      have e9 : (fun s => (a.put (some d) v).tmps.getD s undef) = updS (fun s => a.tmps.getD s undef) (some d) v := by funext s; exact getD_put hlt'
      rw [e9]; exact hr
    refine ⟨hr', by simpa using h.ls, h.df, by simpa [Act.put] using h.sz, fun s hs => ?_, fun j e hj hl => ?_, hcl⟩
    · have hne : d ≠ s := hs i d hd (by rw [getD_set hil, if_pos rfl])
      rw [getD_put hlt', if_neg (Ne.symm hne)]
      exact h.old s (fun j e hj hl => hs j e hj (by rw [getD_set hil]; split; rfl; exact hl))
    · rw [getD_put hlt']
      by_cases e1 : e = d
      · subst e1
        obtain rfl := hun j (dstOf_lt hj) hj
        rw [if_pos rfl]
        exact hv _ hod
      · rw [if_neg e1]
        have e2 : j ≠ i := fun e2 => by subst e2; rw [hd] at hj; exact e1 (Option.some.inj hj).symm
        rw [getD_set hil, if_neg e2] at hl
        exact hmono _ _ _ _ (h.val j e hj hl) hb
theorem wpAny_valy {P : Program} {ops : Array Oper} {Q : Exit → Act → World → Prop} {md : Region.Mode} {a0 : Act} {w0 : World} (R : (Nat → Bool) → (Nat → Value) → World → Prop) (M : World → World → Prop) (Φ : Nat → Value → World → Prop)
    (hordB : ordB md ops = true) (hB : dstC ops a0.tmps.size = true) (hmono : ∀ i v u u', Φ i v u → M u u' → Φ i v u') (hM : ∀ u, M u u) (h0 : R (fun _ => false) (fun s => a0.tmps.getD s undef) w0)
    (hend : ∀ (vs : Nat → Value) (σ : Nat → Value) u, R (fun i => decide (i < ops.size)) σ u → (∀ i d, dstOf ops i = some d → vs i = σ d) → (∀ i d, dstOf ops i = some d → Φ i (vs i) u) → Q .normal (putsL a0 0 ops.toList vs) u)
    (hstep : ∀ u i o (ρ : Operand → Value) (l : Nat → Bool), R l (fun s => ρ (.tmp s)) u → ops[i]? = some o → l i = false → (∀ j oj, ops[j]? = some oj → l j = true → ∀ e ∈ oj.after, Region.binds md e = true → l e.on = true) →
      (∀ s, isDst ops s = false → ρ (.tmp s) = a0.eval (.tmp s)) → (∀ v, ρ (.const v) = v) → (∀ f, ρ (.func f) = .func (.func f) #[] #[]) →
      (∀ e ∈ o.after, Region.binds md e = true → l e.on = true) → (∀ j d, dstOf ops j = some d → l j = true → Φ j (ρ (.tmp d)) u) → StpY P ops Φ (fun v u' => R (updB l i) (updS (fun s => ρ (.tmp s)) o.dst v) u') M i o ρ u)
    (fuel : Nat) (l : Array Bool) (hs : l.size = ops.size) (hc : l.toList.count false ≤ fuel) (hl : ∀ i, l.getD i false = false) : wpAny P md ops Q fuel l a0 w0 := by
  refine wpAny_inv (InvY md ops Φ R a0) hordB ?_ ?_ fuel l a0 w0 hs hc ?_
  · intro l a u h hall
    have hall' : ∀ i, i < ops.size → l.getD i false = true := fun i hi => by rw [getD_eq (by rw [h.ls]; exact hi) false true]; exact hall i hi
    have e : putsL a0 0 ops.toList (fun i => a.tmps.getD ((dstOf ops i).getD 0) undef) = a := by
      refine putsL_eqW ops.toList 0 a0 _ h.df.symm h.sz.symm (fun j o d ho hd => ?_) (fun s => ?_) (fun j o d ho hd => ?_)
      · rw [Nat.zero_add]
        have : dstOf ops j = some d := by rw [Array.getElem?_toList] at ho; simp [dstOf, ho, hd]
        show a.tmps.getD ((dstOf ops j).getD 0) undef = _
        rw [this]; rfl
      · by_cases hx : ∃ j d, dstOf ops j = some d ∧ l.getD j false = true ∧ d = s
        · obtain ⟨j, d, hd, _, rfl⟩ := hx
          right
          unfold dstOf at hd
          cases ho : ops[j]? with
          | none => rw [ho] at hd; cases hd
          | some o => rw [ho] at hd; exact ⟨j, o, by rw [Array.getElem?_toList]; exact ho, hd⟩
        · left
          exact (h.old s (fun i d hd hl e => hx ⟨i, d, hd, hl, e⟩)).symm
      · rw [Array.getElem?_toList] at ho
        have hi : j < ops.size := (Array.getElem?_eq_some_iff.1 ho).1
        have hd' : dstOf ops j = some d := by simp [dstOf, ho, hd]
        rw [h.sz]
        exact (dstC_of hB hi hd').1
    rw [← e]
    refine hend _ (fun s => a.tmps.getD s undef) u ?_ (fun i d hd => by show a.tmps.getD ((dstOf ops i).getD 0) undef = _; rw [hd]; rfl) (fun i d hd => ?_)
    · have e2 : (fun i => l.getD i false) = (fun i => decide (i < ops.size)) := by
        funext i
        by_cases hi : i < ops.size
        · rw [hall' i hi]; simp [hi]
        · have : ¬ i < l.size := by rw [h.ls]; exact hi
          simp [Array.getD, hi, this]
      rw [← e2]
      exact h.r
    · show Φ i (a.tmps.getD ((dstOf ops i).getD 0) undef) u
      rw [hd]
      exact h.val i d hd (hall' i (dstOf_lt hd))
  · intro l a u i o h ho hli hdep K hK
    have hi : i < ops.size := (Array.getElem?_eq_some_iff.1 ho).1
    have hw : Region.wanted o (yielded ops a.tmps) = wantV ops o a.eval := wanted_eq (fun j d hj => by
      rw [h.sz]; exact (dstC_of hB (dstOf_lt hj) hj).1)
    have hst := hstep u i o a.eval (fun j => l.getD j false) h.r ho (by show l.getD i false = false; rw [getD_eq (by rw [h.ls]; exact hi) false true]; exact hli) (fun j oj hoj hlj e he hb => h.cl j oj hoj hlj e he hb) (fun s hns => by
      refine h.old s (fun j d hj _ e => ?_)
      subst e
      have : isDst ops d = true := by
        unfold isDst
        rw [List.any_eq_true]
        exact ⟨j, List.mem_range.2 (dstOf_lt hj), by simp [hj]⟩
      rw [this] at hns; cases hns) (fun _ => rfl) (fun _ => rfl) hdep (fun j d hd hlj => h.val j d hd hlj)
    rcases hst with ⟨hwt, ⟨v, u', hrun, hv, hr, hbl⟩ | ⟨f, args, hrun, hcall⟩ | ⟨hno, u', hrun, hr, hbl⟩⟩ | ⟨hwf, hv, hr⟩
    · rw [if_pos (by rw [hw]; exact hwt)]
      unfold Oper.wp
      rw [hrun]
      exact hK _ _ (h.next hB hmono ho hdep (fun _ _ => hv) hr hbl)
    · rw [if_pos (by rw [hw]; exact hwt)]
      unfold Oper.wp
      rw [hrun, Oper.upon_enter]
      refine hcall.mono ?_
      rintro e u' ⟨v, rfl, hv, hr, hbl⟩
      exact hK _ _ (h.next hB hmono ho hdep (fun _ _ => hv) hr hbl)
    · rw [if_pos (by rw [hw]; exact hwt)]
      unfold Oper.wp
      rw [hrun, Oper.upon_skip]
      exact hK _ _ (h.next hB hmono ho hdep (fun d hd => by rw [hno] at hd; cases hd) hr hbl)
    · rw [if_neg (by rw [hw, hwf]; decide)]
      exact hK _ _ (h.next hB hmono ho hdep (fun _ _ => hv) hr (hM u))
  · refine ⟨?_, hs, rfl, rfl, fun _ _ => rfl, fun i d _ hl' => (by rw [hl i] at hl'; cases hl'), fun i o _ hl' => (by rw [hl i] at hl'; cases hl')⟩
    rw [show (fun i => l.getD i false) = (fun _ => false) from funext hl]
    exact h0
end Go.Proofs.Ytohikbpolofklaa
namespace Go.Proofs.Ytohikbpolofklaa
open Go.RowKit
set_option linter.unusedVariables false
def StpB (P : Program) (ops : Array Oper) (Φ : Nat → Value → World → Prop) (i : Nat) (o : Oper) (ρ : Operand → Value) (u : World) : Prop :=
  (wantV ops o ρ = true ∧ ((∃ v u', (execOp ρ o).run P u = .ok (.value v) u' ∧ Φ i v u' ∧ Below u.heap.size u u') ∨ (∃ f args, (execOp ρ o).run P u = .ok (.enter f args) u ∧ Calls P f args u fun e u' => ∃ v, e = .returned v ∧ Φ i v u' ∧ Below u.heap.size u u')))
  ∨ (wantV ops o ρ = false ∧ Φ i undef u)
def lastB (md : Region.Mode) (ops : Array Oper) (N : Nat) : Bool :=
  match ops[N]? with
  | some o => o.dst.isNone && (List.range N).all (fun i => (dstOf ops i).isSome && o.after.toList.any (fun e => e.on == i && Region.binds md e))
  | none => false
theorem wpAny_st {P : Program} {ops : Array Oper} {Q : Exit → Act → World → Prop} {md : Region.Mode} {a0 : Act} {w0 : World} (N : Nat) (Rb : World → Prop) (E : (Nat → Value) → World → Prop) (Φ : Nat → Value → World → Prop)
    (hordB : ordB md ops = true) (hB : dstC ops a0.tmps.size = true) (hN : ops.size = N + 1) (hL : lastB md ops N = true)
    (hRb : ∀ u u', Rb u → Below u.heap.size u u' → Rb u') (hmono : ∀ i v u u', Φ i v u → Below u.heap.size u u' → Φ i v u') (h0 : Rb w0)
    (hend : ∀ (vs : Nat → Value) (σ : Nat → Value) u, E σ u → (∀ i d, dstOf ops i = some d → vs i = σ d) → Q .normal (putsL a0 0 ops.toList vs) u)
    (hstep : ∀ u i o (ρ : Operand → Value), i < N → Rb u → ops[i]? = some o → (∀ s, isDst ops s = false → ρ (.tmp s) = a0.eval (.tmp s)) → (∀ v, ρ (.const v) = v) → (∀ f, ρ (.func f) = .func (.func f) #[] #[]) →
      (∀ e ∈ o.after, Region.binds md e = true → ∀ d, dstOf ops e.on = some d → Φ e.on (ρ (.tmp d)) u) → StpB P ops Φ i o ρ u)
    (hlast : ∀ u o (ρ : Operand → Value), Rb u → ops[N]? = some o → (∀ s, isDst ops s = false → ρ (.tmp s) = a0.eval (.tmp s)) → (∀ v, ρ (.const v) = v) →
      (∀ j d, j < N → dstOf ops j = some d → Φ j (ρ (.tmp d)) u) → wantV ops o ρ = true ∧ ∃ u', (execOp ρ o).run P u = .ok .skip u' ∧ E (fun s => ρ (.tmp s)) u')
    (fuel : Nat) (l : Array Bool) (hs : l.size = ops.size) (hc : l.toList.count false ≤ fuel) (hl : ∀ i, l.getD i false = false) : wpAny P md ops Q fuel l a0 w0 := by
  obtain ⟨oN, hoN, hdN, hall⟩ : ∃ o, ops[N]? = some o ∧ o.dst = none ∧ ∀ i, i < N → (dstOf ops i).isSome = true ∧ ∃ e ∈ o.after, e.on = i ∧ Region.binds md e = true := by
    unfold lastB at hL
    split at hL
    · rename_i o ho
      simp only [Bool.and_eq_true, List.all_eq_true, List.mem_range] at hL
      refine ⟨o, ho, by simpa using hL.1, fun i hi => ?_⟩
      obtain ⟨q1, q2⟩ := hL.2 i hi
      rw [List.any_eq_true] at q2
      obtain ⟨e, he, q3⟩ := q2
      simp only [Bool.and_eq_true, beq_iff_eq] at q3
      exact ⟨q1, e, Array.mem_toList_iff.1 he, q3.1, q3.2⟩
    · cases hL
  refine wpAny_valy (fun l σ u => (l N = true → E σ u) ∧ (l N = false → Rb u ∧ ∀ j d, dstOf ops j = some d → l j = true → Φ j (σ d) u)) (fun _ _ => True) (fun _ _ _ => True) hordB hB (fun _ _ _ _ h _ => h) (fun _ => trivial) ⟨fun h => (by cases h), fun _ => ⟨h0, fun _ _ _ h => (by cases h)⟩⟩ (fun vs σ u hR hvs _ => hend vs σ u (hR.1 (by simp [hN])) hvs) ?_ fuel l hs hc hl
  intro u i o ρ l hR ho hli hcl hρ hcn hf hdep hv
  have hi : i < N + 1 := by rw [← hN]; exact (Array.getElem?_eq_some_iff.1 ho).1
  by_cases e : i = N
  · subst e
    rw [hoN] at ho
    cases ho
    obtain ⟨hb, hΦ⟩ := hR.2 hli
    obtain ⟨hw, u', hrun, hE⟩ := hlast u oN ρ hb hoN hρ hcn (fun j d hj hd => by
      obtain ⟨_, e, he, q1, q2⟩ := hall j hj
      exact hΦ j d hd (by rw [← q1]; exact hdep e he q2))
    refine .inl ⟨hw, .inr (.inr ⟨hdN, u', hrun, ⟨fun _ => ?_, fun h => ?_⟩, trivial⟩)⟩
    · rw [hdN]; exact hE
    · have : updB l i i = true := by unfold updB; rw [if_pos rfl]
      rw [this] at h; cases h
  · have hiN : i < N := by omega
    have hlN : l N = false := by
      cases h9 : l N with
      | false => rfl
      | true =>
        obtain ⟨_, e9, he, q1, q2⟩ := hall i hiN
        have := hcl N oN hoN h9 e9 he q2
        rw [q1, hli] at this
        cases this
    obtain ⟨hb, hΦ⟩ := hR.2 hlN
    have hup : updB l i N = false := by unfold updB; rw [if_neg (fun q => e q.symm)]; exact hlN
    obtain ⟨d, hd⟩ := Option.isSome_iff_exists.1 (hall i hiN).1
    have hod : o.dst = some d := by simpa [dstOf, ho] using hd
    have key : ∀ v u', Φ i v u' → Below u.heap.size u u' → (updB l i N = true → E (updS (fun s => ρ (.tmp s)) o.dst v) u') ∧ (updB l i N = false → Rb u' ∧ ∀ j d, dstOf ops j = some d → updB l i j = true → Φ j (updS (fun s => ρ (.tmp s)) o.dst v d) u') := by
      intro v u' h1 h2
      refine ⟨fun h => (by rw [hup] at h; cases h), fun _ => ⟨hRb u u' hb h2, fun j d' hj hl' => ?_⟩⟩
      by_cases ej : j = i
      · subst ej
        rw [hd] at hj
        cases hj
        rw [hod]
        show Φ j (if d = d then v else _) u'
        rw [if_pos rfl]
        exact h1
      · have hlj : l j = true := by unfold updB at hl'; rw [if_neg ej] at hl'; exact hl'
        have hne : d' ≠ d := fun q => ej ((dstC_of hB (show i < ops.size by omega) hd).2 j (dstOf_lt hj) (by rw [← q]; exact hj))
        rw [hod]
        show Φ j (if d' = d then v else ρ (.tmp d')) u'
        rw [if_neg hne]
        exact hmono _ _ _ _ (hΦ j d' hj hlj) h2
    rcases hstep u i o ρ hiN hb ho hρ hcn hf (fun e9 he hbd d9 hd9 => hΦ e9.on d9 hd9 (hdep e9 he hbd)) with ⟨hw, h9⟩ | ⟨hw, h9⟩
    · refine .inl ⟨hw, ?_⟩
      rcases h9 with ⟨v, u', hr, h1, h2⟩ | ⟨f, args, hr, hcall⟩
      · exact .inl ⟨v, u', hr, trivial, key v u' h1 h2, trivial⟩
      · refine .inr (.inl ⟨f, args, hr, hcall.mono ?_⟩)
        rintro e9 u' ⟨v, he, h1, h2⟩
        exact ⟨v, he, trivial, key v u' h1 h2, trivial⟩
    · exact .inr ⟨hw, trivial, key undef u h9 (Below.refl _ _)⟩
end Go.Proofs.Ytohikbpolofklaa
namespace Go.Proofs.Ytohikbpolofklaa
open Go.RowKit
set_option linter.unusedVariables false
def reachB (md : Region.Mode) (ops : Array Oper) : Nat → Nat → Nat → Bool
  | 0, i, j => i == j
  | k + 1, i, j => i == j || match ops[i]? with
    | some o => o.after.toList.any (fun e => Region.binds md e && reachB md ops k e.on j)
    | none => false
def tailB (md : Region.Mode) (ops : Array Oper) (N : Nat) : Bool :=
  (List.range N).all (fun i => (dstOf ops i).isSome) && (List.range ops.size).all (fun i => decide (i < N) || (List.range i).all (fun j => reachB md ops ops.size i j))
theorem reachB_l {md : Region.Mode} {ops : Array Oper} {l : Nat → Bool} (hcl : ∀ j oj, ops[j]? = some oj → l j = true → ∀ e ∈ oj.after, Region.binds md e = true → l e.on = true) : ∀ k i j, reachB md ops k i j = true → l i = true → l j = true
  | 0, i, j, h, hi => by
    have e : i = j := by simpa [reachB] using h
    rw [← e]; exact hi
  | k + 1, i, j, h, hi => by
    unfold reachB at h
    rw [Bool.or_eq_true] at h
    rcases h with h | h
    · have e : i = j := by simpa using h
      rw [← e]; exact hi
    · split at h
      · rename_i o ho
        rw [List.any_eq_true] at h
        obtain ⟨e, he, q⟩ := h
        rw [Bool.and_eq_true] at q
        exact reachB_l hcl k e.on j q.2 (hcl i o ho hi e (Array.mem_toList_iff.1 he) q.1)
      · cases h
theorem reachB_d {md : Region.Mode} {ops : Array Oper} {l : Nat → Bool} (hcl : ∀ j oj, ops[j]? = some oj → l j = true → ∀ e ∈ oj.after, Region.binds md e = true → l e.on = true) {k i j : Nat} {o : Oper} (ho : ops[i]? = some o) (hdep : ∀ e ∈ o.after, Region.binds md e = true → l e.on = true) (hne : i ≠ j) (h : reachB md ops k i j = true) : l j = true := by
  cases k with
  | zero => exact absurd (by simpa [reachB] using h) hne
  | succ k =>
    unfold reachB at h
    rw [Bool.or_eq_true] at h
    rcases h with h | h
    · exact absurd (by simpa using h) hne
    · rw [ho] at h
      simp only [List.any_eq_true] at h
      obtain ⟨e, he, q⟩ := h
      rw [Bool.and_eq_true] at q
      exact reachB_l hcl k e.on j q.2 (hdep e (Array.mem_toList_iff.1 he) q.1)
def noDst (ops : Array Oper) (N s : Nat) : Bool := (List.range N).all (fun j => dstOf ops j != some s)
def StpT (P : Program) (ops : Array Oper) (E : (Nat → Value) → World → Prop) (o : Oper) (ρ : Operand → Value) (u : World) : Prop :=
  wantV ops o ρ = true ∧ ((∃ v u', (execOp ρ o).run P u = .ok (.value v) u' ∧ E (updS (fun s => ρ (.tmp s)) o.dst v) u') ∨ (∃ f args, (execOp ρ o).run P u = .ok (.enter f args) u ∧ Calls P f args u fun e u' => ∃ v, e = .returned v ∧ E (updS (fun s => ρ (.tmp s)) o.dst v) u') ∨ (o.dst = none ∧ ∃ u', (execOp ρ o).run P u = .ok .skip u' ∧ E (fun s => ρ (.tmp s)) u'))
end Go.Proofs.Ytohikbpolofklaa
namespace Go.Proofs.Ytohikbpolofklaa
open Go.RowKit
set_option linter.unusedVariables false
end Go.Proofs.Ytohikbpolofklaa
namespace Go.Proofs.Ytohikbpolofklaa
open Go.RowKit
set_option linter.unusedVariables false
def floatB (md : Region.Mode) (ops : Array Oper) (S : Nat) (fl : Nat → Bool) : Bool :=
  (dstOf ops S).isNone && (List.range ops.size).all (fun i => i == S || ((dstOf ops i).isSome && (fl i || reachB md ops ops.size S i)))
theorem wpAny_te {P : Program} {ops : Array Oper} {Q : Exit → Act → World → Prop} {md : Region.Mode} {a0 : Act} {w0 : World} (S A dA : Nat) (fl : Nat → Bool) (Rb : World → Prop) (Bx : Nat → World → Prop) (E : Value → World → Prop) (Φ : Nat → Value → Option Nat → World → Prop) (Ψ : Nat → Value → Prop)
    (hordB : ordB md ops = true) (hB : dstC ops a0.tmps.size = true) (hS : S < ops.size) (hL : floatB md ops S fl = true) (hAS : A ≠ S) (hAf : fl A = false) (hSf : fl S = false) (hdA : dstOf ops A = some dA)
    (hRb : ∀ u u', Rb u → Below u.heap.size u u' → Rb u') (hBx : ∀ b u u', Bx b u → Below u.heap.size u u' → Bx b u') (hmono : ∀ i v ob u u', Φ i v ob u → Below u.heap.size u u' → Φ i v ob u') (hnew : ∀ i v u u' b, Φ i v none u → u.heap.size ≤ b → Below u.heap.size u u' → Φ i v (some b) u') (hΨ : ∀ i v ob u, Φ i v ob u → Ψ i v) (h0 : Rb w0)
    (hend : ∀ (vs : Nat → Value) (σ : Nat → Value) u, E (σ dA) u → (∀ j d, j ≠ A → j ≠ S → dstOf ops j = some d → Ψ j (σ d)) → (∀ i d, dstOf ops i = some d → vs i = σ d) → Q .normal (putsL a0 0 ops.toList vs) u)
    (hbox : ∀ u o (ρ : Operand → Value), Rb u → ops[A]? = some o → wantV ops o ρ = true ∧ ∃ u', (execOp ρ o).run P u = .ok (.value (.pointer (some ⟨u.heap.size, 0, none⟩))) u' ∧ Bx u.heap.size u' ∧ u.heap.size < u'.heap.size ∧ Below u.heap.size u u')
    (hstep : ∀ u i o (ρ : Operand → Value) ob, fl i = false → i ≠ A → i ≠ S → Rb u → (∀ b, ob = some b → b < u.heap.size) → ops[i]? = some o → (∀ s, isDst ops s = false → ρ (.tmp s) = a0.eval (.tmp s)) → (∀ v, ρ (.const v) = v) → (∀ f, ρ (.func f) = .func (.func f) #[] #[]) →
      (∀ e ∈ o.after, Region.binds md e = true → e.on ≠ A → fl e.on = false → ∀ d, dstOf ops e.on = some d → Φ e.on (ρ (.tmp d)) ob u) → StpB P ops (fun i v u => Φ i v ob u) i o ρ u)
    (hfl : ∀ u i o (ρ : Operand → Value), fl i = true → ops[i]? = some o → (∀ s, isDst ops s = false → ρ (.tmp s) = a0.eval (.tmp s)) → (∀ v, ρ (.const v) = v) →
      (∀ e ∈ o.after, Region.binds md e = true → e.on ≠ A → ∀ d, dstOf ops e.on = some d → Ψ e.on (ρ (.tmp d))) → wantV ops o ρ = true ∧ ∃ v, (execOp ρ o).run P u = .ok (.value v) u ∧ Ψ i v)
    (hstore : ∀ u o (ρ : Operand → Value) b, Rb u → ops[S]? = some o → (∀ s, isDst ops s = false → ρ (.tmp s) = a0.eval (.tmp s)) → (∀ v, ρ (.const v) = v) → ρ (.tmp dA) = .pointer (some ⟨b, 0, none⟩) → Bx b u →
      (∀ j d, j ≠ A → fl j = false → dstOf ops j = some d → Φ j (ρ (.tmp d)) (some b) u) → wantV ops o ρ = true ∧ ∃ u', (execOp ρ o).run P u = .ok .skip u' ∧ E (.pointer (some ⟨b, 0, none⟩)) u')
    (fuel : Nat) (l : Array Bool) (hs : l.size = ops.size) (hc : l.toList.count false ≤ fuel) (hl : ∀ i, l.getD i false = false) : wpAny P md ops Q fuel l a0 w0 := by
  obtain ⟨hdS, hds⟩ : dstOf ops S = none ∧ ∀ i, i < ops.size → i ≠ S → (dstOf ops i).isSome = true ∧ (fl i = true ∨ reachB md ops ops.size S i = true) := by
    unfold floatB at hL
    simp only [Bool.and_eq_true, List.all_eq_true, List.mem_range, Bool.or_eq_true, beq_iff_eq, Option.isNone_iff_eq_none] at hL
    exact ⟨hL.1, fun i h1 h2 => (hL.2 i h1).elim (fun h => absurd h h2) (fun h => h)⟩
  refine wpAny_valy (fun l σ u => (l S = true → E (σ dA) u ∧ ∀ j d, j ≠ A → j ≠ S → dstOf ops j = some d → l j = true → Ψ j (σ d)) ∧ (l S = false → Rb u ∧ (∃ ob : Option Nat, (∀ b, ob = some b → b < u.heap.size ∧ Bx b u ∧ σ dA = .pointer (some ⟨b, 0, none⟩)) ∧ (l A = true → ob ≠ none) ∧ (l A = false → ob = none) ∧ ∀ j d, j ≠ A → fl j = false → dstOf ops j = some d → l j = true → Φ j (σ d) ob u) ∧ ∀ j d, fl j = true → dstOf ops j = some d → l j = true → Ψ j (σ d))) (fun _ _ => True) (fun _ _ _ => True) hordB hB (fun _ _ _ _ h _ => h) (fun _ => trivial) ⟨fun h => (by cases h), fun _ => ⟨h0, ⟨none, fun _ h => (by cases h), fun h => (by cases h), fun _ => rfl, fun _ _ _ _ _ h => (by cases h)⟩, fun _ _ _ _ h => (by cases h)⟩⟩ (fun vs σ u hR hvs _ => by
    have h9 := hR.1 (by simp [hS])
    exact hend vs σ u h9.1 (fun j d hjA hjS hd => h9.2 j d hjA hjS hd (by simp; exact dstOf_lt hd)) hvs) ?_ fuel l hs hc hl
  intro u i o ρ l hR ho hli hcl hρ hcn hf hdep hv
  have hi : i < ops.size := (Array.getElem?_eq_some_iff.1 ho).1
  have hold : ∀ j, j ≠ i → updB l i j = l j := fun j hj => by unfold updB; rw [if_neg hj]
  have hii : updB l i i = true := by unfold updB; rw [if_pos rfl]
  by_cases eS : i = S
  · subst eS
    have hod : o.dst = none := by simpa [dstOf, ho] using hdS
    obtain ⟨hb, ⟨ob, hob, hob1, hob2, hΦ⟩, hf9⟩ := hR.2 hli
    have hpre : ∀ j, j < ops.size → j ≠ i → fl j = false → l j = true := fun j h1 h2 h3 => by
      rcases (hds j h1 h2).2 with h | h
      · rw [h3] at h; cases h
      · exact reachB_d hcl ho hdep (fun q => h2 q.symm) h
    have hlA := hpre A (dstOf_lt hdA) hAS hAf
    cases ob with
    | none => exact absurd rfl (hob1 hlA)
    | some b =>
      obtain ⟨q1, q2, q3⟩ := hob b rfl
      have q3' : ρ (.tmp dA) = .pointer (some ⟨b, 0, none⟩) := q3
      have hall : ∀ j d, j ≠ A → fl j = false → dstOf ops j = some d → Φ j (ρ (.tmp d)) (some b) u := fun j d hjA hjf hd => hΦ j d hjA hjf hd (hpre j (dstOf_lt hd) (fun q => by rw [q, hdS] at hd; cases hd) hjf)
      obtain ⟨hw, u', hrun, hE⟩ := hstore u o ρ b hb ho hρ hcn q3' q2 hall
      refine .inl ⟨hw, .inr (.inr ⟨hod, u', hrun, ⟨fun _ => ?_, fun q => ?_⟩, trivial⟩)⟩
      · rw [hod]
        refine ⟨by show E (ρ (.tmp dA)) u'; rw [q3']; exact hE, fun j d hjA hjS hd hl' => ?_⟩
        show Ψ j (ρ (.tmp d))
        rw [hold j hjS] at hl'
        cases h9 : fl j with
        | true => exact hf9 j d h9 hd hl'
        | false => exact hΨ _ _ _ _ (hall j d hjA h9 hd)
      · rw [hii] at q; cases q
  · obtain ⟨hsome, hcase⟩ := hds i hi eS
    obtain ⟨d, hd⟩ := Option.isSome_iff_exists.1 hsome
    have hod : o.dst = some d := by simpa [dstOf, ho] using hd
    have hone : ∀ j d', j ≠ i → dstOf ops j = some d' → ∀ v, updS (fun s => ρ (.tmp s)) o.dst v d' = ρ (.tmp d') := by
      intro j d' ej hj v
      have hne : d' ≠ d := fun q => ej ((dstC_of hB hi hd).2 j (dstOf_lt hj) (by rw [← q]; exact hj))
      rw [hod]
      show (if d' = d then v else ρ (.tmp d')) = _
      rw [if_neg hne]
    have hself : ∀ v, updS (fun s => ρ (.tmp s)) o.dst v d = v := fun v => by
      rw [hod]; show (if d = d then v else _) = v; rw [if_pos rfl]
    have hS9 : updB l i S = l S := hold S (fun q => eS q.symm)
    by_cases efl : fl i = true
    · have eA : i ≠ A := fun q => by rw [q, hAf] at efl; cases efl
      have hps : ∀ e ∈ o.after, Region.binds md e = true → e.on ≠ A → ∀ d, dstOf ops e.on = some d → Ψ e.on (ρ (.tmp d)) := fun e9 he hbd hA9 d9 hd9 => by
        have hl9 := hdep e9 he hbd
        have hnS : e9.on ≠ S := fun q => by rw [q, hdS] at hd9; cases hd9
        cases h9 : l S with
        | true => exact (hR.1 h9).2 e9.on d9 hA9 hnS hd9 hl9
        | false =>
          obtain ⟨_, ⟨ob, _, _, _, hΦ⟩, hf9⟩ := hR.2 h9
          cases h8 : fl e9.on with
          | true => exact hf9 e9.on d9 h8 hd9 hl9
          | false => exact hΨ _ _ _ _ (hΦ e9.on d9 hA9 h8 hd9 hl9)
      obtain ⟨hw, v, hrun, hv9⟩ := hfl u i o ρ efl ho hρ hcn hps
      refine .inl ⟨hw, .inl ⟨v, u, hrun, trivial, ⟨fun q => ?_, fun q => ?_⟩, trivial⟩⟩
      · rw [hS9] at q
        obtain ⟨h1, h2⟩ := hR.1 q
        refine ⟨by rw [hone A dA (fun q => eA q.symm) hdA]; exact h1, fun j d' hjA hjS hj hl' => ?_⟩
        by_cases ej : j = i
        · subst ej; rw [hd] at hj; cases hj; rw [hself]; exact hv9
        · rw [hold j ej] at hl'; rw [hone j d' ej hj]; exact h2 j d' hjA hjS hj hl'
      · rw [hS9] at q
        obtain ⟨hb, ⟨ob, hob, hob1, hob2, hΦ⟩, hf9⟩ := hR.2 q
        refine ⟨hb, ⟨ob, fun b hb9 => ?_, by rw [hold A (fun q => eA q.symm)]; exact hob1, by rw [hold A (fun q => eA q.symm)]; exact hob2, fun j d' hjA hjf hj hl' => ?_⟩, fun j d' hjf hj hl' => ?_⟩
        · rw [hone A dA (fun q => eA q.symm) hdA]; exact hob b hb9
        · have ej : j ≠ i := fun q => by rw [q, efl] at hjf; cases hjf
          rw [hold j ej] at hl'; rw [hone j d' ej hj]; exact hΦ j d' hjA hjf hj hl'
        · by_cases ej : j = i
          · subst ej; rw [hd] at hj; cases hj; rw [hself]; exact hv9
          · rw [hold j ej] at hl'; rw [hone j d' ej hj]; exact hf9 j d' hjf hj hl'
    · have efl' : fl i = false := by simpa using efl
      have hrS : reachB md ops ops.size S i = true := hcase.resolve_left efl
      have hlS : l S = false := by
        cases h9 : l S with
        | false => rfl
        | true => have := reachB_l hcl _ S i hrS h9; rw [hli] at this; cases this
      obtain ⟨hb, ⟨ob, hob, hob1, hob2, hΦ⟩, hf9⟩ := hR.2 hlS
      have hno : ∀ (σ : Nat → Value) (u' : World), updB l i S = true → E (σ dA) u' ∧ ∀ j d, j ≠ A → j ≠ S → dstOf ops j = some d → updB l i j = true → Ψ j (σ d) := fun σ u' q => (by rw [hS9, hlS] at q; cases q)
      by_cases eA : i = A
      · subst eA
        rw [hdA] at hd
        cases hd
        have hn : ob = none := hob2 hli
        subst hn
        obtain ⟨hw, u', hrun, hbx, hsz, hbl⟩ := hbox u o ρ hb ho
        refine .inl ⟨hw, .inl ⟨_, u', hrun, trivial, ⟨hno _ _, fun _ => ⟨hRb u u' hb hbl, ⟨some u.heap.size, fun b hb9 => ?_, fun _ q => (by cases q), fun q => (by rw [hii] at q; cases q), fun j d' hjA hjf hj hl' => ?_⟩, fun j d' hjf hj hl' => ?_⟩⟩, trivial⟩⟩
        · obtain rfl := Option.some.inj hb9
          exact ⟨hsz, hbx, hself _⟩
        · rw [hold j hjA] at hl'
          rw [hone j d' hjA hj]
          exact hnew _ _ _ _ _ (hΦ j d' hjA hjf hj hl') (Nat.le_refl _) hbl
        · have ej : j ≠ i := fun q => by rw [q, hAf] at hjf; cases hjf
          rw [hold j ej] at hl'; rw [hone j d' ej hj]; exact hf9 j d' hjf hj hl'
      · have key : ∀ v u', Φ i v ob u' → Below u.heap.size u u' → (updB l i S = true → E (updS (fun s => ρ (.tmp s)) o.dst v dA) u' ∧ ∀ j d, j ≠ A → j ≠ S → dstOf ops j = some d → updB l i j = true → Ψ j (updS (fun s => ρ (.tmp s)) o.dst v d)) ∧ (updB l i S = false → Rb u' ∧ (∃ ob : Option Nat, (∀ b, ob = some b → b < u'.heap.size ∧ Bx b u' ∧ updS (fun s => ρ (.tmp s)) o.dst v dA = .pointer (some ⟨b, 0, none⟩)) ∧ (updB l i A = true → ob ≠ none) ∧ (updB l i A = false → ob = none) ∧ ∀ j d, j ≠ A → fl j = false → dstOf ops j = some d → updB l i j = true → Φ j (updS (fun s => ρ (.tmp s)) o.dst v d) ob u') ∧ ∀ j d, fl j = true → dstOf ops j = some d → updB l i j = true → Ψ j (updS (fun s => ρ (.tmp s)) o.dst v d)) := by
          intro v u' h1 h2
          refine ⟨hno _ _, fun _ => ⟨hRb u u' hb h2, ⟨ob, fun b hb9 => ?_, by rw [hold A (fun q => eA q.symm)]; exact hob1, by rw [hold A (fun q => eA q.symm)]; exact hob2, fun j d' hjA hjf hj hl' => ?_⟩, fun j d' hjf hj hl' => ?_⟩⟩
          · obtain ⟨q1, q2, q3⟩ := hob b hb9
            exact ⟨Nat.lt_of_lt_of_le q1 h2.size, hBx b u u' q2 h2, by rw [hone A dA (fun q => eA q.symm) hdA]; exact q3⟩
          · by_cases ej : j = i
            · subst ej; rw [hd] at hj; cases hj; rw [hself]; exact h1
            · rw [hold j ej] at hl'; rw [hone j d' ej hj]; exact hmono _ _ _ _ _ (hΦ j d' hjA hjf hj hl') h2
          · have ej : j ≠ i := fun q => by rw [q, efl'] at hjf; cases hjf
            rw [hold j ej] at hl'; rw [hone j d' ej hj]; exact hf9 j d' hjf hj hl'
        rcases hstep u i o ρ ob efl' eA eS hb (fun b hb9 => (hob b hb9).1) ho hρ hcn hf (fun e9 he hbd hA9 hf8 d9 hd9 => hΦ e9.on d9 hA9 hf8 hd9 (hdep e9 he hbd)) with ⟨hw, h9⟩ | ⟨hw, h9⟩
        · refine .inl ⟨hw, ?_⟩
          rcases h9 with ⟨v, u', hr, h1, h2⟩ | ⟨f, args, hr, hcall⟩
          · exact .inl ⟨v, u', hr, trivial, key v u' h1 h2, trivial⟩
          · refine .inr (.inl ⟨f, args, hr, hcall.mono ?_⟩)
            rintro e9 u' ⟨v, he, h1, h2⟩
            exact ⟨v, he, trivial, key v u' h1 h2, trivial⟩
        · exact .inr ⟨hw, trivial, key undef u h9 (Below.refl _ _)⟩
end Go.Proofs.Ytohikbpolofklaa
namespace Go.Proofs.Ytohikbpolofklaa
open Go.RowKit
def Box (w : World) (g : Nat) (t : TypeId) (v : Value) : Prop := w.heap[g]? = some (.cells #[v] t (0, 0))
end Go.Proofs.Ytohikbpolofklaa
namespace Go.Proofs.Ytohikbpolofklaa
open Go.RowKit Go.Joins
set_option linter.unusedVariables false
def CsAt (w : World) (g o : Nat) (vs : List Value) : Prop := ∀ j, j < vs.length → w.cell? ⟨g, o + j, none⟩ = vs[j]?
def RowS (w : World) (g : Nat) (t : TypeId) (s n : Nat) (F : Nat → List Value) : Prop :=
  ∃ cs, w.heap[g]? = some (.cells cs t (0, 0)) ∧ cs.size = n * s ∧ ∀ k, k < n → ∀ j, j < s → cs[k * s + j]? = (F k)[j]?
def setL (w : World) (g : Nat) : Nat → List Value → World
  | _, [] => w
  | o, v :: vs => setL (w.setCell ⟨g, o, none⟩ v) g (o + 1) vs
theorem setL_below {B g : Nat} {w0 : World} (hg : B ≤ g) : ∀ (vs : List Value) (w : World) (o : Nat), Below B w0 w → Below B w0 (setL w g o vs)
  | [], _, _, h => h
  | v :: vs, w, o, h => setL_below hg vs (w.setCell ⟨g, o, none⟩ v) (o + 1) (h.setCell hg v)
def SlS (w : World) (a : Option Addr) (s n : Nat) (F : Nat → List Value) : Prop :=
  n = 0 ∨ ∃ b off, a = some ⟨b, off, none⟩ ∧ b < w.heap.size ∧ ∀ k, k < n → ∀ j, j < s → w.cell? ⟨b, off + k * s + j, none⟩ = (F k)[j]?
end Go.Proofs.Ytohikbpolofklaa
namespace Go.Proofs.Ytohikbpolofklaa
open Go.RowKit
set_option linter.unusedVariables false
set_option linter.unusedSimpArgs false
end Go.Proofs.Ytohikbpolofklaa
namespace Go.Proofs.Ytohikbpolofklaa
open Go.RowKit Go.Joins
set_option linter.unusedVariables false
set_option linter.unusedSimpArgs false
structure El where
  pre : List Value
  ws : List Int
  bs : List Bool
  post : List Value
instance : Inhabited El := ⟨⟨[], [], [], []⟩⟩
abbrev els (E : El) (a1 a2 : Option Addr) (c1 c2 : Nat) : List Value := E.pre ++ (.slice a1 E.ws.length c1 :: .slice a2 E.bs.length c2 :: E.post)
theorem setL_gw {g : Nat} : ∀ (vs : List Value) (w : World) (o : Nat), w.grownBy (setL w g o vs) (some g)
  | [], w, o => World.grownBy.refl w _
  | v :: vs, w, o => by
    have h1 := grown_setj w g o v
    have h2 := setL_gw (g := g) vs (w.setCell ⟨g, o, none⟩ v) (o + 1)
    exact ⟨h2.os.trans h1.os, h2.tape.trans h1.tape, h2.output.trans h1.output, Nat.le_trans h1.size h2.size, fun k hk hne => by rw [show setL w g o (v :: vs) = setL (w.setCell ⟨g, o, none⟩ v) g (o + 1) vs from rfl, h2.block k (Nat.lt_of_lt_of_le hk h1.size) hne, h1.block k hk hne]⟩
def RowO (w : World) (g : Nat) (t : TypeId) (s o n : Nat) (F : Nat → List Value) : Prop :=
  ∃ cs, w.heap[g]? = some (.cells cs t (0, 0)) ∧ o + n * s ≤ cs.size ∧ ∀ k, k < n → ∀ j, j < s → cs[o + k * s + j]? = (F k)[j]?
section
variable {w w' : World} {g : Nat} {t : TypeId} {s o n : Nat} {F G : Nat → List Value}
end
def OwnO (w : World) (base : Nat) (t : TypeId) (s : Nat) (v : Value) (n : Nat) (F : Nat → List Value) : Prop :=
  (n = 0 ∧ ∃ a c, v = .slice a 0 c) ∨ ∃ g o c, v = .slice (some ⟨g, o, none⟩) n c ∧ base ≤ g ∧ RowO w g t s o n F
section
variable {w w' : World} {base : Nat} {t : TypeId} {s : Nat} {v : Value} {n : Nat} {F : Nat → List Value}
end
def ElAt (w : World) (lo hi : Nat) (vs : List Value) (E : El) : Prop :=
  ∃ a1 a2 c1 c2, vs = els E a1 a2 c1 c2 ∧ OwnI w lo (.slice a1 E.ws.length c1) E.ws ∧ OwnB w lo (.slice a2 E.bs.length c2) E.bs ∧
    (∀ k, (Value.slice a1 E.ws.length c1).ownBlock = some k → k < hi) ∧ (∀ k, (Value.slice a2 E.bs.length c2).ownBlock = some k → k < hi)
section
variable {w w' : World} {lo hi : Nat} {vs : List Value} {E : El}
end
def InE (w : World) (base : Nat) (β : Nat → Nat) (F : Nat → List Value) (G : Nat → El) (z : Nat) : Prop :=
  base ≤ β 0 ∧ (∀ k, β k ≤ β (k + 1)) ∧ ∀ k, k < z → ElAt w (β k) (β (k + 1)) (F k) (G k)
section
variable {w w' : World} {base gx z : Nat} {β : Nat → Nat} {F F' : Nat → List Value} {G H : Nat → El}
end
def OwnL (w : World) (base : Nat) (t : TypeId) (s : Nat) (v : Value) (n : Nat) (G : Nat → El) : Prop :=
  ∃ (F : Nat → List Value) (β : Nat → Nat), OwnO w base t s v n F ∧ InE w base β F G n
def TopL (w : World) (base hi : Nat) (t : TypeId) (s : Nat) (v : Value) (n : Nat) (G : Nat → El) : Prop :=
  ∃ (F : Nat → List Value) (β : Nat → Nat), OwnO w base t s v n F ∧ InE w base β F G n ∧ β n ≤ hi ∧ ∀ g o m c, v = .slice (some ⟨g, o, none⟩) m c → 0 < n → g < hi
def SlL (w : World) (a : Option Addr) (s n : Nat) (G : Nat → El) : Prop :=
  ∃ F : Nat → List Value, SlS w a s n F ∧ ∀ k, k < n → ∃ a1 a2 c1 c2, F k = els (G k) a1 a2 c1 c2 ∧ SlI w a1 (G k).ws ∧ SlB w a2 (G k).bs
section
variable {w w' : World} {base : Nat} {t : TypeId} {s n : Nat} {v : Value} {G H : Nat → El} {a : Option Addr}
end
end Go.Proofs.Ytohikbpolofklaa
namespace Go.Proofs.Ytohikbpolofklaa
open Go.RowKit Go.Joins
set_option linter.unusedVariables false
set_option linter.unusedSimpArgs false
structure Ca where
  id : Int
  pa : Int
  un : Int
  kd : Int
  pl : Int
  n : Int
  wa : Int
  ws : List Int
  bs : List Bool
def caE (C : Ca) : El := ⟨[.int .i64 C.id, .int .i64 C.pa, .int .i64 C.un, .int .i64 C.kd, .int .i64 C.pl, .int .i64 C.n], C.ws, C.bs, [.int .i64 C.wa]⟩
abbrev cac (C : Ca) (a1 a2 : Option Addr) (l1 l2 c1 c2 : Nat) : Array Value := #[.int .i64 C.id, .int .i64 C.pa, .int .i64 C.un, .int .i64 C.kd, .int .i64 C.pl, .int .i64 C.n, .slice a1 l1 c1, .slice a2 l2 c2, .int .i64 C.wa]
def ca0 : Ca := ⟨0, 0, 0, 0, 0, 0, 0, [], []⟩
abbrev SlC (w : World) (a : Option Addr) (n : Nat) (f : Nat → Ca) : Prop := SlL w a 9 n (fun k => caE (f k))
def tl (f : Nat → Ca) : Nat → Nat
  | 0 => 0
  | k + 1 => tl f k + ((f k).ws.length + (f k).bs.length)
def lfC (left l1 l2 : Nat) : Int := if l1 + l2 ≤ left then (left : Int) - (l1 : Int) - (l2 : Int) else -1
def lfS (left n : Nat) (f : Nat → Ca) : Int := if n + tl f n ≤ left then (left : Int) - (n : Int) - (tl f n : Int) else -1
def BdC (n : Nat) (f : Nat → Ca) : Prop := n ≤ 2000000 ∧ ∀ k, k < n → (f k).ws.length ≤ 2000000 ∧ (f k).bs.length ≤ 2000000
end Go.Proofs.Ytohikbpolofklaa
namespace Go.Proofs.Ytohikbpolofklaa
open Go.RowKit Go.Joins
set_option linter.unusedVariables false
set_option linter.unusedSimpArgs false
def wrA (cs : Array Value) : Nat → List Value → Array Value
  | _, [] => cs
  | o, v :: vs => wrA (cs.setIfInBounds o v) (o + 1) vs
theorem Blk.stL {g : Nat} {t : TypeId} : ∀ (vs : List Value) {w : World} {cs : Array Value} (o : Nat), Blk w g t cs → Blk (setL w g o vs) g t (wrA cs o vs)
  | [], w, cs, o, h => h
  | v :: vs, w, cs, o, h => Blk.stL vs (o + 1) (h.set o v)
abbrev calL (C : Ca) (a1 a2 : Option Addr) (l1 l2 c1 c2 : Nat) : List Value := [.int .i64 C.id, .int .i64 C.pa, .int .i64 C.un, .int .i64 C.kd, .int .i64 C.pl, .int .i64 C.n, .slice a1 l1 c1, .slice a2 l2 c2, .int .i64 C.wa]
abbrev ca0c : Array Value := #[.int .i64 0, .int .i64 0, .int .i64 0, .int .i64 0, .int .i64 0, .int .i64 0, .slice none 0 0, .slice none 0 0, .int .i64 0]
def MadeL (w : World) (B : Nat) (t : TypeId) (s n : Nat) (G : Nat → El) : Prop := ∃ F β, RowS w B t s n F ∧ InE w B β F G n ∧ β n ≤ w.heap.size
end Go.Proofs.Ytohikbpolofklaa
namespace Go.Proofs.Ytohikbpolofklaa
open Go.RowKit Go.Joins
set_option linter.unusedVariables false
theorem setCells_L (g : Nat) : ∀ (vs : List Value) (w : World) (o : Nat), w.setCells g o vs = setL w g o vs
  | [], _, _ => rfl
  | v :: vs, w, o => by
    rw [World.setCells, setCells_L g vs]
    rfl
theorem Blk.range {w : World} {g : Nat} {t : TypeId} {cs : Array Value} (h : Blk w g t cs) (o : Nat) (vs : List Value) (hv : ∀ j, j < vs.length → cs[o + j]? = vs[j]?) : w.rangeAt g o vs := fun j v hj => by
  have hlt : j < vs.length := (List.getElem?_eq_some_iff.1 hj).1
  exact h.cell (o + j) (by rw [hv j hlt, hj])
theorem Blk.there {w : World} {g : Nat} {t : TypeId} {cs : Array Value} (h : Blk w g t cs) (o n : Nat) (hn : o + n ≤ cs.size) : w.there g o n := fun j hj => by
  refine ⟨?_, h.fro _⟩
  rw [h.cell (o + j) (Array.getElem?_eq_getElem (show o + j < cs.size by omega))]
  rfl
theorem Blk.all {w : World} {g : Nat} {t : TypeId} {vs : List Value} (h : Blk w g t vs.toArray) : w.rangeAt g 0 vs := h.range 0 vs (fun j hj => by simp)
end Go.Proofs.Ytohikbpolofklaa
namespace Go.Proofs.Ytohikbpolofklaa
open Go.RowKit Go.Joins
set_option linter.unusedVariables false
set_option linter.unusedSimpArgs false
end Go.Proofs.Ytohikbpolofklaa
namespace Go.Proofs.Ytohikbpolofklaa
open Go.RowKit Go.Joins
set_option linter.unusedVariables false
set_option linter.unusedSimpArgs false
inductive Tr where
  | leaf (v : Value)
  | list (s n : Nat) (f : Nat → Nat → Tr)
def Rd (w : World) (lo : Nat) : Tr → Value → Prop
  | .leaf u, v => v = u
  | .list s n f, v => ∃ a c, v = .slice a n c ∧ n ≤ c ∧ n ≤ maxLen ∧ (n = 0 ∨ ∃ (g off : Nat) (F : Nat → List Value), a = some ⟨g, off, none⟩ ∧ lo ≤ g ∧ g < w.heap.size ∧
      ∀ k, k < n → (F k).length = s ∧ ∀ j v, (F k)[j]? = some v → w.cell? ⟨g, off + k * s + j, none⟩ = some v ∧ Rd w lo (f k j) v)
def RdL (w : World) (lo : Nat) (ts : Nat → Tr) (vs : List Value) : Prop := ∀ j v, vs[j]? = some v → Rd w lo (ts j) v
/- How great a tree is, as the laws measure it. -/
def sumN : Nat → (Nat → Nat) → Nat
  | 0, _ => 0
  | n + 1, g => sumN n g + g n
def Tr.sz : Tr → Nat
  | .leaf _ => 0
  | .list s n f => n + sumN n (fun k => sumN s (fun j => (f k j).sz))
def szT (s : Nat) (ts : Nat → Tr) : Nat := sumN s (fun j => (ts j).sz)
theorem Tr.sz_list (s n : Nat) (f : Nat → Nat → Tr) : (Tr.list s n f).sz = n + sumN n (fun k => szT s (f k)) := rfl
def lfT (left t : Nat) : Int := if t ≤ left then (left : Int) - (t : Int) else -1
/- Rows of numbers and of bits, as trees. -/
def intsT (ws : List Int) : Tr := .list 1 ws.length (fun k _ => .leaf (.int .i64 (ws.getD k 0)))
def boolsT (bs : List Bool) : Tr := .list 1 bs.length (fun k _ => .leaf (.bool (bs.getD k false)))
def trs (l : List Tr) : Nat → Tr := fun j => l.getD j (.leaf undef)
end Go.Proofs.Ytohikbpolofklaa
namespace Go.Proofs.Ytohikbpolofklaa
open Go.RowKit Go.Joins
set_option linter.unusedVariables false
set_option linter.unusedSimpArgs false
theorem run_bldz {P : Program} {ρ : Operand → Value} {o : Oper} {u u' : World} {t : TypeId} {ps : Array (Nat × Operand)} {qs : Array (Nat × Value)} {v : Value} (ho : o.op = .build t ps) (ha : ps.map (fun (i, x) => (i, ρ x)) = qs) (hr : (Instr.build t qs).run P u = .ok v u') : (execOp ρ o).run P u = .ok (.value v) u' := by
  unfold execOp
  simp only [ho, ha]
  rw [Sem.run_bind, hr]
  rfl
end Go.Proofs.Ytohikbpolofklaa
namespace Go.Proofs.Ytohikbpolofklaa
open Go.RowKit
set_option linter.unusedVariables false
set_option linter.unusedSimpArgs false
theorem row_setLb {w : World} {base size n g o : Nat} {e t : TypeId} {v : Value} {xs vs : List Value} (h : w.ownsRow base e size v n xs) (hb : ExB w g t) (ht : t ≠ e) : (setL w g o vs).ownsRow base e size v n xs := by
  obtain ⟨cs, hb⟩ := hb
  exact World.ownsRow.kept h (setL_gw vs w o) (.inr (row_noBlk h hb ht))
theorem Blk.wrb {u : World} {g o : Nat} {t : TypeId} {cs cs' : Array Value} {vs : List Value} (h : Blk u g t cs) (he : wrA cs o vs = cs') : Blk (setL u g o vs) g t cs' := by
  rw [← he]; exact Blk.stL _ _ h
theorem run_alloc_b {P : Program} {ρ : Operand → Value} {o : Oper} {w : World} (ty : TypeId) (ho : o.op = .alloc ty) (cs : Array Value) (n b : Nat) (hi : (P.info? ty).map (fun i => (i.zero, i.size, i.bytes)) = some (some (.agg cs), n, b)) : (execOp ρ o).run P w = .ok (.value (.pointer (some ⟨w.heap.size, 0, none⟩))) (w.alloc (.cells cs ty)) := by
  have hz : (zeroValue ty).run P w = .ok (.agg cs) w := by
    cases hq : P.info? ty with
    | none => simp [hq] at hi
    | some i => simp [hq] at hi; simp [zeroValue, typeInfo, hq, hi.1]
  unfold execOp
  simp only [ho]
  rw [Sem.run_bind]
  have h9 : (Instr.alloc ty true (.tuple #[])).run P w = .ok (.pointer (some ⟨w.heap.size, 0, none⟩)) (w.alloc (.cells cs ty)) := by
    unfold Instr.alloc
    rw [Sem.run_bind, hz]
    rfl
  rw [h9]
  rfl
def BtP (nm un : Int) (R : List Int) (w w' : World) (e : Ending) : Prop :=
  ∃ ao co no, e = .returned (.agg (bxc nm un ao no co)) ∧ no = R.length ∧ Own w' w.heap.size (.slice ao no co) R ∧ Below w.heap.size w w'
set_option maxRecDepth 20000 in
set_option maxHeartbeats 4000000 in
theorem implBoxTell_q (nm un : Int) (a : Option Addr) (l c : Nat) (kd fl pl nn : Int) (a1 a2 : Option Addr) (l1 l2 c1 c2 : Nat) (ws : List Int) (bs : List Bool) (w : World) (h1 : l1 = ws.length) (h2 : l2 = bs.length) (s1 : SlI w a1 ws) (s2 : SlB w a2 bs) (hl1 : ws.length ≤ 2000000) (hl2 : bs.length ≤ 2000000) (R : List Int) (hR : putAV (okA kd fl pl nn ws l1 l2) kd fl pl nn ws bs = R) :
    Calls Try.prog 9 #[.agg (bxc nm un a l c), rp kd fl pl nn a1 a2 l1 l2 c1 c2] w fun e w' => BtP nm un R w w' e := by
  obtain ⟨W, hW⟩ : ∃ W, W = ((w.alloc (.cells (bxc nm un a l c) 31)).alloc (.cells #[.int .i64 kd, .int .i64 fl, .int .i64 pl, .int .i64 nn, .slice a1 l1 c1, .slice a2 l2 c2] 34)).alloc (.cells (bxc 0 0 none 0 0) 31) := ⟨_, rfl⟩
  have hz : W.heap.size = w.heap.size + 1 + 1 + 1 := by rw [hW]; simp
  have B0 : Below w.heap.size w W := by rw [hW]; exact bel_next (bel_next (bel_alloc w _) (bel_alloc _ _)) (bel_alloc _ _)
  have X0 : Blk W w.heap.size 31 (bxc nm un a l c) := by rw [hW]; exact ((Blk.new w _ _).below (bel_alloc _ _)).below (bel_alloc _ _)
  have Y0 : Blk W (w.heap.size + 1) 34 #[.int .i64 kd, .int .i64 fl, .int .i64 pl, .int .i64 nn, .slice a1 l1 c1, .slice a2 l2 c2] := by
    rw [hW]; have := (Blk.new (w.alloc (.cells (bxc nm un a l c) 31)) #[.int .i64 kd, .int .i64 fl, .int .i64 pl, .int .i64 nn, .slice a1 l1 c1, .slice a2 l2 c2] 34).below (bel_alloc _ (.cells (bxc 0 0 none 0 0) 31)); simpa using this
  have Z0 : Blk W (w.heap.size + 1 + 1) 31 (bxc 0 0 none 0 0) := by
    rw [hW]; have := Blk.new ((w.alloc (.cells (bxc nm un a l c) 31)).alloc (.cells #[.int .i64 kd, .int .i64 fl, .int .i64 pl, .int .i64 nn, .slice a1 l1 c1, .slice a2 l2 c2] 34)) (bxc 0 0 none 0 0) 31; simpa using this
  have HH : Hid (l1 = ws.length ∧ l2 = bs.length ∧ SlI W a1 ws ∧ SlB W a2 bs ∧ putAV (okA kd fl pl nn ws l1 l2) kd fl pl nn ws bs = R) := ⟨h1, h2, s1.below B0, s2.below B0, hR⟩
  have HB : Hid (Below w.heap.size w W ∧ Blk W w.heap.size 31 (bxc nm un a l c) ∧ Blk W (w.heap.size + 1) 34 #[.int .i64 kd, .int .i64 fl, .int .i64 pl, .int .i64 nn, .slice a1 l1 c1, .slice a2 l2 c2] ∧ Blk W (w.heap.size + 1 + 1) 31 (bxc 0 0 none 0 0) ∧ W.heap.size = w.heap.size + 1 + 1 + 1) := ⟨B0, X0, Y0, Z0, hz⟩
  clear h1 h2 s1 s2 hR B0 X0 Y0 Z0 hz
  go_enter Try.func9, Try.ntmps9
  go_upto_region 1 with fail
  rw [← hW]
  clear hW
  try go_simp
  refine wp_region_any (by kernel_rfl) ?_
  refine wpAny_st 7 (fun u => Below W.heap.size W u)
    (fun σ u => ∃ ao co no, no = R.length ∧ Own u W.heap.size (.slice ao no co) R ∧ Blk u (w.heap.size + 1 + 1) 31 (bxc nm un ao no co) ∧ Below w.heap.size w u)
    (fun i v u => match i with
      | 0 => v = .pointer (some ⟨w.heap.size, 0, none⟩)
      | 1 => v = .int .i64 nm
      | 2 => v = .pointer (some ⟨w.heap.size, 1, none⟩)
      | 3 => v = .int .i64 un
      | 4 => v = rp kd fl pl nn a1 a2 l1 l2 c1 c2
      | 5 => ∃ ao co no, v = .slice ao no co ∧ no = R.length ∧ Own u W.heap.size (.slice ao no co) R
      | 6 => ∃ ao co no, v = .agg (bxc nm un ao no co) ∧ no = R.length ∧ Own u W.heap.size (.slice ao no co) R
      | _ => True) (by kernel_rfl) (by kernel_rfl) rfl (by kernel_rfl) (fun u u' h hb => bel_next h hb) ?_ (by first | exact Below.refl _ _ | exact (Below.refl _ _).drew) ?_ ?_ ?_ _ _ rfl (by decide) (fun i => by simp [Array.getD]; try (split <;> rfl))
  · intro i v u u' h hb
    match i, h with
    | 0, h => exact h
    | 1, h => exact h
    | 2, h => exact h
    | 3, h => exact h
    | 4, h => exact h
    | 5, ⟨ao, co, no, e, h9, r⟩ => exact ⟨ao, co, no, e, h9, r.below hb⟩
    | 6, ⟨ao, co, no, e, h9, r⟩ => exact ⟨ao, co, no, e, h9, r.below hb⟩
    | _ + 7, _ => trivial
  rotate_left
  · intro u i o ρ hi hR ho hρ hc hf hd
    obtain rfl | rfl | rfl | rfl | rfl | rfl | rfl : i = 0 ∨ i = 1 ∨ i = 2 ∨ i = 3 ∨ i = 4 ∨ i = 5 ∨ i = 6 := by omega
    all_goals (simp only [List.getElem?_toArray, List.getElem?_cons_zero, List.getElem?_cons_succ, Option.some.injEq] at ho; subst ho)
    · have s0 : ρ (.tmp 2) = .pointer (some ⟨w.heap.size, 0, none⟩) := (hρ 2 (by kernel_rfl)).trans rfl
      exact .inl ⟨rfl, .inl ⟨_, u, run_field_op rfl s0 (by go_simp), rfl, Below.refl _ _⟩⟩
    · have s0 : ρ (.tmp 5) = .pointer (some ⟨w.heap.size, 0, none⟩) := hd ⟨0, .data⟩ (by simp) rfl 5 rfl
      have c0 := (HB.out.2.1.below hR).cell 0 rfl
      exact .inl ⟨rfl, .inl ⟨_, u, run_load_op rfl s0 (by go_simp), rfl, Below.refl _ _⟩⟩
    · have s0 : ρ (.tmp 2) = .pointer (some ⟨w.heap.size, 0, none⟩) := (hρ 2 (by kernel_rfl)).trans rfl
      exact .inl ⟨rfl, .inl ⟨_, u, run_field_op rfl s0 (by go_simp), rfl, Below.refl _ _⟩⟩
    · have s0 : ρ (.tmp 7) = .pointer (some ⟨w.heap.size, 1, none⟩) := hd ⟨2, .data⟩ (by simp) rfl 7 rfl
      have c0 := (HB.out.2.1.below hR).cell 1 rfl
      exact .inl ⟨rfl, .inl ⟨_, u, run_load_op rfl s0 (by go_simp), rfl, Below.refl _ _⟩⟩
    · have s0 : ρ (.tmp 3) = .pointer (some ⟨w.heap.size + 1, 0, none⟩) := (hρ 3 (by kernel_rfl)).trans rfl
      exact .inl ⟨rfl, .inl ⟨_, u, run_load_op rfl s0 (run_loadAt_mid u (w.heap.size + 1) 0 34 [.int .i64 kd, .int .i64 fl, .int .i64 pl, .int .i64 nn, .slice a1 l1 c1, .slice a2 l2 c2] _ (Blk.all (vs := [.int .i64 kd, .int .i64 fl, .int .i64 pl, .int .i64 nn, .slice a1 l1 c1, .slice a2 l2 c2]) (HB.out.2.2.1.below hR)) Try.underlying34 rfl (by kernel_rfl)), rfl, Below.refl _ _⟩⟩
    · have h0 : ρ (.tmp 9) = rp kd fl pl nn a1 a2 l1 l2 c1 c2 := hd ⟨4, .data⟩ (by simp) rfl 9 rfl
      refine .inl ⟨rfl, .inr ⟨_, _, run_call_op rfl (hf _) (args := #[rp kd fl pl nn a1 a2 l1 l2 c1 c2]) (by simp [h0]) (by kernel_rfl), ?_⟩⟩
      refine (implPutA_q kd fl pl nn a1 a2 l1 l2 c1 c2 ws bs _ HH.out.1 HH.out.2.1 (HH.out.2.2.1.below hR) (HH.out.2.2.2.1.below hR) hl1 hl2).mono ?_
      rintro e u' ⟨ao, co, no, he, hno, ro, b'⟩
      rw [HH.out.2.2.2.2] at hno ro
      exact ⟨_, he, ⟨ao, co, no, rfl, hno, own_mono ro hR.size⟩, b'⟩
    · have h1 : ρ (.tmp 6) = .int .i64 nm := hd ⟨1, .data⟩ (by simp) rfl 6 rfl
      have h3 : ρ (.tmp 8) = .int .i64 un := hd ⟨3, .data⟩ (by simp) rfl 8 rfl
      obtain ⟨ao, co, no, h5, hno, ro⟩ : ∃ ao co no, ρ (.tmp 10) = .slice ao no co ∧ no = R.length ∧ Own u W.heap.size (.slice ao no co) R := hd ⟨5, .data⟩ (by simp) rfl 10 rfl
      exact .inl ⟨rfl, .inl ⟨.agg (bxc nm un ao no co), u, run_bldz rfl (qs := #[(0, .int .i64 nm), (1, .int .i64 un), (2, .slice ao no co)]) (by simp [h1, h3, h5]) (by kernel_rfl), ⟨ao, co, no, rfl, hno, ro⟩, Below.refl _ _⟩⟩
  · intro u o ρ hR ho hρ hc hv
    simp only [List.getElem?_toArray, List.getElem?_cons_zero, List.getElem?_cons_succ, Option.some.injEq] at ho
    subst ho
    obtain ⟨ao, co, no, h6, hno, ro⟩ : ∃ ao co no, ρ (.tmp 11) = .agg (bxc nm un ao no co) ∧ no = R.length ∧ Own u W.heap.size (.slice ao no co) R := hv 6 11 (by decide) rfl
    have s0 : ρ (.tmp 4) = .pointer (some ⟨w.heap.size + 1 + 1, 0, none⟩) := (hρ 4 (by kernel_rfl)).trans rfl
    have k1 := HB.out.2.2.2.1.below hR
    exact ⟨rfl, setL u (w.heap.size + 1 + 1) 0 [.int .i64 nm, .int .i64 un, .slice ao no co], run_store_op rfl s0 h6 ((run_storeAt_mid u (w.heap.size + 1 + 1) 0 31 (bxc nm un ao no co) (k1.there 0 3 (by simp)) (by kernel_rfl) (by simp [Value.oneCell'])).trans (by rw [setCells_L])), ao, co, no, hno, row_setLb ro ⟨_, k1⟩ (by decide), Blk.wrb k1 (by simp [wrA]), setL_below (by omega) _ _ _ (bel_next HB.out.1 hR)⟩
  intro vs σ u hE hvs
  obtain ⟨ao, co, no, hno, ro, kZ, bZ⟩ := hE
  have H9 : Hid (no = R.length ∧ Own u W.heap.size (.slice ao no co) R ∧ Blk u (w.heap.size + 1 + 1) 31 (bxc nm un ao no co) ∧ Below w.heap.size w u) := ⟨hno, ro, kZ, bZ⟩
  obtain ⟨z0, z1, z2⟩ := kZ.tri
  clear hvs hno ro kZ bZ
  try simp only [putsL]
  try go_simp
  go_wp2
  refine bodyPost_ret (v := .agg (bxc nm un ao no co)) (by simp [results, Try.results9, go_sem, z0, z1, z2]) rfl ?_
  obtain ⟨hno, ro, kZ, bZ⟩ := H9.out
  exact ⟨ao, co, no, rfl, hno, own_mono ro (by have := HB.out.2.2.2.2; omega), bZ⟩
set_option maxRecDepth 20000 in
set_option maxHeartbeats 4000000 in
theorem specBoxTell_q (nm un : Int) (a : Option Addr) (l c : Nat) (kd fl pl nn : Int) (a1 a2 : Option Addr) (l1 l2 c1 c2 : Nat) (ws : List Int) (bs : List Bool) (w : World) (h1 : l1 = ws.length) (h2 : l2 = bs.length) (s1 : SlI w a1 ws) (s2 : SlB w a2 bs) (hl1 : ws.length ≤ 2000000) (hl2 : bs.length ≤ 2000000) (R : List Int) (hR : putAV (okA kd fl pl nn ws l1 l2) kd fl pl nn ws bs = R) :
    Calls Try.prog 6 #[.agg (bxc nm un a l c), rp kd fl pl nn a1 a2 l1 l2 c1 c2] w fun e w' => BtP nm un R w w' e := by
  obtain ⟨W, hW⟩ : ∃ W, W = ((w.alloc (.cells (bxc nm un a l c) 31)).alloc (.cells #[.int .i64 kd, .int .i64 fl, .int .i64 pl, .int .i64 nn, .slice a1 l1 c1, .slice a2 l2 c2] 34)).alloc (.cells (bxc 0 0 none 0 0) 31) := ⟨_, rfl⟩
  have hz : W.heap.size = w.heap.size + 1 + 1 + 1 := by rw [hW]; simp
  have B0 : Below w.heap.size w W := by rw [hW]; exact bel_next (bel_next (bel_alloc w _) (bel_alloc _ _)) (bel_alloc _ _)
  have X0 : Blk W w.heap.size 31 (bxc nm un a l c) := by rw [hW]; exact ((Blk.new w _ _).below (bel_alloc _ _)).below (bel_alloc _ _)
  have Y0 : Blk W (w.heap.size + 1) 34 #[.int .i64 kd, .int .i64 fl, .int .i64 pl, .int .i64 nn, .slice a1 l1 c1, .slice a2 l2 c2] := by
    rw [hW]; have := (Blk.new (w.alloc (.cells (bxc nm un a l c) 31)) #[.int .i64 kd, .int .i64 fl, .int .i64 pl, .int .i64 nn, .slice a1 l1 c1, .slice a2 l2 c2] 34).below (bel_alloc _ (.cells (bxc 0 0 none 0 0) 31)); simpa using this
  have Z0 : Blk W (w.heap.size + 1 + 1) 31 (bxc 0 0 none 0 0) := by
    rw [hW]; have := Blk.new ((w.alloc (.cells (bxc nm un a l c) 31)).alloc (.cells #[.int .i64 kd, .int .i64 fl, .int .i64 pl, .int .i64 nn, .slice a1 l1 c1, .slice a2 l2 c2] 34)) (bxc 0 0 none 0 0) 31; simpa using this
  have HH : Hid (l1 = ws.length ∧ l2 = bs.length ∧ SlI W a1 ws ∧ SlB W a2 bs ∧ putAV (okA kd fl pl nn ws l1 l2) kd fl pl nn ws bs = R) := ⟨h1, h2, s1.below B0, s2.below B0, hR⟩
  have HB : Hid (Below w.heap.size w W ∧ Blk W w.heap.size 31 (bxc nm un a l c) ∧ Blk W (w.heap.size + 1) 34 #[.int .i64 kd, .int .i64 fl, .int .i64 pl, .int .i64 nn, .slice a1 l1 c1, .slice a2 l2 c2] ∧ Blk W (w.heap.size + 1 + 1) 31 (bxc 0 0 none 0 0) ∧ W.heap.size = w.heap.size + 1 + 1 + 1) := ⟨B0, X0, Y0, Z0, hz⟩
  clear h1 h2 s1 s2 hR B0 X0 Y0 Z0 hz
  go_enter Try.func6, Try.ntmps6
  go_upto_region 1 with fail
  rw [← hW]
  clear hW
  try go_simp
  refine wp_region_any (by kernel_rfl) ?_
  refine wpAny_st 7 (fun u => Below W.heap.size W u)
    (fun σ u => ∃ ao co no, no = R.length ∧ Own u W.heap.size (.slice ao no co) R ∧ Blk u (w.heap.size + 1 + 1) 31 (bxc nm un ao no co) ∧ Below w.heap.size w u)
    (fun i v u => match i with
      | 0 => v = .pointer (some ⟨w.heap.size, 0, none⟩)
      | 1 => v = .int .i64 nm
      | 2 => v = .pointer (some ⟨w.heap.size, 1, none⟩)
      | 3 => v = .int .i64 un
      | 4 => v = rp kd fl pl nn a1 a2 l1 l2 c1 c2
      | 5 => ∃ ao co no, v = .slice ao no co ∧ no = R.length ∧ Own u W.heap.size (.slice ao no co) R
      | 6 => ∃ ao co no, v = .agg (bxc nm un ao no co) ∧ no = R.length ∧ Own u W.heap.size (.slice ao no co) R
      | _ => True) (by kernel_rfl) (by kernel_rfl) rfl (by kernel_rfl) (fun u u' h hb => bel_next h hb) ?_ (by first | exact Below.refl _ _ | exact (Below.refl _ _).drew) ?_ ?_ ?_ _ _ rfl (by decide) (fun i => by simp [Array.getD]; try (split <;> rfl))
  · intro i v u u' h hb
    match i, h with
    | 0, h => exact h
    | 1, h => exact h
    | 2, h => exact h
    | 3, h => exact h
    | 4, h => exact h
    | 5, ⟨ao, co, no, e, h9, r⟩ => exact ⟨ao, co, no, e, h9, r.below hb⟩
    | 6, ⟨ao, co, no, e, h9, r⟩ => exact ⟨ao, co, no, e, h9, r.below hb⟩
    | _ + 7, _ => trivial
  rotate_left
  · intro u i o ρ hi hR ho hρ hc hf hd
    obtain rfl | rfl | rfl | rfl | rfl | rfl | rfl : i = 0 ∨ i = 1 ∨ i = 2 ∨ i = 3 ∨ i = 4 ∨ i = 5 ∨ i = 6 := by omega
    all_goals (simp only [List.getElem?_toArray, List.getElem?_cons_zero, List.getElem?_cons_succ, Option.some.injEq] at ho; subst ho)
    · have s0 : ρ (.tmp 2) = .pointer (some ⟨w.heap.size, 0, none⟩) := (hρ 2 (by kernel_rfl)).trans rfl
      exact .inl ⟨rfl, .inl ⟨_, u, run_field_op rfl s0 (by go_simp), rfl, Below.refl _ _⟩⟩
    · have s0 : ρ (.tmp 5) = .pointer (some ⟨w.heap.size, 0, none⟩) := hd ⟨0, .data⟩ (by simp) rfl 5 rfl
      have c0 := (HB.out.2.1.below hR).cell 0 rfl
      exact .inl ⟨rfl, .inl ⟨_, u, run_load_op rfl s0 (by go_simp), rfl, Below.refl _ _⟩⟩
    · have s0 : ρ (.tmp 2) = .pointer (some ⟨w.heap.size, 0, none⟩) := (hρ 2 (by kernel_rfl)).trans rfl
      exact .inl ⟨rfl, .inl ⟨_, u, run_field_op rfl s0 (by go_simp), rfl, Below.refl _ _⟩⟩
    · have s0 : ρ (.tmp 7) = .pointer (some ⟨w.heap.size, 1, none⟩) := hd ⟨2, .data⟩ (by simp) rfl 7 rfl
      have c0 := (HB.out.2.1.below hR).cell 1 rfl
      exact .inl ⟨rfl, .inl ⟨_, u, run_load_op rfl s0 (by go_simp), rfl, Below.refl _ _⟩⟩
    · have s0 : ρ (.tmp 3) = .pointer (some ⟨w.heap.size + 1, 0, none⟩) := (hρ 3 (by kernel_rfl)).trans rfl
      exact .inl ⟨rfl, .inl ⟨_, u, run_load_op rfl s0 (run_loadAt_mid u (w.heap.size + 1) 0 34 [.int .i64 kd, .int .i64 fl, .int .i64 pl, .int .i64 nn, .slice a1 l1 c1, .slice a2 l2 c2] _ (Blk.all (vs := [.int .i64 kd, .int .i64 fl, .int .i64 pl, .int .i64 nn, .slice a1 l1 c1, .slice a2 l2 c2]) (HB.out.2.2.1.below hR)) Try.underlying34 rfl (by kernel_rfl)), rfl, Below.refl _ _⟩⟩
    · have h0 : ρ (.tmp 9) = rp kd fl pl nn a1 a2 l1 l2 c1 c2 := hd ⟨4, .data⟩ (by simp) rfl 9 rfl
      refine .inl ⟨rfl, .inr ⟨_, _, run_call_op rfl (hf _) (args := #[rp kd fl pl nn a1 a2 l1 l2 c1 c2]) (by simp [h0]) (by kernel_rfl), ?_⟩⟩
      refine (specPutA_q kd fl pl nn a1 a2 l1 l2 c1 c2 ws bs _ HH.out.1 HH.out.2.1 (HH.out.2.2.1.below hR) (HH.out.2.2.2.1.below hR) hl1 hl2).mono ?_
      rintro e u' ⟨ao, co, no, he, hno, ro, b'⟩
      rw [HH.out.2.2.2.2] at hno ro
      exact ⟨_, he, ⟨ao, co, no, rfl, hno, own_mono ro hR.size⟩, b'⟩
    · have h1 : ρ (.tmp 6) = .int .i64 nm := hd ⟨1, .data⟩ (by simp) rfl 6 rfl
      have h3 : ρ (.tmp 8) = .int .i64 un := hd ⟨3, .data⟩ (by simp) rfl 8 rfl
      obtain ⟨ao, co, no, h5, hno, ro⟩ : ∃ ao co no, ρ (.tmp 10) = .slice ao no co ∧ no = R.length ∧ Own u W.heap.size (.slice ao no co) R := hd ⟨5, .data⟩ (by simp) rfl 10 rfl
      exact .inl ⟨rfl, .inl ⟨.agg (bxc nm un ao no co), u, run_bldz rfl (qs := #[(0, .int .i64 nm), (1, .int .i64 un), (2, .slice ao no co)]) (by simp [h1, h3, h5]) (by kernel_rfl), ⟨ao, co, no, rfl, hno, ro⟩, Below.refl _ _⟩⟩
  · intro u o ρ hR ho hρ hc hv
    simp only [List.getElem?_toArray, List.getElem?_cons_zero, List.getElem?_cons_succ, Option.some.injEq] at ho
    subst ho
    obtain ⟨ao, co, no, h6, hno, ro⟩ : ∃ ao co no, ρ (.tmp 11) = .agg (bxc nm un ao no co) ∧ no = R.length ∧ Own u W.heap.size (.slice ao no co) R := hv 6 11 (by decide) rfl
    have s0 : ρ (.tmp 4) = .pointer (some ⟨w.heap.size + 1 + 1, 0, none⟩) := (hρ 4 (by kernel_rfl)).trans rfl
    have k1 := HB.out.2.2.2.1.below hR
    exact ⟨rfl, setL u (w.heap.size + 1 + 1) 0 [.int .i64 nm, .int .i64 un, .slice ao no co], run_store_op rfl s0 h6 ((run_storeAt_mid u (w.heap.size + 1 + 1) 0 31 (bxc nm un ao no co) (k1.there 0 3 (by simp)) (by kernel_rfl) (by simp [Value.oneCell'])).trans (by rw [setCells_L])), ao, co, no, hno, row_setLb ro ⟨_, k1⟩ (by decide), Blk.wrb k1 (by simp [wrA]), setL_below (by omega) _ _ _ (bel_next HB.out.1 hR)⟩
  intro vs σ u hE hvs
  obtain ⟨ao, co, no, hno, ro, kZ, bZ⟩ := hE
  have H9 : Hid (no = R.length ∧ Own u W.heap.size (.slice ao no co) R ∧ Blk u (w.heap.size + 1 + 1) 31 (bxc nm un ao no co) ∧ Below w.heap.size w u) := ⟨hno, ro, kZ, bZ⟩
  obtain ⟨z0, z1, z2⟩ := kZ.tri
  clear hvs hno ro kZ bZ
  try simp only [putsL]
  try go_simp
  go_wp2
  refine bodyPost_ret (v := .agg (bxc nm un ao no co)) (by simp [results, Try.results6, go_sem, z0, z1, z2]) rfl ?_
  obtain ⟨hno, ro, kZ, bZ⟩ := H9.out
  exact ⟨ao, co, no, rfl, hno, own_mono ro (by have := HB.out.2.2.2.2; omega), bZ⟩
end Go.Proofs.Ytohikbpolofklaa
