/- Texts that the proof needs, joined: RgI RgV RgW RgX RgY RgZ Qt1. -/
import Derived.Test.YtplaoagcedgdfaaV2
import Derived.RegionTactic
import Derived.Below
import Derived.Deep.MidRow
import Derived.Test.YtplaoagcedgdfaaV1
import Derived.Test.YtplaoagcedgdfaaV9
set_option linter.unusedVariables false
set_option linter.unusedSimpArgs false
set_option maxHeartbeats 4000000
set_option maxRecDepth 20000
namespace Go.Proofs.Ytplaoagcedgdfaa
open Go.RowKit
theorem getD_eq {l : Array Bool} {i : Nat} (h : i < l.size) (x y : Bool) : l.getD i x = l.getD i y := by
 simp [Array.getD, h]
theorem count_set (l : List Bool) (i : Nat) (h : l[i]? = some false) : (l.set i true).count false + 1 = l.count false := by
 induction l generalizing i with
 | nil => simp at h
 | cons x r ih =>
  cases i with
  | zero => simp at h; subst h; simp
  | succ i => simp at h; have := ih i h; cases x <;> simp <;> omega
theorem ready_mem {md : Region.Mode} {ops : Array Oper} {l : Array Bool} {i : Nat} (h : i ∈ Region.ready md ops l) :
 i < ops.size /\ l.getD i true = false /\ ∀ o, ops[i]? = some o -> ∀ e ∈ o.after, Region.binds md e = true -> l.getD e.on false = true := by
 unfold Region.ready at h
 rw [List.mem_filter] at h
 obtain ⟨h1, h2⟩ := h
 simp only [Bool.and_eq_true, Bool.not_eq_true'] at h2
 refine ⟨List.mem_range.1 h1, h2.1, fun o ho e he hb => ?_⟩
 have h3 := h2.2
 rw [ho] at h3
 simp only [Option.map_some, Option.getD_some, Array.all_eq_true_iff_forall_mem] at h3
 have h4 := h3 e he
 simpa [hb] using h4
theorem ready_of {md : Region.Mode} {ops : Array Oper} {l : Array Bool} {i : Nat} {o : Oper} (hi : i < ops.size) (ho : ops[i]? = some o) (hl : l.getD i true = false) (hd : ∀ e ∈ o.after, Region.binds md e = true -> l.getD e.on false = true) : i ∈ Region.ready md ops l := by
 unfold Region.ready
 rw [List.mem_filter]
 refine ⟨List.mem_range.2 hi, ?_⟩
 simp only [Bool.and_eq_true, Bool.not_eq_true']
 refine ⟨hl, ?_⟩
 rw [ho]
 simp only [Option.map_some, Option.getD_some, Array.all_eq_true_iff_forall_mem]
 intro e he
 cases hb : Region.binds md e
 ·rfl
 simpa using hd e he hb
def ordB (md : Region.Mode) (ops : Array Oper) : Bool := (List.range ops.size).all fun i => ((ops[i]?).map (·.after.all fun e => !Region.binds md e || decide (e.on < i))).getD true
theorem ordB_of {md : Region.Mode} {ops : Array Oper} (h : ordB md ops = true) : ∀ i o, ops[i]? = some o -> ∀ e ∈ o.after, Region.binds md e = true -> e.on < i := by
 intro i o ho e he hb
 unfold ordB at h
 rw [List.all_eq_true] at h
 have hi : i < ops.size := (Array.getElem?_eq_some_iff.1 ho).1
 have h1 := h i (List.mem_range.2 hi)
 rw [ho] at h1
 simp only [Option.map_some, Option.getD_some, Array.all_eq_true_iff_forall_mem] at h1
 have h2 := h1 e he
 simpa [hb] using h2
theorem wpAny_inv {P : Program} {ops : Array Oper} {Q : Exit -> Act -> World -> Prop} {md : Region.Mode} (Inv : Array Bool -> Act -> World -> Prop)
 (hordB : ordB md ops = true)
 (hend : ∀ l a w, Inv l a w -> (∀ i, i < ops.size -> l.getD i true = true) -> Q .normal a w)
 (hstep : ∀ l a w i o, Inv l a w -> ops[i]? = some o -> l.getD i true = false -> (∀ e ∈ o.after, Region.binds md e = true -> l.getD e.on false = true) ->
  ∀ K : Act -> World -> Prop, (∀ a w, Inv (l.setIfInBounds i true) a w -> K a w) -> if Region.wanted o (yielded ops a.tmps) = true then Oper.wp P o a w K Q else K (a.put o.dst undef) w) :
 ∀ (fuel : Nat) (l : Array Bool) (a : Act) (w : World), l.size = ops.size -> l.toList.count false <= fuel -> Inv l a w -> wpAny P md ops Q fuel l a w := by
 have hord := ordB_of hordB
 have hall : ∀ l : Array Bool, l.size = ops.size -> Region.ready md ops l = [] -> ∀ i, i < ops.size -> l.getD i true = true := by
  intro l hs hr i
  induction i using Nat.strongRecOn with
  | ind i ih =>
   intro hi
   cases hl : l.getD i true
   ·obtain ⟨o, ho⟩ : ∃ o, ops[i]? = some o := ⟨ops[i], by simp [hi]⟩
    have : i ∈ Region.ready md ops l := ready_of hi ho hl (fun e he hb => by
     have h1 := hord i o ho e he hb
     rw [getD_eq (by omega) false true]
     exact ih e.on h1 (by omega))
    rw [hr] at this
    simp at this
   rfl
 intro fuel
 induction fuel with
 | zero =>
  intro l a w hs hc hI
  have hr : Region.ready md ops l = [] := by
   apply List.eq_nil_iff_forall_not_mem.2
   intro i hi
   obtain ⟨h1, h2, _⟩ := ready_mem hi
   have h3 : l.toList[i]? = some false := by
    have h4 : i < l.size := by omega
    rw [Array.getElem?_toList]
    simp [Array.getD, h4] at h2
    simp [h4, h2]
   have := count_set l.toList i h3
   omega
  exact ⟨hr, hend l a w hI (hall l hs hr)⟩
 | succ fuel ih =>
  intro l a w hs hc hI
  refine ⟨fun hr => hend l a w hI (hall l hs hr), fun i hi => ?_⟩
  obtain ⟨h1, h2, h3⟩ := ready_mem hi
  obtain ⟨o, ho⟩ : ∃ o, ops[i]? = some o := ⟨ops[i], by simp [h1]⟩
  refine wpOp_step ho (fun K' hK' => hstep l a w i o hI ho h2 (h3 o ho) K' (fun a' w' hI' => hK' a' w' (ih _ a' w' (by simpa using hs) ?_ hI')))
  have h4 : l.toList[i]? = some false := by
   have h5 : i < l.size := by omega
   rw [Array.getElem?_toList]
   simp [Array.getD, h5] at h2
   simp [h5, h2]
  have := count_set l.toList i h4
  rw [Array.toList_setIfInBounds]
  omega
end Go.Proofs.Ytplaoagcedgdfaa
namespace Go.Proofs.Ytplaoagcedgdfaa
open Go.RowKit
def dstOf (ops : Array Oper) (i : Nat) : Option Tmp := (ops[i]?).bind (·.dst)
def dstB (ops : Array Oper) (n : Nat) : Bool :=
 (List.range ops.size).all fun i => match dstOf ops i with
  | some d => decide (d < n) && (List.range ops.size).all fun j => decide (j = i) || decide (dstOf ops j ≠ some d)
  | none => false
def isDst (ops : Array Oper) (s : Nat) : Bool := (List.range ops.size).any fun i => decide (dstOf ops i = some s)
def putsL (a : Act) : Nat -> List Oper -> (Nat -> Value) -> Act
 | _, [], _ => a
 | i, o :: os, vs => putsL (a.put o.dst (vs i)) (i + 1) os vs
def wantV (ops : Array Oper) (o : Oper) (ρ : Operand -> Value) : Bool :=
 match o.guard with
 | none => true
 | some (j, want) => match dstOf ops j with
  | some d => (match ρ (.tmp d) with | .bool b => b == want | _ => false)
  | none => false
def StpV (P : Program) (ops : Array Oper) (Φ : Nat -> Value -> World -> Prop) (R : World -> Prop) (i : Nat) (o : Oper) (ρ : Operand -> Value) (u : World) : Prop :=
 (wantV ops o ρ = true /\ ((∃ v u', (execOp ρ o).run P u = .ok (.value v) u' /\ Φ i v u' /\ R u' /\ Below u.heap.size u u') \/ (∃ f args, (execOp ρ o).run P u = .ok (.enter f args) u /\ Calls P f args u fun e u' => ∃ v, e = .returned v /\ Φ i v u' /\ R u' /\ Below u.heap.size u u')))
 \/ (wantV ops o ρ = false /\ Φ i undef u)
structure InvV (ops : Array Oper) (Φ : Nat -> Value -> World -> Prop) (R : World -> Prop) (a0 : Act) (l : Array Bool) (a : Act) (u : World) : Prop where
 r : R u
 ls : l.size = ops.size
 df : a.defers = a0.defers
 sz : a.tmps.size = a0.tmps.size
 old : ∀ s, (∀ i d, dstOf ops i = some d -> l.getD i false = true -> d ≠ s) -> a.tmps.getD s undef = a0.tmps.getD s undef
 val : ∀ i d, dstOf ops i = some d -> l.getD i false = true -> Φ i (a.tmps.getD d undef) u
theorem dstB_of {ops : Array Oper} {n : Nat} (h : dstB ops n = true) {i : Nat} (hi : i < ops.size) : ∃ d, dstOf ops i = some d /\ d < n /\ ∀ j, j < ops.size -> dstOf ops j = some d -> j = i := by
 unfold dstB at h
 rw [List.all_eq_true] at h
 have h1 := h i (List.mem_range.2 hi)
 cases hd : dstOf ops i with
 | none => rw [hd] at h1; cases h1
 | some d =>
  rw [hd] at h1
  simp only [Bool.and_eq_true, decide_eq_true_eq, List.all_eq_true, Bool.or_eq_true] at h1
  refine ⟨d, rfl, h1.1, fun j hj e => ?_⟩
  rcases h1.2 j (List.mem_range.2 hj) with h2 | h2
  ·exact h2
  exact absurd e h2
theorem getD_set {l : Array Bool} {i j : Nat} (hi : i < l.size) : (l.setIfInBounds i true).getD j false = if j = i then true else l.getD j false := by
 simp only [Array.getD_eq_getD_getElem?, Array.getElem?_setIfInBounds]
 by_cases e : j = i
 ·subst e; simp [hi]
 rw [if_neg (Ne.symm e), if_neg e]
theorem getD_put {a : Act} {d s : Nat} {v : Value} (hd : d < a.tmps.size) : (a.put (some d) v).tmps.getD s undef = if s = d then v else a.tmps.getD s undef := by
 show (a.tmps.setIfInBounds d v).getD s undef = _
 simp only [Array.getD_eq_getD_getElem?, Array.getElem?_setIfInBounds]
 by_cases e : s = d
 ·subst e; simp [hd]
 rw [if_neg (Ne.symm e), if_neg e]
theorem InvV.next {ops : Array Oper} {Φ : Nat -> Value -> World -> Prop} {R : World -> Prop} {a0 : Act} {l : Array Bool} {a : Act} {u u' : World} (h : InvV ops Φ R a0 l a u) (hB : dstB ops a0.tmps.size = true)
 (hmono : ∀ i v u u', Φ i v u -> Below u.heap.size u u' -> Φ i v u') {i : Nat} {o : Oper} (ho : ops[i]? = some o) {v : Value} (hv : Φ i v u') (hr : R u') (hb : Below u.heap.size u u') :
 InvV ops Φ R a0 (l.setIfInBounds i true) (a.put o.dst v) u' := by
 have hi : i < ops.size := (Array.getElem?_eq_some_iff.1 ho).1
 obtain ⟨d, hd, hlt, hun⟩ := dstB_of hB hi
 have hod : o.dst = some d := by simpa [dstOf, ho] using hd
 rw [hod]
 have hlt' : d < a.tmps.size := by rw [h.sz]; exact hlt
 have hil : i < l.size := by rw [h.ls]; exact hi
 refine ⟨hr, by simpa using h.ls, h.df, by simpa [Act.put] using h.sz, fun s hs => ?_, fun j e hj hl => ?_⟩
 ·have hne : d ≠ s := hs i d hd (by rw [getD_set hil, if_pos rfl])
  rw [getD_put hlt', if_neg (Ne.symm hne)]
  exact h.old s (fun j e hj hl => hs j e hj (by rw [getD_set hil]; split; rfl; exact hl))
 have hjs : j < ops.size := by
  cases hoj : ops[j]? with
  | none => rw [dstOf, hoj] at hj; cases hj
  | some o' => exact (Array.getElem?_eq_some_iff.1 hoj).1
 rw [getD_put hlt']
 by_cases e1 : e = d
 ·subst e1
  obtain rfl := hun j hjs hj
  rw [if_pos rfl]
  exact hv
 rw [if_neg e1]
 have e2 : j ≠ i := fun e2 => by subst e2; rw [hd] at hj; exact e1 (Option.some.inj hj).symm
 rw [getD_set hil, if_neg e2] at hl
 exact hmono _ _ _ _ (h.val j e hj hl) hb
theorem putsL_eq {a : Act} : ∀ (os : List Oper) (k : Nat) (a' : Act) (vs : Nat -> Value), a'.defers = a.defers -> a'.tmps.size = a.tmps.size -> (∀ (j : Nat) (o : Oper) (d : Nat), os[j]? = some o -> o.dst = some d -> vs (k + j) = a.tmps.getD d undef) ->
 (∀ s, a'.tmps.getD s undef = a.tmps.getD s undef \/ ∃ (j : Nat) (o : Oper), os[j]? = some o /\ o.dst = some s) -> (∀ (j : Nat) (o : Oper), os[j]? = some o -> ∃ d, o.dst = some d /\ d < a.tmps.size) -> putsL a' k os vs = a
 | [], k, a', vs, h1, h2, _, h4, _ => by
  have e : a'.tmps = a.tmps := by
   apply Array.ext h2
   intro i hi1 hi2
   rcases h4 i with h | ⟨j, o, h, _⟩
   ·simpa [Array.getD, hi1, hi2] using h
   simp at h
  cases a'; cases a
  simp only at e h1
  subst e h1
  rfl
 | o :: os, k, a', vs, h1, h2, h3, h4, h5 => by
  obtain ⟨d, hd, hlt⟩ := h5 0 o rfl
  show putsL (a'.put o.dst (vs k)) (k + 1) os vs = a
  rw [hd]
  refine putsL_eq os (k + 1) _ vs h1 (by simpa [Act.put] using h2) (fun j o' d' ho hd' => by rw [show k + 1 + j = k + (j + 1) by omega]; exact h3 (j + 1) o' d' (by simpa using ho) hd') (fun s => ?_) (fun j o' ho => h5 (j + 1) o' (by simpa using ho))
  rw [getD_put (by rw [h2]; exact hlt)]
  by_cases e : s = d
  ·subst e
   rw [if_pos rfl]
   exact .inl (by simpa using h3 0 o s rfl hd)
  rw [if_neg e]
  rcases h4 s with h | ⟨j, o', ho, hd'⟩
  ·exact .inl h
  cases j with
  | zero => simp at ho; subst ho; rw [hd] at hd'; exact absurd (Option.some.inj hd').symm e
  | succ j => exact .inr ⟨j, o', by simpa using ho, hd'⟩
theorem wanted_eq {ops : Array Oper} {a : Act} {o : Oper} (h : ∀ j d, dstOf ops j = some d -> d < a.tmps.size) : Region.wanted o (yielded ops a.tmps) = wantV ops o a.eval := by
 unfold Region.wanted wantV
 cases o.guard with
 | none => rfl
 | some p =>
  obtain ⟨j, want⟩ := p
  have hy : yielded ops a.tmps j = match dstOf ops j with
   | some d => (match a.eval (.tmp d) with | .bool b => some b | _ => none)
   | none => none := by
   unfold yielded dstOf
   cases hd : (ops[j]?).bind (·.dst) with
   | none => rfl
   | some d =>
    have hlt := h j d hd
    have e : (some d).bind (fun t => a.tmps[t]?) = some (a.eval (.tmp d)) := by
     show a.tmps[d]? = some (a.tmps.getD d undef)
     simp [Array.getD, hlt]
    rw [e]
    simp only
    generalize a.eval (.tmp d) = x
    cases x <;> rfl
  show (yielded ops a.tmps j == some want) = (match dstOf ops j with
   | some d => (match a.eval (.tmp d) with | .bool b => b == want | _ => false)
   | none => false)
  rw [hy]
  cases dstOf ops j with
  | none => rfl
  | some d =>
   simp only
   generalize a.eval (.tmp d) = x
   cases x <;> simp
theorem wpAny_vals {P : Program} {ops : Array Oper} {Q : Exit -> Act -> World -> Prop} {md : Region.Mode} {a0 : Act} {w0 : World} (R : World -> Prop) (Φ : Nat -> Value -> World -> Prop)
 (hordB : ordB md ops = true) (hB : dstB ops a0.tmps.size = true) (hmono : ∀ i v u u', Φ i v u -> Below u.heap.size u u' -> Φ i v u') (h0 : R w0)
 (hend : ∀ (vs : Nat -> Value) u, R u -> (∀ i, i < ops.size -> Φ i (vs i) u) -> Q .normal (putsL a0 0 ops.toList vs) u)
 (hstep : ∀ u i o (ρ : Operand -> Value), R u -> ops[i]? = some o -> (∀ s, isDst ops s = false -> ρ (.tmp s) = a0.eval (.tmp s)) -> (∀ v, ρ (.const v) = v) -> (∀ f, ρ (.func f) = .func (.func f) #[] #[]) ->
  (∀ e ∈ o.after, Region.binds md e = true -> ∀ d, dstOf ops e.on = some d -> Φ e.on (ρ (.tmp d)) u) -> StpV P ops Φ R i o ρ u)
 (fuel : Nat) (l : Array Bool) (hs : l.size = ops.size) (hc : l.toList.count false <= fuel) (hl : ∀ i, l.getD i false = false) : wpAny P md ops Q fuel l a0 w0 := by
 refine wpAny_inv (InvV ops Φ R a0) hordB ?_ ?_ fuel l a0 w0 hs hc ?_
 ·intro l a u h hall
  have hall' : ∀ i, i < ops.size -> l.getD i false = true := fun i hi => by rw [getD_eq (by rw [h.ls]; exact hi) false true]; exact hall i hi
  have e : putsL a0 0 ops.toList (fun i => a.tmps.getD ((dstOf ops i).getD 0) undef) = a := by
   refine putsL_eq ops.toList 0 a0 _ h.df.symm h.sz.symm (fun j o d ho hd => ?_) (fun s => ?_) (fun j o ho => ?_)
   ·rw [Nat.zero_add]
    have : dstOf ops j = some d := by rw [Array.getElem?_toList] at ho; simp [dstOf, ho, hd]
    show a.tmps.getD ((dstOf ops j).getD 0) undef = _
    rw [this]; rfl
   ·by_cases hx : ∃ j d, dstOf ops j = some d /\ l.getD j false = true /\ d = s
    ·obtain ⟨j, d, hd, _, rfl⟩ := hx
     right
     unfold dstOf at hd
     cases ho : ops[j]? with
     | none => rw [ho] at hd; cases hd
     | some o => rw [ho] at hd; exact ⟨j, o, by rw [Array.getElem?_toList]; exact ho, hd⟩
    left
    exact (h.old s (fun i d hd hl e => hx ⟨i, d, hd, hl, e⟩)).symm
   rw [Array.getElem?_toList] at ho
   have hi : j < ops.size := (Array.getElem?_eq_some_iff.1 ho).1
   obtain ⟨d, hd, hlt, _⟩ := dstB_of hB hi
   exact ⟨d, by simpa [dstOf, ho] using hd, by rw [h.sz]; exact hlt⟩
  rw [<- e]
  refine hend _ u h.r (fun i hi => ?_)
  obtain ⟨d, hd, _, _⟩ := dstB_of hB hi
  show Φ i (a.tmps.getD ((dstOf ops i).getD 0) undef) u
  rw [hd]
  exact h.val i d hd (hall' i hi)
 ·intro l a u i o h ho hli hdep K hK
  have hi : i < ops.size := (Array.getElem?_eq_some_iff.1 ho).1
  have hin : ∀ j d, dstOf ops j = some d -> j < ops.size := fun j d hj => by
   unfold dstOf at hj
   cases hoj : ops[j]? with
   | none => rw [hoj] at hj; cases hj
   | some o' => exact (Array.getElem?_eq_some_iff.1 hoj).1
  have hw : Region.wanted o (yielded ops a.tmps) = wantV ops o a.eval := wanted_eq (fun j d hj => by
   obtain ⟨d', hd', hlt, _⟩ := dstB_of hB (hin j d hj)
   rw [hj] at hd'
   rw [h.sz, Option.some.inj hd']; exact hlt)
  have hst := hstep u i o a.eval h.r ho (fun s hns => by
   refine h.old s (fun j d hj _ e => ?_)
   subst e
   have : isDst ops d = true := by
    unfold isDst
    rw [List.any_eq_true]
    exact ⟨j, List.mem_range.2 (hin j d hj), by simp [hj]⟩
   rw [this] at hns; cases hns) (fun _ => rfl) (fun _ => rfl) (fun e he hb d hd => h.val e.on d hd (hdep e he hb))
  rcases hst with ⟨hwt, ⟨v, u', hrun, hv, hr, hbl⟩ | ⟨f, args, hrun, hcall⟩⟩ | ⟨hwf, hv⟩
  ·rw [if_pos (by rw [hw]; exact hwt)]
   unfold Oper.wp
   rw [hrun]
   exact hK _ _ (h.next hB hmono ho hv hr hbl)
  ·rw [if_pos (by rw [hw]; exact hwt)]
   unfold Oper.wp
   rw [hrun, Oper.upon_enter]
   refine hcall.mono ?_
   rintro e u' ⟨v, rfl, hv, hr, hbl⟩
   exact hK _ _ (h.next hB hmono ho hv hr hbl)
  rw [if_neg (by rw [hw, hwf]; decide)]
  exact hK _ _ (h.next hB hmono ho hv h.r (Below.refl _ _))
 exact ⟨h0, hs, rfl, rfl, fun _ _ => rfl, fun i d _ hl' => by rw [hl i] at hl'; cases hl'⟩
end Go.Proofs.Ytplaoagcedgdfaa
namespace Go.Proofs.Ytplaoagcedgdfaa
open Go.RowKit
theorem run_load_op {P : Program} {ρ : Operand -> Value} {o : Oper} {u : World} {t : TypeId} {p : Operand} {ptr v : Value} (ho : o.op = .load t p) (hp : ρ p = ptr) (hr : (Instr.loadAt t ptr).run P u = .ok v u) : (execOp ρ o).run P u = .ok (.value v) u := by
 unfold execOp
 simp only [ho, hp]
 rw [Sem.run_bind, hr]
 rfl
theorem run_call_op {P : Program} {ρ : Operand -> Value} {o : Oper} {u : World} {f : FuncId} {xs : Array Operand} {ts : Array TypeId} {args : Array Value} (ho : o.op = .call ⟨.value (.func f), xs, ts⟩) (hf : ρ (.func f) = .func (.func f) #[] #[]) (hx : xs.map ρ = args)
 (hc : (callFunc f args).run P u = .ok (.enter f args) u) : (execOp ρ o).run P u = .ok (.enter f args) u := by
 unfold execOp
 simp only [ho, resolve, hf, hx]
 show (callFunc f ((#[] ++ args) ++ #[])).run P u = _
 simpa using hc
end Go.Proofs.Ytplaoagcedgdfaa
namespace Go.Proofs.Ytplaoagcedgdfaa
open Go.RowKit
def dstC (ops : Array Oper) (n : Nat) : Bool :=
 (List.range ops.size).all fun i => match dstOf ops i with
  | some d => decide (d < n) && (List.range ops.size).all fun j => decide (j = i) || decide (dstOf ops j ≠ some d)
  | none => true
def updB (l : Nat -> Bool) (i : Nat) : Nat -> Bool := fun j => if j = i then true else l j
def StpW (P : Program) (ops : Array Oper) (Φ : Nat -> Value -> World -> Prop) (R : World -> Prop) (M : World -> World -> Prop) (i : Nat) (o : Oper) (ρ : Operand -> Value) (u : World) : Prop :=
 (wantV ops o ρ = true /\ ((∃ v u', (execOp ρ o).run P u = .ok (.value v) u' /\ Φ i v u' /\ R u' /\ M u u') \/ (∃ f args, (execOp ρ o).run P u = .ok (.enter f args) u /\ Calls P f args u fun e u' => ∃ v, e = .returned v /\ Φ i v u' /\ R u' /\ M u u') \/ (o.dst = none /\ ∃ u', (execOp ρ o).run P u = .ok .skip u' /\ R u' /\ M u u')))
 \/ (wantV ops o ρ = false /\ Φ i undef u /\ R u)
structure InvW (md : Region.Mode) (ops : Array Oper) (Φ : Nat -> Value -> World -> Prop) (R : (Nat -> Bool) -> World -> Prop) (a0 : Act) (l : Array Bool) (a : Act) (u : World) : Prop where
 r : R (fun i => l.getD i false) u
 ls : l.size = ops.size
 df : a.defers = a0.defers
 sz : a.tmps.size = a0.tmps.size
 old : ∀ s, (∀ i d, dstOf ops i = some d -> l.getD i false = true -> d ≠ s) -> a.tmps.getD s undef = a0.tmps.getD s undef
 val : ∀ i d, dstOf ops i = some d -> l.getD i false = true -> Φ i (a.tmps.getD d undef) u
 cl : ∀ i o, ops[i]? = some o -> l.getD i false = true -> ∀ e ∈ o.after, Region.binds md e = true -> l.getD e.on false = true
theorem run_un_op {P : Program} {ρ : Operand -> Value} {o : Oper} {u : World} {op : UnOp} {t : TypeId} {x : Operand} {a v : Value} (ho : o.op = .unOp op t x) (ha : ρ x = a) (hr : (Op.unary op a).run P u = .ok v u) : (execOp ρ o).run P u = .ok (.value v) u := by
 unfold execOp
 simp only [ho, ha]
 rw [Sem.run_bind, hr]
 rfl
end Go.Proofs.Ytplaoagcedgdfaa
namespace Go.Proofs.Ytplaoagcedgdfaa
open Go.RowKit
def updS (σ : Nat -> Value) (od : Option Nat) (v : Value) : Nat -> Value := match od with
 | some d => fun s => if s = d then v else σ s
 | none => σ
def StpY (P : Program) (ops : Array Oper) (Φ : Nat -> Value -> World -> Prop) (R : Value -> World -> Prop) (M : World -> World -> Prop) (i : Nat) (o : Oper) (ρ : Operand -> Value) (u : World) : Prop :=
 (wantV ops o ρ = true /\ ((∃ v u', (execOp ρ o).run P u = .ok (.value v) u' /\ Φ i v u' /\ R v u' /\ M u u') \/ (∃ f args, (execOp ρ o).run P u = .ok (.enter f args) u /\ Calls P f args u fun e u' => ∃ v, e = .returned v /\ Φ i v u' /\ R v u' /\ M u u') \/ (o.dst = none /\ ∃ u', (execOp ρ o).run P u = .ok .skip u' /\ R undef u' /\ M u u')))
 \/ (wantV ops o ρ = false /\ Φ i undef u /\ R undef u)
structure InvY (md : Region.Mode) (ops : Array Oper) (Φ : Nat -> Value -> World -> Prop) (R : (Nat -> Bool) -> (Nat -> Value) -> World -> Prop) (a0 : Act) (l : Array Bool) (a : Act) (u : World) : Prop where
 r : R (fun i => l.getD i false) (fun s => a.tmps.getD s undef) u
 ls : l.size = ops.size
 df : a.defers = a0.defers
 sz : a.tmps.size = a0.tmps.size
 old : ∀ s, (∀ i d, dstOf ops i = some d -> l.getD i false = true -> d ≠ s) -> a.tmps.getD s undef = a0.tmps.getD s undef
 val : ∀ i d, dstOf ops i = some d -> l.getD i false = true -> Φ i (a.tmps.getD d undef) u
 cl : ∀ i o, ops[i]? = some o -> l.getD i false = true -> ∀ e ∈ o.after, Region.binds md e = true -> l.getD e.on false = true
end Go.Proofs.Ytplaoagcedgdfaa
namespace Go.Proofs.Ytplaoagcedgdfaa
open Go.RowKit Go.Joins
theorem Blk.rng {w : World} {g : Nat} {t : TypeId} {l : List Value} (h : Blk w g t l.toArray) : w.rangeAt g 0 l := fun j v hv => by
 rw [Nat.zero_add]
 exact h.cell j (by simpa using hv)
end Go.Proofs.Ytplaoagcedgdfaa
namespace Go.Proofs.Ytplaoagcedgdfaa
open Go.RowKit Go.Joins
def quW (X : VW) : Bool := decide (X.fb.op.m = 0) && decide (X.nk = 0)
theorem implQuiet_w (X : VW) (a1 : Option Addr) (c1 : Nat) (a2 : Option Addr) (c2 : Nat) (a3 : Option Addr) (c3 : Nat) (a4 : Option Addr) (c4 : Nat) (a5 : Option Addr) (c5 : Nat) (a6 : Option Addr) (c6 : Nat) (a7 : Option Addr) (c7 : Nat) (w : World) (h : Rd w 0 (.list 7 X.fb.set.n (fun i => trs (xrT (X.fb.set.f i)))) (.slice a1 X.fb.set.n c1) /\ Rd w 0 (.list 13 X.fb.op.m (fun i => trs (dT (X.fb.op.f i)))) (.slice a2 X.fb.op.m c2) /\ Rd w 0 (.list 17 X.fb.nl (fun i => trs (xnT (X.fb.lf i)))) (.slice a3 X.fb.nl c3) /\ Rd w 0 (.list 6 X.ns (fun i => trs (xsT (X.sf i)))) (.slice a4 X.ns c4) /\ Rd w 0 (.list 16 X.nk (fun i => trs (xkT (X.kf i)))) (.slice a5 X.nk c5) /\ Rd w 0 (.list 16 X.nr (fun i => trs (xyT (X.rf i)))) (.slice a6 X.nr c6) /\ Rd w 0 (.list 15 X.ne (fun i => trs (xeT (X.ef i)))) (.slice a7 X.ne c7)) (hb : True) :
 Calls Try.prog 7 #[.agg (xwL X a1 X.fb.set.n c1 a2 X.fb.op.m c2 a3 X.fb.nl c3 a4 X.ns c4 a5 X.nk c5 a6 X.nr c6 a7 X.ne c7).toArray] w fun e w' => e = .returned (.bool (quW X)) /\ Below w.heap.size w w' := by
 obtain ⟨W, hW⟩ : ∃ W, W = w.alloc (.cells (xwL X a1 X.fb.set.n c1 a2 X.fb.op.m c2 a3 X.fb.nl c3 a4 X.ns c4 a5 X.nk c5 a6 X.nr c6 a7 X.ne c7).toArray 53) := ⟨_, rfl⟩
 obtain ⟨G, hG⟩ : ∃ G, G = w.heap.size := ⟨_, rfl⟩
 have bW : Below w.heap.size w W := by rw [hW]; exact bel_alloc w _
 have k0 : Blk W G 53 (xwL X a1 X.fb.set.n c1 a2 X.fb.op.m c2 a3 X.fb.nl c3 a4 X.ns c4 a5 X.nk c5 a6 X.nr c6 a7 X.ne c7).toArray := by rw [hW, hG]; exact Blk.new w _ _
 obtain ⟨⟨y0, y1, y2, y3, y4, y5, y6, y7, y8, y9, y10, y11, y12, y13, y14⟩, yf⟩ := k0.tc15
 clear h hb k0 yf
 go_enter Try.func7, Try.ntmps7
 go_upto_region 1 with fail
 rw [<- hW, <- hG]
 clear hW hG
 by_cases h0 : X.fb.op.m = 0
 ·have i0 : (X.fb.op.m : Int) = 0 := by omega
  have HQ : Hid (quW X = ((X.nk : Int) == 0)) := by show quW X = _; unfold quW; rw [decide_eq_true h0, Bool.true_and, Bool.eq_iff_iff]; simp
  clear h0
  go_wp2
  go_ret
  exact ⟨by rw [HQ.out]; rfl, bW⟩
 have i0 : ¬ (X.fb.op.m : Int) = 0 := by omega
 have HQ : Hid (quW X = false) := by show quW X = _; unfold quW; rw [decide_eq_false h0, Bool.false_and]
 clear h0
 go_wp2
 go_ret
 exact ⟨by rw [HQ.out]; first | rfl | simp, bW⟩
theorem specQuiet_w (X : VW) (a1 : Option Addr) (c1 : Nat) (a2 : Option Addr) (c2 : Nat) (a3 : Option Addr) (c3 : Nat) (a4 : Option Addr) (c4 : Nat) (a5 : Option Addr) (c5 : Nat) (a6 : Option Addr) (c6 : Nat) (a7 : Option Addr) (c7 : Nat) (w : World) (h : Rd w 0 (.list 7 X.fb.set.n (fun i => trs (xrT (X.fb.set.f i)))) (.slice a1 X.fb.set.n c1) /\ Rd w 0 (.list 13 X.fb.op.m (fun i => trs (dT (X.fb.op.f i)))) (.slice a2 X.fb.op.m c2) /\ Rd w 0 (.list 17 X.fb.nl (fun i => trs (xnT (X.fb.lf i)))) (.slice a3 X.fb.nl c3) /\ Rd w 0 (.list 6 X.ns (fun i => trs (xsT (X.sf i)))) (.slice a4 X.ns c4) /\ Rd w 0 (.list 16 X.nk (fun i => trs (xkT (X.kf i)))) (.slice a5 X.nk c5) /\ Rd w 0 (.list 16 X.nr (fun i => trs (xyT (X.rf i)))) (.slice a6 X.nr c6) /\ Rd w 0 (.list 15 X.ne (fun i => trs (xeT (X.ef i)))) (.slice a7 X.ne c7)) (hb : True) :
 Calls Try.prog 5 #[.agg (xwL X a1 X.fb.set.n c1 a2 X.fb.op.m c2 a3 X.fb.nl c3 a4 X.ns c4 a5 X.nk c5 a6 X.nr c6 a7 X.ne c7).toArray] w fun e w' => e = .returned (.bool (quW X)) /\ Below w.heap.size w w' := by
 obtain ⟨W, hW⟩ : ∃ W, W = w.alloc (.cells (xwL X a1 X.fb.set.n c1 a2 X.fb.op.m c2 a3 X.fb.nl c3 a4 X.ns c4 a5 X.nk c5 a6 X.nr c6 a7 X.ne c7).toArray 53) := ⟨_, rfl⟩
 obtain ⟨G, hG⟩ : ∃ G, G = w.heap.size := ⟨_, rfl⟩
 have bW : Below w.heap.size w W := by rw [hW]; exact bel_alloc w _
 have k0 : Blk W G 53 (xwL X a1 X.fb.set.n c1 a2 X.fb.op.m c2 a3 X.fb.nl c3 a4 X.ns c4 a5 X.nk c5 a6 X.nr c6 a7 X.ne c7).toArray := by rw [hW, hG]; exact Blk.new w _ _
 obtain ⟨⟨y0, y1, y2, y3, y4, y5, y6, y7, y8, y9, y10, y11, y12, y13, y14⟩, yf⟩ := k0.tc15
 clear h hb k0 yf
 go_enter Try.func5, Try.ntmps5
 go_upto_region 1 with fail
 rw [<- hW, <- hG]
 clear hW hG
 by_cases h0 : X.fb.op.m = 0
 ·have i0 : (X.fb.op.m : Int) = 0 := by omega
  have HQ : Hid (quW X = ((X.nk : Int) == 0)) := by show quW X = _; unfold quW; rw [decide_eq_true h0, Bool.true_and, Bool.eq_iff_iff]; simp
  clear h0
  go_wp2
  go_ret
  exact ⟨by rw [HQ.out]; rfl, bW⟩
 have i0 : ¬ (X.fb.op.m : Int) = 0 := by omega
 have HQ : Hid (quW X = false) := by show quW X = _; unfold quW; rw [decide_eq_false h0, Bool.false_and]
 clear h0
 go_wp2
 go_ret
 exact ⟨by rw [HQ.out]; first | rfl | simp, bW⟩
end Go.Proofs.Ytplaoagcedgdfaa
