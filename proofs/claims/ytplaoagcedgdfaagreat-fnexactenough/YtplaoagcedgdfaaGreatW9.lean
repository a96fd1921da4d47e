/- Texts that the proof needs, joined: RgI RgV RgW RgX RgY RgZ Nog Lz Pack1. -/
import Derived.Test.YtplaoagcedgdfaaGreatW2
import Derived.RegionTactic
import Derived.Below
import Derived.Deep.MidRow
import Derived.Test.YtplaoagcedgdfaaGreatW1
import Derived.Test.YtplaoagcedgdfaaGreatW7
import Derived.Test.YtplaoagcedgdfaaGreatW8
set_option linter.unusedVariables false
set_option linter.unusedSimpArgs false
set_option maxHeartbeats 4000000
set_option maxRecDepth 20000
namespace Go.Proofs.YtplaoagcedgdfaaGreat
open Go.RowKit Go.Proofs.Tryz
theorem getD_eq {l : Array Bool} {i : Nat} (h : i < l.size) (x y : Bool) : l.getD i x = l.getD i y := by
 simp [Array.getD, h]
theorem count_set (l : List Bool) (i : Nat) (h : l[i]? = some false) : (l.set i true).count false + 1 = l.count false := by
 induction l generalizing i with
 | nil => simp at h
 | cons x r ih =>
  cases i with
  | zero => simp at h; subst h; simp
  | succ i => simp at h; have := ih i h; cases x <;> simp <;> omega
theorem ready_mem {md : Region.Mode} {ops : Array Oper} {l : Array Bool} {i : Nat} (h : i ∈ Region.ready md ops l) :
 i < ops.size /\ l.getD i true = false /\ ∀ o, ops[i]? = some o -> ∀ e ∈ o.after, Region.binds md e = true -> l.getD e.on false = true := by
 unfold Region.ready at h
 rw [List.mem_filter] at h
 obtain ⟨h1, h2⟩ := h
 simp only [Bool.and_eq_true, Bool.not_eq_true'] at h2
 refine ⟨List.mem_range.1 h1, h2.1, fun o ho e he hb => ?_⟩
 have h3 := h2.2
 rw [ho] at h3
 simp only [Option.map_some, Option.getD_some, Array.all_eq_true_iff_forall_mem] at h3
 have h4 := h3 e he
 simpa [hb] using h4
theorem ready_of {md : Region.Mode} {ops : Array Oper} {l : Array Bool} {i : Nat} {o : Oper} (hi : i < ops.size) (ho : ops[i]? = some o) (hl : l.getD i true = false) (hd : ∀ e ∈ o.after, Region.binds md e = true -> l.getD e.on false = true) : i ∈ Region.ready md ops l := by
 unfold Region.ready
 rw [List.mem_filter]
 refine ⟨List.mem_range.2 hi, ?_⟩
 simp only [Bool.and_eq_true, Bool.not_eq_true']
 refine ⟨hl, ?_⟩
 rw [ho]
 simp only [Option.map_some, Option.getD_some, Array.all_eq_true_iff_forall_mem]
 intro e he
 cases hb : Region.binds md e
 ·rfl
 simpa using hd e he hb
def ordB (md : Region.Mode) (ops : Array Oper) : Bool := (List.range ops.size).all fun i => ((ops[i]?).map (·.after.all fun e => !Region.binds md e || decide (e.on < i))).getD true
theorem ordB_of {md : Region.Mode} {ops : Array Oper} (h : ordB md ops = true) : ∀ i o, ops[i]? = some o -> ∀ e ∈ o.after, Region.binds md e = true -> e.on < i := by
 intro i o ho e he hb
 unfold ordB at h
 rw [List.all_eq_true] at h
 have hi : i < ops.size := (Array.getElem?_eq_some_iff.1 ho).1
 have h1 := h i (List.mem_range.2 hi)
 rw [ho] at h1
 simp only [Option.map_some, Option.getD_some, Array.all_eq_true_iff_forall_mem] at h1
 have h2 := h1 e he
 simpa [hb] using h2
theorem wpAny_inv {P : Program} {ops : Array Oper} {Q : Exit -> Act -> World -> Prop} {md : Region.Mode} (Inv : Array Bool -> Act -> World -> Prop)
 (hordB : ordB md ops = true)
 (hend : ∀ l a w, Inv l a w -> (∀ i, i < ops.size -> l.getD i true = true) -> Q .normal a w)
 (hstep : ∀ l a w i o, Inv l a w -> ops[i]? = some o -> l.getD i true = false -> (∀ e ∈ o.after, Region.binds md e = true -> l.getD e.on false = true) ->
  ∀ K : Act -> World -> Prop, (∀ a w, Inv (l.setIfInBounds i true) a w -> K a w) -> if Region.wanted o (yielded ops a.tmps) = true then Oper.wp P o a w K Q else K (a.put o.dst undef) w) :
 ∀ (fuel : Nat) (l : Array Bool) (a : Act) (w : World), l.size = ops.size -> l.toList.count false <= fuel -> Inv l a w -> wpAny P md ops Q fuel l a w := by
 have hord := ordB_of hordB
 have hall : ∀ l : Array Bool, l.size = ops.size -> Region.ready md ops l = [] -> ∀ i, i < ops.size -> l.getD i true = true := by
  intro l hs hr i
  induction i using Nat.strongRecOn with
  | ind i ih =>
   intro hi
   cases hl : l.getD i true
   ·obtain ⟨o, ho⟩ : ∃ o, ops[i]? = some o := ⟨ops[i], by simp [hi]⟩
    have : i ∈ Region.ready md ops l := ready_of hi ho hl (fun e he hb => by
     have h1 := hord i o ho e he hb
     rw [getD_eq (by omega) false true]
     exact ih e.on h1 (by omega))
    rw [hr] at this
    simp at this
   rfl
 intro fuel
 induction fuel with
 | zero =>
  intro l a w hs hc hI
  have hr : Region.ready md ops l = [] := by
   apply List.eq_nil_iff_forall_not_mem.2
   intro i hi
   obtain ⟨h1, h2, _⟩ := ready_mem hi
   have h3 : l.toList[i]? = some false := by
    have h4 : i < l.size := by omega
    rw [Array.getElem?_toList]
    simp [Array.getD, h4] at h2
    simp [h4, h2]
   have := count_set l.toList i h3
   omega
  exact ⟨hr, hend l a w hI (hall l hs hr)⟩
 | succ fuel ih =>
  intro l a w hs hc hI
  refine ⟨fun hr => hend l a w hI (hall l hs hr), fun i hi => ?_⟩
  obtain ⟨h1, h2, h3⟩ := ready_mem hi
  obtain ⟨o, ho⟩ : ∃ o, ops[i]? = some o := ⟨ops[i], by simp [h1]⟩
  refine wpOp_step ho (fun K' hK' => hstep l a w i o hI ho h2 (h3 o ho) K' (fun a' w' hI' => hK' a' w' (ih _ a' w' (by simpa using hs) ?_ hI')))
  have h4 : l.toList[i]? = some false := by
   have h5 : i < l.size := by omega
   rw [Array.getElem?_toList]
   simp [Array.getD, h5] at h2
   simp [h5, h2]
  have := count_set l.toList i h4
  rw [Array.toList_setIfInBounds]
  omega
def dstOf (ops : Array Oper) (i : Nat) : Option Tmp := (ops[i]?).bind (·.dst)
def dstB (ops : Array Oper) (n : Nat) : Bool :=
 (List.range ops.size).all fun i => match dstOf ops i with
  | some d => decide (d < n) && (List.range ops.size).all fun j => decide (j = i) || decide (dstOf ops j ≠ some d)
  | none => false
def isDst (ops : Array Oper) (s : Nat) : Bool := (List.range ops.size).any fun i => decide (dstOf ops i = some s)
def putsL (a : Act) : Nat -> List Oper -> (Nat -> Value) -> Act
 | _, [], _ => a
 | i, o :: os, vs => putsL (a.put o.dst (vs i)) (i + 1) os vs
def wantV (ops : Array Oper) (o : Oper) (ρ : Operand -> Value) : Bool :=
 match o.guard with
 | none => true
 | some (j, want) => match dstOf ops j with
  | some d => (match ρ (.tmp d) with | .bool b => b == want | _ => false)
  | none => false
theorem nog {ops : Array Oper} {o : Oper} {ρ : Operand -> Value} {j : Nat} {want : Bool} {d : Tmp} {x : Value} (hg : o.guard = some (j, want)) (hd : dstOf ops j = some d) (h : ρ (.tmp d) = x) (hx : (match (generalizing := false) x with | .bool b => b == want | _ => false) = false) : wantV ops o ρ = false := by
 unfold wantV
 rw [hg]
 simp only [hd, h]
 exact hx
theorem dq {md : Region.Mode} {ops : Array Oper} {o : Oper} {X : Edge -> Tmp -> Prop} (hd : ∀ e ∈ o.after, Region.binds md e = true -> ∀ d, dstOf ops e.on = some d -> X e d) (k : Nat) (d : Tmp) (hm : ⟨k, .data⟩ ∈ o.after := by simp) (hb : Region.binds md ⟨k, .data⟩ = true := by exact rfl) (he : dstOf ops k = some d := by exact rfl) : X ⟨k, .data⟩ d := hd _ hm hb d he
theorem gq {md : Region.Mode} {ops : Array Oper} {o : Oper} {X : Edge -> Tmp -> Prop} (hd : ∀ e ∈ o.after, Region.binds md e = true -> ∀ d, dstOf ops e.on = some d -> X e d) (k : Nat) (d : Tmp) (hm : ⟨k, .guard⟩ ∈ o.after := by simp) (hb : Region.binds md ⟨k, .guard⟩ = true := by exact rfl) (he : dstOf ops k = some d := by exact rfl) : X ⟨k, .guard⟩ d := hd _ hm hb d he
theorem ngq {A B : Prop} {md : Region.Mode} {ops : Array Oper} {o : Oper} {ρ : Operand -> Value} {X : Edge -> Tmp -> Prop} (x : Value) (hd : ∀ e ∈ o.after, Region.binds md e = true -> ∀ d, dstOf ops e.on = some d -> X e d) (k : Nat) (d : Tmp)
 (hg : ∃ b, o.guard = some (k, b) /\ (match (generalizing := false) x with | .bool c => c == b | _ => false) = false := by exact ⟨_, rfl, rfl⟩) (hx : X ⟨k, .guard⟩ d -> ρ (.tmp d) = x := by exact id) (hB : B := by first | exact rfl | exact trivial)
 (hm : ⟨k, .guard⟩ ∈ o.after := by simp) (hb : Region.binds md ⟨k, .guard⟩ = true := by exact rfl) (he : dstOf ops k = some d := by exact rfl) : A \/ (wantV ops o ρ = false /\ B) := by
 obtain ⟨b, h1, h2⟩ := hg
 exact .inr ⟨nog h1 he (hx (hd _ hm hb d he)) h2, hB⟩
theorem yr {Run F : Value -> World -> Prop} {R M : World -> Prop} {D E : Prop} {ops : Array Oper} {o : Oper} {ρ : Operand -> Value} {v : Value} {u : World} (h : Run v u) (hF : F v u) (hR : R u) (hM : M u := by exact Below.refl _ _) (hw : wantV ops o ρ = true := by exact rfl) : (wantV ops o ρ = true /\ ((∃ v u, Run v u /\ F v u /\ R u /\ M u) \/ D)) \/ E := .inl ⟨hw, .inl ⟨v, u, h, hF, hR, hM⟩⟩
theorem want_of {ops : Array Oper} {o : Oper} {ρ : Operand -> Value} {k : Nat} {d : Tmp} (hg : ∃ b, o.guard = some (k, b) /\ ρ (.tmp d) = .bool b) (he : dstOf ops k = some d) : wantV ops o ρ = true := by
 obtain ⟨b, h1, h2⟩ := hg
 unfold wantV
 rw [h1]
 simp only [he, h2]
 cases b <;> rfl
theorem yq {Run F : Value -> World -> Prop} {R M : World -> Prop} {D E : Prop} {md : Region.Mode} {ops : Array Oper} {o : Oper} {ρ : Operand -> Value} {X : Edge -> Tmp -> Prop} {v : Value} {u : World} (hd : ∀ e ∈ o.after, Region.binds md e = true -> ∀ d, dstOf ops e.on = some d -> X e d) (k : Nat) (d : Tmp) (h : Run v u) (hF : F v u) (hR : R u) (hM : M u := by exact Below.refl _ _)
 (hg : ∃ b, o.guard = some (k, b) /\ (X ⟨k, .guard⟩ d -> ρ (.tmp d) = .bool b) := by exact ⟨_, rfl, id⟩) (hm : ⟨k, .guard⟩ ∈ o.after := by simp) (hb : Region.binds md ⟨k, .guard⟩ = true := by exact rfl) (he : dstOf ops k = some d := by exact rfl) : (wantV ops o ρ = true /\ ((∃ v u, Run v u /\ F v u /\ R u /\ M u) \/ D)) \/ E := by
 obtain ⟨b, h1, h2⟩ := hg
 exact .inl ⟨want_of ⟨b, h1, h2 (hd _ hm hb d he)⟩ he, .inl ⟨v, u, h, hF, hR, hM⟩⟩
def StpV (P : Program) (ops : Array Oper) (Φ : Nat -> Value -> World -> Prop) (R : World -> Prop) (i : Nat) (o : Oper) (ρ : Operand -> Value) (u : World) : Prop :=
 (wantV ops o ρ = true /\ ((∃ v u', (execOp ρ o).run P u = .ok (.value v) u' /\ Φ i v u' /\ R u' /\ Below u.heap.size u u') \/ (∃ f args, (execOp ρ o).run P u = .ok (.enter f args) u /\ Calls P f args u fun e u' => ∃ v, e = .returned v /\ Φ i v u' /\ R u' /\ Below u.heap.size u u')))
 \/ (wantV ops o ρ = false /\ Φ i undef u)
structure InvV (ops : Array Oper) (Φ : Nat -> Value -> World -> Prop) (R : World -> Prop) (a0 : Act) (l : Array Bool) (a : Act) (u : World) : Prop where
 r : R u
 ls : l.size = ops.size
 df : a.defers = a0.defers
 sz : a.tmps.size = a0.tmps.size
 old : ∀ s, (∀ i d, dstOf ops i = some d -> l.getD i false = true -> d ≠ s) -> a.tmps.getD s undef = a0.tmps.getD s undef
 val : ∀ i d, dstOf ops i = some d -> l.getD i false = true -> Φ i (a.tmps.getD d undef) u
theorem dstB_of {ops : Array Oper} {n : Nat} (h : dstB ops n = true) {i : Nat} (hi : i < ops.size) : ∃ d, dstOf ops i = some d /\ d < n /\ ∀ j, j < ops.size -> dstOf ops j = some d -> j = i := by
 unfold dstB at h
 rw [List.all_eq_true] at h
 have h1 := h i (List.mem_range.2 hi)
 cases hd : dstOf ops i with
 | none => rw [hd] at h1; cases h1
 | some d =>
  rw [hd] at h1
  simp only [Bool.and_eq_true, decide_eq_true_eq, List.all_eq_true, Bool.or_eq_true] at h1
  refine ⟨d, rfl, h1.1, fun j hj e => ?_⟩
  rcases h1.2 j (List.mem_range.2 hj) with h2 | h2
  ·exact h2
  exact absurd e h2
theorem getD_set {l : Array Bool} {i j : Nat} (hi : i < l.size) : (l.setIfInBounds i true).getD j false = if j = i then true else l.getD j false := by
 simp only [Array.getD_eq_getD_getElem?, Array.getElem?_setIfInBounds]
 by_cases e : j = i
 ·subst e; simp [hi]
 rw [if_neg (Ne.symm e), if_neg e]
theorem getD_put {a : Act} {d s : Nat} {v : Value} (hd : d < a.tmps.size) : (a.put (some d) v).tmps.getD s undef = if s = d then v else a.tmps.getD s undef := by
 show (a.tmps.setIfInBounds d v).getD s undef = _
 simp only [Array.getD_eq_getD_getElem?, Array.getElem?_setIfInBounds]
 by_cases e : s = d
 ·subst e; simp [hd]
 rw [if_neg (Ne.symm e), if_neg e]
theorem InvV.next {ops : Array Oper} {Φ : Nat -> Value -> World -> Prop} {R : World -> Prop} {a0 : Act} {l : Array Bool} {a : Act} {u u' : World} (h : InvV ops Φ R a0 l a u) (hB : dstB ops a0.tmps.size = true)
 (hmono : ∀ i v u u', Φ i v u -> Below u.heap.size u u' -> Φ i v u') {i : Nat} {o : Oper} (ho : ops[i]? = some o) {v : Value} (hv : Φ i v u') (hr : R u') (hb : Below u.heap.size u u') :
 InvV ops Φ R a0 (l.setIfInBounds i true) (a.put o.dst v) u' := by
 have hi : i < ops.size := (Array.getElem?_eq_some_iff.1 ho).1
 obtain ⟨d, hd, hlt, hun⟩ := dstB_of hB hi
 have hod : o.dst = some d := by simpa [dstOf, ho] using hd
 rw [hod]
 have hlt' : d < a.tmps.size := by rw [h.sz]; exact hlt
 have hil : i < l.size := by rw [h.ls]; exact hi
 refine ⟨hr, by simpa using h.ls, h.df, by simpa [Act.put] using h.sz, fun s hs => ?_, fun j e hj hl => ?_⟩
 ·have hne : d ≠ s := hs i d hd (by rw [getD_set hil, if_pos rfl])
  rw [getD_put hlt', if_neg (Ne.symm hne)]
  exact h.old s (fun j e hj hl => hs j e hj (by rw [getD_set hil]; split; rfl; exact hl))
 have hjs : j < ops.size := by
  cases hoj : ops[j]? with
  | none => rw [dstOf, hoj] at hj; cases hj
  | some o' => exact (Array.getElem?_eq_some_iff.1 hoj).1
 rw [getD_put hlt']
 by_cases e1 : e = d
 ·subst e1
  obtain rfl := hun j hjs hj
  rw [if_pos rfl]
  exact hv
 rw [if_neg e1]
 have e2 : j ≠ i := fun e2 => by subst e2; rw [hd] at hj; exact e1 (Option.some.inj hj).symm
 rw [getD_set hil, if_neg e2] at hl
 exact hmono _ _ _ _ (h.val j e hj hl) hb
theorem putsL_eq {a : Act} : ∀ (os : List Oper) (k : Nat) (a' : Act) (vs : Nat -> Value), a'.defers = a.defers -> a'.tmps.size = a.tmps.size -> (∀ (j : Nat) (o : Oper) (d : Nat), os[j]? = some o -> o.dst = some d -> vs (k + j) = a.tmps.getD d undef) ->
 (∀ s, a'.tmps.getD s undef = a.tmps.getD s undef \/ ∃ (j : Nat) (o : Oper), os[j]? = some o /\ o.dst = some s) -> (∀ (j : Nat) (o : Oper), os[j]? = some o -> ∃ d, o.dst = some d /\ d < a.tmps.size) -> putsL a' k os vs = a
 | [], k, a', vs, h1, h2, _, h4, _ => by
  have e : a'.tmps = a.tmps := by
   apply Array.ext h2
   intro i hi1 hi2
   rcases h4 i with h | ⟨j, o, h, _⟩
   ·simpa [Array.getD, hi1, hi2] using h
   simp at h
  cases a'; cases a
  simp only at e h1
  subst e h1
  rfl
 | o :: os, k, a', vs, h1, h2, h3, h4, h5 => by
  obtain ⟨d, hd, hlt⟩ := h5 0 o rfl
  show putsL (a'.put o.dst (vs k)) (k + 1) os vs = a
  rw [hd]
  refine putsL_eq os (k + 1) _ vs h1 (by simpa [Act.put] using h2) (fun j o' d' ho hd' => by rw [show k + 1 + j = k + (j + 1) by omega]; exact h3 (j + 1) o' d' (by simpa using ho) hd') (fun s => ?_) (fun j o' ho => h5 (j + 1) o' (by simpa using ho))
  rw [getD_put (by rw [h2]; exact hlt)]
  by_cases e : s = d
  ·subst e
   rw [if_pos rfl]
   exact .inl (by simpa using h3 0 o s rfl hd)
  rw [if_neg e]
  rcases h4 s with h | ⟨j, o', ho, hd'⟩
  ·exact .inl h
  cases j with
  | zero => simp at ho; subst ho; rw [hd] at hd'; exact absurd (Option.some.inj hd').symm e
  | succ j => exact .inr ⟨j, o', by simpa using ho, hd'⟩
theorem wanted_eq {ops : Array Oper} {a : Act} {o : Oper} (h : ∀ j d, dstOf ops j = some d -> d < a.tmps.size) : Region.wanted o (yielded ops a.tmps) = wantV ops o a.eval := by
 unfold Region.wanted wantV
 cases o.guard with
 | none => rfl
 | some p =>
  obtain ⟨j, want⟩ := p
  have hy : yielded ops a.tmps j = match dstOf ops j with
   | some d => (match a.eval (.tmp d) with | .bool b => some b | _ => none)
   | none => none := by
   unfold yielded dstOf
   cases hd : (ops[j]?).bind (·.dst) with
   | none => rfl
   | some d =>
    have hlt := h j d hd
    have e : (some d).bind (fun t => a.tmps[t]?) = some (a.eval (.tmp d)) := by
     show a.tmps[d]? = some (a.tmps.getD d undef)
     simp [Array.getD, hlt]
    rw [e]
    simp only
    generalize a.eval (.tmp d) = x
    cases x <;> rfl
  show (yielded ops a.tmps j == some want) = (match dstOf ops j with
   | some d => (match a.eval (.tmp d) with | .bool b => b == want | _ => false)
   | none => false)
  rw [hy]
  cases dstOf ops j with
  | none => rfl
  | some d =>
   simp only
   generalize a.eval (.tmp d) = x
   cases x <;> simp
theorem wpAny_vals {P : Program} {ops : Array Oper} {Q : Exit -> Act -> World -> Prop} {md : Region.Mode} {a0 : Act} {w0 : World} (R : World -> Prop) (Φ : Nat -> Value -> World -> Prop)
 (hordB : ordB md ops = true) (hB : dstB ops a0.tmps.size = true) (hmono : ∀ i v u u', Φ i v u -> Below u.heap.size u u' -> Φ i v u') (h0 : R w0)
 (hend : ∀ (vs : Nat -> Value) u, R u -> (∀ i, i < ops.size -> Φ i (vs i) u) -> Q .normal (putsL a0 0 ops.toList vs) u)
 (hstep : ∀ u i o (ρ : Operand -> Value), R u -> ops[i]? = some o -> (∀ s, isDst ops s = false -> ρ (.tmp s) = a0.eval (.tmp s)) -> (∀ v, ρ (.const v) = v) -> (∀ f, ρ (.func f) = .func (.func f) #[] #[]) ->
  (∀ e ∈ o.after, Region.binds md e = true -> ∀ d, dstOf ops e.on = some d -> Φ e.on (ρ (.tmp d)) u) -> StpV P ops Φ R i o ρ u)
 (fuel : Nat) (l : Array Bool) (hs : l.size = ops.size) (hc : l.toList.count false <= fuel) (hl : ∀ i, l.getD i false = false) : wpAny P md ops Q fuel l a0 w0 := by
 refine wpAny_inv (InvV ops Φ R a0) hordB ?_ ?_ fuel l a0 w0 hs hc ?_
 ·intro l a u h hall
  have hall' : ∀ i, i < ops.size -> l.getD i false = true := fun i hi => by rw [getD_eq (by rw [h.ls]; exact hi) false true]; exact hall i hi
  have e : putsL a0 0 ops.toList (fun i => a.tmps.getD ((dstOf ops i).getD 0) undef) = a := by
   refine putsL_eq ops.toList 0 a0 _ h.df.symm h.sz.symm (fun j o d ho hd => ?_) (fun s => ?_) (fun j o ho => ?_)
   ·rw [Nat.zero_add]
    have : dstOf ops j = some d := by rw [Array.getElem?_toList] at ho; simp [dstOf, ho, hd]
    show a.tmps.getD ((dstOf ops j).getD 0) undef = _
    rw [this]; rfl
   ·by_cases hx : ∃ j d, dstOf ops j = some d /\ l.getD j false = true /\ d = s
    ·obtain ⟨j, d, hd, _, rfl⟩ := hx
     right
     unfold dstOf at hd
     cases ho : ops[j]? with
     | none => rw [ho] at hd; cases hd
     | some o => rw [ho] at hd; exact ⟨j, o, by rw [Array.getElem?_toList]; exact ho, hd⟩
    left
    exact (h.old s (fun i d hd hl e => hx ⟨i, d, hd, hl, e⟩)).symm
   rw [Array.getElem?_toList] at ho
   have hi : j < ops.size := (Array.getElem?_eq_some_iff.1 ho).1
   obtain ⟨d, hd, hlt, _⟩ := dstB_of hB hi
   exact ⟨d, by simpa [dstOf, ho] using hd, by rw [h.sz]; exact hlt⟩
  rw [<- e]
  refine hend _ u h.r (fun i hi => ?_)
  obtain ⟨d, hd, _, _⟩ := dstB_of hB hi
  show Φ i (a.tmps.getD ((dstOf ops i).getD 0) undef) u
  rw [hd]
  exact h.val i d hd (hall' i hi)
 ·intro l a u i o h ho hli hdep K hK
  have hi : i < ops.size := (Array.getElem?_eq_some_iff.1 ho).1
  have hin : ∀ j d, dstOf ops j = some d -> j < ops.size := fun j d hj => by
   unfold dstOf at hj
   cases hoj : ops[j]? with
   | none => rw [hoj] at hj; cases hj
   | some o' => exact (Array.getElem?_eq_some_iff.1 hoj).1
  have hw : Region.wanted o (yielded ops a.tmps) = wantV ops o a.eval := wanted_eq (fun j d hj => by
   obtain ⟨d', hd', hlt, _⟩ := dstB_of hB (hin j d hj)
   rw [hj] at hd'
   rw [h.sz, Option.some.inj hd']; exact hlt)
  have hst := hstep u i o a.eval h.r ho (fun s hns => by
   refine h.old s (fun j d hj _ e => ?_)
   subst e
   have : isDst ops d = true := by
    unfold isDst
    rw [List.any_eq_true]
    exact ⟨j, List.mem_range.2 (hin j d hj), by simp [hj]⟩
   rw [this] at hns; cases hns) (fun _ => rfl) (fun _ => rfl) (fun e he hb d hd => h.val e.on d hd (hdep e he hb))
  rcases hst with ⟨hwt, ⟨v, u', hrun, hv, hr, hbl⟩ | ⟨f, args, hrun, hcall⟩⟩ | ⟨hwf, hv⟩
  ·rw [if_pos (by rw [hw]; exact hwt)]
   unfold Oper.wp
   rw [hrun]
   exact hK _ _ (h.next hB hmono ho hv hr hbl)
  ·rw [if_pos (by rw [hw]; exact hwt)]
   unfold Oper.wp
   rw [hrun, Oper.upon_enter]
   refine hcall.mono ?_
   rintro e u' ⟨v, rfl, hv, hr, hbl⟩
   exact hK _ _ (h.next hB hmono ho hv hr hbl)
  rw [if_neg (by rw [hw, hwf]; decide)]
  exact hK _ _ (h.next hB hmono ho hv h.r (Below.refl _ _))
 exact ⟨h0, hs, rfl, rfl, fun _ _ => rfl, fun i d _ hl' => by rw [hl i] at hl'; cases hl'⟩
theorem run_load_op {P : Program} {ρ : Operand -> Value} {o : Oper} {u : World} {t : TypeId} {p : Operand} {ptr v : Value} (ho : o.op = .load t p) (hp : ρ p = ptr) (hr : (Instr.loadAt t ptr).run P u = .ok v u) : (execOp ρ o).run P u = .ok (.value v) u := by
 unfold execOp
 simp only [ho, hp]
 rw [Sem.run_bind, hr]
 rfl
theorem run_call_op {P : Program} {ρ : Operand -> Value} {o : Oper} {u : World} {f : FuncId} {xs : Array Operand} {ts : Array TypeId} {args : Array Value} (ho : o.op = .call ⟨.value (.func f), xs, ts⟩) (hf : ρ (.func f) = .func (.func f) #[] #[]) (hx : xs.map ρ = args)
 (hc : (callFunc f args).run P u = .ok (.enter f args) u) : (execOp ρ o).run P u = .ok (.enter f args) u := by
 unfold execOp
 simp only [ho, resolve, hf, hx]
 show (callFunc f ((#[] ++ args) ++ #[])).run P u = _
 simpa using hc
theorem run_pick_op {P : Program} {ρ : Operand -> Value} {o : Oper} {u : World} {c x y : Operand} {b : Bool} (ho : o.op = .pick c x y) (hc : ρ c = .bool b) : (execOp ρ o).run P u = .ok (.value (if b = true then ρ x else ρ y)) u := by
 unfold execOp
 simp only [ho, hc]
 rfl
theorem run_bin_op {P : Program} {ρ : Operand -> Value} {o : Oper} {u : World} {op : BinOp} {t t' : TypeId} {x y : Operand} {a b v : Value} (ho : o.op = .binOp op t x y t') (ha : ρ x = a) (hb : ρ y = b) (hr : (do eqGuard op t x y a b; binOp op t a b : Sem Value).run P u = .ok v u) : (execOp ρ o).run P u = .ok (.value v) u := by
 unfold execOp
 simp only [ho, ha, hb]
 rw [Sem.run_bind, hr]
 rfl
def dstC (ops : Array Oper) (n : Nat) : Bool :=
 (List.range ops.size).all fun i => match dstOf ops i with
  | some d => decide (d < n) && (List.range ops.size).all fun j => decide (j = i) || decide (dstOf ops j ≠ some d)
  | none => true
def updB (l : Nat -> Bool) (i : Nat) : Nat -> Bool := fun j => if j = i then true else l j
def StpW (P : Program) (ops : Array Oper) (Φ : Nat -> Value -> World -> Prop) (R : World -> Prop) (M : World -> World -> Prop) (i : Nat) (o : Oper) (ρ : Operand -> Value) (u : World) : Prop :=
 (wantV ops o ρ = true /\ ((∃ v u', (execOp ρ o).run P u = .ok (.value v) u' /\ Φ i v u' /\ R u' /\ M u u') \/ (∃ f args, (execOp ρ o).run P u = .ok (.enter f args) u /\ Calls P f args u fun e u' => ∃ v, e = .returned v /\ Φ i v u' /\ R u' /\ M u u') \/ (o.dst = none /\ ∃ u', (execOp ρ o).run P u = .ok .skip u' /\ R u' /\ M u u')))
 \/ (wantV ops o ρ = false /\ Φ i undef u /\ R u)
structure InvW (md : Region.Mode) (ops : Array Oper) (Φ : Nat -> Value -> World -> Prop) (R : (Nat -> Bool) -> World -> Prop) (a0 : Act) (l : Array Bool) (a : Act) (u : World) : Prop where
 r : R (fun i => l.getD i false) u
 ls : l.size = ops.size
 df : a.defers = a0.defers
 sz : a.tmps.size = a0.tmps.size
 old : ∀ s, (∀ i d, dstOf ops i = some d -> l.getD i false = true -> d ≠ s) -> a.tmps.getD s undef = a0.tmps.getD s undef
 val : ∀ i d, dstOf ops i = some d -> l.getD i false = true -> Φ i (a.tmps.getD d undef) u
 cl : ∀ i o, ops[i]? = some o -> l.getD i false = true -> ∀ e ∈ o.after, Region.binds md e = true -> l.getD e.on false = true
theorem dstC_of {ops : Array Oper} {n : Nat} (h : dstC ops n = true) {i : Nat} (hi : i < ops.size) {d : Nat} (hd : dstOf ops i = some d) : d < n /\ ∀ j, j < ops.size -> dstOf ops j = some d -> j = i := by
 unfold dstC at h
 rw [List.all_eq_true] at h
 have h1 := h i (List.mem_range.2 hi)
 rw [hd] at h1
 simp only [Bool.and_eq_true, decide_eq_true_eq, List.all_eq_true, Bool.or_eq_true] at h1
 refine ⟨h1.1, fun j hj e => ?_⟩
 rcases h1.2 j (List.mem_range.2 hj) with h2 | h2
 ·exact h2
 exact absurd e h2
theorem dstOf_lt {ops : Array Oper} {j d : Nat} (hj : dstOf ops j = some d) : j < ops.size := by
 unfold dstOf at hj
 cases hoj : ops[j]? with
 | none => rw [hoj] at hj; cases hj
 | some o' => exact (Array.getElem?_eq_some_iff.1 hoj).1
theorem getD_upd {l : Array Bool} {i : Nat} (hi : i < l.size) : (fun j => (l.setIfInBounds i true).getD j false) = updB (fun j => l.getD j false) i := by
 funext j
 exact getD_set hi
theorem InvW.next {md : Region.Mode} {ops : Array Oper} {Φ : Nat -> Value -> World -> Prop} {R : (Nat -> Bool) -> World -> Prop} {M : World -> World -> Prop} {a0 : Act} {l : Array Bool} {a : Act} {u u' : World} (h : InvW md ops Φ R a0 l a u) (hB : dstC ops a0.tmps.size = true)
 (hmono : ∀ i v u u', Φ i v u -> M u u' -> Φ i v u') {i : Nat} {o : Oper} (ho : ops[i]? = some o) (hdep : ∀ e ∈ o.after, Region.binds md e = true -> l.getD e.on false = true) {v : Value} (hv : ∀ d, o.dst = some d -> Φ i v u') (hr : R (updB (fun j => l.getD j false) i) u') (hb : M u u') :
 InvW md ops Φ R a0 (l.setIfInBounds i true) (a.put o.dst v) u' := by
 have hi : i < ops.size := (Array.getElem?_eq_some_iff.1 ho).1
 have hil : i < l.size := by rw [h.ls]; exact hi
 have hcl : ∀ j oj, ops[j]? = some oj -> (l.setIfInBounds i true).getD j false = true -> ∀ e ∈ oj.after, Region.binds md e = true -> (l.setIfInBounds i true).getD e.on false = true := by
  intro j oj hoj hlj e he hbd
  rw [getD_set hil]
  split
  ·rfl
  rw [getD_set hil] at hlj
  by_cases e1 : j = i
  ·subst e1
   rw [ho] at hoj
   cases hoj
   exact hdep e he hbd
  rw [if_neg e1] at hlj
  exact h.cl j oj hoj hlj e he hbd
 have hr' : R (fun j => (l.setIfInBounds i true).getD j false) u' := by rw [getD_upd hil]; exact hr
 cases hod : o.dst with
 | none =>
  have hd : dstOf ops i = none := by simp [dstOf, ho, hod]
  refine ⟨hr', by simpa using h.ls, h.df, h.sz, fun s hs => ?_, fun j e hj hl => ?_, hcl⟩
  ·exact h.old s (fun j e hj hl => hs j e hj (by rw [getD_set hil]; split; rfl; exact hl))
  have e2 : j ≠ i := fun e2 => by subst e2; rw [hd] at hj; cases hj
  rw [getD_set hil, if_neg e2] at hl
  exact hmono _ _ _ _ (h.val j e hj hl) hb
 | some d =>
  have hd : dstOf ops i = some d := by simp [dstOf, ho, hod]
  obtain ⟨hlt, hun⟩ := dstC_of hB hi hd
  have hlt' : d < a.tmps.size := by rw [h.sz]; exact hlt
  refine ⟨hr', by simpa using h.ls, h.df, by simpa [Act.put] using h.sz, fun s hs => ?_, fun j e hj hl => ?_, hcl⟩
  ·have hne : d ≠ s := hs i d hd (by rw [getD_set hil, if_pos rfl])
   rw [getD_put hlt', if_neg (Ne.symm hne)]
   exact h.old s (fun j e hj hl => hs j e hj (by rw [getD_set hil]; split; rfl; exact hl))
  rw [getD_put hlt']
  by_cases e1 : e = d
  ·subst e1
   obtain rfl := hun j (dstOf_lt hj) hj
   rw [if_pos rfl]
   exact hv _ hod
  rw [if_neg e1]
  have e2 : j ≠ i := fun e2 => by subst e2; rw [hd] at hj; exact e1 (Option.some.inj hj).symm
  rw [getD_set hil, if_neg e2] at hl
  exact hmono _ _ _ _ (h.val j e hj hl) hb
theorem putsL_eqW {a : Act} : ∀ (os : List Oper) (k : Nat) (a' : Act) (vs : Nat -> Value), a'.defers = a.defers -> a'.tmps.size = a.tmps.size -> (∀ (j : Nat) (o : Oper) (d : Nat), os[j]? = some o -> o.dst = some d -> vs (k + j) = a.tmps.getD d undef) ->
 (∀ s, a'.tmps.getD s undef = a.tmps.getD s undef \/ ∃ (j : Nat) (o : Oper), os[j]? = some o /\ o.dst = some s) -> (∀ (j : Nat) (o : Oper) (d : Nat), os[j]? = some o -> o.dst = some d -> d < a.tmps.size) -> putsL a' k os vs = a
 | [], k, a', vs, h1, h2, _, h4, _ => by
  have e : a'.tmps = a.tmps := by
   apply Array.ext h2
   intro i hi1 hi2
   rcases h4 i with h | ⟨j, o, h, _⟩
   ·simpa [Array.getD, hi1, hi2] using h
   simp at h
  cases a'; cases a
  simp only at e h1
  subst e h1
  rfl
 | o :: os, k, a', vs, h1, h2, h3, h4, h5 => by
  show putsL (a'.put o.dst (vs k)) (k + 1) os vs = a
  have h3' : ∀ (j : Nat) (o : Oper) (d : Nat), os[j]? = some o -> o.dst = some d -> vs (k + 1 + j) = a.tmps.getD d undef := fun j o' d' ho hd' => by rw [show k + 1 + j = k + (j + 1) by omega]; exact h3 (j + 1) o' d' (by simpa using ho) hd'
  have h5' : ∀ (j : Nat) (o : Oper) (d : Nat), os[j]? = some o -> o.dst = some d -> d < a.tmps.size := fun j o' d' ho hd' => h5 (j + 1) o' d' (by simpa using ho) hd'
  cases hd : o.dst with
  | none =>
   refine putsL_eqW os (k + 1) _ vs h1 h2 h3' (fun s => ?_) h5'
   rcases h4 s with h | ⟨j, o', ho, hd'⟩
   ·exact .inl h
   cases j with
   | zero => simp at ho; subst ho; rw [hd] at hd'; cases hd'
   | succ j => exact .inr ⟨j, o', by simpa using ho, hd'⟩
  | some d =>
   have hlt := h5 0 o d rfl hd
   refine putsL_eqW os (k + 1) _ vs h1 (by simpa [Act.put] using h2) h3' (fun s => ?_) h5'
   rw [getD_put (by rw [h2]; exact hlt)]
   by_cases e : s = d
   ·subst e
    rw [if_pos rfl]
    exact .inl (by simpa using h3 0 o s rfl hd)
   rw [if_neg e]
   rcases h4 s with h | ⟨j, o', ho, hd'⟩
   ·exact .inl h
   cases j with
   | zero => simp at ho; subst ho; rw [hd] at hd'; exact absurd (Option.some.inj hd').symm e
   | succ j => exact .inr ⟨j, o', by simpa using ho, hd'⟩
theorem wpAny_valw {P : Program} {ops : Array Oper} {Q : Exit -> Act -> World -> Prop} {md : Region.Mode} {a0 : Act} {w0 : World} (R : (Nat -> Bool) -> World -> Prop) (M : World -> World -> Prop) (Φ : Nat -> Value -> World -> Prop)
 (hordB : ordB md ops = true) (hB : dstC ops a0.tmps.size = true) (hmono : ∀ i v u u', Φ i v u -> M u u' -> Φ i v u') (hM : ∀ u, M u u) (h0 : R (fun _ => false) w0)
 (hend : ∀ (vs : Nat -> Value) u, R (fun i => decide (i < ops.size)) u -> (∀ i d, dstOf ops i = some d -> Φ i (vs i) u) -> Q .normal (putsL a0 0 ops.toList vs) u)
 (hstep : ∀ u i o (ρ : Operand -> Value) (l : Nat -> Bool), R l u -> ops[i]? = some o -> l i = false -> (∀ j oj, ops[j]? = some oj -> l j = true -> ∀ e ∈ oj.after, Region.binds md e = true -> l e.on = true) ->
  (∀ s, isDst ops s = false -> ρ (.tmp s) = a0.eval (.tmp s)) -> (∀ v, ρ (.const v) = v) -> (∀ f, ρ (.func f) = .func (.func f) #[] #[]) ->
  (∀ e ∈ o.after, Region.binds md e = true -> l e.on = true) -> (∀ j d, dstOf ops j = some d -> l j = true -> Φ j (ρ (.tmp d)) u) -> StpW P ops Φ (R (updB l i)) M i o ρ u)
 (fuel : Nat) (l : Array Bool) (hs : l.size = ops.size) (hc : l.toList.count false <= fuel) (hl : ∀ i, l.getD i false = false) : wpAny P md ops Q fuel l a0 w0 := by
 refine wpAny_inv (InvW md ops Φ R a0) hordB ?_ ?_ fuel l a0 w0 hs hc ?_
 ·intro l a u h hall
  have hall' : ∀ i, i < ops.size -> l.getD i false = true := fun i hi => by rw [getD_eq (by rw [h.ls]; exact hi) false true]; exact hall i hi
  have e : putsL a0 0 ops.toList (fun i => a.tmps.getD ((dstOf ops i).getD 0) undef) = a := by
   refine putsL_eqW ops.toList 0 a0 _ h.df.symm h.sz.symm (fun j o d ho hd => ?_) (fun s => ?_) (fun j o d ho hd => ?_)
   ·rw [Nat.zero_add]
    have : dstOf ops j = some d := by rw [Array.getElem?_toList] at ho; simp [dstOf, ho, hd]
    show a.tmps.getD ((dstOf ops j).getD 0) undef = _
    rw [this]; rfl
   ·by_cases hx : ∃ j d, dstOf ops j = some d /\ l.getD j false = true /\ d = s
    ·obtain ⟨j, d, hd, _, rfl⟩ := hx
     right
     unfold dstOf at hd
     cases ho : ops[j]? with
     | none => rw [ho] at hd; cases hd
     | some o => rw [ho] at hd; exact ⟨j, o, by rw [Array.getElem?_toList]; exact ho, hd⟩
    left
    exact (h.old s (fun i d hd hl e => hx ⟨i, d, hd, hl, e⟩)).symm
   rw [Array.getElem?_toList] at ho
   have hi : j < ops.size := (Array.getElem?_eq_some_iff.1 ho).1
   have hd' : dstOf ops j = some d := by simp [dstOf, ho, hd]
   rw [h.sz]
   exact (dstC_of hB hi hd').1
  rw [<- e]
  refine hend _ u ?_ (fun i d hd => ?_)
  ·have e2 : (fun i => l.getD i false) = (fun i => decide (i < ops.size)) := by
    funext i
    by_cases hi : i < ops.size
    ·rw [hall' i hi]; simp [hi]
    have : ¬ i < l.size := by rw [h.ls]; exact hi
    simp [Array.getD, hi, this]
   rw [<- e2]
   exact h.r
  show Φ i (a.tmps.getD ((dstOf ops i).getD 0) undef) u
  rw [hd]
  exact h.val i d hd (hall' i (dstOf_lt hd))
 ·intro l a u i o h ho hli hdep K hK
  have hi : i < ops.size := (Array.getElem?_eq_some_iff.1 ho).1
  have hw : Region.wanted o (yielded ops a.tmps) = wantV ops o a.eval := wanted_eq (fun j d hj => by
   rw [h.sz]; exact (dstC_of hB (dstOf_lt hj) hj).1)
  have hst := hstep u i o a.eval (fun j => l.getD j false) h.r ho (by show l.getD i false = false; rw [getD_eq (by rw [h.ls]; exact hi) false true]; exact hli) (fun j oj hoj hlj e he hb => h.cl j oj hoj hlj e he hb) (fun s hns => by
   refine h.old s (fun j d hj _ e => ?_)
   subst e
   have : isDst ops d = true := by
    unfold isDst
    rw [List.any_eq_true]
    exact ⟨j, List.mem_range.2 (dstOf_lt hj), by simp [hj]⟩
   rw [this] at hns; cases hns) (fun _ => rfl) (fun _ => rfl) hdep (fun j d hd hlj => h.val j d hd hlj)
  rcases hst with ⟨hwt, ⟨v, u', hrun, hv, hr, hbl⟩ | ⟨f, args, hrun, hcall⟩ | ⟨hno, u', hrun, hr, hbl⟩⟩ | ⟨hwf, hv, hr⟩
  ·rw [if_pos (by rw [hw]; exact hwt)]
   unfold Oper.wp
   rw [hrun]
   exact hK _ _ (h.next hB hmono ho hdep (fun _ _ => hv) hr hbl)
  ·rw [if_pos (by rw [hw]; exact hwt)]
   unfold Oper.wp
   rw [hrun, Oper.upon_enter]
   refine hcall.mono ?_
   rintro e u' ⟨v, rfl, hv, hr, hbl⟩
   exact hK _ _ (h.next hB hmono ho hdep (fun _ _ => hv) hr hbl)
  ·rw [if_pos (by rw [hw]; exact hwt)]
   unfold Oper.wp
   rw [hrun, Oper.upon_skip]
   exact hK _ _ (h.next hB hmono ho hdep (fun d hd => by rw [hno] at hd; cases hd) hr hbl)
  rw [if_neg (by rw [hw, hwf]; decide)]
  exact hK _ _ (h.next hB hmono ho hdep (fun _ _ => hv) hr (hM u))
 refine ⟨?_, hs, rfl, rfl, fun _ _ => rfl, fun i d _ hl' => (by rw [hl i] at hl'; cases hl'), fun i o _ hl' => (by rw [hl i] at hl'; cases hl')⟩
 rw [show (fun i => l.getD i false) = (fun _ => false) from funext hl]
 exact h0
theorem run_callv_op {P : Program} {ρ : Operand -> Value} {o : Oper} {u : World} {f : FuncId} {x : Operand} {xs : Array Operand} {ts : Array TypeId} {args : Array Value} (ho : o.op = .call ⟨.value x, xs, ts⟩) (hf : ρ x = .func (.func f) #[] #[]) (hx : xs.map ρ = args)
 (hc : (callFunc f args).run P u = .ok (.enter f args) u) : (execOp ρ o).run P u = .ok (.enter f args) u := by
 unfold execOp
 simp only [ho, resolve, hf, hx]
 show (callFunc f ((#[] ++ args) ++ #[])).run P u = _
 simpa using hc
theorem run_index_op {P : Program} {ρ : Operand -> Value} {o : Oper} {u : World} {t : TypeId} {x y : Operand} {a b v : Value} (ho : o.op = .indexAddr t x y) (ha : ρ x = a) (hb : ρ y = b) (hr : (Instr.indexAt t a b).run P u = .ok v u) : (execOp ρ o).run P u = .ok (.value v) u := by
 unfold execOp
 simp only [ho, ha, hb]
 rw [Sem.run_bind, hr]
 rfl
theorem run_store_op {P : Program} {ρ : Operand -> Value} {o : Oper} {u u' : World} {t : TypeId} {x y : Operand} {a b : Value} (ho : o.op = .store t x y) (ha : ρ x = a) (hb : ρ y = b) (hr : (Instr.storeAt t a b).run P u = .ok () u') : (execOp ρ o).run P u = .ok .skip u' := by
 unfold execOp
 simp only [ho, ha, hb]
 rw [Sem.run_bind, hr]
 rfl
theorem run_field_op {P : Program} {ρ : Operand -> Value} {o : Oper} {u : World} {s : TypeId} {x : Operand} {f : Nat} {a v : Value} (ho : o.op = .fieldAddr s x f) (ha : ρ x = a) (hr : (Instr.fieldAt s a f).run P u = .ok v u) : (execOp ρ o).run P u = .ok (.value v) u := by
 unfold execOp
 simp only [ho, ha]
 rw [Sem.run_bind, hr]
 rfl
theorem run_build_op {P : Program} {ρ : Operand -> Value} {o : Oper} {u u' : World} {t : TypeId} {n : Nat} {ps : Array (Nat × Operand)} {qs : Array (Nat × Value)} {v : Value} (ho : o.op = .buildSlice t n ps) (ha : ps.map (fun (i, x) => (i, ρ x)) = qs) (hr : (Instr.buildSlice t n qs).run P u = .ok v u') : (execOp ρ o).run P u = .ok (.value v) u' := by
 unfold execOp
 simp only [ho, ha]
 rw [Sem.run_bind, hr]
 rfl
theorem run_un_op {P : Program} {ρ : Operand -> Value} {o : Oper} {u : World} {op : UnOp} {t : TypeId} {x : Operand} {a v : Value} (ho : o.op = .unOp op t x) (ha : ρ x = a) (hr : (Op.unary op a).run P u = .ok v u) : (execOp ρ o).run P u = .ok (.value v) u := by
 unfold execOp
 simp only [ho, ha]
 rw [Sem.run_bind, hr]
 rfl
def updS (σ : Nat -> Value) (od : Option Nat) (v : Value) : Nat -> Value := match od with
 | some d => fun s => if s = d then v else σ s
 | none => σ
def StpY (P : Program) (ops : Array Oper) (Φ : Nat -> Value -> World -> Prop) (R : Value -> World -> Prop) (M : World -> World -> Prop) (i : Nat) (o : Oper) (ρ : Operand -> Value) (u : World) : Prop :=
 (wantV ops o ρ = true /\ ((∃ v u', (execOp ρ o).run P u = .ok (.value v) u' /\ Φ i v u' /\ R v u' /\ M u u') \/ (∃ f args, (execOp ρ o).run P u = .ok (.enter f args) u /\ Calls P f args u fun e u' => ∃ v, e = .returned v /\ Φ i v u' /\ R v u' /\ M u u') \/ (o.dst = none /\ ∃ u', (execOp ρ o).run P u = .ok .skip u' /\ R undef u' /\ M u u')))
 \/ (wantV ops o ρ = false /\ Φ i undef u /\ R undef u)
structure InvY (md : Region.Mode) (ops : Array Oper) (Φ : Nat -> Value -> World -> Prop) (R : (Nat -> Bool) -> (Nat -> Value) -> World -> Prop) (a0 : Act) (l : Array Bool) (a : Act) (u : World) : Prop where
 r : R (fun i => l.getD i false) (fun s => a.tmps.getD s undef) u
 ls : l.size = ops.size
 df : a.defers = a0.defers
 sz : a.tmps.size = a0.tmps.size
 old : ∀ s, (∀ i d, dstOf ops i = some d -> l.getD i false = true -> d ≠ s) -> a.tmps.getD s undef = a0.tmps.getD s undef
 val : ∀ i d, dstOf ops i = some d -> l.getD i false = true -> Φ i (a.tmps.getD d undef) u
 cl : ∀ i o, ops[i]? = some o -> l.getD i false = true -> ∀ e ∈ o.after, Region.binds md e = true -> l.getD e.on false = true
theorem InvY.next {md : Region.Mode} {ops : Array Oper} {Φ : Nat -> Value -> World -> Prop} {R : (Nat -> Bool) -> (Nat -> Value) -> World -> Prop} {M : World -> World -> Prop} {a0 : Act} {l : Array Bool} {a : Act} {u u' : World} (h : InvY md ops Φ R a0 l a u) (hB : dstC ops a0.tmps.size = true)
 (hmono : ∀ i v u u', Φ i v u -> M u u' -> Φ i v u') {i : Nat} {o : Oper} (ho : ops[i]? = some o) (hdep : ∀ e ∈ o.after, Region.binds md e = true -> l.getD e.on false = true) {v : Value} (hv : ∀ d, o.dst = some d -> Φ i v u') (hr : R (updB (fun j => l.getD j false) i) (updS (fun s => a.tmps.getD s undef) o.dst v) u') (hb : M u u') :
 InvY md ops Φ R a0 (l.setIfInBounds i true) (a.put o.dst v) u' := by
 have hi : i < ops.size := (Array.getElem?_eq_some_iff.1 ho).1
 have hil : i < l.size := by rw [h.ls]; exact hi
 have hcl : ∀ j oj, ops[j]? = some oj -> (l.setIfInBounds i true).getD j false = true -> ∀ e ∈ oj.after, Region.binds md e = true -> (l.setIfInBounds i true).getD e.on false = true := by
  intro j oj hoj hlj e he hbd
  rw [getD_set hil]
  split
  ·rfl
  rw [getD_set hil] at hlj
  by_cases e1 : j = i
  ·subst e1
   rw [ho] at hoj
   cases hoj
   exact hdep e he hbd
  rw [if_neg e1] at hlj
  exact h.cl j oj hoj hlj e he hbd
 rw [<- getD_upd hil] at hr
 cases hod : o.dst with
 | none =>
  have hd : dstOf ops i = none := by simp [dstOf, ho, hod]
  rw [hod] at hr
  refine ⟨hr, by simpa using h.ls, h.df, h.sz, fun s hs => ?_, fun j e hj hl => ?_, hcl⟩
  ·exact h.old s (fun j e hj hl => hs j e hj (by rw [getD_set hil]; split; rfl; exact hl))
  have e2 : j ≠ i := fun e2 => by subst e2; rw [hd] at hj; cases hj
  rw [getD_set hil, if_neg e2] at hl
  exact hmono _ _ _ _ (h.val j e hj hl) hb
 | some d =>
  have hd : dstOf ops i = some d := by simp [dstOf, ho, hod]
  obtain ⟨hlt, hun⟩ := dstC_of hB hi hd
  have hlt' : d < a.tmps.size := by rw [h.sz]; exact hlt
  rw [hod] at hr
  have hr' : R (fun j => (l.setIfInBounds i true).getD j false) (fun s => (a.put (some d) v).tmps.getD s undef) u' := by
   have e9 : (fun s => (a.put (some d) v).tmps.getD s undef) = updS (fun s => a.tmps.getD s undef) (some d) v := by funext s; exact getD_put hlt'
   rw [e9]; exact hr
  refine ⟨hr', by simpa using h.ls, h.df, by simpa [Act.put] using h.sz, fun s hs => ?_, fun j e hj hl => ?_, hcl⟩
  ·have hne : d ≠ s := hs i d hd (by rw [getD_set hil, if_pos rfl])
   rw [getD_put hlt', if_neg (Ne.symm hne)]
   exact h.old s (fun j e hj hl => hs j e hj (by rw [getD_set hil]; split; rfl; exact hl))
  rw [getD_put hlt']
  by_cases e1 : e = d
  ·subst e1
   obtain rfl := hun j (dstOf_lt hj) hj
   rw [if_pos rfl]
   exact hv _ hod
  rw [if_neg e1]
  have e2 : j ≠ i := fun e2 => by subst e2; rw [hd] at hj; exact e1 (Option.some.inj hj).symm
  rw [getD_set hil, if_neg e2] at hl
  exact hmono _ _ _ _ (h.val j e hj hl) hb
theorem wpAny_valy {P : Program} {ops : Array Oper} {Q : Exit -> Act -> World -> Prop} {md : Region.Mode} {a0 : Act} {w0 : World} (R : (Nat -> Bool) -> (Nat -> Value) -> World -> Prop) (M : World -> World -> Prop) (Φ : Nat -> Value -> World -> Prop)
 (hordB : ordB md ops = true) (hB : dstC ops a0.tmps.size = true) (hmono : ∀ i v u u', Φ i v u -> M u u' -> Φ i v u') (hM : ∀ u, M u u) (h0 : R (fun _ => false) (fun s => a0.tmps.getD s undef) w0)
 (hend : ∀ (vs : Nat -> Value) (σ : Nat -> Value) u, R (fun i => decide (i < ops.size)) σ u -> (∀ i d, dstOf ops i = some d -> vs i = σ d) -> (∀ i d, dstOf ops i = some d -> Φ i (vs i) u) -> Q .normal (putsL a0 0 ops.toList vs) u)
 (hstep : ∀ u i o (ρ : Operand -> Value) (l : Nat -> Bool), R l (fun s => ρ (.tmp s)) u -> ops[i]? = some o -> l i = false -> (∀ j oj, ops[j]? = some oj -> l j = true -> ∀ e ∈ oj.after, Region.binds md e = true -> l e.on = true) ->
  (∀ s, isDst ops s = false -> ρ (.tmp s) = a0.eval (.tmp s)) -> (∀ v, ρ (.const v) = v) -> (∀ f, ρ (.func f) = .func (.func f) #[] #[]) ->
  (∀ e ∈ o.after, Region.binds md e = true -> l e.on = true) -> (∀ j d, dstOf ops j = some d -> l j = true -> Φ j (ρ (.tmp d)) u) -> StpY P ops Φ (fun v u' => R (updB l i) (updS (fun s => ρ (.tmp s)) o.dst v) u') M i o ρ u)
 (fuel : Nat) (l : Array Bool) (hs : l.size = ops.size) (hc : l.toList.count false <= fuel) (hl : ∀ i, l.getD i false = false) : wpAny P md ops Q fuel l a0 w0 := by
 refine wpAny_inv (InvY md ops Φ R a0) hordB ?_ ?_ fuel l a0 w0 hs hc ?_
 ·intro l a u h hall
  have hall' : ∀ i, i < ops.size -> l.getD i false = true := fun i hi => by rw [getD_eq (by rw [h.ls]; exact hi) false true]; exact hall i hi
  have e : putsL a0 0 ops.toList (fun i => a.tmps.getD ((dstOf ops i).getD 0) undef) = a := by
   refine putsL_eqW ops.toList 0 a0 _ h.df.symm h.sz.symm (fun j o d ho hd => ?_) (fun s => ?_) (fun j o d ho hd => ?_)
   ·rw [Nat.zero_add]
    have : dstOf ops j = some d := by rw [Array.getElem?_toList] at ho; simp [dstOf, ho, hd]
    show a.tmps.getD ((dstOf ops j).getD 0) undef = _
    rw [this]; rfl
   ·by_cases hx : ∃ j d, dstOf ops j = some d /\ l.getD j false = true /\ d = s
    ·obtain ⟨j, d, hd, _, rfl⟩ := hx
     right
     unfold dstOf at hd
     cases ho : ops[j]? with
     | none => rw [ho] at hd; cases hd
     | some o => rw [ho] at hd; exact ⟨j, o, by rw [Array.getElem?_toList]; exact ho, hd⟩
    left
    exact (h.old s (fun i d hd hl e => hx ⟨i, d, hd, hl, e⟩)).symm
   rw [Array.getElem?_toList] at ho
   have hi : j < ops.size := (Array.getElem?_eq_some_iff.1 ho).1
   have hd' : dstOf ops j = some d := by simp [dstOf, ho, hd]
   rw [h.sz]
   exact (dstC_of hB hi hd').1
  rw [<- e]
  refine hend _ (fun s => a.tmps.getD s undef) u ?_ (fun i d hd => by show a.tmps.getD ((dstOf ops i).getD 0) undef = _; rw [hd]; rfl) (fun i d hd => ?_)
  ·have e2 : (fun i => l.getD i false) = (fun i => decide (i < ops.size)) := by
    funext i
    by_cases hi : i < ops.size
    ·rw [hall' i hi]; simp [hi]
    have : ¬ i < l.size := by rw [h.ls]; exact hi
    simp [Array.getD, hi, this]
   rw [<- e2]
   exact h.r
  show Φ i (a.tmps.getD ((dstOf ops i).getD 0) undef) u
  rw [hd]
  exact h.val i d hd (hall' i (dstOf_lt hd))
 ·intro l a u i o h ho hli hdep K hK
  have hi : i < ops.size := (Array.getElem?_eq_some_iff.1 ho).1
  have hw : Region.wanted o (yielded ops a.tmps) = wantV ops o a.eval := wanted_eq (fun j d hj => by
   rw [h.sz]; exact (dstC_of hB (dstOf_lt hj) hj).1)
  have hst := hstep u i o a.eval (fun j => l.getD j false) h.r ho (by show l.getD i false = false; rw [getD_eq (by rw [h.ls]; exact hi) false true]; exact hli) (fun j oj hoj hlj e he hb => h.cl j oj hoj hlj e he hb) (fun s hns => by
   refine h.old s (fun j d hj _ e => ?_)
   subst e
   have : isDst ops d = true := by
    unfold isDst
    rw [List.any_eq_true]
    exact ⟨j, List.mem_range.2 (dstOf_lt hj), by simp [hj]⟩
   rw [this] at hns; cases hns) (fun _ => rfl) (fun _ => rfl) hdep (fun j d hd hlj => h.val j d hd hlj)
  rcases hst with ⟨hwt, ⟨v, u', hrun, hv, hr, hbl⟩ | ⟨f, args, hrun, hcall⟩ | ⟨hno, u', hrun, hr, hbl⟩⟩ | ⟨hwf, hv, hr⟩
  ·rw [if_pos (by rw [hw]; exact hwt)]
   unfold Oper.wp
   rw [hrun]
   exact hK _ _ (h.next hB hmono ho hdep (fun _ _ => hv) hr hbl)
  ·rw [if_pos (by rw [hw]; exact hwt)]
   unfold Oper.wp
   rw [hrun, Oper.upon_enter]
   refine hcall.mono ?_
   rintro e u' ⟨v, rfl, hv, hr, hbl⟩
   exact hK _ _ (h.next hB hmono ho hdep (fun _ _ => hv) hr hbl)
  ·rw [if_pos (by rw [hw]; exact hwt)]
   unfold Oper.wp
   rw [hrun, Oper.upon_skip]
   exact hK _ _ (h.next hB hmono ho hdep (fun d hd => by rw [hno] at hd; cases hd) hr hbl)
  rw [if_neg (by rw [hw, hwf]; decide)]
  exact hK _ _ (h.next hB hmono ho hdep (fun _ _ => hv) hr (hM u))
 refine ⟨?_, hs, rfl, rfl, fun _ _ => rfl, fun i d _ hl' => (by rw [hl i] at hl'; cases hl'), fun i o _ hl' => (by rw [hl i] at hl'; cases hl')⟩
 rw [show (fun i => l.getD i false) = (fun _ => false) from funext hl]
 exact h0
end Go.Proofs.YtplaoagcedgdfaaGreat
namespace Go.Proofs.YtplaoagcedgdfaaGreat
open Go.RowKit Go.Joins Go.Proofs.Tryz
theorem run_nilz {P : Program} {ρ : Operand -> Value} {o : Oper} {u : World} {x : Operand} {p : Addr} (ho : o.op = .nilCheck x) (ha : ρ x = .pointer (some p)) : (execOp ρ o).run P u = .ok (.value (.pointer (some p))) u := by
 unfold execOp
 simp only [ho, ha]
 rfl
theorem run_lenz {P : Program} {ρ : Operand -> Value} {o : Oper} {u : World} {x : Operand} {t : TypeId} {a : Option Addr} {n c : Nat} {el : TypeId} (hu : P.underlying t = some (.slice el)) (ho : o.op = .call { callee := .builtin .len, args := #[x], argTypes := #[t] }) (hx : ρ x = .slice a n c) : (execOp ρ o).run P u = .ok (.value (.int .i64 (n : Int))) u := by
 unfold execOp
 rw [ho]
 simp [hx, Builtin.len_, run_underlying (P := P) hu, go_sem]
theorem run_bldz {P : Program} {ρ : Operand -> Value} {o : Oper} {u u' : World} {t : TypeId} {ps : Array (Nat × Operand)} {qs : Array (Nat × Value)} {v : Value} (ho : o.op = .build t ps) (ha : ps.map (fun (i, x) => (i, ρ x)) = qs) (hr : (Instr.build t qs).run P u = .ok v u') : (execOp ρ o).run P u = .ok (.value v) u' := by
 unfold execOp
 simp only [ho, ha]
 rw [Sem.run_bind, hr]
 rfl
theorem rangeAt_below {w u : World} {g o : Nat} {cs : List Value} (h : w.rangeAt g o cs) (hg : g < w.heap.size) (hb : Below w.heap.size w u) : u.rangeAt g o cs := fun j v hv => (hb.cell (p := ⟨g, o + j, none⟩) hg).trans (h j v hv)
theorem rangeAt_mid {w : World} {g o : Nat} {cs : List Value} (pre l post : List Value) (h : w.rangeAt g o cs) (he : cs = pre ++ (l ++ post)) : w.rangeAt g (o + pre.length) l := fun j v hv => by
 rw [Nat.add_assoc]
 refine h (pre.length + j) v ?_
 rw [he, List.getElem?_append_right (by omega), Nat.add_sub_cancel_left, List.getElem?_append_left (List.getElem?_eq_some_iff.1 hv).1]
 exact hv
theorem Blk.rng {w : World} {g : Nat} {t : TypeId} {l : List Value} (h : Blk w g t l.toArray) : w.rangeAt g 0 l := fun j v hv => by
 rw [Nat.zero_add]
 exact h.cell j (by simpa using hv)
def askB (L : La) (l1 l2 : Nat) : Bool := if L.bz = true then okCa L.c && (inB L.nu 0 65535 && (inB L.du 0 4294967295 && (decide (0 <= L.le) && decide (L.le <= L.tr)))) else noCa L.c l1 l2 && ((L.nu == 0) && ((L.du == 0) && (L.le == 0)))
def allC (f : Nat -> Ca) : Nat -> Bool
 | 0 => true
 | k + 1 => allC f k && okCa (f k)
theorem allC_no {f : Nat -> Ca} {k n : Nat} (hk : k < n) (h : okCa (f k) = false) : allC f n = false := by
 induction n with
 | zero => omega
 | succ n ih =>
  by_cases e : k = n
  ·subst e; simp [allC, h]
  simp [allC, ih (by omega)]
def okLn (n : Nat) (f : Nat -> Ca) (L : La) (l1 l2 : Nat) : Bool := inB L.wt 1 100 && (inB L.tr 0 5 && (decide (n <= 40) && (inB L.nx 0 65535 && (allC f n && askB L l1 l2))))
def PtL (w : World) (g o : Nat) (L : La) (n cp : Nat) (a a1 a2 : Option Addr) (l1 l2 c1 c2 : Nat) : Prop := g < w.heap.size /\ w.rangeAt g o (lacL L a n cp a1 a2 l1 l2 c1 c2)
theorem PtL.below {w w' : World} {g o : Nat} {L : La} {n cp : Nat} {a a1 a2 : Option Addr} {l1 l2 c1 c2 : Nat} (h : PtL w g o L n cp a a1 a2 l1 l2 c1 c2) (hb : Below w.heap.size w w') : PtL w' g o L n cp a a1 a2 l1 l2 c1 c2 := ⟨Nat.lt_of_lt_of_le h.1 hb.size, rangeAt_below h.2 h.1 hb⟩
theorem PtL.svn {w : World} {g o : Nat} {L : La} {n cp : Nat} {a a1 a2 : Option Addr} {l1 l2 c1 c2 : Nat} (h : PtL w g o L n cp a a1 a2 l1 l2 c1 c2) : (w.cell? ⟨g, o, none⟩ = some (.slice a n cp) /\ w.cell? ⟨g, o + 1, none⟩ = some (.bool L.bz) /\ w.cell? ⟨g, o + 2, none⟩ = some (.int .i64 L.c.id) /\ w.cell? ⟨g, o + 3, none⟩ = some (.int .i64 L.c.pa) /\ w.cell? ⟨g, o + 4, none⟩ = some (.int .i64 L.c.un) /\ w.cell? ⟨g, o + 5, none⟩ = some (.int .i64 L.c.kd) /\ w.cell? ⟨g, o + 6, none⟩ = some (.int .i64 L.c.pl) /\ w.cell? ⟨g, o + 7, none⟩ = some (.int .i64 L.c.n) /\ w.cell? ⟨g, o + 8, none⟩ = some (.slice a1 l1 c1) /\ w.cell? ⟨g, o + 9, none⟩ = some (.slice a2 l2 c2) /\ w.cell? ⟨g, o + 10, none⟩ = some (.int .i64 L.c.wa) /\ w.cell? ⟨g, o + 11, none⟩ = some (.int .i64 L.nu) /\ w.cell? ⟨g, o + 12, none⟩ = some (.int .i64 L.du) /\ w.cell? ⟨g, o + 13, none⟩ = some (.int .i64 L.le) /\ w.cell? ⟨g, o + 14, none⟩ = some (.int .i64 L.nx) /\ w.cell? ⟨g, o + 15, none⟩ = some (.int .i64 L.wt) /\ w.cell? ⟨g, o + 16, none⟩ = some (.int .i64 L.tr)) /\ True := ⟨⟨h.2 0 _ rfl, h.2 1 _ rfl, h.2 2 _ rfl, h.2 3 _ rfl, h.2 4 _ rfl, h.2 5 _ rfl, h.2 6 _ rfl, h.2 7 _ rfl, h.2 8 _ rfl, h.2 9 _ rfl, h.2 10 _ rfl, h.2 11 _ rfl, h.2 12 _ rfl, h.2 13 _ rfl, h.2 14 _ rfl, h.2 15 _ rfl, h.2 16 _ rfl⟩, trivial⟩
theorem asksAt_any (L : La) (g o n cp : Nat) (a a1 a2 : Option Addr) (l1 l2 c1 c2 : Nat) (w : World) (hB : PtL w g o L n cp a a1 a2 l1 l2 c1 c2) (h1 : l1 = L.c.ws.length) (h2 : l2 = L.c.bs.length) (s1 : SlI w a1 L.c.ws) (s2 : SlB w a2 L.c.bs) (hl1 : l1 <= 2000000) (hl2 : l2 <= 2000000) :
 Calls prog 204 #[.pointer (some ⟨g, o, none⟩)] w fun e w' => e = .returned (.bool (askB L l1 l2)) /\ Below w.heap.size w w' := by
 have HB : Hid (PtL w g o L n cp a a1 a2 l1 l2 c1 c2 /\ l1 = L.c.ws.length /\ l2 = L.c.bs.length /\ SlI w a1 L.c.ws /\ SlB w a2 L.c.bs) := ⟨hB, h1, h2, s1, s2⟩
 obtain ⟨⟨y0, y1, y2, y3, y4, y5, y6, y7, y8, y9, y10, y11, y12, y13, y14, y15, y16⟩, _⟩ := hB.svn
 obtain ⟨bz, hbz⟩ : ∃ x, L.bz = x := ⟨_, rfl⟩
 clear hB h1 h2 s1 s2
 cases bz
 case false =>
  obtain ⟨x0, hx0⟩ : ∃ x, noCa L.c l1 l2 = x := ⟨_, rfl⟩
  obtain ⟨z1, hz1⟩ : ∃ x, (L.nu == 0) = x := ⟨_, rfl⟩
  obtain ⟨z2, hz2⟩ : ∃ x, (L.du == 0) = x := ⟨_, rfl⟩
  obtain ⟨z3, hz3⟩ : ∃ x, (L.le == 0) = x := ⟨_, rfl⟩
  have HE : Hid (askB L l1 l2 = (x0 && (z1 && (z2 && z3))) /\ noCa L.c l1 l2 = x0) := ⟨by unfold askB; rw [hbz, hx0, hz1, hz2, hz3]; rfl, hx0⟩
  rw [HE.out.1]
  rw [hbz] at y1
  clear hx0 hbz
  go_enter func204, ntmps204
  go_wp2_with fail
  refine (callZero_any L.c g (o + 2) a1 a2 l1 l2 c1 c2 _ y2 y3 y4 y5 y6 y7 y8 y9 y10 HB.out.2.1 HB.out.2.2.1 hl1 hl2).mono ?_
  rintro e w1 ⟨rfl, b1⟩
  rw [HE.out.2]
  have HC : Hid (Below w.heap.size w w1 /\ PtL w1 g o L n cp a a1 a2 l1 l2 c1 c2) := ⟨b1, HB.out.1.below b1⟩
  clear b1 y0 y1 y2 y3 y4 y5 y6 y7 y8 y9 y10 y11 y12 y13 y14 y15 y16
  obtain ⟨⟨y0, y1, y2, y3, y4, y5, y6, y7, y8, y9, y10, y11, y12, y13, y14, y15, y16⟩, _⟩ := HC.out.2.svn
  cases x0
  case false =>
   go_wp2
   go_ret
   exact ⟨rfl, HC.out.1⟩
  cases z1
  case false =>
   go_wp2
   go_ret
   exact ⟨rfl, HC.out.1⟩
  cases z2
  case false =>
   go_wp2
   go_ret
   exact ⟨rfl, HC.out.1⟩
  cases z3
  all_goals (
   go_wp2
   go_ret
   exact ⟨rfl, HC.out.1⟩)
 obtain ⟨x0, hx0⟩ : ∃ x, okCa L.c = x := ⟨_, rfl⟩
 obtain ⟨z1, hz1⟩ : ∃ x, inB L.nu 0 65535 = x := ⟨_, rfl⟩
 obtain ⟨z2, hz2⟩ : ∃ x, inB L.du 0 4294967295 = x := ⟨_, rfl⟩
 obtain ⟨z3, hz3⟩ : ∃ x, decide (0 <= L.le) = x := ⟨_, rfl⟩
 obtain ⟨z4, hz4⟩ : ∃ x, decide (L.le <= L.tr) = x := ⟨_, rfl⟩
 have HX : Hid (okCa L.c = x0 /\ inB L.nu 0 65535 = z1 /\ inB L.du 0 4294967295 = z2 /\ decide (0 <= L.le) = z3 /\ decide (L.le <= L.tr) = z4) := ⟨hx0, hz1, hz2, hz3, hz4⟩
 have he : askB L l1 l2 = (x0 && (z1 && (z2 && (z3 && z4)))) := by unfold askB; rw [hbz, hx0, hz1, hz2, hz3, hz4]; rfl
 rw [he]
 rw [hbz] at y1
 clear hx0 hz1 hz2 hz3 hz4 hbz he
 go_enter func204, ntmps204
 go_upto_region 3 with fail
 clear y0 y1 y2 y3 y4 y5 y6 y7 y8 y9 y10 y11 y12 y13 y14 y15 y16
 refine wp_region_any (by kernel_rfl) ?_
 refine wpAny_vals (fun u => Below w.heap.size w u) (fun i v u => match i with
  | 0 => v = .pointer (some ⟨g, o, none⟩)
  | 1 => v = .pointer (some ⟨g, o, none⟩)
  | 2 => v = .pointer (some ⟨g, o + 2, none⟩)
  | 3 => v = .bool x0
  | 4 => v = .bool x0
  | 5 => v = cond x0 (.pointer (some ⟨g, o, none⟩)) undef
  | 6 => v = cond x0 (.pointer (some ⟨g, o, none⟩)) undef
  | 7 => v = cond x0 (.pointer (some ⟨g, o + 11, none⟩)) undef
  | 8 => v = cond x0 (.int .i64 L.nu) undef
  | 9 => v = cond x0 (.bool z1) undef
  | 10 => v = cond x0 (.bool z1) (.bool false)
  | 11 => v = cond x0 (.bool z1) (.bool false)
  | 12 => v = cond x0 (cond z1 (.pointer (some ⟨g, o, none⟩)) undef) undef
  | 13 => v = cond x0 (cond z1 (.pointer (some ⟨g, o, none⟩)) undef) undef
  | 14 => v = cond x0 (cond z1 (.pointer (some ⟨g, o + 12, none⟩)) undef) undef
  | 15 => v = cond x0 (cond z1 (.int .i64 L.du) undef) undef
  | 16 => v = cond x0 (cond z1 (.bool z2) undef) undef
  | 17 => v = cond x0 (cond z1 (.bool z2) (.bool false)) (.bool false)
  | 18 => v = cond x0 (cond z1 (.bool z2) (.bool false)) (.bool false)
  | 19 => v = cond x0 (cond z1 (cond z2 (.pointer (some ⟨g, o, none⟩)) undef) undef) undef
  | 20 => v = cond x0 (cond z1 (cond z2 (.pointer (some ⟨g, o, none⟩)) undef) undef) undef
  | 21 => v = cond x0 (cond z1 (cond z2 (.pointer (some ⟨g, o + 13, none⟩)) undef) undef) undef
  | 22 => v = cond x0 (cond z1 (cond z2 (.int .i64 L.le) undef) undef) undef
  | 23 => v = cond x0 (cond z1 (cond z2 (.bool z3) undef) undef) undef
  | 24 => v = cond x0 (cond z1 (cond z2 (.bool z3) (.bool false)) (.bool false)) (.bool false)
  | 25 => v = cond x0 (cond z1 (cond z2 (.bool z3) (.bool false)) (.bool false)) (.bool false)
  | 26 => v = cond x0 (cond z1 (cond z2 (cond z3 (.pointer (some ⟨g, o, none⟩)) undef) undef) undef) undef
  | 27 => v = cond x0 (cond z1 (cond z2 (cond z3 (.pointer (some ⟨g, o, none⟩)) undef) undef) undef) undef
  | 28 => v = cond x0 (cond z1 (cond z2 (cond z3 (.pointer (some ⟨g, o + 13, none⟩)) undef) undef) undef) undef
  | 29 => v = cond x0 (cond z1 (cond z2 (cond z3 (.int .i64 L.le) undef) undef) undef) undef
  | 30 => v = cond x0 (cond z1 (cond z2 (cond z3 (.pointer (some ⟨g, o, none⟩)) undef) undef) undef) undef
  | 31 => v = cond x0 (cond z1 (cond z2 (cond z3 (.pointer (some ⟨g, o, none⟩)) undef) undef) undef) undef
  | 32 => v = cond x0 (cond z1 (cond z2 (cond z3 (.pointer (some ⟨g, o + 16, none⟩)) undef) undef) undef) undef
  | 33 => v = cond x0 (cond z1 (cond z2 (cond z3 (.int .i64 L.tr) undef) undef) undef) undef
  | 34 => v = cond x0 (cond z1 (cond z2 (cond z3 (.bool z4) undef) undef) undef) undef
  | 35 => v = cond x0 (cond z1 (cond z2 (cond z3 (.bool z4) (.bool false)) (.bool false)) (.bool false)) (.bool false)
  | 36 => v = cond x0 (cond z1 (cond z2 (cond z3 (.bool z4) (.bool false)) (.bool false)) (.bool false)) (.bool false)
  | _ => v = undef) (by kernel_rfl) (by kernel_rfl) (fun _ _ _ _ h _ => h) (by first | exact Below.refl _ _ | exact (Below.refl _ _).drew) ?_ ?_ _ _ rfl (by decide) (fun i => by simp [Array.getD]; try (split <;> rfl))
 ·intro vs u hR hall
  simp only [putsL]
  cases x0
  ·have e36 : vs 36 = .bool false := hall 36 (by simp)
   rw [e36]
   clear hall e36
   have B9 := hR
   clear HX HB hR
   go_simp
   go_wp2
   go_ret
   exact ⟨rfl, B9⟩
  cases z1
  ·have e36 : vs 36 = .bool false := hall 36 (by simp)
   rw [e36]
   clear hall e36
   have B9 := hR
   clear HX HB hR
   go_simp
   go_wp2
   go_ret
   exact ⟨rfl, B9⟩
  cases z2
  ·have e36 : vs 36 = .bool false := hall 36 (by simp)
   rw [e36]
   clear hall e36
   have B9 := hR
   clear HX HB hR
   go_simp
   go_wp2
   go_ret
   exact ⟨rfl, B9⟩
  cases z3
  ·have e36 : vs 36 = .bool false := hall 36 (by simp)
   rw [e36]
   clear hall e36
   have B9 := hR
   clear HX HB hR
   go_simp
   go_wp2
   go_ret
   exact ⟨rfl, B9⟩
  cases z4
  ·have e36 : vs 36 = .bool false := hall 36 (by simp)
   rw [e36]
   clear hall e36
   have B9 := hR
   clear HX HB hR
   go_simp
   go_wp2
   go_ret
   exact ⟨rfl, B9⟩
  have e36 : vs 36 = .bool true := hall 36 (by simp)
  rw [e36]
  clear hall e36
  have B9 := hR
  clear HX HB hR
  go_simp
  go_wp2
  go_ret
  exact ⟨rfl, B9⟩
 intro u i o ρ hR ho hρ hc hf hd
 have hi : i < 37 := by
  have := (Array.getElem?_eq_some_iff.1 ho).1
  simpa using this
 obtain rfl | rfl | rfl | rfl | rfl | rfl | rfl | rfl | rfl | rfl | rfl | rfl | rfl | rfl | rfl | rfl | rfl | rfl | rfl | rfl | rfl | rfl | rfl | rfl | rfl | rfl | rfl | rfl | rfl | rfl | rfl | rfl | rfl | rfl | rfl | rfl | rfl : i = 0 \/ i = 1 \/ i = 2 \/ i = 3 \/ i = 4 \/ i = 5 \/ i = 6 \/ i = 7 \/ i = 8 \/ i = 9 \/ i = 10 \/ i = 11 \/ i = 12 \/ i = 13 \/ i = 14 \/ i = 15 \/ i = 16 \/ i = 17 \/ i = 18 \/ i = 19 \/ i = 20 \/ i = 21 \/ i = 22 \/ i = 23 \/ i = 24 \/ i = 25 \/ i = 26 \/ i = 27 \/ i = 28 \/ i = 29 \/ i = 30 \/ i = 31 \/ i = 32 \/ i = 33 \/ i = 34 \/ i = 35 \/ i = 36 := by omega
 all_goals (simp only [List.getElem?_toArray, List.getElem?_cons_zero, List.getElem?_cons_succ, Option.some.injEq] at ho; subst ho)
 ·exact yr rfl (hρ 0 (by kernel_rfl)) hR
 ·exact yr (run_nilz rfl (dq hd 0 33)) rfl hR
 ·exact yr (run_field_op rfl (dq hd 1 34) (by go_simp)) rfl hR
 ·have h2 : _ = _ := dq hd 2 35
  refine .inl ⟨rfl, .inr ⟨_, _, run_call_op rfl (hf _) (args := #[.pointer (some ⟨g, o + 2, none⟩)]) (by simp [h2]) (by kernel_rfl), ?_⟩⟩
  refine (callRight_any L.c g (o + 2) a1 a2 l1 l2 c1 c2 _ ((HB.out.1.below hR).2 2 _ rfl) ((HB.out.1.below hR).2 3 _ rfl) ((HB.out.1.below hR).2 4 _ rfl) ((HB.out.1.below hR).2 5 _ rfl) ((HB.out.1.below hR).2 6 _ rfl) ((HB.out.1.below hR).2 7 _ rfl) ((HB.out.1.below hR).2 8 _ rfl) ((HB.out.1.below hR).2 9 _ rfl) ((HB.out.1.below hR).2 10 _ rfl) HB.out.2.1 HB.out.2.2.1 (HB.out.2.2.2.1.below hR) (HB.out.2.2.2.2.below hR) hl1 hl2).mono ?_
  rintro e u' ⟨he, b'⟩
  exact ⟨_, he.trans (by rw [HX.out.1] <;> rfl), rfl, bel_nx hR b', b'⟩
 ·exact yr rfl (dq hd 3 36) hR
 ·cases x0
  ·exact ngq (.bool false) hd 4 37
  exact yq hd 4 37 rfl (hρ 0 (by kernel_rfl)) hR
 ·cases x0
  ·exact ngq (.bool false) hd 4 37
  exact yq hd 4 37 (run_nilz rfl (dq hd 5 38)) rfl hR
 ·cases x0
  ·exact ngq (.bool false) hd 4 37
  exact yq hd 4 37 (run_field_op rfl (dq hd 6 39) (by go_simp)) rfl hR
 ·cases x0
  ·exact ngq (.bool false) hd 4 37
  have y9 := (HB.out.1.below hR).2 11 _ rfl
  exact yq hd 4 37 (run_load_op rfl (dq hd 7 40) (by go_simp)) rfl hR
 ·cases x0
  ·exact ngq (.bool false) hd 4 37
  have g4 : ρ (.tmp 37) = .bool true := gq hd 4 37
  have h8 : _ = _ := dq hd 8 41
  refine .inl ⟨(by show (match ρ (.tmp 37) with | .bool b => b == true | _ => false) = true; rw [g4]; rfl), .inr ⟨_, _, run_call_op rfl (hf _) (args := #[.int .i64 L.nu]) (by simp [h8]) (by kernel_rfl), ?_⟩⟩
  refine (isWord_any _ _ _ HX.out.2.1).mono ?_
  rintro e u' ⟨he, rfl⟩
  exact ⟨_, he.trans rfl, rfl, hR, Below.refl _ _⟩
 ·cases x0
  ·exact yr (run_pick_op rfl (dq hd 4 37)) (by simpa using hc _) hR
  exact yr (run_pick_op rfl (dq hd 4 37)) (by simpa using (dq hd 9 42)) hR
 ·exact yr rfl (dq hd 10 43) hR
 ·cases x0
  ·exact ngq (.bool false) hd 11 44
  cases z1
  ·exact ngq (.bool false) hd 11 44
  exact yq hd 11 44 rfl (hρ 0 (by kernel_rfl)) hR
 ·cases x0
  ·exact ngq (.bool false) hd 11 44
  cases z1
  ·exact ngq (.bool false) hd 11 44
  exact yq hd 11 44 (run_nilz rfl (dq hd 12 45)) rfl hR
 ·cases x0
  ·exact ngq (.bool false) hd 11 44
  cases z1
  ·exact ngq (.bool false) hd 11 44
  exact yq hd 11 44 (run_field_op rfl (dq hd 13 46) (by go_simp)) rfl hR
 ·cases x0
  ·exact ngq (.bool false) hd 11 44
  cases z1
  ·exact ngq (.bool false) hd 11 44
  have y9 := (HB.out.1.below hR).2 12 _ rfl
  exact yq hd 11 44 (run_load_op rfl (dq hd 14 47) (by go_simp)) rfl hR
 ·cases x0
  ·exact ngq (.bool false) hd 11 44
  cases z1
  ·exact ngq (.bool false) hd 11 44
  have g11 : ρ (.tmp 44) = .bool true := gq hd 11 44
  have h15 : _ = _ := dq hd 15 48
  refine .inl ⟨(by show (match ρ (.tmp 44) with | .bool b => b == true | _ => false) = true; rw [g11]; rfl), .inr ⟨_, _, run_call_op rfl (hf _) (args := #[.int .i64 L.du]) (by simp [h15]) (by kernel_rfl), ?_⟩⟩
  refine (isTickL _ _ _ HX.out.2.2.1).mono ?_
  rintro e u' ⟨he, rfl⟩
  exact ⟨_, he.trans rfl, rfl, hR, Below.refl _ _⟩
 ·cases x0
  ·exact yr (run_pick_op rfl (dq hd 11 44)) (by simpa using hc _) hR
  cases z1
  ·exact yr (run_pick_op rfl (dq hd 11 44)) (by simpa using hc _) hR
  exact yr (run_pick_op rfl (dq hd 11 44)) (by simpa using (dq hd 16 49)) hR
 ·exact yr rfl (dq hd 17 50) hR
 ·cases x0
  ·exact ngq (.bool false) hd 18 51
  cases z1
  ·exact ngq (.bool false) hd 18 51
  cases z2
  ·exact ngq (.bool false) hd 18 51
  exact yq hd 18 51 rfl (hρ 0 (by kernel_rfl)) hR
 ·cases x0
  ·exact ngq (.bool false) hd 18 51
  cases z1
  ·exact ngq (.bool false) hd 18 51
  cases z2
  ·exact ngq (.bool false) hd 18 51
  exact yq hd 18 51 (run_nilz rfl (dq hd 19 52)) rfl hR
 ·cases x0
  ·exact ngq (.bool false) hd 18 51
  cases z1
  ·exact ngq (.bool false) hd 18 51
  cases z2
  ·exact ngq (.bool false) hd 18 51
  exact yq hd 18 51 (run_field_op rfl (dq hd 20 53) (by go_simp)) rfl hR
 ·cases x0
  ·exact ngq (.bool false) hd 18 51
  cases z1
  ·exact ngq (.bool false) hd 18 51
  cases z2
  ·exact ngq (.bool false) hd 18 51
  have y9 := (HB.out.1.below hR).2 13 _ rfl
  exact yq hd 18 51 (run_load_op rfl (dq hd 21 54) (by go_simp)) rfl hR
 ·cases x0
  ·exact ngq (.bool false) hd 18 51
  cases z1
  ·exact ngq (.bool false) hd 18 51
  cases z2
  ·exact ngq (.bool false) hd 18 51
  cases z3
  ·have t3 : ¬ (0 <= L.le) := of_decide_eq_false HX.out.2.2.2.1
   exact yq hd 18 51 (run_bin_op rfl (hc _) (dq hd 22 55) (by go_simp)) rfl hR
  have t3 : (0 <= L.le) := of_decide_eq_true HX.out.2.2.2.1
  exact yq hd 18 51 (run_bin_op rfl (hc _) (dq hd 22 55) (by go_simp)) rfl hR
 ·cases x0
  ·exact yr (run_pick_op rfl (dq hd 18 51)) (by simpa using hc _) hR
  cases z1
  ·exact yr (run_pick_op rfl (dq hd 18 51)) (by simpa using hc _) hR
  cases z2
  ·exact yr (run_pick_op rfl (dq hd 18 51)) (by simpa using hc _) hR
  exact yr (run_pick_op rfl (dq hd 18 51)) (by simpa using (dq hd 23 56)) hR
 ·exact yr rfl (dq hd 24 57) hR
 ·cases x0
  ·exact ngq (.bool false) hd 25 58
  cases z1
  ·exact ngq (.bool false) hd 25 58
  cases z2
  ·exact ngq (.bool false) hd 25 58
  cases z3
  ·exact ngq (.bool false) hd 25 58
  exact yq hd 25 58 rfl (hρ 0 (by kernel_rfl)) hR
 ·cases x0
  ·exact ngq (.bool false) hd 25 58
  cases z1
  ·exact ngq (.bool false) hd 25 58
  cases z2
  ·exact ngq (.bool false) hd 25 58
  cases z3
  ·exact ngq (.bool false) hd 25 58
  exact yq hd 25 58 (run_nilz rfl (dq hd 26 59)) rfl hR
 ·cases x0
  ·exact ngq (.bool false) hd 25 58
  cases z1
  ·exact ngq (.bool false) hd 25 58
  cases z2
  ·exact ngq (.bool false) hd 25 58
  cases z3
  ·exact ngq (.bool false) hd 25 58
  exact yq hd 25 58 (run_field_op rfl (dq hd 27 60) (by go_simp)) rfl hR
 ·cases x0
  ·exact ngq (.bool false) hd 25 58
  cases z1
  ·exact ngq (.bool false) hd 25 58
  cases z2
  ·exact ngq (.bool false) hd 25 58
  cases z3
  ·exact ngq (.bool false) hd 25 58
  have y9 := (HB.out.1.below hR).2 13 _ rfl
  exact yq hd 25 58 (run_load_op rfl (dq hd 28 61) (by go_simp)) rfl hR
 ·cases x0
  ·exact ngq (.bool false) hd 25 58
  cases z1
  ·exact ngq (.bool false) hd 25 58
  cases z2
  ·exact ngq (.bool false) hd 25 58
  cases z3
  ·exact ngq (.bool false) hd 25 58
  exact yq hd 25 58 rfl (hρ 0 (by kernel_rfl)) hR
 ·cases x0
  ·exact ngq (.bool false) hd 25 58
  cases z1
  ·exact ngq (.bool false) hd 25 58
  cases z2
  ·exact ngq (.bool false) hd 25 58
  cases z3
  ·exact ngq (.bool false) hd 25 58
  exact yq hd 25 58 (run_nilz rfl (dq hd 30 63)) rfl hR
 ·cases x0
  ·exact ngq (.bool false) hd 25 58
  cases z1
  ·exact ngq (.bool false) hd 25 58
  cases z2
  ·exact ngq (.bool false) hd 25 58
  cases z3
  ·exact ngq (.bool false) hd 25 58
  exact yq hd 25 58 (run_field_op rfl (dq hd 31 64) (by go_simp)) rfl hR
 ·cases x0
  ·exact ngq (.bool false) hd 25 58
  cases z1
  ·exact ngq (.bool false) hd 25 58
  cases z2
  ·exact ngq (.bool false) hd 25 58
  cases z3
  ·exact ngq (.bool false) hd 25 58
  have y9 := (HB.out.1.below hR).2 16 _ rfl
  exact yq hd 25 58 (run_load_op rfl (dq hd 32 65) (by go_simp)) rfl hR
 ·cases x0
  ·exact ngq (.bool false) hd 25 58
  cases z1
  ·exact ngq (.bool false) hd 25 58
  cases z2
  ·exact ngq (.bool false) hd 25 58
  cases z3
  ·exact ngq (.bool false) hd 25 58
  cases z4
  ·have t4 : ¬ (L.le <= L.tr) := of_decide_eq_false HX.out.2.2.2.2
   exact yq hd 25 58 (run_bin_op rfl (dq hd 29 62) (dq hd 33 66) (by go_simp)) rfl hR
  have t4 : (L.le <= L.tr) := of_decide_eq_true HX.out.2.2.2.2
  exact yq hd 25 58 (run_bin_op rfl (dq hd 29 62) (dq hd 33 66) (by go_simp)) rfl hR
 ·cases x0
  ·exact yr (run_pick_op rfl (dq hd 25 58)) (by simpa using hc _) hR
  cases z1
  ·exact yr (run_pick_op rfl (dq hd 25 58)) (by simpa using hc _) hR
  cases z2
  ·exact yr (run_pick_op rfl (dq hd 25 58)) (by simpa using hc _) hR
  cases z3
  ·exact yr (run_pick_op rfl (dq hd 25 58)) (by simpa using hc _) hR
  exact yr (run_pick_op rfl (dq hd 25 58)) (by simpa using (dq hd 34 67)) hR
 exact yr rfl (dq hd 35 68) hR
theorem waitsAt_any (L : La) (g o n cp : Nat) (a a1 a2 : Option Addr) (l1 l2 c1 c2 : Nat) (f : Nat -> Ca) (w : World) (hB : PtL w g o L n cp a a1 a2 l1 l2 c1 c2) (hs : LnR w n f L a a1 a2 l1 l2) (hb : BdC n f) :
 Calls prog 205 #[.pointer (some ⟨g, o, none⟩)] w fun e w' => e = .returned (.bool (decide (n <= 40) && allC f n)) /\ Below w.heap.size w w' := by
 have HB : Hid (PtL w g o L n cp a a1 a2 l1 l2 c1 c2 /\ SlC w a n f /\ BdC n f) := ⟨hB, hs.2.2.1, hb⟩
 obtain ⟨⟨y0, y1, y2, y3, y4, y5, y6, y7, y8, y9, y10, y11, y12, y13, y14, y15, y16⟩, _⟩ := hB.svn
 have hn2 := hb.1
 clear hB hs hb
 by_cases h40 : n <= 40
 ·have hg : ¬ (40 < (n : Int)) := by omega
  rw [decide_eq_true h40]
  go_enter func205, ntmps205
  go_wp2
  clear y0 y1 y2 y3 y4 y5 y6 y7 y8 y9 y10 y11 y12 y13 y14 y15 y16
  go_loopw [15] (fun i wr => ∃ k : Nat, k <= n /\ i = .int .i64 k /\ allC f k = true /\ Below w.heap.size w wr) (fun i _ => n - (intOf i).toNat)
  case atStart => exact ⟨0, Nat.zero_le _, rfl, rfl, Below.refl _ _⟩
  case round =>
   obtain ⟨k, hk, rfl, hall, hbl⟩ := hrel
   obtain ⟨⟨y0, y1, y2, y3, y4, y5, y6, y7, y8, y9, y10, y11, y12, y13, y14, y15, y16⟩, _⟩ := (HB.out.1.below hbl).svn
   by_cases hlt : k < n
   ·have hi : (k : Int) < (n : Int) := by omega
    obtain ⟨b, off, b1, b2, m1, m2, k1, k2, rfl, hb0, hm1, hm2, ⟨d0, d1, d2, d3, d4, d5, d6, d7, d8⟩, s1, s2⟩ := SlC.nine (HB.out.2.1.below hbl) hlt
    obtain ⟨C, hC⟩ : ∃ C, C = f k := ⟨_, rfl⟩
    rw [<- hC] at d0 d1 d2 d3 d4 d5 d8 hm1 hm2 s1 s2
    obtain ⟨x, hx⟩ : ∃ x, okCa C = x := ⟨_, rfl⟩
    have hbd := HB.out.2.2.2 k hlt
    have HS : Hid (SlI wr b1 C.ws /\ SlB wr b2 C.bs /\ m1 = C.ws.length /\ m2 = C.bs.length /\ m1 <= 2000000 /\ m2 <= 2000000 /\ C = f k /\ okCa C = x /\ allC f k = true /\ Below w.heap.size w wr) := ⟨s1, s2, hm1, hm2, by rw [hm1, hC]; exact hbd.1, by rw [hm2, hC]; exact hbd.2, hC, hx, hall, hbl⟩
    clear s1 s2 hm1 hm2 hC hx hbd hb0 hall hbl
    go_wp2_with fail
    refine (callRight_any C b (off + k * 9) b1 b2 m1 m2 k1 k2 _ d0 d1 d2 d3 d4 d5 d6 d7 d8 HS.out.2.2.1 HS.out.2.2.2.1 HS.out.1 HS.out.2.1 HS.out.2.2.2.2.1 HS.out.2.2.2.2.2.1).mono ?_
    rintro e w1 ⟨rfl, b9⟩
    rw [HS.out.2.2.2.2.2.2.2.1]
    have HW : Hid (Below w.heap.size w w1) := bel_nx HS.out.2.2.2.2.2.2.2.2.2 b9
    clear b9 d0 d1 d2 d3 d4 d5 d6 d7 d8 y0 y1 y2 y3 y4 y5 y6 y7 y8 y9 y10 y11 y12 y13 y14 y15 y16
    cases x
    case false =>
     have HF : Hid (allC f n = false) := allC_no hlt (by rw [<- HS.out.2.2.2.2.2.2.1]; exact HS.out.2.2.2.2.2.2.2.1)
     go_wp2
     go_ret
     exact ⟨(by rw [HF.out]; rfl), HW.out⟩
    have HF : Hid (allC f (k + 1) = true) := by show (allC f k && okCa (f k)) = true; rw [HS.out.2.2.2.2.2.2.2.2.1, <- HS.out.2.2.2.2.2.2.1, HS.out.2.2.2.2.2.2.2.1]; rfl
    go_wp2
    go_roundw
    case rel => exact ⟨k + 1, by omega, by go_num, HF.out, HW.out⟩
    case measure => simp [intOf]; omega
   have hi : ¬ (k : Int) < (n : Int) := by omega
   have e9 : k = n := by omega
   subst e9
   have HF : Hid (allC f k = true) := hall
   clear hall
   go_wp2
   go_ret
   exact ⟨(by rw [HF.out]; rfl), hbl⟩
 have hg : 40 < (n : Int) := by omega
 rw [decide_eq_false h40]
 go_enter func205, ntmps205
 go_wp2
 go_ret
 exact ⟨rfl, Below.refl _ _⟩
theorem lineAt_any (L : La) (g o n cp : Nat) (a a1 a2 : Option Addr) (l1 l2 c1 c2 : Nat) (f : Nat -> Ca) (w : World) (hB : PtL w g o L n cp a a1 a2 l1 l2 c1 c2) (hs : LnR w n f L a a1 a2 l1 l2) (hb : BdC n f) (hl1 : l1 <= 2000000) (hl2 : l2 <= 2000000) :
 Calls prog 146 #[.pointer (some ⟨g, o, none⟩)] w fun e w' => e = .returned (.bool (okLn n f L l1 l2)) /\ Below w.heap.size w w' := by
 obtain ⟨x0, hx0⟩ : ∃ x, inB L.wt 1 100 = x := ⟨_, rfl⟩
 obtain ⟨x1, hx1⟩ : ∃ x, inB L.tr 0 5 = x := ⟨_, rfl⟩
 obtain ⟨x2, hx2⟩ : ∃ x, inB L.nx 0 65535 = x := ⟨_, rfl⟩
 obtain ⟨x3, hx3⟩ : ∃ x, askB L l1 l2 = x := ⟨_, rfl⟩
 obtain ⟨x4, hx4⟩ : ∃ x, (decide (n <= 40) && allC f n) = x := ⟨_, rfl⟩
 have he : okLn n f L l1 l2 = (x0 && (x1 && (x2 && (x3 && x4)))) := by
  unfold okLn
  rw [hx0, hx1, hx2, hx3, <- hx4]
  cases x0 <;> cases x1 <;> cases x2 <;> cases x3 <;> simp
 have HX : Hid (inB L.wt 1 100 = x0 /\ inB L.tr 0 5 = x1 /\ inB L.nx 0 65535 = x2 /\ askB L l1 l2 = x3 /\ (decide (n <= 40) && allC f n) = x4 /\ PtL w g o L n cp a a1 a2 l1 l2 c1 c2 /\ LnR w n f L a a1 a2 l1 l2 /\ BdC n f) := ⟨hx0, hx1, hx2, hx3, hx4, hB, hs, hb⟩
 rw [he]
 obtain ⟨⟨y0, y1, y2, y3, y4, y5, y6, y7, y8, y9, y10, y11, y12, y13, y14, y15, y16⟩, _⟩ := hB.svn
 clear hx0 hx1 hx2 hx3 hx4 hB hs hb he
 go_enter func146, ntmps146
 go_wp2_with fail
 refine (isAnsWL _ _ _ HX.out.1).mono ?_
 rintro e w1 ⟨rfl, rfl⟩
 cases x0
 case false =>
  go_wp2
  go_ret
  exact ⟨rfl, Below.refl _ _⟩
 go_wp2_with fail
 refine (isTriesL _ _ _ HX.out.2.1).mono ?_
 rintro e w1 ⟨rfl, rfl⟩
 cases x1
 case false =>
  go_wp2
  go_ret
  exact ⟨rfl, Below.refl _ _⟩
 go_wp2_with fail
 refine (isWord_any _ _ _ HX.out.2.2.1).mono ?_
 rintro e w1 ⟨rfl, rfl⟩
 cases x2
 case false =>
  go_wp2
  go_ret
  exact ⟨rfl, Below.refl _ _⟩
 go_wp2_with fail
 refine (asksAt_any L g o n cp a a1 a2 l1 l2 c1 c2 _ HX.out.2.2.2.2.2.1 HX.out.2.2.2.2.2.2.1.1 HX.out.2.2.2.2.2.2.1.2.1 HX.out.2.2.2.2.2.2.1.2.2.2.1 HX.out.2.2.2.2.2.2.1.2.2.2.2 hl1 hl2).mono ?_
 rintro e w1 ⟨rfl, b1⟩
 rw [HX.out.2.2.2.1]
 clear y0 y1 y2 y3 y4 y5 y6 y7 y8 y9 y10 y11 y12 y13 y14 y15 y16
 cases x3
 case false =>
  go_wp2
  go_ret
  exact ⟨rfl, b1⟩
 go_wp2_with fail
 refine (waitsAt_any L g o n cp a a1 a2 l1 l2 c1 c2 f _ (HX.out.2.2.2.2.2.1.below b1) (HX.out.2.2.2.2.2.2.1.below b1) HX.out.2.2.2.2.2.2.2).mono ?_
 rintro e w2 ⟨rfl, b2⟩
 rw [HX.out.2.2.2.2.1]
 have HW : Hid (Below w1.heap.size w1 w2 /\ Below w2.heap.size w2 w2) := ⟨b2, Below.refl _ _⟩
 have B2 := bel_nx b1 b2
 clear b1 b2
 go_wp2
 go_ret
 exact ⟨rfl, B2⟩
end Go.Proofs.YtplaoagcedgdfaaGreat
namespace Go.Proofs.YtplaoagcedgdfaaGreat
open Go.RowKit Go.Proofs.Tryz
def pv (bits : List Bool) : Nat -> Nat -> Int
 | 0, _ => 0
 | k + 1, j => if k / 8 = j /\ bits.getD k false = true then pv bits k j + (2 ^ (k % 8) : Nat) else pv bits k j
theorem bytesFor_any (x : Int) (w : World) (h0 : 0 <= x) (h1 : x <= 9223372036854775807) :
 Calls prog 257 #[.int .i64 x] w fun e w' => e = .returned (.int .i64 ((x + 7) / 8)) /\ w' = w := by
 by_cases h : x % 8 = 0
 ·have e : (x + 7) / 8 = x / 8 := by omega
  rw [e]
  have h' : (x % 8 == 0) = true := by simp [h]
  clear e
  go_enter func257, ntmps257
  go_wp2
  go_ret
  exact ⟨rfl, rfl⟩
 have e : (x + 7) / 8 = x / 8 + 1 := by omega
 rw [e]
 have h' : (x % 8 == 0) = false := by simp [h]
 clear e
 go_enter func257, ntmps257
 go_wp2
 go_ret
 exact ⟨rfl, rfl⟩
end Go.Proofs.YtplaoagcedgdfaaGreat
