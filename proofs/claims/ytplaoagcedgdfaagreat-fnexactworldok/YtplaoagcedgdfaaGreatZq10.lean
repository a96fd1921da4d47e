/- Parts of the proof. -/
import Derived.Test.YtplaoagcedgdfaaGreatZq9
import Derived.Below
import Derived.Test.YtplaoagcedgdfaaGreatZq2
import Derived.Deep.MidRow
import Derived.Test.YtplaoagcedgdfaaGreatZq1
set_option linter.unusedVariables false
set_option linter.unusedSimpArgs false
set_option maxHeartbeats 4000000
set_option maxRecDepth 20000
namespace Go.Proofs.YtplaoagcedgdfaaGreat
open Go.RowKit Go.Proofs.Tryz
def aJ (ops : Array Oper) (i : Nat) : Option Tmp := (ops[i]?).bind (·.dst)
def nW (ops : Array Oper) (n : Nat) : Bool :=
 (List.range ops.size).all fun i => match aJ ops i with
  | some d => decide (d < n) && (List.range ops.size).all fun j => decide (j = i) || decide (aJ ops j ≠ some d)
  | none => false
def fj (ops : Array Oper) (s : Nat) : Bool := (List.range ops.size).any fun i => decide (aJ ops i = some s)
def bm (a : Act) : Nat -> List Oper -> (Nat -> Value) -> Act
 | _, [], _ => a
 | i, o :: os, vs => bm (a.put o.dst (vs i)) (i + 1) os vs
def cJ (ops : Array Oper) (o : Oper) (ρ : Operand -> Value) : Bool :=
 match o.guard with
 | none => true
 | some (j, want) => match aJ ops j with
  | some d => (match ρ (.tmp d) with | .bool b => b == want | _ => false)
  | none => false
theorem vZ {ops : Array Oper} {o : Oper} {ρ : Operand -> Value} {j : Nat} {want : Bool} {d : Tmp} {x : Value} (hg : o.guard = some (j, want)) (hd : aJ ops j = some d) (h : ρ (.tmp d) = x) (hx : (match (generalizing := false) x with | .bool b => b == want | _ => false) = false) : cJ ops o ρ = false := by
 unfold cJ
 rw [hg]
 simp only [hd, h]
 exact hx
theorem dq {md : Region.Mode} {ops : Array Oper} {o : Oper} {X : Edge -> Tmp -> Prop} (hd : ∀ e ∈ o.after, Region.binds md e = true -> ∀ d, aJ ops e.on = some d -> X e d) (k : Nat) (d : Tmp) (hm : ⟨k, .data⟩ ∈ o.after := by simp) (hb : Region.binds md ⟨k, .data⟩ = true := by exact rfl) (he : aJ ops k = some d := by exact rfl) : X ⟨k, .data⟩ d := hd _ hm hb d he
theorem gq {md : Region.Mode} {ops : Array Oper} {o : Oper} {X : Edge -> Tmp -> Prop} (hd : ∀ e ∈ o.after, Region.binds md e = true -> ∀ d, aJ ops e.on = some d -> X e d) (k : Nat) (d : Tmp) (hm : ⟨k, .guard⟩ ∈ o.after := by simp) (hb : Region.binds md ⟨k, .guard⟩ = true := by exact rfl) (he : aJ ops k = some d := by exact rfl) : X ⟨k, .guard⟩ d := hd _ hm hb d he
theorem aj {A B : Prop} {md : Region.Mode} {ops : Array Oper} {o : Oper} {ρ : Operand -> Value} {X : Edge -> Tmp -> Prop} (x : Value) (hd : ∀ e ∈ o.after, Region.binds md e = true -> ∀ d, aJ ops e.on = some d -> X e d) (k : Nat) (d : Tmp)
 (hg : ∃ b, o.guard = some (k, b) /\ (match (generalizing := false) x with | .bool c => c == b | _ => false) = false := by exact ⟨_, rfl, rfl⟩) (hx : X ⟨k, .guard⟩ d -> ρ (.tmp d) = x := by exact id) (hB : B := by first | exact rfl | exact trivial)
 (hm : ⟨k, .guard⟩ ∈ o.after := by simp) (hb : Region.binds md ⟨k, .guard⟩ = true := by exact rfl) (he : aJ ops k = some d := by exact rfl) : A \/ (cJ ops o ρ = false /\ B) := by
 obtain ⟨b, h1, h2⟩ := hg
 exact .inr ⟨vZ h1 he (hx (hd _ hm hb d he)) h2, hB⟩
theorem yr {Run F : Value -> World -> Prop} {R M : World -> Prop} {D E : Prop} {ops : Array Oper} {o : Oper} {ρ : Operand -> Value} {v : Value} {u : World} (h : Run v u) (hF : F v u) (hR : R u) (hM : M u := by exact Below.refl _ _) (hw : cJ ops o ρ = true := by exact rfl) : (cJ ops o ρ = true /\ ((∃ v u, Run v u /\ F v u /\ R u /\ M u) \/ D)) \/ E := .inl ⟨hw, .inl ⟨v, u, h, hF, hR, hM⟩⟩
theorem rU {ops : Array Oper} {o : Oper} {ρ : Operand -> Value} {k : Nat} {d : Tmp} (hg : ∃ b, o.guard = some (k, b) /\ ρ (.tmp d) = .bool b) (he : aJ ops k = some d) : cJ ops o ρ = true := by
 obtain ⟨b, h1, h2⟩ := hg
 unfold cJ
 rw [h1]
 simp only [he, h2]
 cases b <;> rfl
theorem yq {Run F : Value -> World -> Prop} {R M : World -> Prop} {D E : Prop} {md : Region.Mode} {ops : Array Oper} {o : Oper} {ρ : Operand -> Value} {X : Edge -> Tmp -> Prop} {v : Value} {u : World} (hd : ∀ e ∈ o.after, Region.binds md e = true -> ∀ d, aJ ops e.on = some d -> X e d) (k : Nat) (d : Tmp) (h : Run v u) (hF : F v u) (hR : R u) (hM : M u := by exact Below.refl _ _)
 (hg : ∃ b, o.guard = some (k, b) /\ (X ⟨k, .guard⟩ d -> ρ (.tmp d) = .bool b) := by exact ⟨_, rfl, id⟩) (hm : ⟨k, .guard⟩ ∈ o.after := by simp) (hb : Region.binds md ⟨k, .guard⟩ = true := by exact rfl) (he : aJ ops k = some d := by exact rfl) : (cJ ops o ρ = true /\ ((∃ v u, Run v u /\ F v u /\ R u /\ M u) \/ D)) \/ E := by
 obtain ⟨b, h1, h2⟩ := hg
 exact .inl ⟨rU ⟨b, h1, h2 (hd _ hm hb d he)⟩ he, .inl ⟨v, u, h, hF, hR, hM⟩⟩
def vE (P : Program) (ops : Array Oper) (Φ : Nat -> Value -> World -> Prop) (R : World -> Prop) (i : Nat) (o : Oper) (ρ : Operand -> Value) (u : World) : Prop :=
 (cJ ops o ρ = true /\ ((∃ v u', (execOp ρ o).run P u = .ok (.value v) u' /\ Φ i v u' /\ R u' /\ Below u.heap.size u u') \/ (∃ f args, (execOp ρ o).run P u = .ok (.enter f args) u /\ Calls P f args u fun e u' => ∃ v, e = .returned v /\ Φ i v u' /\ R u' /\ Below u.heap.size u u')))
 \/ (cJ ops o ρ = false /\ Φ i undef u)
structure InvV (ops : Array Oper) (Φ : Nat -> Value -> World -> Prop) (R : World -> Prop) (a0 : Act) (l : Array Bool) (a : Act) (u : World) : Prop where
 r : R u
 ls : l.size = ops.size
 df : a.defers = a0.defers
 sz : a.tmps.size = a0.tmps.size
 old : ∀ s, (∀ i d, aJ ops i = some d -> l.getD i false = true -> d ≠ s) -> a.tmps.getD s undef = a0.tmps.getD s undef
 val : ∀ i d, aJ ops i = some d -> l.getD i false = true -> Φ i (a.tmps.getD d undef) u
theorem iN {ops : Array Oper} {n : Nat} (h : nW ops n = true) {i : Nat} (hi : i < ops.size) : ∃ d, aJ ops i = some d /\ d < n /\ ∀ j, j < ops.size -> aJ ops j = some d -> j = i := by
 unfold nW at h
 rw [List.all_eq_true] at h
 have h1 := h i (List.mem_range.2 hi)
 cases hd : aJ ops i with
 | none => rw [hd] at h1; cases h1
 | some d =>
  rw [hd] at h1
  simp only [Bool.and_eq_true, decide_eq_true_eq, List.all_eq_true, Bool.or_eq_true] at h1
  refine ⟨d, rfl, h1.1, fun j hj e => ?_⟩
  rcases h1.2 j (List.mem_range.2 hj) with h2 | h2
  ·exact h2
  exact absurd e h2
theorem bU {l : Array Bool} {i j : Nat} (hi : i < l.size) : (l.setIfInBounds i true).getD j false = if j = i then true else l.getD j false := by
 simp only [Array.getD_eq_getD_getElem?, Array.getElem?_setIfInBounds]
 by_cases e : j = i
 ·subst e; simp [hi]
 rw [if_neg (Ne.symm e), if_neg e]
theorem dC {a : Act} {d s : Nat} {v : Value} (hd : d < a.tmps.size) : (a.put (some d) v).tmps.getD s undef = if s = d then v else a.tmps.getD s undef := by
 show (a.tmps.setIfInBounds d v).getD s undef = _
 simp only [Array.getD_eq_getD_getElem?, Array.getElem?_setIfInBounds]
 by_cases e : s = d
 ·subst e; simp [hd]
 rw [if_neg (Ne.symm e), if_neg e]
theorem InvV.next {ops : Array Oper} {Φ : Nat -> Value -> World -> Prop} {R : World -> Prop} {a0 : Act} {l : Array Bool} {a : Act} {u u' : World} (h : InvV ops Φ R a0 l a u) (hB : nW ops a0.tmps.size = true)
 (hmono : ∀ i v u u', Φ i v u -> Below u.heap.size u u' -> Φ i v u') {i : Nat} {o : Oper} (ho : ops[i]? = some o) {v : Value} (hv : Φ i v u') (hr : R u') (hb : Below u.heap.size u u') :
 InvV ops Φ R a0 (l.setIfInBounds i true) (a.put o.dst v) u' := by
 have hi : i < ops.size := (Array.getElem?_eq_some_iff.1 ho).1
 obtain ⟨d, hd, hlt, hun⟩ := iN hB hi
 have hod : o.dst = some d := by simpa [aJ, ho] using hd
 rw [hod]
 have hlt' : d < a.tmps.size := by rw [h.sz]; exact hlt
 have hil : i < l.size := by rw [h.ls]; exact hi
 refine ⟨hr, by simpa using h.ls, h.df, by simpa [Act.put] using h.sz, fun s hs => ?_, fun j e hj hl => ?_⟩
 ·have hne : d ≠ s := hs i d hd (by rw [bU hil, if_pos rfl])
  rw [dC hlt', if_neg (Ne.symm hne)]
  exact h.old s (fun j e hj hl => hs j e hj (by rw [bU hil]; split; rfl; exact hl))
 have hjs : j < ops.size := by
  cases hoj : ops[j]? with
  | none => rw [aJ, hoj] at hj; cases hj
  | some o' => exact (Array.getElem?_eq_some_iff.1 hoj).1
 rw [dC hlt']
 by_cases e1 : e = d
 ·subst e1
  obtain rfl := hun j hjs hj
  rw [if_pos rfl]
  exact hv
 rw [if_neg e1]
 have e2 : j ≠ i := fun e2 => by subst e2; rw [hd] at hj; exact e1 (Option.some.inj hj).symm
 rw [bU hil, if_neg e2] at hl
 exact hmono _ _ _ _ (h.val j e hj hl) hb
theorem lM {a : Act} : ∀ (os : List Oper) (k : Nat) (a' : Act) (vs : Nat -> Value), a'.defers = a.defers -> a'.tmps.size = a.tmps.size -> (∀ (j : Nat) (o : Oper) (d : Nat), os[j]? = some o -> o.dst = some d -> vs (k + j) = a.tmps.getD d undef) ->
 (∀ s, a'.tmps.getD s undef = a.tmps.getD s undef \/ ∃ (j : Nat) (o : Oper), os[j]? = some o /\ o.dst = some s) -> (∀ (j : Nat) (o : Oper), os[j]? = some o -> ∃ d, o.dst = some d /\ d < a.tmps.size) -> bm a' k os vs = a
 | [], k, a', vs, h1, h2, _, h4, _ => by
  have e : a'.tmps = a.tmps := by
   apply Array.ext h2
   intro i hi1 hi2
   rcases h4 i with h | ⟨j, o, h, _⟩
   ·simpa [Array.getD, hi1, hi2] using h
   simp at h
  cases a'; cases a
  simp only at e h1
  subst e h1
  rfl
 | o :: os, k, a', vs, h1, h2, h3, h4, h5 => by
  obtain ⟨d, hd, hlt⟩ := h5 0 o rfl
  show bm (a'.put o.dst (vs k)) (k + 1) os vs = a
  rw [hd]
  refine lM os (k + 1) _ vs h1 (by simpa [Act.put] using h2) (fun j o' d' ho hd' => by rw [show k + 1 + j = k + (j + 1) by omega]; exact h3 (j + 1) o' d' (by simpa using ho) hd') (fun s => ?_) (fun j o' ho => h5 (j + 1) o' (by simpa using ho))
  rw [dC (by rw [h2]; exact hlt)]
  by_cases e : s = d
  ·subst e
   rw [if_pos rfl]
   exact .inl (by simpa using h3 0 o s rfl hd)
  rw [if_neg e]
  rcases h4 s with h | ⟨j, o', ho, hd'⟩
  ·exact .inl h
  cases j with
  | zero => simp at ho; subst ho; rw [hd] at hd'; exact absurd (Option.some.inj hd').symm e
  | succ j => exact .inr ⟨j, o', by simpa using ho, hd'⟩
theorem ig {ops : Array Oper} {a : Act} {o : Oper} (h : ∀ j d, aJ ops j = some d -> d < a.tmps.size) : Region.wanted o (yielded ops a.tmps) = cJ ops o a.eval := by
 unfold Region.wanted cJ
 cases o.guard with
 | none => rfl
 | some p =>
  obtain ⟨j, want⟩ := p
  have hy : yielded ops a.tmps j = match aJ ops j with
   | some d => (match a.eval (.tmp d) with | .bool b => some b | _ => none)
   | none => none := by
   unfold yielded aJ
   cases hd : (ops[j]?).bind (·.dst) with
   | none => rfl
   | some d =>
    have hlt := h j d hd
    have e : (some d).bind (fun t => a.tmps[t]?) = some (a.eval (.tmp d)) := by
     show a.tmps[d]? = some (a.tmps.getD d undef)
     simp [Array.getD, hlt]
    rw [e]
    simp only
    generalize a.eval (.tmp d) = x
    cases x <;> rfl
  show (yielded ops a.tmps j == some want) = (match aJ ops j with
   | some d => (match a.eval (.tmp d) with | .bool b => b == want | _ => false)
   | none => false)
  rw [hy]
  cases aJ ops j with
  | none => rfl
  | some d =>
   simp only
   generalize a.eval (.tmp d) = x
   cases x <;> simp
theorem aX {P : Program} {ops : Array Oper} {Q : Exit -> Act -> World -> Prop} {md : Region.Mode} {a0 : Act} {w0 : World} (R : World -> Prop) (Φ : Nat -> Value -> World -> Prop)
 (hordB : jo md ops = true) (hB : nW ops a0.tmps.size = true) (hmono : ∀ i v u u', Φ i v u -> Below u.heap.size u u' -> Φ i v u') (h0 : R w0)
 (hend : ∀ (vs : Nat -> Value) u, R u -> (∀ i, i < ops.size -> Φ i (vs i) u) -> Q .normal (bm a0 0 ops.toList vs) u)
 (hstep : ∀ u i o (ρ : Operand -> Value), R u -> ops[i]? = some o -> (∀ s, fj ops s = false -> ρ (.tmp s) = a0.eval (.tmp s)) -> (∀ v, ρ (.const v) = v) -> (∀ f, ρ (.func f) = .func (.func f) #[] #[]) ->
  (∀ e ∈ o.after, Region.binds md e = true -> ∀ d, aJ ops e.on = some d -> Φ e.on (ρ (.tmp d)) u) -> vE P ops Φ R i o ρ u)
 (fuel : Nat) (l : Array Bool) (hs : l.size = ops.size) (hc : l.toList.count false <= fuel) (hl : ∀ i, l.getD i false = false) : wpAny P md ops Q fuel l a0 w0 := by
 refine iM (InvV ops Φ R a0) hordB ?_ ?_ fuel l a0 w0 hs hc ?_
 ·intro l a u h hall
  have hall' : ∀ i, i < ops.size -> l.getD i false = true := fun i hi => by rw [fJ (by rw [h.ls]; exact hi) false true]; exact hall i hi
  have e : bm a0 0 ops.toList (fun i => a.tmps.getD ((aJ ops i).getD 0) undef) = a := by
   refine lM ops.toList 0 a0 _ h.df.symm h.sz.symm (fun j o d ho hd => ?_) (fun s => ?_) (fun j o ho => ?_)
   ·rw [Nat.zero_add]
    have : aJ ops j = some d := by rw [Array.getElem?_toList] at ho; simp [aJ, ho, hd]
    show a.tmps.getD ((aJ ops j).getD 0) undef = _
    rw [this]; rfl
   ·by_cases hx : ∃ j d, aJ ops j = some d /\ l.getD j false = true /\ d = s
    ·obtain ⟨j, d, hd, _, rfl⟩ := hx
     right
     unfold aJ at hd
     cases ho : ops[j]? with
     | none => rw [ho] at hd; cases hd
     | some o => rw [ho] at hd; exact ⟨j, o, by rw [Array.getElem?_toList]; exact ho, hd⟩
    left
    exact (h.old s (fun i d hd hl e => hx ⟨i, d, hd, hl, e⟩)).symm
   rw [Array.getElem?_toList] at ho
   have hi : j < ops.size := (Array.getElem?_eq_some_iff.1 ho).1
   obtain ⟨d, hd, hlt, _⟩ := iN hB hi
   exact ⟨d, by simpa [aJ, ho] using hd, by rw [h.sz]; exact hlt⟩
  rw [<- e]
  refine hend _ u h.r (fun i hi => ?_)
  obtain ⟨d, hd, _, _⟩ := iN hB hi
  show Φ i (a.tmps.getD ((aJ ops i).getD 0) undef) u
  rw [hd]
  exact h.val i d hd (hall' i hi)
 ·intro l a u i o h ho hli hdep K hK
  have hi : i < ops.size := (Array.getElem?_eq_some_iff.1 ho).1
  have hin : ∀ j d, aJ ops j = some d -> j < ops.size := fun j d hj => by
   unfold aJ at hj
   cases hoj : ops[j]? with
   | none => rw [hoj] at hj; cases hj
   | some o' => exact (Array.getElem?_eq_some_iff.1 hoj).1
  have hw : Region.wanted o (yielded ops a.tmps) = cJ ops o a.eval := ig (fun j d hj => by
   obtain ⟨d', hd', hlt, _⟩ := iN hB (hin j d hj)
   rw [hj] at hd'
   rw [h.sz, Option.some.inj hd']; exact hlt)
  have hst := hstep u i o a.eval h.r ho (fun s hns => by
   refine h.old s (fun j d hj _ e => ?_)
   subst e
   have : fj ops d = true := by
    unfold fj
    rw [List.any_eq_true]
    exact ⟨j, List.mem_range.2 (hin j d hj), by simp [hj]⟩
   rw [this] at hns; cases hns) (fun _ => rfl) (fun _ => rfl) (fun e he hb d hd => h.val e.on d hd (hdep e he hb))
  rcases hst with ⟨hwt, ⟨v, u', hrun, hv, hr, hbl⟩ | ⟨f, args, hrun, hcall⟩⟩ | ⟨hwf, hv⟩
  ·rw [if_pos (by rw [hw]; exact hwt)]
   unfold Oper.wp
   rw [hrun]
   exact hK _ _ (h.next hB hmono ho hv hr hbl)
  ·rw [if_pos (by rw [hw]; exact hwt)]
   unfold Oper.wp
   rw [hrun, Oper.upon_enter]
   refine hcall.mono ?_
   rintro e u' ⟨v, rfl, hv, hr, hbl⟩
   exact hK _ _ (h.next hB hmono ho hv hr hbl)
  rw [if_neg (by rw [hw, hwf]; decide)]
  exact hK _ _ (h.next hB hmono ho hv h.r (Below.refl _ _))
 exact ⟨h0, hs, rfl, rfl, fun _ _ => rfl, fun i d _ hl' => by rw [hl i] at hl'; cases hl'⟩
def ft (r : Ru) (un sp pl : Int) : Bool := decide (r.u = un) && decide (r.s = sp) && decide (r.lo <= pl) && decide (pl <= r.hi)
def pb (f : Nat -> Ru) (un sp pl : Int) (n k : Nat) : Int :=
 if h : k < n then (if ft (f k) un sp pl = true then (k : Int) else pb f un sp pl n (k + 1)) else -1
termination_by n - k
abbrev atR (f : Nat -> Ru) (n : Nat) (un sp pl : Int) : Int := pb f un sp pl n 0
theorem rV (r : Ru) (un sp pl : Int) (w : World) :
 Calls prog 165 #[.agg (aS r), .int .i64 un, .int .i64 sp, .int .i64 pl] w fun e w' => e = .returned (.bool (ft r un sp pl)) /\ Below w.heap.size w w' := by
 unfold ft
 by_cases h1 : r.u = un
 ·by_cases h2 : r.s = sp
  ·by_cases h3 : r.lo <= pl
   ·by_cases h4 : pl <= r.hi
    ·skip
     have e : (decide (r.u = un) && decide (r.s = sp) && decide (r.lo <= pl) && decide (pl <= r.hi)) = true := by simp [h1, h2, h3, h4]
     rw [e]
     clear e
     go_enter func165, ntmps165
     go_wp2
     go_ret
     exact ⟨rfl, (Below.refl _ w).alloc (Nat.le_refl _) _⟩
    skip
    have e : (decide (r.u = un) && decide (r.s = sp) && decide (r.lo <= pl) && decide (pl <= r.hi)) = false := by simp [h1, h2, h3, h4]
    rw [e]
    clear e
    go_enter func165, ntmps165
    go_wp2
    go_ret
    exact ⟨rfl, (Below.refl _ w).alloc (Nat.le_refl _) _⟩
   skip
   have e : (decide (r.u = un) && decide (r.s = sp) && decide (r.lo <= pl) && decide (pl <= r.hi)) = false := by simp [h1, h2, h3]
   rw [e]
   clear e
   go_enter func165, ntmps165
   go_wp2
   go_ret
   exact ⟨rfl, (Below.refl _ w).alloc (Nat.le_refl _) _⟩
  skip
  have e : (decide (r.u = un) && decide (r.s = sp) && decide (r.lo <= pl) && decide (pl <= r.hi)) = false := by simp [h1, h2]
  rw [e]
  clear e
  go_enter func165, ntmps165
  go_wp2
  go_ret
  exact ⟨rfl, (Below.refl _ w).alloc (Nat.le_refl _) _⟩
 skip
 have e : (decide (r.u = un) && decide (r.s = sp) && decide (r.lo <= pl) && decide (pl <= r.hi)) = false := by simp [h1]
 rw [e]
 clear e
 go_enter func165, ntmps165
 go_wp2
 go_ret
 exact ⟨rfl, (Below.refl _ w).alloc (Nat.le_refl _) _⟩
def Tri (w : World) (g1 g2 g3 : Nat) (un sp pl : Int) : Prop :=
 tw w g1 3 (.int .i64 un) /\ tw w g2 3 (.int .i64 sp) /\ tw w g3 3 (.int .i64 pl)
end Go.Proofs.YtplaoagcedgdfaaGreat
namespace Go.Proofs.YtplaoagcedgdfaaGreat
open Go.Proofs.Tryz
def cm (a b : Ru) : Prop := a.u < b.u \/ (a.u = b.u /\ (a.s < b.s \/ (a.s = b.s /\ a.lo < b.lo)))
instance (a b : Ru) : Decidable (cm a b) := by unfold cm; infer_instance
def cE (a b : Ru) : Prop := ¬ cm b a
theorem cE.trans {a b c : Ru} (h : cE a b) (h' : cE b c) : cE a c := by unfold cE cm at *; omega
theorem cE.refl (a : Ru) : cE a a := by unfold cE cm; omega
theorem cm.le {a b : Ru} (h : cm a b) : cE a b := by unfold cE; unfold cm at *; omega
def aC (f : Nat -> Ru) (a b : Nat) : Prop := ∀ i j, a <= i -> i < j -> j < b -> cE (f i) (f j)
theorem aC.le {f : Nat -> Ru} {a b i j : Nat} (h : aC f a b) (h1 : a <= i) (h2 : i <= j) (h3 : j < b) : cE (f i) (f j) := by
 by_cases e : i = j
 ·subst e; exact cE.refl _
 exact h i j h1 (by omega) h3
def aH (a b : Nat) (f g : Nat -> Ru) : Prop :=
 ∃ σ τ : Nat -> Nat, (∀ k, (k < a \/ b <= k) -> σ k = k /\ τ k = k) /\ (∀ k, a <= k -> k < b -> a <= σ k /\ σ k < b /\ a <= τ k /\ τ k < b) /\ (∀ k, τ (σ k) = k /\ σ (τ k) = k) /\ ∀ k, g k = f (σ k)
theorem aH.refl (a b : Nat) (f : Nat -> Ru) : aH a b f f := ⟨id, id, fun _ _ => ⟨rfl, rfl⟩, fun _ h1 h2 => ⟨h1, h2, h1, h2⟩, fun _ => ⟨rfl, rfl⟩, fun _ => rfl⟩
theorem aH.trans {a b : Nat} {f g h : Nat -> Ru} (p : aH a b f g) (q : aH a b g h) : aH a b f h := by
 obtain ⟨σ, τ, h1, h2, h3, h4⟩ := p
 obtain ⟨σ', τ', g1, g2, g3, g4⟩ := q
 refine ⟨fun k => σ (σ' k), fun k => τ' (τ k), fun k hk => ?_, fun k ha hb => ?_, fun k => ⟨?_, ?_⟩, fun k => by rw [g4, h4]⟩
 ·have e1 := g1 k hk
  have e2 := h1 k hk
  simp only
  rw [e1.1, e2.2, e2.1, e1.2]
  exact ⟨rfl, rfl⟩
 ·have e1 := g2 k ha hb
  have e2 := h2 k ha hb
  have e3 := h2 (σ' k) e1.1 e1.2.1
  have e4 := g2 (τ k) e2.2.2.1 e2.2.2.2
  exact ⟨e3.1, e3.2.1, e4.2.2.1, e4.2.2.2⟩
 ·simp only; rw [(h3 _).1, (g3 _).1]
 simp only; rw [(g3 _).2, (h3 _).2]
theorem aH.mono {a b a' b' : Nat} {f g : Nat -> Ru} (p : aH a b f g) (h1 : a' <= a) (h2 : b <= b') : aH a' b' f g := by
 obtain ⟨σ, τ, p1, p2, p3, p4⟩ := p
 refine ⟨σ, τ, fun k hk => p1 k (by omega), fun k ha hb => ?_, p3, p4⟩
 by_cases e : a <= k /\ k < b
 ·have := p2 k e.1 e.2
  omega
 have := p1 k (by omega)
 omega
theorem aH.out {a b : Nat} {f g : Nat -> Ru} (p : aH a b f g) {k : Nat} (h : k < a \/ b <= k) : g k = f k := by
 obtain ⟨σ, τ, p1, _, _, p4⟩ := p
 rw [p4, (p1 k h).1]
theorem aH.from' {a b : Nat} {f g : Nat -> Ru} (p : aH a b f g) {k : Nat} (h1 : a <= k) (h2 : k < b) : ∃ j, a <= j /\ j < b /\ g k = f j := by
 obtain ⟨σ, τ, _, p2, _, p4⟩ := p
 exact ⟨σ k, (p2 k h1 h2).1, (p2 k h1 h2).2.1, p4 k⟩
def cL (i j k : Nat) : Nat := if k = i then j else if k = j then i else k
theorem nH (i j k : Nat) : cL i j (cL i j k) = k := by unfold cL; split <;> split <;> (try split) <;> omega
theorem aH.swap {a b i j : Nat} (f : Nat -> Ru) (h1 : a <= i) (h2 : i < b) (h3 : a <= j) (h4 : j < b) : aH a b f (fun k => f (cL i j k)) := by
 refine ⟨cL i j, cL i j, fun k hk => ?_, fun k ha hb => ?_, fun k => ⟨nH i j k, nH i j k⟩, fun k => rfl⟩
 ·have : cL i j k = k := by unfold cL; rw [if_neg (by omega), if_neg (by omega)]
  exact ⟨this, this⟩
 have : a <= cL i j k /\ cL i j k < b := by unfold cL; split <;> (try split) <;> omega
 exact ⟨this.1, this.2, this.1, this.2⟩
def gh (h : Nat -> Ru) (a i j : Nat) : Prop :=
 (∀ p q, a <= p -> p < q -> q <= i -> p ≠ j -> q ≠ j -> cE (h p) (h q)) /\ (∀ q, j < q -> q <= i -> cE (h j) (h q))
theorem gh.start {h : Nat -> Ru} {a i : Nat} (hs : aC h a i) : gh h a i i :=
 ⟨fun p q h1 h2 h3 _ h5 => hs p q h1 h2 (by omega), fun q h1 h2 => by omega⟩
theorem gh.step {h : Nat -> Ru} {a i j : Nat} (H : gh h a i j) (hj : a < j) (hi : j <= i) (hlt : cm (h j) (h (j - 1))) : gh (fun k => h (cL j (j - 1) k)) a i (j - 1) := by
 obtain ⟨H1, H2⟩ := H
 have ej : cL j (j - 1) j = j - 1 := by simp [cL]
 have ej' : cL j (j - 1) (j - 1) = j := by unfold cL; rw [if_neg (by omega), if_pos rfl]
 have eo : ∀ k, k ≠ j -> k ≠ j - 1 -> cL j (j - 1) k = k := fun k h1 h2 => by unfold cL; rw [if_neg h1, if_neg h2]
 refine ⟨fun p q h1 h2 h3 h4 h5 => ?_, fun q h1 h2 => ?_⟩
 ·show cE (h (cL j (j - 1) p)) (h (cL j (j - 1) q))
  by_cases ep : p = j
  ·subst ep
   rw [ej, eo q (by omega) h5]
   exact H1 (p - 1) q (by omega) (by omega) h3 (by omega) (by omega)
  rw [eo p ep h4]
  by_cases eq : q = j
  ·subst eq
   rw [ej]
   exact H1 p (q - 1) h1 (by omega) (by omega) ep (by omega)
  rw [eo q eq h5]
  exact H1 p q h1 h2 h3 ep eq
 show cE (h (cL j (j - 1) (j - 1))) (h (cL j (j - 1) q))
 rw [ej']
 by_cases eq : q = j
 ·subst eq
  rw [ej]
  exact hlt.le
 rw [eo q eq (by omega)]
 exact H2 q (by omega) h2
theorem gh.fin {h : Nat -> Ru} {a i j : Nat} (H : gh h a i j) (hi : j <= i) (hx : j <= a \/ ¬ cm (h j) (h (j - 1))) : aC h a (i + 1) := by
 obtain ⟨H1, H2⟩ := H
 intro p q h1 h2 h3
 by_cases ep : p = j
 ·subst ep; exact H2 q h2 (by omega)
 by_cases eq : q = j
 ·subst eq
  rcases hx with hx | hx
  ·omega
  have e1 : cE (h (q - 1)) (h q) := hx
  by_cases e2 : p = q - 1
  ·subst e2; exact e1
  exact (H1 p (q - 1) h1 (by omega) (by omega) ep (by omega)).trans e1
 exact H1 p q h1 h2 (by omega) ep eq
end Go.Proofs.YtplaoagcedgdfaaGreat
namespace Go.Proofs.YtplaoagcedgdfaaGreat
open Go.RowKit Go.Proofs.Tryz
def bD (r : Ru) : Prop := (1 <= r.u /\ r.u <= 247) /\ (0 <= r.s /\ r.s <= 3) /\ (0 <= r.lo /\ r.lo <= r.hi /\ r.hi <= 65535) /\ (0 <= r.p /\ r.p <= 5) /\ (1 <= r.t /\ r.t <= 247) /\ 0 <= r.lo + r.sh /\ r.hi + r.sh <= 65535
instance (r : Ru) : Decidable (bD r) := by unfold bD; infer_instance
theorem tA (x most : Int) (w : World) (b : Bool) (hb : aw x 1 most = b) : Calls prog 199 #[.int .i64 x, .int .i64 most] w fun e w' => e = .returned (.bool b) /\ w' = w := by
 subst hb
 unfold aw
 by_cases h1 : 1 <= x
 ·by_cases h2 : x <= most
  ·rw [decide_eq_true (show (1 <= x /\ x <= most) from ⟨by omega, by omega⟩)]
   go_enter func199, ntmps199
   go_wp2
   go_ret
   exact ⟨rfl, rfl⟩
  rw [decide_eq_false (show ¬ (1 <= x /\ x <= most) from fun h => by omega)]
  go_enter func199, ntmps199
  go_wp2
  go_ret
  exact ⟨rfl, rfl⟩
 rw [decide_eq_false (show ¬ (1 <= x /\ x <= most) from fun h => by omega)]
 go_enter func199, ntmps199
 go_wp2
 go_ret
 exact ⟨rfl, rfl⟩
theorem dr (x : Int) (w : World) (b : Bool) (hb : aw x 0 3 = b) : Calls prog 159 #[.int .i64 x] w fun e w' => e = .returned (.bool b) /\ w' = w := by
 subst hb
 unfold aw
 by_cases h1 : 0 <= x
 ·by_cases h2 : x <= 3
  ·rw [decide_eq_true (show (0 <= x /\ x <= 3) from ⟨by omega, by omega⟩)]
   go_enter func159, ntmps159
   go_wp2
   go_ret
   exact ⟨rfl, rfl⟩
  rw [decide_eq_false (show ¬ (0 <= x /\ x <= 3) from fun h => by omega)]
  go_enter func159, ntmps159
  go_wp2
  go_ret
  exact ⟨rfl, rfl⟩
 rw [decide_eq_false (show ¬ (0 <= x /\ x <= 3) from fun h => by omega)]
 go_enter func159, ntmps159
 go_wp2
 go_ret
 exact ⟨rfl, rfl⟩
theorem cB (x : Int) (w : World) (b : Bool) (hb : aw x 0 5 = b) : Calls prog 160 #[.int .i64 x] w fun e w' => e = .returned (.bool b) /\ w' = w := by
 subst hb
 unfold aw
 by_cases h1 : 0 <= x
 ·by_cases h2 : x < 6
  ·rw [decide_eq_true (show (0 <= x /\ x <= 5) from ⟨by omega, by omega⟩)]
   go_enter func160, ntmps160
   go_wp2
   go_ret
   exact ⟨rfl, rfl⟩
  rw [decide_eq_false (show ¬ (0 <= x /\ x <= 5) from fun h => by omega)]
  go_enter func160, ntmps160
  go_wp2
  go_ret
  exact ⟨rfl, rfl⟩
 rw [decide_eq_false (show ¬ (0 <= x /\ x <= 5) from fun h => by omega)]
 go_enter func160, ntmps160
 go_wp2
 go_ret
 exact ⟨rfl, rfl⟩
theorem bX (x : Int) (w : World) (b : Bool) (hb : aw x 1 247 = b) : Calls prog 158 #[.int .i64 x] w fun e w' => e = .returned (.bool b) /\ w' = w := by
 go_enter func158, ntmps158
 go_wp2_with fail
 refine (tA _ _ _ _ hb).mono ?_
 rintro e wx ⟨rfl, rfl⟩
 go_wp2
 go_ret
 exact ⟨rfl, rfl⟩
theorem aP {x lo hi : Int} (h : lo <= x /\ x <= hi) : aw x lo hi = true := decide_eq_true h
theorem dj {x lo hi : Int} (h : ¬ (lo <= x /\ x <= hi)) : aw x lo hi = false := decide_eq_false h
theorem jr (r : Ru) (w : World) (hl : 0 <= r.lo /\ r.lo <= r.hi /\ r.hi <= 65535) (h64 : -9223372036854775808 <= r.sh /\ r.sh <= 9223372036854775807) :
 Calls prog 162 #[.agg (aS r)] w fun e w' => e = .returned (.bool (decide (0 <= r.lo + r.sh /\ r.hi + r.sh <= 65535))) /\ Below w.heap.size w w' := by
 obtain ⟨x1, hx1⟩ : ∃ x1, IntKind.i64.wrap (r.lo + r.sh) = x1 := ⟨_, rfl⟩
 obtain ⟨x2, hx2⟩ : ∃ x2, IntKind.i64.wrap (r.hi + r.sh) = x2 := ⟨_, rfl⟩
 have HX : Hid ((0 <= x1 /\ x1 <= 65535 ↔ 0 <= r.lo + r.sh /\ r.lo + r.sh <= 65535) /\ (0 <= x2 /\ x2 <= 65535 ↔ 0 <= r.hi + r.sh /\ r.hi + r.sh <= 65535) /\ r.lo <= r.hi) := by
  rw [IntKind.wrap_i64] at hx1 hx2
  show _ /\ _
  omega
 clear hl h64
 by_cases h0 : 0 <= x1 /\ x1 <= 65535
 case neg =>
  rw [decide_eq_false (show ¬ (0 <= r.lo + r.sh /\ r.hi + r.sh <= 65535) from by have := HX.out; omega)]
  go_enter func162, ntmps162
  go_wp2_with fail
  refine (be (x1) _ false (dj h0)).mono ?_
  rintro e wx ⟨rfl, rfl⟩
  go_wp2
  go_ret
  exact ⟨rfl, ((Below.refl _ w).alloc (Nat.le_refl _) _)⟩
 by_cases h1 : 0 <= x2 /\ x2 <= 65535
 case neg =>
  rw [decide_eq_false (show ¬ (0 <= r.lo + r.sh /\ r.hi + r.sh <= 65535) from by have := HX.out; omega)]
  go_enter func162, ntmps162
  go_wp2_with fail
  refine (be (x1) _ true (aP h0)).mono ?_
  rintro e wx ⟨rfl, rfl⟩
  go_wp2_with fail
  refine (be (x2) _ false (dj h1)).mono ?_
  rintro e wx ⟨rfl, rfl⟩
  go_wp2
  go_ret
  exact ⟨rfl, ((Below.refl _ w).alloc (Nat.le_refl _) _)⟩
 rw [decide_eq_true (show 0 <= r.lo + r.sh /\ r.hi + r.sh <= 65535 from by have := HX.out; omega)]
 go_enter func162, ntmps162
 go_wp2_with fail
 refine (be (x1) _ true (aP h0)).mono ?_
 rintro e wx ⟨rfl, rfl⟩
 go_wp2_with fail
 refine (be (x2) _ true (aP h1)).mono ?_
 rintro e wx ⟨rfl, rfl⟩
 go_wp2
 go_ret
 exact ⟨rfl, ((Below.refl _ w).alloc (Nat.le_refl _) _)⟩
theorem mL (r : Ru) (w : World) (h64 : -9223372036854775808 <= r.sh /\ r.sh <= 9223372036854775807) :
 Calls prog 101 #[.agg (aS r)] w fun e w' => e = .returned (.bool (decide (bD r))) /\ Below w.heap.size w w' := by
 by_cases h0 : 1 <= r.u /\ r.u <= 247
 case neg =>
  rw [decide_eq_false (show ¬ bD r from by unfold bD; omega)]
  go_enter func101, ntmps101
  go_wp2_with fail
  refine (bX (r.u) _ false (dj h0)).mono ?_
  rintro e wx ⟨rfl, rfl⟩
  go_wp2
  go_ret
  exact ⟨rfl, ((Below.refl _ w).alloc (Nat.le_refl _) _)⟩
 by_cases h1 : 0 <= r.s /\ r.s <= 3
 case neg =>
  rw [decide_eq_false (show ¬ bD r from by unfold bD; omega)]
  go_enter func101, ntmps101
  go_wp2_with fail
  refine (bX (r.u) _ true (aP h0)).mono ?_
  rintro e wx ⟨rfl, rfl⟩
  go_wp2_with fail
  refine (dr (r.s) _ false (dj h1)).mono ?_
  rintro e wx ⟨rfl, rfl⟩
  go_wp2
  go_ret
  exact ⟨rfl, ((Below.refl _ w).alloc (Nat.le_refl _) _)⟩
 by_cases h2 : 0 <= r.p /\ r.p <= 5
 case neg =>
  rw [decide_eq_false (show ¬ bD r from by unfold bD; omega)]
  go_enter func101, ntmps101
  go_wp2_with fail
  refine (bX (r.u) _ true (aP h0)).mono ?_
  rintro e wx ⟨rfl, rfl⟩
  go_wp2_with fail
  refine (dr (r.s) _ true (aP h1)).mono ?_
  rintro e wx ⟨rfl, rfl⟩
  go_wp2_with fail
  refine (cB (r.p) _ false (dj h2)).mono ?_
  rintro e wx ⟨rfl, rfl⟩
  go_wp2
  go_ret
  exact ⟨rfl, ((Below.refl _ w).alloc (Nat.le_refl _) _)⟩
 by_cases h3 : 1 <= r.t /\ r.t <= 247
 case neg =>
  rw [decide_eq_false (show ¬ bD r from by unfold bD; omega)]
  go_enter func101, ntmps101
  go_wp2_with fail
  refine (bX (r.u) _ true (aP h0)).mono ?_
  rintro e wx ⟨rfl, rfl⟩
  go_wp2_with fail
  refine (dr (r.s) _ true (aP h1)).mono ?_
  rintro e wx ⟨rfl, rfl⟩
  go_wp2_with fail
  refine (cB (r.p) _ true (aP h2)).mono ?_
  rintro e wx ⟨rfl, rfl⟩
  go_wp2_with fail
  refine (bX (r.t) _ false (dj h3)).mono ?_
  rintro e wx ⟨rfl, rfl⟩
  go_wp2
  go_ret
  exact ⟨rfl, ((Below.refl _ w).alloc (Nat.le_refl _) _)⟩
 by_cases h4 : 0 <= r.lo /\ r.lo <= 65535
 case neg =>
  rw [decide_eq_false (show ¬ bD r from by unfold bD; omega)]
  go_enter func101, ntmps101
  go_wp2_with fail
  refine (bX (r.u) _ true (aP h0)).mono ?_
  rintro e wx ⟨rfl, rfl⟩
  go_wp2_with fail
  refine (dr (r.s) _ true (aP h1)).mono ?_
  rintro e wx ⟨rfl, rfl⟩
  go_wp2_with fail
  refine (cB (r.p) _ true (aP h2)).mono ?_
  rintro e wx ⟨rfl, rfl⟩
  go_wp2_with fail
  refine (bX (r.t) _ true (aP h3)).mono ?_
  rintro e wx ⟨rfl, rfl⟩
  go_wp2_with fail
  refine (be (r.lo) _ false (dj h4)).mono ?_
  rintro e wx ⟨rfl, rfl⟩
  go_wp2
  go_ret
  exact ⟨rfl, ((Below.refl _ w).alloc (Nat.le_refl _) _)⟩
 by_cases h5 : 0 <= r.hi /\ r.hi <= 65535
 case neg =>
  rw [decide_eq_false (show ¬ bD r from by unfold bD; omega)]
  go_enter func101, ntmps101
  go_wp2_with fail
  refine (bX (r.u) _ true (aP h0)).mono ?_
  rintro e wx ⟨rfl, rfl⟩
  go_wp2_with fail
  refine (dr (r.s) _ true (aP h1)).mono ?_
  rintro e wx ⟨rfl, rfl⟩
  go_wp2_with fail
  refine (cB (r.p) _ true (aP h2)).mono ?_
  rintro e wx ⟨rfl, rfl⟩
  go_wp2_with fail
  refine (bX (r.t) _ true (aP h3)).mono ?_
  rintro e wx ⟨rfl, rfl⟩
  go_wp2_with fail
  refine (be (r.lo) _ true (aP h4)).mono ?_
  rintro e wx ⟨rfl, rfl⟩
  go_wp2_with fail
  refine (be (r.hi) _ false (dj h5)).mono ?_
  rintro e wx ⟨rfl, rfl⟩
  go_wp2
  go_ret
  exact ⟨rfl, ((Below.refl _ w).alloc (Nat.le_refl _) _)⟩
 by_cases h6 : r.lo <= r.hi
 case neg =>
  rw [decide_eq_false (show ¬ bD r from by unfold bD; omega)]
  go_enter func101, ntmps101
  go_wp2_with fail
  refine (bX (r.u) _ true (aP h0)).mono ?_
  rintro e wx ⟨rfl, rfl⟩
  go_wp2_with fail
  refine (dr (r.s) _ true (aP h1)).mono ?_
  rintro e wx ⟨rfl, rfl⟩
  go_wp2_with fail
  refine (cB (r.p) _ true (aP h2)).mono ?_
  rintro e wx ⟨rfl, rfl⟩
  go_wp2_with fail
  refine (bX (r.t) _ true (aP h3)).mono ?_
  rintro e wx ⟨rfl, rfl⟩
  go_wp2_with fail
  refine (be (r.lo) _ true (aP h4)).mono ?_
  rintro e wx ⟨rfl, rfl⟩
  go_wp2_with fail
  refine (be (r.hi) _ true (aP h5)).mono ?_
  rintro e wx ⟨rfl, rfl⟩
  go_wp2
  go_ret
  exact ⟨rfl, ((Below.refl _ w).alloc (Nat.le_refl _) _)⟩
 have e9 : decide (bD r) = decide (0 <= r.lo + r.sh /\ r.hi + r.sh <= 65535) := by
  apply decide_eq_decide.2
  unfold bD
  omega
 obtain ⟨bb, hbb⟩ : ∃ bb : Bool, decide (0 <= r.lo + r.sh /\ r.hi + r.sh <= 65535) = bb := ⟨_, rfl⟩
 rw [e9, hbb]
 have HBB : Hid (decide (0 <= r.lo + r.sh /\ r.hi + r.sh <= 65535) = bb) := hbb
 clear e9 hbb
 have B0 : Below w.heap.size w (w.alloc (.cells (aS r) 102)) := (Below.refl _ w).alloc (Nat.le_refl _) _
 go_enter func101, ntmps101
 go_wp2_with fail
 refine (bX (r.u) _ true (aP h0)).mono ?_
 rintro e wx ⟨rfl, rfl⟩
 go_wp2_with fail
 refine (dr (r.s) _ true (aP h1)).mono ?_
 rintro e wx ⟨rfl, rfl⟩
 go_wp2_with fail
 refine (cB (r.p) _ true (aP h2)).mono ?_
 rintro e wx ⟨rfl, rfl⟩
 go_wp2_with fail
 refine (bX (r.t) _ true (aP h3)).mono ?_
 rintro e wx ⟨rfl, rfl⟩
 go_wp2_with fail
 refine (be (r.lo) _ true (aP h4)).mono ?_
 rintro e wx ⟨rfl, rfl⟩
 go_wp2_with fail
 refine (be (r.hi) _ true (aP h5)).mono ?_
 rintro e wx ⟨rfl, rfl⟩
 go_wp2_with fail
 refine (jr r _ ⟨by omega, by omega, by omega⟩ h64).mono ?_
 rintro e w1 ⟨he, b1⟩
 rw [HBB.out] at he
 subst he
 have B1 := ak B0 b1
 clear B0 b1
 go_wp2
 go_ret
 exact ⟨rfl, B1⟩
theorem mM (r : Ru) (w : World) :
 Calls prog 96 #[.agg (aS r)] w fun e w' => e = .returned (.bool (decide (bD r))) /\ Below w.heap.size w w' := by
 by_cases h0 : 1 <= r.u /\ r.u <= 247
 case neg =>
  rw [decide_eq_false (show ¬ bD r from by unfold bD; omega)]
  go_enter func96, ntmps96
  go_wp2_with fail
  refine (aE (r.u) (1) (247) _ false (dj h0)).mono ?_
  rintro e wx ⟨rfl, rfl⟩
  go_wp2
  go_ret
  exact ⟨rfl, ((Below.refl _ w).alloc (Nat.le_refl _) _)⟩
 by_cases h1 : 0 <= r.s /\ r.s <= 3
 case neg =>
  rw [decide_eq_false (show ¬ bD r from by unfold bD; omega)]
  go_enter func96, ntmps96
  go_wp2_with fail
  refine (aE (r.u) (1) (247) _ true (aP h0)).mono ?_
  rintro e wx ⟨rfl, rfl⟩
  go_wp2_with fail
  refine (aE (r.s) (0) (3) _ false (dj h1)).mono ?_
  rintro e wx ⟨rfl, rfl⟩
  go_wp2
  go_ret
  exact ⟨rfl, ((Below.refl _ w).alloc (Nat.le_refl _) _)⟩
 by_cases h2 : 0 <= r.lo /\ r.lo <= 65535
 case neg =>
  rw [decide_eq_false (show ¬ bD r from by unfold bD; omega)]
  go_enter func96, ntmps96
  go_wp2_with fail
  refine (aE (r.u) (1) (247) _ true (aP h0)).mono ?_
  rintro e wx ⟨rfl, rfl⟩
  go_wp2_with fail
  refine (aE (r.s) (0) (3) _ true (aP h1)).mono ?_
  rintro e wx ⟨rfl, rfl⟩
  go_wp2_with fail
  refine (aE (r.lo) (0) (65535) _ false (dj h2)).mono ?_
  rintro e wx ⟨rfl, rfl⟩
  go_wp2
  go_ret
  exact ⟨rfl, ((Below.refl _ w).alloc (Nat.le_refl _) _)⟩
 by_cases h3 : r.lo <= r.hi /\ r.hi <= 65535
 case neg =>
  rw [decide_eq_false (show ¬ bD r from by unfold bD; omega)]
  go_enter func96, ntmps96
  go_wp2_with fail
  refine (aE (r.u) (1) (247) _ true (aP h0)).mono ?_
  rintro e wx ⟨rfl, rfl⟩
  go_wp2_with fail
  refine (aE (r.s) (0) (3) _ true (aP h1)).mono ?_
  rintro e wx ⟨rfl, rfl⟩
  go_wp2_with fail
  refine (aE (r.lo) (0) (65535) _ true (aP h2)).mono ?_
  rintro e wx ⟨rfl, rfl⟩
  go_wp2_with fail
  refine (aE (r.hi) (r.lo) (65535) _ false (dj h3)).mono ?_
  rintro e wx ⟨rfl, rfl⟩
  go_wp2
  go_ret
  exact ⟨rfl, ((Below.refl _ w).alloc (Nat.le_refl _) _)⟩
 by_cases h4 : 0 <= r.p /\ r.p <= 5
 case neg =>
  rw [decide_eq_false (show ¬ bD r from by unfold bD; omega)]
  go_enter func96, ntmps96
  go_wp2_with fail
  refine (aE (r.u) (1) (247) _ true (aP h0)).mono ?_
  rintro e wx ⟨rfl, rfl⟩
  go_wp2_with fail
  refine (aE (r.s) (0) (3) _ true (aP h1)).mono ?_
  rintro e wx ⟨rfl, rfl⟩
  go_wp2_with fail
  refine (aE (r.lo) (0) (65535) _ true (aP h2)).mono ?_
  rintro e wx ⟨rfl, rfl⟩
  go_wp2_with fail
  refine (aE (r.hi) (r.lo) (65535) _ true (aP h3)).mono ?_
  rintro e wx ⟨rfl, rfl⟩
  go_wp2_with fail
  refine (aE (r.p) (0) (5) _ false (dj h4)).mono ?_
  rintro e wx ⟨rfl, rfl⟩
  go_wp2
  go_ret
  exact ⟨rfl, ((Below.refl _ w).alloc (Nat.le_refl _) _)⟩
 by_cases h5 : 1 <= r.t /\ r.t <= 247
 case neg =>
  rw [decide_eq_false (show ¬ bD r from by unfold bD; omega)]
  go_enter func96, ntmps96
  go_wp2_with fail
  refine (aE (r.u) (1) (247) _ true (aP h0)).mono ?_
  rintro e wx ⟨rfl, rfl⟩
  go_wp2_with fail
  refine (aE (r.s) (0) (3) _ true (aP h1)).mono ?_
  rintro e wx ⟨rfl, rfl⟩
  go_wp2_with fail
  refine (aE (r.lo) (0) (65535) _ true (aP h2)).mono ?_
  rintro e wx ⟨rfl, rfl⟩
  go_wp2_with fail
  refine (aE (r.hi) (r.lo) (65535) _ true (aP h3)).mono ?_
  rintro e wx ⟨rfl, rfl⟩
  go_wp2_with fail
  refine (aE (r.p) (0) (5) _ true (aP h4)).mono ?_
  rintro e wx ⟨rfl, rfl⟩
  go_wp2_with fail
  refine (aE (r.t) (1) (247) _ false (dj h5)).mono ?_
  rintro e wx ⟨rfl, rfl⟩
  go_wp2
  go_ret
  exact ⟨rfl, ((Below.refl _ w).alloc (Nat.le_refl _) _)⟩
 by_cases h6 : -65535 <= r.sh /\ r.sh <= 65535
 case neg =>
  rw [decide_eq_false (show ¬ bD r from by unfold bD; omega)]
  go_enter func96, ntmps96
  go_wp2_with fail
  refine (aE (r.u) (1) (247) _ true (aP h0)).mono ?_
  rintro e wx ⟨rfl, rfl⟩
  go_wp2_with fail
  refine (aE (r.s) (0) (3) _ true (aP h1)).mono ?_
  rintro e wx ⟨rfl, rfl⟩
  go_wp2_with fail
  refine (aE (r.lo) (0) (65535) _ true (aP h2)).mono ?_
  rintro e wx ⟨rfl, rfl⟩
  go_wp2_with fail
  refine (aE (r.hi) (r.lo) (65535) _ true (aP h3)).mono ?_
  rintro e wx ⟨rfl, rfl⟩
  go_wp2_with fail
  refine (aE (r.p) (0) (5) _ true (aP h4)).mono ?_
  rintro e wx ⟨rfl, rfl⟩
  go_wp2_with fail
  refine (aE (r.t) (1) (247) _ true (aP h5)).mono ?_
  rintro e wx ⟨rfl, rfl⟩
  go_wp2_with fail
  refine (aE (r.sh) (-65535) (65535) _ false (dj h6)).mono ?_
  rintro e wx ⟨rfl, rfl⟩
  go_wp2
  go_ret
  exact ⟨rfl, ((Below.refl _ w).alloc (Nat.le_refl _) _)⟩
 have wr1 : IntKind.i64.wrap (r.lo + r.sh) = r.lo + r.sh := by rw [IntKind.wrap_i64]; omega
 have wr2 : IntKind.i64.wrap (r.hi + r.sh) = r.hi + r.sh := by rw [IntKind.wrap_i64]; omega
 by_cases h7 : 0 <= r.lo + r.sh /\ r.lo + r.sh <= 65535
 case neg =>
  rw [decide_eq_false (show ¬ bD r from by unfold bD; omega)]
  go_enter func96, ntmps96
  go_wp2_with fail
  refine (aE (r.u) (1) (247) _ true (aP h0)).mono ?_
  rintro e wx ⟨rfl, rfl⟩
  go_wp2_with fail
  refine (aE (r.s) (0) (3) _ true (aP h1)).mono ?_
  rintro e wx ⟨rfl, rfl⟩
  go_wp2_with fail
  refine (aE (r.lo) (0) (65535) _ true (aP h2)).mono ?_
  rintro e wx ⟨rfl, rfl⟩
  go_wp2_with fail
  refine (aE (r.hi) (r.lo) (65535) _ true (aP h3)).mono ?_
  rintro e wx ⟨rfl, rfl⟩
  go_wp2_with fail
  refine (aE (r.p) (0) (5) _ true (aP h4)).mono ?_
  rintro e wx ⟨rfl, rfl⟩
  go_wp2_with fail
  refine (aE (r.t) (1) (247) _ true (aP h5)).mono ?_
  rintro e wx ⟨rfl, rfl⟩
  go_wp2_with fail
  refine (aE (r.sh) (-65535) (65535) _ true (aP h6)).mono ?_
  rintro e wx ⟨rfl, rfl⟩
  go_wp2_with fail
  refine (aE (r.lo + r.sh) (0) (65535) _ false (dj h7)).mono ?_
  rintro e wx ⟨rfl, rfl⟩
  go_wp2
  go_ret
  exact ⟨rfl, ((Below.refl _ w).alloc (Nat.le_refl _) _)⟩
 by_cases h8 : 0 <= r.hi + r.sh /\ r.hi + r.sh <= 65535
 case neg =>
  rw [decide_eq_false (show ¬ bD r from by unfold bD; omega)]
  go_enter func96, ntmps96
  go_wp2_with fail
  refine (aE (r.u) (1) (247) _ true (aP h0)).mono ?_
  rintro e wx ⟨rfl, rfl⟩
  go_wp2_with fail
  refine (aE (r.s) (0) (3) _ true (aP h1)).mono ?_
  rintro e wx ⟨rfl, rfl⟩
  go_wp2_with fail
  refine (aE (r.lo) (0) (65535) _ true (aP h2)).mono ?_
  rintro e wx ⟨rfl, rfl⟩
  go_wp2_with fail
  refine (aE (r.hi) (r.lo) (65535) _ true (aP h3)).mono ?_
  rintro e wx ⟨rfl, rfl⟩
  go_wp2_with fail
  refine (aE (r.p) (0) (5) _ true (aP h4)).mono ?_
  rintro e wx ⟨rfl, rfl⟩
  go_wp2_with fail
  refine (aE (r.t) (1) (247) _ true (aP h5)).mono ?_
  rintro e wx ⟨rfl, rfl⟩
  go_wp2_with fail
  refine (aE (r.sh) (-65535) (65535) _ true (aP h6)).mono ?_
  rintro e wx ⟨rfl, rfl⟩
  go_wp2_with fail
  refine (aE (r.lo + r.sh) (0) (65535) _ true (aP h7)).mono ?_
  rintro e wx ⟨rfl, rfl⟩
  go_wp2_with fail
  refine (aE (r.hi + r.sh) (0) (65535) _ false (dj h8)).mono ?_
  rintro e wx ⟨rfl, rfl⟩
  go_wp2
  go_ret
  exact ⟨rfl, ((Below.refl _ w).alloc (Nat.le_refl _) _)⟩
 rw [decide_eq_true (show bD r from by unfold bD; omega)]
 go_enter func96, ntmps96
 go_wp2_with fail
 refine (aE (r.u) (1) (247) _ true (aP h0)).mono ?_
 rintro e wx ⟨rfl, rfl⟩
 go_wp2_with fail
 refine (aE (r.s) (0) (3) _ true (aP h1)).mono ?_
 rintro e wx ⟨rfl, rfl⟩
 go_wp2_with fail
 refine (aE (r.lo) (0) (65535) _ true (aP h2)).mono ?_
 rintro e wx ⟨rfl, rfl⟩
 go_wp2_with fail
 refine (aE (r.hi) (r.lo) (65535) _ true (aP h3)).mono ?_
 rintro e wx ⟨rfl, rfl⟩
 go_wp2_with fail
 refine (aE (r.p) (0) (5) _ true (aP h4)).mono ?_
 rintro e wx ⟨rfl, rfl⟩
 go_wp2_with fail
 refine (aE (r.t) (1) (247) _ true (aP h5)).mono ?_
 rintro e wx ⟨rfl, rfl⟩
 go_wp2_with fail
 refine (aE (r.sh) (-65535) (65535) _ true (aP h6)).mono ?_
 rintro e wx ⟨rfl, rfl⟩
 go_wp2_with fail
 refine (aE (r.lo + r.sh) (0) (65535) _ true (aP h7)).mono ?_
 rintro e wx ⟨rfl, rfl⟩
 go_wp2_with fail
 refine (aE (r.hi + r.sh) (0) (65535) _ true (aP h8)).mono ?_
 rintro e wx ⟨rfl, rfl⟩
 go_wp2
 go_ret
 exact ⟨rfl, ((Below.refl _ w).alloc (Nat.le_refl _) _)⟩
theorem ai {P : Program} {ρ : Operand -> Value} {o : Oper} {u : World} {t : TypeId} {p : Operand} {ptr v : Value} (ho : o.op = .load t p) (hp : ρ p = ptr) (hr : (Instr.loadAt t ptr).run P u = .ok v u) : (execOp ρ o).run P u = .ok (.value v) u := by
 unfold execOp
 simp only [ho, hp]
 rw [Sem.run_bind, hr]
 rfl
theorem bj {P : Program} {ρ : Operand -> Value} {o : Oper} {u : World} {f : FuncId} {xs : Array Operand} {ts : Array TypeId} {args : Array Value} (ho : o.op = .call ⟨.value (.func f), xs, ts⟩) (hf : ρ (.func f) = .func (.func f) #[] #[]) (hx : xs.map ρ = args)
 (hc : (callFunc f args).run P u = .ok (.enter f args) u) : (execOp ρ o).run P u = .ok (.enter f args) u := by
 unfold execOp
 simp only [ho, resolve, hf, hx]
 show (callFunc f ((#[] ++ args) ++ #[])).run P u = _
 simpa using hc
theorem aA {P : Program} {ρ : Operand -> Value} {o : Oper} {u : World} {c x y : Operand} {b : Bool} (ho : o.op = .pick c x y) (hc : ρ c = .bool b) : (execOp ρ o).run P u = .ok (.value (if b = true then ρ x else ρ y)) u := by
 unfold execOp
 simp only [ho, hc]
 rfl
theorem aD {P : Program} {ρ : Operand -> Value} {o : Oper} {u : World} {op : BinOp} {t t' : TypeId} {x y : Operand} {a b v : Value} (ho : o.op = .binOp op t x y t') (ha : ρ x = a) (hb : ρ y = b) (hr : (do eqGuard op t x y a b; binOp op t a b : Sem Value).run P u = .ok v u) : (execOp ρ o).run P u = .ok (.value v) u := by
 unfold execOp
 simp only [ho, ha, hb]
 rw [Sem.run_bind, hr]
 rfl
def iW (ops : Array Oper) (n : Nat) : Bool :=
 (List.range ops.size).all fun i => match aJ ops i with
  | some d => decide (d < n) && (List.range ops.size).all fun j => decide (j = i) || decide (aJ ops j ≠ some d)
  | none => true
def aN (l : Nat -> Bool) (i : Nat) : Nat -> Bool := fun j => if j = i then true else l j
def vF (P : Program) (ops : Array Oper) (Φ : Nat -> Value -> World -> Prop) (R : World -> Prop) (M : World -> World -> Prop) (i : Nat) (o : Oper) (ρ : Operand -> Value) (u : World) : Prop :=
 (cJ ops o ρ = true /\ ((∃ v u', (execOp ρ o).run P u = .ok (.value v) u' /\ Φ i v u' /\ R u' /\ M u u') \/ (∃ f args, (execOp ρ o).run P u = .ok (.enter f args) u /\ Calls P f args u fun e u' => ∃ v, e = .returned v /\ Φ i v u' /\ R u' /\ M u u') \/ (o.dst = none /\ ∃ u', (execOp ρ o).run P u = .ok .skip u' /\ R u' /\ M u u')))
 \/ (cJ ops o ρ = false /\ Φ i undef u /\ R u)
structure InvW (md : Region.Mode) (ops : Array Oper) (Φ : Nat -> Value -> World -> Prop) (R : (Nat -> Bool) -> World -> Prop) (a0 : Act) (l : Array Bool) (a : Act) (u : World) : Prop where
 r : R (fun i => l.getD i false) u
 ls : l.size = ops.size
 df : a.defers = a0.defers
 sz : a.tmps.size = a0.tmps.size
 old : ∀ s, (∀ i d, aJ ops i = some d -> l.getD i false = true -> d ≠ s) -> a.tmps.getD s undef = a0.tmps.getD s undef
 val : ∀ i d, aJ ops i = some d -> l.getD i false = true -> Φ i (a.tmps.getD d undef) u
 cl : ∀ i o, ops[i]? = some o -> l.getD i false = true -> ∀ e ∈ o.after, Region.binds md e = true -> l.getD e.on false = true
theorem eY {ops : Array Oper} {n : Nat} (h : iW ops n = true) {i : Nat} (hi : i < ops.size) {d : Nat} (hd : aJ ops i = some d) : d < n /\ ∀ j, j < ops.size -> aJ ops j = some d -> j = i := by
 unfold iW at h
 rw [List.all_eq_true] at h
 have h1 := h i (List.mem_range.2 hi)
 rw [hd] at h1
 simp only [Bool.and_eq_true, decide_eq_true_eq, List.all_eq_true, Bool.or_eq_true] at h1
 refine ⟨h1.1, fun j hj e => ?_⟩
 rcases h1.2 j (List.mem_range.2 hj) with h2 | h2
 ·exact h2
 exact absurd e h2
theorem dt {ops : Array Oper} {j d : Nat} (hj : aJ ops j = some d) : j < ops.size := by
 unfold aJ at hj
 cases hoj : ops[j]? with
 | none => rw [hoj] at hj; cases hj
 | some o' => exact (Array.getElem?_eq_some_iff.1 hoj).1
theorem lN {l : Array Bool} {i : Nat} (hi : i < l.size) : (fun j => (l.setIfInBounds i true).getD j false) = aN (fun j => l.getD j false) i := by
 funext j
 exact bU hi
theorem InvW.next {md : Region.Mode} {ops : Array Oper} {Φ : Nat -> Value -> World -> Prop} {R : (Nat -> Bool) -> World -> Prop} {M : World -> World -> Prop} {a0 : Act} {l : Array Bool} {a : Act} {u u' : World} (h : InvW md ops Φ R a0 l a u) (hB : iW ops a0.tmps.size = true)
 (hmono : ∀ i v u u', Φ i v u -> M u u' -> Φ i v u') {i : Nat} {o : Oper} (ho : ops[i]? = some o) (hdep : ∀ e ∈ o.after, Region.binds md e = true -> l.getD e.on false = true) {v : Value} (hv : ∀ d, o.dst = some d -> Φ i v u') (hr : R (aN (fun j => l.getD j false) i) u') (hb : M u u') :
 InvW md ops Φ R a0 (l.setIfInBounds i true) (a.put o.dst v) u' := by
 have hi : i < ops.size := (Array.getElem?_eq_some_iff.1 ho).1
 have hil : i < l.size := by rw [h.ls]; exact hi
 have hcl : ∀ j oj, ops[j]? = some oj -> (l.setIfInBounds i true).getD j false = true -> ∀ e ∈ oj.after, Region.binds md e = true -> (l.setIfInBounds i true).getD e.on false = true := by
  intro j oj hoj hlj e he hbd
  rw [bU hil]
  split
  ·rfl
  rw [bU hil] at hlj
  by_cases e1 : j = i
  ·subst e1
   rw [ho] at hoj
   cases hoj
   exact hdep e he hbd
  rw [if_neg e1] at hlj
  exact h.cl j oj hoj hlj e he hbd
 have hr' : R (fun j => (l.setIfInBounds i true).getD j false) u' := by rw [lN hil]; exact hr
 cases hod : o.dst with
 | none =>
  have hd : aJ ops i = none := by simp [aJ, ho, hod]
  refine ⟨hr', by simpa using h.ls, h.df, h.sz, fun s hs => ?_, fun j e hj hl => ?_, hcl⟩
  ·exact h.old s (fun j e hj hl => hs j e hj (by rw [bU hil]; split; rfl; exact hl))
  have e2 : j ≠ i := fun e2 => by subst e2; rw [hd] at hj; cases hj
  rw [bU hil, if_neg e2] at hl
  exact hmono _ _ _ _ (h.val j e hj hl) hb
 | some d =>
  have hd : aJ ops i = some d := by simp [aJ, ho, hod]
  obtain ⟨hlt, hun⟩ := eY hB hi hd
  have hlt' : d < a.tmps.size := by rw [h.sz]; exact hlt
  refine ⟨hr', by simpa using h.ls, h.df, by simpa [Act.put] using h.sz, fun s hs => ?_, fun j e hj hl => ?_, hcl⟩
  ·have hne : d ≠ s := hs i d hd (by rw [bU hil, if_pos rfl])
   rw [dC hlt', if_neg (Ne.symm hne)]
   exact h.old s (fun j e hj hl => hs j e hj (by rw [bU hil]; split; rfl; exact hl))
  rw [dC hlt']
  by_cases e1 : e = d
  ·subst e1
   obtain rfl := hun j (dt hj) hj
   rw [if_pos rfl]
   exact hv _ hod
  rw [if_neg e1]
  have e2 : j ≠ i := fun e2 => by subst e2; rw [hd] at hj; exact e1 (Option.some.inj hj).symm
  rw [bU hil, if_neg e2] at hl
  exact hmono _ _ _ _ (h.val j e hj hl) hb
theorem fS {a : Act} : ∀ (os : List Oper) (k : Nat) (a' : Act) (vs : Nat -> Value), a'.defers = a.defers -> a'.tmps.size = a.tmps.size -> (∀ (j : Nat) (o : Oper) (d : Nat), os[j]? = some o -> o.dst = some d -> vs (k + j) = a.tmps.getD d undef) ->
 (∀ s, a'.tmps.getD s undef = a.tmps.getD s undef \/ ∃ (j : Nat) (o : Oper), os[j]? = some o /\ o.dst = some s) -> (∀ (j : Nat) (o : Oper) (d : Nat), os[j]? = some o -> o.dst = some d -> d < a.tmps.size) -> bm a' k os vs = a
 | [], k, a', vs, h1, h2, _, h4, _ => by
  have e : a'.tmps = a.tmps := by
   apply Array.ext h2
   intro i hi1 hi2
   rcases h4 i with h | ⟨j, o, h, _⟩
   ·simpa [Array.getD, hi1, hi2] using h
   simp at h
  cases a'; cases a
  simp only at e h1
  subst e h1
  rfl
 | o :: os, k, a', vs, h1, h2, h3, h4, h5 => by
  show bm (a'.put o.dst (vs k)) (k + 1) os vs = a
  have h3' : ∀ (j : Nat) (o : Oper) (d : Nat), os[j]? = some o -> o.dst = some d -> vs (k + 1 + j) = a.tmps.getD d undef := fun j o' d' ho hd' => by rw [show k + 1 + j = k + (j + 1) by omega]; exact h3 (j + 1) o' d' (by simpa using ho) hd'
  have h5' : ∀ (j : Nat) (o : Oper) (d : Nat), os[j]? = some o -> o.dst = some d -> d < a.tmps.size := fun j o' d' ho hd' => h5 (j + 1) o' d' (by simpa using ho) hd'
  cases hd : o.dst with
  | none =>
   refine fS os (k + 1) _ vs h1 h2 h3' (fun s => ?_) h5'
   rcases h4 s with h | ⟨j, o', ho, hd'⟩
   ·exact .inl h
   cases j with
   | zero => simp at ho; subst ho; rw [hd] at hd'; cases hd'
   | succ j => exact .inr ⟨j, o', by simpa using ho, hd'⟩
  | some d =>
   have hlt := h5 0 o d rfl hd
   refine fS os (k + 1) _ vs h1 (by simpa [Act.put] using h2) h3' (fun s => ?_) h5'
   rw [dC (by rw [h2]; exact hlt)]
   by_cases e : s = d
   ·subst e
    rw [if_pos rfl]
    exact .inl (by simpa using h3 0 o s rfl hd)
   rw [if_neg e]
   rcases h4 s with h | ⟨j, o', ho, hd'⟩
   ·exact .inl h
   cases j with
   | zero => simp at ho; subst ho; rw [hd] at hd'; exact absurd (Option.some.inj hd').symm e
   | succ j => exact .inr ⟨j, o', by simpa using ho, hd'⟩
theorem fD {P : Program} {ops : Array Oper} {Q : Exit -> Act -> World -> Prop} {md : Region.Mode} {a0 : Act} {w0 : World} (R : (Nat -> Bool) -> World -> Prop) (M : World -> World -> Prop) (Φ : Nat -> Value -> World -> Prop)
 (hordB : jo md ops = true) (hB : iW ops a0.tmps.size = true) (hmono : ∀ i v u u', Φ i v u -> M u u' -> Φ i v u') (hM : ∀ u, M u u) (h0 : R (fun _ => false) w0)
 (hend : ∀ (vs : Nat -> Value) u, R (fun i => decide (i < ops.size)) u -> (∀ i d, aJ ops i = some d -> Φ i (vs i) u) -> Q .normal (bm a0 0 ops.toList vs) u)
 (hstep : ∀ u i o (ρ : Operand -> Value) (l : Nat -> Bool), R l u -> ops[i]? = some o -> l i = false -> (∀ j oj, ops[j]? = some oj -> l j = true -> ∀ e ∈ oj.after, Region.binds md e = true -> l e.on = true) ->
  (∀ s, fj ops s = false -> ρ (.tmp s) = a0.eval (.tmp s)) -> (∀ v, ρ (.const v) = v) -> (∀ f, ρ (.func f) = .func (.func f) #[] #[]) ->
  (∀ e ∈ o.after, Region.binds md e = true -> l e.on = true) -> (∀ j d, aJ ops j = some d -> l j = true -> Φ j (ρ (.tmp d)) u) -> vF P ops Φ (R (aN l i)) M i o ρ u)
 (fuel : Nat) (l : Array Bool) (hs : l.size = ops.size) (hc : l.toList.count false <= fuel) (hl : ∀ i, l.getD i false = false) : wpAny P md ops Q fuel l a0 w0 := by
 refine iM (InvW md ops Φ R a0) hordB ?_ ?_ fuel l a0 w0 hs hc ?_
 ·intro l a u h hall
  have hall' : ∀ i, i < ops.size -> l.getD i false = true := fun i hi => by rw [fJ (by rw [h.ls]; exact hi) false true]; exact hall i hi
  have e : bm a0 0 ops.toList (fun i => a.tmps.getD ((aJ ops i).getD 0) undef) = a := by
   refine fS ops.toList 0 a0 _ h.df.symm h.sz.symm (fun j o d ho hd => ?_) (fun s => ?_) (fun j o d ho hd => ?_)
   ·rw [Nat.zero_add]
    have : aJ ops j = some d := by rw [Array.getElem?_toList] at ho; simp [aJ, ho, hd]
    show a.tmps.getD ((aJ ops j).getD 0) undef = _
    rw [this]; rfl
   ·by_cases hx : ∃ j d, aJ ops j = some d /\ l.getD j false = true /\ d = s
    ·obtain ⟨j, d, hd, _, rfl⟩ := hx
     right
     unfold aJ at hd
     cases ho : ops[j]? with
     | none => rw [ho] at hd; cases hd
     | some o => rw [ho] at hd; exact ⟨j, o, by rw [Array.getElem?_toList]; exact ho, hd⟩
    left
    exact (h.old s (fun i d hd hl e => hx ⟨i, d, hd, hl, e⟩)).symm
   rw [Array.getElem?_toList] at ho
   have hi : j < ops.size := (Array.getElem?_eq_some_iff.1 ho).1
   have hd' : aJ ops j = some d := by simp [aJ, ho, hd]
   rw [h.sz]
   exact (eY hB hi hd').1
  rw [<- e]
  refine hend _ u ?_ (fun i d hd => ?_)
  ·have e2 : (fun i => l.getD i false) = (fun i => decide (i < ops.size)) := by
    funext i
    by_cases hi : i < ops.size
    ·rw [hall' i hi]; simp [hi]
    have : ¬ i < l.size := by rw [h.ls]; exact hi
    simp [Array.getD, hi, this]
   rw [<- e2]
   exact h.r
  show Φ i (a.tmps.getD ((aJ ops i).getD 0) undef) u
  rw [hd]
  exact h.val i d hd (hall' i (dt hd))
 ·intro l a u i o h ho hli hdep K hK
  have hi : i < ops.size := (Array.getElem?_eq_some_iff.1 ho).1
  have hw : Region.wanted o (yielded ops a.tmps) = cJ ops o a.eval := ig (fun j d hj => by
   rw [h.sz]; exact (eY hB (dt hj) hj).1)
  have hst := hstep u i o a.eval (fun j => l.getD j false) h.r ho (by show l.getD i false = false; rw [fJ (by rw [h.ls]; exact hi) false true]; exact hli) (fun j oj hoj hlj e he hb => h.cl j oj hoj hlj e he hb) (fun s hns => by
   refine h.old s (fun j d hj _ e => ?_)
   subst e
   have : fj ops d = true := by
    unfold fj
    rw [List.any_eq_true]
    exact ⟨j, List.mem_range.2 (dt hj), by simp [hj]⟩
   rw [this] at hns; cases hns) (fun _ => rfl) (fun _ => rfl) hdep (fun j d hd hlj => h.val j d hd hlj)
  rcases hst with ⟨hwt, ⟨v, u', hrun, hv, hr, hbl⟩ | ⟨f, args, hrun, hcall⟩ | ⟨hno, u', hrun, hr, hbl⟩⟩ | ⟨hwf, hv, hr⟩
  ·rw [if_pos (by rw [hw]; exact hwt)]
   unfold Oper.wp
   rw [hrun]
   exact hK _ _ (h.next hB hmono ho hdep (fun _ _ => hv) hr hbl)
  ·rw [if_pos (by rw [hw]; exact hwt)]
   unfold Oper.wp
   rw [hrun, Oper.upon_enter]
   refine hcall.mono ?_
   rintro e u' ⟨v, rfl, hv, hr, hbl⟩
   exact hK _ _ (h.next hB hmono ho hdep (fun _ _ => hv) hr hbl)
  ·rw [if_pos (by rw [hw]; exact hwt)]
   unfold Oper.wp
   rw [hrun, Oper.upon_skip]
   exact hK _ _ (h.next hB hmono ho hdep (fun d hd => by rw [hno] at hd; cases hd) hr hbl)
  rw [if_neg (by rw [hw, hwf]; decide)]
  exact hK _ _ (h.next hB hmono ho hdep (fun _ _ => hv) hr (hM u))
 refine ⟨?_, hs, rfl, rfl, fun _ _ => rfl, fun i d _ hl' => (by rw [hl i] at hl'; cases hl'), fun i o _ hl' => (by rw [hl i] at hl'; cases hl')⟩
 rw [show (fun i => l.getD i false) = (fun _ => false) from funext hl]
 exact h0
theorem cn {P : Program} {ρ : Operand -> Value} {o : Oper} {u : World} {f : FuncId} {x : Operand} {xs : Array Operand} {ts : Array TypeId} {args : Array Value} (ho : o.op = .call ⟨.value x, xs, ts⟩) (hf : ρ x = .func (.func f) #[] #[]) (hx : xs.map ρ = args)
 (hc : (callFunc f args).run P u = .ok (.enter f args) u) : (execOp ρ o).run P u = .ok (.enter f args) u := by
 unfold execOp
 simp only [ho, resolve, hf, hx]
 show (callFunc f ((#[] ++ args) ++ #[])).run P u = _
 simpa using hc
theorem au {P : Program} {ρ : Operand -> Value} {o : Oper} {u : World} {t : TypeId} {x y : Operand} {a b v : Value} (ho : o.op = .indexAddr t x y) (ha : ρ x = a) (hb : ρ y = b) (hr : (Instr.indexAt t a b).run P u = .ok v u) : (execOp ρ o).run P u = .ok (.value v) u := by
 unfold execOp
 simp only [ho, ha, hb]
 rw [Sem.run_bind, hr]
 rfl
theorem cC {P : Program} {ρ : Operand -> Value} {o : Oper} {u u' : World} {t : TypeId} {x y : Operand} {a b : Value} (ho : o.op = .store t x y) (ha : ρ x = a) (hb : ρ y = b) (hr : (Instr.storeAt t a b).run P u = .ok () u') : (execOp ρ o).run P u = .ok .skip u' := by
 unfold execOp
 simp only [ho, ha, hb]
 rw [Sem.run_bind, hr]
 rfl
theorem aq {P : Program} {ρ : Operand -> Value} {o : Oper} {u : World} {s : TypeId} {x : Operand} {f : Nat} {a v : Value} (ho : o.op = .fieldAddr s x f) (ha : ρ x = a) (hr : (Instr.fieldAt s a f).run P u = .ok v u) : (execOp ρ o).run P u = .ok (.value v) u := by
 unfold execOp
 simp only [ho, ha]
 rw [Sem.run_bind, hr]
 rfl
theorem ij {P : Program} {ρ : Operand -> Value} {o : Oper} {u u' : World} {t : TypeId} {n : Nat} {ps : Array (Nat × Operand)} {qs : Array (Nat × Value)} {v : Value} (ho : o.op = .buildSlice t n ps) (ha : ps.map (fun (i, x) => (i, ρ x)) = qs) (hr : (Instr.buildSlice t n qs).run P u = .ok v u') : (execOp ρ o).run P u = .ok (.value v) u' := by
 unfold execOp
 simp only [ho, ha]
 rw [Sem.run_bind, hr]
 rfl
theorem bH {P : Program} {ρ : Operand -> Value} {o : Oper} {u : World} {op : UnOp} {t : TypeId} {x : Operand} {a v : Value} (ho : o.op = .unOp op t x) (ha : ρ x = a) (hr : (Op.unary op a).run P u = .ok v u) : (execOp ρ o).run P u = .ok (.value v) u := by
 unfold execOp
 simp only [ho, ha]
 rw [Sem.run_bind, hr]
 rfl
def gi (σ : Nat -> Value) (od : Option Nat) (v : Value) : Nat -> Value := match od with
 | some d => fun s => if s = d then v else σ s
 | none => σ
def vG (P : Program) (ops : Array Oper) (Φ : Nat -> Value -> World -> Prop) (R : Value -> World -> Prop) (M : World -> World -> Prop) (i : Nat) (o : Oper) (ρ : Operand -> Value) (u : World) : Prop :=
 (cJ ops o ρ = true /\ ((∃ v u', (execOp ρ o).run P u = .ok (.value v) u' /\ Φ i v u' /\ R v u' /\ M u u') \/ (∃ f args, (execOp ρ o).run P u = .ok (.enter f args) u /\ Calls P f args u fun e u' => ∃ v, e = .returned v /\ Φ i v u' /\ R v u' /\ M u u') \/ (o.dst = none /\ ∃ u', (execOp ρ o).run P u = .ok .skip u' /\ R undef u' /\ M u u')))
 \/ (cJ ops o ρ = false /\ Φ i undef u /\ R undef u)
structure InvY (md : Region.Mode) (ops : Array Oper) (Φ : Nat -> Value -> World -> Prop) (R : (Nat -> Bool) -> (Nat -> Value) -> World -> Prop) (a0 : Act) (l : Array Bool) (a : Act) (u : World) : Prop where
 r : R (fun i => l.getD i false) (fun s => a.tmps.getD s undef) u
 ls : l.size = ops.size
 df : a.defers = a0.defers
 sz : a.tmps.size = a0.tmps.size
 old : ∀ s, (∀ i d, aJ ops i = some d -> l.getD i false = true -> d ≠ s) -> a.tmps.getD s undef = a0.tmps.getD s undef
 val : ∀ i d, aJ ops i = some d -> l.getD i false = true -> Φ i (a.tmps.getD d undef) u
 cl : ∀ i o, ops[i]? = some o -> l.getD i false = true -> ∀ e ∈ o.after, Region.binds md e = true -> l.getD e.on false = true
theorem InvY.next {md : Region.Mode} {ops : Array Oper} {Φ : Nat -> Value -> World -> Prop} {R : (Nat -> Bool) -> (Nat -> Value) -> World -> Prop} {M : World -> World -> Prop} {a0 : Act} {l : Array Bool} {a : Act} {u u' : World} (h : InvY md ops Φ R a0 l a u) (hB : iW ops a0.tmps.size = true)
 (hmono : ∀ i v u u', Φ i v u -> M u u' -> Φ i v u') {i : Nat} {o : Oper} (ho : ops[i]? = some o) (hdep : ∀ e ∈ o.after, Region.binds md e = true -> l.getD e.on false = true) {v : Value} (hv : ∀ d, o.dst = some d -> Φ i v u') (hr : R (aN (fun j => l.getD j false) i) (gi (fun s => a.tmps.getD s undef) o.dst v) u') (hb : M u u') :
 InvY md ops Φ R a0 (l.setIfInBounds i true) (a.put o.dst v) u' := by
 have hi : i < ops.size := (Array.getElem?_eq_some_iff.1 ho).1
 have hil : i < l.size := by rw [h.ls]; exact hi
 have hcl : ∀ j oj, ops[j]? = some oj -> (l.setIfInBounds i true).getD j false = true -> ∀ e ∈ oj.after, Region.binds md e = true -> (l.setIfInBounds i true).getD e.on false = true := by
  intro j oj hoj hlj e he hbd
  rw [bU hil]
  split
  ·rfl
  rw [bU hil] at hlj
  by_cases e1 : j = i
  ·subst e1
   rw [ho] at hoj
   cases hoj
   exact hdep e he hbd
  rw [if_neg e1] at hlj
  exact h.cl j oj hoj hlj e he hbd
 rw [<- lN hil] at hr
 cases hod : o.dst with
 | none =>
  have hd : aJ ops i = none := by simp [aJ, ho, hod]
  rw [hod] at hr
  refine ⟨hr, by simpa using h.ls, h.df, h.sz, fun s hs => ?_, fun j e hj hl => ?_, hcl⟩
  ·exact h.old s (fun j e hj hl => hs j e hj (by rw [bU hil]; split; rfl; exact hl))
  have e2 : j ≠ i := fun e2 => by subst e2; rw [hd] at hj; cases hj
  rw [bU hil, if_neg e2] at hl
  exact hmono _ _ _ _ (h.val j e hj hl) hb
 | some d =>
  have hd : aJ ops i = some d := by simp [aJ, ho, hod]
  obtain ⟨hlt, hun⟩ := eY hB hi hd
  have hlt' : d < a.tmps.size := by rw [h.sz]; exact hlt
  rw [hod] at hr
  have hr' : R (fun j => (l.setIfInBounds i true).getD j false) (fun s => (a.put (some d) v).tmps.getD s undef) u' := by
   have e9 : (fun s => (a.put (some d) v).tmps.getD s undef) = gi (fun s => a.tmps.getD s undef) (some d) v := by funext s; exact dC hlt'
   rw [e9]; exact hr
  refine ⟨hr', by simpa using h.ls, h.df, by simpa [Act.put] using h.sz, fun s hs => ?_, fun j e hj hl => ?_, hcl⟩
  ·have hne : d ≠ s := hs i d hd (by rw [bU hil, if_pos rfl])
   rw [dC hlt', if_neg (Ne.symm hne)]
   exact h.old s (fun j e hj hl => hs j e hj (by rw [bU hil]; split; rfl; exact hl))
  rw [dC hlt']
  by_cases e1 : e = d
  ·subst e1
   obtain rfl := hun j (dt hj) hj
   rw [if_pos rfl]
   exact hv _ hod
  rw [if_neg e1]
  have e2 : j ≠ i := fun e2 => by subst e2; rw [hd] at hj; exact e1 (Option.some.inj hj).symm
  rw [bU hil, if_neg e2] at hl
  exact hmono _ _ _ _ (h.val j e hj hl) hb
theorem nX {P : Program} {ops : Array Oper} {Q : Exit -> Act -> World -> Prop} {md : Region.Mode} {a0 : Act} {w0 : World} (R : (Nat -> Bool) -> (Nat -> Value) -> World -> Prop) (M : World -> World -> Prop) (Φ : Nat -> Value -> World -> Prop)
 (hordB : jo md ops = true) (hB : iW ops a0.tmps.size = true) (hmono : ∀ i v u u', Φ i v u -> M u u' -> Φ i v u') (hM : ∀ u, M u u) (h0 : R (fun _ => false) (fun s => a0.tmps.getD s undef) w0)
 (hend : ∀ (vs : Nat -> Value) (σ : Nat -> Value) u, R (fun i => decide (i < ops.size)) σ u -> (∀ i d, aJ ops i = some d -> vs i = σ d) -> (∀ i d, aJ ops i = some d -> Φ i (vs i) u) -> Q .normal (bm a0 0 ops.toList vs) u)
 (hstep : ∀ u i o (ρ : Operand -> Value) (l : Nat -> Bool), R l (fun s => ρ (.tmp s)) u -> ops[i]? = some o -> l i = false -> (∀ j oj, ops[j]? = some oj -> l j = true -> ∀ e ∈ oj.after, Region.binds md e = true -> l e.on = true) ->
  (∀ s, fj ops s = false -> ρ (.tmp s) = a0.eval (.tmp s)) -> (∀ v, ρ (.const v) = v) -> (∀ f, ρ (.func f) = .func (.func f) #[] #[]) ->
  (∀ e ∈ o.after, Region.binds md e = true -> l e.on = true) -> (∀ j d, aJ ops j = some d -> l j = true -> Φ j (ρ (.tmp d)) u) -> vG P ops Φ (fun v u' => R (aN l i) (gi (fun s => ρ (.tmp s)) o.dst v) u') M i o ρ u)
 (fuel : Nat) (l : Array Bool) (hs : l.size = ops.size) (hc : l.toList.count false <= fuel) (hl : ∀ i, l.getD i false = false) : wpAny P md ops Q fuel l a0 w0 := by
 refine iM (InvY md ops Φ R a0) hordB ?_ ?_ fuel l a0 w0 hs hc ?_
 ·intro l a u h hall
  have hall' : ∀ i, i < ops.size -> l.getD i false = true := fun i hi => by rw [fJ (by rw [h.ls]; exact hi) false true]; exact hall i hi
  have e : bm a0 0 ops.toList (fun i => a.tmps.getD ((aJ ops i).getD 0) undef) = a := by
   refine fS ops.toList 0 a0 _ h.df.symm h.sz.symm (fun j o d ho hd => ?_) (fun s => ?_) (fun j o d ho hd => ?_)
   ·rw [Nat.zero_add]
    have : aJ ops j = some d := by rw [Array.getElem?_toList] at ho; simp [aJ, ho, hd]
    show a.tmps.getD ((aJ ops j).getD 0) undef = _
    rw [this]; rfl
   ·by_cases hx : ∃ j d, aJ ops j = some d /\ l.getD j false = true /\ d = s
    ·obtain ⟨j, d, hd, _, rfl⟩ := hx
     right
     unfold aJ at hd
     cases ho : ops[j]? with
     | none => rw [ho] at hd; cases hd
     | some o => rw [ho] at hd; exact ⟨j, o, by rw [Array.getElem?_toList]; exact ho, hd⟩
    left
    exact (h.old s (fun i d hd hl e => hx ⟨i, d, hd, hl, e⟩)).symm
   rw [Array.getElem?_toList] at ho
   have hi : j < ops.size := (Array.getElem?_eq_some_iff.1 ho).1
   have hd' : aJ ops j = some d := by simp [aJ, ho, hd]
   rw [h.sz]
   exact (eY hB hi hd').1
  rw [<- e]
  refine hend _ (fun s => a.tmps.getD s undef) u ?_ (fun i d hd => by show a.tmps.getD ((aJ ops i).getD 0) undef = _; rw [hd]; rfl) (fun i d hd => ?_)
  ·have e2 : (fun i => l.getD i false) = (fun i => decide (i < ops.size)) := by
    funext i
    by_cases hi : i < ops.size
    ·rw [hall' i hi]; simp [hi]
    have : ¬ i < l.size := by rw [h.ls]; exact hi
    simp [Array.getD, hi, this]
   rw [<- e2]
   exact h.r
  show Φ i (a.tmps.getD ((aJ ops i).getD 0) undef) u
  rw [hd]
  exact h.val i d hd (hall' i (dt hd))
 ·intro l a u i o h ho hli hdep K hK
  have hi : i < ops.size := (Array.getElem?_eq_some_iff.1 ho).1
  have hw : Region.wanted o (yielded ops a.tmps) = cJ ops o a.eval := ig (fun j d hj => by
   rw [h.sz]; exact (eY hB (dt hj) hj).1)
  have hst := hstep u i o a.eval (fun j => l.getD j false) h.r ho (by show l.getD i false = false; rw [fJ (by rw [h.ls]; exact hi) false true]; exact hli) (fun j oj hoj hlj e he hb => h.cl j oj hoj hlj e he hb) (fun s hns => by
   refine h.old s (fun j d hj _ e => ?_)
   subst e
   have : fj ops d = true := by
    unfold fj
    rw [List.any_eq_true]
    exact ⟨j, List.mem_range.2 (dt hj), by simp [hj]⟩
   rw [this] at hns; cases hns) (fun _ => rfl) (fun _ => rfl) hdep (fun j d hd hlj => h.val j d hd hlj)
  rcases hst with ⟨hwt, ⟨v, u', hrun, hv, hr, hbl⟩ | ⟨f, args, hrun, hcall⟩ | ⟨hno, u', hrun, hr, hbl⟩⟩ | ⟨hwf, hv, hr⟩
  ·rw [if_pos (by rw [hw]; exact hwt)]
   unfold Oper.wp
   rw [hrun]
   exact hK _ _ (h.next hB hmono ho hdep (fun _ _ => hv) hr hbl)
  ·rw [if_pos (by rw [hw]; exact hwt)]
   unfold Oper.wp
   rw [hrun, Oper.upon_enter]
   refine hcall.mono ?_
   rintro e u' ⟨v, rfl, hv, hr, hbl⟩
   exact hK _ _ (h.next hB hmono ho hdep (fun _ _ => hv) hr hbl)
  ·rw [if_pos (by rw [hw]; exact hwt)]
   unfold Oper.wp
   rw [hrun, Oper.upon_skip]
   exact hK _ _ (h.next hB hmono ho hdep (fun d hd => by rw [hno] at hd; cases hd) hr hbl)
  rw [if_neg (by rw [hw, hwf]; decide)]
  exact hK _ _ (h.next hB hmono ho hdep (fun _ _ => hv) hr (hM u))
 refine ⟨?_, hs, rfl, rfl, fun _ _ => rfl, fun i d _ hl' => (by rw [hl i] at hl'; cases hl'), fun i o _ hl' => (by rw [hl i] at hl'; cases hl')⟩
 rw [show (fun i => l.getD i false) = (fun _ => false) from funext hl]
 exact h0
end Go.Proofs.YtplaoagcedgdfaaGreat
namespace Go.Proofs.YtplaoagcedgdfaaGreat
open Go.RowKit Go.Joins Go.Proofs.Tryz
theorem cx {P : Program} {ρ : Operand -> Value} {o : Oper} {u : World} {x : Operand} {p : Addr} (ho : o.op = .nilCheck x) (ha : ρ x = .pointer (some p)) : (execOp ρ o).run P u = .ok (.value (.pointer (some p))) u := by
 unfold execOp
 simp only [ho, ha]
 rfl
theorem lO {P : Program} {ρ : Operand -> Value} {o : Oper} {u : World} {x : Operand} {t : TypeId} {a : Option Addr} {n c : Nat} {el : TypeId} (hu : P.underlying t = some (.slice el)) (ho : o.op = .call { callee := .builtin .len, args := #[x], argTypes := #[t] }) (hx : ρ x = .slice a n c) : (execOp ρ o).run P u = .ok (.value (.int .i64 (n : Int))) u := by
 unfold execOp
 rw [ho]
 simp [hx, Builtin.len_, run_underlying (P := P) hu, go_sem]
theorem lP {P : Program} {ρ : Operand -> Value} {o : Oper} {u u' : World} {t : TypeId} {ps : Array (Nat × Operand)} {qs : Array (Nat × Value)} {v : Value} (ho : o.op = .build t ps) (ha : ps.map (fun (i, x) => (i, ρ x)) = qs) (hr : (Instr.build t qs).run P u = .ok v u') : (execOp ρ o).run P u = .ok (.value v) u' := by
 unfold execOp
 simp only [ho, ha]
 rw [Sem.run_bind, hr]
 rfl
theorem ax {w u : World} {g o : Nat} {cs : List Value} (h : w.rangeAt g o cs) (hg : g < w.heap.size) (hb : Below w.heap.size w u) : u.rangeAt g o cs := fun j v hv => (hb.cell (p := ⟨g, o + j, none⟩) hg).trans (h j v hv)
theorem en {w : World} {g o : Nat} {cs : List Value} (pre l post : List Value) (h : w.rangeAt g o cs) (he : cs = pre ++ (l ++ post)) : w.rangeAt g (o + pre.length) l := fun j v hv => by
 rw [Nat.add_assoc]
 refine h (pre.length + j) v ?_
 rw [he, List.getElem?_append_right (by omega), Nat.add_sub_cancel_left, List.getElem?_append_left (List.getElem?_eq_some_iff.1 hv).1]
 exact hv
theorem ag.rng {w : World} {g : Nat} {t : TypeId} {l : List Value} (h : ag w g t l.toArray) : w.rangeAt g 0 l := fun j v hv => by
 rw [Nat.zero_add]
 exact h.cell j (by simpa using hv)
end Go.Proofs.YtplaoagcedgdfaaGreat
