/- Texts that the proof needs, joined: RgY RgZ RgL RgM Cz7 Cz2 Cz3. -/
import Derived.Test.YtlhjiiifmfgnoaaGreatV5
import Derived.Deep.MidRow
import Derived.Test.YtlhjiiifmfgnoaaGreatV1
import Derived.Test.YtlhjiiifmfgnoaaGreatV4
set_option linter.unusedVariables false
set_option linter.unusedSimpArgs false
set_option maxHeartbeats 4000000
set_option maxRecDepth 20000
namespace Go.Proofs.YtlhjiiifmfgnoaaGreat
open Go.RowKit
def updS (σ : Nat -> Value) (od : Option Nat) (v : Value) : Nat -> Value := match od with
 | some d => fun s => if s = d then v else σ s
 | none => σ
def StpY (P : Program) (ops : Array Oper) (Φ : Nat -> Value -> World -> Prop) (R : Value -> World -> Prop) (M : World -> World -> Prop) (i : Nat) (o : Oper) (ρ : Operand -> Value) (u : World) : Prop :=
 (wantV ops o ρ = true /\ ((∃ v u', (execOp ρ o).run P u = .ok (.value v) u' /\ Φ i v u' /\ R v u' /\ M u u') \/ (∃ f args, (execOp ρ o).run P u = .ok (.enter f args) u /\ Calls P f args u fun e u' => ∃ v, e = .returned v /\ Φ i v u' /\ R v u' /\ M u u') \/ (o.dst = none /\ ∃ u', (execOp ρ o).run P u = .ok .skip u' /\ R undef u' /\ M u u')))
 \/ (wantV ops o ρ = false /\ Φ i undef u /\ R undef u)
structure InvY (md : Region.Mode) (ops : Array Oper) (Φ : Nat -> Value -> World -> Prop) (R : (Nat -> Bool) -> (Nat -> Value) -> World -> Prop) (a0 : Act) (l : Array Bool) (a : Act) (u : World) : Prop where
 r : R (fun i => l.getD i false) (fun s => a.tmps.getD s undef) u
 ls : l.size = ops.size
 df : a.defers = a0.defers
 sz : a.tmps.size = a0.tmps.size
 old : ∀ s, (∀ i d, dstOf ops i = some d -> l.getD i false = true -> d ≠ s) -> a.tmps.getD s undef = a0.tmps.getD s undef
 val : ∀ i d, dstOf ops i = some d -> l.getD i false = true -> Φ i (a.tmps.getD d undef) u
 cl : ∀ i o, ops[i]? = some o -> l.getD i false = true -> ∀ e ∈ o.after, Region.binds md e = true -> l.getD e.on false = true
theorem InvY.next {md : Region.Mode} {ops : Array Oper} {Φ : Nat -> Value -> World -> Prop} {R : (Nat -> Bool) -> (Nat -> Value) -> World -> Prop} {M : World -> World -> Prop} {a0 : Act} {l : Array Bool} {a : Act} {u u' : World} (h : InvY md ops Φ R a0 l a u) (hB : dstC ops a0.tmps.size = true)
 (hmono : ∀ i v u u', Φ i v u -> M u u' -> Φ i v u') {i : Nat} {o : Oper} (ho : ops[i]? = some o) (hdep : ∀ e ∈ o.after, Region.binds md e = true -> l.getD e.on false = true) {v : Value} (hv : ∀ d, o.dst = some d -> Φ i v u') (hr : R (updB (fun j => l.getD j false) i) (updS (fun s => a.tmps.getD s undef) o.dst v) u') (hb : M u u') :
 InvY md ops Φ R a0 (l.setIfInBounds i true) (a.put o.dst v) u' := by
 have hi : i < ops.size := (Array.getElem?_eq_some_iff.1 ho).1
 have hil : i < l.size := by rw [h.ls]; exact hi
 have hcl : ∀ j oj, ops[j]? = some oj -> (l.setIfInBounds i true).getD j false = true -> ∀ e ∈ oj.after, Region.binds md e = true -> (l.setIfInBounds i true).getD e.on false = true := by
  intro j oj hoj hlj e he hbd
  rw [getD_set hil]
  split
  ·rfl
  rw [getD_set hil] at hlj
  by_cases e1 : j = i
  ·subst e1
   rw [ho] at hoj
   cases hoj
   exact hdep e he hbd
  rw [if_neg e1] at hlj
  exact h.cl j oj hoj hlj e he hbd
 rw [<- getD_upd hil] at hr
 cases hod : o.dst with
 | none =>
  have hd : dstOf ops i = none := by simp [dstOf, ho, hod]
  rw [hod] at hr
  refine ⟨hr, by simpa using h.ls, h.df, h.sz, fun s hs => ?_, fun j e hj hl => ?_, hcl⟩
  ·exact h.old s (fun j e hj hl => hs j e hj (by rw [getD_set hil]; split; rfl; exact hl))
  have e2 : j ≠ i := fun e2 => by subst e2; rw [hd] at hj; cases hj
  rw [getD_set hil, if_neg e2] at hl
  exact hmono _ _ _ _ (h.val j e hj hl) hb
 | some d =>
  have hd : dstOf ops i = some d := by simp [dstOf, ho, hod]
  obtain ⟨hlt, hun⟩ := dstC_of hB hi hd
  have hlt' : d < a.tmps.size := by rw [h.sz]; exact hlt
  rw [hod] at hr
  have hr' : R (fun j => (l.setIfInBounds i true).getD j false) (fun s => (a.put (some d) v).tmps.getD s undef) u' := by
   have e9 : (fun s => (a.put (some d) v).tmps.getD s undef) = updS (fun s => a.tmps.getD s undef) (some d) v := by funext s; exact getD_put hlt'
   rw [e9]; exact hr
  refine ⟨hr', by simpa using h.ls, h.df, by simpa [Act.put] using h.sz, fun s hs => ?_, fun j e hj hl => ?_, hcl⟩
  ·have hne : d ≠ s := hs i d hd (by rw [getD_set hil, if_pos rfl])
   rw [getD_put hlt', if_neg (Ne.symm hne)]
   exact h.old s (fun j e hj hl => hs j e hj (by rw [getD_set hil]; split; rfl; exact hl))
  rw [getD_put hlt']
  by_cases e1 : e = d
  ·subst e1
   obtain rfl := hun j (dstOf_lt hj) hj
   rw [if_pos rfl]
   exact hv _ hod
  rw [if_neg e1]
  have e2 : j ≠ i := fun e2 => by subst e2; rw [hd] at hj; exact e1 (Option.some.inj hj).symm
  rw [getD_set hil, if_neg e2] at hl
  exact hmono _ _ _ _ (h.val j e hj hl) hb
theorem wpAny_valy {P : Program} {ops : Array Oper} {Q : Exit -> Act -> World -> Prop} {md : Region.Mode} {a0 : Act} {w0 : World} (R : (Nat -> Bool) -> (Nat -> Value) -> World -> Prop) (M : World -> World -> Prop) (Φ : Nat -> Value -> World -> Prop)
 (hordB : ordB md ops = true) (hB : dstC ops a0.tmps.size = true) (hmono : ∀ i v u u', Φ i v u -> M u u' -> Φ i v u') (hM : ∀ u, M u u) (h0 : R (fun _ => false) (fun s => a0.tmps.getD s undef) w0)
 (hend : ∀ (vs : Nat -> Value) (σ : Nat -> Value) u, R (fun i => decide (i < ops.size)) σ u -> (∀ i d, dstOf ops i = some d -> vs i = σ d) -> (∀ i d, dstOf ops i = some d -> Φ i (vs i) u) -> Q .normal (putsL a0 0 ops.toList vs) u)
 (hstep : ∀ u i o (ρ : Operand -> Value) (l : Nat -> Bool), R l (fun s => ρ (.tmp s)) u -> ops[i]? = some o -> l i = false -> (∀ j oj, ops[j]? = some oj -> l j = true -> ∀ e ∈ oj.after, Region.binds md e = true -> l e.on = true) ->
  (∀ s, isDst ops s = false -> ρ (.tmp s) = a0.eval (.tmp s)) -> (∀ v, ρ (.const v) = v) -> (∀ f, ρ (.func f) = .func (.func f) #[] #[]) ->
  (∀ e ∈ o.after, Region.binds md e = true -> l e.on = true) -> (∀ j d, dstOf ops j = some d -> l j = true -> Φ j (ρ (.tmp d)) u) -> StpY P ops Φ (fun v u' => R (updB l i) (updS (fun s => ρ (.tmp s)) o.dst v) u') M i o ρ u)
 (fuel : Nat) (l : Array Bool) (hs : l.size = ops.size) (hc : l.toList.count false <= fuel) (hl : ∀ i, l.getD i false = false) : wpAny P md ops Q fuel l a0 w0 := by
 refine wpAny_inv (InvY md ops Φ R a0) hordB ?_ ?_ fuel l a0 w0 hs hc ?_
 ·intro l a u h hall
  have hall' : ∀ i, i < ops.size -> l.getD i false = true := fun i hi => by rw [getD_eq (by rw [h.ls]; exact hi) false true]; exact hall i hi
  have e : putsL a0 0 ops.toList (fun i => a.tmps.getD ((dstOf ops i).getD 0) undef) = a := by
   refine putsL_eqW ops.toList 0 a0 _ h.df.symm h.sz.symm (fun j o d ho hd => ?_) (fun s => ?_) (fun j o d ho hd => ?_)
   ·rw [Nat.zero_add]
    have : dstOf ops j = some d := by rw [Array.getElem?_toList] at ho; simp [dstOf, ho, hd]
    show a.tmps.getD ((dstOf ops j).getD 0) undef = _
    rw [this]; rfl
   ·by_cases hx : ∃ j d, dstOf ops j = some d /\ l.getD j false = true /\ d = s
    ·obtain ⟨j, d, hd, _, rfl⟩ := hx
     right
     unfold dstOf at hd
     cases ho : ops[j]? with
     | none => rw [ho] at hd; cases hd
     | some o => rw [ho] at hd; exact ⟨j, o, by rw [Array.getElem?_toList]; exact ho, hd⟩
    left
    exact (h.old s (fun i d hd hl e => hx ⟨i, d, hd, hl, e⟩)).symm
   rw [Array.getElem?_toList] at ho
   have hi : j < ops.size := (Array.getElem?_eq_some_iff.1 ho).1
   have hd' : dstOf ops j = some d := by simp [dstOf, ho, hd]
   rw [h.sz]
   exact (dstC_of hB hi hd').1
  rw [<- e]
  refine hend _ (fun s => a.tmps.getD s undef) u ?_ (fun i d hd => by show a.tmps.getD ((dstOf ops i).getD 0) undef = _; rw [hd]; rfl) (fun i d hd => ?_)
  ·have e2 : (fun i => l.getD i false) = (fun i => decide (i < ops.size)) := by
    funext i
    by_cases hi : i < ops.size
    ·rw [hall' i hi]; simp [hi]
    have : ¬ i < l.size := by rw [h.ls]; exact hi
    simp [Array.getD, hi, this]
   rw [<- e2]
   exact h.r
  show Φ i (a.tmps.getD ((dstOf ops i).getD 0) undef) u
  rw [hd]
  exact h.val i d hd (hall' i (dstOf_lt hd))
 ·intro l a u i o h ho hli hdep K hK
  have hi : i < ops.size := (Array.getElem?_eq_some_iff.1 ho).1
  have hw : Region.wanted o (yielded ops a.tmps) = wantV ops o a.eval := wanted_eq (fun j d hj => by
   rw [h.sz]; exact (dstC_of hB (dstOf_lt hj) hj).1)
  have hst := hstep u i o a.eval (fun j => l.getD j false) h.r ho (by show l.getD i false = false; rw [getD_eq (by rw [h.ls]; exact hi) false true]; exact hli) (fun j oj hoj hlj e he hb => h.cl j oj hoj hlj e he hb) (fun s hns => by
   refine h.old s (fun j d hj _ e => ?_)
   subst e
   have : isDst ops d = true := by
    unfold isDst
    rw [List.any_eq_true]
    exact ⟨j, List.mem_range.2 (dstOf_lt hj), by simp [hj]⟩
   rw [this] at hns; cases hns) (fun _ => rfl) (fun _ => rfl) hdep (fun j d hd hlj => h.val j d hd hlj)
  rcases hst with ⟨hwt, ⟨v, u', hrun, hv, hr, hbl⟩ | ⟨f, args, hrun, hcall⟩ | ⟨hno, u', hrun, hr, hbl⟩⟩ | ⟨hwf, hv, hr⟩
  ·rw [if_pos (by rw [hw]; exact hwt)]
   unfold Oper.wp
   rw [hrun]
   exact hK _ _ (h.next hB hmono ho hdep (fun _ _ => hv) hr hbl)
  ·rw [if_pos (by rw [hw]; exact hwt)]
   unfold Oper.wp
   rw [hrun, Oper.upon_enter]
   refine hcall.mono ?_
   rintro e u' ⟨v, rfl, hv, hr, hbl⟩
   exact hK _ _ (h.next hB hmono ho hdep (fun _ _ => hv) hr hbl)
  ·rw [if_pos (by rw [hw]; exact hwt)]
   unfold Oper.wp
   rw [hrun, Oper.upon_skip]
   exact hK _ _ (h.next hB hmono ho hdep (fun d hd => by rw [hno] at hd; cases hd) hr hbl)
  rw [if_neg (by rw [hw, hwf]; decide)]
  exact hK _ _ (h.next hB hmono ho hdep (fun _ _ => hv) hr (hM u))
 refine ⟨?_, hs, rfl, rfl, fun _ _ => rfl, fun i d _ hl' => (by rw [hl i] at hl'; cases hl'), fun i o _ hl' => (by rw [hl i] at hl'; cases hl')⟩
 rw [show (fun i => l.getD i false) = (fun _ => false) from funext hl]
 exact h0
end Go.Proofs.YtlhjiiifmfgnoaaGreat
namespace Go.Proofs.YtlhjiiifmfgnoaaGreat
open Go.RowKit Go.Joins
theorem run_nilz {P : Program} {ρ : Operand -> Value} {o : Oper} {u : World} {x : Operand} {p : Addr} (ho : o.op = .nilCheck x) (ha : ρ x = .pointer (some p)) : (execOp ρ o).run P u = .ok (.value (.pointer (some p))) u := by
 unfold execOp
 simp only [ho, ha]
 rfl
theorem run_lenz {P : Program} {ρ : Operand -> Value} {o : Oper} {u : World} {x : Operand} {t : TypeId} {a : Option Addr} {n c : Nat} {el : TypeId} (hu : P.underlying t = some (.slice el)) (ho : o.op = .call { callee := .builtin .len, args := #[x], argTypes := #[t] }) (hx : ρ x = .slice a n c) : (execOp ρ o).run P u = .ok (.value (.int .i64 (n : Int))) u := by
 unfold execOp
 rw [ho]
 simp [hx, Builtin.len_, run_underlying (P := P) hu, go_sem]
theorem run_bldz {P : Program} {ρ : Operand -> Value} {o : Oper} {u u' : World} {t : TypeId} {ps : Array (Nat × Operand)} {qs : Array (Nat × Value)} {v : Value} (ho : o.op = .build t ps) (ha : ps.map (fun (i, x) => (i, ρ x)) = qs) (hr : (Instr.build t qs).run P u = .ok v u') : (execOp ρ o).run P u = .ok (.value v) u' := by
 unfold execOp
 simp only [ho, ha]
 rw [Sem.run_bind, hr]
 rfl
theorem rangeAt_below {w u : World} {g o : Nat} {cs : List Value} (h : w.rangeAt g o cs) (hg : g < w.heap.size) (hb : Below w.heap.size w u) : u.rangeAt g o cs := fun j v hv => (hb.cell (p := ⟨g, o + j, none⟩) hg).trans (h j v hv)
theorem rangeAt_mid {w : World} {g o : Nat} {cs : List Value} (pre l post : List Value) (h : w.rangeAt g o cs) (he : cs = pre ++ (l ++ post)) : w.rangeAt g (o + pre.length) l := fun j v hv => by
 rw [Nat.add_assoc]
 refine h (pre.length + j) v ?_
 rw [he, List.getElem?_append_right (by omega), Nat.add_sub_cancel_left, List.getElem?_append_left (List.getElem?_eq_some_iff.1 hv).1]
 exact hv
theorem Blk.rng {w : World} {g : Nat} {t : TypeId} {l : List Value} (h : Blk w g t l.toArray) : w.rangeAt g 0 l := fun j v hv => by
 rw [Nat.zero_add]
 exact h.cell j (by simpa using hv)
end Go.Proofs.YtlhjiiifmfgnoaaGreat
namespace Go.Proofs.YtlhjiiifmfgnoaaGreat
open Go.RowKit
def StpB (P : Program) (ops : Array Oper) (Φ : Nat -> Value -> World -> Prop) (i : Nat) (o : Oper) (ρ : Operand -> Value) (u : World) : Prop :=
 (wantV ops o ρ = true /\ ((∃ v u', (execOp ρ o).run P u = .ok (.value v) u' /\ Φ i v u' /\ Below u.heap.size u u') \/ (∃ f args, (execOp ρ o).run P u = .ok (.enter f args) u /\ Calls P f args u fun e u' => ∃ v, e = .returned v /\ Φ i v u' /\ Below u.heap.size u u')))
 \/ (wantV ops o ρ = false /\ Φ i undef u)
def lastB (md : Region.Mode) (ops : Array Oper) (N : Nat) : Bool :=
 match ops[N]? with
 | some o => o.dst.isNone && (List.range N).all (fun i => (dstOf ops i).isSome && o.after.toList.any (fun e => e.on == i && Region.binds md e))
 | none => false
end Go.Proofs.YtlhjiiifmfgnoaaGreat
namespace Go.Proofs.YtlhjiiifmfgnoaaGreat
open Go.RowKit
def reachB (md : Region.Mode) (ops : Array Oper) : Nat -> Nat -> Nat -> Bool
 | 0, i, j => i == j
 | k + 1, i, j => i == j || match ops[i]? with
  | some o => o.after.toList.any (fun e => Region.binds md e && reachB md ops k e.on j)
  | none => false
def tailB (md : Region.Mode) (ops : Array Oper) (N : Nat) : Bool :=
 (List.range N).all (fun i => (dstOf ops i).isSome) && (List.range ops.size).all (fun i => decide (i < N) || (List.range i).all (fun j => reachB md ops ops.size i j))
theorem reachB_l {md : Region.Mode} {ops : Array Oper} {l : Nat -> Bool} (hcl : ∀ j oj, ops[j]? = some oj -> l j = true -> ∀ e ∈ oj.after, Region.binds md e = true -> l e.on = true) : ∀ k i j, reachB md ops k i j = true -> l i = true -> l j = true
 | 0, i, j, h, hi => by
  have e : i = j := by simpa [reachB] using h
  rw [<- e]; exact hi
 | k + 1, i, j, h, hi => by
  unfold reachB at h
  rw [Bool.or_eq_true] at h
  rcases h with h | h
  ·have e : i = j := by simpa using h
   rw [<- e]; exact hi
  split at h
  ·rename_i o ho
   rw [List.any_eq_true] at h
   obtain ⟨e, he, q⟩ := h
   rw [Bool.and_eq_true] at q
   exact reachB_l hcl k e.on j q.2 (hcl i o ho hi e (Array.mem_toList_iff.1 he) q.1)
  cases h
theorem reachB_d {md : Region.Mode} {ops : Array Oper} {l : Nat -> Bool} (hcl : ∀ j oj, ops[j]? = some oj -> l j = true -> ∀ e ∈ oj.after, Region.binds md e = true -> l e.on = true) {k i j : Nat} {o : Oper} (ho : ops[i]? = some o) (hdep : ∀ e ∈ o.after, Region.binds md e = true -> l e.on = true) (hne : i ≠ j) (h : reachB md ops k i j = true) : l j = true := by
 cases k with
 | zero => exact absurd (by simpa [reachB] using h) hne
 | succ k =>
  unfold reachB at h
  rw [Bool.or_eq_true] at h
  rcases h with h | h
  ·exact absurd (by simpa using h) hne
  rw [ho] at h
  simp only [List.any_eq_true] at h
  obtain ⟨e, he, q⟩ := h
  rw [Bool.and_eq_true] at q
  exact reachB_l hcl k e.on j q.2 (hdep e (Array.mem_toList_iff.1 he) q.1)
def noDst (ops : Array Oper) (N s : Nat) : Bool := (List.range N).all (fun j => dstOf ops j != some s)
def StpT (P : Program) (ops : Array Oper) (E : (Nat -> Value) -> World -> Prop) (o : Oper) (ρ : Operand -> Value) (u : World) : Prop :=
 wantV ops o ρ = true /\ ((∃ v u', (execOp ρ o).run P u = .ok (.value v) u' /\ E (updS (fun s => ρ (.tmp s)) o.dst v) u') \/ (∃ f args, (execOp ρ o).run P u = .ok (.enter f args) u /\ Calls P f args u fun e u' => ∃ v, e = .returned v /\ E (updS (fun s => ρ (.tmp s)) o.dst v) u') \/ (o.dst = none /\ ∃ u', (execOp ρ o).run P u = .ok .skip u' /\ E (fun s => ρ (.tmp s)) u'))
theorem wpAny_tl {P : Program} {ops : Array Oper} {Q : Exit -> Act -> World -> Prop} {md : Region.Mode} {a0 : Act} {w0 : World} (N : Nat) (Rb : World -> Prop) (E : Nat -> (Nat -> Value) -> World -> Prop) (Φ : Nat -> Value -> World -> Prop)
 (hordB : ordB md ops = true) (hB : dstC ops a0.tmps.size = true) (hN : N < ops.size) (hL : tailB md ops N = true)
 (hRb : ∀ u u', Rb u -> Below u.heap.size u u' -> Rb u') (hmono : ∀ i v u u', Φ i v u -> Below u.heap.size u u' -> Φ i v u') (h0 : Rb w0)
 (hend : ∀ (vs : Nat -> Value) (σ : Nat -> Value) u, E (ops.size - 1) σ u -> (∀ i d, dstOf ops i = some d -> vs i = σ d) -> Q .normal (putsL a0 0 ops.toList vs) u)
 (hstep : ∀ u i o (ρ : Operand -> Value), i < N -> Rb u -> ops[i]? = some o -> (∀ s, noDst ops N s = true -> ρ (.tmp s) = a0.eval (.tmp s)) -> (∀ v, ρ (.const v) = v) -> (∀ f, ρ (.func f) = .func (.func f) #[] #[]) ->
  (∀ e ∈ o.after, Region.binds md e = true -> ∀ d, dstOf ops e.on = some d -> Φ e.on (ρ (.tmp d)) u) -> StpB P ops Φ i o ρ u)
 (hfirst : ∀ u o (ρ : Operand -> Value), Rb u -> ops[N]? = some o -> (∀ s, noDst ops N s = true -> ρ (.tmp s) = a0.eval (.tmp s)) -> (∀ v, ρ (.const v) = v) -> (∀ f, ρ (.func f) = .func (.func f) #[] #[]) ->
  (∀ j d, j < N -> dstOf ops j = some d -> Φ j (ρ (.tmp d)) u) -> StpT P ops (E N) o ρ u)
 (htail : ∀ u i o (ρ : Operand -> Value), N <= i -> ops[i + 1]? = some o -> E i (fun s => ρ (.tmp s)) u -> (∀ s, isDst ops s = false -> ρ (.tmp s) = a0.eval (.tmp s)) -> (∀ v, ρ (.const v) = v) -> (∀ f, ρ (.func f) = .func (.func f) #[] #[]) -> StpT P ops (E (i + 1)) o ρ u)
 (fuel : Nat) (l : Array Bool) (hs : l.size = ops.size) (hc : l.toList.count false <= fuel) (hl : ∀ i, l.getD i false = false) : wpAny P md ops Q fuel l a0 w0 := by
 obtain ⟨hds, hre⟩ : (∀ i, i < N -> (dstOf ops i).isSome = true) /\ ∀ i, N <= i -> i < ops.size -> ∀ j, j < i -> reachB md ops ops.size i j = true := by
  unfold tailB at hL
  simp only [Bool.and_eq_true, List.all_eq_true, List.mem_range, Bool.or_eq_true, decide_eq_true_eq] at hL
  exact ⟨hL.1, fun i h1 h2 j hj => (hL.2 i h2).elim (fun h => absurd h (by omega)) (fun h => h j hj)⟩
 refine wpAny_valy (fun l σ u => (∀ i, N <= i -> i < ops.size -> l i = true -> (i + 1 = ops.size \/ l (i + 1) = false) -> E i σ u) /\ (l N = false -> Rb u /\ (∀ s, noDst ops N s = true -> σ s = a0.eval (.tmp s)) /\ ∀ j d, j < N -> dstOf ops j = some d -> l j = true -> Φ j (σ d) u)) (fun _ _ => True) (fun _ _ _ => True) hordB hB (fun _ _ _ _ h _ => h) (fun _ => trivial) ⟨fun _ _ _ h _ => (by cases h), fun _ => ⟨h0, fun _ _ => rfl, fun _ _ _ _ h => (by cases h)⟩⟩ (fun vs σ u hR hvs _ => hend vs σ u (hR.1 (ops.size - 1) (by omega) (by omega) (by simp; omega) (.inl (by omega))) hvs) ?_ fuel l hs hc hl
 intro u i o ρ l hR ho hli hcl hρ hcn hf hdep hv
 have hi : i < ops.size := (Array.getElem?_eq_some_iff.1 ho).1
 by_cases e : i < N
 ·have hlt : ∀ t, N <= t -> t < ops.size -> l t = false := by
   intro t h1 h2
   cases h9 : l t with
   | false => rfl
   | true => have := reachB_l hcl _ t i (hre t h1 h2 i (by omega)) h9; rw [hli] at this; cases this
  obtain ⟨hb, hσ, hΦ⟩ := hR.2 (hlt N (Nat.le_refl _) hN)
  have hup : ∀ t, N <= t -> updB l i t = l t := fun t h1 => by unfold updB; rw [if_neg (by omega)]
  obtain ⟨d, hd⟩ := Option.isSome_iff_exists.1 (hds i e)
  have hod : o.dst = some d := by simpa [dstOf, ho] using hd
  have key : ∀ v u', Φ i v u' -> Below u.heap.size u u' -> (∀ t, N <= t -> t < ops.size -> updB l i t = true -> (t + 1 = ops.size \/ updB l i (t + 1) = false) -> E t (updS (fun s => ρ (.tmp s)) o.dst v) u') /\ (updB l i N = false -> Rb u' /\ (∀ s, noDst ops N s = true -> updS (fun s => ρ (.tmp s)) o.dst v s = a0.eval (.tmp s)) /\ ∀ j d, j < N -> dstOf ops j = some d -> updB l i j = true -> Φ j (updS (fun s => ρ (.tmp s)) o.dst v d) u') := by
   intro v u' h1 h2
   have hnd : ∀ s, noDst ops N s = true -> updS (fun s => ρ (.tmp s)) o.dst v s = a0.eval (.tmp s) := by
    intro s hs9
    have hne : s ≠ d := by
     rintro rfl
     unfold noDst at hs9
     rw [List.all_eq_true] at hs9
     have := hs9 i (List.mem_range.2 e)
     rw [hd] at this
     simp at this
    rw [hod]
    show (if s = d then v else ρ (.tmp s)) = _
    rw [if_neg hne]
    exact hσ s hs9
   refine ⟨fun t q1 q2 q3 _ => (by rw [hup t q1, hlt t q1 q2] at q3; cases q3), fun _ => ⟨hRb u u' hb h2, hnd, fun j d' hjN hj hl' => ?_⟩⟩
   by_cases ej : j = i
   ·subst ej
    rw [hd] at hj
    cases hj
    rw [hod]
    show Φ j (if d = d then v else _) u'
    rw [if_pos rfl]
    exact h1
   have hlj : l j = true := by unfold updB at hl'; rw [if_neg ej] at hl'; exact hl'
   have hne : d' ≠ d := fun q => ej ((dstC_of hB hi hd).2 j (dstOf_lt hj) (by rw [<- q]; exact hj))
   rw [hod]
   show Φ j (if d' = d then v else ρ (.tmp d')) u'
   rw [if_neg hne]
   exact hmono _ _ _ _ (hΦ j d' hjN hj hlj) h2
  rcases hstep u i o ρ e hb ho hσ hcn hf (fun e9 he hbd d9 hd9 => by
   have hl9 := hdep e9 he hbd
   by_cases q : e9.on < N
   ·exact hΦ e9.on d9 q hd9 hl9
   rw [hlt e9.on (by omega) (dstOf_lt hd9)] at hl9; cases hl9) with ⟨hw, h9⟩ | ⟨hw, h9⟩
  ·refine .inl ⟨hw, ?_⟩
   rcases h9 with ⟨v, u', hr, h1, h2⟩ | ⟨f, args, hr, hcall⟩
   ·exact .inl ⟨v, u', hr, trivial, key v u' h1 h2, trivial⟩
   refine .inr (.inl ⟨f, args, hr, hcall.mono ?_⟩)
   rintro e9 u' ⟨v, he, h1, h2⟩
   exact ⟨v, he, trivial, key v u' h1 h2, trivial⟩
  exact .inr ⟨hw, trivial, key undef u h9 (Below.refl _ _)⟩
 have hbef : ∀ j, j < i -> l j = true := fun j hj => reachB_d hcl ho hdep (by omega) (hre i (by omega) hi j hj)
 have haft : ∀ t, i < t -> t < ops.size -> l t = false := by
  intro t h1 h2
  cases h9 : l t with
  | false => rfl
  | true => have := reachB_l hcl _ t i (hre t (by omega) h2 i h1) h9; rw [hli] at this; cases this
 have hst : StpT P ops (E i) o ρ u := by
  by_cases eN : i = N
  ·subst eN
   obtain ⟨hb, hσ, hΦ⟩ := hR.2 hli
   exact hfirst u o ρ hb ho hσ hcn hf (fun j d hj hd => hΦ j d hj hd (hbef j hj))
  obtain ⟨i', rfl⟩ : ∃ i', i = i' + 1 := ⟨i - 1, by omega⟩
  exact htail u i' o ρ (by omega) ho (hR.1 i' (by omega) (by omega) (hbef i' (by omega)) (.inr hli)) hρ hcn hf
 have key : ∀ σ u', E i σ u' -> (∀ t, N <= t -> t < ops.size -> updB l i t = true -> (t + 1 = ops.size \/ updB l i (t + 1) = false) -> E t σ u') /\ (updB l i N = false -> Rb u' /\ (∀ s, noDst ops N s = true -> σ s = a0.eval (.tmp s)) /\ ∀ j d, j < N -> dstOf ops j = some d -> updB l i j = true -> Φ j (σ d) u') := by
  intro σ u' hE
  have hii : updB l i i = true := by unfold updB; rw [if_pos rfl]
  have hup : ∀ t, t ≠ i -> updB l i t = l t := fun t h1 => by unfold updB; rw [if_neg h1]
  refine ⟨fun t q1 q2 q3 q4 => ?_, fun q => ?_⟩
  ·rcases Nat.lt_trichotomy t i with q | q | q
   ·rcases q4 with q4 | q4
    ·omega
    by_cases q5 : t + 1 = i
    ·rw [q5, hii] at q4; cases q4
    rw [hup _ q5, hbef (t + 1) (by omega)] at q4; cases q4
   ·subst q; exact hE
   rw [hup t (by omega), haft t q q2] at q3; cases q3
  by_cases eN : N = i
  ·rw [eN, hii] at q; cases q
  rw [hup N eN, hbef N (by omega)] at q; cases q
 obtain ⟨hw, h9⟩ := hst
 refine .inl ⟨hw, ?_⟩
 rcases h9 with ⟨v, u', hr, hE⟩ | ⟨f, args, hr, hcall⟩ | ⟨hd, u', hr, hE⟩
 ·exact .inl ⟨v, u', hr, trivial, key _ u' hE, trivial⟩
 ·refine .inr (.inl ⟨f, args, hr, hcall.mono ?_⟩)
  rintro e9 u' ⟨v, he, hE⟩
  exact ⟨v, he, trivial, key _ u' hE, trivial⟩
 refine .inr (.inr ⟨hd, u', hr, ?_, trivial⟩)
 rw [hd]
 exact key _ u' hE
end Go.Proofs.YtlhjiiifmfgnoaaGreat
namespace Go.Proofs.YtlhjiiifmfgnoaaGreat
open Go.RowKit Go.Joins
theorem updS_eqX {σ : Nat -> Value} {d : Nat} {v : Value} : updS σ (some d) v d = v := by show (if d = d then v else σ d) = v; rw [if_pos rfl]
theorem updS_neX {σ : Nat -> Value} {d s : Nat} {v : Value} (h : d ≠ s) : updS σ (some d) v s = σ s := by show (if s = d then v else σ s) = _; rw [if_neg (Ne.symm h)]
theorem run_app_x {P : Program} {ρ : Operand -> Value} {o : Oper} {w w' : World} {s x : Operand} {t : TypeId} {v1 v2 v : Value} (ho : o.op = .call { callee := .builtin .append, args := #[s, x], argTypes := #[t, t] }) (hs : ρ s = v1) (hx : ρ x = v2) (hr : (Builtin.append_ #[t, t] o.type #[v1, v2]).run P w = .ok v w') : (execOp ρ o).run P w = .ok (.value v) w' := by
 unfold execOp
 simp only [ho, resolve, invoke, builtin, Sem.run_bind, Sem.run_pure, Result.andThen_ok, List.map_toArray, List.map_cons, List.map_nil, hs, hx, hr]
theorem run_asg_x {P : Program} {ρ : Operand -> Value} {o : Oper} {u : World} {x : Operand} {v : Value} (ho : o.op = .assign x) (hx : ρ x = v) : (execOp ρ o).run P u = .ok (.value v) u := by
 unfold execOp
 simp only [ho, hx]
 rfl
theorem run_appG {w : World} (ty t e : TypeId) (sz by' : Nat) (z : Value)
 (ht : Tryz.prog.underlying t = some (.slice e)) (hinfo : (Tryz.prog.info? e).map (fun i => (i.zero, i.size, i.bytes)) = some (some z, sz, by')) (hzs : z.cells.size = sz) (hsz : 0 < sz) (hby : by' <= 10000)
 (base : Nat) (v : Value) (n : Nat) (f : Nat -> List Tr) (hown : LsG w base e sz v n f)
 (g c : Nat) (vs : List Value) (hvs : vs.length = sz) (hb : ∀ j u, vs[j]? = some u -> w.cell? ⟨g, j, none⟩ = some u) (h1 : ∀ u ∈ vs, u.oneCell' = true) (hel : ElG w base v (f n) vs) (hlen : n <= 2000000) (hbase : base <= w.heap.size) :
 ∃ v' w', (Builtin.append_ #[t, t] ty #[v, .slice (some ⟨g, 0, none⟩) 1 c]).run Tryz.prog w = .ok v' w' /\ LsG w' base e sz v' (n + 1) f /\ w.grownBy w' v.ownBlock /\ (∀ k, v.ownBlock = some k -> base <= k) := by
 obtain ⟨F, r1, r2⟩ := hown
 obtain ⟨i0, hi, hzz⟩ := Option.map_eq_some_iff.1 hinfo
 simp only [Prod.mk.injEq] at hzz
 obtain ⟨hz0, hz1, hz2⟩ := hzz
 obtain ⟨v', w', hrun, k1, k2, _, k4⟩ := run_append_own_at w base t ty e i0 z sz by' ht hi hz0 hz1 hz2 hzs hsz v n ((List.range n).flatMap F) r1 ⟨g, 0, none⟩ 1 c vs (by rw [hvs]; simp) (fun j u hu => by
  have e1 : (⟨g, 0, none⟩ : Addr).add j = ⟨g, j, none⟩ := by unfold Addr.add; split <;> simp_all
  rw [e1]
  exact hb j u hu) h1 (by unfold maxLen; omega) (by have : (n + 1) * by' <= 2000001 * 10000 := Nat.mul_le_mul (by omega) hby; omega) hbase
 refine ⟨v', w', hrun, ⟨fun k => if k = n then vs else F k, ?_, fun k hk => ?_⟩, k2, fun k hk => (World.ownsRow.lt r1 k hk).1⟩
 ·rw [fl_push]; exact k1
 by_cases e : k = n
 ·subst e
  simp only [if_true]
  exact ⟨hvs, hel.kept k2 k4⟩
 simp only [if_neg e]
 exact ⟨(r2 k (by omega)).1, (r2 k (by omega)).2.kept k2 k4⟩
def Fl (w : World) (lo : Nat) (ts : List Tr) (vs : List Value) : Prop := vs.length = ts.length /\ ∃ K : Nat -> Sk, ∀ i u, vs[i]? = some u -> Fit w (trs ts i) (K i) u /\ ∀ b, (K i).bl b -> lo <= b
theorem Own1.fl {w : World} {lo hi : Nat} {ts : List Tr} {vs : List Value} (h : Own1 w lo hi ts vs) : Fl w lo ts vs := by
 obtain ⟨K, h1, h2, h3, h4⟩ := h
 exact ⟨h1, K, fun i u hu => ⟨h2 i u hu, fun b hb => ((h3 i (by rw [<- h1]; exact (List.getElem?_eq_some_iff.1 hu).1)).2 b hb).1⟩⟩
theorem Fl.below {w w' : World} {lo : Nat} {ts : List Tr} {vs : List Value} (h : Fl w lo ts vs) (hb : Below w.heap.size w w') : Fl w' lo ts vs := by
 obtain ⟨h0, K, h⟩ := h
 exact ⟨h0, K, fun i u hu => ⟨(h i u hu).1.below hb, (h i u hu).2⟩⟩
theorem Fl.mono {w : World} {lo lo' : Nat} {ts : List Tr} {vs : List Value} (h : Fl w lo ts vs) (hl : lo' <= lo) : Fl w lo' ts vs := by
 obtain ⟨h0, K, h⟩ := h
 exact ⟨h0, K, fun i u hu => ⟨(h i u hu).1, fun b hb => Nat.le_trans hl ((h i u hu).2 b hb)⟩⟩
theorem Fl.kept {w w' : World} {lo g : Nat} {ts : List Tr} {vs : List Value} (h : Fl w lo ts vs) (hg : w.grownBy w' (some g)) (hl : g < lo) : Fl w' lo ts vs := by
 obtain ⟨h0, K, h⟩ := h
 exact ⟨h0, K, fun i u hu => ⟨(h i u hu).1.same hg.size (fun b hb => hg.block b ((h i u hu).1.lt hb) (fun e => by have := (h i u hu).2 b hb; have := Option.some.inj e; omega)), (h i u hu).2⟩⟩
theorem Fl.elG {w : World} {base lo : Nat} {v : Value} {ts : List Tr} {vs : List Value} (h : Fl w lo ts vs) (hl : base <= lo) (hv : ∀ b, v.ownBlock = some b -> b < lo) : ElG w base v ts vs := by
 obtain ⟨h0, K, h⟩ := h
 exact ⟨K, fun i u hu => ⟨(h i u hu).1, fun b hb => ⟨Nat.le_trans hl ((h i u hu).2 b hb), fun e => by have := hv b e; have := (h i u hu).2 b hb; omega⟩⟩⟩
theorem Fl.rd {w : World} {lo : Nat} {ts : List Tr} {vs : List Value} (h : Fl w lo ts vs) (i : Nat) (v : Value) (hv : vs[i]? = some v) : Rd w lo (trs ts i) v := by
 obtain ⟨h0, K, h⟩ := h
 exact (h i v hv).1.rd (h i v hv).2
theorem Fl.app {w : World} {lo : Nat} {ts us : List Tr} {vs xs : List Value} (h1 : Fl w lo ts vs) (h2 : Fl w lo us xs) : Fl w lo (ts ++ us) (vs ++ xs) := by
 obtain ⟨a0, K, a⟩ := h1
 obtain ⟨b0, L, b⟩ := h2
 refine ⟨by simp [a0, b0], fun i => if i < ts.length then K i else L (i - ts.length), fun i v hv => ?_⟩
 by_cases e : i < ts.length
 ·have e' : i < vs.length := by omega
  rw [List.getElem?_append_left e'] at hv
  simp only [if_pos e]
  have : trs (ts ++ us) i = trs ts i := by
   unfold trs
   simp [List.getD_eq_getElem?_getD, List.getElem?_append_left e]
  rw [this]
  exact a i v hv
 have e' : vs.length <= i := by omega
 rw [List.getElem?_append_right e', a0] at hv
 simp only [if_neg e]
 have : trs (ts ++ us) i = trs us (i - ts.length) := by
  unfold trs
  simp [List.getD_eq_getElem?_getD, List.getElem?_append_right (Nat.le_of_not_lt e)]
 rw [this]
 exact b _ v hv
theorem Fl.one {w : World} {lo : Nat} {t : Tr} {K : Sk} {v : Value} (h : Fit w t K v) (hb : ∀ b, K.bl b -> lo <= b) : Fl w lo [t] [v] :=
 ⟨rfl, fun _ => K, fun i u hu => by
  match i, hu with
  | 0, hu => obtain rfl := Option.some.inj (show some v = some u from hu); exact ⟨h, hb⟩
  | i + 1, hu => simp at hu⟩
theorem Fl.leaf {w : World} {lo : Nat} {ts : List Tr} {vs : List Value} (v : Value) (h : Fl w lo ts vs) : Fl w lo (.leaf v :: ts) (v :: vs) :=
 Fl.app (Fl.one (t := .leaf v) (K := .leaf) ⟨rfl, rfl⟩ (fun b hb => hb.elim)) h
theorem LsG.shape {w : World} {base : Nat} {e : TypeId} {s n : Nat} {v : Value} {f : Nat -> List Tr} (h : LsG w base e s v n f) : ∃ a c, v = .slice a n c := by
 obtain ⟨F, h1, _⟩ := h
 rcases h1.2 with ⟨rfl, rfl⟩ | ⟨g, cap, cur, rfl, _⟩
 ·exact ⟨none, 0, rfl⟩
 exact ⟨_, cap, rfl⟩
theorem LsG.fit {w : World} {base : Nat} {e : TypeId} {s n : Nat} {v : Value} {f : Nat -> List Tr} (h : LsG w base e s v n f) : ∃ K, Fit w (.list s n (fun i => trs (f i))) K v /\ ∀ b, K.bl b -> base <= b := by
 obtain ⟨F, h1, h2⟩ := h
 rcases h1.2 with ⟨rfl, rfl⟩ | ⟨g, cap, cur, rfl, hb, hh, hle, hm, hs, ht⟩
 ·exact ⟨.leaf, ⟨rfl, none, 0, rfl⟩, fun b hb => hb.elim⟩
 have hlt : g < w.heap.size := (Array.getElem?_eq_some_iff.1 hh).1
 have hex : ∀ k, ∃ K : Nat -> Sk, k < n -> ∀ i u, (F k)[i]? = some u -> Fit w (trs (f k) i) (K i) u /\ ∀ b, (K i).bl b -> base <= b := by
  intro k
  by_cases hk : k < n
  ·obtain ⟨K, hK⟩ := (h2 k hk).2
   exact ⟨K, fun _ i u hu => ⟨(hK i u hu).1, fun b hb => ((hK i u hu).2 b hb).1⟩⟩
  exact ⟨fun _ => .leaf, fun h => absurd h hk⟩
 obtain ⟨K, hK⟩ := Classical.axiomOfChoice hex
 have hcell : ∀ k j, k < n -> j < s -> ∃ u, (F k)[j]? = some u /\ w.cell? ⟨g, 0 + k * s + j, none⟩ = some u := by
  intro k j hk hj
  have hl := (h2 k hk).1
  obtain ⟨u, hu⟩ : ∃ u, (F k)[j]? = some u := ⟨(F k)[j]'(by omega), by simp⟩
  refine ⟨u, hu, ?_⟩
  have hkl : k * s + j < n * s := by
   have : (k + 1) * s <= n * s := Nat.mul_le_mul_right s hk
   rw [Nat.add_mul, Nat.one_mul] at this
   omega
  rw [Nat.zero_add, <- hu, <- fl_at F s n (fun k hk => (h2 k hk).1) k j hk hj, <- ht, List.getElem?_take, if_pos hkl, Array.getElem?_toList]
  simp [World.cell?, hh]
 refine ⟨.row g 0 s n K, ⟨rfl, rfl, cap, rfl, hle, by omega, hlt, frozen0 hh, fun k j hk hj => ?_⟩, fun b hb' => ?_⟩
 ·obtain ⟨u, hu, hc⟩ := hcell k j hk hj
  exact ⟨u, hc, (hK k hk j u hu).1⟩
 rcases hb' with rfl | ⟨k, j, hk, hj, hb'⟩
 ·exact hb
 obtain ⟨u, hu, _⟩ := hcell k j hk hj
 exact (hK k hk j u hu).2 b hb'
theorem LsG.fl {w : World} {base : Nat} {e : TypeId} {s n : Nat} {v : Value} {f : Nat -> List Tr} (h : LsG w base e s v n f) : Fl w base [.list s n (fun i => trs (f i))] [v] := by
 obtain ⟨K, h1, h2⟩ := h.fit
 exact Fl.one h1 h2
theorem run_bs1P (X : VP) (b1 : Option Addr) (l1 d1 : Nat) (b2 : Option Addr) (l2 d2 : Nat) (w : World) : (Instr.buildSlice 41 1 #[(0, .agg (pL X b1 l1 d1 b2 l2 d2).toArray)]).run Tryz.prog w = .ok (.slice (some ⟨w.heap.size, 0, none⟩) 1 1) (w.alloc (.cells (pL X b1 l1 d1 b2 l2 d2).toArray 68)) := by kernel_rfl
theorem l13CopyParts_m (n : Nat) (f : Nat -> VP) (a : Option Addr) (n' cap : Nat) (w : World) (hs : Rd w 0 (.list 8 n (fun k => trs (pT (f k)))) (.slice a n' cap)) (hz : (Tr.list 8 n (fun k => trs (pT (f k)))).sz <= 1048576) :
 Calls Tryz.prog 25 #[.slice a n' cap] w fun e w' => ∃ v, e = .returned v /\ LsG w' w.heap.size 68 8 v n (fun k => pT (f k)) /\ Below w.heap.size w w' := by
 obtain ⟨a9, c9, h9, -, hn⟩ := hs.shape
 simp only [Value.slice.injEq] at h9
 obtain ⟨-, rfl, -⟩ := h9
 clear a9 c9
 have HN : Hid (n' <= 1048576) := by show n' <= 1048576; rw [Tr.sz_list] at hz; omega
 have hn1 : n' <= 1048576 := HN.out
 have HZ : Hid (∀ k, k < n' -> szT 6 (trs (qT (f k).q)) <= 1048576) := by
  show ∀ k, k < n' -> szT 6 (trs (qT (f k).q)) <= 1048576
  intro k hk
  rw [Tr.sz_list] at hz
  have h8 := sumN_at (fun k => szT 8 (trs (pT (f k)))) hk
  have h7 : szT 8 (trs (pT (f k))) = szT 6 (trs (qT (f k).q)) := by rw [szT_p, szT_q]
  omega
 have HS : Hid (Rd w 0 (.list 8 n' (fun k => trs (pT (f k)))) (.slice a n' cap) /\ n' <= maxLen) := ⟨hs, hn⟩
 clear hs hz hn
 go_enter Tryz.func25, Tryz.ntmps25
 go_wp2
 go_loopw [3, 4] (fun s i wr => ∃ (k : Nat), k <= n' /\ i = .int .i64 k /\ LsG wr w.heap.size 68 8 s k (fun i => pT (f i)) /\ Below w.heap.size w wr) (fun _ i _ => n' - (intOf i).toNat)
 case atStart => exact ⟨0, Nat.zero_le _, rfl, LsG.new _ _ _ _ _ (Nat.le_refl _), (Below.refl _ _).alloc (Nat.le_refl _) _⟩
 case round =>
  obtain ⟨k, hk, rfl, hl, hb⟩ := hrel
  by_cases hlt : k < n'
  ·have hi : (k : Int) < (n' : Int) := by omega
   obtain ⟨b, off, vs, rfl, _, hb0, hlen, hr, hrd⟩ := (HS.out.1.below hb).at hlt
   obtain ⟨a1, c1, a2, c2, rfl, r1, r2⟩ := VP.cells hrd hlen
   have HR : Hid (wr.rangeAt b (off + k * 8) (pL (f k) a1 ((f k).q.ws.length) c1 a2 ((f k).q.bs.length) c2) /\ b < wr.heap.size) := ⟨hr, hb0⟩
   have HK : Hid (LsG wr w.heap.size 68 8 u3 k (fun i => pT (f i)) /\ Below w.heap.size w wr /\ Rd wr 0 (intsT (f k).q.ws) (.slice a1 ((f k).q.ws.length) c1) /\ Rd wr 0 (boolsT (f k).q.bs) (.slice a2 ((f k).q.bs.length) c2) /\ szT 6 (trs (qT (f k).q)) <= 1048576) := ⟨hl, hb, r1, r2, HZ.out k hlt⟩
   clear hl hb hr hb0 r1 r2 hlen hrd
   go_upto_region 5 with fail
   try go_simp
   refine wp_region_any (by kernel_rfl) ?_
   refine wpAny_tl 19 (fun u => Below wr.heap.size wr u) (fun j σ u => match j with
    | 19 => ∃ v', σ 31 = v' /\ LsG u w.heap.size 68 8 v' (k + 1) (fun i => pT (f i)) /\ Below w.heap.size w u
    | _ => ∃ v', σ 3 = v' /\ LsG u w.heap.size 68 8 v' (k + 1) (fun i => pT (f i)) /\ Below w.heap.size w u) (fun i v u => match i with
    | 0 => v = u3
    | 1 => v = .slice (some ⟨b, off, none⟩) n' cap
    | 2 => v = .int .i64 (k : Int)
    | 3 => v = .pointer (some ⟨b, off + k * 8, none⟩)
    | 4 => v = .pointer (some ⟨b, off + k * 8, none⟩)
    | 5 => v = .int .i64 (f k).p
    | 6 => v = .slice (some ⟨b, off, none⟩) n' cap
    | 7 => v = .int .i64 (k : Int)
    | 8 => v = .pointer (some ⟨b, off + k * 8, none⟩)
    | 9 => v = .pointer (some ⟨b, off + k * 8 + 1, none⟩)
    | 10 => v = .int .i64 (f k).t
    | 11 => v = .slice (some ⟨b, off, none⟩) n' cap
    | 12 => v = .int .i64 (k : Int)
    | 13 => v = .pointer (some ⟨b, off + k * 8, none⟩)
    | 14 => v = .pointer (some ⟨b, off + k * 8 + 2, none⟩)
    | 15 => v = .agg ([.int .i64 (f k).q.kd, .int .i64 (f k).q.pl, .int .i64 (f k).q.n, .slice a1 ((f k).q.ws.length) c1, .slice a2 ((f k).q.bs.length) c2, .int .i64 (f k).q.wa]).toArray
    | 16 => ∃ b1 d1 b2 d2, v = .agg (qL (f k).q b1 (f k).q.ws.length d1 b2 (f k).q.bs.length d2).toArray /\ Fl u wr.heap.size (qT (f k).q) (qL (f k).q b1 (f k).q.ws.length d1 b2 (f k).q.bs.length d2)
    | 17 => ∃ b1 d1 b2 d2, v = .agg (pL (f k) b1 (f k).q.ws.length d1 b2 (f k).q.bs.length d2).toArray /\ Fl u wr.heap.size (qT (f k).q) (qL (f k).q b1 (f k).q.ws.length d1 b2 (f k).q.bs.length d2)
    | 18 => ∃ c b1 d1 b2 d2, v = .slice (some ⟨c, 0, none⟩) 1 1 /\ Blk u c 68 (pL (f k) b1 (f k).q.ws.length d1 b2 (f k).q.bs.length d2).toArray /\ Fl u wr.heap.size (qT (f k).q) (qL (f k).q b1 (f k).q.ws.length d1 b2 (f k).q.bs.length d2)
    | _ => True) (by kernel_rfl) (by kernel_rfl) (by decide) (by kernel_rfl) (fun u u' h hb => bel_nx h hb) ?_ (by first | exact Below.refl _ _ | exact (Below.refl _ _).drew) ?_ ?_ ?_ ?_ _ _ rfl (by decide) (fun i => by simp [Array.getD]; try (split <;> rfl))
   ·intro i v u u' h hb
    match i, h with
    | 0, h => exact h
    | 1, h => exact h
    | 2, h => exact h
    | 3, h => exact h
    | 4, h => exact h
    | 5, h => exact h
    | 6, h => exact h
    | 7, h => exact h
    | 8, h => exact h
    | 9, h => exact h
    | 10, h => exact h
    | 11, h => exact h
    | 12, h => exact h
    | 13, h => exact h
    | 14, h => exact h
    | 15, h => exact h
    | 16, ⟨b1, d1, b2, d2, e, h2⟩ => exact ⟨b1, d1, b2, d2, e, h2.below hb⟩
    | 17, ⟨b1, d1, b2, d2, e, h2⟩ => exact ⟨b1, d1, b2, d2, e, h2.below hb⟩
    | 18, ⟨c, b1, d1, b2, d2, e, kb, h2⟩ => exact ⟨c, b1, d1, b2, d2, e, kb.below hb, h2.below hb⟩
    | _ + 19, _ => trivial
   rotate_left
   ·intro u i o ρ hi hR ho hρ hc hf hd
    obtain rfl | rfl | rfl | rfl | rfl | rfl | rfl | rfl | rfl | rfl | rfl | rfl | rfl | rfl | rfl | rfl | rfl | rfl | rfl : i = 0 \/ i = 1 \/ i = 2 \/ i = 3 \/ i = 4 \/ i = 5 \/ i = 6 \/ i = 7 \/ i = 8 \/ i = 9 \/ i = 10 \/ i = 11 \/ i = 12 \/ i = 13 \/ i = 14 \/ i = 15 \/ i = 16 \/ i = 17 \/ i = 18 := by omega
    all_goals (simp only [List.getElem?_toArray, List.getElem?_cons_zero, List.getElem?_cons_succ, Option.some.injEq] at ho; subst ho)
    ·have s3 : ρ (.tmp 3) = u3 := (hρ 3 (by kernel_rfl)).trans rfl
     exact .inl ⟨rfl, .inl ⟨_, u, rfl, s3, Below.refl _ _⟩⟩
    ·have s0 : ρ (.tmp 0) = .slice (some ⟨b, off, none⟩) n' cap := (hρ 0 (by kernel_rfl)).trans rfl
     exact .inl ⟨rfl, .inl ⟨_, u, rfl, s0, Below.refl _ _⟩⟩
    ·have s4 : ρ (.tmp 4) = .int .i64 (k : Int) := (hρ 4 (by kernel_rfl)).trans rfl
     exact .inl ⟨rfl, .inl ⟨_, u, rfl, s4, Below.refl _ _⟩⟩
    ·have h1 : ρ (.tmp 13) = .slice (some ⟨b, off, none⟩) n' cap := hd ⟨1, .data⟩ (by simp) rfl 13 rfl
     have h2 : ρ (.tmp 14) = .int .i64 (k : Int) := hd ⟨2, .data⟩ (by simp) rfl 14 rfl
     exact .inl ⟨rfl, .inl ⟨.pointer (some ⟨b, off + k * 8, none⟩), u, run_index_op rfl h1 h2 (by go_simp), rfl, Below.refl _ _⟩⟩
    ·have h3 : ρ (.tmp 15) = .pointer (some ⟨b, off + k * 8, none⟩) := hd ⟨3, .data⟩ (by simp) rfl 15 rfl
     exact .inl ⟨rfl, .inl ⟨.pointer (some ⟨b, off + k * 8, none⟩), u, run_field_op rfl h3 (by go_simp), rfl, Below.refl _ _⟩⟩
    ·have h4 : ρ (.tmp 16) = .pointer (some ⟨b, off + k * 8, none⟩) := hd ⟨4, .data⟩ (by simp) rfl 16 rfl
     have y9 : u.cell? ⟨b, off + k * 8, none⟩ = some (.int .i64 (f k).p) := (rangeAt_below HR.out.1 HR.out.2 hR) 0 _ rfl
     have hr : (Instr.loadAt 3 (.pointer (some ⟨b, off + k * 8, none⟩))).run Tryz.prog u = .ok (.int .i64 (f k).p) u := by go_simp
     exact .inl ⟨rfl, .inl ⟨.int .i64 (f k).p, u, run_load_op rfl h4 hr, rfl, Below.refl _ _⟩⟩
    ·have s0 : ρ (.tmp 0) = .slice (some ⟨b, off, none⟩) n' cap := (hρ 0 (by kernel_rfl)).trans rfl
     exact .inl ⟨rfl, .inl ⟨_, u, rfl, s0, Below.refl _ _⟩⟩
    ·have s4 : ρ (.tmp 4) = .int .i64 (k : Int) := (hρ 4 (by kernel_rfl)).trans rfl
     exact .inl ⟨rfl, .inl ⟨_, u, rfl, s4, Below.refl _ _⟩⟩
    ·have h6 : ρ (.tmp 18) = .slice (some ⟨b, off, none⟩) n' cap := hd ⟨6, .data⟩ (by simp) rfl 18 rfl
     have h7 : ρ (.tmp 19) = .int .i64 (k : Int) := hd ⟨7, .data⟩ (by simp) rfl 19 rfl
     exact .inl ⟨rfl, .inl ⟨.pointer (some ⟨b, off + k * 8, none⟩), u, run_index_op rfl h6 h7 (by go_simp), rfl, Below.refl _ _⟩⟩
    ·have h8 : ρ (.tmp 20) = .pointer (some ⟨b, off + k * 8, none⟩) := hd ⟨8, .data⟩ (by simp) rfl 20 rfl
     exact .inl ⟨rfl, .inl ⟨.pointer (some ⟨b, off + k * 8 + 1, none⟩), u, run_field_op rfl h8 (by go_simp), rfl, Below.refl _ _⟩⟩
    ·have h9 : ρ (.tmp 21) = .pointer (some ⟨b, off + k * 8 + 1, none⟩) := hd ⟨9, .data⟩ (by simp) rfl 21 rfl
     have y9 : u.cell? ⟨b, off + k * 8 + 1, none⟩ = some (.int .i64 (f k).t) := (rangeAt_below HR.out.1 HR.out.2 hR) 1 _ rfl
     have hr : (Instr.loadAt 3 (.pointer (some ⟨b, off + k * 8 + 1, none⟩))).run Tryz.prog u = .ok (.int .i64 (f k).t) u := by go_simp
     exact .inl ⟨rfl, .inl ⟨.int .i64 (f k).t, u, run_load_op rfl h9 hr, rfl, Below.refl _ _⟩⟩
    ·have s0 : ρ (.tmp 0) = .slice (some ⟨b, off, none⟩) n' cap := (hρ 0 (by kernel_rfl)).trans rfl
     exact .inl ⟨rfl, .inl ⟨_, u, rfl, s0, Below.refl _ _⟩⟩
    ·have s4 : ρ (.tmp 4) = .int .i64 (k : Int) := (hρ 4 (by kernel_rfl)).trans rfl
     exact .inl ⟨rfl, .inl ⟨_, u, rfl, s4, Below.refl _ _⟩⟩
    ·have h11 : ρ (.tmp 23) = .slice (some ⟨b, off, none⟩) n' cap := hd ⟨11, .data⟩ (by simp) rfl 23 rfl
     have h12 : ρ (.tmp 24) = .int .i64 (k : Int) := hd ⟨12, .data⟩ (by simp) rfl 24 rfl
     exact .inl ⟨rfl, .inl ⟨.pointer (some ⟨b, off + k * 8, none⟩), u, run_index_op rfl h11 h12 (by go_simp), rfl, Below.refl _ _⟩⟩
    ·have h13 : ρ (.tmp 25) = .pointer (some ⟨b, off + k * 8, none⟩) := hd ⟨13, .data⟩ (by simp) rfl 25 rfl
     exact .inl ⟨rfl, .inl ⟨.pointer (some ⟨b, off + k * 8 + 2, none⟩), u, run_field_op rfl h13 (by go_simp), rfl, Below.refl _ _⟩⟩
    ·have h14 : ρ (.tmp 26) = .pointer (some ⟨b, off + k * 8 + 2, none⟩) := hd ⟨14, .data⟩ (by simp) rfl 26 rfl
     have hr : (Instr.loadAt 39 (.pointer (some ⟨b, off + k * 8 + 2, none⟩))).run Tryz.prog u = .ok (.agg ([.int .i64 (f k).q.kd, .int .i64 (f k).q.pl, .int .i64 (f k).q.n, .slice a1 ((f k).q.ws.length) c1, .slice a2 ((f k).q.bs.length) c2, .int .i64 (f k).q.wa]).toArray) u := run_loadAt_mid u b (off + k * 8 + 2) 39 ([.int .i64 (f k).q.kd, .int .i64 (f k).q.pl, .int .i64 (f k).q.n, .slice a1 ((f k).q.ws.length) c1, .slice a2 ((f k).q.bs.length) c2, .int .i64 (f k).q.wa]) _ (rangeAt_mid [.int .i64 (f k).p, .int .i64 (f k).t] [.int .i64 (f k).q.kd, .int .i64 (f k).q.pl, .int .i64 (f k).q.n, .slice a1 ((f k).q.ws.length) c1, .slice a2 ((f k).q.bs.length) c2, .int .i64 (f k).q.wa] [] (rangeAt_below HR.out.1 HR.out.2 hR) rfl) Tryz.underlying39 rfl (by kernel_rfl)
     exact .inl ⟨rfl, .inl ⟨.agg ([.int .i64 (f k).q.kd, .int .i64 (f k).q.pl, .int .i64 (f k).q.n, .slice a1 ((f k).q.ws.length) c1, .slice a2 ((f k).q.bs.length) c2, .int .i64 (f k).q.wa]).toArray, u, run_load_op rfl h14 hr, rfl, Below.refl _ _⟩⟩
    ·have h15 : ρ (.tmp 27) = .agg (qL (f k).q a1 (f k).q.ws.length c1 a2 (f k).q.bs.length c2).toArray := hd ⟨15, .data⟩ (by simp) rfl 27 rfl
     refine .inl ⟨rfl, .inr ⟨_, _, run_call_op rfl (hf _) (args := #[.agg (qL (f k).q a1 (f k).q.ws.length c1 a2 (f k).q.bs.length c2).toArray]) (by simp [h15]) (by kernel_rfl), ?_⟩⟩
     refine (l10CopyReq_m (f k).q a1 _ c1 a2 _ c2 _ (HK.out.2.2.1.below hR) (HK.out.2.2.2.1.below hR) HK.out.2.2.2.2).mono ?_
     rintro e u' ⟨b1, d1, b2, d2, he, o1, b'⟩
     exact ⟨_, he, ⟨b1, d1, b2, d2, rfl, o1.fl.mono hR.size⟩, b'⟩
    ·obtain ⟨b1, d1, b2, d2, h16, ho⟩ : ∃ b1 d1 b2 d2, ρ (.tmp 28) = .agg (qL (f k).q b1 (f k).q.ws.length d1 b2 (f k).q.bs.length d2).toArray /\ Fl u wr.heap.size (qT (f k).q) (qL (f k).q b1 (f k).q.ws.length d1 b2 (f k).q.bs.length d2) := hd ⟨16, .data⟩ (by simp) rfl 28 rfl
     have h5 : ρ (.tmp 17) = .int .i64 (f k).p := hd ⟨5, .data⟩ (by simp) rfl 17 rfl
     have h10 : ρ (.tmp 22) = .int .i64 (f k).t := hd ⟨10, .data⟩ (by simp) rfl 22 rfl
     exact .inl ⟨rfl, .inl ⟨.agg (pL (f k) b1 (f k).q.ws.length d1 b2 (f k).q.bs.length d2).toArray, u, run_bldz rfl (qs := #[(0, .int .i64 (f k).p), (1, .int .i64 (f k).t), (2, .agg (qL (f k).q b1 (f k).q.ws.length d1 b2 (f k).q.bs.length d2).toArray)]) (by simp [h5, h10, h16]) (by kernel_rfl), ⟨b1, d1, b2, d2, rfl, ho⟩, Below.refl _ _⟩⟩
    obtain ⟨b1, d1, b2, d2, h17, ho2⟩ : ∃ b1 d1 b2 d2, ρ (.tmp 29) = .agg (pL (f k) b1 (f k).q.ws.length d1 b2 (f k).q.bs.length d2).toArray /\ Fl u wr.heap.size (qT (f k).q) (qL (f k).q b1 (f k).q.ws.length d1 b2 (f k).q.bs.length d2) := hd ⟨17, .data⟩ (by simp) rfl 29 rfl
    exact .inl ⟨rfl, .inl ⟨_, _, run_build_op rfl (qs := #[(0, .agg (pL (f k) b1 (f k).q.ws.length d1 b2 (f k).q.bs.length d2).toArray)]) (by simp [h17]) (run_bs1P (f k) b1 _ d1 b2 _ d2 u), ⟨_, b1, d1, b2, d2, rfl, Blk.new _ _ _, ho2.below (bel_alloc _ _)⟩, (Below.refl _ _).alloc (Nat.le_refl _) _⟩⟩
   ·intro u o ρ hR ho hρ hc hf hv
    simp only [List.getElem?_toArray, List.getElem?_cons_zero, List.getElem?_cons_succ, Option.some.injEq] at ho
    subst ho
    have h0 : ρ (.tmp 12) = u3 := hv 0 12 (by decide) rfl
    obtain ⟨c, b1, d1, b2, d2, h18, kb, ho2⟩ : ∃ c b1 d1 b2 d2, ρ (.tmp 30) = .slice (some ⟨c, 0, none⟩) 1 1 /\ Blk u c 68 (pL (f k) b1 (f k).q.ws.length d1 b2 (f k).q.bs.length d2).toArray /\ Fl u wr.heap.size (qT (f k).q) (qL (f k).q b1 (f k).q.ws.length d1 b2 (f k).q.bs.length d2) := hv 18 30 (by decide) rfl
    have op : Fl u wr.heap.size (pT (f k)) (pL (f k) b1 (f k).q.ws.length d1 b2 (f k).q.bs.length d2) := (ho2.leaf (.int .i64 (f k).t)).leaf (.int .i64 (f k).p)
    have hL := HK.out.1.below hR
    obtain ⟨v', w', hrun, L', g', k'⟩ := run_appG 41 41 68 8 96 (.agg #[.int .i64 0, .int .i64 0, .int .i64 0, .int .i64 0, .int .i64 0, .slice none 0 0, .slice none 0 0, .int .i64 0]) Tryz.underlying41 (by kernel_rfl) rfl (by decide) (by decide) w.heap.size u3 k (fun i => pT (f i)) hL c 1 (pL (f k) b1 (f k).q.ws.length d1 b2 (f k).q.bs.length d2) rfl (fun j x hx => kb.cell j (by simpa using hx)) (fun x hx => by simp at hx; rcases hx with rfl | rfl | rfl | rfl | rfl | rfl | rfl | rfl <;> rfl) (op.elG HK.out.2.1.size (fun j hj => (HK.out.1.lt j hj).2)) (by have := HN.out; omega) (Nat.le_trans HK.out.2.1.size hR.size)
    exact ⟨rfl, .inl ⟨_, w', run_app_x rfl h0 h18 hrun, v', updS_eqX, L', (bel_nx HK.out.2.1 hR).grown g' (Nat.le_trans HK.out.2.1.size hR.size) k'⟩⟩
   ·intro u i o ρ hi ho hE hρ hc hf
    have hi2 : i + 1 < 21 := by
     have := (Array.getElem?_eq_some_iff.1 ho).1
     simpa using this
    obtain rfl : i = 19 := by omega
    all_goals (simp only [List.getElem?_toArray, List.getElem?_cons_zero, List.getElem?_cons_succ, Option.some.injEq] at ho; subst ho)
    obtain ⟨v', e1, L', b'⟩ := hE
    have e1' : ρ (.tmp 31) = v' := e1
    exact ⟨rfl, .inl ⟨_, u, run_asg_x rfl e1', v', updS_eqX, L', b'⟩⟩
   intro vs σ u hE hvs
   obtain ⟨v', e3, L', b'⟩ : ∃ v', σ 3 = v' /\ LsG u w.heap.size 68 8 v' (k + 1) (fun i => pT (f i)) /\ Below w.heap.size w u := hE
   have e9 : vs 20 = v' := (hvs 20 3 rfl).trans e3
   simp only [putsL]
   rw [e9]
   have H2 : Hid (LsG u w.heap.size 68 8 v' (k + 1) (fun i => pT (f i)) /\ Below w.heap.size w u) := ⟨L', b'⟩
   clear e9 e3 hvs L' b' HK HR
   try go_simp
   go_wp2
   go_roundw
   case rel => exact ⟨k + 1, by omega, by go_num, H2.out.1, H2.out.2⟩
   case measure => simp [intOf]; omega
  have hi : ¬ (k : Int) < (n' : Int) := by omega
  have e9 : k = n' := by omega
  subst e9
  have HR : Hid (LsG wr w.heap.size 68 8 u3 k (fun i => pT (f i)) /\ Below w.heap.size w wr) := ⟨hl, hb⟩
  clear hl hb
  go_wp2
  go_ret
  exact ⟨_, rfl, HR.out.1, HR.out.2⟩
end Go.Proofs.YtlhjiiifmfgnoaaGreat
namespace Go.Proofs.YtlhjiiifmfgnoaaGreat
open Go.RowKit Go.Joins
theorem copiesPart_m (n : Nat) (f : Nat -> VP) (a : Option Addr) (n' cap : Nat) (w : World) (hs : Rd w 0 (.list 8 n (fun k => trs (pT (f k)))) (.slice a n' cap)) (hz : (Tr.list 8 n (fun k => trs (pT (f k)))).sz <= 1048576) :
 Calls Tryz.prog 58 #[.slice a n' cap, .func (.func 59) #[] #[]] w fun e w' => ∃ b d, e = .returned (.slice b n' d) /\ OwnS w' w.heap.size (.list 8 n (fun k => trs (pT (f k)))) (.slice b n' d) /\ Below w.heap.size w w' := by
 obtain ⟨a9, c9, h9, -, hn⟩ := hs.shape
 simp only [Value.slice.injEq] at h9
 obtain ⟨-, rfl, -⟩ := h9
 clear a9 c9
 have hn1 : n' <= 1048576 := by rw [Tr.sz_list] at hz; omega
 have HZ : Hid (∀ k, k < n' -> szT 8 (trs (pT (f k))) <= 1048576) := by
  show ∀ k, k < n' -> szT 8 (trs (pT (f k))) <= 1048576
  intro k hk
  rw [Tr.sz_list] at hz
  have := sumN_at (fun k => szT 8 (trs (pT (f k)))) hk
  omega
 have hmk := run_make_st (P := Tryz.prog) 41 68 (.agg #[.int .i64 0, .int .i64 0, .int .i64 0, .int .i64 0, .int .i64 0, .slice none 0 0, .slice none 0 0, .int .i64 0]) 8 96 Tryz.underlying41 (by kernel_rfl) .i64 .i64 n' (by omega) (by omega)
 have HS : Hid (Rd w 0 (.list 8 n' (fun k => trs (pT (f k)))) (.slice a n' cap) /\ n' <= maxLen) := ⟨hs, hn⟩
 clear hs hz hn
 go_enter Tryz.func58, Tryz.ntmps58
 go_wp2
 clear hmk
 go_loopw [13] (fun i wr => ∃ (k : Nat), k <= n' /\ i = .int .i64 k /\ LsI wr w.heap.size 68 8 n' (fun i => pT (f i)) k /\ Below w.heap.size w wr) (fun i _ => n' - (intOf i).toNat)
 case atStart => exact ⟨0, Nat.zero_le _, rfl, LsI.start (RowS.made w (#[.int .i64 0, .int .i64 0, .int .i64 0, .int .i64 0, .int .i64 0, .slice none 0 0, .slice none 0 0, .int .i64 0]).toList n' _ (by simp)), (Below.refl _ _).alloc (Nat.le_refl _) _⟩
 case round =>
  obtain ⟨k, hk, rfl, hrow, hb⟩ := hrel
  by_cases hlt : k < n'
  ·have hi : (k : Int) < (n' : Int) := by omega
   obtain ⟨b, off, vs, rfl, _, hb0, hlen, hr, hrd⟩ := (HS.out.1.below hb).at hlt
   obtain ⟨a1, c1, a2, c2, rfl, r1, r2⟩ := VP.cells hrd hlen
   clear hlen hrd
   have d09 : wr.cell? ⟨b, off + k * 8, none⟩ = _ := hr 0 _ rfl
   have d19 : wr.cell? ⟨b, off + k * 8 + 1, none⟩ = _ := hr 1 _ rfl
   have d29 : wr.cell? ⟨b, off + k * 8 + 2, none⟩ = _ := hr 2 _ rfl
   have d39 : wr.cell? ⟨b, off + k * 8 + 3, none⟩ = _ := hr 3 _ rfl
   have d49 : wr.cell? ⟨b, off + k * 8 + 4, none⟩ = _ := hr 4 _ rfl
   have d59 : wr.cell? ⟨b, off + k * 8 + 5, none⟩ = _ := hr 5 _ rfl
   have d69 : wr.cell? ⟨b, off + k * 8 + 6, none⟩ = _ := hr 6 _ rfl
   have d79 : wr.cell? ⟨b, off + k * 8 + 7, none⟩ = _ := hr 7 _ rfl
   have HK : Hid (LsI wr w.heap.size 68 8 n' (fun i => pT (f i)) k /\ True /\ Below w.heap.size w wr /\ Rd wr 0 (intsT (f k).q.ws) (.slice a1 ((f k).q.ws.length) c1) /\ Rd wr 0 (boolsT (f k).q.bs) (.slice a2 ((f k).q.bs.length) c2)) := ⟨hrow, trivial, hb, r1, r2⟩
   clear hrow hb hr hb0 r1 r2
   go_wp2_with fail
   refine (copyPart_m (f k) a1 ((f k).q.ws.length) c1 a2 ((f k).q.bs.length) c2 _ (HK.out.2.2.2.1.below (bel_alloc _ _)) (HK.out.2.2.2.2.below (bel_alloc _ _)) (HZ.out k hlt)).mono ?_
   rintro e w1 ⟨b1, d1, b2, d2, rfl, q1, hb1⟩
   have hb1 := bel_nx (bel_alloc wr _) hb1
   have q1 := q1.mono (lo' := wr.heap.size) (by simp) (Nat.le_refl _)
   obtain ⟨F1, R1⟩ := (HK.out.1.cg (Cg.ofBelow (S := fun _ => False) hb1) (fun b h => h.elim)).row
   obtain ⟨rx0, ry0⟩ : ∃ v, w1.cell? ⟨w.heap.size, k * 8, none⟩ = some v := R1.ex hlt (j := 0) (by decide)
   obtain ⟨rx1, ry1⟩ : ∃ v, w1.cell? ⟨w.heap.size, k * 8 + 1, none⟩ = some v := R1.ex hlt (j := 1) (by decide)
   obtain ⟨rx2, ry2⟩ : ∃ v, w1.cell? ⟨w.heap.size, k * 8 + 2, none⟩ = some v := R1.ex hlt (j := 2) (by decide)
   obtain ⟨rx3, ry3⟩ : ∃ v, w1.cell? ⟨w.heap.size, k * 8 + 3, none⟩ = some v := R1.ex hlt (j := 3) (by decide)
   obtain ⟨rx4, ry4⟩ : ∃ v, w1.cell? ⟨w.heap.size, k * 8 + 4, none⟩ = some v := R1.ex hlt (j := 4) (by decide)
   obtain ⟨rx5, ry5⟩ : ∃ v, w1.cell? ⟨w.heap.size, k * 8 + 5, none⟩ = some v := R1.ex hlt (j := 5) (by decide)
   obtain ⟨rx6, ry6⟩ : ∃ v, w1.cell? ⟨w.heap.size, k * 8 + 6, none⟩ = some v := R1.ex hlt (j := 6) (by decide)
   obtain ⟨rx7, ry7⟩ : ∃ v, w1.cell? ⟨w.heap.size, k * 8 + 7, none⟩ = some v := R1.ex hlt (j := 7) (by decide)
   obtain ⟨W2, hW2⟩ : ∃ W2, W2 = setL w1 w.heap.size (k * 8) (pL (f k) b1 ((f k).q.ws.length) d1 b2 ((f k).q.bs.length) d2) := ⟨_, rfl⟩
   have H2 : Hid (LsI W2 w.heap.size 68 8 n' (fun i => pT (f i)) (k + 1) /\ Below w.heap.size w W2) := ⟨by rw [hW2]; exact HK.out.1.step (S := fun _ => False) hlt (Cg.ofBelow hb1) (fun b h => h.elim) q1 rfl, by rw [hW2]; exact setL_below (Nat.le_refl _) _ _ _ (bel_nx HK.out.2.2.1 hb1)⟩
   have hW2' : W2 = ((((((((w1.setCell ⟨w.heap.size, k * 8, none⟩ (.int .i64 (f k).p)).setCell ⟨w.heap.size, k * 8 + 1, none⟩ (.int .i64 (f k).t)).setCell ⟨w.heap.size, k * 8 + 2, none⟩ (.int .i64 (f k).q.kd)).setCell ⟨w.heap.size, k * 8 + 3, none⟩ (.int .i64 (f k).q.pl)).setCell ⟨w.heap.size, k * 8 + 4, none⟩ (.int .i64 (f k).q.n)).setCell ⟨w.heap.size, k * 8 + 5, none⟩ (.slice b1 ((f k).q.ws.length) d1)).setCell ⟨w.heap.size, k * 8 + 6, none⟩ (.slice b2 ((f k).q.bs.length) d2)).setCell ⟨w.heap.size, k * 8 + 7, none⟩ (.int .i64 (f k).q.wa)) := by rw [hW2]; simp only [setL, Nat.reduceAdd, Nat.zero_add, Nat.add_zero, Nat.add_assoc]
   have HE : Hid (∀ j, w1.frozen? ⟨w.heap.size, j, none⟩ = false) := R1.fro
   have qf0 := HE.out (k * 8)
   have qf1 := HE.out (k * 8 + 1)
   have qf2 := HE.out (k * 8 + 2)
   have qf3 := HE.out (k * 8 + 3)
   have qf4 := HE.out (k * 8 + 4)
   have qf5 := HE.out (k * 8 + 5)
   have qf6 := HE.out (k * 8 + 6)
   have qf7 := HE.out (k * 8 + 7)
   clear R1 hb1 HK d09 d19 d29 d39 d49 d59 d69 d79 hW2 HE q1
   go_wp2
   rw [<- hW2']
   clear hW2'
   go_roundw
   case rel =>
    exact ⟨k + 1, by omega, by go_num, H2.out.1, H2.out.2⟩
   case measure => simp [intOf]; omega
  have hi : ¬ (k : Int) < (n' : Int) := by omega
  have e9 : k = n' := by omega
  subst e9
  have HR : Hid (LsI wr w.heap.size 68 8 k (fun i => pT (f i)) k /\ Below w.heap.size w wr) := ⟨hrow, hb⟩
  clear hrow hb
  go_wp2
  go_ret
  exact ⟨_, _, rfl, HR.out.1.done (Nat.le_refl _) HS.out.2 (fun _ _ => rfl), HR.out.2⟩
theorem copiesResp_m (n : Nat) (f : Nat -> VA) (a : Option Addr) (n' cap : Nat) (w : World) (hs : Rd w 0 (.list 6 n (fun k => trs (aT (f k)))) (.slice a n' cap)) (hz : (Tr.list 6 n (fun k => trs (aT (f k)))).sz <= 1048576) :
 Calls Tryz.prog 60 #[.slice a n' cap, .func (.func 61) #[] #[]] w fun e w' => ∃ b d, e = .returned (.slice b n' d) /\ OwnS w' w.heap.size (.list 6 n (fun k => trs (aT (f k)))) (.slice b n' d) /\ Below w.heap.size w w' := by
 obtain ⟨a9, c9, h9, -, hn⟩ := hs.shape
 simp only [Value.slice.injEq] at h9
 obtain ⟨-, rfl, -⟩ := h9
 clear a9 c9
 have hn1 : n' <= 1048576 := by rw [Tr.sz_list] at hz; omega
 have HZ : Hid (∀ k, k < n' -> szT 6 (trs (aT (f k))) <= 1048576) := by
  show ∀ k, k < n' -> szT 6 (trs (aT (f k))) <= 1048576
  intro k hk
  rw [Tr.sz_list] at hz
  have := sumN_at (fun k => szT 6 (trs (aT (f k)))) hk
  omega
 have hmk := run_make_st (P := Tryz.prog) 59 89 (.agg #[.int .i64 0, .int .i64 0, .int .i64 0, .int .i64 0, .slice none 0 0, .slice none 0 0]) 6 80 Tryz.underlying59 (by kernel_rfl) .i64 .i64 n' (by omega) (by omega)
 have HS : Hid (Rd w 0 (.list 6 n' (fun k => trs (aT (f k)))) (.slice a n' cap) /\ n' <= maxLen) := ⟨hs, hn⟩
 clear hs hz hn
 go_enter Tryz.func60, Tryz.ntmps60
 go_wp2
 clear hmk
 go_loopw [13] (fun i wr => ∃ (k : Nat), k <= n' /\ i = .int .i64 k /\ LsI wr w.heap.size 89 6 n' (fun i => aT (f i)) k /\ Below w.heap.size w wr) (fun i _ => n' - (intOf i).toNat)
 case atStart => exact ⟨0, Nat.zero_le _, rfl, LsI.start (RowS.made w (#[.int .i64 0, .int .i64 0, .int .i64 0, .int .i64 0, .slice none 0 0, .slice none 0 0]).toList n' _ (by simp)), (Below.refl _ _).alloc (Nat.le_refl _) _⟩
 case round =>
  obtain ⟨k, hk, rfl, hrow, hb⟩ := hrel
  by_cases hlt : k < n'
  ·have hi : (k : Int) < (n' : Int) := by omega
   obtain ⟨b, off, vs, rfl, _, hb0, hlen, hr, hrd⟩ := (HS.out.1.below hb).at hlt
   obtain ⟨a1, c1, a2, c2, rfl, r1, r2⟩ := VA.cells hrd hlen
   clear hlen hrd
   have d09 : wr.cell? ⟨b, off + k * 6, none⟩ = _ := hr 0 _ rfl
   have d19 : wr.cell? ⟨b, off + k * 6 + 1, none⟩ = _ := hr 1 _ rfl
   have d29 : wr.cell? ⟨b, off + k * 6 + 2, none⟩ = _ := hr 2 _ rfl
   have d39 : wr.cell? ⟨b, off + k * 6 + 3, none⟩ = _ := hr 3 _ rfl
   have d49 : wr.cell? ⟨b, off + k * 6 + 4, none⟩ = _ := hr 4 _ rfl
   have d59 : wr.cell? ⟨b, off + k * 6 + 5, none⟩ = _ := hr 5 _ rfl
   have HK : Hid (LsI wr w.heap.size 89 6 n' (fun i => aT (f i)) k /\ True /\ Below w.heap.size w wr /\ Rd wr 0 (intsT (f k).ws) (.slice a1 ((f k).ws.length) c1) /\ Rd wr 0 (boolsT (f k).bs) (.slice a2 ((f k).bs.length) c2)) := ⟨hrow, trivial, hb, r1, r2⟩
   clear hrow hb hr hb0 r1 r2
   go_wp2_with fail
   refine (copyResp_m (f k) a1 ((f k).ws.length) c1 a2 ((f k).bs.length) c2 _ (HK.out.2.2.2.1.below (bel_alloc _ _)) (HK.out.2.2.2.2.below (bel_alloc _ _)) (HZ.out k hlt)).mono ?_
   rintro e w1 ⟨b1, d1, b2, d2, rfl, q1, hb1⟩
   have hb1 := bel_nx (bel_alloc wr _) hb1
   have q1 := q1.mono (lo' := wr.heap.size) (by simp) (Nat.le_refl _)
   obtain ⟨F1, R1⟩ := (HK.out.1.cg (Cg.ofBelow (S := fun _ => False) hb1) (fun b h => h.elim)).row
   obtain ⟨rx0, ry0⟩ : ∃ v, w1.cell? ⟨w.heap.size, k * 6, none⟩ = some v := R1.ex hlt (j := 0) (by decide)
   obtain ⟨rx1, ry1⟩ : ∃ v, w1.cell? ⟨w.heap.size, k * 6 + 1, none⟩ = some v := R1.ex hlt (j := 1) (by decide)
   obtain ⟨rx2, ry2⟩ : ∃ v, w1.cell? ⟨w.heap.size, k * 6 + 2, none⟩ = some v := R1.ex hlt (j := 2) (by decide)
   obtain ⟨rx3, ry3⟩ : ∃ v, w1.cell? ⟨w.heap.size, k * 6 + 3, none⟩ = some v := R1.ex hlt (j := 3) (by decide)
   obtain ⟨rx4, ry4⟩ : ∃ v, w1.cell? ⟨w.heap.size, k * 6 + 4, none⟩ = some v := R1.ex hlt (j := 4) (by decide)
   obtain ⟨rx5, ry5⟩ : ∃ v, w1.cell? ⟨w.heap.size, k * 6 + 5, none⟩ = some v := R1.ex hlt (j := 5) (by decide)
   obtain ⟨W2, hW2⟩ : ∃ W2, W2 = setL w1 w.heap.size (k * 6) (aL (f k) b1 ((f k).ws.length) d1 b2 ((f k).bs.length) d2) := ⟨_, rfl⟩
   have H2 : Hid (LsI W2 w.heap.size 89 6 n' (fun i => aT (f i)) (k + 1) /\ Below w.heap.size w W2) := ⟨by rw [hW2]; exact HK.out.1.step (S := fun _ => False) hlt (Cg.ofBelow hb1) (fun b h => h.elim) q1 rfl, by rw [hW2]; exact setL_below (Nat.le_refl _) _ _ _ (bel_nx HK.out.2.2.1 hb1)⟩
   have hW2' : W2 = ((((((w1.setCell ⟨w.heap.size, k * 6, none⟩ (.int .i64 (f k).kd)).setCell ⟨w.heap.size, k * 6 + 1, none⟩ (.int .i64 (f k).fl)).setCell ⟨w.heap.size, k * 6 + 2, none⟩ (.int .i64 (f k).pl)).setCell ⟨w.heap.size, k * 6 + 3, none⟩ (.int .i64 (f k).n)).setCell ⟨w.heap.size, k * 6 + 4, none⟩ (.slice b1 ((f k).ws.length) d1)).setCell ⟨w.heap.size, k * 6 + 5, none⟩ (.slice b2 ((f k).bs.length) d2)) := by rw [hW2]; simp only [setL, Nat.reduceAdd, Nat.zero_add, Nat.add_zero, Nat.add_assoc]
   have HE : Hid (∀ j, w1.frozen? ⟨w.heap.size, j, none⟩ = false) := R1.fro
   have qf0 := HE.out (k * 6)
   have qf1 := HE.out (k * 6 + 1)
   have qf2 := HE.out (k * 6 + 2)
   have qf3 := HE.out (k * 6 + 3)
   have qf4 := HE.out (k * 6 + 4)
   have qf5 := HE.out (k * 6 + 5)
   clear R1 hb1 HK d09 d19 d29 d39 d49 d59 hW2 HE q1
   go_wp2
   rw [<- hW2']
   clear hW2'
   go_roundw
   case rel =>
    exact ⟨k + 1, by omega, by go_num, H2.out.1, H2.out.2⟩
   case measure => simp [intOf]; omega
  have hi : ¬ (k : Int) < (n' : Int) := by omega
  have e9 : k = n' := by omega
  subst e9
  have HR : Hid (LsI wr w.heap.size 89 6 k (fun i => aT (f i)) k /\ Below w.heap.size w wr) := ⟨hrow, hb⟩
  clear hrow hb
  go_wp2
  go_ret
  exact ⟨_, _, rfl, HR.out.1.done (Nat.le_refl _) HS.out.2 (fun _ _ => rfl), HR.out.2⟩
end Go.Proofs.YtlhjiiifmfgnoaaGreat
namespace Go.Proofs.YtlhjiiifmfgnoaaGreat
open Go.RowKit Go.Joins
theorem Own1.appD {w : World} {lo hi lo1 hi1 lo2 hi2 : Nat} {ts us : List Tr} {vs xs : List Value} (h1 : Own1 w lo1 hi1 ts vs) (h2 : Own1 w lo2 hi2 us xs) (hd : hi1 <= lo2 \/ hi2 <= lo1) (e1 : lo <= lo1) (e2 : lo <= lo2) (e3 : hi1 <= hi) (e4 : hi2 <= hi) : Own1 w lo hi (ts ++ us) (vs ++ xs) := by
 obtain ⟨K, a1, a2, a3, a4⟩ := h1
 obtain ⟨L, b1, b2, b3, b4⟩ := h2
 refine ⟨fun i => if i < ts.length then K i else L (i - ts.length), by simp [a1, b1], fun i v hv => ?_, fun i hi' => ?_, fun i i' hi' hj' hne b hb => ?_⟩
 ·by_cases e : i < ts.length
  ·have e' : i < vs.length := by omega
   rw [List.getElem?_append_left e'] at hv
   simp only [if_pos e]
   have : trs (ts ++ us) i = trs ts i := by
    unfold trs
    simp [List.getD_eq_getElem?_getD, List.getElem?_append_left e]
   rw [this]
   exact a2 i v hv
  have e' : vs.length <= i := by omega
  rw [List.getElem?_append_right e', a1] at hv
  simp only [if_neg e]
  have : trs (ts ++ us) i = trs us (i - ts.length) := by
   unfold trs
   simp [List.getD_eq_getElem?_getD, List.getElem?_append_right (Nat.le_of_not_lt e)]
  rw [this]
  exact b2 _ v hv
 ·rw [List.length_append] at hi'
  by_cases e : i < ts.length
  ·simp only [if_pos e]
   exact ⟨(a3 i e).1, fun b hb => by have := (a3 i e).2 b hb; omega⟩
  simp only [if_neg e]
  have e' : i - ts.length < us.length := by omega
  exact ⟨(b3 _ e').1, fun b hb => by have := (b3 _ e').2 b hb; omega⟩
 rw [List.length_append] at hi' hj'
 by_cases e : i < ts.length
 ·simp only [if_pos e] at hb
  by_cases e2 : i' < ts.length
  ·simp only [if_pos e2]
   exact a4 i i' e e2 hne b hb
  simp only [if_neg e2]
  intro hb'
  have r1 := (a3 i e).2 b hb
  have r2 := (b3 _ (show i' - ts.length < us.length by omega)).2 b hb'
  omega
 simp only [if_neg e] at hb
 by_cases e2 : i' < ts.length
 ·simp only [if_pos e2]
  intro hb'
  have r1 := (a3 i' e2).2 b hb'
  have r2 := (b3 _ (show i - ts.length < us.length by omega)).2 b hb
  omega
 simp only [if_neg e2]
 exact b4 _ _ (by omega) (by omega) (by omega) b hb
theorem copyBools_m (ws : List Bool) (a : Option Addr) (l c : Nat) (w : World) (r : Rd w 0 (boolsT ws) (.slice a l c)) (hz : ws.length <= 1048576) :
 Calls Tryz.prog 57 #[.slice a l c] w fun e w' => ∃ b d, e = .returned (.slice b l d) /\ OwnS w' w.heap.size (boolsT ws) (.slice b l d) /\ Below w.heap.size w w' := by
 obtain ⟨a9, c9, h9, -, hm, hs⟩ := r.bools
 simp only [Value.slice.injEq] at h9
 obtain ⟨rfl, rfl, rfl⟩ := h9
 refine (copyOfB a _ c ws w rfl hs (by omega)).mono ?_
 rintro e w' ⟨g, rfl, h1, h2⟩
 obtain ⟨K, k1, k2, k3⟩ := OwnB.fit h1
 exact ⟨_, _, rfl, ⟨K, k1, k2, fun b hb => (k3 b hb).1⟩, h2⟩
abbrev pd0 : Array Value := #[.int .i64 0, .int .i64 0, .int .i64 0, .int .i64 0, .int .i64 0, .int .i64 0, .int .i64 0, .slice none 0 0, .slice none 0 0, .int .i64 0, .slice none 0 0, .slice none 0 0, .slice none 0 0]
abbrev ptsT (X : VD) : Tr := .list 8 X.np (fun i => trs (pT (X.pt i)))
abbrev tlsT (X : VD) : Tr := .list 6 X.nt (fun i => trs (aT (X.tl i)))
def CpA (w : World) (B : Nat) (X : VD) (l1 l2 l3 l4 l5 : Nat) (a3 a5 : Option Addr) (c3 c5 : Nat) (u : World) : Prop :=
 ∃ b1 d1 b2 d2 b4 d4 m, Blk u B 61 (dL X b1 l1 d1 b2 l2 d2 a3 l3 c3 b4 l4 d4 a5 l5 c5).toArray /\ Blk u (B + 1) 61 pd0 /\ Below w.heap.size w u /\ B + 2 <= m /\ m <= u.heap.size /\ Own1 u (B + 2) m (qT X.q) (qL X.q b1 l1 d1 b2 l2 d2) /\ Own1 u m u.heap.size [boolsT X.hs] [.slice b4 l4 d4]
def CpB (w : World) (B : Nat) (X : VD) (l1 l2 l3 l4 l5 : Nat) (u : World) : Prop :=
 ∃ b1 d1 b2 d2 b3 d3 b4 d4 b5 d5 m1 m2 m3, Blk u B 61 (dL X b1 l1 d1 b2 l2 d2 b3 l3 d3 b4 l4 d4 b5 l5 d5).toArray /\ Blk u (B + 1) 61 pd0 /\ Below w.heap.size w u /\ B + 2 <= m1 /\ m1 <= m2 /\ m2 <= m3 /\ m3 <= u.heap.size /\ Own1 u (B + 2) m1 (qT X.q) (qL X.q b1 l1 d1 b2 l2 d2) /\ Own1 u m1 m2 [boolsT X.hs] [.slice b4 l4 d4] /\ Own1 u m2 m3 [ptsT X] [.slice b3 l3 d3] /\ Own1 u m3 u.heap.size [tlsT X] [.slice b5 l5 d5]
theorem cdA {w u : World} {B m : Nat} {X : VD} {l1 l2 l3 l4 l5 : Nat} {a1 a2 a3 a4 a5 b1 b2 b4 : Option Addr} {c1 c2 c3 c4 c5 d1 d2 d4 : Nat} (hB : Blk u B 61 (dL X a1 l1 c1 a2 l2 c2 a3 l3 c3 a4 l4 c4 a5 l5 c5).toArray) (hR : Blk u (B + 1) 61 pd0) (hb : Below w.heap.size w u) (hBw : w.heap.size <= B) (hm : B + 2 <= m) (hm2 : m <= u.heap.size) (o1 : Own1 u (B + 2) m (qT X.q) (qL X.q b1 l1 d1 b2 l2 d2)) (o2 : Own1 u m u.heap.size [boolsT X.hs] [.slice b4 l4 d4]) :
 CpA w B X l1 l2 l3 l4 l5 a3 a5 c3 c5 (setL (setL u B 4 (qL X.q b1 l1 d1 b2 l2 d2)) B 11 [.slice b4 l4 d4]) /\ CpA w B X l1 l2 l3 l4 l5 a3 a5 c3 c5 (setL (setL u B 11 [.slice b4 l4 d4]) B 4 (qL X.q b1 l1 d1 b2 l2 d2)) := by
 have K : ∀ (v1 v2 : List Value) (p1 p2 : Nat), wrA (wrA (dL X a1 l1 c1 a2 l2 c2 a3 l3 c3 a4 l4 c4 a5 l5 c5).toArray p1 v1) p2 v2 = (dL X b1 l1 d1 b2 l2 d2 a3 l3 c3 b4 l4 d4 a5 l5 c5).toArray -> CpA w B X l1 l2 l3 l4 l5 a3 a5 c3 c5 (setL (setL u B p1 v1) B p2 v2) := by
  intro v1 v2 p1 p2 he
  have g1 : u.grownBy (setL u B p1 v1) (some B) := setL_gw _ _ _
  have g2 : (setL u B p1 v1).grownBy (setL (setL u B p1 v1) B p2 v2) (some B) := setL_gw _ _ _
  have s1 := g1.size
  have s2 := g2.size
  refine ⟨b1, d1, b2, d2, b4, d4, m, ?_, Blk.stNe (by omega) _ _ (Blk.stNe (by omega) _ _ hR), setL_below hBw _ _ _ (setL_below hBw _ _ _ hb), hm, by omega, (o1.kept g1 (by omega) hm2).kept g2 (by omega) (by omega), ((o2.kept g1 (by omega) (Nat.le_refl _)).kept g2 (by omega) s1).mono (Nat.le_refl _) (by omega)⟩
  have h9 := Blk.stL v2 p2 (Blk.stL v1 p1 hB)
  rw [he] at h9
  exact h9
 exact ⟨K _ _ _ _ (by simp [wrA]), K _ _ _ _ (by simp [wrA])⟩
theorem cdB {w u : World} {B m1 m2 m3 : Nat} {X : VD} {l1 l2 l3 l4 l5 : Nat} {a3 a5 b1 b2 b3 b4 b5 : Option Addr} {c3 c5 d1 d2 d3 d4 d5 : Nat} (hB : Blk u B 61 (dL X b1 l1 d1 b2 l2 d2 a3 l3 c3 b4 l4 d4 a5 l5 c5).toArray) (hR : Blk u (B + 1) 61 pd0) (hb : Below w.heap.size w u) (hBw : w.heap.size <= B) (hm : B + 2 <= m1) (hm1 : m1 <= m2) (hm2 : m2 <= m3) (hm3 : m3 <= u.heap.size) (o1 : Own1 u (B + 2) m1 (qT X.q) (qL X.q b1 l1 d1 b2 l2 d2)) (o2 : Own1 u m1 m2 [boolsT X.hs] [.slice b4 l4 d4]) (o3 : Own1 u m2 m3 [ptsT X] [.slice b3 l3 d3]) (o4 : Own1 u m3 u.heap.size [tlsT X] [.slice b5 l5 d5]) :
 CpB w B X l1 l2 l3 l4 l5 (setL (setL u B 10 [.slice b3 l3 d3]) B 12 [.slice b5 l5 d5]) /\ CpB w B X l1 l2 l3 l4 l5 (setL (setL u B 12 [.slice b5 l5 d5]) B 10 [.slice b3 l3 d3]) := by
 have K : ∀ (v1 v2 : List Value) (p1 p2 : Nat), wrA (wrA (dL X b1 l1 d1 b2 l2 d2 a3 l3 c3 b4 l4 d4 a5 l5 c5).toArray p1 v1) p2 v2 = (dL X b1 l1 d1 b2 l2 d2 b3 l3 d3 b4 l4 d4 b5 l5 d5).toArray -> CpB w B X l1 l2 l3 l4 l5 (setL (setL u B p1 v1) B p2 v2) := by
  intro v1 v2 p1 p2 he
  have g1 : u.grownBy (setL u B p1 v1) (some B) := setL_gw _ _ _
  have g2 : (setL u B p1 v1).grownBy (setL (setL u B p1 v1) B p2 v2) (some B) := setL_gw _ _ _
  have s1 := g1.size
  have s2 := g2.size
  refine ⟨b1, d1, b2, d2, b3, d3, b4, d4, b5, d5, m1, m2, m3, ?_, Blk.stNe (by omega) _ _ (Blk.stNe (by omega) _ _ hR), setL_below hBw _ _ _ (setL_below hBw _ _ _ hb), hm, hm1, hm2, by omega, (o1.kept g1 (by omega) (by omega)).kept g2 (by omega) (by omega), (o2.kept g1 (by omega) (by omega)).kept g2 (by omega) (by omega), (o3.kept g1 (by omega) (by omega)).kept g2 (by omega) (by omega), ((o4.kept g1 (by omega) (Nat.le_refl _)).kept g2 (by omega) s1).mono (Nat.le_refl _) (by omega)⟩
  have h9 := Blk.stL v2 p2 (Blk.stL v1 p1 hB)
  rw [he] at h9
  exact h9
 exact ⟨K _ _ _ _ (by simp [wrA]), K _ _ _ _ (by simp [wrA])⟩
theorem copyPend_m (X : VD) (a1 : Option Addr) (l1 c1 : Nat) (a2 : Option Addr) (l2 c2 : Nat) (a3 : Option Addr) (l3 c3 : Nat) (a4 : Option Addr) (l4 c4 : Nat) (a5 : Option Addr) (l5 c5 : Nat) (w : World) (r1 : Rd w 0 (intsT X.q.ws) (.slice a1 l1 c1)) (r2 : Rd w 0 (boolsT X.q.bs) (.slice a2 l2 c2)) (r3 : Rd w 0 (ptsT X) (.slice a3 l3 c3)) (r4 : Rd w 0 (boolsT X.hs) (.slice a4 l4 c4)) (r5 : Rd w 0 (tlsT X) (.slice a5 l5 c5)) (hz : szT 13 (trs (dT X)) <= 1048576) :
 Calls Tryz.prog 35 #[.agg (dL X a1 l1 c1 a2 l2 c2 a3 l3 c3 a4 l4 c4 a5 l5 c5).toArray] w fun e w' => ∃ b1 d1 b2 d2 b3 d3 b4 d4 b5 d5, e = .returned (.agg (dL X b1 l1 d1 b2 l2 d2 b3 l3 d3 b4 l4 d4 b5 l5 d5).toArray) /\ Own1 w' w.heap.size w'.heap.size (dT X) (dL X b1 l1 d1 b2 l2 d2 b3 l3 d3 b4 l4 d4 b5 l5 d5) /\ Below w.heap.size w w' := by
 obtain ⟨B, hB⟩ : ∃ B, B = w.heap.size := ⟨_, rfl⟩
 obtain ⟨W, hW⟩ : ∃ W, W = (w.alloc (.cells (dL X a1 l1 c1 a2 l2 c2 a3 l3 c3 a4 l4 c4 a5 l5 c5).toArray 61)).alloc (.cells pd0 61) := ⟨_, rfl⟩
 have bW : Below w.heap.size w W := by rw [hW]; exact bel_nx (bel_alloc w _) (bel_alloc _ _)
 have HZ : Hid (szT 6 (trs (qT X.q)) <= 1048576 /\ (ptsT X).sz <= 1048576 /\ X.hs.length <= 1048576 /\ (tlsT X).sz <= 1048576) := by
  rw [szT_d] at hz
  show szT 6 (trs (qT X.q)) <= 1048576 /\ (Tr.list 8 X.np (fun i => trs (pT (X.pt i)))).sz <= 1048576 /\ X.hs.length <= 1048576 /\ (Tr.list 6 X.nt (fun i => trs (aT (X.tl i)))).sz <= 1048576
  try simp only [szT_q, szT_a, szT_p, szT_d, szT_t, true_and]
  omega
 have HW : Hid (Below w.heap.size w W /\ Blk W B 61 (dL X a1 l1 c1 a2 l2 c2 a3 l3 c3 a4 l4 c4 a5 l5 c5).toArray /\ Blk W (B + 1) 61 pd0 /\ w.heap.size <= B /\ B + 2 <= W.heap.size /\ Rd W 0 (intsT X.q.ws) (.slice a1 l1 c1) /\ Rd W 0 (boolsT X.q.bs) (.slice a2 l2 c2) /\ Rd W 0 (ptsT X) (.slice a3 l3 c3) /\ Rd W 0 (boolsT X.hs) (.slice a4 l4 c4) /\ Rd W 0 (tlsT X) (.slice a5 l5 c5)) := ⟨bW, by rw [hW, hB]; exact (Blk.new w _ _).below (bel_alloc _ _), by rw [hW, hB]; have := Blk.new (w.alloc (.cells (dL X a1 l1 c1 a2 l2 c2 a3 l3 c3 a4 l4 c4 a5 l5 c5).toArray 61)) pd0 61; simpa using this, by omega, by rw [hW, hB]; simp, r1.below bW, r2.below bW, r3.below bW, r4.below bW, r5.below bW⟩
 have HR : Hid (Rd w 0 (ptsT X) (.slice a3 l3 c3) /\ Rd w 0 (tlsT X) (.slice a5 l5 c5)) := ⟨r3, r5⟩
 clear bW r1 r2 r3 r4 r5 hz
 go_enter Tryz.func35, Tryz.ntmps35
 go_upto_region 1 with fail
 rw [<- hW]
 have hB1 : w.heap.size + 1 = B + 1 := by omega
 rw [hB1, <- hB]
 clear hW hB hB1
 obtain ⟨⟨y0, y1, y2, y3, y4, y5, y6, y7, y8, y9, y10, y11, y12⟩, yf⟩ := HW.out.2.1.tc13
 clear yf
 go_cut [] (fun wx => CpA w B X l1 l2 l3 l4 l5 a3 a5 c3 c5 wx)
 case first =>
  go_region_with (first
   | (go_at_call 56; refine (copyReq_m X.q a1 l1 c1 a2 l2 c2 _ (HW.out.2.2.2.2.2.1.below (by first | exact Below.refl _ _ | exact (Below.refl _ _).drew | exact (Below.refl _ _).drew.drew)) (HW.out.2.2.2.2.2.2.1.below (by first | exact Below.refl _ _ | exact (Below.refl _ _).drew | exact (Below.refl _ _).drew.drew)) HZ.out.1).mono ?_; rintro e w1 ⟨b1, d1, b2, d2, rfl, O1', b1'⟩; have H1 : Hid (Below W.heap.size W w1 /\ Own1 w1 (B + 2) w1.heap.size (qT X.q) (qL X.q b1 l1 d1 b2 l2 d2)) := (by have b9 : Below W.heap.size W w1 := bel_nx (by first | exact Below.refl _ _ | exact (Below.refl _ _).drew | exact (Below.refl _ _).drew.drew) b1'; exact ⟨b9, O1'.mono HW.out.2.2.2.2.1 (Nat.le_refl _)⟩); clear O1' b1'; obtain ⟨⟨z0, z1, z2, z3, z4, z5, z6, z7, z8, z9, z10, z11, z12⟩, zf⟩ := (HW.out.2.1.below H1.out.1).tc13; clear zf)
   | (go_at_call 57; refine (copyBools_m X.hs a4 l4 c4 _ (HW.out.2.2.2.2.2.2.2.2.1.below (by first | exact H1.out.1 | exact H1.out.1.drew | exact H1.out.1.drew.drew)) HZ.out.2.2.1).mono ?_; rintro e w2 ⟨b4, d4, rfl, O2', b2'⟩; have H2 : Hid (Below W.heap.size W w2 /\ Own1 w2 (B + 2) w1.heap.size (qT X.q) (qL X.q b1 l1 d1 b2 l2 d2) /\ Own1 w2 w1.heap.size w2.heap.size [boolsT X.hs] [.slice b4 l4 d4] /\ B + 2 <= w1.heap.size /\ w1.heap.size <= w2.heap.size) := (by have b8 : Below w1.heap.size w1 w2 := bel_nx (by first | exact Below.refl _ _ | exact (Below.refl _ _).drew | exact (Below.refl _ _).drew.drew) b2'; have b9 := bel_nx H1.out.1 b8; exact ⟨b9, H1.out.2.below b8 (Nat.le_refl _), Own1.one O2', Nat.le_trans HW.out.2.2.2.2.1 H1.out.1.size, b8.size⟩); clear O2' b2'; obtain ⟨⟨x0, x1, x2, x3, x4, x5, x6, x7, x8, x9, x10, x11, x12⟩, xf⟩ := (HW.out.2.1.below H2.out.1).tc13; have xf4 := xf 4; have xf5 := xf 5; have xf6 := xf 6; have xf7 := xf 7; have xf8 := xf 8; have xf9 := xf 9; have xf11 := xf 11; clear xf))
  all_goals (go_wp2_with fail; go_meet; first | exact (cdA (HW.out.2.1.below H2.out.1) (HW.out.2.2.1.below H2.out.1) (bel_nx HW.out.1 H2.out.1) HW.out.2.2.2.1 H2.out.2.2.2.1 H2.out.2.2.2.2 H2.out.2.1 H2.out.2.2.1).1 | exact (cdA (HW.out.2.1.below H2.out.1) (HW.out.2.2.1.below H2.out.1) (bel_nx HW.out.1 H2.out.1) HW.out.2.2.2.1 H2.out.2.2.2.1 H2.out.2.2.2.2 H2.out.2.1 H2.out.2.2.1).2)
 case rest =>
 obtain ⟨b1, d1, b2, d2, b4, d4, m, X1, R1, q1, q2, q3, o1, o2⟩ := hcut
 rename World => u
 have HX : Hid (Blk u B 61 (dL X b1 l1 d1 b2 l2 d2 a3 l3 c3 b4 l4 d4 a5 l5 c5).toArray /\ Blk u (B + 1) 61 pd0 /\ Below w.heap.size w u /\ B + 2 <= m /\ m <= u.heap.size /\ Own1 u (B + 2) m (qT X.q) (qL X.q b1 l1 d1 b2 l2 d2) /\ Own1 u m u.heap.size [boolsT X.hs] [.slice b4 l4 d4] /\ Rd u 0 (ptsT X) (.slice a3 l3 c3) /\ Rd u 0 (tlsT X) (.slice a5 l5 c5)) := ⟨X1, R1, q1, q2, q3, o1, o2, HR.out.1.below q1, HR.out.2.below q1⟩
 clear X1 R1 q1 q2 q3 o1 o2 y0 y1 y2 y3 y4 y5 y6 y7 y8 y9 y10 y11 y12
 obtain ⟨⟨y0, y1, y2, y3, y4, y5, y6, y7, y8, y9, y10, y11, y12⟩, yf⟩ := HX.out.1.tc13
 clear yf
 go_upto_region 2 with fail
 go_cut [] (fun wx => CpB w B X l1 l2 l3 l4 l5 wx)
 case first =>
  go_region_with (first
   | (go_at_call 58; refine (copiesPart_m X.np X.pt a3 l3 c3 _ (HX.out.2.2.2.2.2.2.2.1.below (by first | exact Below.refl _ _ | exact (Below.refl _ _).drew | exact (Below.refl _ _).drew.drew)) HZ.out.2.1).mono ?_; rintro e w1 ⟨b3, d3, rfl, O1', b1'⟩; have H1 : Hid (Below u.heap.size u w1 /\ Own1 w1 u.heap.size w1.heap.size [ptsT X] [.slice b3 l3 d3]) := (by have b9 : Below u.heap.size u w1 := bel_nx (by first | exact Below.refl _ _ | exact (Below.refl _ _).drew | exact (Below.refl _ _).drew.drew) b1'; exact ⟨b9, Own1.one O1'⟩); clear O1' b1'; obtain ⟨⟨z0, z1, z2, z3, z4, z5, z6, z7, z8, z9, z10, z11, z12⟩, zf⟩ := (HX.out.1.below H1.out.1).tc13; clear zf)
   | (go_at_call 60; refine (copiesResp_m X.nt X.tl a5 l5 c5 _ (HX.out.2.2.2.2.2.2.2.2.below (by first | exact H1.out.1 | exact H1.out.1.drew | exact H1.out.1.drew.drew)) HZ.out.2.2.2).mono ?_; rintro e w2 ⟨b5, d5, rfl, O2', b2'⟩; have H2 : Hid (Below u.heap.size u w2 /\ Own1 w2 u.heap.size w1.heap.size [ptsT X] [.slice b3 l3 d3] /\ Own1 w2 w1.heap.size w2.heap.size [tlsT X] [.slice b5 l5 d5] /\ u.heap.size <= w1.heap.size /\ w1.heap.size <= w2.heap.size) := (by have b8 : Below w1.heap.size w1 w2 := bel_nx (by first | exact Below.refl _ _ | exact (Below.refl _ _).drew | exact (Below.refl _ _).drew.drew) b2'; have b9 := bel_nx H1.out.1 b8; exact ⟨b9, H1.out.2.below b8 (Nat.le_refl _), Own1.one O2', H1.out.1.size, b8.size⟩); clear O2' b2'; obtain ⟨⟨x0, x1, x2, x3, x4, x5, x6, x7, x8, x9, x10, x11, x12⟩, xf⟩ := (HX.out.1.below H2.out.1).tc13; have xf10 := xf 10; have xf12 := xf 12; clear xf))
  all_goals (go_wp2_with fail; go_meet; first | exact (cdB (HX.out.1.below H2.out.1) (HX.out.2.1.below H2.out.1) (bel_nx HX.out.2.2.1 H2.out.1) HW.out.2.2.2.1 HX.out.2.2.2.1 HX.out.2.2.2.2.1 H2.out.2.2.2.1 H2.out.2.2.2.2 (HX.out.2.2.2.2.2.1.below H2.out.1 HX.out.2.2.2.2.1) (HX.out.2.2.2.2.2.2.1.below H2.out.1 (Nat.le_refl _)) H2.out.2.1 H2.out.2.2.1).1 | exact (cdB (HX.out.1.below H2.out.1) (HX.out.2.1.below H2.out.1) (bel_nx HX.out.2.2.1 H2.out.1) HW.out.2.2.2.1 HX.out.2.2.2.1 HX.out.2.2.2.2.1 H2.out.2.2.2.1 H2.out.2.2.2.2 (HX.out.2.2.2.2.2.1.below H2.out.1 HX.out.2.2.2.2.1) (HX.out.2.2.2.2.2.2.1.below H2.out.1 (Nat.le_refl _)) H2.out.2.1 H2.out.2.2.1).2)
 case rest =>
 obtain ⟨b1, d1, b2, d2, b3, d3, b4, d4, b5, d5, m1, m2, m3, X1, R1, q1, q2, q3, q4, q5, o1, o2, o3, o4⟩ := hcut
 clear HX y0 y1 y2 y3 y4 y5 y6 y7 y8 y9 y10 y11 y12
 rename World => v
 obtain ⟨W9, hW9⟩ : ∃ W9, W9 = setL v (B + 1) 0 (dL X b1 l1 d1 b2 l2 d2 b3 l3 d3 b4 l4 d4 b5 l5 d5) := ⟨_, rfl⟩
 have H9 : Hid (Own1 W9 w.heap.size W9.heap.size (dT X) (dL X b1 l1 d1 b2 l2 d2 b3 l3 d3 b4 l4 d4 b5 l5 d5) /\ Below w.heap.size w W9 /\ Blk W9 (B + 1) 61 (dL X b1 l1 d1 b2 l2 d2 b3 l3 d3 b4 l4 d4 b5 l5 d5).toArray) := by
  have hg : v.grownBy W9 (some (B + 1)) := by rw [hW9]; exact setL_gw _ _ _
  have hs7 := hg.size
  have hbw := HW.out.2.2.2.1
  have p1 := o1.kept hg (by omega) (by omega)
  have p2 := o2.kept hg (by omega) (by omega)
  have p3 := o3.kept hg (by omega) (by omega)
  have p4 := o4.kept hg (by omega) (Nat.le_refl _)
  have j1 := p3.appD (lo := m1) (hi := m3) p2 (.inr (Nat.le_refl _)) (by omega) (by omega) (by omega) (by omega)
  have j2 := j1.app p4 (by omega) (by omega)
  have j3 := (p1.app j2 (by omega) (by omega)).mono (lo' := w.heap.size) (hi' := W9.heap.size) (by omega) (by omega)
  exact ⟨Own1.leaf (.int .i64 X.id) (Own1.leaf (.int .i64 X.so) (Own1.leaf (.int .i64 X.ta) (Own1.leaf (.int .i64 X.un) j3 (by omega)) (by omega)) (by omega)) (by omega), by rw [hW9]; exact setL_below (by omega) _ _ _ q1, by rw [hW9, show (dL X b1 l1 d1 b2 l2 d2 b3 l3 d3 b4 l4 d4 b5 l5 d5).toArray = wrA pd0 0 (dL X b1 l1 d1 b2 l2 d2 b3 l3 d3 b4 l4 d4 b5 l5 d5) from (by simp [wrA])]; exact Blk.stL _ _ R1⟩
 have hr := X1.all
 have ht := R1.there 0 13 (by simp)
 clear X1 R1 q1 q2 q3 q4 q5 o1 o2 o3 o4 HW
 go_upto_region 3 with fail
 refine wp_region_lit ?_
 refine wpList_load_mid rfl 61 (.tmp 1) rfl B 0 rfl (dL X b1 l1 d1 b2 l2 d2 b3 l3 d3 b4 l4 d4 b5 l5 d5) _ hr Tryz.underlying61 rfl (by kernel_rfl) ?_
 refine wpList_store_mid rfl 61 (.tmp 2) (.tmp 19) rfl (B + 1) 0 (dL X b1 l1 d1 b2 l2 d2 b3 l3 d3 b4 l4 d4 b5 l5 d5).toArray rfl rfl ht (by kernel_rfl) (by simp [Value.oneCell']) ?_
 rw [setCells_L, <- hW9]
 clear hW9 hr ht
 refine wpList_nil ?_
 go_wp2
 obtain ⟨⟨y0, y1, y2, y3, y4, y5, y6, y7, y8, y9, y10, y11, y12⟩, yf⟩ := H9.out.2.2.tc13
 refine bodyPost_ret (v := .agg (dL X b1 l1 d1 b2 l2 d2 b3 l3 d3 b4 l4 d4 b5 l5 d5).toArray) (by simp [results, Tryz.results35, go_sem, y0, y1, y2, y3, y4, y5, y6, y7, y8, y9, y10, y11, y12]) rfl ⟨b1, d1, b2, d2, b3, d3, b4, d4, b5, d5, rfl, H9.out.1, H9.out.2.1⟩
end Go.Proofs.YtlhjiiifmfgnoaaGreat
