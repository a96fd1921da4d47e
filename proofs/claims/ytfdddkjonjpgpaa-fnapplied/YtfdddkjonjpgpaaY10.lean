/- Texts that the proof needs, joined: Mk0 Mk1 Mk4 Tr5 RgV RgW RgX RgY RgZ Ap0 Ap2 Ap8 Cur1 Cur2 Cur3 WordAt1 PutWord1 Marks2 R1 R2 R3 R4 G1 Unp1 Unp2. -/
import Derived.Test.YtfdddkjonjpgpaaY8
import Derived.Test.YtfdddkjonjpgpaaY9
import Derived.Below
import Derived.Deep.MidRow
import Derived.Deep.Upon
import Derived.Laws.OwnMore
import Derived.Test.YtfdddkjonjpgpaaY1
import Derived.LoopN
import Derived.Lib.AppendZerosOnto
import Derived.Lib.SliceRun
import Derived.Lib.Walk
import Derived.Test.YtfdddkjonjpgpaaY3
import Derived.Deep.RegionWith
import Derived.Deep.RegionHeld3
import Derived.Test.YtfdddkjonjpgpaaY4
import Derived.Test.YtfdddkjonjpgpaaY7
namespace Go.Proofs.Ytfdddkjonjpgpaa
open Go.RowKit Go.Joins
set_option linter.unusedVariables false
set_option linter.unusedSimpArgs false
inductive Sk where
  | leaf
  | row (g off s n : Nat) (K : Nat → Nat → Sk)
def Sk.bl : Sk → Nat → Prop
  | .leaf, _ => False
  | .row g _ s n K, b => b = g ∨ ∃ k j, k < n ∧ j < s ∧ (K k j).bl b
def Sk.ok : Sk → Prop
  | .leaf => True
  | .row g _ s n K => (∀ k j, k < n → j < s → (K k j).ok ∧ ¬ (K k j).bl g) ∧ ∀ k j k' j', k < n → j < s → k' < n → j' < s → (k ≠ k' ∨ j ≠ j') → ∀ b, (K k j).bl b → ¬ (K k' j').bl b
def Fit (w : World) : Tr → Sk → Value → Prop
  | .leaf u, K, v => K = .leaf ∧ v = u
  | .list s n f, .leaf, v => n = 0 ∧ ∃ a c, v = .slice a 0 c
  | .list s n f, .row g off s' n' K, v => s' = s ∧ n' = n ∧ ∃ c, v = .slice (some ⟨g, off, none⟩) n c ∧ n ≤ c ∧ n ≤ maxLen ∧ g < w.heap.size ∧ (∀ j, w.frozen? ⟨g, j, none⟩ = false) ∧
      ∀ k j, k < n → j < s → ∃ u, w.cell? ⟨g, off + k * s + j, none⟩ = some u ∧ Fit w (f k j) (K k j) u
structure Cg (w w' : World) (S : Nat → Prop) : Prop where
  os : w'.os = w.os
  tape : w'.tape = w.tape
  output : w'.output = w.output
  size : w.heap.size ≤ w'.heap.size
  block : ∀ g, g < w.heap.size → ¬ S g → w'.heap[g]? = w.heap[g]?
theorem Cg.refl (w : World) (S : Nat → Prop) : Cg w w S := ⟨rfl, rfl, rfl, Nat.le_refl _, fun _ _ _ => rfl⟩
theorem Cg.trans {a b c : World} {S : Nat → Prop} (h : Cg a b S) (k : Cg b c S) : Cg a c S :=
  ⟨k.os.trans h.os, k.tape.trans h.tape, k.output.trans h.output, Nat.le_trans h.size k.size, fun g hg hn => (k.block g (Nat.lt_of_lt_of_le hg h.size) hn).trans (h.block g hg hn)⟩
theorem Cg.ofBelow {w w' : World} {S : Nat → Prop} (h : Below w.heap.size w w') : Cg w w' S := ⟨h.os, h.tape, h.output, h.size, fun g hg _ => h.block g hg⟩
theorem Cg.set {w w' : World} {S : Nat → Prop} (h : Cg w w' S) {p : Addr} (hp : S p.block) (u : Value) : Cg w (w'.setCell p u) S :=
  h.trans ⟨rfl, rfl, rfl, by simp [World.setCell], fun g hg hn => Below.heap_setCell _ _ _ _ (fun e => hn (by rw [e]; exact hp))⟩
theorem Cg.below {B : Nat} {W w w' : World} {S : Nat → Prop} (hb : Below B W w) (hc : Cg w w' S) (hs : ∀ g, S g → B ≤ g) (hB : B ≤ w.heap.size) : Below B W w' :=
  hb.trans ⟨hc.os, hc.tape, hc.output, hc.size, fun k hk => hc.block k (by omega) (fun q => by have := hs k q; omega)⟩
def atZ (z : Nat) (L : List Tr) (T0 : Nat → Nat → Tr) : Nat → Nat → Tr := fun i => if i = z then trs L else T0 i
end Go.Proofs.Ytfdddkjonjpgpaa
namespace Go.Proofs.Ytfdddkjonjpgpaa
open Go.RowKit Go.Joins
set_option linter.unusedVariables false
set_option linter.unusedSimpArgs false
def ctVQ (X : VQ) : Nat := 1 + 1 + 1 + X.ws.length + X.bs.length + 1
def nmVQ (k : Nat) (X : VQ) : VQ := ⟨((k : Nat) : Int), ((k + 1 : Nat) : Int), ((k + 1 + 1 : Nat) : Int), marksI (k + 1 + 1 + 1) X.ws.length, marksB (k + 1 + 1 + 1 + X.ws.length) X.bs.length, ((k + 1 + 1 + 1 + X.ws.length + X.bs.length : Nat) : Int)⟩
def ctVA (X : VA) : Nat := 1 + 1 + 1 + 1 + X.ws.length + X.bs.length
def nmVA (k : Nat) (X : VA) : VA := ⟨((k : Nat) : Int), ((k + 1 : Nat) : Int), ((k + 1 + 1 : Nat) : Int), ((k + 1 + 1 + 1 : Nat) : Int), marksI (k + 1 + 1 + 1 + 1) X.ws.length, marksB (k + 1 + 1 + 1 + 1 + X.ws.length) X.bs.length⟩
def ctVP (X : VP) : Nat := 1 + 1 + ctVQ X.q
def nmVP (k : Nat) (X : VP) : VP := ⟨((k : Nat) : Int), ((k + 1 : Nat) : Int), nmVQ (k + 1 + 1) X.q⟩
def ctVD (X : VD) : Nat := 1 + 1 + 1 + 1 + ctVQ X.q + sumN X.np (fun i => ctVP (X.pt i)) + X.hs.length + sumN X.nt (fun i => ctVA (X.tl i))
def nmVD (k : Nat) (X : VD) : VD := ⟨((k : Nat) : Int), ((k + 1 : Nat) : Int), ((k + 1 + 1 : Nat) : Int), ((k + 1 + 1 + 1 : Nat) : Int), nmVQ (k + 1 + 1 + 1 + 1) X.q, X.np, fun i => nmVP (k + 1 + 1 + 1 + 1 + ctVQ X.q + sumN i (fun i => ctVP (X.pt i))) (X.pt i), marksB (k + 1 + 1 + 1 + 1 + ctVQ X.q + sumN X.np (fun i => ctVP (X.pt i))) X.hs.length, X.nt, fun i => nmVA (k + 1 + 1 + 1 + 1 + ctVQ X.q + sumN X.np (fun i => ctVP (X.pt i)) + X.hs.length + sumN i (fun i => ctVA (X.tl i))) (X.tl i)⟩
def ctVT (X : VT) : Nat := 1 + sumN X.m (fun i => ctVD (X.f i))
def nmVT (k : Nat) (X : VT) : VT := ⟨((k : Nat) : Int), X.m, fun i => nmVD (k + 1 + sumN i (fun i => ctVD (X.f i))) (X.f i)⟩
end Go.Proofs.Ytfdddkjonjpgpaa
namespace Go.Proofs.Ytfdddkjonjpgpaa
open Go.RowKit Go.Joins
set_option linter.unusedVariables false
set_option linter.unusedSimpArgs false
def OwnS (w : World) (lo : Nat) (t : Tr) (v : Value) : Prop := ∃ K, Fit w t K v ∧ K.ok ∧ ∀ b, K.bl b → lo ≤ b
def Own1 (w : World) (lo hi : Nat) (ts : List Tr) (vs : List Value) : Prop :=
  ∃ K : Nat → Sk, vs.length = ts.length ∧ (∀ i v, vs[i]? = some v → Fit w (trs ts i) (K i) v) ∧ (∀ i, i < ts.length → (K i).ok ∧ ∀ b, (K i).bl b → lo ≤ b ∧ b < hi) ∧ ∀ i i', i < ts.length → i' < ts.length → i ≠ i' → ∀ b, (K i).bl b → ¬ (K i').bl b
def LsI (w : World) (g : Nat) (t : TypeId) (s n : Nat) (f : Nat → List Tr) (k : Nat) : Prop :=
  ∃ (F : Nat → List Value) (β : Nat → Nat), RowS w g t s n F ∧ g < β 0 ∧ (∀ j, β j ≤ β (j + 1)) ∧ β k ≤ w.heap.size ∧ ∀ j, j < k → (F j).length = s ∧ Own1 w (β j) (β (j + 1)) (f j) (F j)
end Go.Proofs.Ytfdddkjonjpgpaa
namespace Go.Proofs.Ytfdddkjonjpgpaa
open Go.RowKit Go.Joins
set_option linter.unusedVariables false
set_option linter.unusedSimpArgs false
end Go.Proofs.Ytfdddkjonjpgpaa
namespace Go.Proofs.Ytfdddkjonjpgpaa
open Go.RowKit
def dstOf (ops : Array Oper) (i : Nat) : Option Tmp := (ops[i]?).bind (·.dst)
def dstB (ops : Array Oper) (n : Nat) : Bool :=
  (List.range ops.size).all fun i => match dstOf ops i with
    | some d => decide (d < n) && (List.range ops.size).all fun j => decide (j = i) || decide (dstOf ops j ≠ some d)
    | none => false
def isDst (ops : Array Oper) (s : Nat) : Bool := (List.range ops.size).any fun i => decide (dstOf ops i = some s)
def putsL (a : Act) : Nat → List Oper → (Nat → Value) → Act
  | _, [], _ => a
  | i, o :: os, vs => putsL (a.put o.dst (vs i)) (i + 1) os vs
def wantV (ops : Array Oper) (o : Oper) (ρ : Operand → Value) : Bool :=
  match o.guard with
  | none => true
  | some (j, want) => match dstOf ops j with
    | some d => (match ρ (.tmp d) with | .bool b => b == want | _ => false)
    | none => false
def StpV (P : Program) (ops : Array Oper) (Φ : Nat → Value → World → Prop) (R : World → Prop) (i : Nat) (o : Oper) (ρ : Operand → Value) (u : World) : Prop :=
  (wantV ops o ρ = true ∧ ((∃ v u', (execOp ρ o).run P u = .ok (.value v) u' ∧ Φ i v u' ∧ R u' ∧ Below u.heap.size u u') ∨ (∃ f args, (execOp ρ o).run P u = .ok (.enter f args) u ∧ Calls P f args u fun e u' => ∃ v, e = .returned v ∧ Φ i v u' ∧ R u' ∧ Below u.heap.size u u')))
  ∨ (wantV ops o ρ = false ∧ Φ i undef u)
structure InvV (ops : Array Oper) (Φ : Nat → Value → World → Prop) (R : World → Prop) (a0 : Act) (l : Array Bool) (a : Act) (u : World) : Prop where
  r : R u
  ls : l.size = ops.size
  df : a.defers = a0.defers
  sz : a.tmps.size = a0.tmps.size
  old : ∀ s, (∀ i d, dstOf ops i = some d → l.getD i false = true → d ≠ s) → a.tmps.getD s undef = a0.tmps.getD s undef
  val : ∀ i d, dstOf ops i = some d → l.getD i false = true → Φ i (a.tmps.getD d undef) u
theorem dstB_of {ops : Array Oper} {n : Nat} (h : dstB ops n = true) {i : Nat} (hi : i < ops.size) : ∃ d, dstOf ops i = some d ∧ d < n ∧ ∀ j, j < ops.size → dstOf ops j = some d → j = i := by
  unfold dstB at h
  rw [List.all_eq_true] at h
  have h1 := h i (List.mem_range.2 hi)
  cases hd : dstOf ops i with
  | none => rw [hd] at h1; cases h1
  | some d =>
    rw [hd] at h1
    simp only [Bool.and_eq_true, decide_eq_true_eq, List.all_eq_true, Bool.or_eq_true] at h1
    refine ⟨d, rfl, h1.1, fun j hj e => ?_⟩
    rcases h1.2 j (List.mem_range.2 hj) with h2 | h2
    · exact h2
    · exact absurd e h2
theorem getD_set {l : Array Bool} {i j : Nat} (hi : i < l.size) : (l.setIfInBounds i true).getD j false = if j = i then true else l.getD j false := by
  simp only [Array.getD_eq_getD_getElem?, Array.getElem?_setIfInBounds]
  by_cases e : j = i
  · subst e; simp [hi]
  · rw [if_neg (Ne.symm e), if_neg e]
theorem getD_put {a : Act} {d s : Nat} {v : Value} (hd : d < a.tmps.size) : (a.put (some d) v).tmps.getD s undef = if s = d then v else a.tmps.getD s undef := by
  show (a.tmps.setIfInBounds d v).getD s undef = _
  simp only [Array.getD_eq_getD_getElem?, Array.getElem?_setIfInBounds]
  by_cases e : s = d
  · subst e; simp [hd]
  · rw [if_neg (Ne.symm e), if_neg e]
theorem InvV.next {ops : Array Oper} {Φ : Nat → Value → World → Prop} {R : World → Prop} {a0 : Act} {l : Array Bool} {a : Act} {u u' : World} (h : InvV ops Φ R a0 l a u) (hB : dstB ops a0.tmps.size = true)
    (hmono : ∀ i v u u', Φ i v u → Below u.heap.size u u' → Φ i v u') {i : Nat} {o : Oper} (ho : ops[i]? = some o) {v : Value} (hv : Φ i v u') (hr : R u') (hb : Below u.heap.size u u') :
    InvV ops Φ R a0 (l.setIfInBounds i true) (a.put o.dst v) u' := by
  have hi : i < ops.size := (Array.getElem?_eq_some_iff.1 ho).1
  obtain ⟨d, hd, hlt, hun⟩ := dstB_of hB hi
  have hod : o.dst = some d := by simpa [dstOf, ho] using hd
  rw [hod]
  have hlt' : d < a.tmps.size := by rw [h.sz]; exact hlt
  have hil : i < l.size := by rw [h.ls]; exact hi
  refine ⟨hr, by simpa using h.ls, h.df, by simpa [Act.put] using h.sz, fun s hs => ?_, fun j e hj hl => ?_⟩
  · have hne : d ≠ s := hs i d hd (by rw [getD_set hil, if_pos rfl])
    rw [getD_put hlt', if_neg (Ne.symm hne)]
    exact h.old s (fun j e hj hl => hs j e hj (by rw [getD_set hil]; split; rfl; exact hl))
  · have hjs : j < ops.size := by
      cases hoj : ops[j]? with
      | none => rw [dstOf, hoj] at hj; cases hj
      | some o' => exact (Array.getElem?_eq_some_iff.1 hoj).1
    rw [getD_put hlt']
    by_cases e1 : e = d
    · subst e1
      obtain rfl := hun j hjs hj
      rw [if_pos rfl]
      exact hv
    · rw [if_neg e1]
      have e2 : j ≠ i := fun e2 => by subst e2; rw [hd] at hj; exact e1 (Option.some.inj hj).symm
      rw [getD_set hil, if_neg e2] at hl
      exact hmono _ _ _ _ (h.val j e hj hl) hb
theorem putsL_eq {a : Act} : ∀ (os : List Oper) (k : Nat) (a' : Act) (vs : Nat → Value), a'.defers = a.defers → a'.tmps.size = a.tmps.size → (∀ (j : Nat) (o : Oper) (d : Nat), os[j]? = some o → o.dst = some d → vs (k + j) = a.tmps.getD d undef) →
    (∀ s, a'.tmps.getD s undef = a.tmps.getD s undef ∨ ∃ (j : Nat) (o : Oper), os[j]? = some o ∧ o.dst = some s) → (∀ (j : Nat) (o : Oper), os[j]? = some o → ∃ d, o.dst = some d ∧ d < a.tmps.size) → putsL a' k os vs = a
  | [], k, a', vs, h1, h2, _, h4, _ => by
    have e : a'.tmps = a.tmps := by
      apply Array.ext h2
      intro i hi1 hi2
      rcases h4 i with h | ⟨j, o, h, _⟩
      · simpa [Array.getD, hi1, hi2] using h
      · simp at h
    cases a'; cases a
    simp only at e h1
    subst e h1
    rfl
  | o :: os, k, a', vs, h1, h2, h3, h4, h5 => by
    obtain ⟨d, hd, hlt⟩ := h5 0 o rfl
    show putsL (a'.put o.dst (vs k)) (k + 1) os vs = a
    rw [hd]
    refine putsL_eq os (k + 1) _ vs h1 (by simpa [Act.put] using h2) (fun j o' d' ho hd' => by rw [show k + 1 + j = k + (j + 1) by omega]; exact h3 (j + 1) o' d' (by simpa using ho) hd') (fun s => ?_) (fun j o' ho => h5 (j + 1) o' (by simpa using ho))
    rw [getD_put (by rw [h2]; exact hlt)]
    by_cases e : s = d
    · subst e
      rw [if_pos rfl]
      exact .inl (by simpa using h3 0 o s rfl hd)
    · rw [if_neg e]
      rcases h4 s with h | ⟨j, o', ho, hd'⟩
      · exact .inl h
      · cases j with
        | zero => simp at ho; subst ho; rw [hd] at hd'; exact absurd (Option.some.inj hd').symm e
        | succ j => exact .inr ⟨j, o', by simpa using ho, hd'⟩
theorem wanted_eq {ops : Array Oper} {a : Act} {o : Oper} (h : ∀ j d, dstOf ops j = some d → d < a.tmps.size) : Region.wanted o (yielded ops a.tmps) = wantV ops o a.eval := by
  unfold Region.wanted wantV
  cases o.guard with
  | none => rfl
  | some p =>
    obtain ⟨j, want⟩ := p
    have hy : yielded ops a.tmps j = match dstOf ops j with
        | some d => (match a.eval (.tmp d) with | .bool b => some b | _ => none)
        | none => none := by
      unfold yielded dstOf
      cases hd : (ops[j]?).bind (·.dst) with
      | none => rfl
      | some d =>
        have hlt := h j d hd
        have e : (some d).bind (fun t => a.tmps[t]?) = some (a.eval (.tmp d)) := by
          show a.tmps[d]? = some (a.tmps.getD d undef)
          simp [Array.getD, hlt]
        rw [e]
        simp only
        generalize a.eval (.tmp d) = x
        cases x <;> rfl
    show (yielded ops a.tmps j == some want) = (match dstOf ops j with
      | some d => (match a.eval (.tmp d) with | .bool b => b == want | _ => false)
      | none => false)
    rw [hy]
    cases dstOf ops j with
    | none => rfl
    | some d =>
      simp only
      generalize a.eval (.tmp d) = x
      cases x <;> simp
theorem wpAny_vals {P : Program} {ops : Array Oper} {Q : Exit → Act → World → Prop} {md : Region.Mode} {a0 : Act} {w0 : World} (R : World → Prop) (Φ : Nat → Value → World → Prop)
    (hordB : ordB md ops = true) (hB : dstB ops a0.tmps.size = true) (hmono : ∀ i v u u', Φ i v u → Below u.heap.size u u' → Φ i v u') (h0 : R w0)
    (hend : ∀ (vs : Nat → Value) u, R u → (∀ i, i < ops.size → Φ i (vs i) u) → Q .normal (putsL a0 0 ops.toList vs) u)
    (hstep : ∀ u i o (ρ : Operand → Value), R u → ops[i]? = some o → (∀ s, isDst ops s = false → ρ (.tmp s) = a0.eval (.tmp s)) → (∀ v, ρ (.const v) = v) → (∀ f, ρ (.func f) = .func (.func f) #[] #[]) →
      (∀ e ∈ o.after, Region.binds md e = true → ∀ d, dstOf ops e.on = some d → Φ e.on (ρ (.tmp d)) u) → StpV P ops Φ R i o ρ u)
    (fuel : Nat) (l : Array Bool) (hs : l.size = ops.size) (hc : l.toList.count false ≤ fuel) (hl : ∀ i, l.getD i false = false) : wpAny P md ops Q fuel l a0 w0 := by
  refine wpAny_inv (InvV ops Φ R a0) hordB ?_ ?_ fuel l a0 w0 hs hc ?_
  · intro l a u h hall
    have hall' : ∀ i, i < ops.size → l.getD i false = true := fun i hi => by rw [getD_eq (by rw [h.ls]; exact hi) false true]; exact hall i hi
    have e : putsL a0 0 ops.toList (fun i => a.tmps.getD ((dstOf ops i).getD 0) undef) = a := by
      refine putsL_eq ops.toList 0 a0 _ h.df.symm h.sz.symm (fun j o d ho hd => ?_) (fun s => ?_) (fun j o ho => ?_)
      · rw [Nat.zero_add]
        have : dstOf ops j = some d := by rw [Array.getElem?_toList] at ho; simp [dstOf, ho, hd]
        show a.tmps.getD ((dstOf ops j).getD 0) undef = _
        rw [this]; rfl
      · by_cases hx : ∃ j d, dstOf ops j = some d ∧ l.getD j false = true ∧ d = s
        · obtain ⟨j, d, hd, _, rfl⟩ := hx
          right
          unfold dstOf at hd
          cases ho : ops[j]? with
          | none => rw [ho] at hd; cases hd
          | some o => rw [ho] at hd; exact ⟨j, o, by rw [Array.getElem?_toList]; exact ho, hd⟩
        · left
          exact (h.old s (fun i d hd hl e => hx ⟨i, d, hd, hl, e⟩)).symm
      · rw [Array.getElem?_toList] at ho
        have hi : j < ops.size := (Array.getElem?_eq_some_iff.1 ho).1
        obtain ⟨d, hd, hlt, _⟩ := dstB_of hB hi
        exact ⟨d, by simpa [dstOf, ho] using hd, by rw [h.sz]; exact hlt⟩
    rw [← e]
    refine hend _ u h.r (fun i hi => ?_)
    obtain ⟨d, hd, _, _⟩ := dstB_of hB hi
    show Φ i (a.tmps.getD ((dstOf ops i).getD 0) undef) u
    rw [hd]
    exact h.val i d hd (hall' i hi)
  · intro l a u i o h ho hli hdep K hK
    have hi : i < ops.size := (Array.getElem?_eq_some_iff.1 ho).1
    have hin : ∀ j d, dstOf ops j = some d → j < ops.size := fun j d hj => by
      unfold dstOf at hj
      cases hoj : ops[j]? with
      | none => rw [hoj] at hj; cases hj
      | some o' => exact (Array.getElem?_eq_some_iff.1 hoj).1
    have hw : Region.wanted o (yielded ops a.tmps) = wantV ops o a.eval := wanted_eq (fun j d hj => by
      obtain ⟨d', hd', hlt, _⟩ := dstB_of hB (hin j d hj)
      rw [hj] at hd'
      rw [h.sz, Option.some.inj hd']; exact hlt)
    have hst := hstep u i o a.eval h.r ho (fun s hns => by
      refine h.old s (fun j d hj _ e => ?_)
      subst e
      have : isDst ops d = true := by
        unfold isDst
        rw [List.any_eq_true]
        exact ⟨j, List.mem_range.2 (hin j d hj), by simp [hj]⟩
      rw [this] at hns; cases hns) (fun _ => rfl) (fun _ => rfl) (fun e he hb d hd => h.val e.on d hd (hdep e he hb))
    rcases hst with ⟨hwt, ⟨v, u', hrun, hv, hr, hbl⟩ | ⟨f, args, hrun, hcall⟩⟩ | ⟨hwf, hv⟩
    · rw [if_pos (by rw [hw]; exact hwt)]
      unfold Oper.wp
      rw [hrun]
      exact hK _ _ (h.next hB hmono ho hv hr hbl)
    · rw [if_pos (by rw [hw]; exact hwt)]
      unfold Oper.wp
      rw [hrun, Oper.upon_enter]
      refine hcall.mono ?_
      rintro e u' ⟨v, rfl, hv, hr, hbl⟩
      exact hK _ _ (h.next hB hmono ho hv hr hbl)
    · rw [if_neg (by rw [hw, hwf]; decide)]
      exact hK _ _ (h.next hB hmono ho hv h.r (Below.refl _ _))
  · exact ⟨h0, hs, rfl, rfl, fun _ _ => rfl, fun i d _ hl' => by rw [hl i] at hl'; cases hl'⟩
end Go.Proofs.Ytfdddkjonjpgpaa
namespace Go.Proofs.Ytfdddkjonjpgpaa
open Go.RowKit
theorem run_load_op {P : Program} {ρ : Operand → Value} {o : Oper} {u : World} {t : TypeId} {p : Operand} {ptr v : Value} (ho : o.op = .load t p) (hp : ρ p = ptr) (hr : (Instr.loadAt t ptr).run P u = .ok v u) : (execOp ρ o).run P u = .ok (.value v) u := by
  unfold execOp
  simp only [ho, hp]
  rw [Sem.run_bind, hr]
  rfl
theorem run_call_op {P : Program} {ρ : Operand → Value} {o : Oper} {u : World} {f : FuncId} {xs : Array Operand} {ts : Array TypeId} {args : Array Value} (ho : o.op = .call ⟨.value (.func f), xs, ts⟩) (hf : ρ (.func f) = .func (.func f) #[] #[]) (hx : xs.map ρ = args)
    (hc : (callFunc f args).run P u = .ok (.enter f args) u) : (execOp ρ o).run P u = .ok (.enter f args) u := by
  unfold execOp
  simp only [ho, resolve, hf, hx]
  show (callFunc f ((#[] ++ args) ++ #[])).run P u = _
  simpa using hc
end Go.Proofs.Ytfdddkjonjpgpaa
namespace Go.Proofs.Ytfdddkjonjpgpaa
open Go.RowKit
def dstC (ops : Array Oper) (n : Nat) : Bool :=
  (List.range ops.size).all fun i => match dstOf ops i with
    | some d => decide (d < n) && (List.range ops.size).all fun j => decide (j = i) || decide (dstOf ops j ≠ some d)
    | none => true
def updB (l : Nat → Bool) (i : Nat) : Nat → Bool := fun j => if j = i then true else l j
def StpW (P : Program) (ops : Array Oper) (Φ : Nat → Value → World → Prop) (R : World → Prop) (M : World → World → Prop) (i : Nat) (o : Oper) (ρ : Operand → Value) (u : World) : Prop :=
  (wantV ops o ρ = true ∧ ((∃ v u', (execOp ρ o).run P u = .ok (.value v) u' ∧ Φ i v u' ∧ R u' ∧ M u u') ∨ (∃ f args, (execOp ρ o).run P u = .ok (.enter f args) u ∧ Calls P f args u fun e u' => ∃ v, e = .returned v ∧ Φ i v u' ∧ R u' ∧ M u u') ∨ (o.dst = none ∧ ∃ u', (execOp ρ o).run P u = .ok .skip u' ∧ R u' ∧ M u u')))
  ∨ (wantV ops o ρ = false ∧ Φ i undef u ∧ R u)
structure InvW (md : Region.Mode) (ops : Array Oper) (Φ : Nat → Value → World → Prop) (R : (Nat → Bool) → World → Prop) (a0 : Act) (l : Array Bool) (a : Act) (u : World) : Prop where
  r : R (fun i => l.getD i false) u
  ls : l.size = ops.size
  df : a.defers = a0.defers
  sz : a.tmps.size = a0.tmps.size
  old : ∀ s, (∀ i d, dstOf ops i = some d → l.getD i false = true → d ≠ s) → a.tmps.getD s undef = a0.tmps.getD s undef
  val : ∀ i d, dstOf ops i = some d → l.getD i false = true → Φ i (a.tmps.getD d undef) u
  cl : ∀ i o, ops[i]? = some o → l.getD i false = true → ∀ e ∈ o.after, Region.binds md e = true → l.getD e.on false = true
theorem dstC_of {ops : Array Oper} {n : Nat} (h : dstC ops n = true) {i : Nat} (hi : i < ops.size) {d : Nat} (hd : dstOf ops i = some d) : d < n ∧ ∀ j, j < ops.size → dstOf ops j = some d → j = i := by
  unfold dstC at h
  rw [List.all_eq_true] at h
  have h1 := h i (List.mem_range.2 hi)
  rw [hd] at h1
  simp only [Bool.and_eq_true, decide_eq_true_eq, List.all_eq_true, Bool.or_eq_true] at h1
  refine ⟨h1.1, fun j hj e => ?_⟩
  rcases h1.2 j (List.mem_range.2 hj) with h2 | h2
  · exact h2
  · exact absurd e h2
theorem dstOf_lt {ops : Array Oper} {j d : Nat} (hj : dstOf ops j = some d) : j < ops.size := by
  unfold dstOf at hj
  cases hoj : ops[j]? with
  | none => rw [hoj] at hj; cases hj
  | some o' => exact (Array.getElem?_eq_some_iff.1 hoj).1
theorem getD_upd {l : Array Bool} {i : Nat} (hi : i < l.size) : (fun j => (l.setIfInBounds i true).getD j false) = updB (fun j => l.getD j false) i := by
  funext j
  exact getD_set hi
theorem putsL_eqW {a : Act} : ∀ (os : List Oper) (k : Nat) (a' : Act) (vs : Nat → Value), a'.defers = a.defers → a'.tmps.size = a.tmps.size → (∀ (j : Nat) (o : Oper) (d : Nat), os[j]? = some o → o.dst = some d → vs (k + j) = a.tmps.getD d undef) →
    (∀ s, a'.tmps.getD s undef = a.tmps.getD s undef ∨ ∃ (j : Nat) (o : Oper), os[j]? = some o ∧ o.dst = some s) → (∀ (j : Nat) (o : Oper) (d : Nat), os[j]? = some o → o.dst = some d → d < a.tmps.size) → putsL a' k os vs = a
  | [], k, a', vs, h1, h2, _, h4, _ => by
    have e : a'.tmps = a.tmps := by
      apply Array.ext h2
      intro i hi1 hi2
      rcases h4 i with h | ⟨j, o, h, _⟩
      · simpa [Array.getD, hi1, hi2] using h
      · simp at h
    cases a'; cases a
    simp only at e h1
    subst e h1
    rfl
  | o :: os, k, a', vs, h1, h2, h3, h4, h5 => by
    show putsL (a'.put o.dst (vs k)) (k + 1) os vs = a
    have h3' : ∀ (j : Nat) (o : Oper) (d : Nat), os[j]? = some o → o.dst = some d → vs (k + 1 + j) = a.tmps.getD d undef := fun j o' d' ho hd' => by rw [show k + 1 + j = k + (j + 1) by omega]; exact h3 (j + 1) o' d' (by simpa using ho) hd'
    have h5' : ∀ (j : Nat) (o : Oper) (d : Nat), os[j]? = some o → o.dst = some d → d < a.tmps.size := fun j o' d' ho hd' => h5 (j + 1) o' d' (by simpa using ho) hd'
    cases hd : o.dst with
    | none =>
      refine putsL_eqW os (k + 1) _ vs h1 h2 h3' (fun s => ?_) h5'
      rcases h4 s with h | ⟨j, o', ho, hd'⟩
      · exact .inl h
      · cases j with
        | zero => simp at ho; subst ho; rw [hd] at hd'; cases hd'
        | succ j => exact .inr ⟨j, o', by simpa using ho, hd'⟩
    | some d =>
      have hlt := h5 0 o d rfl hd
      refine putsL_eqW os (k + 1) _ vs h1 (by simpa [Act.put] using h2) h3' (fun s => ?_) h5'
      rw [getD_put (by rw [h2]; exact hlt)]
      by_cases e : s = d
      · subst e
        rw [if_pos rfl]
        exact .inl (by simpa using h3 0 o s rfl hd)
      · rw [if_neg e]
        rcases h4 s with h | ⟨j, o', ho, hd'⟩
        · exact .inl h
        · cases j with
          | zero => simp at ho; subst ho; rw [hd] at hd'; exact absurd (Option.some.inj hd').symm e
          | succ j => exact .inr ⟨j, o', by simpa using ho, hd'⟩
theorem run_index_op {P : Program} {ρ : Operand → Value} {o : Oper} {u : World} {t : TypeId} {x y : Operand} {a b v : Value} (ho : o.op = .indexAddr t x y) (ha : ρ x = a) (hb : ρ y = b) (hr : (Instr.indexAt t a b).run P u = .ok v u) : (execOp ρ o).run P u = .ok (.value v) u := by
  unfold execOp
  simp only [ho, ha, hb]
  rw [Sem.run_bind, hr]
  rfl
theorem run_store_op {P : Program} {ρ : Operand → Value} {o : Oper} {u u' : World} {t : TypeId} {x y : Operand} {a b : Value} (ho : o.op = .store t x y) (ha : ρ x = a) (hb : ρ y = b) (hr : (Instr.storeAt t a b).run P u = .ok () u') : (execOp ρ o).run P u = .ok .skip u' := by
  unfold execOp
  simp only [ho, ha, hb]
  rw [Sem.run_bind, hr]
  rfl
theorem run_un_op {P : Program} {ρ : Operand → Value} {o : Oper} {u : World} {op : UnOp} {t : TypeId} {x : Operand} {a v : Value} (ho : o.op = .unOp op t x) (ha : ρ x = a) (hr : (Op.unary op a).run P u = .ok v u) : (execOp ρ o).run P u = .ok (.value v) u := by
  unfold execOp
  simp only [ho, ha]
  rw [Sem.run_bind, hr]
  rfl
end Go.Proofs.Ytfdddkjonjpgpaa
namespace Go.Proofs.Ytfdddkjonjpgpaa
open Go.RowKit
def updS (σ : Nat → Value) (od : Option Nat) (v : Value) : Nat → Value := match od with
  | some d => fun s => if s = d then v else σ s
  | none => σ
def StpY (P : Program) (ops : Array Oper) (Φ : Nat → Value → World → Prop) (R : Value → World → Prop) (M : World → World → Prop) (i : Nat) (o : Oper) (ρ : Operand → Value) (u : World) : Prop :=
  (wantV ops o ρ = true ∧ ((∃ v u', (execOp ρ o).run P u = .ok (.value v) u' ∧ Φ i v u' ∧ R v u' ∧ M u u') ∨ (∃ f args, (execOp ρ o).run P u = .ok (.enter f args) u ∧ Calls P f args u fun e u' => ∃ v, e = .returned v ∧ Φ i v u' ∧ R v u' ∧ M u u') ∨ (o.dst = none ∧ ∃ u', (execOp ρ o).run P u = .ok .skip u' ∧ R undef u' ∧ M u u')))
  ∨ (wantV ops o ρ = false ∧ Φ i undef u ∧ R undef u)
structure InvY (md : Region.Mode) (ops : Array Oper) (Φ : Nat → Value → World → Prop) (R : (Nat → Bool) → (Nat → Value) → World → Prop) (a0 : Act) (l : Array Bool) (a : Act) (u : World) : Prop where
  r : R (fun i => l.getD i false) (fun s => a.tmps.getD s undef) u
  ls : l.size = ops.size
  df : a.defers = a0.defers
  sz : a.tmps.size = a0.tmps.size
  old : ∀ s, (∀ i d, dstOf ops i = some d → l.getD i false = true → d ≠ s) → a.tmps.getD s undef = a0.tmps.getD s undef
  val : ∀ i d, dstOf ops i = some d → l.getD i false = true → Φ i (a.tmps.getD d undef) u
  cl : ∀ i o, ops[i]? = some o → l.getD i false = true → ∀ e ∈ o.after, Region.binds md e = true → l.getD e.on false = true
theorem InvY.next {md : Region.Mode} {ops : Array Oper} {Φ : Nat → Value → World → Prop} {R : (Nat → Bool) → (Nat → Value) → World → Prop} {M : World → World → Prop} {a0 : Act} {l : Array Bool} {a : Act} {u u' : World} (h : InvY md ops Φ R a0 l a u) (hB : dstC ops a0.tmps.size = true)
    (hmono : ∀ i v u u', Φ i v u → M u u' → Φ i v u') {i : Nat} {o : Oper} (ho : ops[i]? = some o) (hdep : ∀ e ∈ o.after, Region.binds md e = true → l.getD e.on false = true) {v : Value} (hv : ∀ d, o.dst = some d → Φ i v u') (hr : R (updB (fun j => l.getD j false) i) (updS (fun s => a.tmps.getD s undef) o.dst v) u') (hb : M u u') :
    InvY md ops Φ R a0 (l.setIfInBounds i true) (a.put o.dst v) u' := by
  have hi : i < ops.size := (Array.getElem?_eq_some_iff.1 ho).1
  have hil : i < l.size := by rw [h.ls]; exact hi
  have hcl : ∀ j oj, ops[j]? = some oj → (l.setIfInBounds i true).getD j false = true → ∀ e ∈ oj.after, Region.binds md e = true → (l.setIfInBounds i true).getD e.on false = true := by
    intro j oj hoj hlj e he hbd
    rw [getD_set hil]
    split
    · rfl
    · rw [getD_set hil] at hlj
      by_cases e1 : j = i
      · subst e1
        rw [ho] at hoj
        cases hoj
        exact hdep e he hbd
      · rw [if_neg e1] at hlj
        exact h.cl j oj hoj hlj e he hbd
  rw [← getD_upd hil] at hr
  cases hod : o.dst with
  | none =>
    have hd : dstOf ops i = none := by simp [dstOf, ho, hod]
    rw [hod] at hr
    refine ⟨hr, by simpa using h.ls, h.df, h.sz, fun s hs => ?_, fun j e hj hl => ?_, hcl⟩
    · exact h.old s (fun j e hj hl => hs j e hj (by rw [getD_set hil]; split; rfl; exact hl))
    · have e2 : j ≠ i := fun e2 => by subst e2; rw [hd] at hj; cases hj
      rw [getD_set hil, if_neg e2] at hl
      exact hmono _ _ _ _ (h.val j e hj hl) hb
  | some d =>
    have hd : dstOf ops i = some d := by simp [dstOf, ho, hod]
    obtain ⟨hlt, hun⟩ := dstC_of hB hi hd
    have hlt' : d < a.tmps.size := by rw [h.sz]; exact hlt
    rw [hod] at hr
    have hr' : R (fun j => (l.setIfInBounds i true).getD j false) (fun s => (a.put (some d) v).tmps.getD s undef) u' := by
      have e9 : (fun s => (a.put (some d) v).tmps.getD s undef) = updS (fun s => a.tmps.getD s undef) (some d) v := by funext s; exact getD_put hlt'
      rw [e9]; exact hr
    refine ⟨hr', by simpa using h.ls, h.df, by simpa [Act.put] using h.sz, fun s hs => ?_, fun j e hj hl => ?_, hcl⟩
    · have hne : d ≠ s := hs i d hd (by rw [getD_set hil, if_pos rfl])
      rw [getD_put hlt', if_neg (Ne.symm hne)]
      exact h.old s (fun j e hj hl => hs j e hj (by rw [getD_set hil]; split; rfl; exact hl))
    · rw [getD_put hlt']
      by_cases e1 : e = d
      · subst e1
        obtain rfl := hun j (dstOf_lt hj) hj
        rw [if_pos rfl]
        exact hv _ hod
      · rw [if_neg e1]
        have e2 : j ≠ i := fun e2 => by subst e2; rw [hd] at hj; exact e1 (Option.some.inj hj).symm
        rw [getD_set hil, if_neg e2] at hl
        exact hmono _ _ _ _ (h.val j e hj hl) hb
theorem wpAny_valy {P : Program} {ops : Array Oper} {Q : Exit → Act → World → Prop} {md : Region.Mode} {a0 : Act} {w0 : World} (R : (Nat → Bool) → (Nat → Value) → World → Prop) (M : World → World → Prop) (Φ : Nat → Value → World → Prop)
    (hordB : ordB md ops = true) (hB : dstC ops a0.tmps.size = true) (hmono : ∀ i v u u', Φ i v u → M u u' → Φ i v u') (hM : ∀ u, M u u) (h0 : R (fun _ => false) (fun s => a0.tmps.getD s undef) w0)
    (hend : ∀ (vs : Nat → Value) (σ : Nat → Value) u, R (fun i => decide (i < ops.size)) σ u → (∀ i d, dstOf ops i = some d → vs i = σ d) → (∀ i d, dstOf ops i = some d → Φ i (vs i) u) → Q .normal (putsL a0 0 ops.toList vs) u)
    (hstep : ∀ u i o (ρ : Operand → Value) (l : Nat → Bool), R l (fun s => ρ (.tmp s)) u → ops[i]? = some o → l i = false → (∀ j oj, ops[j]? = some oj → l j = true → ∀ e ∈ oj.after, Region.binds md e = true → l e.on = true) →
      (∀ s, isDst ops s = false → ρ (.tmp s) = a0.eval (.tmp s)) → (∀ v, ρ (.const v) = v) → (∀ f, ρ (.func f) = .func (.func f) #[] #[]) →
      (∀ e ∈ o.after, Region.binds md e = true → l e.on = true) → (∀ j d, dstOf ops j = some d → l j = true → Φ j (ρ (.tmp d)) u) → StpY P ops Φ (fun v u' => R (updB l i) (updS (fun s => ρ (.tmp s)) o.dst v) u') M i o ρ u)
    (fuel : Nat) (l : Array Bool) (hs : l.size = ops.size) (hc : l.toList.count false ≤ fuel) (hl : ∀ i, l.getD i false = false) : wpAny P md ops Q fuel l a0 w0 := by
  refine wpAny_inv (InvY md ops Φ R a0) hordB ?_ ?_ fuel l a0 w0 hs hc ?_
  · intro l a u h hall
    have hall' : ∀ i, i < ops.size → l.getD i false = true := fun i hi => by rw [getD_eq (by rw [h.ls]; exact hi) false true]; exact hall i hi
    have e : putsL a0 0 ops.toList (fun i => a.tmps.getD ((dstOf ops i).getD 0) undef) = a := by
      refine putsL_eqW ops.toList 0 a0 _ h.df.symm h.sz.symm (fun j o d ho hd => ?_) (fun s => ?_) (fun j o d ho hd => ?_)
      · rw [Nat.zero_add]
        have : dstOf ops j = some d := by rw [Array.getElem?_toList] at ho; simp [dstOf, ho, hd]
        show a.tmps.getD ((dstOf ops j).getD 0) undef = _
        rw [this]; rfl
      · by_cases hx : ∃ j d, dstOf ops j = some d ∧ l.getD j false = true ∧ d = s
        · obtain ⟨j, d, hd, _, rfl⟩ := hx
          right
          unfold dstOf at hd
          cases ho : ops[j]? with
          | none => rw [ho] at hd; cases hd
          | some o => rw [ho] at hd; exact ⟨j, o, by rw [Array.getElem?_toList]; exact ho, hd⟩
        · left
          exact (h.old s (fun i d hd hl e => hx ⟨i, d, hd, hl, e⟩)).symm
      · rw [Array.getElem?_toList] at ho
        have hi : j < ops.size := (Array.getElem?_eq_some_iff.1 ho).1
        have hd' : dstOf ops j = some d := by simp [dstOf, ho, hd]
        rw [h.sz]
        exact (dstC_of hB hi hd').1
    rw [← e]
    refine hend _ (fun s => a.tmps.getD s undef) u ?_ (fun i d hd => by show a.tmps.getD ((dstOf ops i).getD 0) undef = _; rw [hd]; rfl) (fun i d hd => ?_)
    · have e2 : (fun i => l.getD i false) = (fun i => decide (i < ops.size)) := by
        funext i
        by_cases hi : i < ops.size
        · rw [hall' i hi]; simp [hi]
        · have : ¬ i < l.size := by rw [h.ls]; exact hi
          simp [Array.getD, hi, this]
      rw [← e2]
      exact h.r
    · show Φ i (a.tmps.getD ((dstOf ops i).getD 0) undef) u
      rw [hd]
      exact h.val i d hd (hall' i (dstOf_lt hd))
  · intro l a u i o h ho hli hdep K hK
    have hi : i < ops.size := (Array.getElem?_eq_some_iff.1 ho).1
    have hw : Region.wanted o (yielded ops a.tmps) = wantV ops o a.eval := wanted_eq (fun j d hj => by
      rw [h.sz]; exact (dstC_of hB (dstOf_lt hj) hj).1)
    have hst := hstep u i o a.eval (fun j => l.getD j false) h.r ho (by show l.getD i false = false; rw [getD_eq (by rw [h.ls]; exact hi) false true]; exact hli) (fun j oj hoj hlj e he hb => h.cl j oj hoj hlj e he hb) (fun s hns => by
      refine h.old s (fun j d hj _ e => ?_)
      subst e
      have : isDst ops d = true := by
        unfold isDst
        rw [List.any_eq_true]
        exact ⟨j, List.mem_range.2 (dstOf_lt hj), by simp [hj]⟩
      rw [this] at hns; cases hns) (fun _ => rfl) (fun _ => rfl) hdep (fun j d hd hlj => h.val j d hd hlj)
    rcases hst with ⟨hwt, ⟨v, u', hrun, hv, hr, hbl⟩ | ⟨f, args, hrun, hcall⟩ | ⟨hno, u', hrun, hr, hbl⟩⟩ | ⟨hwf, hv, hr⟩
    · rw [if_pos (by rw [hw]; exact hwt)]
      unfold Oper.wp
      rw [hrun]
      exact hK _ _ (h.next hB hmono ho hdep (fun _ _ => hv) hr hbl)
    · rw [if_pos (by rw [hw]; exact hwt)]
      unfold Oper.wp
      rw [hrun, Oper.upon_enter]
      refine hcall.mono ?_
      rintro e u' ⟨v, rfl, hv, hr, hbl⟩
      exact hK _ _ (h.next hB hmono ho hdep (fun _ _ => hv) hr hbl)
    · rw [if_pos (by rw [hw]; exact hwt)]
      unfold Oper.wp
      rw [hrun, Oper.upon_skip]
      exact hK _ _ (h.next hB hmono ho hdep (fun d hd => by rw [hno] at hd; cases hd) hr hbl)
    · rw [if_neg (by rw [hw, hwf]; decide)]
      exact hK _ _ (h.next hB hmono ho hdep (fun _ _ => hv) hr (hM u))
  · refine ⟨?_, hs, rfl, rfl, fun _ _ => rfl, fun i d _ hl' => (by rw [hl i] at hl'; cases hl'), fun i o _ hl' => (by rw [hl i] at hl'; cases hl')⟩
    rw [show (fun i => l.getD i false) = (fun _ => false) from funext hl]
    exact h0
end Go.Proofs.Ytfdddkjonjpgpaa
namespace Go.Proofs.Ytfdddkjonjpgpaa
open Go.RowKit Go.Joins
set_option linter.unusedVariables false
set_option linter.unusedSimpArgs false
theorem rangeAt_below {w u : World} {g o : Nat} {cs : List Value} (h : w.rangeAt g o cs) (hg : g < w.heap.size) (hb : Below w.heap.size w u) : u.rangeAt g o cs := fun j v hv => (hb.cell (p := ⟨g, o + j, none⟩) hg).trans (h j v hv)
theorem Blk.rng {w : World} {g : Nat} {t : TypeId} {l : List Value} (h : Blk w g t l.toArray) : w.rangeAt g 0 l := fun j v hv => by
  rw [Nat.zero_add]
  exact h.cell j (by simpa using hv)
end Go.Proofs.Ytfdddkjonjpgpaa
namespace Go.Proofs.Ytfdddkjonjpgpaa
open Go.RowKit Go.Joins
set_option linter.unusedVariables false
set_option linter.unusedSimpArgs false
def svQ (cs is : List Bool) (hs rs : List Int) (Q : VQ) : SvR := svV cs.length is.length hs.length rs.length cs is hs rs Q.kd Q.pl Q.n Q.wa Q.ws.length Q.bs.length Q.ws Q.bs
def apS (is : List Bool) (rs : List Int) (cs : List Bool) (hs : List Int) (f : Nat → VQ) : Nat → List Bool × List Int
  | 0 => (cs, hs)
  | k + 1 => ((svQ (apS is rs cs hs f k).1 is (apS is rs cs hs f k).2 rs (f k)).cs, (svQ (apS is rs cs hs f k).1 is (apS is rs cs hs f k).2 rs (f k)).hs)
def apV (is : List Bool) (rs : List Int) (cs : List Bool) (hs : List Int) (f : Nat → VQ) (k : Nat) : SvR := svQ (apS is rs cs hs f k).1 is (apS is rs cs hs f k).2 rs (f k)
def vaV (V : SvR) : VA := ⟨V.kd, V.fl, V.pl, V.nn, V.ws, V.bs⟩
def apA (is : List Bool) (rs : List Int) (cs : List Bool) (hs : List Int) (f : Nat → VQ) (k : Nat) : VA := vaV (apV is rs cs hs f k)
theorem apS_len (is : List Bool) (rs : List Int) (cs : List Bool) (hs : List Int) (f : Nat → VQ) : ∀ k, (apS is rs cs hs f k).1.length = cs.length ∧ (apS is rs cs hs f k).2.length = hs.length
  | 0 => ⟨rfl, rfl⟩
  | k + 1 => by
    have ih := apS_len is rs cs hs f k
    have h := svV_len (V := svQ (apS is rs cs hs f k).1 is (apS is rs cs hs f k).2 rs (f k)) ⟨rfl, rfl, rfl, rfl⟩ rfl rfl rfl
    exact ⟨h.1.trans ih.1, h.2.1.trans ih.2⟩
theorem apA_len (is : List Bool) (rs : List Int) (cs : List Bool) (hs : List Int) (f : Nat → VQ) (k : Nat) : (apA is rs cs hs f k).ws.length ≤ (f k).ws.length + hs.length + rs.length ∧ (apA is rs cs hs f k).bs.length ≤ (f k).bs.length + 2007 := by
  have ih := apS_len is rs cs hs f k
  have h := svV_len (V := svQ (apS is rs cs hs f k).1 is (apS is rs cs hs f k).2 rs (f k)) ⟨rfl, rfl, rfl, rfl⟩ rfl rfl rfl
  exact ⟨by have := h.2.2.1; rw [ih.2] at this; exact this, h.2.2.2⟩
theorem Cg.ofChg {w w' : World} {S : Nat → Prop} (h : Chg w w' S) : Cg w w' S := ⟨h.1, h.2.1, h.2.2.1, h.2.2.2.1, h.2.2.2.2⟩
theorem Rd.int4 {w : World} {lo n c : Nat} {a : Option Addr} {ws : List Int} (h : Rd w lo (intsT ws) (.slice a n c)) : SlI w a ws := by
  obtain ⟨a', c', h1, h2, h3, h4⟩ := h.ints
  simp only [Value.slice.injEq] at h1
  obtain ⟨rfl, -, -⟩ := h1
  exact h4
theorem Rd.bool4 {w : World} {lo n c : Nat} {a : Option Addr} {ws : List Bool} (h : Rd w lo (boolsT ws) (.slice a n c)) : SlB w a ws := by
  obtain ⟨a', c', h1, h2, h3, h4⟩ := h.bools
  simp only [Value.slice.injEq] at h1
  obtain ⟨rfl, -, -⟩ := h1
  exact h4
theorem svV_at {l1 l2 l3 l4 : Nat} (is : List Bool) (rs : List Int) (cs : List Bool) (hs : List Int) (f : Nat → VQ) (k : Nat) (hn : LnD l1 l2 l3 l4 cs is hs rs) : svV l1 l2 l3 l4 (apS is rs cs hs f k).1 is (apS is rs cs hs f k).2 rs (f k).kd (f k).pl (f k).n (f k).wa (f k).ws.length (f k).bs.length (f k).ws (f k).bs = apV is rs cs hs f k := by
  obtain ⟨rfl, rfl, rfl, rfl⟩ := hn
  have ih := apS_len is rs cs hs f k
  unfold apV svQ
  rw [ih.1, ih.2]
end Go.Proofs.Ytfdddkjonjpgpaa
namespace Go.Proofs.Ytfdddkjonjpgpaa
open Go.RowKit Go.Joins
set_option linter.unusedVariables false
set_option linter.unusedSimpArgs false
theorem rfl_pushV (F : Nat → List Value) (vs : List Value) (n : Nat) : (List.range (n + 1)).flatMap (fun k => if k = n then vs else F k) = (List.range n).flatMap F ++ vs := by
  rw [List.range_succ, List.flatMap_append]
  congr 1
  · have : ∀ l : List Nat, (∀ x ∈ l, x < n) → l.flatMap (fun k => if k = n then vs else F k) = l.flatMap F := by
      intro l
      induction l with
      | nil => intro _; rfl
      | cons x r ih =>
        intro h
        rw [List.flatMap_cons, List.flatMap_cons, ih (fun y hy => h y (by simp [hy]))]
        have := h x (by simp)
        rw [if_neg (by omega)]
    exact this _ (fun x hx => List.mem_range.1 hx)
  · simp
theorem rfl_lenV (F : Nat → List Value) (s : Nat) : ∀ n, (∀ k, k < n → (F k).length = s) → ((List.range n).flatMap F).length = n * s
  | 0, _ => by simp
  | n + 1, h => by
    rw [List.range_succ, List.flatMap_append, List.length_append, rfl_lenV F s n (fun k hk => h k (by omega))]
    simp [h n (by omega), Nat.add_mul]
theorem rfl_atV (F : Nat → List Value) (s : Nat) : ∀ n, (∀ k, k < n → (F k).length = s) → ∀ k j, k < n → j < s → ((List.range n).flatMap F)[k * s + j]? = (F k)[j]?
  | 0, _, k, j, hk, _ => by omega
  | n + 1, h, k, j, hk, hj => by
    have hl := rfl_lenV F s n (fun k hk => h k (by omega))
    rw [List.range_succ, List.flatMap_append]
    by_cases e : k = n
    · subst e
      rw [List.getElem?_append_right (by omega), hl, Nat.add_sub_cancel_left]
      simp
    · have hk' : k < n := by omega
      have : (k + 1) * s ≤ n * s := Nat.mul_le_mul_right s hk'
      rw [Nat.add_mul, Nat.one_mul] at this
      rw [List.getElem?_append_left (by omega)]
      exact rfl_atV F s n (fun k hk => h k (by omega)) k j hk' hj
theorem row_belV {w w' : World} {base s n : Nat} {e : TypeId} {v : Value} {xs : List Value} (h : w.ownsRow base e s v n xs) (hb : Below w.heap.size w w') : w'.ownsRow base e s v n xs := by
  refine World.ownsRow.kept h (grown_below hb (some w.heap.size)) ?_
  cases e : v.ownBlock with
  | none => exact .inl rfl
  | some k => exact .inr (fun e2 => by have := (World.ownsRow.lt h k e).2; simp at e2; omega)
def AvAt (w : World) (base : Nat) (vs : List Value) (X : VA) : Prop :=
  ∃ a1 c1 a2 c2, vs = aL X a1 X.ws.length c1 a2 X.bs.length c2 ∧ OwnI w base (.slice a1 X.ws.length c1) X.ws ∧ OwnB w base (.slice a2 X.bs.length c2) X.bs
theorem AvAt.len {w : World} {base : Nat} {vs : List Value} {X : VA} (h : AvAt w base vs X) : vs.length = 6 := by
  obtain ⟨a1, c1, a2, c2, rfl, _⟩ := h
  rfl
theorem AvAt.keptR {w w' : World} {base s n b : Nat} {v : Value} {xs vs : List Value} {X : VA} (h : AvAt w base vs X) (ho : w.ownsRow b 37 s v n xs) (hg : w.grownBy w' v.ownBlock) : AvAt w' base vs X := by
  obtain ⟨a1, c1, a2, c2, h1, h2, h3⟩ := h
  exact ⟨a1, c1, a2, c2, h1, World.ownsRow.kept h2 hg (ne_typesE h2 ho (by decide)), World.ownsRow.kept h3 hg (ne_typesE h3 ho (by decide))⟩
def LsV (w : World) (base : Nat) (v : Value) (n : Nat) (f : Nat → VA) : Prop :=
  ∃ F, w.ownsRow base 37 6 v n ((List.range n).flatMap F) ∧ ∀ k, k < n → AvAt w base (F k) (f k)
end Go.Proofs.Ytfdddkjonjpgpaa
namespace Go.Proofs.Ytfdddkjonjpgpaa
open Go.RowKit Go.Joins
set_option linter.unusedVariables false
set_option linter.unusedSimpArgs false
def LsT (w : World) (gt n : Nat) (f : Nat → VA) (k : Nat) : Prop := ∃ F, RowS w gt 37 6 n F ∧ ∀ j, j < k → AvAt w gt (F j) (f j)
theorem LsT.row {w : World} {gt n k : Nat} {f : Nat → VA} (h : LsT w gt n f k) : ∃ F, RowS w gt 37 6 n F := by
  obtain ⟨F, h, _⟩ := h
  exact ⟨F, h⟩
theorem LsT.cg {w w' : World} {S : Nat → Prop} {gt n k : Nat} {f : Nat → VA} (h : LsT w gt n f k) (hc : Cg w w' S) (hS : ∀ b, S b → b < gt) : LsT w' gt n f k := by
  obtain ⟨F, h1, h2⟩ := h
  have hlt := h1.lt
  have ch : Chg w w' S := ⟨hc.os, hc.tape, hc.output, hc.size, hc.block⟩
  have hsame : w'.heap[gt]? = w.heap[gt]? := hc.block gt hlt (fun q => by have := hS gt q; omega)
  refine ⟨F, ?_, fun j hj => ?_⟩
  · obtain ⟨cs, e1, e2, e3⟩ := h1
    exact ⟨cs, hsame.trans e1, e2, e3⟩
  · obtain ⟨a1, c1, a2, c2, e, o1, o2⟩ := h2 j hj
    exact ⟨a1, c1, a2, c2, e, row_chg o1 ch (fun g hg q => by have := hS g q; have := (World.ownsRow.lt o1 g hg).1; omega), row_chg o2 ch (fun g hg q => by have := hS g q; have := (World.ownsRow.lt o2 g hg).1; omega)⟩
theorem LsT.below {w w' : World} {gt n k : Nat} {f : Nat → VA} (h : LsT w gt n f k) (hb : Below w.heap.size w w') : LsT w' gt n f k := h.cg (Cg.ofBelow (S := fun _ => False) hb) (fun _ q => q.elim)
theorem LsT.step {w w1 : World} {S : Nat → Prop} {gt n k : Nat} {f : Nat → VA} {vs : List Value} (h : LsT w gt n f k) (hk : k < n) (hc : Cg w w1 S) (hS : ∀ b, S b → b < gt) (ho : AvAt w1 gt vs (f k)) : LsT (setL w1 gt (k * 6) vs) gt n f (k + 1) := by
  obtain ⟨F, h1, h2⟩ := h.cg hc hS
  have hg : w1.grownBy (setL w1 gt (k * 6) vs) (some gt) := setL_gw _ _ _
  obtain ⟨cs, hX⟩ : ∃ cs, Blk w1 gt 37 cs := by obtain ⟨cs, e1, _⟩ := h1; exact ⟨cs, e1⟩
  have keep : ∀ {us : List Value} {X : VA}, AvAt w1 gt us X → AvAt (setL w1 gt (k * 6) vs) gt us X := fun h9 => by
    obtain ⟨a1, c1, a2, c2, e, o1, o2⟩ := h9
    exact ⟨a1, c1, a2, c2, e, o1.kept hg (.inr (fun e => noBlk_row o1 hX (by decide) e)), o2.kept hg (.inr (fun e => noBlk_row o2 hX (by decide) e))⟩
  refine ⟨fun i => if i = k then vs else F i, h1.set hk vs ho.len, fun j hj => ?_⟩
  by_cases e : j = k
  · subst e; simp only [if_true]; exact keep ho
  · simp only [if_neg e]; exact keep (h2 j (by omega))
theorem LsT.keptB {w w' : World} {gt n k g : Nat} {t : TypeId} {cs : Array Value} {f : Nat → VA} (h : LsT w gt n f k) (gw : w.grownBy w' (some g)) (hk : Blk w g t cs) (h1 : t ≠ 3) (h2 : t ≠ 4) (h3 : t ≠ 37) : LsT w' gt n f k := by
  obtain ⟨F, r1, r2⟩ := h
  refine ⟨F, ?_, fun j hj => ?_⟩
  · obtain ⟨cv, e1, e2, e3⟩ := r1
    refine ⟨cv, ?_, e2, e3⟩
    rw [gw.block gt (Array.getElem?_eq_some_iff.1 e1).1 (fun e => ?_)]
    · exact e1
    · have e' := Option.some.inj e
      subst e'
      have e0 : w.heap[gt]? = some (.cells cs t (0, 0)) := hk
      rw [e0] at e1
      simp at e1
      exact h3 e1.2
  · obtain ⟨a1, c1, a2, c2, e, o1, o2⟩ := r2 j hj
    exact ⟨a1, c1, a2, c2, e, o1.kept gw (.inr (fun e => noBlk_row o1 hk h1 e)), o2.kept gw (.inr (fun e => noBlk_row o2 hk h2 e))⟩
set_option maxRecDepth 20000 in
set_option maxHeartbeats 8000000 in
theorem implApply_t (a1 a2 a3 a4 : Option Addr) (l1 l2 l3 l4 c1 c2 c3 c4 : Nat) (cs is : List Bool) (hs rs : List Int) (n : Nat) (f : Nat → VQ) (b : Option Addr) (c : Nat) (w : World) (hn : LnD l1 l2 l3 l4 cs is hs rs) (hs0 : SlD w a1 a2 a3 a4 cs is hs rs) (hl : SmD 2000000 cs is hs rs) (hr : Rd w 0 (.list 6 n (fun i => trs (qT (f i)))) (.slice b n c)) (hn1 : n ≤ 1048576) (hb : ∀ i, i < n → (f i).ws.length ≤ 2000000 ∧ (f i).bs.length ≤ 2000000) :
    Calls Try.prog 8 #[dv a1 a2 a3 a4 l1 l2 l3 l4 c1 c2 c3 c4, .slice b n c] w fun e w' => ∃ g1 g2 g3 g4 gt, e = .returned (.tuple #[dv (some ⟨g1, 0, none⟩) (some ⟨g2, 0, none⟩) (some ⟨g3, 0, none⟩) (some ⟨g4, 0, none⟩) l1 l2 l3 l4 l1 l2 l3 l4, .slice (some ⟨gt, 0, none⟩) n n]) ∧ OwnD w' w.heap.size (some ⟨g1, 0, none⟩) (some ⟨g2, 0, none⟩) (some ⟨g3, 0, none⟩) (some ⟨g4, 0, none⟩) l1 l2 l3 l4 l1 l2 l3 l4 (apS is rs cs hs f n).1 is (apS is rs cs hs f n).2 rs ∧ LsT w' gt n (apA is rs cs hs f) n ∧ (∀ g, (Of4 (.slice (some ⟨g1, 0, none⟩) l1 l1) (.slice (some ⟨g2, 0, none⟩) l2 l2) (.slice (some ⟨g3, 0, none⟩) l3 l3) (.slice (some ⟨g4, 0, none⟩) l4 l4)) g → g < gt) ∧ (w.heap.size ≤ gt ∧ gt < w'.heap.size) ∧ Below w.heap.size w w' := by
  obtain ⟨W, hW⟩ : ∃ W, W = (w.alloc (.cells #[.slice a1 l1 c1, .slice a2 l2 c2, .slice a3 l3 c3, .slice a4 l4 c4] 27)).alloc (.cells #[.slice none 0 0, .slice none 0 0, .slice none 0 0, .slice none 0 0] 27) := ⟨_, rfl⟩
  have bW : Below w.heap.size w W := by rw [hW]; exact bel_nx (bel_alloc _ _) (bel_alloc _ _)
  have zW : W.heap.size = w.heap.size + 1 + 1 := by rw [hW]; simp
  have A0 : Blk W w.heap.size 27 #[.slice a1 l1 c1, .slice a2 l2 c2, .slice a3 l3 c3, .slice a4 l4 c4] := by rw [hW]; exact (Blk.new w _ _).below (bel_alloc _ _)
  have R0 : Blk W (w.heap.size + 1) 27 #[.slice none 0 0, .slice none 0 0, .slice none 0 0, .slice none 0 0] := by rw [hW]; have := Blk.new (w.alloc (.cells #[.slice a1 l1 c1, .slice a2 l2 c2, .slice a3 l3 c3, .slice a4 l4 c4] 27)) #[.slice none 0 0, .slice none 0 0, .slice none 0 0, .slice none 0 0] 27; simpa using this
  have HH : Hid (LnD l1 l2 l3 l4 cs is hs rs ∧ SlD w a1 a2 a3 a4 cs is hs rs ∧ SmD 2000000 cs is hs rs ∧ Rd w 0 (.list 6 n (fun i => trs (qT (f i)))) (.slice b n c) ∧ ∀ i, i < n → (f i).ws.length ≤ 2000000 ∧ (f i).bs.length ≤ 2000000) := ⟨hn, hs0, hl, hr, hb⟩
  have H0 : Hid (Below w.heap.size w W ∧ Blk W (w.heap.size + 1) 27 #[.slice none 0 0, .slice none 0 0, .slice none 0 0, .slice none 0 0] ∧ W.heap.size = w.heap.size + 1 + 1) := ⟨bW, R0, zW⟩
  obtain ⟨y0, y1, y2, y3⟩ := A0.four
  have hmk := run_make_st (P := Try.prog) 32 37 (.agg #[.int .i64 0, .int .i64 0, .int .i64 0, .int .i64 0, .slice none 0 0, .slice none 0 0]) 6 80 Try.underlying32 (by kernel_rfl) .i64 .i64 n (by omega) (by omega)
  clear hn hs0 hl hr hb bW R0 A0 zW
  go_enter Try.func8, Try.ntmps8
  go_upto_region 1 with fail
  rw [← hW]
  clear hW
  go_wp2_with fail
  refine (copyDevice_any a1 a2 a3 a4 l1 l2 l3 l4 c1 c2 c3 c4 cs is hs rs _ HH.out.1 (HH.out.2.1.below H0.out.1) HH.out.2.2.1).mono ?_
  rintro e w1 ⟨g1, g2, g3, g4, rfl, O1, b1⟩
  obtain ⟨gD, hgD⟩ : ∃ gD, gD = w1.heap.size := ⟨_, rfl⟩
  obtain ⟨W2, hW2⟩ : ∃ W2, W2 = w1.alloc (.cells #[.slice (some ⟨g1, 0, none⟩) l1 l1, .slice (some ⟨g2, 0, none⟩) l2 l2, .slice (some ⟨g3, 0, none⟩) l3 l3, .slice (some ⟨g4, 0, none⟩) l4 l4] 27) := ⟨_, rfl⟩
  have bW2 : Below w1.heap.size w1 W2 := by rw [hW2]; exact bel_alloc _ _
  have zW2 : W2.heap.size = gD + 1 := by rw [hW2, hgD]; simp
  have H2 : Hid (Below w.heap.size w W2 ∧ Blk W2 (w.heap.size + 1) 27 #[.slice none 0 0, .slice none 0 0, .slice none 0 0, .slice none 0 0] ∧ Blk W2 gD 27 #[.slice (some ⟨g1, 0, none⟩) l1 l1, .slice (some ⟨g2, 0, none⟩) l2 l2, .slice (some ⟨g3, 0, none⟩) l3 l3, .slice (some ⟨g4, 0, none⟩) l4 l4] ∧ OwnD W2 w.heap.size (some ⟨g1, 0, none⟩) (some ⟨g2, 0, none⟩) (some ⟨g3, 0, none⟩) (some ⟨g4, 0, none⟩) l1 l2 l3 l4 l1 l2 l3 l4 (apS is rs cs hs f 0).1 is (apS is rs cs hs f 0).2 rs ∧ (∀ g, (Of4 (.slice (some ⟨g1, 0, none⟩) l1 l1) (.slice (some ⟨g2, 0, none⟩) l2 l2) (.slice (some ⟨g3, 0, none⟩) l3 l3) (.slice (some ⟨g4, 0, none⟩) l4 l4)) g → g < gD) ∧ w.heap.size + 1 < gD ∧ W2.heap.size = gD + 1) := by
    have z1 := H0.out.2.2
    have s1 := b1.size
    exact ⟨bel_nx (bel_nx H0.out.1 b1) bW2, (H0.out.2.1.below b1).below bW2, by rw [hW2, hgD]; exact Blk.new _ _ _, (O1.mono (by omega)).below bW2, fun g hg => by have := (O1.of4 g hg).2; omega, by omega, zW2⟩
  clear O1 b1 bW2 zW2 H0 y0 y1 y2 y3
  go_upto_region 2 with fail
  rw [← hW2, ← hgD]
  clear hW2 hgD
  obtain ⟨gt, hgt⟩ : ∃ gt, gt = W2.heap.size := ⟨_, rfl⟩
  go_upto_region 3 with fail
  obtain ⟨W3, hW3⟩ : ∃ W3, W3 = W2.alloc (.cells (madeCells #[.int .i64 0, .int .i64 0, .int .i64 0, .int .i64 0, .slice none 0 0, .slice none 0 0] (n * 6)) 37) := ⟨_, rfl⟩
  have H3 : Hid (Below w.heap.size w W3 ∧ Blk W3 (w.heap.size + 1) 27 #[.slice none 0 0, .slice none 0 0, .slice none 0 0, .slice none 0 0] ∧ Blk W3 gD 27 #[.slice (some ⟨g1, 0, none⟩) l1 l1, .slice (some ⟨g2, 0, none⟩) l2 l2, .slice (some ⟨g3, 0, none⟩) l3 l3, .slice (some ⟨g4, 0, none⟩) l4 l4] ∧ OwnD W3 w.heap.size (some ⟨g1, 0, none⟩) (some ⟨g2, 0, none⟩) (some ⟨g3, 0, none⟩) (some ⟨g4, 0, none⟩) l1 l2 l3 l4 l1 l2 l3 l4 (apS is rs cs hs f 0).1 is (apS is rs cs hs f 0).2 rs ∧ (∀ g, (Of4 (.slice (some ⟨g1, 0, none⟩) l1 l1) (.slice (some ⟨g2, 0, none⟩) l2 l2) (.slice (some ⟨g3, 0, none⟩) l3 l3) (.slice (some ⟨g4, 0, none⟩) l4 l4)) g → g < gD) ∧ w.heap.size + 1 < gD ∧ gD < gt ∧ LsT W3 gt n (apA is rs cs hs f) 0) := by
    have h2 := H2.out
    have b3 : Below W2.heap.size W2 W3 := by rw [hW3]; exact bel_alloc _ _
    refine ⟨bel_nx h2.1 b3, h2.2.1.below b3, h2.2.2.1.below b3, h2.2.2.2.1.below b3, h2.2.2.2.2.1, h2.2.2.2.2.2.1, by omega, ?_⟩
    have := RowS.made W2 [.int .i64 0, .int .i64 0, .int .i64 0, .int .i64 0, .slice none 0 0, .slice none 0 0] n 37 (by simp)
    rw [hW3, hgt]
    exact ⟨_, this, fun j hj => absurd hj (Nat.not_lt_zero _)⟩
  rw [← hW3, ← hgt]
  clear hW3 hgt H2 hmk
  go_wp2
  go_loopw [17] (fun i wr => ∃ k : Nat, k ≤ n ∧ i = .int .i64 k ∧ Below w.heap.size w wr ∧ Blk wr (w.heap.size + 1) 27 #[.slice none 0 0, .slice none 0 0, .slice none 0 0, .slice none 0 0] ∧ Blk wr gD 27 #[.slice (some ⟨g1, 0, none⟩) l1 l1, .slice (some ⟨g2, 0, none⟩) l2 l2, .slice (some ⟨g3, 0, none⟩) l3 l3, .slice (some ⟨g4, 0, none⟩) l4 l4] ∧ OwnD wr w.heap.size (some ⟨g1, 0, none⟩) (some ⟨g2, 0, none⟩) (some ⟨g3, 0, none⟩) (some ⟨g4, 0, none⟩) l1 l2 l3 l4 l1 l2 l3 l4 (apS is rs cs hs f k).1 is (apS is rs cs hs f k).2 rs ∧ LsT wr gt n (apA is rs cs hs f) k) (fun i _ => n - (intOf i).toNat)
  case atStart => exact ⟨0, Nat.zero_le _, rfl, H3.out.1, H3.out.2.1, H3.out.2.2.1, H3.out.2.2.2.1, H3.out.2.2.2.2.2.2.2⟩
  case round =>
    obtain ⟨k, hk, rfl, hbl, hR, hD, hO, hL⟩ := hrel
    by_cases hlt : k < n
    · have hi : (k : Int) < (n : Int) := by omega
      obtain ⟨bb, off, vs, rfl, _, hb0, hlen, hr0, hrd⟩ := HH.out.2.2.2.1.at hlt
      obtain ⟨b1, d1, b2, d2, rfl, q1, q2⟩ := VQ.cells hrd hlen
      clear hlen hrd
      have hr := rangeAt_below hr0 hb0 hbl
      have e0 : wr.cell? ⟨bb, off + k * 6, none⟩ = _ := hr 0 _ rfl
      have e1 : wr.cell? ⟨bb, off + k * 6 + 1, none⟩ = _ := hr 1 _ rfl
      have e2 : wr.cell? ⟨bb, off + k * 6 + 2, none⟩ = _ := hr 2 _ rfl
      have e3 : wr.cell? ⟨bb, off + k * 6 + 3, none⟩ = _ := hr 3 _ rfl
      have e4 : wr.cell? ⟨bb, off + k * 6 + 4, none⟩ = _ := hr 4 _ rfl
      have e5 : wr.cell? ⟨bb, off + k * 6 + 5, none⟩ = _ := hr 5 _ rfl
      obtain ⟨gq, hgq⟩ : ∃ gq, gq = wr.heap.size := ⟨_, rfl⟩
      obtain ⟨W5, hW5⟩ : ∃ W5, W5 = wr.alloc (.cells #[.int .i64 (f k).kd, .int .i64 (f k).pl, .int .i64 (f k).n, .slice b1 (f k).ws.length d1, .slice b2 (f k).bs.length d2, .int .i64 (f k).wa] 57) := ⟨_, rfl⟩
      have H5 : Hid (Below wr.heap.size wr W5 ∧ Below w.heap.size w W5 ∧ Blk W5 (w.heap.size + 1) 27 #[.slice none 0 0, .slice none 0 0, .slice none 0 0, .slice none 0 0] ∧ Blk W5 gD 27 #[.slice (some ⟨g1, 0, none⟩) l1 l1, .slice (some ⟨g2, 0, none⟩) l2 l2, .slice (some ⟨g3, 0, none⟩) l3 l3, .slice (some ⟨g4, 0, none⟩) l4 l4] ∧ OwnD W5 w.heap.size (some ⟨g1, 0, none⟩) (some ⟨g2, 0, none⟩) (some ⟨g3, 0, none⟩) (some ⟨g4, 0, none⟩) l1 l2 l3 l4 l1 l2 l3 l4 (apS is rs cs hs f k).1 is (apS is rs cs hs f k).2 rs ∧ Blk W5 gq 57 (qL (f k) b1 (f k).ws.length d1 b2 (f k).bs.length d2).toArray ∧ LsT wr gt n (apA is rs cs hs f) k ∧ Rd w 0 (intsT (f k).ws) (.slice b1 (f k).ws.length d1) ∧ Rd w 0 (boolsT (f k).bs) (.slice b2 (f k).bs.length d2)) := by
        have b5 : Below wr.heap.size wr W5 := by rw [hW5]; exact bel_alloc _ _
        exact ⟨b5, bel_nx hbl b5, hR.below b5, hD.below b5, hO.below b5, by rw [hW5, hgq]; exact Blk.new _ _ _, hL, q1, q2⟩
      clear hbl hR hD hO hL hr0 hr q1 q2
      go_upto_region 6 with fail
      rw [← hW5, ← hgq]
      clear hW5 hgq e0 e1 e2 e3 e4 e5
      obtain ⟨y0, y1, y2, y3⟩ := H5.out.2.2.2.1.four
      obtain ⟨z0, z1, z2, z3, z4, z5⟩ := H5.out.2.2.2.2.2.1.six
      go_wp2_with fail
      refine (serve_q (some ⟨g1, 0, none⟩) (some ⟨g2, 0, none⟩) (some ⟨g3, 0, none⟩) (some ⟨g4, 0, none⟩) l1 l2 l3 l4 l1 l2 l3 l4 (apS is rs cs hs f k).1 is (apS is rs cs hs f k).2 rs (f k).kd (f k).pl (f k).n (f k).wa b1 b2 (f k).ws.length (f k).bs.length d1 d2 (f k).ws (f k).bs w _ H5.out.2.1 H5.out.2.2.2.2.1 rfl rfl H5.out.2.2.2.2.2.2.2.1.int4 H5.out.2.2.2.2.2.2.2.2.bool4 (HH.out.2.2.2.2 k hlt).1 (HH.out.2.2.2.2 k hlt).2 (by have h9 := HH.out.2.2.1; have h8 := apS_len is rs cs hs f k; exact ⟨by rw [h8.1]; exact h9.1, h9.2.1, by rw [h8.2]; exact h9.2.2.1, h9.2.2.2⟩) (apV is rs cs hs f k) (svV_at is rs cs hs f k HH.out.1)).mono ?_
      rintro e w6 ⟨r1, r2, m1, m2, k1, k2, rfl, oI, oB, oD, bel, chg⟩
      obtain ⟨F6, R6⟩ := (H5.out.2.2.2.2.2.2.1.cg ((Cg.ofBelow (S := (Of4 (.slice (some ⟨g1, 0, none⟩) l1 l1) (.slice (some ⟨g2, 0, none⟩) l2 l2) (.slice (some ⟨g3, 0, none⟩) l3 l3) (.slice (some ⟨g4, 0, none⟩) l4 l4))) H5.out.1).trans (Cg.ofChg chg)) (fun g hg => by have := H3.out.2.2.2.2.1 g hg; have := H3.out.2.2.2.2.2.2.1; omega)).row
      obtain ⟨rx0, ry0⟩ : ∃ v, w6.cell? ⟨gt, k * 6, none⟩ = some v := R6.ex hlt (j := 0) (by decide)
      obtain ⟨rx1, ry1⟩ : ∃ v, w6.cell? ⟨gt, k * 6 + 1, none⟩ = some v := R6.ex hlt (j := 1) (by decide)
      obtain ⟨rx2, ry2⟩ : ∃ v, w6.cell? ⟨gt, k * 6 + 2, none⟩ = some v := R6.ex hlt (j := 2) (by decide)
      obtain ⟨rx3, ry3⟩ : ∃ v, w6.cell? ⟨gt, k * 6 + 3, none⟩ = some v := R6.ex hlt (j := 3) (by decide)
      obtain ⟨rx4, ry4⟩ : ∃ v, w6.cell? ⟨gt, k * 6 + 4, none⟩ = some v := R6.ex hlt (j := 4) (by decide)
      obtain ⟨rx5, ry5⟩ : ∃ v, w6.cell? ⟨gt, k * 6 + 5, none⟩ = some v := R6.ex hlt (j := 5) (by decide)
      obtain ⟨W7, hW7⟩ : ∃ W7, W7 = setL w6 gt (k * 6) [.int .i64 (apV is rs cs hs f k).kd, .int .i64 (apV is rs cs hs f k).fl, .int .i64 (apV is rs cs hs f k).pl, .int .i64 (apV is rs cs hs f k).nn, .slice r1 m1 k1, .slice r2 m2 k2] := ⟨_, rfl⟩
      have H7 : Hid (Below w.heap.size w W7 ∧ Blk W7 (w.heap.size + 1) 27 #[.slice none 0 0, .slice none 0 0, .slice none 0 0, .slice none 0 0] ∧ Blk W7 gD 27 #[.slice (some ⟨g1, 0, none⟩) l1 l1, .slice (some ⟨g2, 0, none⟩) l2 l2, .slice (some ⟨g3, 0, none⟩) l3 l3, .slice (some ⟨g4, 0, none⟩) l4 l4] ∧ OwnD W7 w.heap.size (some ⟨g1, 0, none⟩) (some ⟨g2, 0, none⟩) (some ⟨g3, 0, none⟩) (some ⟨g4, 0, none⟩) l1 l2 l3 l4 l1 l2 l3 l4 (apS is rs cs hs f (k + 1)).1 is (apS is rs cs hs f (k + 1)).2 rs ∧ LsT W7 gt n (apA is rs cs hs f) (k + 1)) := by
        have h3 := H3.out
        have h5 := H5.out
        have hc := (Cg.ofBelow (S := (Of4 (.slice (some ⟨g1, 0, none⟩) l1 l1) (.slice (some ⟨g2, 0, none⟩) l2 l2) (.slice (some ⟨g3, 0, none⟩) l3 l3) (.slice (some ⟨g4, 0, none⟩) l4 l4))) h5.1).trans (Cg.ofChg chg)
        have hlo : ∀ g, (Of4 (.slice (some ⟨g1, 0, none⟩) l1 l1) (.slice (some ⟨g2, 0, none⟩) l2 l2) (.slice (some ⟨g3, 0, none⟩) l3 l3) (.slice (some ⟨g4, 0, none⟩) l4 l4)) g → g < gt := fun g hg => by have := h3.2.2.2.2.1 g hg; omega
        have gw : w6.grownBy W7 (some gt) := by rw [hW7]; exact setL_gw _ _ _
        have c7 : Chg w6 W7 (fun g => g = gt) := Chg.ofGrown gw (fun g e => (Option.some.inj e).symm)
        have nR : ¬ (Of4 (.slice (some ⟨g1, 0, none⟩) l1 l1) (.slice (some ⟨g2, 0, none⟩) l2 l2) (.slice (some ⟨g3, 0, none⟩) l3 l3) (.slice (some ⟨g4, 0, none⟩) l4 l4)) (w.heap.size + 1) := h5.2.2.2.2.1.noBlk h5.2.2.1 (by decide) (by decide)
        have nD : ¬ (Of4 (.slice (some ⟨g1, 0, none⟩) l1 l1) (.slice (some ⟨g2, 0, none⟩) l2 l2) (.slice (some ⟨g3, 0, none⟩) l3 l3) (.slice (some ⟨g4, 0, none⟩) l4 l4)) gD := h5.2.2.2.2.1.noBlk h5.2.2.2.1 (by decide) (by decide)
        refine ⟨by rw [hW7]; exact setL_below (by omega) _ _ _ bel, (h5.2.2.1.chg chg nR).chg c7 (by omega), (h5.2.2.2.1.chg chg nD).chg c7 (by omega), oD.chg c7 (fun g hg => by have := hlo g hg; omega), ?_⟩
        rw [hW7]
        refine h5.2.2.2.2.2.2.1.step hlt hc hlo ?_
        obtain ⟨F9, R9⟩ := h5.2.2.2.2.2.2.1.row
        have s9 := R9.lt
        have s8 := h5.1.size
        obtain rfl : m1 = (apA is rs cs hs f k).ws.length := oI.sl.1
        obtain rfl : m2 = (apA is rs cs hs f k).bs.length := oB.sl.1
        exact ⟨r1, k1, r2, k2, rfl, OwnI.mono (show OwnI _ _ _ _ from oI) (by omega), OwnB.mono (show OwnB _ _ _ _ from oB) (by omega)⟩
      have hW7' : W7 = ((((((w6.setCell ⟨gt, k * 6, none⟩ (.int .i64 (apV is rs cs hs f k).kd)).setCell ⟨gt, k * 6 + 1, none⟩ (.int .i64 (apV is rs cs hs f k).fl)).setCell ⟨gt, k * 6 + 2, none⟩ (.int .i64 (apV is rs cs hs f k).pl)).setCell ⟨gt, k * 6 + 3, none⟩ (.int .i64 (apV is rs cs hs f k).nn)).setCell ⟨gt, k * 6 + 4, none⟩ (.slice r1 m1 k1)).setCell ⟨gt, k * 6 + 5, none⟩ (.slice r2 m2 k2)) := by rw [hW7]; simp only [setL, Nat.reduceAdd, Nat.zero_add, Nat.add_zero, Nat.add_assoc]
      have HE : Hid (∀ j, w6.frozen? ⟨gt, j, none⟩ = false) := R6.fro
      have qf0 := HE.out (k * 6)
      have qf1 := HE.out (k * 6 + 1)
      have qf2 := HE.out (k * 6 + 2)
      have qf3 := HE.out (k * 6 + 3)
      have qf4 := HE.out (k * 6 + 4)
      have qf5 := HE.out (k * 6 + 5)
      clear oI oB oD bel chg R6 H5 hW7 HE y0 y1 y2 y3 z0 z1 z2 z3 z4 z5
      go_wp2
      rw [← hW7']
      clear hW7'
      go_roundw
      case rel => exact ⟨k + 1, by omega, by go_num, H7.out.1, H7.out.2.1, H7.out.2.2.1, H7.out.2.2.2.1, H7.out.2.2.2.2⟩
      case measure => simp [intOf]; omega
    · have hi : ¬ (k : Int) < (n : Int) := by omega
      have e9 : k = n := by omega
      subst e9
      obtain ⟨y0, y1, y2, y3⟩ := hD.four
      obtain ⟨z0, z1, z2, z3⟩ := hR.four
      have f0 := hR.fro 0
      have f1 := hR.fro 1
      have f2 := hR.fro 2
      have f3 := hR.fro 3
      obtain ⟨W8, hW8⟩ : ∃ W8, W8 = (((wr.setCell ⟨w.heap.size + 1, 0, none⟩ (.slice (some ⟨g1, 0, none⟩) l1 l1)).setCell ⟨w.heap.size + 1, 1, none⟩ (.slice (some ⟨g2, 0, none⟩) l2 l2)).setCell ⟨w.heap.size + 1, 2, none⟩ (.slice (some ⟨g3, 0, none⟩) l3 l3)).setCell ⟨w.heap.size + 1, 3, none⟩ (.slice (some ⟨g4, 0, none⟩) l4 l4) := ⟨_, rfl⟩
      have H8 : Hid (Below w.heap.size w W8 ∧ Blk W8 (w.heap.size + 1) 27 #[.slice (some ⟨g1, 0, none⟩) l1 l1, .slice (some ⟨g2, 0, none⟩) l2 l2, .slice (some ⟨g3, 0, none⟩) l3 l3, .slice (some ⟨g4, 0, none⟩) l4 l4] ∧ OwnD W8 w.heap.size (some ⟨g1, 0, none⟩) (some ⟨g2, 0, none⟩) (some ⟨g3, 0, none⟩) (some ⟨g4, 0, none⟩) l1 l2 l3 l4 l1 l2 l3 l4 (apS is rs cs hs f k).1 is (apS is rs cs hs f k).2 rs ∧ LsT W8 gt k (apA is rs cs hs f) k ∧ (∀ g, (Of4 (.slice (some ⟨g1, 0, none⟩) l1 l1) (.slice (some ⟨g2, 0, none⟩) l2 l2) (.slice (some ⟨g3, 0, none⟩) l3 l3) (.slice (some ⟨g4, 0, none⟩) l4 l4)) g → g < gt) ∧ w.heap.size ≤ gt ∧ gt < W8.heap.size) := by
        have h3 := H3.out
        have cg : Cg wr W8 (fun g => g = w.heap.size + 1) := by
          rw [hW8]
          exact ((((Cg.refl wr (fun g => g = w.heap.size + 1)).set (p := ⟨w.heap.size + 1, 0, none⟩) rfl _).set (p := ⟨w.heap.size + 1, 1, none⟩) rfl _).set (p := ⟨w.heap.size + 1, 2, none⟩) rfl _).set (p := ⟨w.heap.size + 1, 3, none⟩) rfl _
        have nR : ¬ (Of4 (.slice (some ⟨g1, 0, none⟩) l1 l1) (.slice (some ⟨g2, 0, none⟩) l2 l2) (.slice (some ⟨g3, 0, none⟩) l3 l3) (.slice (some ⟨g4, 0, none⟩) l4 l4)) (w.heap.size + 1) := hO.noBlk hR (by decide) (by decide)
        refine ⟨cg.below hbl (fun g e => by have e' : g = w.heap.size + 1 := e; omega) hbl.size, ?_, hO.chg ⟨cg.os, cg.tape, cg.output, cg.size, cg.block⟩ (fun g hg e => nR (by have e' : g = w.heap.size + 1 := e; rw [← e']; exact hg)), ?_, fun g hg => by have := h3.2.2.2.2.1 g hg; omega, by omega, by obtain ⟨F9, R9⟩ := hL.row; exact Nat.lt_of_lt_of_le R9.lt cg.size⟩
        · rw [hW8]
          exact (((hR.set 0 (.slice (some ⟨g1, 0, none⟩) l1 l1)).set 1 (.slice (some ⟨g2, 0, none⟩) l2 l2)).set 2 (.slice (some ⟨g3, 0, none⟩) l3 l3)).set 3 (.slice (some ⟨g4, 0, none⟩) l4 l4)
        · exact hL.cg cg (fun g e => by have e' : g = w.heap.size + 1 := e; omega)
      clear hbl hR hD hO hL
      go_wp2
      rw [← hW8]
      clear hW8
      obtain ⟨x0, x1, x2, x3⟩ := H8.out.2.1.four
      refine bodyPost_ret (v := .tuple #[dv (some ⟨g1, 0, none⟩) (some ⟨g2, 0, none⟩) (some ⟨g3, 0, none⟩) (some ⟨g4, 0, none⟩) l1 l2 l3 l4 l1 l2 l3 l4, .slice (some ⟨gt, 0, none⟩) k k]) (by simp [results, Try.results8, go_sem, x0, x1, x2, x3]) rfl ?_
      exact ⟨g1, g2, g3, g4, gt, rfl, H8.out.2.2.1, H8.out.2.2.2.1, H8.out.2.2.2.2.1, H8.out.2.2.2.2.2, H8.out.1⟩
end Go.Proofs.Ytfdddkjonjpgpaa
namespace Go.Proofs.Ytfdddkjonjpgpaa
open Go.RowKit
structure Cur (w0 : World) (a : Option Addr) (cap : Nat) (zs : List Int) (w : World) (g : Nat) : Prop where
  lo : w0.heap.size ≤ g
  hi : g < w.heap.size
  c0 : w.cell? ⟨g, 0, none⟩ = some (.slice a zs.length cap)
  c1 : ∃ i : Nat, i ≤ zs.length ∧ w.cell? ⟨g, 1, none⟩ = some (.int .i64 i)
  c2 : ∃ h : Int, w.cell? ⟨g, 2, none⟩ = some (.int .i64 h)
  fz : ∀ o, w.frozen? ⟨g, o, none⟩ = false
  sl : Sl w0 a zs
  rg : ∀ z ∈ zs, 0 ≤ z ∧ z ≤ 255
  len : zs.length ≤ 1048576
  bel : Below w0.heap.size w0 w
theorem grown_trans {w w1 w2 : World} {g : Nat} (h1 : w.grownBy w1 (some g)) (h2 : w1.grownBy w2 (some g)) : w.grownBy w2 (some g) :=
  ⟨h2.os.trans h1.os, h2.tape.trans h1.tape, h2.output.trans h1.output, Nat.le_trans h1.size h2.size, fun k hk hne => (h2.block k (Nat.lt_of_lt_of_le hk h1.size) hne).trans (h1.block k hk hne)⟩
theorem grown_set (w : World) (g o : Nat) (v : Value) : w.grownBy (w.setCell ⟨g, o, none⟩ v) (some g) :=
  ⟨rfl, rfl, rfl, by simp [World.setCell], fun k hk hne => Below.heap_setCell _ _ _ _ (fun e => hne (by simpa using e))⟩
theorem grown_drewN (w : World) (n : Nat) (row : Option Nat) : w.grownBy (w.drewN n) row := ⟨rfl, rfl, rfl, Nat.le_refl _, fun _ _ _ => rfl⟩
section
variable {w0 w w' : World} {a : Option Addr} {cap g : Nat} {zs : List Int}
theorem Cur.drewN (h : Cur w0 a cap zs w g) (n : Nat) : Cur w0 a cap zs (w.drewN n) g :=
  ⟨h.lo, h.hi, h.c0, h.c1, h.c2, h.fz, h.sl, h.rg, h.len, bel_drewN h.bel n⟩
theorem cell_other (w : World) (g o o' : Nat) (v : Value) (h : o' ≠ o) : (w.setCell ⟨g, o, none⟩ v).cell? ⟨g, o', none⟩ = w.cell? ⟨g, o', none⟩ :=
  World.cell?_setCell_other _ _ _ _ (fun e => h (congrArg Addr.off e).symm)
theorem Cur.set2 (h : Cur w0 a cap zs w g) (x : Int) : Cur w0 a cap zs (w.setCell ⟨g, 2, none⟩ (.int .i64 x)) g := by
  obtain ⟨i, hi, c1⟩ := h.c1
  obtain ⟨y, c2⟩ := h.c2
  refine ⟨h.lo, by simpa [World.setCell] using h.hi, by rw [cell_other _ _ _ _ _ (by decide)]; exact h.c0, ⟨i, hi, by rw [cell_other _ _ _ _ _ (by decide)]; exact c1⟩, ⟨x, World.cell?_setCell_same _ _ _ c2⟩, fun o => ?_, h.sl, h.rg, h.len, h.bel.setCell h.lo _⟩
  simpa using h.fz o
theorem Cur.set1 (h : Cur w0 a cap zs w g) (i : Nat) (hi : i ≤ zs.length) : Cur w0 a cap zs (w.setCell ⟨g, 1, none⟩ (.int .i64 i)) g := by
  obtain ⟨_, _, c1⟩ := h.c1
  obtain ⟨y, c2⟩ := h.c2
  refine ⟨h.lo, by simpa [World.setCell] using h.hi, by rw [cell_other _ _ _ _ _ (by decide)]; exact h.c0, ⟨i, hi, World.cell?_setCell_same _ _ _ c1⟩, ⟨y, by rw [cell_other _ _ _ _ _ (by decide)]; exact c2⟩, fun o => ?_, h.sl, h.rg, h.len, h.bel.setCell h.lo _⟩
  simpa using h.fz o
theorem Cur.grown {w2 : World} {row : Option Nat} (h : Cur w0 a cap zs w g) (hg : w.grownBy w2 row) (hne : some g ≠ row) (hr : ∀ k, row = some k → w0.heap.size ≤ k) : Cur w0 a cap zs w2 g := by
  have e : w2.heap[g]? = w.heap[g]? := hg.block g h.hi hne
  have ec : ∀ o, w2.cell? ⟨g, o, none⟩ = w.cell? ⟨g, o, none⟩ := fun o => World.cell?_of_block (a := ⟨g, o, none⟩) e
  have ef : ∀ o, w2.frozen? ⟨g, o, none⟩ = w.frozen? ⟨g, o, none⟩ := fun o => World.frozen?_of_block (a := ⟨g, o, none⟩) e
  obtain ⟨i, hi, c1⟩ := h.c1
  obtain ⟨y, c2⟩ := h.c2
  exact ⟨h.lo, Nat.lt_of_lt_of_le h.hi hg.size, by rw [ec]; exact h.c0, ⟨i, hi, by rw [ec]; exact c1⟩, ⟨y, by rw [ec]; exact c2⟩, fun o => by rw [ef]; exact h.fz o, h.sl, h.rg, h.len, h.bel.grown hg h.bel.size hr⟩
theorem Cur.alloc (h : Cur w0 a cap zs w g) (o : Obj) : Cur w0 a cap zs (w.alloc o) g :=
  h.grown (World.grownBy_alloc w o none) (by simp) (fun k hk => by cases hk)
end
end Go.Proofs.Ytfdddkjonjpgpaa
namespace Go.Proofs.Ytfdddkjonjpgpaa
open Go.RowKit
def Drawn (w0 : World) (a : Option Addr) (cap : Nat) (zs : List Int) (w : World) (g : Nat) (P : Int → Prop) (e : Ending) (w' : World) : Prop :=
  ∃ x : Int, e = .returned (.int .i64 x) ∧ P x ∧ Cur w0 a cap zs w' g ∧ w.grownBy w' (some g)
theorem mod_bd (n : Int) : 0 ≤ n % 256 ∧ n % 256 ≤ 255 := by omega
set_option maxHeartbeats 2000000 in
theorem l1Byte_any (w0 : World) (a : Option Addr) (cap : Nat) (zs : List Int) (w : World) (g : Nat) (hC : Cur w0 a cap zs w g) :
    Calls Try.prog 57 #[.pointer (some ⟨g, 0, none⟩)] w fun e w' => Drawn w0 a cap zs w g (fun x => 0 ≤ x ∧ x ≤ 255) e w' := by
  obtain ⟨i, hi, c1⟩ := hC.c1
  obtain ⟨h, c2⟩ := hC.c2
  have c0 := hC.c0
  have fz1 := hC.fz 1
  have fz2 := hC.fz 2
  have hlen := hC.len
  have e255 : ∀ n : Int, bits BinOp.and IntKind.i64 n 255 = n % 256 := and8
  by_cases hlt : i < zs.length
  · obtain ⟨b, off, hab, hb0, hz0⟩ := cell_at hC.sl hlt
    have hz : w.cell? ⟨b, off + i, none⟩ = some (.int .u8 (zs.getD i 0)) := by rw [hC.bel.cell (p := ⟨b, off + i, none⟩) hb0]; exact hz0
    have rg := get_range hC.rg i
    have hbg : b ≠ g := by have := hC.lo; omega
    have hz' : ∀ v, (w.setCell ⟨g, 2, none⟩ v).cell? ⟨b, off + i, none⟩ = some (.int .u8 (zs.getD i 0)) := fun v => by
      rw [World.cell?_setCell_other _ _ _ _ (fun e => hbg (congrArg Addr.block e).symm)]; exact hz
    generalize zs.getD i 0 = z at *
    rw [hab] at c0
    have HC : Hid (Cur w0 a cap zs w g) := hC
    have hi' : (i : Int) < (zs.length : Int) := by omega
    clear hC hz0 hz
    go_enter Try.func57, Try.ntmps57
    go_wp2
    go_quiet (fail)
    go_wp2
    go_quiet (fail)
    go_wp2
    go_quiet (fail)
    go_wp2
    go_ret
    exact ⟨_, rfl, mod_bd _, ((HC.out.set2 _).drewN _).set1 (i + 1) (by omega), grown_trans (grown_trans (grown_set w g 2 _) (grown_drewN _ _ _)) (grown_set _ g 1 _)⟩
  · have HC : Hid (Cur w0 a cap zs w g) := hC
    have hi' : ¬ (i : Int) < (zs.length : Int) := by omega
    clear hC
    go_enter Try.func57, Try.ntmps57
    go_wp2
    go_quiet (fail)
    go_wp2
    go_quiet (fail)
    go_wp2
    go_ret
    exact ⟨_, rfl, mod_bd _, ((HC.out.set2 _).drewN _).drewN _, grown_trans (grown_trans (grown_set w g 2 _) (grown_drewN _ _ _)) (grown_drewN _ _ _)⟩
set_option maxHeartbeats 1000000 in
theorem l1Below_any (w0 : World) (a : Option Addr) (cap : Nat) (zs : List Int) (w : World) (g : Nat) (n : Int) (hn : 1 ≤ n) (hC : Cur w0 a cap zs w g) :
    Calls Try.prog 27 #[.pointer (some ⟨g, 0, none⟩), .int .i64 n] w fun e w' => Drawn w0 a cap zs w g (fun x => 0 ≤ x ∧ x < n) e w' := by
  have h0 : ¬ n ≤ 0 := by omega
  by_cases h1 : n ≤ 256
  · go_enter Try.func27, Try.ntmps27
    go_wp2_with fail
    refine (l1Byte_any w0 a cap zs _ g hC).mono ?_
    rintro e w1 ⟨x, rfl, hx, C1, g1⟩
    go_wp2
    go_ret
    exact ⟨_, rfl, ⟨Int.emod_nonneg _ (by omega), Int.emod_lt_of_pos _ (by omega)⟩, C1, g1⟩
  · go_enter Try.func27, Try.ntmps27
    go_wp2_with fail
    refine (l1Byte_any w0 a cap zs _ g hC).mono ?_
    rintro e w1 ⟨x, rfl, hx, C1, g1⟩
    go_wp2_with fail
    refine (l1Byte_any w0 a cap zs _ g C1).mono ?_
    rintro e w2 ⟨y, rfl, hy, C2, g2⟩
    go_wp2_with fail
    refine (l1Byte_any w0 a cap zs _ g C2).mono ?_
    rintro e w3 ⟨z, rfl, hz, C3, g3⟩
    go_wp2
    go_ret
    exact ⟨_, rfl, ⟨Int.emod_nonneg _ (by omega), Int.emod_lt_of_pos _ (by omega)⟩, C3, grown_trans (grown_trans g1 g2) g3⟩
def Ints (w : World) (ad : Addr) (l : List Int) : Prop := ∃ b off, ad = ⟨b, off, none⟩ ∧ b < w.heap.size ∧ ∀ i, i < l.length → w.cell? ⟨b, off + i, none⟩ = some (.int .i64 (l.getD i 0))
theorem Ints.grown {w w' : World} {ad : Addr} {l : List Int} {row : Option Nat} (h : Ints w ad l) (hg : w.grownBy w' row) (hne : some ad.block ≠ row) : Ints w' ad l := by
  obtain ⟨b, off, rfl, hb, hc⟩ := h
  exact ⟨b, off, rfl, Nat.lt_of_lt_of_le hb hg.size, fun i hi => hg.cell (hc i hi) hne⟩
set_option maxHeartbeats 1000000 in
theorem l1Int_any (w0 : World) (a : Option Addr) (cap : Nat) (zs : List Int) (w : World) (g : Nat) (ad : Addr) (n c : Nat) (l : List Int) (hn : n = l.length) (h1 : 1 ≤ n) (h2 : n ≤ 1000) (hl : Ints w ad l) (hne : ad.block ≠ g) (hC : Cur w0 a cap zs w g) :
    Calls Try.prog 55 #[.pointer (some ⟨g, 0, none⟩), .slice (some ad) n c] w fun e w' => Drawn w0 a cap zs w g (fun x => x ∈ l) e w' := by
  subst hn
  go_enter Try.func55, Try.ntmps55
  go_wp2_with fail
  refine (l1Below_any w0 a cap zs _ g _ (by omega) hC).mono ?_
  rintro e w1 ⟨x, rfl, hx, C1, g1⟩
  obtain ⟨k, rfl⟩ := Int.eq_ofNat_of_zero_le hx.1
  obtain ⟨b, off, rfl, hb, hc⟩ := hl.grown g1 (by simpa using hne)
  have hk : k < l.length := by omega
  have hck := hc k hk
  have hm : l.getD k 0 ∈ l := by rw [List.getD_eq_getElem?_getD, List.getElem?_eq_getElem hk]; exact List.getElem_mem hk
  generalize l.getD k 0 = v at *
  clear hc hl
  go_wp2
  go_ret
  exact ⟨v, rfl, hm, C1, g1⟩
end Go.Proofs.Ytfdddkjonjpgpaa
namespace Go.Proofs.Ytfdddkjonjpgpaa
open Go.RowKit
theorem and30 (n : Int) : bits .and .i64 n 1073741823 = n % 1073741824 := i64_and_mask n 30 1073741823 (by decide) (by decide)
theorem cur_new {w : World} {a : Option Addr} {cap : Nat} {zs : List Int} (hs : Sl w a zs) (hr : ∀ z ∈ zs, 0 ≤ z ∧ z ≤ 255) (hl : zs.length ≤ 1048576) (h : Int) (t : TypeId) :
    Cur w a cap zs (w.alloc (.cells #[.slice a zs.length cap, .int .i64 0, .int .i64 h] t)) w.heap.size where
  lo := Nat.le_refl _
  hi := by simp
  c0 := by simp
  c1 := ⟨0, Nat.zero_le _, by simp⟩
  c2 := ⟨h, by simp⟩
  fz := fun o => by simp
  sl := hs
  rg := hr
  len := hl
  bel := (Below.refl _ _).alloc (Nat.le_refl _) _
set_option maxHeartbeats 1000000 in
theorem l1New_any (w : World) (a : Option Addr) (n cap : Nat) (zs : List Int) (hn : n = zs.length) (hs : Sl w a zs) (hr : ∀ z ∈ zs, 0 ≤ z ∧ z ≤ 255) (hl : zs.length ≤ 1048576) :
    Calls Try.prog 25 #[.slice a n cap] w fun e w' => e = .returned (.pointer (some ⟨w.heap.size, 0, none⟩)) ∧ Cur w a cap zs w' w.heap.size ∧ w.grownBy w' none := by
  subst hn
  have e30 : ∀ n : Int, bits BinOp.and IntKind.i64 n 1073741823 = n % 1073741824 := and30
  go_enter Try.func25, Try.ntmps25
  go_wp2
  go_loop [3, 4] (fun x i => ∃ (k : Nat) (h : Int), k ≤ zs.length ∧ i = .int .i64 k ∧ x = .int .i64 h ∧ 0 ≤ h ∧ h ≤ 1073741824) (fun _ i => zs.length - (intOf i).toNat)
  case atStart => exact ⟨0, _, Nat.zero_le _, rfl, rfl, by omega, by omega⟩
  case round =>
    obtain ⟨k, h, hk, rfl, rfl, h0, h1⟩ := hrel
    by_cases hlt : k < zs.length
    · by_cases h4 : k < 4000
      · obtain ⟨b, off, rfl, _, hc⟩ := cell_at hs hlt
        have rg := get_range hr k
        generalize zs.getD k 0 = z at *
        have hi' : (k : Int) < (zs.length : Int) := by omega
        have hi4 : (k : Int) < 4000 := by omega
        clear hs hr
        go_wp2
        go_round
        case rel => exact ⟨k + 1, _, by omega, by go_num, rfl, by omega, by omega⟩
        case measure => simp [intOf]; omega
      · have hi' : (k : Int) < (zs.length : Int) := by omega
        have hi4 : decide ((k : Int) < 4000) = false := by simp; omega
        have R := cur_new (cap := cap) hs hr hl h 77
        clear hs hr
        go_wp2
        go_ret
        exact ⟨rfl, R, World.grownBy_alloc _ _ _⟩
    · have hi' : decide ((k : Int) < (zs.length : Int)) = false := by simp; omega
      have R := cur_new (cap := cap) hs hr hl h 77
      clear hs hr
      go_wp2
      go_ret
      exact ⟨rfl, R, World.grownBy_alloc _ _ _⟩
end Go.Proofs.Ytfdddkjonjpgpaa
namespace Go.Proofs.Ytfdddkjonjpgpaa
open Go.RowKit
def word2 (x y : Int) : Int := bits BinOp.or IntKind.i64 (x * 256) y
end Go.Proofs.Ytfdddkjonjpgpaa
namespace Go.Proofs.Ytfdddkjonjpgpaa
open Go.RowKit
end Go.Proofs.Ytfdddkjonjpgpaa
namespace Go.Proofs.Ytfdddkjonjpgpaa
open Go.RowKit
def marksF (s n : Nat) : List Int := (List.range n).map (fun i : Nat => ((s : Int) + (i : Int)) % 256)
def MarkedF (s : Nat) (w wr : World) (g cap k : Nat) : Prop :=
  w.grownBy wr (some g) ∧ ∃ cur, wr.heap[g]? = some (.cells cur 5 (0, 0)) ∧ cur.size = cap ∧ ∀ i, i < k → cur[i]? = some (.int .u8 (((s : Int) + (i : Int)) % 256))
end Go.Proofs.Ytfdddkjonjpgpaa
namespace Go.Proofs.Ytfdddkjonjpgpaa
open Go.RowKit
set_option linter.unusedVariables false
set_option linter.unusedSimpArgs false
def wb (x : Int) : List Int := [x / 256 % 256, x % 256]
def wbs : List Int → List Int
  | [] => []
  | x :: r => x / 256 % 256 :: x % 256 :: wbs r
def Nw (w w' : World) (e : Ending) (zs : List Int) : Prop :=
  ∃ g c n, e = .returned (.slice (some ⟨g, 0, none⟩) n c) ∧ n = zs.length ∧ Own w' w.heap.size (.slice (some ⟨g, 0, none⟩) n c) zs ∧ Below w.heap.size w w'
end Go.Proofs.Ytfdddkjonjpgpaa
namespace Go.Proofs.Ytfdddkjonjpgpaa
open Go.RowKit
set_option linter.unusedVariables false
set_option linter.unusedSimpArgs false
end Go.Proofs.Ytfdddkjonjpgpaa
namespace Go.Proofs.Ytfdddkjonjpgpaa
open Go.RowKit
set_option linter.unusedVariables false
set_option linter.unusedSimpArgs false
def packL (bs : List Bool) : List Int := (List.range ((bs.length + 7) / 8)).map (fun i => pv bs bs.length i)
end Go.Proofs.Ytfdddkjonjpgpaa
namespace Go.Proofs.Ytfdddkjonjpgpaa
open Go.RowKit
set_option linter.unusedVariables false
set_option linter.unusedSimpArgs false
end Go.Proofs.Ytfdddkjonjpgpaa
namespace Go.Proofs.Ytfdddkjonjpgpaa
open Go.RowKit
set_option linter.unusedVariables false
set_option linter.unusedSimpArgs false
def wAt (zs : List Int) (i : Nat) : Int := if i + 2 ≤ zs.length then zs.getD i 0 * 256 + zs.getD (i + 1) 0 else 0
def wsF (zs : List Int) (f : Nat) : List Int := (List.range ((zs.length - f) / 2)).map (fun k => wAt zs (f + 2 * k))
def wsT (zs : List Int) (f k : Nat) : List Int := (List.range k).map (fun k => wAt zs (f + 2 * k))
theorem Try.infoQ3 : (Try.prog.info? 3).map (fun i => (i.zero, i.size, i.bytes)) = some (some (.int .i64 0), 1, 8) := by kernel_rfl
theorem SlI.cellsAt {w : World} {ad : Addr} {zs : List Int} (h : SlI w (some ad) zs) : ∀ j u, (zs.map (Value.int .i64))[j]? = some u → w.cell? (ad.add j) = some u := by
  intro j u hu
  rcases h with h | ⟨b, off, ha, _, hc⟩
  · subst h; simp at hu
  · obtain rfl : ad = ⟨b, off, none⟩ := by simpa using ha
    have hj : j < zs.length := by
      have := (List.getElem?_eq_some_iff.1 hu).1
      simpa using this
    have e : Addr.add ⟨b, off, none⟩ j = ⟨b, off + j, none⟩ := by
      by_cases h0 : j = 0
      · subst h0; simp [Addr.add]
      · simp [Addr.add, h0]
    rw [e, hc j hj]
    rw [← hu]
    simp [hj]
theorem wpList_appI {w : World} {ops : Array Oper} {rest : List Oper} {o : Oper} {a : Act} {Q : Exit → Act → World → Prop} (hgd : o.guard = none) (s x : Operand)
    (ho : o.op = .call { callee := .builtin .append, args := #[s, x], argTypes := #[25, 25] }) (base : Nat) (v : Value) (zs : List Int) (hs : a.eval s = v) (hown : OwnI w base v zs)
    (ad : Addr) (m c : Nat) (ys : List Int) (hx : a.eval x = .slice (some ad) m c) (hm : m = ys.length) (hsl : SlI w (some ad) ys) (hlen : zs.length + ys.length ≤ 4000000) (hbase : base ≤ w.heap.size)
    (h : ∀ v' w', OwnI w' base v' (zs ++ ys) → w.grownBy w' v.ownBlock → wpList Try.prog ops Q rest (a.put o.dst v') w') : wpList Try.prog ops Q (o :: rest) a w := by
  obtain ⟨i0, hi, hz0, hz1, hz2⟩ := info_parts Try.infoQ3
  subst hm
  refine wpList_append_own w hgd s x 25 ho base 3 i0 (.int .i64 0) 1 8 Try.underlying25 hi hz0 hz1 hz2 rfl (by decide) v zs.length (zs.map (Value.int .i64)) hs hown ad ys.length c (ys.map (Value.int .i64)) hx (by simp) hsl.cellsAt (ints_oneCell _ _) (by unfold maxLen; omega) (by omega) hbase ?_
  intro v' w' h1 h2 _
  exact h v' w' (by simpa [OwnI] using h1) h2
theorem ownI_shape {w : World} {base : Nat} {v : Value} {zs : List Int} (h : OwnI w base v zs) : ∃ a c n, v = .slice a n c ∧ n = zs.length := by
  obtain ⟨_, h2⟩ := h
  rcases h2 with ⟨hv, h3⟩ | ⟨g, cap, cur, hv, hg, hh, _⟩
  · exact ⟨none, 0, 0, hv, h3.symm⟩
  · exact ⟨_, cap, _, hv, rfl⟩
def NwI (w w' : World) (e : Ending) (zs : List Int) : Prop := ∃ a c n, e = .returned (.slice a n c) ∧ n = zs.length ∧ OwnI w' w.heap.size (.slice a n c) zs ∧ Below w.heap.size w w'
theorem lit_slI1' (w : World) (x : Int) {g : Nat} (hg : g = w.heap.size) : SlI (w.alloc (.cells #[.int .i64 x] 3)) (some ⟨g, 0, none⟩) [x] := lit_slI1 w x hg
end Go.Proofs.Ytfdddkjonjpgpaa
namespace Go.Proofs.Ytfdddkjonjpgpaa
open Go.RowKit
def ub (zs : List Int) (k : Nat) : Bool := zs.getD (k / 8) 0 / ((2 ^ (k % 8) : Nat) : Int) % 2 == 1
def ubs (zs : List Int) (x : Nat) : List Bool := (List.range x).map (ub zs)
def okU (zs : List Int) (x : Int) : Bool := decide (0 ≤ x ∧ (zs.length : Int) = (x + 7) / 8 ∧ ∀ j, j < 8 * zs.length → x ≤ (j : Int) → ub zs j = false)
def outU (zs : List Int) (x : Int) : List Bool := if okU zs x = true then ubs zs x.toNat else []
def UnEnds (zs : List Int) (x : Int) (w : World) (e : Ending) (w' : World) : Prop :=
  ∃ a c, e = .returned (.tuple #[.slice a (outU zs x).length c, .bool (okU zs x)]) ∧ OwnB w' w.heap.size (.slice a (outU zs x).length c) (outU zs x) ∧ Below w.heap.size w w'
theorem one_cellB {w1 : World} {x : Bool} : ∀ j u, ([Value.bool x])[j]? = some u → (w1.alloc (.cells #[.bool x] 4)).cell? ((⟨w1.heap.size, 0, none⟩ : Addr).add j) = some u := by
  intro j u hu
  match j, hu with
  | 0, hu => simp at hu; subst hu; simp [Addr.add]
  | k + 1, hu => simp at hu
theorem one_oneB (x : Bool) : ∀ u ∈ [Value.bool x], u.oneCell' = true := by
  intro u hu; simp at hu; subst hu; rfl
end Go.Proofs.Ytfdddkjonjpgpaa
namespace Go.Proofs.Ytfdddkjonjpgpaa
open Go.RowKit
end Go.Proofs.Ytfdddkjonjpgpaa
