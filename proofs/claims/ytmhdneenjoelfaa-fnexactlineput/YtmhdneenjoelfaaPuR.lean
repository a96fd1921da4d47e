/- A call of LinePut in one statement with its arguments' copies and its answer's box: the region draws its order. -/
import Derived.Test.YtmhdneenjoelfaaPu2
import Derived.Test.YtmhdneenjoelfaaRgY
import Derived.Test.YtmhdneenjoelfaaLn1t
namespace Go.Proofs.Ytmhdneenjoelfaa
open Go.RowKit Go.Joins

set_option linter.unusedVariables false

set_option linter.unusedSimpArgs false

theorem run_ext_op {P : Program} {ρ : Operand → Value} {o : Oper} {u : World} {x : Operand} {k : Nat} {vs : Array Value} {v : Value} (ho : o.op = .extract x k) (ha : ρ x = .tuple vs) (hv : vs[k]? = some v) : (execOp ρ o).run P u = .ok (.value v) u := by
  unfold execOp
  simp only [ho, ha]
  rw [Sem.run_bind]
  simp [Instr.extract, hv]

theorem run_alloc_op {P : Program} {ρ : Operand → Value} {o : Oper} {w : World} (ty : TypeId) (ho : o.op = .alloc ty) (cs : Array Value) (n b : Nat) (hi : (P.info? ty).map (fun i => (i.zero, i.size, i.bytes)) = some (some (.agg cs), n, b)) : (execOp ρ o).run P w = .ok (.value (.pointer (some ⟨w.heap.size, 0, none⟩))) (w.alloc (.cells cs ty)) := by
  have hz : (zeroValue ty).run P w = .ok (.agg cs) w := by
    cases hq : P.info? ty with
    | none => simp [hq] at hi
    | some i => simp [hq] at hi; simp [zeroValue, typeInfo, hq, hi.1]
  unfold execOp
  simp only [ho]
  rw [Sem.run_bind]
  have h9 : (Instr.alloc ty true (.tuple #[])).run P w = .ok (.pointer (some ⟨w.heap.size, 0, none⟩)) (w.alloc (.cells cs ty)) := by
    unfold Instr.alloc
    rw [Sem.run_bind, hz]
    rfl
  rw [h9]
  rfl

theorem wpList_run_any {P : Program} {ops : Array Oper} {rest : List Oper} {op : Oper} {a : Act} {w : World} {Q : Exit → Act → World → Prop} (hgd : op.guard = none) (v : Value) (hr : (execOp a.eval op).run P w = .ok (.value v) w) (h : wpList P ops Q rest (a.put op.dst v) w) : wpList P ops Q (op :: rest) a w :=
  wpList_plain hgd fun K hK => by
    unfold Oper.wp
    rw [hr]
    exact hK _ _ h

theorem wpList_ext_any {P : Program} {ops : Array Oper} {rest : List Oper} {op : Oper} {a : Act} {w : World} {Q : Exit → Act → World → Prop} (hgd : op.guard = none) (x : Operand) (k : Nat) (ho : op.op = .extract x k) (vs : Array Value) (v : Value) (ha : a.eval x = .tuple vs) (hv : vs[k]? = some v) (h : wpList P ops Q rest (a.put op.dst v) w) : wpList P ops Q (op :: rest) a w :=
  wpList_run_any hgd v (run_ext_op ho ha hv) h

theorem wpList_load_g {P : Program} {ops : Array Oper} {rest : List Oper} {op : Oper} {a : Act} {w : World} {Q : Exit → Act → World → Prop} (hw : Region.wanted op (yielded ops a.tmps) = true) (ty : TypeId) (x : Operand) (ho : op.op = .load ty x)
    (b o : Nat) (hx : a.eval x = .pointer (some ⟨b, o, none⟩)) (cs : List Value) (d : TypeDesc) (hc : w.rangeAt b o cs)
    (hu : P.underlying ty = some d) (hd : d.isRow = true) (hi : (P.info? ty).map (·.size) = some cs.length)
    (h : wpList P ops Q rest (a.put op.dst (.agg cs.toArray)) w) : wpList P ops Q (op :: rest) a w :=
  wpList_step fun K hK => by
    rw [if_pos hw]
    exact wp_load_mid ty x ho b o hx cs d hc hu hd hi (hK _ _ h)

/-- A line lies in the box g. -/
def StL (base n : Nat) (f : Nat → Ca) (L : La) (l1 l2 : Nat) (u : World) (g : Nat) : Prop := ∃ a cp a1 a2 c1 c2, Blk u g 32 (lac L a n cp a1 a2 l1 l2 c1 c2) ∧ LnP u base n f L a cp a1 a2 l1 l2 c1 c2

theorem StL.below {base n l1 l2 g : Nat} {f : Nat → Ca} {L : La} {u u' : World} (h : StL base n f L l1 l2 u g) (hb : Below u.heap.size u u') : StL base n f L l1 l2 u' g := by
  obtain ⟨a, cp, a1, a2, c1, c2, h1, h2⟩ := h
  exact ⟨a, cp, a1, a2, c1, c2, h1.below hb, h2.below hb⟩

/-- What is known of the world while such a region runs: the box is made by operation 8 and written by operation 9. -/
def RgP (w8 : World) (S : Nat) (St : World → Nat → Prop) (l : Nat → Bool) (σ : Nat → Value) (u : World) : Prop :=
  Below w8.heap.size w8 u ∧ (l 8 = true → ∃ g, σ S = .pointer (some ⟨g, 0, none⟩) ∧ w8.heap.size ≤ g ∧ (l 9 = false → Blk u g 32 lzc) ∧ (l 9 = true → St u g))

theorem RgP.next {w8 u u' : World} {S : Nat} {St : World → Nat → Prop} {l : Nat → Bool} {σ : Nat → Value} (h : RgP w8 S St l σ u) {i d : Nat} {v : Value} (h8 : i ≠ 8) (h9 : i ≠ 9) (hd : d ≠ S) (hb : Below u.heap.size u u') (hSt : ∀ g, St u g → St u' g) : RgP w8 S St (updB l i) (updS σ (some d) v) u' := by
  refine ⟨bel_nx h.1 hb, fun hl => ?_⟩
  have e8 : updB l i 8 = l 8 := by unfold updB; rw [if_neg (Ne.symm h8)]
  have e9 : updB l i 9 = l 9 := by unfold updB; rw [if_neg (Ne.symm h9)]
  rw [e8] at hl
  rw [e9]
  obtain ⟨g, q1, q2, q3, q4⟩ := h.2 hl
  refine ⟨g, ?_, q2, fun q => (q3 q).below hb, fun q => hSt g (q4 q)⟩
  show (if S = d then v else σ S) = _
  rw [if_neg (Ne.symm hd)]
  exact q1

theorem RgP.made {w8 u : World} {S : Nat} {St : World → Nat → Prop} {l : Nat → Bool} {σ : Nat → Value} (h : RgP w8 S St l σ u) (h9 : l 9 = false) : RgP w8 S St (updB l 8) (updS σ (some S) (.pointer (some ⟨u.heap.size, 0, none⟩))) (u.alloc (.cells lzc 32)) := by
  refine ⟨bel_nx h.1 (bel_alloc _ _), fun _ => ⟨u.heap.size, ?_, h.1.size, fun _ => Blk.new _ _ _, fun q => ?_⟩⟩
  · show (if S = S then _ else _) = _
    rw [if_pos rfl]
  · have e9 : updB l 8 9 = l 9 := by unfold updB; rw [if_neg (by decide)]
    rw [e9, h9] at q; cases q

/-- Reads, calls and new memory; or a store into a line's box. -/
def MgP (b : Nat) (u u' : World) : Prop := Below u.heap.size u u' ∨ ∃ g, u.grownBy u' (some g) ∧ ExB u g 32 ∧ b ≤ g

theorem MgP.ln {b base n cp l1 l2 c1 c2 : Nat} {f : Nat → Ca} {L : La} {a a1 a2 : Option Addr} {u u' : World} (hm : MgP b u u') (h : LnP u base n f L a cp a1 a2 l1 l2 c1 c2) : LnP u' base n f L a cp a1 a2 l1 l2 c1 c2 := by
  rcases hm with hb | ⟨g, hg, hx, _⟩
  · exact h.below hb
  · exact h.keptT hg hx (by decide) (by decide) (by decide)

theorem MgP.i {b base : Nat} {v : Value} {zs : List Int} {u u' : World} (hm : MgP b u u') (h : OwnI u base v zs) : OwnI u' base v zs := by
  rcases hm with hb | ⟨g, hg, ⟨cs, hx⟩, _⟩
  · exact h.below hb
  · exact h.kept hg (.inr (row_noBlk h hx (by decide)))

theorem MgP.b {b base : Nat} {v : Value} {zs : List Bool} {u u' : World} (hm : MgP b u u') (h : OwnB u base v zs) : OwnB u' base v zs := by
  rcases hm with hb | ⟨g, hg, ⟨cs, hx⟩, _⟩
  · exact h.below hb
  · exact h.kept hg (.inr (row_noBlk h hx (by decide)))

/-- What LinePut tells, by what was put. -/
def LpR (w w' : World) (e : Ending) (n' : Nat) (f' : Nat → Ca) (L : La) (l1 l2 : Nat) (b : Bool) : Prop :=
  ∃ a cp a1 a2 c1 c2, e = .returned (.tuple #[.agg (lac L a n' cp a1 a2 l1 l2 c1 c2), .bool b]) ∧ LnO w' w.heap.size n' f' L a cp a1 a2 l1 l2 c1 c2 ∧ Below w.heap.size w w'

theorem LnP.mono2 {w : World} {base base' n cp l1 l2 c1 c2 : Nat} {f : Nat → Ca} {L : La} {a a1 a2 : Option Addr} (h : LnP w base n f L a cp a1 a2 l1 l2 c1 c2) (hb : base' ≤ base) : LnP w base' n f L a cp a1 a2 l1 l2 c1 c2 := h.mono hb

theorem FrR.keep {w w' : World} {v1 v2 : Value} {hi : Nat} (h : FrR w w' v1 v2) (h1 : ∀ k, v1.ownBlock = some k → k < hi) (h2 : ∀ k, v2.ownBlock = some k → k < hi) : Keep hi w w' :=
  ⟨h.1, fun k hk hl => h.2 k hl (fun e => by have := h1 k e; omega) (fun e => by have := h2 k e; omega)⟩

theorem tlP (b : Bool) (n : Nat) (f : Nat → Ca) (C : Ca) : tl (fPut b n f C) (nPut b n) ≤ tl f n + (C.ws.length + C.bs.length) := by
  have hc : ∀ k, k ≤ n → tl (fun k => if k = n then C else f k) k = tl f k := by
    intro k
    induction k with
    | zero => intro _; rfl
    | succ k ih =>
      intro hk
      simp only [tl]
      rw [ih (by omega), if_neg (by omega)]
  unfold fPut nPut
  cases b with
  | false => simp
  | true =>
    simp only [if_pos, tl]
    rw [hc n (Nat.le_refl _)]
    simp

theorem bdP {n m1 m2 l1 l2 : Nat} {f : Nat → Ca} {C : Ca} (b : Bool) (h : n + tl f n + l1 + l2 + (C.ws.length + C.bs.length) ≤ 1048576) : BdC (nPut b n) (fPut b n f C) ∧ SmL (nPut b n) (fPut b n f C) l1 l2 := by
  have h1 := tlP b n f C
  have h2 : nPut b n ≤ n + 1 := by unfold nPut; split <;> omega
  refine ⟨⟨by omega, fun k hk => ?_⟩, ?_⟩
  · have := tl_at (fPut b n f C) hk
    omega
  · unfold SmL
    rw [tlCa_eq]
    omega

end Go.Proofs.Ytmhdneenjoelfaa
