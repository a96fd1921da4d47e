/- Steps of plain regions over whole structs: moves, literals, results that lie in a cell. -/
import Derived.Test.YtmhdneenjoelfaaMid
namespace Go.Proofs.Ytmhdneenjoelfaa
open Go.RowKit Go.Joins

set_option linter.unusedVariables false

set_option linter.unusedSimpArgs false

theorem wpList_move_any {P : Program} {ops : Array Oper} {rest : List Oper} {op : Oper} {a : Act} {w : World} {Q : Exit → Act → World → Prop} (hgd : op.guard = none) (x : Operand) (ho : op.op = .move x) (v : Value) (hv : a.eval x = v)
    (h : wpList P ops Q rest (a.put op.dst v) w) : wpList P ops Q (op :: rest) a w :=
  wpList_plain hgd fun K hK => by
    unfold Oper.wp execOp
    simp only [ho, hv]
    exact hK _ _ h

theorem wpList_build_any {P : Program} {ops : Array Oper} {rest : List Oper} {op : Oper} {a : Act} {w : World} {Q : Exit → Act → World → Prop} (hgd : op.guard = none) (t : TypeId) (ps : Array (Nat × Operand)) (ho : op.op = .build t ps) (qs : Array (Nat × Value)) (hq : ps.map (fun (i, x) => (i, a.eval x)) = qs) (v : Value) (hr : (Instr.build t qs).run P w = .ok v w)
    (h : wpList P ops Q rest (a.put op.dst v) w) : wpList P ops Q (op :: rest) a w :=
  wpList_plain hgd fun K hK => by
    unfold Oper.wp execOp
    simp only [ho, hq]
    rw [Sem.run_bind, hr]
    exact hK _ _ h

/-- One result, which lies in a cell. -/
theorem results_cell {P : Program} {fn : Func} {tmps : Array Value} {w : World} {s : Nat} {t : TypeId} {g o : Nat} {v : Value} (hf : fn.results = #[.cell s t]) (ha : tmps.getD s undef = .pointer (some ⟨g, o, none⟩)) (hl : (loadVar t ⟨g, o, none⟩).run P w = .ok v w) : (results fn tmps).run P w = .ok v w := by
  rw [Array.getD_eq_getD_getElem?] at ha
  unfold results
  rw [hf]
  simp [ha, asAddr, hl, Sem.run_bind]

/-- Two results: one lies in a cell, one in a slot. -/
theorem results_cell1 {P : Program} {fn : Func} {tmps : Array Value} {w : World} {s s1 : Nat} {t : TypeId} {g o : Nat} {v v1 : Value} (hf : fn.results = #[.cell s t, .tmp s1]) (ha : tmps.getD s undef = .pointer (some ⟨g, o, none⟩)) (h1 : tmps.getD s1 undef = v1) (hl : (loadVar t ⟨g, o, none⟩).run P w = .ok v w) : (results fn tmps).run P w = .ok (.tuple #[v, v1]) w := by
  rw [Array.getD_eq_getD_getElem?] at ha h1
  unfold results
  rw [hf]
  simp [ha, asAddr, hl, h1, Sem.run_bind]

/-- Three results: one lies in a cell, two in slots. -/
theorem results_cell2 {P : Program} {fn : Func} {tmps : Array Value} {w : World} {s s1 s2 : Nat} {t : TypeId} {g o : Nat} {v v1 v2 : Value} (hf : fn.results = #[.cell s t, .tmp s1, .tmp s2]) (ha : tmps.getD s undef = .pointer (some ⟨g, o, none⟩)) (h1 : tmps.getD s1 undef = v1) (h2 : tmps.getD s2 undef = v2) (hl : (loadVar t ⟨g, o, none⟩).run P w = .ok v w) : (results fn tmps).run P w = .ok (.tuple #[v, v1, v2]) w := by
  rw [Array.getD_eq_getD_getElem?] at ha h1 h2
  unfold results
  rw [hf]
  simp [ha, asAddr, hl, h1, h2, Sem.run_bind]

end Go.Proofs.Ytmhdneenjoelfaa
