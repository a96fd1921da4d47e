/- What single operations answer, over a frame that is not written out. -/
import Derived.Test.YtmhdneenjoelfaaRgV
namespace Go.Proofs.Ytmhdneenjoelfaa
open Go.RowKit

theorem run_load_op {P : Program} {ρ : Operand → Value} {o : Oper} {u : World} {t : TypeId} {p : Operand} {ptr v : Value} (ho : o.op = .load t p) (hp : ρ p = ptr) (hr : (Instr.loadAt t ptr).run P u = .ok v u) : (execOp ρ o).run P u = .ok (.value v) u := by
  unfold execOp
  simp only [ho, hp]
  rw [Sem.run_bind, hr]
  rfl

theorem run_call_op {P : Program} {ρ : Operand → Value} {o : Oper} {u : World} {f : FuncId} {xs : Array Operand} {ts : Array TypeId} {args : Array Value} (ho : o.op = .call ⟨.value (.func f), xs, ts⟩) (hf : ρ (.func f) = .func (.func f) #[] #[]) (hx : xs.map ρ = args)
    (hc : (callFunc f args).run P u = .ok (.enter f args) u) : (execOp ρ o).run P u = .ok (.enter f args) u := by
  unfold execOp
  simp only [ho, resolve, hf, hx]
  show (callFunc f ((#[] ++ args) ++ #[])).run P u = _
  simpa using hc

theorem run_pick_op {P : Program} {ρ : Operand → Value} {o : Oper} {u : World} {c x y : Operand} {b : Bool} (ho : o.op = .pick c x y) (hc : ρ c = .bool b) : (execOp ρ o).run P u = .ok (.value (if b = true then ρ x else ρ y)) u := by
  unfold execOp
  simp only [ho, hc]
  rfl

theorem run_bin_op {P : Program} {ρ : Operand → Value} {o : Oper} {u : World} {op : BinOp} {t t' : TypeId} {x y : Operand} {a b v : Value} (ho : o.op = .binOp op t x y t') (ha : ρ x = a) (hb : ρ y = b) (hr : (do eqGuard op t x y a b; binOp op t a b : Sem Value).run P u = .ok v u) : (execOp ρ o).run P u = .ok (.value v) u := by
  unfold execOp
  simp only [ho, ha, hb]
  rw [Sem.run_bind, hr]
  rfl

end Go.Proofs.Ytmhdneenjoelfaa
