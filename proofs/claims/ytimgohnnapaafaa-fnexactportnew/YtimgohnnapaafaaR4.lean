/- Questions as bytes: the model's helpers. -/
import Derived.Test.YtimgohnnapaafaaQ6
import Derived.Test.YtimgohnnapaafaaR3
import Derived.Test.YtimgohnnapaafaaSteps
namespace Go.Proofs.Ytimgohnnapaafaa
open Go.RowKit

set_option linter.unusedVariables false

set_option linter.unusedSimpArgs false

/-- append onto a row of bytes of the call's own, in a statement whose order is open. -/
theorem step_app {ops : Array Oper} {o : Oper} {a : Act} {w : World} {K : Act → World → Prop} {Q : Exit → Act → World → Prop} {E : Prop} (hgd : o.guard = none) (s x : Operand)
    (ho : o.op = .call { callee := .builtin .append, args := #[s, x], argTypes := #[22, 22] }) (base : Nat) (v : Value) (zs : List Int) (hs : a.eval s = v) (hown : Own w base v zs)
    (ad : Addr) (m c : Nat) (ys : List Int) (hx : a.eval x = .slice (some ad) m c) (hm : m = ys.length) (hsl : Sl w (some ad) ys) (hlen : zs.length + ys.length ≤ 4000000) (hbase : base ≤ w.heap.size)
    (h : ∀ v' w', Own w' base v' (zs ++ ys) → w.grownBy w' v.ownBlock → K (a.put o.dst v') w') : if Region.wanted o (yielded ops a.tmps) = true then Oper.wp Try.prog o a w K Q else E := by
  obtain ⟨i0, hi, hz0, hz1, hz2⟩ := info_parts Try.info5
  subst hm
  refine step_append_own hgd s x 22 ho base 5 i0 (.int .u8 0) 1 1 Try.underlying22 hi hz0 hz1 hz2 rfl (by decide) v zs.length (zs.map (Value.int .u8)) hs hown ad ys.length c (ys.map (Value.int .u8)) hx (by simp) hsl.cellsAt (ones ys) (by unfold maxLen; omega) (by omega) hbase ?_
  intro v' w' h1 h2
  exact h v' w' (by simpa [Own] using h1) h2

theorem specPutWord_nw (g n c : Nat) (zs : List Int) (x : Int) (w : World) (hn : n = zs.length) (hs : Sl w (some ⟨g, 0, none⟩) zs) (hl : zs.length ≤ 2000000) :
    Calls Try.prog 64 #[.slice (some ⟨g, 0, none⟩) n c, .int .i64 x] w fun e w' => Nw w w' e (zs ++ wb x) := by
  refine (specPutWord_any ⟨g, 0, none⟩ n c zs x w hn hs hl).mono ?_
  rintro e w' ⟨v, rfl, ho, hb⟩
  obtain ⟨g', c', n', hv, hn'⟩ := own_some' ho (by simp)
  subst hv
  exact ⟨g', c', n', rfl, hn', ho, hb⟩

end Go.Proofs.Ytimgohnnapaafaa
