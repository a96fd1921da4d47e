/- Questions as bytes: words, and what stands ahead of them. -/
import Derived.Test.YtmhdneenjoelfaaQ1
import Derived.Test.YtmhdneenjoelfaaPutWord1
import Derived.Test.YtmhdneenjoelfaaPack1
import Derived.Test.YtmhdneenjoelfaaMarks2
import Derived.LoopN
import Derived.Lib.AppendZerosOnto
namespace Go.Proofs.Ytmhdneenjoelfaa
open Go.RowKit

set_option linter.unusedVariables false

set_option linter.unusedSimpArgs false

def wb (x : Int) : List Int := [x / 256 % 256, x % 256]

def wbs : List Int → List Int
  | [] => []
  | x :: r => x / 256 % 256 :: x % 256 :: wbs r

theorem wbs_length (ws : List Int) : (wbs ws).length = 2 * ws.length := by
  induction ws with
  | nil => rfl
  | cons x r ih => simp [wbs, ih]; omega

theorem wbs_snoc (ws : List Int) (x : Int) : wbs (ws ++ [x]) = wbs ws ++ [x / 256 % 256, x % 256] := by
  induction ws with
  | nil => rfl
  | cons y r ih => simp [wbs, ih]

theorem take_snoc {ws : List Int} {k : Nat} (h : k < ws.length) : ws.take (k + 1) = ws.take k ++ [ws.getD k 0] := by
  rw [List.take_add_one]; simp [h]

theorem wbs_step (ws : List Int) (k : Nat) (h : k < ws.length) : wbs (ws.take (k + 1)) = wbs (ws.take k) ++ [ws.getD k 0 / 256 % 256, ws.getD k 0 % 256] := by
  rw [take_snoc h, wbs_snoc]

/-- Bytes in memory of the call's own. -/
def Nw (w w' : World) (e : Ending) (zs : List Int) : Prop :=
  ∃ g c n, e = .returned (.slice (some ⟨g, 0, none⟩) n c) ∧ n = zs.length ∧ Own w' w.heap.size (.slice (some ⟨g, 0, none⟩) n c) zs ∧ Below w.heap.size w w'

theorem own_some {w : World} {base : Nat} {v : Value} {zs : List Int} (h : Own w base v zs) (hp : 0 < zs.length) : ∃ g c, v = .slice (some ⟨g, 0, none⟩) zs.length c ∧ base ≤ g ∧ g < w.heap.size := by
  have hl := fun k e => World.ownsRow.lt h k e
  obtain ⟨_, h2⟩ := h
  rcases h2 with ⟨hv, h3⟩ | ⟨g, cap, cur, hv, hg, hh, _⟩
  · simp at h3; subst h3; simp at hp
  · exact ⟨g, cap, hv, hg, (hl g (by rw [hv]; rfl)).2⟩

/-- append onto a row of bytes of the call's own. -/
theorem wpList_app {w : World} {ops : Array Oper} {rest : List Oper} {o : Oper} {a : Act} {Q : Exit → Act → World → Prop} (hgd : o.guard = none) (s x : Operand)
    (ho : o.op = .call { callee := .builtin .append, args := #[s, x], argTypes := #[22, 22] }) (base : Nat) (v : Value) (zs : List Int) (hs : a.eval s = v) (hown : Own w base v zs)
    (ad : Addr) (m c : Nat) (ys : List Int) (hx : a.eval x = .slice (some ad) m c) (hm : m = ys.length) (hsl : Sl w (some ad) ys) (hlen : zs.length + ys.length ≤ 4000000) (hbase : base ≤ w.heap.size)
    (h : ∀ v' w', Own w' base v' (zs ++ ys) → w.grownBy w' v.ownBlock → wpList Try.prog ops Q rest (a.put o.dst v') w') : wpList Try.prog ops Q (o :: rest) a w := by
  obtain ⟨i0, hi, hz0, hz1, hz2⟩ := info_parts Try.info5
  subst hm
  refine wpList_append_own w hgd s x 22 ho base 5 i0 (.int .u8 0) 1 1 Try.underlying22 hi hz0 hz1 hz2 rfl (by decide) v zs.length (zs.map (Value.int .u8)) hs hown ad ys.length c (ys.map (Value.int .u8)) hx (by simp) hsl.cellsAt (ones ys) (by unfold maxLen; omega) (by omega) hbase ?_
  intro v' w' h1 h2 _
  exact h v' w' (by simpa [Own] using h1) h2

theorem sl_lit1 (w : World) (x : Int) {g : Nat} (hg : g = w.heap.size) : Sl (w.alloc (.cells #[.int .u8 x] 5)) (some ⟨g, 0, none⟩) [x] := hg ▸
  .inr ⟨_, 0, rfl, by simp, fun i hi => by
    have : i = 0 := by simp at hi; omega
    subst this; simp⟩

theorem sl_lit2 (w : World) (x y : Int) {g : Nat} (hg : g = w.heap.size) : Sl (w.alloc (.cells #[.int .u8 x, .int .u8 y] 5)) (some ⟨g, 0, none⟩) [x, y] := hg ▸
  .inr ⟨_, 0, rfl, by simp, fun i hi => by
    have : i = 0 ∨ i = 1 := by simp at hi; omega
    rcases this with rfl | rfl <;> simp⟩

theorem own_lit1 (w : World) (x : Int) (B : Nat) (hB : B ≤ w.heap.size) : Own (w.alloc (.cells #[.int .u8 x] 5)) B (.slice (some ⟨w.heap.size, 0, none⟩) 1 1) [x] := by
  refine ⟨by simp, .inr ⟨w.heap.size, 1, #[.int .u8 x], rfl, hB, ?_, by simp, by unfold maxLen; omega, by simp, by simp⟩⟩
  show (w.heap.push (.cells #[.int .u8 x] 5 (0, 0)))[w.heap.size]? = _
  simp

theorem own_zero {w : World} {g cap : Nat} {cur : Array Value} {B : Nat} (hB : B ≤ g) (hh : w.heap[g]? = some (.cells cur 5 (0, 0))) (hc : cur.size = cap) (hm : cap ≤ maxLen) : Own w B (.slice (some ⟨g, 0, none⟩) 0 cap) [] :=
  ⟨by simp, .inr ⟨g, cap, cur, rfl, hB, hh, by simp, hm, by simp [hc], by simp⟩⟩

theorem bel_grown {B : Nat} {w0 w w' : World} {base : Nat} {v : Value} {zs : List Int} (hb : Below B w0 w) (h : Own w base v zs) (hg : w.grownBy w' v.ownBlock) (h1 : B ≤ base) (h2 : B ≤ w.heap.size) : Below B w0 w' := below_own hb h hg h1 h2

end Go.Proofs.Ytmhdneenjoelfaa
