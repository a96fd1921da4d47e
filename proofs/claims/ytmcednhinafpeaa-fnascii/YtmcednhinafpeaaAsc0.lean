/- Small laws: silences, appends of bytes, parts of bytes. -/
import Derived.Test.YtmcednhinafpeaaRtu5
import Derived.Test.YtmcednhinafpeaaR1
import Derived.Test.YtmcednhinafpeaaCopT
import Derived.Test.YtmcednhinafpeaaSteps
import Derived.OwnWalk
import Derived.Deep.RegionHeld3
import Derived.Lib.Walk
import Derived.Deep.Upon
namespace Go.Proofs.Ytmcednhinafpeaa
open Go.RowKit

set_option linter.unusedVariables false

set_option linter.unusedSimpArgs false

theorem Sl.takeT {w : World} {a : Option Addr} {zs : List Int} (h : Sl w a zs) (m : Nat) : Sl w a (zs.take m) := by
  rcases h with h | ⟨b, off, ha, hb, hc⟩
  · exact .inl (by rw [h]; simp)
  · refine .inr ⟨b, off, ha, hb, fun i hi => ?_⟩
    have hi' : i < zs.length := by simp at hi; omega
    have hm : i < m := by simp at hi; omega
    rw [List.getD_eq_getElem?_getD, List.getElem?_take, if_pos hm, ← List.getD_eq_getElem?_getD]
    exact hc i hi'

theorem Sl.dropT {w : World} {b off : Nat} {zs : List Int} (h : Sl w (some ⟨b, off, none⟩) zs) (hz : 1 < zs.length) : Sl w (some ⟨b, off + 1, none⟩) (zs.drop 1) := by
  rcases h with h | ⟨b', off', ha, hb, hc⟩
  · rw [h] at hz; simp at hz
  · simp at ha
    obtain ⟨rfl, rfl⟩ := ha
    refine .inr ⟨b, off + 1, rfl, hb, fun i hi => ?_⟩
    have := hc (i + 1) (by simp at hi; omega)
    rw [show off + 1 + i = off + (i + 1) by omega, this]
    simp [List.getD_eq_getElem?_getD, List.getElem?_drop, Nat.add_comm]

/-- append onto a row of bytes of the call's own, in a statement whose order is open. -/
theorem step_appT {ops : Array Oper} {o : Oper} {a : Act} {w : World} {K : Act → World → Prop} {Q : Exit → Act → World → Prop} {E : Prop} (hgd : o.guard = none) (s x : Operand)
    (ho : o.op = .call { callee := .builtin .append, args := #[s, x], argTypes := #[22, 22] }) (base : Nat) (v : Value) (zs : List Int) (hs : a.eval s = v) (hown : Own w base v zs)
    (ad : Addr) (m c : Nat) (ys : List Int) (hx : a.eval x = .slice (some ad) m c) (hm : m = ys.length) (hsl : Sl w (some ad) ys) (hlen : zs.length + ys.length ≤ 4000000) (hbase : base ≤ w.heap.size)
    (h : ∀ v' w', Own w' base v' (zs ++ ys) → w.grownBy w' v.ownBlock → K (a.put o.dst v') w') : if Region.wanted o (yielded ops a.tmps) = true then Oper.wp Try.prog o a w K Q else E := by
  obtain ⟨i0, hi, hz0, hz1, hz2⟩ := info_parts Try.info5
  subst hm
  refine step_append_own hgd s x 22 ho base 5 i0 (.int .u8 0) 1 1 Try.underlying22 hi hz0 hz1 hz2 rfl (by decide) v zs.length (zs.map (Value.int .u8)) hs hown ad ys.length c (ys.map (Value.int .u8)) hx (by simp) hsl.cellsAt (ones ys) (by unfold maxLen; omega) (by omega) hbase ?_
  intro v' w' h1 h2
  exact h v' w' (by simpa [Own] using h1) h2

theorem own_lit0 (w : World) (B : Nat) (hB : B ≤ w.heap.size) : Own (w.alloc (.cells #[] 5)) B (.slice (some ⟨w.heap.size, 0, none⟩) 0 0) [] :=
  ⟨rfl, .inr ⟨w.heap.size, 0, #[], rfl, hB, Blk.new w #[] 5, by simp, by simp, rfl, rfl⟩⟩

def tkB (t : Int) : Bool := decide (0 ≤ t ∧ t ≤ 4294967295)

/-- So many ticks from one to another. -/
def gap (f t : Int) : Int := (t - f) % 4294967296

set_option maxHeartbeats 1000000 in
theorem specGap_ok (f t : Int) (w : World) (h1 : 0 ≤ f) (h2 : f ≤ 4294967295) (h3 : 0 ≤ t) (h4 : t ≤ 4294967295) :
    Calls Try.prog 58 #[.int .i64 f, .int .i64 t] w fun e w' => e = .returned (.int .i64 (gap f t)) ∧ w' = w := by
  have e := and32 (t - f)
  unfold gap
  go_enter Try.func58, Try.ntmps58
  go_wp2_with (first | (go_at_call 57; go_in) | (go_at_call 55; go_in))
  go_ret
  exact ⟨rfl, rfl⟩

set_option maxHeartbeats 1000000 in
theorem implGap_ok (f t : Int) (w : World) (h1 : 0 ≤ f) (h2 : f ≤ 4294967295) (h3 : 0 ≤ t) (h4 : t ≤ 4294967295) :
    Calls Try.prog 48 #[.int .i64 f, .int .i64 t] w fun e w' => e = .returned (.int .i64 (gap f t)) ∧ w' = w := by
  have e := and32 (t - f)
  unfold gap
  go_enter Try.func48, Try.ntmps48
  go_wp2_with (go_at_call 46; go_in)
  go_ret
  exact ⟨rfl, rfl⟩

theorem bys_none {w : World} {ys : List Int} (h : Sl w none ys) : ys = [] := by
  rcases h with h | ⟨b, off, ha, _⟩
  · exact h
  · cases ha

/-- append of bytes that may be none onto bytes of the call's own. -/
theorem wpList_appTO {w : World} {ops : Array Oper} {rest : List Oper} {o : Oper} {a : Act} {Q : Exit → Act → World → Prop} (hgd : o.guard = none) (s x : Operand)
    (ho : o.op = .call { callee := .builtin .append, args := #[s, x], argTypes := #[22, 22] }) (base : Nat) (v : Value) (zs : List Int) (hs : a.eval s = v) (hown : Own w base v zs)
    (ad : Option Addr) (m c : Nat) (ys : List Int) (hx : a.eval x = .slice ad m c) (hm : m = ys.length) (hsl : Sl w ad ys) (hlen : zs.length + ys.length ≤ 4000000) (hbase : base ≤ w.heap.size)
    (h : ∀ v' w', Own w' base v' (zs ++ ys) → w.grownBy w' v.ownBlock → wpList Try.prog ops Q rest (a.put o.dst v') w') : wpList Try.prog ops Q (o :: rest) a w := by
  cases ad with
  | some ad => exact wpList_app hgd s x ho base v zs hs hown ad m c ys hx hm hsl hlen hbase h
  | none =>
    obtain rfl := bys_none hsl
    obtain rfl : m = 0 := hm
    obtain ⟨i0, hi, hz0, hz1, hz2⟩ := info_parts Try.info5
    have hgo : ∀ (sa : Option Addr) (sn sc : Nat), sn ≤ sc → v = .slice sa sn sc → wpList Try.prog ops Q (o :: rest) a w := by
      rintro sa sn sc hcap rfl
      exact Lib.wpList_append_run _ hgd s x _ _ ho _ _ hs hx _ _ (run_append_nothing w 22 22 o.type 5 i0 Try.underlying22 hi sa sn sc hcap _ (Src.ofNil w Try.underlying22 c)) (h _ w (by simpa using hown) ⟨rfl, rfl, rfl, Nat.le_refl _, fun _ _ _ => rfl⟩)
    rcases hown.2 with ⟨e, _⟩ | ⟨g, cap', cur, hv, _, hh, h3, _⟩
    · exact hgo _ _ _ (Nat.le_refl 0) e
    · exact hgo _ _ _ h3 hv

theorem own_shapeT {w : World} {base : Nat} {v : Value} {zs : List Int} (h : Own w base v zs) : ∃ a c n, v = .slice a n c ∧ n = zs.length := by
  obtain ⟨_, h2⟩ := h
  rcases h2 with ⟨h2, h3⟩ | ⟨g, cap', cur, hv, _⟩
  · exact ⟨none, 0, 0, h2, h3.symm⟩
  · exact ⟨_, _, _, hv, rfl⟩

end Go.Proofs.Ytmcednhinafpeaa
