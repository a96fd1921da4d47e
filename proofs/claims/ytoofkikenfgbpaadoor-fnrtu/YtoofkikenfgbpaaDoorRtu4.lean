/- Silences; copies of a listener; of the program and of its model. -/
import Derived.Test.YtoofkikenfgbpaaDoorRtu3
import Derived.Lib.Walk
import Derived.Deep.Upon
namespace Go.Proofs.YtoofkikenfgbpaaDoor
open Go.RowKit

set_option linter.unusedVariables false

set_option linter.unusedSimpArgs false

def tkB (t : Int) : Bool := decide (0 ≤ t ∧ t ≤ 4294967295)

/-- So many ticks from one to another. -/
def gap (f t : Int) : Int := (t - f) % 4294967296

set_option maxHeartbeats 1000000 in
theorem implGap_ok (f t : Int) (w : World) (h1 : 0 ≤ f) (h2 : f ≤ 4294967295) (h3 : 0 ≤ t) (h4 : t ≤ 4294967295) :
    Calls Tryd.prog 52 #[.int .i64 f, .int .i64 t] w fun e w' => e = .returned (.int .i64 (gap f t)) ∧ w' = w := by
  have e := and32 (t - f)
  unfold gap
  go_enter Tryd.func52, Tryd.ntmps52
  go_wp2_with (go_at_call 34; go_in)
  go_ret
  exact ⟨rfl, rfl⟩

theorem bys_none {w : World} {ys : List Int} (h : Sl w none ys) : ys = [] := by
  rcases h with h | ⟨b, off, ha, _⟩
  · exact h
  · cases ha

/-- append of bytes that may be none onto bytes of the call's own. -/
theorem wpList_appTO {w : World} {ops : Array Oper} {rest : List Oper} {o : Oper} {a : Act} {Q : Exit → Act → World → Prop} (hgd : o.guard = none) (s x : Operand)
    (ho : o.op = .call { callee := .builtin .append, args := #[s, x], argTypes := #[22, 22] }) (base : Nat) (v : Value) (zs : List Int) (hs : a.eval s = v) (hown : Own w base v zs)
    (ad : Option Addr) (m c : Nat) (ys : List Int) (hx : a.eval x = .slice ad m c) (hm : m = ys.length) (hsl : Sl w ad ys) (hlen : zs.length + ys.length ≤ 4000000) (hbase : base ≤ w.heap.size)
    (h : ∀ v' w', Own w' base v' (zs ++ ys) → w.grownBy w' v.ownBlock → wpList Tryd.prog ops Q rest (a.put o.dst v') w') : wpList Tryd.prog ops Q (o :: rest) a w := by
  cases ad with
  | some ad => exact wpList_app hgd s x ho base v zs hs hown ad m c ys hx hm hsl hlen hbase h
  | none =>
    obtain rfl := bys_none hsl
    obtain rfl : m = 0 := hm
    obtain ⟨i0, hi, hz0, hz1, hz2⟩ := info_parts Tryd.info5
    have hgo : ∀ (sa : Option Addr) (sn sc : Nat), sn ≤ sc → v = .slice sa sn sc → wpList Tryd.prog ops Q (o :: rest) a w := by
      rintro sa sn sc hcap rfl
      exact Lib.wpList_append_run _ hgd s x _ _ ho _ _ hs hx _ _ (run_append_nothing w 22 22 o.type 5 i0 Tryd.underlying22 hi sa sn sc hcap _ (Src.ofNil w Tryd.underlying22 c)) (h _ w (by simpa using hown) ⟨rfl, rfl, rfl, Nat.le_refl _, fun _ _ _ => rfl⟩)
    rcases hown.2 with ⟨e, _⟩ | ⟨g, cap', cur, hv, _, hh, h3, _⟩
    · exact hgo _ _ _ (Nat.le_refl 0) e
    · exact hgo _ _ _ h3 hv

theorem own_shapeT {w : World} {base : Nat} {v : Value} {zs : List Int} (h : Own w base v zs) : ∃ a c n, v = .slice a n c ∧ n = zs.length := by
  obtain ⟨_, h2⟩ := h
  rcases h2 with ⟨h2, h3⟩ | ⟨g, cap', cur, hv, _⟩
  · exact ⟨none, 0, 0, h2, h3.symm⟩
  · exact ⟨_, _, _, hv, rfl⟩

/-- A listener of the call's own. -/
def NwR (w w' : World) (e : Ending) (zs : List Int) (ls : Int) (bd : Bool) (hf wh : Int) : Prop :=
  ∃ a c n, e = .returned (rt a n c ls bd hf wh) ∧ n = zs.length ∧ Own w' w.heap.size (.slice a n c) zs ∧ Below w.heap.size w w'

set_option maxRecDepth 20000 in
set_option maxHeartbeats 4000000 in
theorem copyRtu_any (a : Option Addr) (l c : Nat) (ls : Int) (bd : Bool) (hf wh : Int) (zs : List Int) (w : World) (hn : l = zs.length) (hs : Sl w a zs) (hl : zs.length ≤ 2000000) :
    Calls Tryd.prog 32 #[rt a l c ls bd hf wh] w fun e w' => NwR w w' e zs ls bd hf wh := by
  have HN : Hid (l = zs.length) := hn
  obtain ⟨W0, hW0'⟩ : ∃ W0, W0 = (w.alloc (.cells #[.slice a l c, .int .i64 ls, .bool bd, .int .i64 hf, .int .i64 wh] 33)).alloc (.cells #[.slice none 0 0, .int .i64 0, .bool false, .int .i64 0, .int .i64 0] 33) := ⟨_, rfl⟩
  have hW0 : Hid (W0 = _) := hW0'
  have hz : W0.heap.size = w.heap.size + 1 + 1 := by rw [hW0']; simp
  have B0 : Below w.heap.size w W0 := by rw [hW0']; exact bel_next (bel_alloc w _) (bel_alloc _ _)
  have X0 : Blk W0 w.heap.size 33 #[.slice a l c, .int .i64 ls, .bool bd, .int .i64 hf, .int .i64 wh] := by rw [hW0']; exact ((Blk.new w _ _).below (bel_alloc _ _))
  have R0 : Blk W0 (w.heap.size + 1) 33 #[.slice none 0 0, .int .i64 0, .bool false, .int .i64 0, .int .i64 0] := by rw [hW0']; have := (Blk.new (w.alloc (.cells #[.slice a l c, .int .i64 ls, .bool bd, .int .i64 hf, .int .i64 wh] 33)) #[.slice none 0 0, .int .i64 0, .bool false, .int .i64 0, .int .i64 0] 33); simpa using this
  have S1 : Hid (Sl W0 a zs) := hs.below B0
  have HL : Hid (([] : List Int).length + zs.length ≤ 4000000 ∧ zs.length ≤ 2000000) := by show _ ∧ _; simp; omega
  clear hn hs hW0' hl
  go_enter Tryd.func32, Tryd.ntmps32
  go_wp2_with fail
  rw [← hW0.out]
  refine (copyT_any a l c zs _ HN.out S1.out HL.out.2).mono ?_
  rintro e w1 ⟨g, rfl, o1', b1'⟩
  have b1 := bel_next B0 b1'
  have X1 := X0.below b1'
  have R1 := R0.below b1'
  have o1 := o1'.monoT (by omega : w.heap.size ≤ W0.heap.size)
  have HN' : Hid (l = zs.length) := HN.out
  clear b1' o1' X0 R0 B0
  obtain ⟨x0, x1, x2, x3, x4⟩ := X1.five
  obtain ⟨r0, r1, r2, r3, r4⟩ := R1.five
  have fx := X1.fro
  have fr := R1.fro
  have HJ : Hid (Own w1 w.heap.size (.slice (some ⟨g, 0, none⟩) l l) zs ∧ Below w.heap.size w w1 ∧ ExB w1 w.heap.size 33 ∧ ExB w1 (w.heap.size + 1) 33) := ⟨o1, b1, ⟨_, X1⟩, ⟨_, R1⟩⟩
  clear X1 R1 o1 b1
  go_wp2
  refine bodyPost_ret (v := rt (some ⟨g, 0, none⟩) l l ls bd hf wh) (by simp [results, Tryd.results32, go_sem, r0, r1, r2, r3, r4]) rfl ?_
  obtain ⟨j3, b3, eX, eR⟩ := HJ.out
  exact ⟨_, _, _, rfl, HN'.out, (show Own _ _ _ _ from (row_setE (row_setE (row_setE (row_setE (row_setE (row_setE j3 eX (by decide)) (ExB.set eR) (by decide)) (ExB.set (ExB.set eR)) (by decide)) (ExB.set (ExB.set (ExB.set eR))) (by decide)) (ExB.set (ExB.set (ExB.set (ExB.set eR)))) (by decide)) (ExB.set (ExB.set (ExB.set (ExB.set (ExB.set eR))))) (by decide))), ((((((b3.setCell (p := ⟨w.heap.size, 0, none⟩) (by show w.heap.size ≤ w.heap.size; omega) _).setCell (p := ⟨w.heap.size + 1, 0, none⟩) (by show w.heap.size ≤ w.heap.size + 1; omega) _).setCell (p := ⟨w.heap.size + 1, 1, none⟩) (by show w.heap.size ≤ w.heap.size + 1; omega) _).setCell (p := ⟨w.heap.size + 1, 2, none⟩) (by show w.heap.size ≤ w.heap.size + 1; omega) _).setCell (p := ⟨w.heap.size + 1, 3, none⟩) (by show w.heap.size ≤ w.heap.size + 1; omega) _).setCell (p := ⟨w.heap.size + 1, 4, none⟩) (by show w.heap.size ≤ w.heap.size + 1; omega) _)⟩

end Go.Proofs.YtoofkikenfgbpaaDoor
