/- Rows of a device that are written over by copy. -/
import Derived.Test.YtcnbbknmofonkaaDev14
namespace Go.Proofs.Ytcnbbknmofonkaa
open Go.RowKit

set_option linter.unusedVariables false

set_option linter.unusedSimpArgs false

/-- What a row is behind values that were laid over it. -/
def wr {α : Type} (hs : List α) (k : Nat) (ws : List α) : List α := hs.take k ++ (ws ++ hs.drop (k + ws.length))

theorem wr_length {α : Type} (hs : List α) (k : Nat) (ws : List α) (h : k + ws.length ≤ hs.length) : (wr hs k ws).length = hs.length := by simp [wr]; omega

theorem wr_one {α : Type} (hs : List α) (k : Nat) (x : α) (h : k < hs.length) : wr hs k [x] = hs.set k x := by
  unfold wr
  rw [List.set_eq_take_append_cons_drop, if_pos h]
  simp

theorem grown_row (w : World) (g : Nat) (cs : Array Value) : w.grownBy (w.setRow g cs) (some g) :=
  ⟨rfl, rfl, rfl, by simp [World.setRow], fun k hk hne => setRow_other w g k cs (by simpa using hne)⟩

theorem OwnI.over {w : World} {B n cap g k : Nat} {hs ws : List Int} (h : OwnI w B (.slice (some ⟨g, 0, none⟩) n cap) hs) (hk : k + ws.length ≤ n) (h0 : 0 < n) :
    ∃ cur : Array Value, w.heap[g]? = some (.cells cur 3 (0, 0)) ∧ k + (ws.map (Value.int .i64)).length ≤ cur.size ∧ OwnI (w.setRow g (cur.toList.take k ++ (ws.map (Value.int .i64) ++ cur.toList.drop (k + (ws.map (Value.int .i64)).length))).toArray) B (.slice (some ⟨g, 0, none⟩) n cap) (wr hs k ws) := by
  have hn := h.sl.1
  obtain ⟨_, h2⟩ := h
  rcases h2 with ⟨h2, _⟩ | ⟨g', cap', cur', hv, hb', hh', hle', hm', hs', ht'⟩
  · simp at h2
  · simp only [Value.slice.injEq, Option.some.injEq, Addr.mk.injEq] at hv
    obtain ⟨⟨rfl, _, _⟩, _, rfl⟩ := hv
    have hs2 : cur'.size = cap := by simpa using hs'
    have ht2 : cur'.toList.take hs.length = hs.map (Value.int .i64) := by simpa using ht'
    have hle2 : hs.length ≤ cap := by simpa using hle'
    refine ⟨cur', hh', by simp; omega, by simp [wr_length hs k ws (by omega)], .inr ⟨g, cap, (cur'.toList.take k ++ (ws.map (Value.int .i64) ++ cur'.toList.drop (k + (ws.map (Value.int .i64)).length))).toArray, by rw [wr_length hs k ws (by omega), hn], hb', setRow_heap w g _ _ _ _ hh', by rw [wr_length hs k ws (by omega)]; exact hle', hm', by simp; omega, ?_⟩⟩
    rw [wr_length hs k ws (by omega)]
    unfold wr
    have e1 : cur'.toList.take k = (hs.map (Value.int .i64)).take k := by rw [← ht2, List.take_take, Nat.min_eq_left (by omega)]
    have e2 : (cur'.toList.drop (k + ws.length)).take (hs.length - (k + ws.length)) = (hs.map (Value.int .i64)).drop (k + ws.length) := by rw [← ht2, List.drop_take]
    simp only [Nat.mul_one, List.length_map]
    rw [e1, List.map_append, List.map_append, List.map_take, List.map_drop, List.take_append, List.take_append]
    simp only [List.length_take, List.length_map]
    have e3 : List.take hs.length (List.take k (hs.map (Value.int .i64))) = List.take k (hs.map (Value.int .i64)) := List.take_of_length_le (by simp; omega)
    have e4 : List.take (hs.length - min k hs.length) (ws.map (Value.int .i64)) = ws.map (Value.int .i64) := List.take_of_length_le (by simp; omega)
    rw [e3, e4, show hs.length - min k hs.length - ws.length = hs.length - (k + ws.length) by omega, e2]

theorem OwnB.over {w : World} {B n cap g k : Nat} {hs ws : List Bool} (h : OwnB w B (.slice (some ⟨g, 0, none⟩) n cap) hs) (hk : k + ws.length ≤ n) (h0 : 0 < n) :
    ∃ cur : Array Value, w.heap[g]? = some (.cells cur 4 (0, 0)) ∧ k + (ws.map Value.bool).length ≤ cur.size ∧ OwnB (w.setRow g (cur.toList.take k ++ (ws.map Value.bool ++ cur.toList.drop (k + (ws.map Value.bool).length))).toArray) B (.slice (some ⟨g, 0, none⟩) n cap) (wr hs k ws) := by
  have hn := h.sl.1
  obtain ⟨_, h2⟩ := h
  rcases h2 with ⟨h2, _⟩ | ⟨g', cap', cur', hv, hb', hh', hle', hm', hs', ht'⟩
  · simp at h2
  · simp only [Value.slice.injEq, Option.some.injEq, Addr.mk.injEq] at hv
    obtain ⟨⟨rfl, _, _⟩, _, rfl⟩ := hv
    have hs2 : cur'.size = cap := by simpa using hs'
    have ht2 : cur'.toList.take hs.length = hs.map Value.bool := by simpa using ht'
    have hle2 : hs.length ≤ cap := by simpa using hle'
    refine ⟨cur', hh', by simp; omega, by simp [wr_length hs k ws (by omega)], .inr ⟨g, cap, (cur'.toList.take k ++ (ws.map Value.bool ++ cur'.toList.drop (k + (ws.map Value.bool).length))).toArray, by rw [wr_length hs k ws (by omega), hn], hb', setRow_heap w g _ _ _ _ hh', by rw [wr_length hs k ws (by omega)]; exact hle', hm', by simp; omega, ?_⟩⟩
    rw [wr_length hs k ws (by omega)]
    unfold wr
    have e1 : cur'.toList.take k = (hs.map Value.bool).take k := by rw [← ht2, List.take_take, Nat.min_eq_left (by omega)]
    have e2 : (cur'.toList.drop (k + ws.length)).take (hs.length - (k + ws.length)) = (hs.map Value.bool).drop (k + ws.length) := by rw [← ht2, List.drop_take]
    simp only [Nat.mul_one, List.length_map]
    rw [e1, List.map_append, List.map_append, List.map_take, List.map_drop, List.take_append, List.take_append]
    simp only [List.length_take, List.length_map]
    have e3 : List.take hs.length (List.take k (hs.map Value.bool)) = List.take k (hs.map Value.bool) := List.take_of_length_le (by simp; omega)
    have e4 : List.take (hs.length - min k hs.length) (ws.map Value.bool) = ws.map Value.bool := List.take_of_length_le (by simp; omega)
    rw [e3, e4, show hs.length - min k hs.length - ws.length = hs.length - (k + ws.length) by omega, e2]

/-- copy into a device's row. -/
theorem wpList_copyH {w : World} {ops : Array Oper} {rest : List Oper} {o : Oper} {a : Act} {Q : Exit → Act → World → Prop} (hgd : o.guard = none) (d s : Operand)
    (ho : o.op = .call { callee := .builtin .copy, args := #[d, s], argTypes := #[23, 23] }) {B g k : Nat} {a1 a2 a4 : Option Addr} {l1 l2 l3 l4 c1 c2 c3 c4 : Nat} {cs is : List Bool} {hs rs : List Int} (hD : OwnD w B a1 a2 (some ⟨g, 0, none⟩) a4 l1 l2 l3 l4 c1 c2 c3 c4 cs is hs rs) (dLen dCap sLen sCap : Nat) (ad : Addr) (ws : List Int)
    (hd : a.eval d = .slice (some ⟨g, k, none⟩) dLen dCap) (hs' : a.eval s = .slice (some ad) sLen sCap) (hsl : SlI w (some ad) ws) (hlen : ws.length = Nat.min sLen dLen) (hfit : k + ws.length ≤ l3) (h0 : 0 < l3)
    (h : ∀ w', OwnD w' B a1 a2 (some ⟨g, 0, none⟩) a4 l1 l2 l3 l4 c1 c2 c3 c4 cs is (wr hs k ws) rs → Chg w w' (Of4 (.slice a1 l1 c1) (.slice a2 l2 c2) (.slice (some ⟨g, 0, none⟩) l3 c3) (.slice a4 l4 c4)) → wpList Try.prog ops Q rest (a.put o.dst (goInt ws.length)) w') : wpList Try.prog ops Q (o :: rest) a w := by
  obtain ⟨h1, h2, h3, h4, d12, d34⟩ := hD
  obtain ⟨cur, hg, hf, ho2⟩ := OwnI.over h3 hfit h0
  have hsrc : ∀ j v, (ws.map (Value.int .i64))[j]? = some v → w.cell? (ad.add j) = some v := by
    rcases hsl with e | ⟨b, off, ha, hb, hc⟩
    · subst e; intro j v hj; simp at hj
    · simp only [Option.some.injEq] at ha
      subst ha
      exact slI_at (.inr ⟨b, off, rfl, hb, hc⟩)
  refine wpList_copy_own hgd d s 23 23 ho 3 Try.underlying23 szq3 g k dLen dCap ad sLen sCap hd hs' cur 3 hg (ws.map (Value.int .i64)) (by simpa using hlen) hsrc hf (onesI ws) ?_
  have gr := grown_row w g (cur.toList.take k ++ (ws.map (Value.int .i64) ++ cur.toList.drop (k + (ws.map (Value.int .i64)).length))).toArray
  have ob : (Value.slice (some ⟨g, 0, none⟩) l3 c3).ownBlock = some g := rfl
  rw [List.length_map]
  rw [List.length_map] at ho2 gr
  exact h _ ⟨World.ownsRow.kept h1 gr (ob ▸ ne_types h1 h3 (by decide)), World.ownsRow.kept h2 gr (ob ▸ ne_types h2 h3 (by decide)), ho2, World.ownsRow.kept h4 gr (ob ▸ d34.symm.ne), d12, d34⟩ (Chg.ofGrown gr (fun g' hg' => .inr (.inr (.inl (ob.trans hg')))))

/-- The same, in a statement whose order is open. -/
theorem step_copyH {w : World} {ops : Array Oper} {o : Oper} {a : Act} {K : Act → World → Prop} {Q : Exit → Act → World → Prop} {E : Prop} (hgd : o.guard = none) (d s : Operand)
    (ho : o.op = .call { callee := .builtin .copy, args := #[d, s], argTypes := #[23, 23] }) {B g k : Nat} {a1 a2 a4 : Option Addr} {l1 l2 l3 l4 c1 c2 c3 c4 : Nat} {cs is : List Bool} {hs rs : List Int} (hD : OwnD w B a1 a2 (some ⟨g, 0, none⟩) a4 l1 l2 l3 l4 c1 c2 c3 c4 cs is hs rs) (dLen dCap sLen sCap : Nat) (ad : Addr) (ws : List Int)
    (hd : a.eval d = .slice (some ⟨g, k, none⟩) dLen dCap) (hs' : a.eval s = .slice (some ad) sLen sCap) (hsl : SlI w (some ad) ws) (hlen : ws.length = Nat.min sLen dLen) (hfit : k + ws.length ≤ l3) (h0 : 0 < l3)
    (h : ∀ w', OwnD w' B a1 a2 (some ⟨g, 0, none⟩) a4 l1 l2 l3 l4 c1 c2 c3 c4 cs is (wr hs k ws) rs → Chg w w' (Of4 (.slice a1 l1 c1) (.slice a2 l2 c2) (.slice (some ⟨g, 0, none⟩) l3 c3) (.slice a4 l4 c4)) → K (a.put o.dst (goInt ws.length)) w') : if Region.wanted o (yielded ops a.tmps) = true then Oper.wp Try.prog o a w K Q else E := by
  have hw : Region.wanted o (yielded ops a.tmps) = true := by simp [Region.wanted, hgd]
  rw [if_pos hw]
  obtain ⟨h1, h2, h3, h4, d12, d34⟩ := hD
  obtain ⟨cur, hg, hf, ho2⟩ := OwnI.over h3 hfit h0
  have hsrc : ∀ j v, (ws.map (Value.int .i64))[j]? = some v → w.cell? (ad.add j) = some v := by
    rcases hsl with e | ⟨b, off, ha, hb, hc⟩
    · subst e; intro j v hj; simp at hj
    · simp only [Option.some.injEq] at ha
      subst ha
      exact slI_at (.inr ⟨b, off, rfl, hb, hc⟩)
  have hrun := run_copy_row (P := Try.prog) w 23 23 o.type 3 g k dLen dCap ad sLen sCap cur 3 (ws.map (Value.int .i64)) Try.underlying23 szq3 hg (by simpa using hlen) hsrc hf (onesI ws)
  have gr := grown_row w g (cur.toList.take k ++ (ws.map (Value.int .i64) ++ cur.toList.drop (k + (ws.map (Value.int .i64)).length))).toArray
  have ob : (Value.slice (some ⟨g, 0, none⟩) l3 c3).ownBlock = some g := rfl
  rw [List.length_map] at ho2 gr
  unfold Oper.wp
  simp [execOp, ho, resolve, invoke, builtin, hd, hs', hrun, Result.andThen]
  exact h _ (show OwnD _ _ _ _ _ _ _ _ _ _ _ _ _ _ _ _ _ _ from ⟨World.ownsRow.kept h1 gr (ob ▸ ne_types h1 h3 (by decide)), World.ownsRow.kept h2 gr (ob ▸ ne_types h2 h3 (by decide)), ho2, World.ownsRow.kept h4 gr (ob ▸ d34.symm.ne), d12, d34⟩) (Chg.ofGrown gr (fun g' hg' => .inr (.inr (.inl (ob.trans hg')))))

/-- copy into a device's row. -/
theorem wpList_copyC {w : World} {ops : Array Oper} {rest : List Oper} {o : Oper} {a : Act} {Q : Exit → Act → World → Prop} (hgd : o.guard = none) (d s : Operand)
    (ho : o.op = .call { callee := .builtin .copy, args := #[d, s], argTypes := #[22, 22] }) {B g k : Nat} {a2 a3 a4 : Option Addr} {l1 l2 l3 l4 c1 c2 c3 c4 : Nat} {cs is : List Bool} {hs rs : List Int} (hD : OwnD w B (some ⟨g, 0, none⟩) a2 a3 a4 l1 l2 l3 l4 c1 c2 c3 c4 cs is hs rs) (dLen dCap sLen sCap : Nat) (ad : Addr) (ws : List Bool)
    (hd : a.eval d = .slice (some ⟨g, k, none⟩) dLen dCap) (hs' : a.eval s = .slice (some ad) sLen sCap) (hsl : SlB w (some ad) ws) (hlen : ws.length = Nat.min sLen dLen) (hfit : k + ws.length ≤ l1) (h0 : 0 < l1)
    (h : ∀ w', OwnD w' B (some ⟨g, 0, none⟩) a2 a3 a4 l1 l2 l3 l4 c1 c2 c3 c4 (wr cs k ws) is hs rs → Chg w w' (Of4 (.slice (some ⟨g, 0, none⟩) l1 c1) (.slice a2 l2 c2) (.slice a3 l3 c3) (.slice a4 l4 c4)) → wpList Try.prog ops Q rest (a.put o.dst (goInt ws.length)) w') : wpList Try.prog ops Q (o :: rest) a w := by
  obtain ⟨h1, h2, h3, h4, d12, d34⟩ := hD
  obtain ⟨cur, hg, hf, ho2⟩ := OwnB.over h1 hfit h0
  have hsrc : ∀ j v, (ws.map Value.bool)[j]? = some v → w.cell? (ad.add j) = some v := by
    rcases hsl with e | ⟨b, off, ha, hb, hc⟩
    · subst e; intro j v hj; simp at hj
    · simp only [Option.some.injEq] at ha
      subst ha
      exact slB_at (.inr ⟨b, off, rfl, hb, hc⟩)
  refine wpList_copy_own hgd d s 22 22 ho 4 Try.underlying22 szq4 g k dLen dCap ad sLen sCap hd hs' cur 4 hg (ws.map Value.bool) (by simpa using hlen) hsrc hf (onesB ws) ?_
  have gr := grown_row w g (cur.toList.take k ++ (ws.map Value.bool ++ cur.toList.drop (k + (ws.map Value.bool).length))).toArray
  have ob : (Value.slice (some ⟨g, 0, none⟩) l1 c1).ownBlock = some g := rfl
  rw [List.length_map]
  rw [List.length_map] at ho2 gr
  exact h _ ⟨ho2, World.ownsRow.kept h2 gr (ob ▸ d12.symm.ne), World.ownsRow.kept h3 gr (ob ▸ ne_types h3 h1 (by decide)), World.ownsRow.kept h4 gr (ob ▸ ne_types h4 h1 (by decide)), d12, d34⟩ (Chg.ofGrown gr (fun g' hg' => .inl (ob.trans hg')))

/-- The same, in a statement whose order is open. -/
theorem step_copyC {w : World} {ops : Array Oper} {o : Oper} {a : Act} {K : Act → World → Prop} {Q : Exit → Act → World → Prop} {E : Prop} (hgd : o.guard = none) (d s : Operand)
    (ho : o.op = .call { callee := .builtin .copy, args := #[d, s], argTypes := #[22, 22] }) {B g k : Nat} {a2 a3 a4 : Option Addr} {l1 l2 l3 l4 c1 c2 c3 c4 : Nat} {cs is : List Bool} {hs rs : List Int} (hD : OwnD w B (some ⟨g, 0, none⟩) a2 a3 a4 l1 l2 l3 l4 c1 c2 c3 c4 cs is hs rs) (dLen dCap sLen sCap : Nat) (ad : Addr) (ws : List Bool)
    (hd : a.eval d = .slice (some ⟨g, k, none⟩) dLen dCap) (hs' : a.eval s = .slice (some ad) sLen sCap) (hsl : SlB w (some ad) ws) (hlen : ws.length = Nat.min sLen dLen) (hfit : k + ws.length ≤ l1) (h0 : 0 < l1)
    (h : ∀ w', OwnD w' B (some ⟨g, 0, none⟩) a2 a3 a4 l1 l2 l3 l4 c1 c2 c3 c4 (wr cs k ws) is hs rs → Chg w w' (Of4 (.slice (some ⟨g, 0, none⟩) l1 c1) (.slice a2 l2 c2) (.slice a3 l3 c3) (.slice a4 l4 c4)) → K (a.put o.dst (goInt ws.length)) w') : if Region.wanted o (yielded ops a.tmps) = true then Oper.wp Try.prog o a w K Q else E := by
  have hw : Region.wanted o (yielded ops a.tmps) = true := by simp [Region.wanted, hgd]
  rw [if_pos hw]
  obtain ⟨h1, h2, h3, h4, d12, d34⟩ := hD
  obtain ⟨cur, hg, hf, ho2⟩ := OwnB.over h1 hfit h0
  have hsrc : ∀ j v, (ws.map Value.bool)[j]? = some v → w.cell? (ad.add j) = some v := by
    rcases hsl with e | ⟨b, off, ha, hb, hc⟩
    · subst e; intro j v hj; simp at hj
    · simp only [Option.some.injEq] at ha
      subst ha
      exact slB_at (.inr ⟨b, off, rfl, hb, hc⟩)
  have hrun := run_copy_row (P := Try.prog) w 22 22 o.type 4 g k dLen dCap ad sLen sCap cur 4 (ws.map Value.bool) Try.underlying22 szq4 hg (by simpa using hlen) hsrc hf (onesB ws)
  have gr := grown_row w g (cur.toList.take k ++ (ws.map Value.bool ++ cur.toList.drop (k + (ws.map Value.bool).length))).toArray
  have ob : (Value.slice (some ⟨g, 0, none⟩) l1 c1).ownBlock = some g := rfl
  rw [List.length_map] at ho2 gr
  unfold Oper.wp
  simp [execOp, ho, resolve, invoke, builtin, hd, hs', hrun, Result.andThen]
  exact h _ (show OwnD _ _ _ _ _ _ _ _ _ _ _ _ _ _ _ _ _ _ from ⟨ho2, World.ownsRow.kept h2 gr (ob ▸ d12.symm.ne), World.ownsRow.kept h3 gr (ob ▸ ne_types h3 h1 (by decide)), World.ownsRow.kept h4 gr (ob ▸ ne_types h4 h1 (by decide)), d12, d34⟩) (Chg.ofGrown gr (fun g' hg' => .inl (ob.trans hg')))

/-- A device behind a coil that was written. -/
theorem OwnD.setCoil {w : World} {B k : Nat} {a1 a2 a3 a4 : Option Addr} {l1 l2 l3 l4 c1 c2 c3 c4 : Nat} {cs is : List Bool} {hs rs : List Int} (h : OwnD w B a1 a2 a3 a4 l1 l2 l3 l4 c1 c2 c3 c4 cs is hs rs) (hk : k < l1) :
    ∃ b, a1 = some ⟨b, 0, none⟩ ∧ B ≤ b ∧ b < w.heap.size ∧ w.cell? ⟨b, k, none⟩ = some (.bool (cs.getD k false)) ∧ w.frozen? ⟨b, k, none⟩ = false ∧
      ∀ x, OwnD (w.setCell ⟨b, k, none⟩ (.bool x)) B a1 a2 a3 a4 l1 l2 l3 l4 c1 c2 c3 c4 (cs.set k x) is hs rs ∧ Chg w (w.setCell ⟨b, k, none⟩ (.bool x)) (Of4 (.slice a1 l1 c1) (.slice a2 l2 c2) (.slice a3 l3 c3) (.slice a4 l4 c4)) := by
  obtain ⟨h1, h2, h3, h4, d12, d34⟩ := h
  obtain ⟨b, rfl, hB, hlt, hc, hf, hset⟩ := h1.place hk
  refine ⟨b, rfl, hB, hlt, hc, hf, fun x => ?_⟩
  have gr := grown_setj w b k (.bool x)
  have ob : (Value.slice (some ⟨b, 0, none⟩) l1 c1).ownBlock = some b := rfl
  refine ⟨⟨hset x, World.ownsRow.kept h2 gr (ob ▸ d12.symm.ne), World.ownsRow.kept h3 gr (ob ▸ ne_types h3 h1 (by decide)), World.ownsRow.kept h4 gr (ob ▸ ne_types h4 h1 (by decide)), d12, d34⟩, Chg.ofGrown gr (fun g hg => .inl (ob.trans hg))⟩

end Go.Proofs.Ytcnbbknmofonkaa
