/- Texts that the proof needs, joined: Dev15 Dev16 Dev17 Dev18a. -/
import Derived.Test.YtfdddkjonjpgpaaY5
namespace Go.Proofs.Ytfdddkjonjpgpaa
open Go.RowKit
set_option linter.unusedVariables false
set_option linter.unusedSimpArgs false
def wr {α : Type} (hs : List α) (k : Nat) (ws : List α) : List α := hs.take k ++ (ws ++ hs.drop (k + ws.length))
theorem wr_length {α : Type} (hs : List α) (k : Nat) (ws : List α) (h : k + ws.length ≤ hs.length) : (wr hs k ws).length = hs.length := by simp [wr]; omega
theorem grown_row (w : World) (g : Nat) (cs : Array Value) : w.grownBy (w.setRow g cs) (some g) :=
  ⟨rfl, rfl, rfl, by simp [World.setRow], fun k hk hne => setRow_other w g k cs (by simpa using hne)⟩
theorem OwnI.over {w : World} {B n cap g k : Nat} {hs ws : List Int} (h : OwnI w B (.slice (some ⟨g, 0, none⟩) n cap) hs) (hk : k + ws.length ≤ n) (h0 : 0 < n) :
    ∃ cur : Array Value, w.heap[g]? = some (.cells cur 3 (0, 0)) ∧ k + (ws.map (Value.int .i64)).length ≤ cur.size ∧ OwnI (w.setRow g (cur.toList.take k ++ (ws.map (Value.int .i64) ++ cur.toList.drop (k + (ws.map (Value.int .i64)).length))).toArray) B (.slice (some ⟨g, 0, none⟩) n cap) (wr hs k ws) := by
  have hn := h.sl.1
  obtain ⟨_, h2⟩ := h
  rcases h2 with ⟨h2, _⟩ | ⟨g', cap', cur', hv, hb', hh', hle', hm', hs', ht'⟩
  · simp at h2
  · simp only [Value.slice.injEq, Option.some.injEq, Addr.mk.injEq] at hv
    obtain ⟨⟨rfl, _, _⟩, _, rfl⟩ := hv
    have hs2 : cur'.size = cap := by simpa using hs'
    have ht2 : cur'.toList.take hs.length = hs.map (Value.int .i64) := by simpa using ht'
    have hle2 : hs.length ≤ cap := by simpa using hle'
    refine ⟨cur', hh', by simp; omega, by simp [wr_length hs k ws (by omega)], .inr ⟨g, cap, (cur'.toList.take k ++ (ws.map (Value.int .i64) ++ cur'.toList.drop (k + (ws.map (Value.int .i64)).length))).toArray, by rw [wr_length hs k ws (by omega), hn], hb', setRow_heap w g _ _ _ _ hh', by rw [wr_length hs k ws (by omega)]; exact hle', hm', by simp; omega, ?_⟩⟩
    rw [wr_length hs k ws (by omega)]
    unfold wr
    have e1 : cur'.toList.take k = (hs.map (Value.int .i64)).take k := by rw [← ht2, List.take_take, Nat.min_eq_left (by omega)]
    have e2 : (cur'.toList.drop (k + ws.length)).take (hs.length - (k + ws.length)) = (hs.map (Value.int .i64)).drop (k + ws.length) := by rw [← ht2, List.drop_take]
    simp only [Nat.mul_one, List.length_map]
    rw [e1, List.map_append, List.map_append, List.map_take, List.map_drop, List.take_append, List.take_append]
    simp only [List.length_take, List.length_map]
    have e3 : List.take hs.length (List.take k (hs.map (Value.int .i64))) = List.take k (hs.map (Value.int .i64)) := List.take_of_length_le (by simp; omega)
    have e4 : List.take (hs.length - min k hs.length) (ws.map (Value.int .i64)) = ws.map (Value.int .i64) := List.take_of_length_le (by simp; omega)
    rw [e3, e4, show hs.length - min k hs.length - ws.length = hs.length - (k + ws.length) by omega, e2]
theorem OwnB.over {w : World} {B n cap g k : Nat} {hs ws : List Bool} (h : OwnB w B (.slice (some ⟨g, 0, none⟩) n cap) hs) (hk : k + ws.length ≤ n) (h0 : 0 < n) :
    ∃ cur : Array Value, w.heap[g]? = some (.cells cur 4 (0, 0)) ∧ k + (ws.map Value.bool).length ≤ cur.size ∧ OwnB (w.setRow g (cur.toList.take k ++ (ws.map Value.bool ++ cur.toList.drop (k + (ws.map Value.bool).length))).toArray) B (.slice (some ⟨g, 0, none⟩) n cap) (wr hs k ws) := by
  have hn := h.sl.1
  obtain ⟨_, h2⟩ := h
  rcases h2 with ⟨h2, _⟩ | ⟨g', cap', cur', hv, hb', hh', hle', hm', hs', ht'⟩
  · simp at h2
  · simp only [Value.slice.injEq, Option.some.injEq, Addr.mk.injEq] at hv
    obtain ⟨⟨rfl, _, _⟩, _, rfl⟩ := hv
    have hs2 : cur'.size = cap := by simpa using hs'
    have ht2 : cur'.toList.take hs.length = hs.map Value.bool := by simpa using ht'
    have hle2 : hs.length ≤ cap := by simpa using hle'
    refine ⟨cur', hh', by simp; omega, by simp [wr_length hs k ws (by omega)], .inr ⟨g, cap, (cur'.toList.take k ++ (ws.map Value.bool ++ cur'.toList.drop (k + (ws.map Value.bool).length))).toArray, by rw [wr_length hs k ws (by omega), hn], hb', setRow_heap w g _ _ _ _ hh', by rw [wr_length hs k ws (by omega)]; exact hle', hm', by simp; omega, ?_⟩⟩
    rw [wr_length hs k ws (by omega)]
    unfold wr
    have e1 : cur'.toList.take k = (hs.map Value.bool).take k := by rw [← ht2, List.take_take, Nat.min_eq_left (by omega)]
    have e2 : (cur'.toList.drop (k + ws.length)).take (hs.length - (k + ws.length)) = (hs.map Value.bool).drop (k + ws.length) := by rw [← ht2, List.drop_take]
    simp only [Nat.mul_one, List.length_map]
    rw [e1, List.map_append, List.map_append, List.map_take, List.map_drop, List.take_append, List.take_append]
    simp only [List.length_take, List.length_map]
    have e3 : List.take hs.length (List.take k (hs.map Value.bool)) = List.take k (hs.map Value.bool) := List.take_of_length_le (by simp; omega)
    have e4 : List.take (hs.length - min k hs.length) (ws.map Value.bool) = ws.map Value.bool := List.take_of_length_le (by simp; omega)
    rw [e3, e4, show hs.length - min k hs.length - ws.length = hs.length - (k + ws.length) by omega, e2]
theorem step_copyH {w : World} {ops : Array Oper} {o : Oper} {a : Act} {K : Act → World → Prop} {Q : Exit → Act → World → Prop} {E : Prop} (hgd : o.guard = none) (d s : Operand)
    (ho : o.op = .call { callee := .builtin .copy, args := #[d, s], argTypes := #[25, 25] }) {B g k : Nat} {a1 a2 a4 : Option Addr} {l1 l2 l3 l4 c1 c2 c3 c4 : Nat} {cs is : List Bool} {hs rs : List Int} (hD : OwnD w B a1 a2 (some ⟨g, 0, none⟩) a4 l1 l2 l3 l4 c1 c2 c3 c4 cs is hs rs) (dLen dCap sLen sCap : Nat) (ad : Addr) (ws : List Int)
    (hd : a.eval d = .slice (some ⟨g, k, none⟩) dLen dCap) (hs' : a.eval s = .slice (some ad) sLen sCap) (hsl : SlI w (some ad) ws) (hlen : ws.length = Nat.min sLen dLen) (hfit : k + ws.length ≤ l3) (h0 : 0 < l3)
    (h : ∀ w', OwnD w' B a1 a2 (some ⟨g, 0, none⟩) a4 l1 l2 l3 l4 c1 c2 c3 c4 cs is (wr hs k ws) rs → Chg w w' (Of4 (.slice a1 l1 c1) (.slice a2 l2 c2) (.slice (some ⟨g, 0, none⟩) l3 c3) (.slice a4 l4 c4)) → K (a.put o.dst (goInt ws.length)) w') : if Region.wanted o (yielded ops a.tmps) = true then Oper.wp Try.prog o a w K Q else E := by
  have hw : Region.wanted o (yielded ops a.tmps) = true := by simp [Region.wanted, hgd]
  rw [if_pos hw]
  obtain ⟨h1, h2, h3, h4, d12, d34⟩ := hD
  obtain ⟨cur, hg, hf, ho2⟩ := OwnI.over h3 hfit h0
  have hsrc : ∀ j v, (ws.map (Value.int .i64))[j]? = some v → w.cell? (ad.add j) = some v := by
    rcases hsl with e | ⟨b, off, ha, hb, hc⟩
    · subst e; intro j v hj; simp at hj
    · simp only [Option.some.injEq] at ha
      subst ha
      exact slI_at (.inr ⟨b, off, rfl, hb, hc⟩)
  have hrun := run_copy_row (P := Try.prog) w 25 25 o.type 3 g k dLen dCap ad sLen sCap cur 3 (ws.map (Value.int .i64)) Try.underlying25 szq3 hg (by simpa using hlen) hsrc hf (onesI ws)
  have gr := grown_row w g (cur.toList.take k ++ (ws.map (Value.int .i64) ++ cur.toList.drop (k + (ws.map (Value.int .i64)).length))).toArray
  have ob : (Value.slice (some ⟨g, 0, none⟩) l3 c3).ownBlock = some g := rfl
  rw [List.length_map] at ho2 gr
  unfold Oper.wp
  simp [execOp, ho, resolve, invoke, builtin, hd, hs', hrun, Result.andThen]
  exact h _ (show OwnD _ _ _ _ _ _ _ _ _ _ _ _ _ _ _ _ _ _ from ⟨World.ownsRow.kept h1 gr (ob ▸ ne_types h1 h3 (by decide)), World.ownsRow.kept h2 gr (ob ▸ ne_types h2 h3 (by decide)), ho2, World.ownsRow.kept h4 gr (ob ▸ d34.symm.ne), d12, d34⟩) (Chg.ofGrown gr (fun g' hg' => .inr (.inr (.inl (ob.trans hg')))))
theorem step_copyC {w : World} {ops : Array Oper} {o : Oper} {a : Act} {K : Act → World → Prop} {Q : Exit → Act → World → Prop} {E : Prop} (hgd : o.guard = none) (d s : Operand)
    (ho : o.op = .call { callee := .builtin .copy, args := #[d, s], argTypes := #[24, 24] }) {B g k : Nat} {a2 a3 a4 : Option Addr} {l1 l2 l3 l4 c1 c2 c3 c4 : Nat} {cs is : List Bool} {hs rs : List Int} (hD : OwnD w B (some ⟨g, 0, none⟩) a2 a3 a4 l1 l2 l3 l4 c1 c2 c3 c4 cs is hs rs) (dLen dCap sLen sCap : Nat) (ad : Addr) (ws : List Bool)
    (hd : a.eval d = .slice (some ⟨g, k, none⟩) dLen dCap) (hs' : a.eval s = .slice (some ad) sLen sCap) (hsl : SlB w (some ad) ws) (hlen : ws.length = Nat.min sLen dLen) (hfit : k + ws.length ≤ l1) (h0 : 0 < l1)
    (h : ∀ w', OwnD w' B (some ⟨g, 0, none⟩) a2 a3 a4 l1 l2 l3 l4 c1 c2 c3 c4 (wr cs k ws) is hs rs → Chg w w' (Of4 (.slice (some ⟨g, 0, none⟩) l1 c1) (.slice a2 l2 c2) (.slice a3 l3 c3) (.slice a4 l4 c4)) → K (a.put o.dst (goInt ws.length)) w') : if Region.wanted o (yielded ops a.tmps) = true then Oper.wp Try.prog o a w K Q else E := by
  have hw : Region.wanted o (yielded ops a.tmps) = true := by simp [Region.wanted, hgd]
  rw [if_pos hw]
  obtain ⟨h1, h2, h3, h4, d12, d34⟩ := hD
  obtain ⟨cur, hg, hf, ho2⟩ := OwnB.over h1 hfit h0
  have hsrc : ∀ j v, (ws.map Value.bool)[j]? = some v → w.cell? (ad.add j) = some v := by
    rcases hsl with e | ⟨b, off, ha, hb, hc⟩
    · subst e; intro j v hj; simp at hj
    · simp only [Option.some.injEq] at ha
      subst ha
      exact slB_at (.inr ⟨b, off, rfl, hb, hc⟩)
  have hrun := run_copy_row (P := Try.prog) w 24 24 o.type 4 g k dLen dCap ad sLen sCap cur 4 (ws.map Value.bool) Try.underlying24 szq4 hg (by simpa using hlen) hsrc hf (onesB ws)
  have gr := grown_row w g (cur.toList.take k ++ (ws.map Value.bool ++ cur.toList.drop (k + (ws.map Value.bool).length))).toArray
  have ob : (Value.slice (some ⟨g, 0, none⟩) l1 c1).ownBlock = some g := rfl
  rw [List.length_map] at ho2 gr
  unfold Oper.wp
  simp [execOp, ho, resolve, invoke, builtin, hd, hs', hrun, Result.andThen]
  exact h _ (show OwnD _ _ _ _ _ _ _ _ _ _ _ _ _ _ _ _ _ _ from ⟨ho2, World.ownsRow.kept h2 gr (ob ▸ d12.symm.ne), World.ownsRow.kept h3 gr (ob ▸ ne_types h3 h1 (by decide)), World.ownsRow.kept h4 gr (ob ▸ ne_types h4 h1 (by decide)), d12, d34⟩) (Chg.ofGrown gr (fun g' hg' => .inl (ob.trans hg')))
theorem OwnD.setCoil {w : World} {B k : Nat} {a1 a2 a3 a4 : Option Addr} {l1 l2 l3 l4 c1 c2 c3 c4 : Nat} {cs is : List Bool} {hs rs : List Int} (h : OwnD w B a1 a2 a3 a4 l1 l2 l3 l4 c1 c2 c3 c4 cs is hs rs) (hk : k < l1) :
    ∃ b, a1 = some ⟨b, 0, none⟩ ∧ B ≤ b ∧ b < w.heap.size ∧ w.cell? ⟨b, k, none⟩ = some (.bool (cs.getD k false)) ∧ w.frozen? ⟨b, k, none⟩ = false ∧
      ∀ x, OwnD (w.setCell ⟨b, k, none⟩ (.bool x)) B a1 a2 a3 a4 l1 l2 l3 l4 c1 c2 c3 c4 (cs.set k x) is hs rs ∧ Chg w (w.setCell ⟨b, k, none⟩ (.bool x)) (Of4 (.slice a1 l1 c1) (.slice a2 l2 c2) (.slice a3 l3 c3) (.slice a4 l4 c4)) := by
  obtain ⟨h1, h2, h3, h4, d12, d34⟩ := h
  obtain ⟨b, rfl, hB, hlt, hc, hf, hset⟩ := h1.place hk
  refine ⟨b, rfl, hB, hlt, hc, hf, fun x => ?_⟩
  have gr := grown_setj w b k (.bool x)
  have ob : (Value.slice (some ⟨b, 0, none⟩) l1 c1).ownBlock = some b := rfl
  refine ⟨⟨hset x, World.ownsRow.kept h2 gr (ob ▸ d12.symm.ne), World.ownsRow.kept h3 gr (ob ▸ ne_types h3 h1 (by decide)), World.ownsRow.kept h4 gr (ob ▸ ne_types h4 h1 (by decide)), d12, d34⟩, Chg.ofGrown gr (fun g hg => .inl (ob.trans hg))⟩
end Go.Proofs.Ytfdddkjonjpgpaa
namespace Go.Proofs.Ytfdddkjonjpgpaa
open Go.RowKit
set_option linter.unusedVariables false
set_option linter.unusedSimpArgs false
set_option maxRecDepth 20000 in
set_option maxHeartbeats 2000000 in
theorem setWords_any (a1 a2 a3 a4 : Option Addr) (l1 l2 l3 l4 c1 c2 c3 c4 : Nat) (cs is : List Bool) (hs rs : List Int) (kd nn wa : Int) (k : Nat) (q1 q2 : Option Addr) (m1 m2 k1 k2 : Nat) (ws : List Int) (bs : List Bool) (W0 w : World) (hB : Below W0.heap.size W0 w) (hD : OwnD w W0.heap.size a1 a2 a3 a4 l1 l2 l3 l4 c1 c2 c3 c4 cs is hs rs) (hn : m1 = ws.length) (hq : SlI W0 q1 ws) (hk : k + ws.length ≤ l3) (h0 : 0 < ws.length) (h3 : l3 ≤ 2000000) (h65 : k ≤ 65535) :
    Calls Try.prog 84 #[dv a1 a2 a3 a4 l1 l2 l3 l4 c1 c2 c3 c4, .agg #[.int .i64 kd, .int .i64 (k : Int), .int .i64 nn, .slice q1 m1 k1, .slice q2 m2 k2, .int .i64 wa]] w fun e w' => SV W0 w w' e a1 a2 a3 a4 l1 l2 l3 l4 c1 c2 c3 c4 cs is (wr hs k ws) rs kd 0 (k : Int) (m1 : Int) [] [] := by
  obtain ⟨z, hz⟩ : ∃ z, z = ((w.alloc (.cells #[.slice a1 l1 c1, .slice a2 l2 c2, .slice a3 l3 c3, .slice a4 l4 c4] 27)).alloc (.cells #[.int .i64 kd, .int .i64 (k : Int), .int .i64 nn, .slice q1 m1 k1, .slice q2 m2 k2, .int .i64 wa] 57)).alloc (.cells #[.int .i64 0, .int .i64 0, .int .i64 0, .int .i64 0, .slice none 0 0, .slice none 0 0] 37) := ⟨_, rfl⟩
  have HZ : Hid (z = _) := hz
  have b0 : Below w.heap.size w z := by rw [hz]; exact bel_next (bel_next (bel_alloc w _) (bel_alloc _ _)) (bel_alloc _ _)
  have X0 : Blk z w.heap.size 27 #[.slice a1 l1 c1, .slice a2 l2 c2, .slice a3 l3 c3, .slice a4 l4 c4] := by rw [hz]; exact ((Blk.new w _ _).below (bel_alloc _ _)).below (bel_alloc _ _)
  have Y0 : Blk z (w.heap.size + 1) 57 #[.int .i64 kd, .int .i64 (k : Int), .int .i64 nn, .slice q1 m1 k1, .slice q2 m2 k2, .int .i64 wa] := by rw [hz]; have := (Blk.new (w.alloc (.cells #[.slice a1 l1 c1, .slice a2 l2 c2, .slice a3 l3 c3, .slice a4 l4 c4] 27)) #[.int .i64 kd, .int .i64 (k : Int), .int .i64 nn, .slice q1 m1 k1, .slice q2 m2 k2, .int .i64 wa] 57).below (bel_alloc _ (.cells #[.int .i64 0, .int .i64 0, .int .i64 0, .int .i64 0, .slice none 0 0, .slice none 0 0] 37)); simpa using this
  have R0 : Blk z (w.heap.size + 1 + 1) 37 #[.int .i64 0, .int .i64 0, .int .i64 0, .int .i64 0, .slice none 0 0, .slice none 0 0] := by rw [hz]; have := Blk.new ((w.alloc (.cells #[.slice a1 l1 c1, .slice a2 l2 c2, .slice a3 l3 c3, .slice a4 l4 c4] 27)).alloc (.cells #[.int .i64 kd, .int .i64 (k : Int), .int .i64 nn, .slice q1 m1 k1, .slice q2 m2 k2, .int .i64 wa] 57)) #[.int .i64 0, .int .i64 0, .int .i64 0, .int .i64 0, .slice none 0 0, .slice none 0 0] 37; simpa using this
  have HB0 : Hid (Below W0.heap.size W0 z) := hB.trans (b0.mono hB.size)
  have D0 := hD.below b0
  have C0 : Hid (Chg w z (Of4 (.slice a1 l1 c1) (.slice a2 l2 c2) (.slice a3 l3 c3) (.slice a4 l4 c4))) := Chg.ofBelow b0
  have HS0 : Hid (W0.heap.size ≤ w.heap.size) := hB.size
  obtain ⟨b, ea, hcap⟩ := D0.2.2.1.cap (by omega)
  subst ea
  obtain ⟨bq, off, eq1, hbq, hcq⟩ := cell_atI (hq.below HB0.out) h0
  subst eq1
  have HQ : Hid (m1 = ws.length ∧ SlI z (some ⟨bq, off, none⟩) ws ∧ k + ws.length ≤ l3 ∧ 0 < l3) := ⟨hn, hq.below HB0.out, hk, by omega⟩
  have i0 : (k : Int) ≤ (l3 : Int) := by omega
  have i1 : (k : Int) ≤ (c3 : Int) := by omega
  have i2 : ¬ c3 = k := by omega
  have i3 : (m1 : Int) ≤ 2000000 := by omega
  have hmn : Hid (ws.length = Nat.min m1 (l3 - k)) := by show _ = _; rw [← hn]; exact (Nat.min_eq_left (by omega)).symm
  have HML : Hid (ws.length = m1) := hn.symm
  obtain ⟨x0, x1, x2, x3⟩ := X0.four
  obtain ⟨y0, y1, y2, y3, y4, y5⟩ := Y0.six
  have HD0 : Hid (OwnD z W0.heap.size a1 a2 (some ⟨b, 0, none⟩) a4 l1 l2 l3 l4 c1 c2 c3 c4 cs is hs rs) := D0
  have ny := D0.noBlk Y0 (by decide) (by decide)
  have nr := D0.noBlk R0 (by decide) (by decide)
  have HY : Hid (∀ z2, Chg z z2 (Of4 (.slice a1 l1 c1) (.slice a2 l2 c2) (.slice (some ⟨b, 0, none⟩) l3 c3) (.slice a4 l4 c4)) → Blk z2 (w.heap.size + 1) 57 #[.int .i64 kd, .int .i64 (k : Int), .int .i64 nn, .slice (some ⟨bq, off, none⟩) m1 k1, .slice q2 m2 k2, .int .i64 wa] ∧ Blk z2 (w.heap.size + 1 + 1) 37 #[.int .i64 0, .int .i64 0, .int .i64 0, .int .i64 0, .slice none 0 0, .slice none 0 0]) := fun z2 hc => ⟨Y0.chg hc ny, R0.chg hc nr⟩
  clear hz hD D0 hn hq hk h0 hcq ny nr hB b0 hcap h3
  go_enter Try.func84, Try.ntmps84
  go_upto_region 1 with fail
  rw [← HZ.out]
  have HDz : Hid (OwnD z.drew W0.heap.size a1 a2 (some ⟨b, 0, none⟩) a4 l1 l2 l3 l4 c1 c2 c3 c4 cs is hs rs) := HD0.out.drew
  have HQz : Hid (SlI z.drew (some ⟨bq, off, none⟩) ws) := HQ.out.2.1.below (Below.refl _ _).drew
  have HCz : Hid (∀ z2, Chg z.drew z2 (Of4 (.slice a1 l1 c1) (.slice a2 l2 c2) (.slice (some ⟨b, 0, none⟩) l3 c3) (.slice a4 l4 c4)) → Chg z z2 (Of4 (.slice a1 l1 c1) (.slice a2 l2 c2) (.slice (some ⟨b, 0, none⟩) l3 c3) (.slice a4 l4 c4))) := fun z2 h => (show Chg z z.drew _ from Chg.ofBelow (Below.refl _ _).drew).trans h
  go_region_law ((refine step_copyH rfl (.tmp 9) (.tmp 11) rfl HDz.out (l3 - k) _ m1 k1 ⟨bq, off, none⟩ ws rfl rfl HQz.out hmn.out HQ.out.2.2.1 HQ.out.2.2.2 ?_); intro z2 D2 C2')
  all_goals (have C2 := HCz.out z2 C2'; obtain ⟨Y2, R2⟩ := HY.out z2 C2; have HD2 : Hid (OwnD z2 W0.heap.size a1 a2 (some ⟨b, 0, none⟩) a4 l1 l2 l3 l4 c1 c2 c3 c4 cs is (wr hs k ws) rs) := D2; have HC2 : Hid (Chg z z2 (Of4 (.slice a1 l1 c1) (.slice a2 l2 c2) (.slice (some ⟨b, 0, none⟩) l3 c3) (.slice a4 l4 c4))) := C2; obtain ⟨u0, u1, u2, u3, u4, u5⟩ := Y2.six; obtain ⟨r0, r1, r2, r3, r4, r5⟩ := R2.six; have f0 := R2.fro 0; have f1 := R2.fro 1; have f2 := R2.fro 2; have f3 := R2.fro 3; have f4 := R2.fro 4; have f5 := R2.fro 5; have HR2 : Hid (ExB z2 (w.heap.size + 1 + 1) 37) := ⟨_, R2⟩; clear D2 C2 C2' Y2 R2 HDz HQz HCz x0 x1 x2 x3 y0 y1 y2 y3 y4 y5)
  all_goals go_wp2_with fail
  all_goals refine bodyPost_ret (v := rp kd 0 (k : Int) (m1 : Int) none none 0 0 0 0) (by simp [results, Try.results84, go_sem, r0, r1, r2, r3, r4, r5]) rfl ?_
  all_goals exact ⟨_, _, _, _, _, _, rfl, ownI_nil0 _ _, ownB_nil0 _ _, HD2.out.set6 HR2.out (by decide) (by decide), belp_set6 (Chg.below HB0.out HC2.out (fun g hg => (HD0.out.of4 g hg).1) HB0.out.size) (by have := HS0.out; omega), (C0.out.trans HC2.out).set6 (by omega)⟩
set_option maxRecDepth 20000 in
set_option maxHeartbeats 2000000 in
theorem setCoils_any (a1 a2 a3 a4 : Option Addr) (l1 l2 l3 l4 c1 c2 c3 c4 : Nat) (cs is : List Bool) (hs rs : List Int) (kd nn wa : Int) (k : Nat) (q1 q2 : Option Addr) (m1 m2 k1 k2 : Nat) (ws : List Int) (bs : List Bool) (W0 w : World) (hB : Below W0.heap.size W0 w) (hD : OwnD w W0.heap.size a1 a2 a3 a4 l1 l2 l3 l4 c1 c2 c3 c4 cs is hs rs) (hn : m2 = bs.length) (hq : SlB W0 q2 bs) (hk : k + bs.length ≤ l1) (h0 : 0 < bs.length) (h3 : l1 ≤ 2000000) (h65 : k ≤ 65535) :
    Calls Try.prog 83 #[dv a1 a2 a3 a4 l1 l2 l3 l4 c1 c2 c3 c4, .agg #[.int .i64 kd, .int .i64 (k : Int), .int .i64 nn, .slice q1 m1 k1, .slice q2 m2 k2, .int .i64 wa]] w fun e w' => SV W0 w w' e a1 a2 a3 a4 l1 l2 l3 l4 c1 c2 c3 c4 (wr cs k bs) is hs rs kd 0 (k : Int) (m2 : Int) [] [] := by
  obtain ⟨z, hz⟩ : ∃ z, z = ((w.alloc (.cells #[.slice a1 l1 c1, .slice a2 l2 c2, .slice a3 l3 c3, .slice a4 l4 c4] 27)).alloc (.cells #[.int .i64 kd, .int .i64 (k : Int), .int .i64 nn, .slice q1 m1 k1, .slice q2 m2 k2, .int .i64 wa] 57)).alloc (.cells #[.int .i64 0, .int .i64 0, .int .i64 0, .int .i64 0, .slice none 0 0, .slice none 0 0] 37) := ⟨_, rfl⟩
  have HZ : Hid (z = _) := hz
  have b0 : Below w.heap.size w z := by rw [hz]; exact bel_next (bel_next (bel_alloc w _) (bel_alloc _ _)) (bel_alloc _ _)
  have X0 : Blk z w.heap.size 27 #[.slice a1 l1 c1, .slice a2 l2 c2, .slice a3 l3 c3, .slice a4 l4 c4] := by rw [hz]; exact ((Blk.new w _ _).below (bel_alloc _ _)).below (bel_alloc _ _)
  have Y0 : Blk z (w.heap.size + 1) 57 #[.int .i64 kd, .int .i64 (k : Int), .int .i64 nn, .slice q1 m1 k1, .slice q2 m2 k2, .int .i64 wa] := by rw [hz]; have := (Blk.new (w.alloc (.cells #[.slice a1 l1 c1, .slice a2 l2 c2, .slice a3 l3 c3, .slice a4 l4 c4] 27)) #[.int .i64 kd, .int .i64 (k : Int), .int .i64 nn, .slice q1 m1 k1, .slice q2 m2 k2, .int .i64 wa] 57).below (bel_alloc _ (.cells #[.int .i64 0, .int .i64 0, .int .i64 0, .int .i64 0, .slice none 0 0, .slice none 0 0] 37)); simpa using this
  have R0 : Blk z (w.heap.size + 1 + 1) 37 #[.int .i64 0, .int .i64 0, .int .i64 0, .int .i64 0, .slice none 0 0, .slice none 0 0] := by rw [hz]; have := Blk.new ((w.alloc (.cells #[.slice a1 l1 c1, .slice a2 l2 c2, .slice a3 l3 c3, .slice a4 l4 c4] 27)).alloc (.cells #[.int .i64 kd, .int .i64 (k : Int), .int .i64 nn, .slice q1 m1 k1, .slice q2 m2 k2, .int .i64 wa] 57)) #[.int .i64 0, .int .i64 0, .int .i64 0, .int .i64 0, .slice none 0 0, .slice none 0 0] 37; simpa using this
  have HB0 : Hid (Below W0.heap.size W0 z) := hB.trans (b0.mono hB.size)
  have D0 := hD.below b0
  have C0 : Hid (Chg w z (Of4 (.slice a1 l1 c1) (.slice a2 l2 c2) (.slice a3 l3 c3) (.slice a4 l4 c4))) := Chg.ofBelow b0
  have HS0 : Hid (W0.heap.size ≤ w.heap.size) := hB.size
  obtain ⟨b, ea, hcap⟩ := D0.1.cap (by omega)
  subst ea
  obtain ⟨bq, off, eq1, hbq, hcq⟩ := cell_atB (hq.below HB0.out) h0
  subst eq1
  have HQ : Hid (m2 = bs.length ∧ SlB z (some ⟨bq, off, none⟩) bs ∧ k + bs.length ≤ l1 ∧ 0 < l1) := ⟨hn, hq.below HB0.out, hk, by omega⟩
  have i0 : (k : Int) ≤ (l1 : Int) := by omega
  have i1 : (k : Int) ≤ (c1 : Int) := by omega
  have i2 : ¬ c1 = k := by omega
  have i3 : (m2 : Int) ≤ 2000000 := by omega
  have hmn : Hid (bs.length = Nat.min m2 (l1 - k)) := by show _ = _; rw [← hn]; exact (Nat.min_eq_left (by omega)).symm
  have HML : Hid (bs.length = m2) := hn.symm
  obtain ⟨x0, x1, x2, x3⟩ := X0.four
  obtain ⟨y0, y1, y2, y3, y4, y5⟩ := Y0.six
  have HD0 : Hid (OwnD z W0.heap.size (some ⟨b, 0, none⟩) a2 a3 a4 l1 l2 l3 l4 c1 c2 c3 c4 cs is hs rs) := D0
  have ny := D0.noBlk Y0 (by decide) (by decide)
  have nr := D0.noBlk R0 (by decide) (by decide)
  have HY : Hid (∀ z2, Chg z z2 (Of4 (.slice (some ⟨b, 0, none⟩) l1 c1) (.slice a2 l2 c2) (.slice a3 l3 c3) (.slice a4 l4 c4)) → Blk z2 (w.heap.size + 1) 57 #[.int .i64 kd, .int .i64 (k : Int), .int .i64 nn, .slice q1 m1 k1, .slice (some ⟨bq, off, none⟩) m2 k2, .int .i64 wa] ∧ Blk z2 (w.heap.size + 1 + 1) 37 #[.int .i64 0, .int .i64 0, .int .i64 0, .int .i64 0, .slice none 0 0, .slice none 0 0]) := fun z2 hc => ⟨Y0.chg hc ny, R0.chg hc nr⟩
  clear hz hD D0 hn hq hk h0 hcq ny nr hB b0 hcap h3
  go_enter Try.func83, Try.ntmps83
  go_upto_region 1 with fail
  rw [← HZ.out]
  have HDz : Hid (OwnD z.drew W0.heap.size (some ⟨b, 0, none⟩) a2 a3 a4 l1 l2 l3 l4 c1 c2 c3 c4 cs is hs rs) := HD0.out.drew
  have HQz : Hid (SlB z.drew (some ⟨bq, off, none⟩) bs) := HQ.out.2.1.below (Below.refl _ _).drew
  have HCz : Hid (∀ z2, Chg z.drew z2 (Of4 (.slice (some ⟨b, 0, none⟩) l1 c1) (.slice a2 l2 c2) (.slice a3 l3 c3) (.slice a4 l4 c4)) → Chg z z2 (Of4 (.slice (some ⟨b, 0, none⟩) l1 c1) (.slice a2 l2 c2) (.slice a3 l3 c3) (.slice a4 l4 c4))) := fun z2 h => (show Chg z z.drew _ from Chg.ofBelow (Below.refl _ _).drew).trans h
  go_region_law ((refine step_copyC rfl (.tmp 9) (.tmp 11) rfl HDz.out (l1 - k) _ m2 k2 ⟨bq, off, none⟩ bs rfl rfl HQz.out hmn.out HQ.out.2.2.1 HQ.out.2.2.2 ?_); intro z2 D2 C2')
  all_goals (have C2 := HCz.out z2 C2'; obtain ⟨Y2, R2⟩ := HY.out z2 C2; have HD2 : Hid (OwnD z2 W0.heap.size (some ⟨b, 0, none⟩) a2 a3 a4 l1 l2 l3 l4 c1 c2 c3 c4 (wr cs k bs) is hs rs) := D2; have HC2 : Hid (Chg z z2 (Of4 (.slice (some ⟨b, 0, none⟩) l1 c1) (.slice a2 l2 c2) (.slice a3 l3 c3) (.slice a4 l4 c4))) := C2; obtain ⟨u0, u1, u2, u3, u4, u5⟩ := Y2.six; obtain ⟨r0, r1, r2, r3, r4, r5⟩ := R2.six; have f0 := R2.fro 0; have f1 := R2.fro 1; have f2 := R2.fro 2; have f3 := R2.fro 3; have f4 := R2.fro 4; have f5 := R2.fro 5; have HR2 : Hid (ExB z2 (w.heap.size + 1 + 1) 37) := ⟨_, R2⟩; clear D2 C2 C2' Y2 R2 HDz HQz HCz x0 x1 x2 x3 y0 y1 y2 y3 y4 y5)
  all_goals go_wp2_with fail
  all_goals refine bodyPost_ret (v := rp kd 0 (k : Int) (m2 : Int) none none 0 0 0 0) (by simp [results, Try.results83, go_sem, r0, r1, r2, r3, r4, r5]) rfl ?_
  all_goals exact ⟨_, _, _, _, _, _, rfl, ownI_nil0 _ _, ownB_nil0 _ _, HD2.out.set6 HR2.out (by decide) (by decide), belp_set6 (Chg.below HB0.out HC2.out (fun g hg => (HD0.out.of4 g hg).1) HB0.out.size) (by have := HS0.out; omega), (C0.out.trans HC2.out).set6 (by omega)⟩
end Go.Proofs.Ytfdddkjonjpgpaa
namespace Go.Proofs.Ytfdddkjonjpgpaa
open Go.RowKit
set_option linter.unusedVariables false
set_option linter.unusedSimpArgs false
set_option maxRecDepth 20000 in
set_option maxHeartbeats 2000000 in
theorem setCoil_any (a1 a2 a3 a4 : Option Addr) (l1 l2 l3 l4 c1 c2 c3 c4 : Nat) (cs is : List Bool) (hs rs : List Int) (kd nn wa : Int) (k : Nat) (q1 q2 : Option Addr) (m1 m2 k1 k2 : Nat) (ws : List Int) (bs : List Bool) (W0 w : World) (hB : Below W0.heap.size W0 w) (hD : OwnD w W0.heap.size a1 a2 a3 a4 l1 l2 l3 l4 c1 c2 c3 c4 cs is hs rs) (hn : m2 = bs.length) (hq : SlB W0 q2 bs) (hk : k < l1) (h0 : 0 < bs.length) (hl : bs.length ≤ 2000000) (h3 : l1 ≤ 2000000) :
    Calls Try.prog 81 #[dv a1 a2 a3 a4 l1 l2 l3 l4 c1 c2 c3 c4, .agg #[.int .i64 kd, .int .i64 (k : Int), .int .i64 nn, .slice q1 m1 k1, .slice q2 m2 k2, .int .i64 wa]] w fun e w' => SV W0 w w' e a1 a2 a3 a4 l1 l2 l3 l4 c1 c2 c3 c4 (cs.set k (bs.getD 0 false)) is hs rs kd 0 (k : Int) 0 [] bs := by
  obtain ⟨z, hz⟩ : ∃ z, z = ((w.alloc (.cells #[.slice a1 l1 c1, .slice a2 l2 c2, .slice a3 l3 c3, .slice a4 l4 c4] 27)).alloc (.cells #[.int .i64 kd, .int .i64 (k : Int), .int .i64 nn, .slice q1 m1 k1, .slice q2 m2 k2, .int .i64 wa] 57)).alloc (.cells #[.int .i64 0, .int .i64 0, .int .i64 0, .int .i64 0, .slice none 0 0, .slice none 0 0] 37) := ⟨_, rfl⟩
  have HZ : Hid (z = _) := hz
  have b0 : Below w.heap.size w z := by rw [hz]; exact bel_next (bel_next (bel_alloc w _) (bel_alloc _ _)) (bel_alloc _ _)
  have X0 : Blk z w.heap.size 27 #[.slice a1 l1 c1, .slice a2 l2 c2, .slice a3 l3 c3, .slice a4 l4 c4] := by rw [hz]; exact ((Blk.new w _ _).below (bel_alloc _ _)).below (bel_alloc _ _)
  have Y0 : Blk z (w.heap.size + 1) 57 #[.int .i64 kd, .int .i64 (k : Int), .int .i64 nn, .slice q1 m1 k1, .slice q2 m2 k2, .int .i64 wa] := by rw [hz]; have := (Blk.new (w.alloc (.cells #[.slice a1 l1 c1, .slice a2 l2 c2, .slice a3 l3 c3, .slice a4 l4 c4] 27)) #[.int .i64 kd, .int .i64 (k : Int), .int .i64 nn, .slice q1 m1 k1, .slice q2 m2 k2, .int .i64 wa] 57).below (bel_alloc _ (.cells #[.int .i64 0, .int .i64 0, .int .i64 0, .int .i64 0, .slice none 0 0, .slice none 0 0] 37)); simpa using this
  have R0 : Blk z (w.heap.size + 1 + 1) 37 #[.int .i64 0, .int .i64 0, .int .i64 0, .int .i64 0, .slice none 0 0, .slice none 0 0] := by rw [hz]; have := Blk.new ((w.alloc (.cells #[.slice a1 l1 c1, .slice a2 l2 c2, .slice a3 l3 c3, .slice a4 l4 c4] 27)).alloc (.cells #[.int .i64 kd, .int .i64 (k : Int), .int .i64 nn, .slice q1 m1 k1, .slice q2 m2 k2, .int .i64 wa] 57)) #[.int .i64 0, .int .i64 0, .int .i64 0, .int .i64 0, .slice none 0 0, .slice none 0 0] 37; simpa using this
  have HB0 : Hid (Below W0.heap.size W0 z) := hB.trans (b0.mono hB.size)
  have D0 := hD.below b0
  have C0 : Hid (Chg w z (Of4 (.slice a1 l1 c1) (.slice a2 l2 c2) (.slice a3 l3 c3) (.slice a4 l4 c4))) := Chg.ofBelow b0
  have HS0 : Hid (W0.heap.size ≤ w.heap.size) := hB.size
  have HQ : Hid (m2 = bs.length ∧ SlB W0 q2 bs ∧ bs.length ≤ 2000000) := ⟨hn, hq, hl⟩
  obtain ⟨b, ea1, hb, hlt, hc, hf, hset⟩ := D0.setCoil hk
  subst ea1
  obtain ⟨bq, off, eq1, hbq, hcq⟩ := cell_atB (hq.below HB0.out) h0
  have hcq0 : z.cell? ⟨bq, off, none⟩ = some (.bool (bs.getD 0 false)) := by simpa using hcq
  subst eq1
  generalize hx : bs.getD 0 false = x at *
  obtain ⟨D1, C1⟩ := hset x
  have Y1 := Y0.chg C1 (D0.noBlk Y0 (by decide) (by decide))
  have R1 := R0.chg C1 (D0.noBlk R0 (by decide) (by decide))
  have i0 : (k : Int) < (l1 : Int) := by omega
  have i1 : (0 : Int) < (m2 : Int) := by omega
  obtain ⟨x0, x1, x2, x3⟩ := X0.four
  obtain ⟨y0, y1, y2, y3, y4, y5⟩ := Y0.six
  have HH0 : Hid (OwnD (z.setCell ⟨b, k, none⟩ (.bool x)) W0.heap.size (some ⟨b, 0, none⟩) a2 a3 a4 l1 l2 l3 l4 c1 c2 c3 c4 (cs.set k x) is hs rs ∧ Chg w (z.setCell ⟨b, k, none⟩ (.bool x)) (Of4 (.slice (some ⟨b, 0, none⟩) l1 c1) (.slice a2 l2 c2) (.slice a3 l3 c3) (.slice a4 l4 c4)) ∧ Below W0.heap.size W0 (z.setCell ⟨b, k, none⟩ (.bool x))) := ⟨D1, C0.out.trans C1, bel_setG HB0.out hb⟩
  clear hz hset D1 C1 D0 hD hcq hq hn hl hk hlt
  go_enter Try.func81, Try.ntmps81
  go_upto_region 1 with fail
  rw [← HZ.out]
  go_region
  clear hc hf hcq0 x0 x1 x2 x3 y0 y1 y2 y3 y4 y5
  go_upto_region 2 with fail
  obtain ⟨z2, hz2⟩ : ∃ z2, z2 = (z.setCell ⟨b, k, none⟩ (.bool x)).drew := ⟨_, rfl⟩
  have Y2 := Y1.drew
  have R2 := R1.drew
  rw [← hz2] at Y2 R2
  have D2 : OwnD z2 W0.heap.size (some ⟨b, 0, none⟩) a2 a3 a4 l1 l2 l3 l4 c1 c2 c3 c4 (cs.set k x) is hs rs := by rw [hz2]; exact HH0.out.1.drew
  have C2 : Hid (Chg w z2 (Of4 (.slice (some ⟨b, 0, none⟩) l1 c1) (.slice a2 l2 c2) (.slice a3 l3 c3) (.slice a4 l4 c4))) := by rw [hz2]; exact HH0.out.2.1.drew
  have HB2 : Hid (Below W0.heap.size W0 z2) := by rw [hz2]; exact HH0.out.2.2.drew
  simp only [← hz2]
  clear hz2 Y1 R1 HH0
  obtain ⟨y0, y1, y2, y3, y4, y5⟩ := Y2.six
  have dz : Below z2.heap.size z2 z2.drew := (Below.refl _ _).drew
  go_region_held3 (fun w' => w'.cell? ⟨w.heap.size + 1, 0, none⟩ = some (.int .i64 kd) ∧ w'.cell? ⟨w.heap.size + 1, 1, none⟩ = some (.int .i64 (k : Int)) ∧ w'.cell? ⟨w.heap.size + 1, 4, none⟩ = some (.slice (some ⟨bq, off, none⟩) m2 k2)) (go_keep)
    (first | (go_at_call 60; refine (copyOfB (some ⟨bq, off, none⟩) m2 k2 bs _ HQ.out.1 (HQ.out.2.1.below (by first | exact HB2.out | exact HB2.out.drew)) HQ.out.2.2).mono ?_; rintro e w3 ⟨g, rfl, i3, b'⟩; have B3 : Below z2.heap.size z2 w3 := (by first | exact b' | exact bel_next dz b'); obtain ⟨v0, v1, v2, v3, v4, v5⟩ := (Y2.below B3).six; obtain ⟨r0, r1, r2, r3, r4, r5⟩ := (R2.below B3).six; have f3 := (R2.below B3).fro; have g0 := f3 0; have g1 := f3 1; have g2 := f3 2; have g3 := f3 3; have g4 := f3 4; have g5 := f3 5; have zs3 : Hid (z2.heap.size ≤ w3.heap.size) := B3.size; clear b'))
  all_goals (
    have D3 := D2.below B3
    have HH : Hid (OwnB w3 w.heap.size (.slice (some ⟨g, 0, none⟩) m2 m2) bs ∧ OwnD w3 W0.heap.size (some ⟨b, 0, none⟩) a2 a3 a4 l1 l2 l3 l4 c1 c2 c3 c4 _ is hs rs ∧ ExB w3 (w.heap.size + 1 + 1) 37 ∧ Below W0.heap.size W0 w3 ∧ Chg w w3 _) := ⟨OwnB.mono i3 (by exact C2.out.2.2.2.1), D3, ⟨_, R2.below B3⟩, HB2.out.trans (B3.mono (by have := HB2.out.size; omega)), C2.out.trans (Chg.ofBelow B3)⟩
    clear i3 D3
    go_wp2
    refine bodyPost_ret (v := rp kd 0 (k : Int) 0 none (some ⟨g, 0, none⟩) 0 m2 0 m2) (by simp [results, Try.results81, go_sem, r0, r1, r2, r3, r4, r5]) rfl ?_
    obtain ⟨o1, o2, o3, o4, o5⟩ := HH.out
    exact ⟨_, _, _, _, _, _, rfl, ownI_nil0 _ _, rowp_set6 o1 o3 (by decide), o2.set6 o3 (by decide) (by decide), belp_set6 o4 (by have := HS0.out; omega), o5.set6 (by omega)⟩)
set_option maxRecDepth 20000 in
set_option maxHeartbeats 2000000 in
theorem setAndTell_any (a1 a2 a3 a4 : Option Addr) (l1 l2 l3 l4 c1 c2 c3 c4 : Nat) (cs is : List Bool) (hs rs : List Int) (kd nn wa : Int) (k : Nat) (q1 q2 : Option Addr) (m1 m2 k1 k2 : Nat) (ws : List Int) (bs : List Bool) (W0 w : World) (hB : Below W0.heap.size W0 w) (hD : OwnD w W0.heap.size a1 a2 a3 a4 l1 l2 l3 l4 c1 c2 c3 c4 cs is hs rs) (N j : Nat) (hn : m1 = ws.length) (hq : SlI W0 q1 ws) (hj : j + ws.length ≤ l3) (hk : k + N ≤ l3) (hN : 1 ≤ N) (h0 : 0 < ws.length) (h3 : l3 ≤ 2000000) (h65 : k ≤ 65535) (hj65 : j ≤ 65535) :
    Calls Try.prog 86 #[dv a1 a2 a3 a4 l1 l2 l3 l4 c1 c2 c3 c4, .agg #[.int .i64 kd, .int .i64 (k : Int), .int .i64 (N : Int), .slice q1 m1 k1, .slice q2 m2 k2, .int .i64 (j : Int)]] w fun e w' => SV W0 w w' e a1 a2 a3 a4 l1 l2 l3 l4 c1 c2 c3 c4 cs is (wr hs j ws) rs kd 0 0 0 (((wr hs j ws).drop k).take N) [] := by
  obtain ⟨z, hz⟩ : ∃ z, z = ((w.alloc (.cells #[.slice a1 l1 c1, .slice a2 l2 c2, .slice a3 l3 c3, .slice a4 l4 c4] 27)).alloc (.cells #[.int .i64 kd, .int .i64 (k : Int), .int .i64 (N : Int), .slice q1 m1 k1, .slice q2 m2 k2, .int .i64 (j : Int)] 57)).alloc (.cells #[.int .i64 0, .int .i64 0, .int .i64 0, .int .i64 0, .slice none 0 0, .slice none 0 0] 37) := ⟨_, rfl⟩
  have HZ : Hid (z = _) := hz
  have b0 : Below w.heap.size w z := by rw [hz]; exact bel_next (bel_next (bel_alloc w _) (bel_alloc _ _)) (bel_alloc _ _)
  have X0 : Blk z w.heap.size 27 #[.slice a1 l1 c1, .slice a2 l2 c2, .slice a3 l3 c3, .slice a4 l4 c4] := by rw [hz]; exact ((Blk.new w _ _).below (bel_alloc _ _)).below (bel_alloc _ _)
  have Y0 : Blk z (w.heap.size + 1) 57 #[.int .i64 kd, .int .i64 (k : Int), .int .i64 (N : Int), .slice q1 m1 k1, .slice q2 m2 k2, .int .i64 (j : Int)] := by rw [hz]; have := (Blk.new (w.alloc (.cells #[.slice a1 l1 c1, .slice a2 l2 c2, .slice a3 l3 c3, .slice a4 l4 c4] 27)) #[.int .i64 kd, .int .i64 (k : Int), .int .i64 (N : Int), .slice q1 m1 k1, .slice q2 m2 k2, .int .i64 (j : Int)] 57).below (bel_alloc _ (.cells #[.int .i64 0, .int .i64 0, .int .i64 0, .int .i64 0, .slice none 0 0, .slice none 0 0] 37)); simpa using this
  have R0 : Blk z (w.heap.size + 1 + 1) 37 #[.int .i64 0, .int .i64 0, .int .i64 0, .int .i64 0, .slice none 0 0, .slice none 0 0] := by rw [hz]; have := Blk.new ((w.alloc (.cells #[.slice a1 l1 c1, .slice a2 l2 c2, .slice a3 l3 c3, .slice a4 l4 c4] 27)).alloc (.cells #[.int .i64 kd, .int .i64 (k : Int), .int .i64 (N : Int), .slice q1 m1 k1, .slice q2 m2 k2, .int .i64 (j : Int)] 57)) #[.int .i64 0, .int .i64 0, .int .i64 0, .int .i64 0, .slice none 0 0, .slice none 0 0] 37; simpa using this
  have HB0 : Hid (Below W0.heap.size W0 z) := hB.trans (b0.mono hB.size)
  have D0 := hD.below b0
  have C0 : Hid (Chg w z (Of4 (.slice a1 l1 c1) (.slice a2 l2 c2) (.slice a3 l3 c3) (.slice a4 l4 c4))) := Chg.ofBelow b0
  have HS0 : Hid (W0.heap.size ≤ w.heap.size) := hB.size
  obtain ⟨b, ea, hcap⟩ := D0.2.2.1.cap (by omega)
  subst ea
  obtain ⟨bq, off, eq1, hbq, hcq⟩ := cell_atI (hq.below HB0.out) h0
  subst eq1
  have HQ : Hid (m1 = ws.length ∧ SlI z (some ⟨bq, off, none⟩) ws ∧ j + ws.length ≤ l3 ∧ 0 < l3) := ⟨hn, hq.below HB0.out, hj, by omega⟩
  have HQ2 : Hid (l3 ≤ c3 ∧ k + N ≤ l3 ∧ l3 ≤ 2000000 ∧ k ≤ 65535 ∧ 1 ≤ N) := ⟨hcap, hk, h3, h65, hN⟩
  have i0 : (j : Int) ≤ (l3 : Int) := by omega
  have i1 : (j : Int) ≤ (c3 : Int) := by omega
  have i2 : ¬ c3 = j := by omega
  have hmn : Hid (ws.length = Nat.min m1 (l3 - j)) := by show _ = _; rw [← hn]; exact (Nat.min_eq_left (by omega)).symm
  obtain ⟨x0, x1, x2, x3⟩ := X0.four
  obtain ⟨y0, y1, y2, y3, y4, y5⟩ := Y0.six
  have HD0 : Hid (OwnD z W0.heap.size a1 a2 (some ⟨b, 0, none⟩) a4 l1 l2 l3 l4 c1 c2 c3 c4 cs is hs rs) := D0
  have nx := D0.noBlk X0 (by decide) (by decide)
  have ny := D0.noBlk Y0 (by decide) (by decide)
  have nr := D0.noBlk R0 (by decide) (by decide)
  have HY : Hid (∀ z2, Chg z z2 (Of4 (.slice a1 l1 c1) (.slice a2 l2 c2) (.slice (some ⟨b, 0, none⟩) l3 c3) (.slice a4 l4 c4)) → Blk z2 w.heap.size 27 #[.slice a1 l1 c1, .slice a2 l2 c2, .slice (some ⟨b, 0, none⟩) l3 c3, .slice a4 l4 c4] ∧ Blk z2 (w.heap.size + 1) 57 #[.int .i64 kd, .int .i64 (k : Int), .int .i64 (N : Int), .slice (some ⟨bq, off, none⟩) m1 k1, .slice q2 m2 k2, .int .i64 (j : Int)] ∧ Blk z2 (w.heap.size + 1 + 1) 37 #[.int .i64 0, .int .i64 0, .int .i64 0, .int .i64 0, .slice none 0 0, .slice none 0 0]) := fun z2 hc => ⟨X0.chg hc nx, Y0.chg hc ny, R0.chg hc nr⟩
  clear hz hD D0 hn hq hk h0 hcq nx ny nr hB b0 hcap h3 hj hN h65 hj65
  go_enter Try.func86, Try.ntmps86
  go_upto_region 1 with fail
  rw [← HZ.out]
  have HDz : Hid (OwnD z.drew W0.heap.size a1 a2 (some ⟨b, 0, none⟩) a4 l1 l2 l3 l4 c1 c2 c3 c4 cs is hs rs) := HD0.out.drew
  have HQz : Hid (SlI z.drew (some ⟨bq, off, none⟩) ws) := HQ.out.2.1.below (Below.refl _ _).drew
  have HCz : Hid (∀ z2, Chg z.drew z2 (Of4 (.slice a1 l1 c1) (.slice a2 l2 c2) (.slice (some ⟨b, 0, none⟩) l3 c3) (.slice a4 l4 c4)) → Chg z z2 (Of4 (.slice a1 l1 c1) (.slice a2 l2 c2) (.slice (some ⟨b, 0, none⟩) l3 c3) (.slice a4 l4 c4))) := fun z2 h => (show Chg z z.drew _ from Chg.ofBelow (Below.refl _ _).drew).trans h
  go_region_law ((refine step_copyH rfl (.tmp 9) (.tmp 11) rfl HDz.out (l3 - j) _ m1 k1 ⟨bq, off, none⟩ ws rfl rfl HQz.out hmn.out HQ.out.2.2.1 HQ.out.2.2.2 ?_); intro z2 D2 C2')
  all_goals (have C2 := HCz.out z2 C2'; obtain ⟨X2, Y2, R2⟩ := HY.out z2 C2; have HC2 : Hid (Chg z z2 (Of4 (.slice a1 l1 c1) (.slice a2 l2 c2) (.slice (some ⟨b, 0, none⟩) l3 c3) (.slice a4 l4 c4))) := C2; obtain ⟨u0, u1, u2, u3, u4, u5⟩ := Y2.six; obtain ⟨v0, v1, v2, v3⟩ := X2.four; clear C2 C2' X2 Y2 HDz HQz HCz x0 x1 x2 x3 y0 y1 y2 y3 y4 y5)
  all_goals go_wp2_with fail
  all_goals (
    refine (tellRun_any kd (j : Int) k N (some ⟨bq, off, none⟩) q2 m1 m2 k1 k2 b l3 c3 (wr hs j ws) _ D2.2.2.1.sl.1 D2.2.2.1.sl.2 HQ2.out.1 HQ2.out.2.1 HQ2.out.2.2.1 HQ2.out.2.2.2.1 HQ2.out.2.2.2.2).mono ?_
    rintro e w3 ⟨r1, r2, n1, n2, e1, e2, rfl, o1, o2, b'⟩
    have R3 := R2.below b'
    obtain ⟨s0, s1, s2, s3, s4, s5⟩ := R3.six
    have f3 := R3.fro
    have HB2 : Below W0.heap.size W0 z2 := Chg.below HB0.out HC2.out (fun g hg => (HD0.out.of4 g hg).1) HB0.out.size
    have HH : Hid (OwnI w3 w.heap.size (.slice r1 n1 e1) (((wr hs j ws).drop k).take N) ∧ OwnB w3 w.heap.size (.slice r2 n2 e2) [] ∧ OwnD w3 W0.heap.size a1 a2 (some ⟨b, 0, none⟩) a4 l1 l2 l3 l4 c1 c2 c3 c4 cs is (wr hs j ws) rs ∧ Below W0.heap.size W0 w3 ∧ ExB w3 (w.heap.size + 1 + 1) 37 ∧ Chg w w3 (Of4 (.slice a1 l1 c1) (.slice a2 l2 c2) (.slice (some ⟨b, 0, none⟩) l3 c3) (.slice a4 l4 c4))) := ⟨o1.mono (C0.out.trans HC2.out).2.2.2.1, o2.mono (C0.out.trans HC2.out).2.2.2.1, D2.below b', HB2.trans (b'.mono HB2.size), ⟨_, R3⟩, (C0.out.trans HC2.out).trans (Chg.ofBelow b')⟩
    clear o1 o2 b' R3 R2 D2 HB2 u0 u1 u2 u3 u4 u5 v0 v1 v2 v3
    go_wp2
    refine bodyPost_ret (v := rp kd 0 0 0 r1 r2 n1 n2 e1 e2) (by simp [results, Try.results86, go_sem, s0, s1, s2, s3, s4, s5]) rfl ?_
    obtain ⟨o1, o2, o3, o4, o5, o6⟩ := HH.out
    exact ⟨_, _, _, _, _, _, rfl, rowp_set6 o1 o5 (by decide), rowp_set6 o2 o5 (by decide), o3.set6 o5 (by decide) (by decide), belp_set6 o4 (by have := HS0.out; omega), o6.set6 (by omega)⟩)
end Go.Proofs.Ytfdddkjonjpgpaa
namespace Go.Proofs.Ytfdddkjonjpgpaa
open Go.RowKit
set_option linter.unusedVariables false
set_option linter.unusedSimpArgs false
set_option maxRecDepth 20000 in
set_option maxHeartbeats 8000000 in
theorem serve_1 (a1 a2 a3 a4 : Option Addr) (l1 l2 l3 l4 c1 c2 c3 c4 : Nat) (cs is : List Bool) (hs rs : List Int) (pl nn wa : Int) (q1 q2 : Option Addr) (m1 m2 k1 k2 : Nat) (ws : List Int) (bs : List Bool) (W0 w : World) (hB : Below W0.heap.size W0 w) (hD : OwnD w W0.heap.size a1 a2 a3 a4 l1 l2 l3 l4 c1 c2 c3 c4 cs is hs rs) (hn : m1 = ws.length) (hn2 : m2 = bs.length) (hq : SlI W0 q1 ws) (hq2 : SlB W0 q2 bs) (hl : ws.length ≤ 2000000) (hl2 : bs.length ≤ 2000000) (hok : okR 1 pl nn wa ws m1 m2 = true) (hd : okD l1 l2 l3 l4 hs rs = true) (hsm : SmD 2000000 cs is hs rs)
    (cs' is' : List Bool) (hs' rs' : List Int) (ws' : List Int) (bs' : List Bool) (pl' nn' : Int)
    (hAll : ∀ w : World, SlI w q1 ws → SlB w q2 bs → Calls Try.prog 64 #[dv a1 a2 a3 a4 l1 l2 l3 l4 c1 c2 c3 c4, rq 1 pl nn wa q1 q2 m1 m2 k1 k2] w fun e w' => e = .returned (.bool true) ∧ Below w.heap.size w w')
    (hdo : ∀ w : World, Below W0.heap.size W0 w → OwnD w W0.heap.size a1 a2 a3 a4 l1 l2 l3 l4 c1 c2 c3 c4 cs is hs rs → Calls Try.prog 77 #[dv a1 a2 a3 a4 l1 l2 l3 l4 c1 c2 c3 c4, rq 1 pl nn wa q1 q2 m1 m2 k1 k2] w fun e w' => SV W0 w w' e a1 a2 a3 a4 l1 l2 l3 l4 c1 c2 c3 c4 cs' is' hs' rs' 1 0 pl' nn' ws' bs') :
    Calls Try.prog 31 #[dv a1 a2 a3 a4 l1 l2 l3 l4 c1 c2 c3 c4, rq 1 pl nn wa q1 q2 m1 m2 k1 k2] w fun e w' => SV W0 w w' e a1 a2 a3 a4 l1 l2 l3 l4 c1 c2 c3 c4 cs' is' hs' rs' 1 0 pl' nn' ws' bs' := by
  obtain ⟨z, hz⟩ : ∃ z, z = ((w.alloc (.cells #[.slice a1 l1 c1, .slice a2 l2 c2, .slice a3 l3 c3, .slice a4 l4 c4] 27)).alloc (.cells #[.int .i64 1, .int .i64 pl, .int .i64 nn, .slice q1 m1 k1, .slice q2 m2 k2, .int .i64 wa] 57)).alloc (.cells #[.int .i64 0, .int .i64 0, .int .i64 0, .int .i64 0, .slice none 0 0, .slice none 0 0] 37) := ⟨_, rfl⟩
  have HZ : Hid (z = _) := hz
  have b0 : Below w.heap.size w z := by rw [hz]; exact bel_next (bel_next (bel_alloc w _) (bel_alloc _ _)) (bel_alloc _ _)
  have X0 : Blk z w.heap.size 27 #[.slice a1 l1 c1, .slice a2 l2 c2, .slice a3 l3 c3, .slice a4 l4 c4] := by rw [hz]; exact ((Blk.new w _ _).below (bel_alloc _ _)).below (bel_alloc _ _)
  have Y0 : Blk z (w.heap.size + 1) 57 #[.int .i64 1, .int .i64 pl, .int .i64 nn, .slice q1 m1 k1, .slice q2 m2 k2, .int .i64 wa] := by rw [hz]; have := (Blk.new (w.alloc (.cells #[.slice a1 l1 c1, .slice a2 l2 c2, .slice a3 l3 c3, .slice a4 l4 c4] 27)) #[.int .i64 1, .int .i64 pl, .int .i64 nn, .slice q1 m1 k1, .slice q2 m2 k2, .int .i64 wa] 57).below (bel_alloc _ (.cells #[.int .i64 0, .int .i64 0, .int .i64 0, .int .i64 0, .slice none 0 0, .slice none 0 0] 37)); simpa using this
  have R0 : Blk z (w.heap.size + 1 + 1) 37 #[.int .i64 0, .int .i64 0, .int .i64 0, .int .i64 0, .slice none 0 0, .slice none 0 0] := by rw [hz]; have := Blk.new ((w.alloc (.cells #[.slice a1 l1 c1, .slice a2 l2 c2, .slice a3 l3 c3, .slice a4 l4 c4] 27)).alloc (.cells #[.int .i64 1, .int .i64 pl, .int .i64 nn, .slice q1 m1 k1, .slice q2 m2 k2, .int .i64 wa] 57)) #[.int .i64 0, .int .i64 0, .int .i64 0, .int .i64 0, .slice none 0 0, .slice none 0 0] 37; simpa using this
  have HB0 : Hid (Below W0.heap.size W0 w) := hB
  have HD0 : Hid (OwnD w W0.heap.size a1 a2 a3 a4 l1 l2 l3 l4 c1 c2 c3 c4 cs is hs rs) := hD
  have HQ : Hid (m1 = ws.length ∧ m2 = bs.length ∧ SlI W0 q1 ws ∧ SlB W0 q2 bs ∧ ws.length ≤ 2000000 ∧ bs.length ≤ 2000000) := ⟨hn, hn2, hq, hq2, hl, hl2⟩
  have HOK : Hid (okR 1 pl nn wa ws m1 m2 = true ∧ okD l1 l2 l3 l4 hs rs = true ∧ SmD 2000000 cs is hs rs ∧ LnD l1 l2 l3 l4 cs is hs rs) := ⟨hok, hd, hsm, hD.sl.1⟩
  have HA : Hid _ := hAll
  have HDO : Hid _ := hdo
  have BW : ∀ u : World, Below w.heap.size w u → Below W0.heap.size W0 u := fun u hu => HB0.out.trans (hu.mono HB0.out.size)
  obtain ⟨x0, x1, x2, x3⟩ := X0.four
  obtain ⟨y0, y1, y2, y3, y4, y5⟩ := Y0.six
  clear hz hB hD hn hn2 hq hq2 hl hl2 hok hd hsm hAll hdo
  go_enter Try.func31, Try.ntmps31
  go_upto_region 1 with fail
  rw [← HZ.out]
  go_wp2_with fail
  refine (implReqOk_q 1 pl nn wa q1 q2 m1 m2 k1 k2 ws bs _ HQ.out.1 HQ.out.2.1 (HQ.out.2.2.1.below (BW _ b0)) (HQ.out.2.2.2.1.below (BW _ b0)) HQ.out.2.2.2.2.1 HQ.out.2.2.2.2.2).mono ?_
  rintro e w1 ⟨he, b'⟩
  rw [HOK.out.1] at he
  subst he
  have b1 := bel_next b0 b'
  have X1 := X0.below b'
  have Y1 := Y0.below b'
  have R1 := R0.below b'
  clear x0 x1 x2 x3 y0 y1 y2 y3 y4 y5 X0 Y0 R0 b0 b'
  obtain ⟨x0, x1, x2, x3⟩ := X1.four
  obtain ⟨y0, y1, y2, y3, y4, y5⟩ := Y1.six
  go_wp2_with fail
  refine (implDeviceOk_any a1 a2 a3 a4 l1 l2 l3 l4 c1 c2 c3 c4 cs is hs rs _ HOK.out.2.2.2 (HD0.out.below b1).sl.2 HOK.out.2.2.1 _ HOK.out.2.1).mono ?_
  rintro e w2 ⟨rfl, b'⟩
  have b2 := bel_next b1 b'
  have X2 := X1.below b'
  have Y2 := Y1.below b'
  have R2 := R1.below b'
  clear x0 x1 x2 x3 y0 y1 y2 y3 y4 y5 X1 Y1 R1 b1 b'
  obtain ⟨x0, x1, x2, x3⟩ := X2.four
  obtain ⟨y0, y1, y2, y3, y4, y5⟩ := Y2.six
  go_wp2_with fail
  refine (HA.out _ (HQ.out.2.2.1.below (BW _ b2)) (HQ.out.2.2.2.1.below (BW _ b2))).mono ?_
  rintro e w3 ⟨rfl, b'⟩
  have b3 := bel_next b2 b'
  have X3 := X2.below b'
  have Y3 := Y2.below b'
  have R3 := R2.below b'
  clear x0 x1 x2 x3 y0 y1 y2 y3 y4 y5 X2 Y2 R2 b2 b'
  obtain ⟨x0, x1, x2, x3⟩ := X3.four
  obtain ⟨y0, y1, y2, y3, y4, y5⟩ := Y3.six
  go_upto_region 7 with fail
  have d3 : Below w3.heap.size w3 w3.drew := (Below.refl _ _).drew
  have hne2 : ¬ (w.heap.size = w.heap.size + 1 + 1) := by omega
  have hne3 : ¬ (w.heap.size + 1 + 1 = w.heap.size) := by omega
  go_region_held3 (fun w' => w'.cell? ⟨w.heap.size, 0, none⟩ = some (.slice a1 l1 c1) ∧ w'.cell? ⟨w.heap.size, 1, none⟩ = some (.slice a2 l2 c2) ∧ w'.cell? ⟨w.heap.size, 2, none⟩ = some (.slice a3 l3 c3) ∧ w'.cell? ⟨w.heap.size, 3, none⟩ = some (.slice a4 l4 c4) ∧ w'.cell? ⟨w.heap.size + 1, 0, none⟩ = some (.int .i64 1) ∧ w'.cell? ⟨w.heap.size + 1, 1, none⟩ = some (.int .i64 pl) ∧ w'.cell? ⟨w.heap.size + 1, 2, none⟩ = some (.int .i64 nn) ∧ w'.cell? ⟨w.heap.size + 1, 3, none⟩ = some (.slice q1 m1 k1) ∧ w'.cell? ⟨w.heap.size + 1, 4, none⟩ = some (.slice q2 m2 k2) ∧ w'.cell? ⟨w.heap.size + 1, 5, none⟩ = some (.int .i64 wa)) (go_keep)
    (first
      | (go_at_call 65; refine (deeds_any _).mono ?_; rintro e w4 ⟨rfl, hm4, b'⟩; have B4 : Below w3.heap.size w3 w4 := (by first | exact b' | exact bel_next d3 b'); have lk4 : (Instr.lookup 87 (.map (some w3.heap.size)) (.int .i64 1) false).run Try.prog w4 = .ok (.func (.func 77) #[] #[]) w4 := mp_get 1 (.func (.func 77) #[] #[]) 0 _ _ _ _ hm4 rfl; obtain ⟨x40, x41, x42, x43⟩ := (X3.below B4).four; obtain ⟨y40, y41, y42, y43, y44, y45⟩ := (Y3.below B4).six; clear b')
      | (go_at_call 77; refine (HDO.out _ (BW _ (by first | exact bel_next b3 B4 | exact (bel_next b3 B4).drew)) (HD0.out.below (by first | exact bel_next b3 B4 | exact (bel_next b3 B4).drew))).mono ?_; rintro e w5 ⟨r1, r2, n1, n2, e1, e2, rfl, o1, o2, o3, o4, o5⟩; have D4 := HD0.out.below (bel_next b3 B4); have X5 := (X3.below B4).chg o5 (D4.noBlk (X3.below B4) (by decide) (by decide)); have Y5 := (Y3.below B4).chg o5 (D4.noBlk (Y3.below B4) (by decide) (by decide)); have R5 := (R3.below B4).chg o5 (D4.noBlk (R3.below B4) (by decide) (by decide)); obtain ⟨x50, x51, x52, x53⟩ := X5.four; obtain ⟨y50, y51, y52, y53, y54, y55⟩ := Y5.six; obtain ⟨s0, s1, s2, s3, s4, s5⟩ := R5.six; have f0 := R5.fro 0; have f1 := R5.fro 1; have f2 := R5.fro 2; have f3 := R5.fro 3; have f4 := R5.fro 4; have f5 := R5.fro 5; have sz4 : w.heap.size ≤ w4.heap.size := (bel_next b3 B4).size; have HH : Hid (OwnI w5 w.heap.size (.slice r1 n1 e1) ws' ∧ OwnB w5 w.heap.size (.slice r2 n2 e2) bs' ∧ OwnD w5 W0.heap.size a1 a2 a3 a4 l1 l2 l3 l4 c1 c2 c3 c4 cs' is' hs' rs' ∧ Below W0.heap.size W0 w5 ∧ Chg w w5 (Of4 (.slice a1 l1 c1) (.slice a2 l2 c2) (.slice a3 l3 c3) (.slice a4 l4 c4)) ∧ ExB w5 (w.heap.size + 1 + 1) 37) := ⟨OwnI.mono o1 (by exact sz4), OwnB.mono o2 (by exact sz4), o3, o4, (Chg.ofBelow (bel_next b3 B4)).trans o5, ⟨_, R5⟩⟩; have HZ0 : Hid (W0.heap.size ≤ w.heap.size) := HB0.out.size; clear o1 o2 o3 o4 o5 D4 X5 Y5 R5))
  all_goals (
    go_wp2
    refine bodyPost_ret (v := rp 1 0 pl' nn' r1 r2 n1 n2 e1 e2) (by simp [results, Try.results31, go_sem, s0, s1, s2, s3, s4, s5]) rfl ?_
    obtain ⟨o1, o2, o3, o4, o5, o6⟩ := HH.out
    exact ⟨_, _, _, _, _, _, rfl, rowp_set6 o1 o6 (by decide), rowp_set6 o2 o6 (by decide), o3.set6 o6 (by decide) (by decide), belp_set6 o4 (by have := HZ0.out; omega), o5.set6 (by omega)⟩)
set_option maxRecDepth 20000 in
set_option maxHeartbeats 8000000 in
theorem serve_2 (a1 a2 a3 a4 : Option Addr) (l1 l2 l3 l4 c1 c2 c3 c4 : Nat) (cs is : List Bool) (hs rs : List Int) (pl nn wa : Int) (q1 q2 : Option Addr) (m1 m2 k1 k2 : Nat) (ws : List Int) (bs : List Bool) (W0 w : World) (hB : Below W0.heap.size W0 w) (hD : OwnD w W0.heap.size a1 a2 a3 a4 l1 l2 l3 l4 c1 c2 c3 c4 cs is hs rs) (hn : m1 = ws.length) (hn2 : m2 = bs.length) (hq : SlI W0 q1 ws) (hq2 : SlB W0 q2 bs) (hl : ws.length ≤ 2000000) (hl2 : bs.length ≤ 2000000) (hok : okR 2 pl nn wa ws m1 m2 = true) (hd : okD l1 l2 l3 l4 hs rs = true) (hsm : SmD 2000000 cs is hs rs)
    (cs' is' : List Bool) (hs' rs' : List Int) (ws' : List Int) (bs' : List Bool) (pl' nn' : Int)
    (hAll : ∀ w : World, SlI w q1 ws → SlB w q2 bs → Calls Try.prog 64 #[dv a1 a2 a3 a4 l1 l2 l3 l4 c1 c2 c3 c4, rq 2 pl nn wa q1 q2 m1 m2 k1 k2] w fun e w' => e = .returned (.bool true) ∧ Below w.heap.size w w')
    (hdo : ∀ w : World, Below W0.heap.size W0 w → OwnD w W0.heap.size a1 a2 a3 a4 l1 l2 l3 l4 c1 c2 c3 c4 cs is hs rs → Calls Try.prog 78 #[dv a1 a2 a3 a4 l1 l2 l3 l4 c1 c2 c3 c4, rq 2 pl nn wa q1 q2 m1 m2 k1 k2] w fun e w' => SV W0 w w' e a1 a2 a3 a4 l1 l2 l3 l4 c1 c2 c3 c4 cs' is' hs' rs' 2 0 pl' nn' ws' bs') :
    Calls Try.prog 31 #[dv a1 a2 a3 a4 l1 l2 l3 l4 c1 c2 c3 c4, rq 2 pl nn wa q1 q2 m1 m2 k1 k2] w fun e w' => SV W0 w w' e a1 a2 a3 a4 l1 l2 l3 l4 c1 c2 c3 c4 cs' is' hs' rs' 2 0 pl' nn' ws' bs' := by
  obtain ⟨z, hz⟩ : ∃ z, z = ((w.alloc (.cells #[.slice a1 l1 c1, .slice a2 l2 c2, .slice a3 l3 c3, .slice a4 l4 c4] 27)).alloc (.cells #[.int .i64 2, .int .i64 pl, .int .i64 nn, .slice q1 m1 k1, .slice q2 m2 k2, .int .i64 wa] 57)).alloc (.cells #[.int .i64 0, .int .i64 0, .int .i64 0, .int .i64 0, .slice none 0 0, .slice none 0 0] 37) := ⟨_, rfl⟩
  have HZ : Hid (z = _) := hz
  have b0 : Below w.heap.size w z := by rw [hz]; exact bel_next (bel_next (bel_alloc w _) (bel_alloc _ _)) (bel_alloc _ _)
  have X0 : Blk z w.heap.size 27 #[.slice a1 l1 c1, .slice a2 l2 c2, .slice a3 l3 c3, .slice a4 l4 c4] := by rw [hz]; exact ((Blk.new w _ _).below (bel_alloc _ _)).below (bel_alloc _ _)
  have Y0 : Blk z (w.heap.size + 1) 57 #[.int .i64 2, .int .i64 pl, .int .i64 nn, .slice q1 m1 k1, .slice q2 m2 k2, .int .i64 wa] := by rw [hz]; have := (Blk.new (w.alloc (.cells #[.slice a1 l1 c1, .slice a2 l2 c2, .slice a3 l3 c3, .slice a4 l4 c4] 27)) #[.int .i64 2, .int .i64 pl, .int .i64 nn, .slice q1 m1 k1, .slice q2 m2 k2, .int .i64 wa] 57).below (bel_alloc _ (.cells #[.int .i64 0, .int .i64 0, .int .i64 0, .int .i64 0, .slice none 0 0, .slice none 0 0] 37)); simpa using this
  have R0 : Blk z (w.heap.size + 1 + 1) 37 #[.int .i64 0, .int .i64 0, .int .i64 0, .int .i64 0, .slice none 0 0, .slice none 0 0] := by rw [hz]; have := Blk.new ((w.alloc (.cells #[.slice a1 l1 c1, .slice a2 l2 c2, .slice a3 l3 c3, .slice a4 l4 c4] 27)).alloc (.cells #[.int .i64 2, .int .i64 pl, .int .i64 nn, .slice q1 m1 k1, .slice q2 m2 k2, .int .i64 wa] 57)) #[.int .i64 0, .int .i64 0, .int .i64 0, .int .i64 0, .slice none 0 0, .slice none 0 0] 37; simpa using this
  have HB0 : Hid (Below W0.heap.size W0 w) := hB
  have HD0 : Hid (OwnD w W0.heap.size a1 a2 a3 a4 l1 l2 l3 l4 c1 c2 c3 c4 cs is hs rs) := hD
  have HQ : Hid (m1 = ws.length ∧ m2 = bs.length ∧ SlI W0 q1 ws ∧ SlB W0 q2 bs ∧ ws.length ≤ 2000000 ∧ bs.length ≤ 2000000) := ⟨hn, hn2, hq, hq2, hl, hl2⟩
  have HOK : Hid (okR 2 pl nn wa ws m1 m2 = true ∧ okD l1 l2 l3 l4 hs rs = true ∧ SmD 2000000 cs is hs rs ∧ LnD l1 l2 l3 l4 cs is hs rs) := ⟨hok, hd, hsm, hD.sl.1⟩
  have HA : Hid _ := hAll
  have HDO : Hid _ := hdo
  have BW : ∀ u : World, Below w.heap.size w u → Below W0.heap.size W0 u := fun u hu => HB0.out.trans (hu.mono HB0.out.size)
  obtain ⟨x0, x1, x2, x3⟩ := X0.four
  obtain ⟨y0, y1, y2, y3, y4, y5⟩ := Y0.six
  clear hz hB hD hn hn2 hq hq2 hl hl2 hok hd hsm hAll hdo
  go_enter Try.func31, Try.ntmps31
  go_upto_region 1 with fail
  rw [← HZ.out]
  go_wp2_with fail
  refine (implReqOk_q 2 pl nn wa q1 q2 m1 m2 k1 k2 ws bs _ HQ.out.1 HQ.out.2.1 (HQ.out.2.2.1.below (BW _ b0)) (HQ.out.2.2.2.1.below (BW _ b0)) HQ.out.2.2.2.2.1 HQ.out.2.2.2.2.2).mono ?_
  rintro e w1 ⟨he, b'⟩
  rw [HOK.out.1] at he
  subst he
  have b1 := bel_next b0 b'
  have X1 := X0.below b'
  have Y1 := Y0.below b'
  have R1 := R0.below b'
  clear x0 x1 x2 x3 y0 y1 y2 y3 y4 y5 X0 Y0 R0 b0 b'
  obtain ⟨x0, x1, x2, x3⟩ := X1.four
  obtain ⟨y0, y1, y2, y3, y4, y5⟩ := Y1.six
  go_wp2_with fail
  refine (implDeviceOk_any a1 a2 a3 a4 l1 l2 l3 l4 c1 c2 c3 c4 cs is hs rs _ HOK.out.2.2.2 (HD0.out.below b1).sl.2 HOK.out.2.2.1 _ HOK.out.2.1).mono ?_
  rintro e w2 ⟨rfl, b'⟩
  have b2 := bel_next b1 b'
  have X2 := X1.below b'
  have Y2 := Y1.below b'
  have R2 := R1.below b'
  clear x0 x1 x2 x3 y0 y1 y2 y3 y4 y5 X1 Y1 R1 b1 b'
  obtain ⟨x0, x1, x2, x3⟩ := X2.four
  obtain ⟨y0, y1, y2, y3, y4, y5⟩ := Y2.six
  go_wp2_with fail
  refine (HA.out _ (HQ.out.2.2.1.below (BW _ b2)) (HQ.out.2.2.2.1.below (BW _ b2))).mono ?_
  rintro e w3 ⟨rfl, b'⟩
  have b3 := bel_next b2 b'
  have X3 := X2.below b'
  have Y3 := Y2.below b'
  have R3 := R2.below b'
  clear x0 x1 x2 x3 y0 y1 y2 y3 y4 y5 X2 Y2 R2 b2 b'
  obtain ⟨x0, x1, x2, x3⟩ := X3.four
  obtain ⟨y0, y1, y2, y3, y4, y5⟩ := Y3.six
  go_upto_region 7 with fail
  have d3 : Below w3.heap.size w3 w3.drew := (Below.refl _ _).drew
  have hne2 : ¬ (w.heap.size = w.heap.size + 1 + 1) := by omega
  have hne3 : ¬ (w.heap.size + 1 + 1 = w.heap.size) := by omega
  go_region_held3 (fun w' => w'.cell? ⟨w.heap.size, 0, none⟩ = some (.slice a1 l1 c1) ∧ w'.cell? ⟨w.heap.size, 1, none⟩ = some (.slice a2 l2 c2) ∧ w'.cell? ⟨w.heap.size, 2, none⟩ = some (.slice a3 l3 c3) ∧ w'.cell? ⟨w.heap.size, 3, none⟩ = some (.slice a4 l4 c4) ∧ w'.cell? ⟨w.heap.size + 1, 0, none⟩ = some (.int .i64 2) ∧ w'.cell? ⟨w.heap.size + 1, 1, none⟩ = some (.int .i64 pl) ∧ w'.cell? ⟨w.heap.size + 1, 2, none⟩ = some (.int .i64 nn) ∧ w'.cell? ⟨w.heap.size + 1, 3, none⟩ = some (.slice q1 m1 k1) ∧ w'.cell? ⟨w.heap.size + 1, 4, none⟩ = some (.slice q2 m2 k2) ∧ w'.cell? ⟨w.heap.size + 1, 5, none⟩ = some (.int .i64 wa)) (go_keep)
    (first
      | (go_at_call 65; refine (deeds_any _).mono ?_; rintro e w4 ⟨rfl, hm4, b'⟩; have B4 : Below w3.heap.size w3 w4 := (by first | exact b' | exact bel_next d3 b'); have lk4 : (Instr.lookup 87 (.map (some w3.heap.size)) (.int .i64 2) false).run Try.prog w4 = .ok (.func (.func 78) #[] #[]) w4 := mp_get 2 (.func (.func 78) #[] #[]) 1 _ _ _ _ hm4 rfl; obtain ⟨x40, x41, x42, x43⟩ := (X3.below B4).four; obtain ⟨y40, y41, y42, y43, y44, y45⟩ := (Y3.below B4).six; clear b')
      | (go_at_call 78; refine (HDO.out _ (BW _ (by first | exact bel_next b3 B4 | exact (bel_next b3 B4).drew)) (HD0.out.below (by first | exact bel_next b3 B4 | exact (bel_next b3 B4).drew))).mono ?_; rintro e w5 ⟨r1, r2, n1, n2, e1, e2, rfl, o1, o2, o3, o4, o5⟩; have D4 := HD0.out.below (bel_next b3 B4); have X5 := (X3.below B4).chg o5 (D4.noBlk (X3.below B4) (by decide) (by decide)); have Y5 := (Y3.below B4).chg o5 (D4.noBlk (Y3.below B4) (by decide) (by decide)); have R5 := (R3.below B4).chg o5 (D4.noBlk (R3.below B4) (by decide) (by decide)); obtain ⟨x50, x51, x52, x53⟩ := X5.four; obtain ⟨y50, y51, y52, y53, y54, y55⟩ := Y5.six; obtain ⟨s0, s1, s2, s3, s4, s5⟩ := R5.six; have f0 := R5.fro 0; have f1 := R5.fro 1; have f2 := R5.fro 2; have f3 := R5.fro 3; have f4 := R5.fro 4; have f5 := R5.fro 5; have sz4 : w.heap.size ≤ w4.heap.size := (bel_next b3 B4).size; have HH : Hid (OwnI w5 w.heap.size (.slice r1 n1 e1) ws' ∧ OwnB w5 w.heap.size (.slice r2 n2 e2) bs' ∧ OwnD w5 W0.heap.size a1 a2 a3 a4 l1 l2 l3 l4 c1 c2 c3 c4 cs' is' hs' rs' ∧ Below W0.heap.size W0 w5 ∧ Chg w w5 (Of4 (.slice a1 l1 c1) (.slice a2 l2 c2) (.slice a3 l3 c3) (.slice a4 l4 c4)) ∧ ExB w5 (w.heap.size + 1 + 1) 37) := ⟨OwnI.mono o1 (by exact sz4), OwnB.mono o2 (by exact sz4), o3, o4, (Chg.ofBelow (bel_next b3 B4)).trans o5, ⟨_, R5⟩⟩; have HZ0 : Hid (W0.heap.size ≤ w.heap.size) := HB0.out.size; clear o1 o2 o3 o4 o5 D4 X5 Y5 R5))
  all_goals (
    go_wp2
    refine bodyPost_ret (v := rp 2 0 pl' nn' r1 r2 n1 n2 e1 e2) (by simp [results, Try.results31, go_sem, s0, s1, s2, s3, s4, s5]) rfl ?_
    obtain ⟨o1, o2, o3, o4, o5, o6⟩ := HH.out
    exact ⟨_, _, _, _, _, _, rfl, rowp_set6 o1 o6 (by decide), rowp_set6 o2 o6 (by decide), o3.set6 o6 (by decide) (by decide), belp_set6 o4 (by have := HZ0.out; omega), o5.set6 (by omega)⟩)
set_option maxRecDepth 20000 in
set_option maxHeartbeats 8000000 in
theorem serve_3 (a1 a2 a3 a4 : Option Addr) (l1 l2 l3 l4 c1 c2 c3 c4 : Nat) (cs is : List Bool) (hs rs : List Int) (pl nn wa : Int) (q1 q2 : Option Addr) (m1 m2 k1 k2 : Nat) (ws : List Int) (bs : List Bool) (W0 w : World) (hB : Below W0.heap.size W0 w) (hD : OwnD w W0.heap.size a1 a2 a3 a4 l1 l2 l3 l4 c1 c2 c3 c4 cs is hs rs) (hn : m1 = ws.length) (hn2 : m2 = bs.length) (hq : SlI W0 q1 ws) (hq2 : SlB W0 q2 bs) (hl : ws.length ≤ 2000000) (hl2 : bs.length ≤ 2000000) (hok : okR 3 pl nn wa ws m1 m2 = true) (hd : okD l1 l2 l3 l4 hs rs = true) (hsm : SmD 2000000 cs is hs rs)
    (cs' is' : List Bool) (hs' rs' : List Int) (ws' : List Int) (bs' : List Bool) (pl' nn' : Int)
    (hAll : ∀ w : World, SlI w q1 ws → SlB w q2 bs → Calls Try.prog 64 #[dv a1 a2 a3 a4 l1 l2 l3 l4 c1 c2 c3 c4, rq 3 pl nn wa q1 q2 m1 m2 k1 k2] w fun e w' => e = .returned (.bool true) ∧ Below w.heap.size w w')
    (hdo : ∀ w : World, Below W0.heap.size W0 w → OwnD w W0.heap.size a1 a2 a3 a4 l1 l2 l3 l4 c1 c2 c3 c4 cs is hs rs → Calls Try.prog 79 #[dv a1 a2 a3 a4 l1 l2 l3 l4 c1 c2 c3 c4, rq 3 pl nn wa q1 q2 m1 m2 k1 k2] w fun e w' => SV W0 w w' e a1 a2 a3 a4 l1 l2 l3 l4 c1 c2 c3 c4 cs' is' hs' rs' 3 0 pl' nn' ws' bs') :
    Calls Try.prog 31 #[dv a1 a2 a3 a4 l1 l2 l3 l4 c1 c2 c3 c4, rq 3 pl nn wa q1 q2 m1 m2 k1 k2] w fun e w' => SV W0 w w' e a1 a2 a3 a4 l1 l2 l3 l4 c1 c2 c3 c4 cs' is' hs' rs' 3 0 pl' nn' ws' bs' := by
  obtain ⟨z, hz⟩ : ∃ z, z = ((w.alloc (.cells #[.slice a1 l1 c1, .slice a2 l2 c2, .slice a3 l3 c3, .slice a4 l4 c4] 27)).alloc (.cells #[.int .i64 3, .int .i64 pl, .int .i64 nn, .slice q1 m1 k1, .slice q2 m2 k2, .int .i64 wa] 57)).alloc (.cells #[.int .i64 0, .int .i64 0, .int .i64 0, .int .i64 0, .slice none 0 0, .slice none 0 0] 37) := ⟨_, rfl⟩
  have HZ : Hid (z = _) := hz
  have b0 : Below w.heap.size w z := by rw [hz]; exact bel_next (bel_next (bel_alloc w _) (bel_alloc _ _)) (bel_alloc _ _)
  have X0 : Blk z w.heap.size 27 #[.slice a1 l1 c1, .slice a2 l2 c2, .slice a3 l3 c3, .slice a4 l4 c4] := by rw [hz]; exact ((Blk.new w _ _).below (bel_alloc _ _)).below (bel_alloc _ _)
  have Y0 : Blk z (w.heap.size + 1) 57 #[.int .i64 3, .int .i64 pl, .int .i64 nn, .slice q1 m1 k1, .slice q2 m2 k2, .int .i64 wa] := by rw [hz]; have := (Blk.new (w.alloc (.cells #[.slice a1 l1 c1, .slice a2 l2 c2, .slice a3 l3 c3, .slice a4 l4 c4] 27)) #[.int .i64 3, .int .i64 pl, .int .i64 nn, .slice q1 m1 k1, .slice q2 m2 k2, .int .i64 wa] 57).below (bel_alloc _ (.cells #[.int .i64 0, .int .i64 0, .int .i64 0, .int .i64 0, .slice none 0 0, .slice none 0 0] 37)); simpa using this
  have R0 : Blk z (w.heap.size + 1 + 1) 37 #[.int .i64 0, .int .i64 0, .int .i64 0, .int .i64 0, .slice none 0 0, .slice none 0 0] := by rw [hz]; have := Blk.new ((w.alloc (.cells #[.slice a1 l1 c1, .slice a2 l2 c2, .slice a3 l3 c3, .slice a4 l4 c4] 27)).alloc (.cells #[.int .i64 3, .int .i64 pl, .int .i64 nn, .slice q1 m1 k1, .slice q2 m2 k2, .int .i64 wa] 57)) #[.int .i64 0, .int .i64 0, .int .i64 0, .int .i64 0, .slice none 0 0, .slice none 0 0] 37; simpa using this
  have HB0 : Hid (Below W0.heap.size W0 w) := hB
  have HD0 : Hid (OwnD w W0.heap.size a1 a2 a3 a4 l1 l2 l3 l4 c1 c2 c3 c4 cs is hs rs) := hD
  have HQ : Hid (m1 = ws.length ∧ m2 = bs.length ∧ SlI W0 q1 ws ∧ SlB W0 q2 bs ∧ ws.length ≤ 2000000 ∧ bs.length ≤ 2000000) := ⟨hn, hn2, hq, hq2, hl, hl2⟩
  have HOK : Hid (okR 3 pl nn wa ws m1 m2 = true ∧ okD l1 l2 l3 l4 hs rs = true ∧ SmD 2000000 cs is hs rs ∧ LnD l1 l2 l3 l4 cs is hs rs) := ⟨hok, hd, hsm, hD.sl.1⟩
  have HA : Hid _ := hAll
  have HDO : Hid _ := hdo
  have BW : ∀ u : World, Below w.heap.size w u → Below W0.heap.size W0 u := fun u hu => HB0.out.trans (hu.mono HB0.out.size)
  obtain ⟨x0, x1, x2, x3⟩ := X0.four
  obtain ⟨y0, y1, y2, y3, y4, y5⟩ := Y0.six
  clear hz hB hD hn hn2 hq hq2 hl hl2 hok hd hsm hAll hdo
  go_enter Try.func31, Try.ntmps31
  go_upto_region 1 with fail
  rw [← HZ.out]
  go_wp2_with fail
  refine (implReqOk_q 3 pl nn wa q1 q2 m1 m2 k1 k2 ws bs _ HQ.out.1 HQ.out.2.1 (HQ.out.2.2.1.below (BW _ b0)) (HQ.out.2.2.2.1.below (BW _ b0)) HQ.out.2.2.2.2.1 HQ.out.2.2.2.2.2).mono ?_
  rintro e w1 ⟨he, b'⟩
  rw [HOK.out.1] at he
  subst he
  have b1 := bel_next b0 b'
  have X1 := X0.below b'
  have Y1 := Y0.below b'
  have R1 := R0.below b'
  clear x0 x1 x2 x3 y0 y1 y2 y3 y4 y5 X0 Y0 R0 b0 b'
  obtain ⟨x0, x1, x2, x3⟩ := X1.four
  obtain ⟨y0, y1, y2, y3, y4, y5⟩ := Y1.six
  go_wp2_with fail
  refine (implDeviceOk_any a1 a2 a3 a4 l1 l2 l3 l4 c1 c2 c3 c4 cs is hs rs _ HOK.out.2.2.2 (HD0.out.below b1).sl.2 HOK.out.2.2.1 _ HOK.out.2.1).mono ?_
  rintro e w2 ⟨rfl, b'⟩
  have b2 := bel_next b1 b'
  have X2 := X1.below b'
  have Y2 := Y1.below b'
  have R2 := R1.below b'
  clear x0 x1 x2 x3 y0 y1 y2 y3 y4 y5 X1 Y1 R1 b1 b'
  obtain ⟨x0, x1, x2, x3⟩ := X2.four
  obtain ⟨y0, y1, y2, y3, y4, y5⟩ := Y2.six
  go_wp2_with fail
  refine (HA.out _ (HQ.out.2.2.1.below (BW _ b2)) (HQ.out.2.2.2.1.below (BW _ b2))).mono ?_
  rintro e w3 ⟨rfl, b'⟩
  have b3 := bel_next b2 b'
  have X3 := X2.below b'
  have Y3 := Y2.below b'
  have R3 := R2.below b'
  clear x0 x1 x2 x3 y0 y1 y2 y3 y4 y5 X2 Y2 R2 b2 b'
  obtain ⟨x0, x1, x2, x3⟩ := X3.four
  obtain ⟨y0, y1, y2, y3, y4, y5⟩ := Y3.six
  go_upto_region 7 with fail
  have d3 : Below w3.heap.size w3 w3.drew := (Below.refl _ _).drew
  have hne2 : ¬ (w.heap.size = w.heap.size + 1 + 1) := by omega
  have hne3 : ¬ (w.heap.size + 1 + 1 = w.heap.size) := by omega
  go_region_held3 (fun w' => w'.cell? ⟨w.heap.size, 0, none⟩ = some (.slice a1 l1 c1) ∧ w'.cell? ⟨w.heap.size, 1, none⟩ = some (.slice a2 l2 c2) ∧ w'.cell? ⟨w.heap.size, 2, none⟩ = some (.slice a3 l3 c3) ∧ w'.cell? ⟨w.heap.size, 3, none⟩ = some (.slice a4 l4 c4) ∧ w'.cell? ⟨w.heap.size + 1, 0, none⟩ = some (.int .i64 3) ∧ w'.cell? ⟨w.heap.size + 1, 1, none⟩ = some (.int .i64 pl) ∧ w'.cell? ⟨w.heap.size + 1, 2, none⟩ = some (.int .i64 nn) ∧ w'.cell? ⟨w.heap.size + 1, 3, none⟩ = some (.slice q1 m1 k1) ∧ w'.cell? ⟨w.heap.size + 1, 4, none⟩ = some (.slice q2 m2 k2) ∧ w'.cell? ⟨w.heap.size + 1, 5, none⟩ = some (.int .i64 wa)) (go_keep)
    (first
      | (go_at_call 65; refine (deeds_any _).mono ?_; rintro e w4 ⟨rfl, hm4, b'⟩; have B4 : Below w3.heap.size w3 w4 := (by first | exact b' | exact bel_next d3 b'); have lk4 : (Instr.lookup 87 (.map (some w3.heap.size)) (.int .i64 3) false).run Try.prog w4 = .ok (.func (.func 79) #[] #[]) w4 := mp_get 3 (.func (.func 79) #[] #[]) 2 _ _ _ _ hm4 rfl; obtain ⟨x40, x41, x42, x43⟩ := (X3.below B4).four; obtain ⟨y40, y41, y42, y43, y44, y45⟩ := (Y3.below B4).six; clear b')
      | (go_at_call 79; refine (HDO.out _ (BW _ (by first | exact bel_next b3 B4 | exact (bel_next b3 B4).drew)) (HD0.out.below (by first | exact bel_next b3 B4 | exact (bel_next b3 B4).drew))).mono ?_; rintro e w5 ⟨r1, r2, n1, n2, e1, e2, rfl, o1, o2, o3, o4, o5⟩; have D4 := HD0.out.below (bel_next b3 B4); have X5 := (X3.below B4).chg o5 (D4.noBlk (X3.below B4) (by decide) (by decide)); have Y5 := (Y3.below B4).chg o5 (D4.noBlk (Y3.below B4) (by decide) (by decide)); have R5 := (R3.below B4).chg o5 (D4.noBlk (R3.below B4) (by decide) (by decide)); obtain ⟨x50, x51, x52, x53⟩ := X5.four; obtain ⟨y50, y51, y52, y53, y54, y55⟩ := Y5.six; obtain ⟨s0, s1, s2, s3, s4, s5⟩ := R5.six; have f0 := R5.fro 0; have f1 := R5.fro 1; have f2 := R5.fro 2; have f3 := R5.fro 3; have f4 := R5.fro 4; have f5 := R5.fro 5; have sz4 : w.heap.size ≤ w4.heap.size := (bel_next b3 B4).size; have HH : Hid (OwnI w5 w.heap.size (.slice r1 n1 e1) ws' ∧ OwnB w5 w.heap.size (.slice r2 n2 e2) bs' ∧ OwnD w5 W0.heap.size a1 a2 a3 a4 l1 l2 l3 l4 c1 c2 c3 c4 cs' is' hs' rs' ∧ Below W0.heap.size W0 w5 ∧ Chg w w5 (Of4 (.slice a1 l1 c1) (.slice a2 l2 c2) (.slice a3 l3 c3) (.slice a4 l4 c4)) ∧ ExB w5 (w.heap.size + 1 + 1) 37) := ⟨OwnI.mono o1 (by exact sz4), OwnB.mono o2 (by exact sz4), o3, o4, (Chg.ofBelow (bel_next b3 B4)).trans o5, ⟨_, R5⟩⟩; have HZ0 : Hid (W0.heap.size ≤ w.heap.size) := HB0.out.size; clear o1 o2 o3 o4 o5 D4 X5 Y5 R5))
  all_goals (
    go_wp2
    refine bodyPost_ret (v := rp 3 0 pl' nn' r1 r2 n1 n2 e1 e2) (by simp [results, Try.results31, go_sem, s0, s1, s2, s3, s4, s5]) rfl ?_
    obtain ⟨o1, o2, o3, o4, o5, o6⟩ := HH.out
    exact ⟨_, _, _, _, _, _, rfl, rowp_set6 o1 o6 (by decide), rowp_set6 o2 o6 (by decide), o3.set6 o6 (by decide) (by decide), belp_set6 o4 (by have := HZ0.out; omega), o5.set6 (by omega)⟩)
set_option maxRecDepth 20000 in
set_option maxHeartbeats 8000000 in
theorem serve_4 (a1 a2 a3 a4 : Option Addr) (l1 l2 l3 l4 c1 c2 c3 c4 : Nat) (cs is : List Bool) (hs rs : List Int) (pl nn wa : Int) (q1 q2 : Option Addr) (m1 m2 k1 k2 : Nat) (ws : List Int) (bs : List Bool) (W0 w : World) (hB : Below W0.heap.size W0 w) (hD : OwnD w W0.heap.size a1 a2 a3 a4 l1 l2 l3 l4 c1 c2 c3 c4 cs is hs rs) (hn : m1 = ws.length) (hn2 : m2 = bs.length) (hq : SlI W0 q1 ws) (hq2 : SlB W0 q2 bs) (hl : ws.length ≤ 2000000) (hl2 : bs.length ≤ 2000000) (hok : okR 4 pl nn wa ws m1 m2 = true) (hd : okD l1 l2 l3 l4 hs rs = true) (hsm : SmD 2000000 cs is hs rs)
    (cs' is' : List Bool) (hs' rs' : List Int) (ws' : List Int) (bs' : List Bool) (pl' nn' : Int)
    (hAll : ∀ w : World, SlI w q1 ws → SlB w q2 bs → Calls Try.prog 64 #[dv a1 a2 a3 a4 l1 l2 l3 l4 c1 c2 c3 c4, rq 4 pl nn wa q1 q2 m1 m2 k1 k2] w fun e w' => e = .returned (.bool true) ∧ Below w.heap.size w w')
    (hdo : ∀ w : World, Below W0.heap.size W0 w → OwnD w W0.heap.size a1 a2 a3 a4 l1 l2 l3 l4 c1 c2 c3 c4 cs is hs rs → Calls Try.prog 80 #[dv a1 a2 a3 a4 l1 l2 l3 l4 c1 c2 c3 c4, rq 4 pl nn wa q1 q2 m1 m2 k1 k2] w fun e w' => SV W0 w w' e a1 a2 a3 a4 l1 l2 l3 l4 c1 c2 c3 c4 cs' is' hs' rs' 4 0 pl' nn' ws' bs') :
    Calls Try.prog 31 #[dv a1 a2 a3 a4 l1 l2 l3 l4 c1 c2 c3 c4, rq 4 pl nn wa q1 q2 m1 m2 k1 k2] w fun e w' => SV W0 w w' e a1 a2 a3 a4 l1 l2 l3 l4 c1 c2 c3 c4 cs' is' hs' rs' 4 0 pl' nn' ws' bs' := by
  obtain ⟨z, hz⟩ : ∃ z, z = ((w.alloc (.cells #[.slice a1 l1 c1, .slice a2 l2 c2, .slice a3 l3 c3, .slice a4 l4 c4] 27)).alloc (.cells #[.int .i64 4, .int .i64 pl, .int .i64 nn, .slice q1 m1 k1, .slice q2 m2 k2, .int .i64 wa] 57)).alloc (.cells #[.int .i64 0, .int .i64 0, .int .i64 0, .int .i64 0, .slice none 0 0, .slice none 0 0] 37) := ⟨_, rfl⟩
  have HZ : Hid (z = _) := hz
  have b0 : Below w.heap.size w z := by rw [hz]; exact bel_next (bel_next (bel_alloc w _) (bel_alloc _ _)) (bel_alloc _ _)
  have X0 : Blk z w.heap.size 27 #[.slice a1 l1 c1, .slice a2 l2 c2, .slice a3 l3 c3, .slice a4 l4 c4] := by rw [hz]; exact ((Blk.new w _ _).below (bel_alloc _ _)).below (bel_alloc _ _)
  have Y0 : Blk z (w.heap.size + 1) 57 #[.int .i64 4, .int .i64 pl, .int .i64 nn, .slice q1 m1 k1, .slice q2 m2 k2, .int .i64 wa] := by rw [hz]; have := (Blk.new (w.alloc (.cells #[.slice a1 l1 c1, .slice a2 l2 c2, .slice a3 l3 c3, .slice a4 l4 c4] 27)) #[.int .i64 4, .int .i64 pl, .int .i64 nn, .slice q1 m1 k1, .slice q2 m2 k2, .int .i64 wa] 57).below (bel_alloc _ (.cells #[.int .i64 0, .int .i64 0, .int .i64 0, .int .i64 0, .slice none 0 0, .slice none 0 0] 37)); simpa using this
  have R0 : Blk z (w.heap.size + 1 + 1) 37 #[.int .i64 0, .int .i64 0, .int .i64 0, .int .i64 0, .slice none 0 0, .slice none 0 0] := by rw [hz]; have := Blk.new ((w.alloc (.cells #[.slice a1 l1 c1, .slice a2 l2 c2, .slice a3 l3 c3, .slice a4 l4 c4] 27)).alloc (.cells #[.int .i64 4, .int .i64 pl, .int .i64 nn, .slice q1 m1 k1, .slice q2 m2 k2, .int .i64 wa] 57)) #[.int .i64 0, .int .i64 0, .int .i64 0, .int .i64 0, .slice none 0 0, .slice none 0 0] 37; simpa using this
  have HB0 : Hid (Below W0.heap.size W0 w) := hB
  have HD0 : Hid (OwnD w W0.heap.size a1 a2 a3 a4 l1 l2 l3 l4 c1 c2 c3 c4 cs is hs rs) := hD
  have HQ : Hid (m1 = ws.length ∧ m2 = bs.length ∧ SlI W0 q1 ws ∧ SlB W0 q2 bs ∧ ws.length ≤ 2000000 ∧ bs.length ≤ 2000000) := ⟨hn, hn2, hq, hq2, hl, hl2⟩
  have HOK : Hid (okR 4 pl nn wa ws m1 m2 = true ∧ okD l1 l2 l3 l4 hs rs = true ∧ SmD 2000000 cs is hs rs ∧ LnD l1 l2 l3 l4 cs is hs rs) := ⟨hok, hd, hsm, hD.sl.1⟩
  have HA : Hid _ := hAll
  have HDO : Hid _ := hdo
  have BW : ∀ u : World, Below w.heap.size w u → Below W0.heap.size W0 u := fun u hu => HB0.out.trans (hu.mono HB0.out.size)
  obtain ⟨x0, x1, x2, x3⟩ := X0.four
  obtain ⟨y0, y1, y2, y3, y4, y5⟩ := Y0.six
  clear hz hB hD hn hn2 hq hq2 hl hl2 hok hd hsm hAll hdo
  go_enter Try.func31, Try.ntmps31
  go_upto_region 1 with fail
  rw [← HZ.out]
  go_wp2_with fail
  refine (implReqOk_q 4 pl nn wa q1 q2 m1 m2 k1 k2 ws bs _ HQ.out.1 HQ.out.2.1 (HQ.out.2.2.1.below (BW _ b0)) (HQ.out.2.2.2.1.below (BW _ b0)) HQ.out.2.2.2.2.1 HQ.out.2.2.2.2.2).mono ?_
  rintro e w1 ⟨he, b'⟩
  rw [HOK.out.1] at he
  subst he
  have b1 := bel_next b0 b'
  have X1 := X0.below b'
  have Y1 := Y0.below b'
  have R1 := R0.below b'
  clear x0 x1 x2 x3 y0 y1 y2 y3 y4 y5 X0 Y0 R0 b0 b'
  obtain ⟨x0, x1, x2, x3⟩ := X1.four
  obtain ⟨y0, y1, y2, y3, y4, y5⟩ := Y1.six
  go_wp2_with fail
  refine (implDeviceOk_any a1 a2 a3 a4 l1 l2 l3 l4 c1 c2 c3 c4 cs is hs rs _ HOK.out.2.2.2 (HD0.out.below b1).sl.2 HOK.out.2.2.1 _ HOK.out.2.1).mono ?_
  rintro e w2 ⟨rfl, b'⟩
  have b2 := bel_next b1 b'
  have X2 := X1.below b'
  have Y2 := Y1.below b'
  have R2 := R1.below b'
  clear x0 x1 x2 x3 y0 y1 y2 y3 y4 y5 X1 Y1 R1 b1 b'
  obtain ⟨x0, x1, x2, x3⟩ := X2.four
  obtain ⟨y0, y1, y2, y3, y4, y5⟩ := Y2.six
  go_wp2_with fail
  refine (HA.out _ (HQ.out.2.2.1.below (BW _ b2)) (HQ.out.2.2.2.1.below (BW _ b2))).mono ?_
  rintro e w3 ⟨rfl, b'⟩
  have b3 := bel_next b2 b'
  have X3 := X2.below b'
  have Y3 := Y2.below b'
  have R3 := R2.below b'
  clear x0 x1 x2 x3 y0 y1 y2 y3 y4 y5 X2 Y2 R2 b2 b'
  obtain ⟨x0, x1, x2, x3⟩ := X3.four
  obtain ⟨y0, y1, y2, y3, y4, y5⟩ := Y3.six
  go_upto_region 7 with fail
  have d3 : Below w3.heap.size w3 w3.drew := (Below.refl _ _).drew
  have hne2 : ¬ (w.heap.size = w.heap.size + 1 + 1) := by omega
  have hne3 : ¬ (w.heap.size + 1 + 1 = w.heap.size) := by omega
  go_region_held3 (fun w' => w'.cell? ⟨w.heap.size, 0, none⟩ = some (.slice a1 l1 c1) ∧ w'.cell? ⟨w.heap.size, 1, none⟩ = some (.slice a2 l2 c2) ∧ w'.cell? ⟨w.heap.size, 2, none⟩ = some (.slice a3 l3 c3) ∧ w'.cell? ⟨w.heap.size, 3, none⟩ = some (.slice a4 l4 c4) ∧ w'.cell? ⟨w.heap.size + 1, 0, none⟩ = some (.int .i64 4) ∧ w'.cell? ⟨w.heap.size + 1, 1, none⟩ = some (.int .i64 pl) ∧ w'.cell? ⟨w.heap.size + 1, 2, none⟩ = some (.int .i64 nn) ∧ w'.cell? ⟨w.heap.size + 1, 3, none⟩ = some (.slice q1 m1 k1) ∧ w'.cell? ⟨w.heap.size + 1, 4, none⟩ = some (.slice q2 m2 k2) ∧ w'.cell? ⟨w.heap.size + 1, 5, none⟩ = some (.int .i64 wa)) (go_keep)
    (first
      | (go_at_call 65; refine (deeds_any _).mono ?_; rintro e w4 ⟨rfl, hm4, b'⟩; have B4 : Below w3.heap.size w3 w4 := (by first | exact b' | exact bel_next d3 b'); have lk4 : (Instr.lookup 87 (.map (some w3.heap.size)) (.int .i64 4) false).run Try.prog w4 = .ok (.func (.func 80) #[] #[]) w4 := mp_get 4 (.func (.func 80) #[] #[]) 3 _ _ _ _ hm4 rfl; obtain ⟨x40, x41, x42, x43⟩ := (X3.below B4).four; obtain ⟨y40, y41, y42, y43, y44, y45⟩ := (Y3.below B4).six; clear b')
      | (go_at_call 80; refine (HDO.out _ (BW _ (by first | exact bel_next b3 B4 | exact (bel_next b3 B4).drew)) (HD0.out.below (by first | exact bel_next b3 B4 | exact (bel_next b3 B4).drew))).mono ?_; rintro e w5 ⟨r1, r2, n1, n2, e1, e2, rfl, o1, o2, o3, o4, o5⟩; have D4 := HD0.out.below (bel_next b3 B4); have X5 := (X3.below B4).chg o5 (D4.noBlk (X3.below B4) (by decide) (by decide)); have Y5 := (Y3.below B4).chg o5 (D4.noBlk (Y3.below B4) (by decide) (by decide)); have R5 := (R3.below B4).chg o5 (D4.noBlk (R3.below B4) (by decide) (by decide)); obtain ⟨x50, x51, x52, x53⟩ := X5.four; obtain ⟨y50, y51, y52, y53, y54, y55⟩ := Y5.six; obtain ⟨s0, s1, s2, s3, s4, s5⟩ := R5.six; have f0 := R5.fro 0; have f1 := R5.fro 1; have f2 := R5.fro 2; have f3 := R5.fro 3; have f4 := R5.fro 4; have f5 := R5.fro 5; have sz4 : w.heap.size ≤ w4.heap.size := (bel_next b3 B4).size; have HH : Hid (OwnI w5 w.heap.size (.slice r1 n1 e1) ws' ∧ OwnB w5 w.heap.size (.slice r2 n2 e2) bs' ∧ OwnD w5 W0.heap.size a1 a2 a3 a4 l1 l2 l3 l4 c1 c2 c3 c4 cs' is' hs' rs' ∧ Below W0.heap.size W0 w5 ∧ Chg w w5 (Of4 (.slice a1 l1 c1) (.slice a2 l2 c2) (.slice a3 l3 c3) (.slice a4 l4 c4)) ∧ ExB w5 (w.heap.size + 1 + 1) 37) := ⟨OwnI.mono o1 (by exact sz4), OwnB.mono o2 (by exact sz4), o3, o4, (Chg.ofBelow (bel_next b3 B4)).trans o5, ⟨_, R5⟩⟩; have HZ0 : Hid (W0.heap.size ≤ w.heap.size) := HB0.out.size; clear o1 o2 o3 o4 o5 D4 X5 Y5 R5))
  all_goals (
    go_wp2
    refine bodyPost_ret (v := rp 4 0 pl' nn' r1 r2 n1 n2 e1 e2) (by simp [results, Try.results31, go_sem, s0, s1, s2, s3, s4, s5]) rfl ?_
    obtain ⟨o1, o2, o3, o4, o5, o6⟩ := HH.out
    exact ⟨_, _, _, _, _, _, rfl, rowp_set6 o1 o6 (by decide), rowp_set6 o2 o6 (by decide), o3.set6 o6 (by decide) (by decide), belp_set6 o4 (by have := HZ0.out; omega), o5.set6 (by omega)⟩)
end Go.Proofs.Ytfdddkjonjpgpaa
