/- Texts that the proof needs, joined: Mk4 Mk5 Tr7 Tr8 Tr10. -/
import Derived.Test.YtkfgijkkffbpmaaGreatV2
set_option linter.unusedVariables false
set_option linter.unusedSimpArgs false
set_option maxHeartbeats 4000000
set_option maxRecDepth 20000
namespace Go.Proofs.YtkfgijkkffbpmaaGreat
open Go.RowKit Go.Joins
def OwnS (w : World) (lo : Nat) (t : Tr) (v : Value) : Prop := ∃ K, Fit w t K v /\ K.ok /\ ∀ b, K.bl b -> lo <= b
def Own1 (w : World) (lo hi : Nat) (ts : List Tr) (vs : List Value) : Prop :=
 ∃ K : Nat -> Sk, vs.length = ts.length /\ (∀ i v, vs[i]? = some v -> Fit w (trs ts i) (K i) v) /\ (∀ i, i < ts.length -> (K i).ok /\ ∀ b, (K i).bl b -> lo <= b /\ b < hi) /\ ∀ i i', i < ts.length -> i' < ts.length -> i ≠ i' -> ∀ b, (K i).bl b -> ¬ (K i').bl b
theorem Own1.same {w w' : World} {lo hi : Nat} {ts : List Tr} {vs : List Value} (h : Own1 w lo hi ts vs) (hs : w.heap.size <= w'.heap.size) (hb : ∀ b, lo <= b -> b < hi -> w'.heap[b]? = w.heap[b]?) : Own1 w' lo hi ts vs := by
 obtain ⟨K, h1, h2, h3, h4⟩ := h
 refine ⟨K, h1, fun i v hv => (h2 i v hv).same hs (fun b hb' => ?_), h3, h4⟩
 have hi' : i < ts.length := by rw [<- h1]; exact (List.getElem?_eq_some_iff.1 hv).1
 have := (h3 i hi').2 b hb'
 exact hb b this.1 this.2
theorem Own1.mono {w : World} {lo hi lo' hi' : Nat} {ts : List Tr} {vs : List Value} (h : Own1 w lo hi ts vs) (h1 : lo' <= lo) (h2 : hi <= hi') : Own1 w lo' hi' ts vs := by
 obtain ⟨K, g1, g2, g3, g4⟩ := h
 exact ⟨K, g1, g2, fun i hi => ⟨(g3 i hi).1, fun b hb => by have := (g3 i hi).2 b hb; omega⟩, g4⟩
theorem OwnS.rd {w : World} {lo : Nat} {t : Tr} {v : Value} (h : OwnS w lo t v) : Rd w lo t v := by
 obtain ⟨K, h1, h2, h3⟩ := h
 exact h1.rd h3
theorem frozen0 {w : World} {g : Nat} {cs : Array Value} {e : TypeId} (h : w.heap[g]? = some (.cells cs e (0, 0))) (j : Nat) : w.frozen? ⟨g, j, none⟩ = false := by
 unfold World.frozen?
 show (match w.heap[g]? with | some (.cells _ _ (lo, hi)) => lo <= j && j < hi | _ => false) = false
 rw [h]
 simp
theorem OwnI.fit {w : World} {lo n c : Nat} {a : Option Addr} {ws : List Int} (h : OwnI w lo (.slice a n c) ws) : ∃ K, Fit w (intsT ws) K (.slice a n c) /\ K.ok /\ ∀ b, K.bl b -> lo <= b /\ (Value.slice a n c).ownBlock = some b := by
 have hsl := h.sl
 obtain ⟨h0, h⟩ := h
 rcases h with ⟨hv, hn⟩ | ⟨g, cap, cur, hv, hg, hh, h1, h2, h3, h4⟩
 ·simp only [Value.slice.injEq] at hv
  obtain ⟨rfl, rfl, rfl⟩ := hv
  exact ⟨.leaf, ⟨hsl.1.symm, none, 0, rfl⟩, trivial, fun b hb => hb.elim⟩
 simp only [Value.slice.injEq] at hv
 obtain ⟨rfl, rfl, rfl⟩ := hv
 refine ⟨.row g 0 1 ws.length (fun _ _ => .leaf), ?_, ⟨fun _ _ _ _ => ⟨trivial, fun x => x⟩, fun _ _ _ _ _ _ _ _ _ _ x => x.elim⟩, fun b hb => ?_⟩
 ·unfold intsT
  have hlt : g < w.heap.size := (Array.getElem?_eq_some_iff.1 hh).1
  refine ⟨rfl, rfl, c, rfl, h1, by omega, hlt, frozen0 hh, fun k j hk hj => ?_⟩
  rcases hsl.2 with e | ⟨b, off, e, _, hc⟩
  ·rw [e] at hk; simp at hk
  simp only [Option.some.injEq, Addr.mk.injEq, and_true] at e
  obtain ⟨rfl, rfl⟩ := e
  refine ⟨_, ?_, rfl, rfl⟩
  have := hc k hk
  rw [show 0 + k * 1 + j = 0 + k by omega]
  exact this
 rcases hb with rfl | ⟨_, _, _, _, hb⟩
 ·exact ⟨hg, rfl⟩
 exact hb.elim
theorem OwnB.fit {w : World} {lo n c : Nat} {a : Option Addr} {ws : List Bool} (h : OwnB w lo (.slice a n c) ws) : ∃ K, Fit w (boolsT ws) K (.slice a n c) /\ K.ok /\ ∀ b, K.bl b -> lo <= b /\ (Value.slice a n c).ownBlock = some b := by
 have hsl := h.sl
 obtain ⟨h0, h⟩ := h
 rcases h with ⟨hv, hn⟩ | ⟨g, cap, cur, hv, hg, hh, h1, h2, h3, h4⟩
 ·simp only [Value.slice.injEq] at hv
  obtain ⟨rfl, rfl, rfl⟩ := hv
  exact ⟨.leaf, ⟨hsl.1.symm, none, 0, rfl⟩, trivial, fun b hb => hb.elim⟩
 simp only [Value.slice.injEq] at hv
 obtain ⟨rfl, rfl, rfl⟩ := hv
 refine ⟨.row g 0 1 ws.length (fun _ _ => .leaf), ?_, ⟨fun _ _ _ _ => ⟨trivial, fun x => x⟩, fun _ _ _ _ _ _ _ _ _ _ x => x.elim⟩, fun b hb => ?_⟩
 ·unfold boolsT
  have hlt : g < w.heap.size := (Array.getElem?_eq_some_iff.1 hh).1
  refine ⟨rfl, rfl, c, rfl, h1, by omega, hlt, frozen0 hh, fun k j hk hj => ?_⟩
  rcases hsl.2 with e | ⟨b, off, e, _, hc⟩
  ·rw [e] at hk; simp at hk
  simp only [Option.some.injEq, Addr.mk.injEq, and_true] at e
  obtain ⟨rfl, rfl⟩ := e
  refine ⟨_, ?_, rfl, rfl⟩
  have := hc k hk
  rw [show 0 + k * 1 + j = 0 + k by omega]
  exact this
 rcases hb with rfl | ⟨_, _, _, _, hb⟩
 ·exact ⟨hg, rfl⟩
 exact hb.elim
def LsI (w : World) (g : Nat) (t : TypeId) (s n : Nat) (f : Nat -> List Tr) (k : Nat) : Prop :=
 ∃ (F : Nat -> List Value) (β : Nat -> Nat), RowS w g t s n F /\ g < β 0 /\ (∀ j, β j <= β (j + 1)) /\ β k <= w.heap.size /\ ∀ j, j < k -> (F j).length = s /\ Own1 w (β j) (β (j + 1)) (f j) (F j)
theorem LsI.start {w : World} {g : Nat} {t : TypeId} {s n : Nat} {f : Nat -> List Tr} {F : Nat -> List Value} (h : RowS w g t s n F) : LsI w g t s n f 0 :=
 ⟨F, fun _ => w.heap.size, h, h.lt, fun _ => Nat.le_refl _, Nat.le_refl _, fun j hj => absurd hj (Nat.not_lt_zero _)⟩
theorem LsI.row {w : World} {g : Nat} {t : TypeId} {s n k : Nat} {f : Nat -> List Tr} (h : LsI w g t s n f k) : ∃ F, RowS w g t s n F := by
 obtain ⟨F, _, h, _⟩ := h
 exact ⟨F, h⟩
theorem bt_le {β : Nat -> Nat} (h : ∀ j, β j <= β (j + 1)) : ∀ {i j : Nat}, i <= j -> β i <= β j := by
 intro i j hij
 induction hij with
 | refl => exact Nat.le_refl _
 | step _ ih => exact Nat.le_trans ih (h _)
theorem LsI.cg {w w' : World} {S : Nat -> Prop} {g : Nat} {t : TypeId} {s n k : Nat} {f : Nat -> List Tr} (h : LsI w g t s n f k) (hc : Cg w w' S) (hS : ∀ b, S b -> b < g) : LsI w' g t s n f k := by
 obtain ⟨F, β, h1, h2, h3, h4, h5⟩ := h
 have hlt := h1.lt
 have hsame : ∀ b, g <= b -> b < w.heap.size -> w'.heap[b]? = w.heap[b]? := fun b hb hb' => hc.block b hb' (fun q => by have := hS b q; omega)
 refine ⟨F, β, ?_, h2, h3, Nat.le_trans h4 hc.size, fun j hj => ⟨(h5 j hj).1, (h5 j hj).2.same hc.size (fun b q1 q2 => ?_)⟩⟩
 ·obtain ⟨cs, e1, e2, e3⟩ := h1
  exact ⟨cs, (hsame g (Nat.le_refl _) hlt).trans e1, e2, e3⟩
 have b0 := bt_le h3 (Nat.zero_le j)
 have b1 := bt_le h3 (show j + 1 <= k by omega)
 exact hsame b (by omega) (by omega)
theorem LsI.step {w w1 : World} {S : Nat -> Prop} {g : Nat} {t : TypeId} {s n k : Nat} {f : Nat -> List Tr} {vs : List Value} (h : LsI w g t s n f k) (hk : k < n) (hc : Cg w w1 S) (hS : ∀ b, S b -> b < g) (ho : Own1 w1 w.heap.size w1.heap.size (f k) vs) (hv : vs.length = s) : LsI (setL w1 g (k * s) vs) g t s n f (k + 1) := by
 have hz := h
 obtain ⟨F0, β0, _, _, _, hz4, _⟩ := hz
 obtain ⟨F, β, h1, h2, h3, h4, h5⟩ := h.cg hc hS
 have hg : w1.grownBy (setL w1 g (k * s) vs) (some g) := setL_gw _ _ _
 have hgs := hg.size
 have hw := hc.size
 obtain ⟨F', β', g1, g2, g3, g4, g5⟩ := h
 have hlt := g1.lt
 have hsame : ∀ b, g <= b -> b < w.heap.size -> w1.heap[b]? = w.heap[b]? := fun b hb hb' => hc.block b hb' (fun q => by have := hS b q; omega)
 have r1 : RowS w1 g t s n F' := by
  obtain ⟨cs, e1, e2, e3⟩ := g1
  exact ⟨cs, (hsame g (Nat.le_refl _) hlt).trans e1, e2, e3⟩
 refine ⟨fun i => if i = k then vs else F' i, fun j => if j <= k then β' j else w1.heap.size, r1.set hk vs hv, by simpa using g2, fun j => ?_, ?_, fun j hj => ?_⟩
 ·show (if j <= k then β' j else w1.heap.size) <= (if j + 1 <= k then β' (j + 1) else w1.heap.size)
  by_cases e : j + 1 <= k
  ·rw [if_pos (by omega), if_pos e]; exact g3 j
  rw [if_neg e]
  by_cases e' : j <= k
  ·rw [if_pos e']
   have := bt_le g3 e'
   omega
  rw [if_neg e']; exact Nat.le_refl _
 ·show (if k + 1 <= k then β' (k + 1) else w1.heap.size) <= _
  rw [if_neg (by omega)]; exact hgs
 have hkeep : ∀ {lo hi : Nat} {ts : List Tr} {us : List Value}, Own1 w1 lo hi ts us -> g < lo -> hi <= w1.heap.size -> Own1 (setL w1 g (k * s) vs) lo hi ts us := fun h9 q1 q2 => h9.same hgs (fun b b1 b2 => hg.block b (by omega) (fun e => by have := Option.some.inj e; omega))
 by_cases e : j = k
 ·subst e
  simp only [if_true]
  refine ⟨hv, ?_⟩
  show Own1 _ (if j <= j then β' j else w1.heap.size) (if j + 1 <= j then β' (j + 1) else w1.heap.size) _ _
  rw [if_pos (Nat.le_refl _), if_neg (by omega)]
  exact (hkeep ho (by omega) (Nat.le_refl _)).mono g4 (Nat.le_refl _)
 simp only [if_neg e]
 show _ /\ Own1 _ (if j <= k then β' j else w1.heap.size) (if j + 1 <= k then β' (j + 1) else w1.heap.size) _ _
 rw [if_pos (show j <= k by omega), if_pos (show j + 1 <= k by omega)]
 have h9 := g5 j (by omega)
 have b0 := bt_le g3 (Nat.zero_le j)
 have b1 := bt_le g3 (show j + 1 <= k by omega)
 exact ⟨h9.1, hkeep (h9.2.same hw (fun b q1 q2 => hsame b (by omega) (by omega))) (by omega) (by omega)⟩
theorem LsI.done {w : World} {lo g : Nat} {t : TypeId} {s n : Nat} {f : Nat -> List Tr} (h : LsI w g t s n f n) (hlo : lo <= g) (hn : n <= maxLen) (hf : ∀ k, k < n -> (f k).length = s) : OwnS w lo (.list s n (fun i => trs (f i))) (.slice (some ⟨g, 0, none⟩) n n) := by
 obtain ⟨F, β, h1, h2, h3, h4, h5⟩ := h
 have hex : ∀ k, ∃ K : Nat -> Sk, k < n -> ((∀ i v, (F k)[i]? = some v -> Fit w (trs (f k) i) (K i) v) /\ (∀ i, i < s -> (K i).ok /\ ∀ b, (K i).bl b -> β k <= b /\ b < β (k + 1)) /\ ∀ i i', i < s -> i' < s -> i ≠ i' -> ∀ b, (K i).bl b -> ¬ (K i').bl b) := by
  intro k
  by_cases hk : k < n
  ·obtain ⟨hl, K, q1, q2, q3, q4⟩ := h5 k hk
   exact ⟨K, fun _ => ⟨q2, fun i hi => q3 i (by rw [hf k hk]; exact hi), fun i i' hi hi' => q4 i i' (by rw [hf k hk]; exact hi) (by rw [hf k hk]; exact hi')⟩⟩
  exact ⟨fun _ => .leaf, fun h => absurd h hk⟩
 obtain ⟨K, hK⟩ := Classical.axiomOfChoice hex
 refine ⟨.row g 0 s n K, ⟨rfl, rfl, n, rfl, Nat.le_refl _, hn, h1.lt, h1.fro, fun k j hk hj => ?_⟩, ⟨fun k j hk hj => ?_, fun k j k' j' hk hj hk' hj' hne b hb hb' => ?_⟩, fun b hb => ?_⟩
 ·have hl := (h5 k hk).1
  obtain ⟨v, hv⟩ : ∃ v, (F k)[j]? = some v := ⟨(F k)[j]'(by omega), by simp⟩
  refine ⟨v, ?_, (hK k hk).1 j v hv⟩
  rw [Nat.zero_add, h1.cell hk hj, hv]
 ·have q := (hK k hk).2.1 j hj
  refine ⟨q.1, fun hb => ?_⟩
  have b0 := bt_le h3 (Nat.zero_le k)
  have := q.2 g hb
  omega
 ·have q := (hK k hk).2.1 j hj
  have q' := (hK k' hk').2.1 j' hj'
  by_cases e : k = k'
  ·subst e
   exact (hK k hk).2.2 j j' hj hj' (by omega) b hb hb'
  have r := q.2 b hb
  have r' := q'.2 b hb'
  rcases Nat.lt_or_ge k k' with x | x
  ·have := bt_le h3 (show k + 1 <= k' by omega); omega
  have := bt_le h3 (show k' + 1 <= k by omega); omega
 rcases hb with rfl | ⟨k, j, hk, hj, hb⟩
 ·exact hlo
 have q := ((hK k hk).2.1 j hj).2 b hb
 have b0 := bt_le h3 (Nat.zero_le k)
 omega
end Go.Proofs.YtkfgijkkffbpmaaGreat
namespace Go.Proofs.YtkfgijkkffbpmaaGreat
open Go.RowKit Go.Joins
theorem Own1.nil (w : World) (lo hi : Nat) : Own1 w lo hi [] [] :=
 ⟨fun _ => .leaf, rfl, fun i v hv => by simp at hv, fun i hi => by simp at hi, fun i i' hi => by simp at hi⟩
theorem Own1.one {w : World} {lo : Nat} {t : Tr} {v : Value} (h : OwnS w lo t v) : Own1 w lo w.heap.size [t] [v] := by
 obtain ⟨K, h1, h2, h3⟩ := h
 refine ⟨fun _ => K, rfl, fun i u hv => ?_, fun i hi => ⟨h2, fun b hb => ⟨h3 b hb, h1.lt hb⟩⟩, fun i i' hi hi' hne => ?_⟩
 ·match i, hv with
  | 0, hv => obtain rfl := Option.some.inj (show some v = some u from hv); exact h1
  | i + 1, hv => simp at hv
 simp only [List.length_cons, List.length_nil] at hi hi'
 omega
theorem Own1.app {w : World} {lo mid hi : Nat} {ts us : List Tr} {vs xs : List Value} (h1 : Own1 w lo mid ts vs) (h2 : Own1 w mid hi us xs) (hl : lo <= mid) (hm : mid <= hi) : Own1 w lo hi (ts ++ us) (vs ++ xs) := by
 obtain ⟨K, a1, a2, a3, a4⟩ := h1
 obtain ⟨L, b1, b2, b3, b4⟩ := h2
 have hlt : ∀ i, i < ts.length -> (K i).ok /\ ∀ b, (K i).bl b -> lo <= b /\ b < mid := a3
 refine ⟨fun i => if i < ts.length then K i else L (i - ts.length), by simp [a1, b1], fun i v hv => ?_, fun i hi' => ?_, fun i i' hi' hj' hne b hb => ?_⟩
 ·by_cases e : i < ts.length
  ·have e' : i < vs.length := by omega
   rw [List.getElem?_append_left e'] at hv
   simp only [if_pos e]
   have : trs (ts ++ us) i = trs ts i := by
    unfold trs
    simp [List.getD_eq_getElem?_getD, List.getElem?_append_left e]
   rw [this]
   exact a2 i v hv
  have e' : vs.length <= i := by omega
  rw [List.getElem?_append_right e', a1] at hv
  simp only [if_neg e]
  have : trs (ts ++ us) i = trs us (i - ts.length) := by
   unfold trs
   simp [List.getD_eq_getElem?_getD, List.getElem?_append_right (Nat.le_of_not_lt e)]
  rw [this]
  exact b2 _ v hv
 ·rw [List.length_append] at hi'
  by_cases e : i < ts.length
  ·simp only [if_pos e]
   exact ⟨(a3 i e).1, fun b hb => by have := (a3 i e).2 b hb; omega⟩
  simp only [if_neg e]
  have e' : i - ts.length < us.length := by omega
  exact ⟨(b3 _ e').1, fun b hb => by have := (b3 _ e').2 b hb; omega⟩
 rw [List.length_append] at hi' hj'
 by_cases e : i < ts.length
 ·simp only [if_pos e] at hb
  by_cases e2 : i' < ts.length
  ·simp only [if_pos e2]
   exact a4 i i' e e2 hne b hb
  simp only [if_neg e2]
  intro hb'
  have r1 := (a3 i e).2 b hb
  have r2 := (b3 _ (show i' - ts.length < us.length by omega)).2 b hb'
  omega
 simp only [if_neg e] at hb
 by_cases e2 : i' < ts.length
 ·simp only [if_pos e2]
  intro hb'
  have r1 := (a3 i' e2).2 b hb'
  have r2 := (b3 _ (show i - ts.length < us.length by omega)).2 b hb
  omega
 simp only [if_neg e2]
 exact b4 _ _ (by omega) (by omega) (by omega) b hb
theorem Own1.leaf {w : World} {lo hi : Nat} {ts : List Tr} {vs : List Value} (v : Value) (h : Own1 w lo hi ts vs) (hl : lo <= hi) : Own1 w lo hi (.leaf v :: ts) (v :: vs) := by
 have h0 : Own1 w lo lo [.leaf v] [v] := by
  refine ⟨fun _ => .leaf, rfl, fun i u hv => ?_, fun i hi => ⟨trivial, fun b hb => hb.elim⟩, fun i i' hi hi' hne => ?_⟩
  ·match i, hv with
   | 0, hv => obtain rfl := Option.some.inj (show some v = some u from hv); exact ⟨rfl, rfl⟩
   | i + 1, hv => simp at hv
  simp only [List.length_cons, List.length_nil] at hi hi'
  omega
 exact h0.app h (Nat.le_refl _) hl
theorem Own1.below {w w' : World} {lo hi : Nat} {ts : List Tr} {vs : List Value} (h : Own1 w lo hi ts vs) (hb : Below w.heap.size w w') (hh : hi <= w.heap.size) : Own1 w' lo hi ts vs :=
 h.same hb.size (fun b _ q => hb.block b (by omega))
theorem Own1.kept {w w' : World} {lo hi g : Nat} {ts : List Tr} {vs : List Value} (h : Own1 w lo hi ts vs) (hg : w.grownBy w' (some g)) (hl : g < lo) (hh : hi <= w.heap.size) : Own1 w' lo hi ts vs :=
 h.same hg.size (fun b q1 q2 => hg.block b (by omega) (fun e => by have := Option.some.inj e; omega))
theorem Own1.next {w w1 w2 : World} {lo g : Nat} {ts us : List Tr} {vs xs : List Value} (h : Own1 w lo w.heap.size ts vs) (hb : Below w.heap.size w w1) (h2 : Own1 w1 w.heap.size w1.heap.size us xs) (hg : w1.grownBy w2 (some g)) (hl : g < lo) (hs : lo <= w.heap.size) : Own1 w2 lo w2.heap.size (ts ++ us) (vs ++ xs) := by
 have s1 := hb.size
 have s2 := hg.size
 exact (((h.below hb (Nat.le_refl _)).app h2 hs s1).kept hg hl (Nat.le_refl _)).mono (Nat.le_refl _) s2
end Go.Proofs.YtkfgijkkffbpmaaGreat
namespace Go.Proofs.YtkfgijkkffbpmaaGreat
open Go.RowKit Go.Joins
instance inhRuX : Inhabited Ru := ⟨⟨0, 0, 0, 0, 0, 0, 0⟩⟩
def xrT (X : Ru) : List Tr := [.leaf (.int .i64 X.u), .leaf (.int .i64 X.s), .leaf (.int .i64 X.lo), .leaf (.int .i64 X.hi), .leaf (.int .i64 X.p), .leaf (.int .i64 X.t), .leaf (.int .i64 X.sh)]
theorem Ru.cells {w : World} {lo : Nat} {X : Ru} {vs : List Value} (h : RdL w lo (trs (xrT X)) vs) (hl : vs.length = 7) : vs = rul X := by
 match vs, hl with
 | [v0, v1, v2, v3, v4, v5, v6], _ =>
  have e0 : v0 = .int .i64 X.u := RdL.get h (j := 0) rfl rfl
  have e1 : v1 = .int .i64 X.s := RdL.get h (j := 1) rfl rfl
  have e2 : v2 = .int .i64 X.lo := RdL.get h (j := 2) rfl rfl
  have e3 : v3 = .int .i64 X.hi := RdL.get h (j := 3) rfl rfl
  have e4 : v4 = .int .i64 X.p := RdL.get h (j := 4) rfl rfl
  have e5 : v5 = .int .i64 X.t := RdL.get h (j := 5) rfl rfl
  have e6 : v6 = .int .i64 X.sh := RdL.get h (j := 6) rfl rfl
  subst e0 e1 e2 e3 e4 e5 e6
  rfl
theorem szT_xr (X : Ru) : szT 7 (trs (xrT X)) = 0 := by
 simp [szT, sumN, trs, xrT, Tr.sz_leaf]
theorem sum0 (n : Nat) (g : Nat -> Nat) (h : ∀ k, g k = 0) : sumN n g = 0 := by
 induction n with
 | zero => rfl
 | succ n ih => simp only [sumN, ih, h]
theorem Rd.slu {w : World} {lo n m c : Nat} {f : Nat -> Ru} {a : Option Addr} (h : Rd w lo (.list 7 n (fun i => trs (xrT (f i)))) (.slice a m c)) : m = n /\ SlU w a n f := by
 obtain ⟨a', c', h1, h2, h3, h4⟩ := h
 simp only [Value.slice.injEq] at h1
 obtain ⟨rfl, rfl, rfl⟩ := h1
 refine ⟨rfl, ?_⟩
 rcases h4 with h4 | ⟨g, off, F, ha, hlo, hgs, hc⟩
 ·exact .inl h4
 refine .inr ⟨g, off, ha, hgs, fun k hk j hj => ?_⟩
 obtain ⟨q1, q2⟩ := hc k hk
 have e : F k = rul (f k) := Ru.cells (w := w) (lo := lo) (fun j v hv => (q2 j v hv).2) q1
 obtain ⟨v, hv⟩ : ∃ v, (F k)[j]? = some v := ⟨(F k)[j]'(by omega), by simp⟩
 show _ = (rul (f k))[j]?
 rw [(q2 j v hv).1, <- e, hv]
theorem RowU.own {w : World} {g lo n c : Nat} {f : Nat -> Ru} (h : RowU w g n f) (hl : lo <= g) (hn : n <= maxLen) (hc : n <= c) : OwnS w lo (.list 7 n (fun i => trs (xrT (f i)))) (.slice (some ⟨g, 0, none⟩) n c) := by
 refine ⟨.row g 0 7 n (fun _ _ => .leaf), ⟨rfl, rfl, c, rfl, hc, hn, h.lt, h.fro, fun k j hk hj => ?_⟩, ⟨fun _ _ _ _ => ⟨trivial, fun x => x⟩, fun _ _ _ _ _ _ _ _ _ _ x => x.elim⟩, fun b hb => ?_⟩
 ·match j, hj with
  | 0, _ => exact ⟨_, (by rw [Nat.zero_add, h.cell hk (by decide)]; rfl), rfl, rfl⟩
  | 1, _ => exact ⟨_, (by rw [Nat.zero_add, h.cell hk (by decide)]; rfl), rfl, rfl⟩
  | 2, _ => exact ⟨_, (by rw [Nat.zero_add, h.cell hk (by decide)]; rfl), rfl, rfl⟩
  | 3, _ => exact ⟨_, (by rw [Nat.zero_add, h.cell hk (by decide)]; rfl), rfl, rfl⟩
  | 4, _ => exact ⟨_, (by rw [Nat.zero_add, h.cell hk (by decide)]; rfl), rfl, rfl⟩
  | 5, _ => exact ⟨_, (by rw [Nat.zero_add, h.cell hk (by decide)]; rfl), rfl, rfl⟩
  | 6, _ => exact ⟨_, (by rw [Nat.zero_add, h.cell hk (by decide)]; rfl), rfl, rfl⟩
 rcases hb with rfl | ⟨_, _, _, _, hb⟩
 ·exact hl
 exact hb.elim
structure VC where
 wt : Int
 tr : Int
 n : Nat
 f : Nat -> Ru
instance : Inhabited VC := ⟨⟨0, 0, 0, fun _ => default⟩⟩
def xcT (X : VC) : List Tr := [.leaf (.int .i64 X.wt), .leaf (.int .i64 X.tr), .list 7 X.n (fun i => trs (xrT (X.f i)))]
abbrev xcL (X : VC) (a1 : Option Addr) (l1 c1 : Nat) : List Value := [.int .i64 X.wt, .int .i64 X.tr, .slice a1 l1 c1]
theorem szT_xc (X : VC) : szT 3 (trs (xcT X)) = (Tr.list 7 X.n (fun i => trs (xrT (X.f i)))).sz := by
 simp [szT, sumN, trs, xcT, Tr.sz_leaf, intsT_sz, boolsT_sz]
structure VL where
 id : Int
 pa : Int
 un : Int
 q : VQ
instance : Inhabited VL := ⟨⟨0, 0, 0, default⟩⟩
def xlT (X : VL) : List Tr := [.leaf (.int .i64 X.id), .leaf (.int .i64 X.pa), .leaf (.int .i64 X.un), .leaf (.int .i64 X.q.kd), .leaf (.int .i64 X.q.pl), .leaf (.int .i64 X.q.n), intsT X.q.ws, boolsT X.q.bs, .leaf (.int .i64 X.q.wa)]
abbrev xlL (X : VL) (a1 : Option Addr) (l1 c1 : Nat) (a2 : Option Addr) (l2 c2 : Nat) : List Value := [.int .i64 X.id, .int .i64 X.pa, .int .i64 X.un, .int .i64 X.q.kd, .int .i64 X.q.pl, .int .i64 X.q.n, .slice a1 l1 c1, .slice a2 l2 c2, .int .i64 X.q.wa]
theorem VL.cells {w : World} {lo : Nat} {X : VL} {vs : List Value} (h : RdL w lo (trs (xlT X)) vs) (hl : vs.length = 9) : ∃ a1 c1 a2 c2, vs = xlL X a1 (X.q.ws.length) c1 a2 (X.q.bs.length) c2 /\ Rd w lo (intsT X.q.ws) (.slice a1 (X.q.ws.length) c1) /\ Rd w lo (boolsT X.q.bs) (.slice a2 (X.q.bs.length) c2) := by
 match vs, hl with
 | [v0, v1, v2, v3, v4, v5, v6, v7, v8], _ =>
  have e0 : v0 = .int .i64 X.id := RdL.get h (j := 0) rfl rfl
  have e1 : v1 = .int .i64 X.pa := RdL.get h (j := 1) rfl rfl
  have e2 : v2 = .int .i64 X.un := RdL.get h (j := 2) rfl rfl
  have e3 : v3 = .int .i64 X.q.kd := RdL.get h (j := 3) rfl rfl
  have e4 : v4 = .int .i64 X.q.pl := RdL.get h (j := 4) rfl rfl
  have e5 : v5 = .int .i64 X.q.n := RdL.get h (j := 5) rfl rfl
  have r1 : Rd w lo (intsT X.q.ws) v6 := RdL.get h (j := 6) rfl rfl
  obtain ⟨a1, c1, e6, _⟩ := r1.shape
  have r2 : Rd w lo (boolsT X.q.bs) v7 := RdL.get h (j := 7) rfl rfl
  obtain ⟨a2, c2, e7, _⟩ := r2.shape
  have e8 : v8 = .int .i64 X.q.wa := RdL.get h (j := 8) rfl rfl
  subst e0 e1 e2 e3 e4 e5 e6 e7 e8
  exact ⟨a1, c1, a2, c2, rfl, r1, r2⟩
theorem szT_xl (X : VL) : szT 9 (trs (xlT X)) = X.q.ws.length + X.q.bs.length := by
 simp [szT, sumN, trs, xlT, Tr.sz_leaf, intsT_sz, boolsT_sz]
structure VN where
 nq : Nat
 qf : Nat -> VL
 bz : Bool
 c : VL
 nu : Int
 du : Int
 le : Int
 nx : Int
 wt : Int
 tr : Int
instance : Inhabited VN := ⟨⟨0, fun _ => default, false, default, 0, 0, 0, 0, 0, 0⟩⟩
def xnT (X : VN) : List Tr := [.list 9 X.nq (fun i => trs (xlT (X.qf i))), .leaf (.bool X.bz), .leaf (.int .i64 X.c.id), .leaf (.int .i64 X.c.pa), .leaf (.int .i64 X.c.un), .leaf (.int .i64 X.c.q.kd), .leaf (.int .i64 X.c.q.pl), .leaf (.int .i64 X.c.q.n), intsT X.c.q.ws, boolsT X.c.q.bs, .leaf (.int .i64 X.c.q.wa), .leaf (.int .i64 X.nu), .leaf (.int .i64 X.du), .leaf (.int .i64 X.le), .leaf (.int .i64 X.nx), .leaf (.int .i64 X.wt), .leaf (.int .i64 X.tr)]
abbrev xnL (X : VN) (a1 : Option Addr) (l1 c1 : Nat) (a2 : Option Addr) (l2 c2 : Nat) (a3 : Option Addr) (l3 c3 : Nat) : List Value := [.slice a1 l1 c1, .bool X.bz, .int .i64 X.c.id, .int .i64 X.c.pa, .int .i64 X.c.un, .int .i64 X.c.q.kd, .int .i64 X.c.q.pl, .int .i64 X.c.q.n, .slice a2 l2 c2, .slice a3 l3 c3, .int .i64 X.c.q.wa, .int .i64 X.nu, .int .i64 X.du, .int .i64 X.le, .int .i64 X.nx, .int .i64 X.wt, .int .i64 X.tr]
theorem VN.cells {w : World} {lo : Nat} {X : VN} {vs : List Value} (h : RdL w lo (trs (xnT X)) vs) (hl : vs.length = 17) : ∃ a1 c1 a2 c2 a3 c3, vs = xnL X a1 (X.nq) c1 a2 (X.c.q.ws.length) c2 a3 (X.c.q.bs.length) c3 /\ Rd w lo (.list 9 X.nq (fun i => trs (xlT (X.qf i)))) (.slice a1 (X.nq) c1) /\ Rd w lo (intsT X.c.q.ws) (.slice a2 (X.c.q.ws.length) c2) /\ Rd w lo (boolsT X.c.q.bs) (.slice a3 (X.c.q.bs.length) c3) := by
 match vs, hl with
 | [v0, v1, v2, v3, v4, v5, v6, v7, v8, v9, v10, v11, v12, v13, v14, v15, v16], _ =>
  have r1 : Rd w lo (.list 9 X.nq (fun i => trs (xlT (X.qf i)))) v0 := RdL.get h (j := 0) rfl rfl
  obtain ⟨a1, c1, e0, _⟩ := r1.shape
  have e1 : v1 = .bool X.bz := RdL.get h (j := 1) rfl rfl
  have e2 : v2 = .int .i64 X.c.id := RdL.get h (j := 2) rfl rfl
  have e3 : v3 = .int .i64 X.c.pa := RdL.get h (j := 3) rfl rfl
  have e4 : v4 = .int .i64 X.c.un := RdL.get h (j := 4) rfl rfl
  have e5 : v5 = .int .i64 X.c.q.kd := RdL.get h (j := 5) rfl rfl
  have e6 : v6 = .int .i64 X.c.q.pl := RdL.get h (j := 6) rfl rfl
  have e7 : v7 = .int .i64 X.c.q.n := RdL.get h (j := 7) rfl rfl
  have r2 : Rd w lo (intsT X.c.q.ws) v8 := RdL.get h (j := 8) rfl rfl
  obtain ⟨a2, c2, e8, _⟩ := r2.shape
  have r3 : Rd w lo (boolsT X.c.q.bs) v9 := RdL.get h (j := 9) rfl rfl
  obtain ⟨a3, c3, e9, _⟩ := r3.shape
  have e10 : v10 = .int .i64 X.c.q.wa := RdL.get h (j := 10) rfl rfl
  have e11 : v11 = .int .i64 X.nu := RdL.get h (j := 11) rfl rfl
  have e12 : v12 = .int .i64 X.du := RdL.get h (j := 12) rfl rfl
  have e13 : v13 = .int .i64 X.le := RdL.get h (j := 13) rfl rfl
  have e14 : v14 = .int .i64 X.nx := RdL.get h (j := 14) rfl rfl
  have e15 : v15 = .int .i64 X.wt := RdL.get h (j := 15) rfl rfl
  have e16 : v16 = .int .i64 X.tr := RdL.get h (j := 16) rfl rfl
  subst e0 e1 e2 e3 e4 e5 e6 e7 e8 e9 e10 e11 e12 e13 e14 e15 e16
  exact ⟨a1, c1, a2, c2, a3, c3, rfl, r1, r2, r3⟩
theorem szT_xn (X : VN) : szT 17 (trs (xnT X)) = (Tr.list 9 X.nq (fun i => trs (xlT (X.qf i)))).sz + X.c.q.ws.length + X.c.q.bs.length := by
 simp [szT, sumN, trs, xnT, Tr.sz_leaf, intsT_sz, boolsT_sz]
structure VF where
 nw : Int
 set : VC
 op : VT
 nl : Nat
 lf : Nat -> VN
 sk : Int
 re : Int
 fa : Int
 se : Int
instance : Inhabited VF := ⟨⟨0, default, default, 0, fun _ => default, 0, 0, 0, 0⟩⟩
def xfT (X : VF) : List Tr := [.leaf (.int .i64 X.nw), .leaf (.int .i64 X.set.wt), .leaf (.int .i64 X.set.tr), .list 7 X.set.n (fun i => trs (xrT (X.set.f i))), .leaf (.int .i64 X.op.nx), .list 13 X.op.m (fun i => trs (dT (X.op.f i))), .list 17 X.nl (fun i => trs (xnT (X.lf i))), .leaf (.int .i64 X.sk), .leaf (.int .i64 X.re), .leaf (.int .i64 X.fa), .leaf (.int .i64 X.se)]
abbrev xfL (X : VF) (a1 : Option Addr) (l1 c1 : Nat) (a2 : Option Addr) (l2 c2 : Nat) (a3 : Option Addr) (l3 c3 : Nat) : List Value := [.int .i64 X.nw, .int .i64 X.set.wt, .int .i64 X.set.tr, .slice a1 l1 c1, .int .i64 X.op.nx, .slice a2 l2 c2, .slice a3 l3 c3, .int .i64 X.sk, .int .i64 X.re, .int .i64 X.fa, .int .i64 X.se]
theorem szT_xf (X : VF) : szT 11 (trs (xfT X)) = (Tr.list 7 X.set.n (fun i => trs (xrT (X.set.f i)))).sz + (Tr.list 13 X.op.m (fun i => trs (dT (X.op.f i)))).sz + (Tr.list 17 X.nl (fun i => trs (xnT (X.lf i)))).sz := by
 simp [szT, sumN, trs, xfT, Tr.sz_leaf, intsT_sz, boolsT_sz]
end Go.Proofs.YtkfgijkkffbpmaaGreat
namespace Go.Proofs.YtkfgijkkffbpmaaGreat
open Go.RowKit Go.Joins
theorem eqRuleS_t (n : Nat) (f : Nat -> Ru) (a : Option Addr) (n' cap : Nat) (a' : Option Addr) (cap' : Nat) (w : World) (hs : Rd w 0 (.list 7 n (fun k => trs (xrT (f k)))) (.slice a n' cap)) (hs' : Rd w 0 (.list 7 n (fun k => trs (xrT (f k)))) (.slice a' n' cap')) (hz : (Tr.list 7 n (fun k => trs (xrT (f k)))).sz <= 1048576) :
 Calls Tryz.prog 17 #[.slice a n' cap, .slice a' n' cap'] w fun e w' => e = .returned (.bool true) /\ Below w.heap.size w w' := by
 obtain ⟨rfl, h1⟩ := hs.slu
 obtain ⟨-, h2⟩ := hs'.slu
 rw [Tr.sz_list] at hz
 exact eqRuleS_true a a' n' cap cap' f w h1 h2 (by omega)
theorem Blk.tc3 {w : World} {g : Nat} {t : TypeId} {v0 v1 v2 : Value} (h : Blk w g t #[v0, v1, v2]) : (w.cell? ⟨g, 0, none⟩ = some v0 /\ w.cell? ⟨g, 1, none⟩ = some v1 /\ w.cell? ⟨g, 2, none⟩ = some v2) /\ ∀ j, w.frozen? ⟨g, j, none⟩ = false :=
 ⟨⟨h.cell 0 rfl, h.cell 1 rfl, h.cell 2 rfl⟩, h.fro⟩
theorem Blk.tc9 {w : World} {g : Nat} {t : TypeId} {v0 v1 v2 v3 v4 v5 v6 v7 v8 : Value} (h : Blk w g t #[v0, v1, v2, v3, v4, v5, v6, v7, v8]) : (w.cell? ⟨g, 0, none⟩ = some v0 /\ w.cell? ⟨g, 1, none⟩ = some v1 /\ w.cell? ⟨g, 2, none⟩ = some v2 /\ w.cell? ⟨g, 3, none⟩ = some v3 /\ w.cell? ⟨g, 4, none⟩ = some v4 /\ w.cell? ⟨g, 5, none⟩ = some v5 /\ w.cell? ⟨g, 6, none⟩ = some v6 /\ w.cell? ⟨g, 7, none⟩ = some v7 /\ w.cell? ⟨g, 8, none⟩ = some v8) /\ ∀ j, w.frozen? ⟨g, j, none⟩ = false :=
 ⟨⟨h.cell 0 rfl, h.cell 1 rfl, h.cell 2 rfl, h.cell 3 rfl, h.cell 4 rfl, h.cell 5 rfl, h.cell 6 rfl, h.cell 7 rfl, h.cell 8 rfl⟩, h.fro⟩
theorem Blk.tc11 {w : World} {g : Nat} {t : TypeId} {v0 v1 v2 v3 v4 v5 v6 v7 v8 v9 v10 : Value} (h : Blk w g t #[v0, v1, v2, v3, v4, v5, v6, v7, v8, v9, v10]) : (w.cell? ⟨g, 0, none⟩ = some v0 /\ w.cell? ⟨g, 1, none⟩ = some v1 /\ w.cell? ⟨g, 2, none⟩ = some v2 /\ w.cell? ⟨g, 3, none⟩ = some v3 /\ w.cell? ⟨g, 4, none⟩ = some v4 /\ w.cell? ⟨g, 5, none⟩ = some v5 /\ w.cell? ⟨g, 6, none⟩ = some v6 /\ w.cell? ⟨g, 7, none⟩ = some v7 /\ w.cell? ⟨g, 8, none⟩ = some v8 /\ w.cell? ⟨g, 9, none⟩ = some v9 /\ w.cell? ⟨g, 10, none⟩ = some v10) /\ ∀ j, w.frozen? ⟨g, j, none⟩ = false :=
 ⟨⟨h.cell 0 rfl, h.cell 1 rfl, h.cell 2 rfl, h.cell 3 rfl, h.cell 4 rfl, h.cell 5 rfl, h.cell 6 rfl, h.cell 7 rfl, h.cell 8 rfl, h.cell 9 rfl, h.cell 10 rfl⟩, h.fro⟩
theorem Blk.tc17 {w : World} {g : Nat} {t : TypeId} {v0 v1 v2 v3 v4 v5 v6 v7 v8 v9 v10 v11 v12 v13 v14 v15 v16 : Value} (h : Blk w g t #[v0, v1, v2, v3, v4, v5, v6, v7, v8, v9, v10, v11, v12, v13, v14, v15, v16]) : (w.cell? ⟨g, 0, none⟩ = some v0 /\ w.cell? ⟨g, 1, none⟩ = some v1 /\ w.cell? ⟨g, 2, none⟩ = some v2 /\ w.cell? ⟨g, 3, none⟩ = some v3 /\ w.cell? ⟨g, 4, none⟩ = some v4 /\ w.cell? ⟨g, 5, none⟩ = some v5 /\ w.cell? ⟨g, 6, none⟩ = some v6 /\ w.cell? ⟨g, 7, none⟩ = some v7 /\ w.cell? ⟨g, 8, none⟩ = some v8 /\ w.cell? ⟨g, 9, none⟩ = some v9 /\ w.cell? ⟨g, 10, none⟩ = some v10 /\ w.cell? ⟨g, 11, none⟩ = some v11 /\ w.cell? ⟨g, 12, none⟩ = some v12 /\ w.cell? ⟨g, 13, none⟩ = some v13 /\ w.cell? ⟨g, 14, none⟩ = some v14 /\ w.cell? ⟨g, 15, none⟩ = some v15 /\ w.cell? ⟨g, 16, none⟩ = some v16) /\ ∀ j, w.frozen? ⟨g, j, none⟩ = false :=
 ⟨⟨h.cell 0 rfl, h.cell 1 rfl, h.cell 2 rfl, h.cell 3 rfl, h.cell 4 rfl, h.cell 5 rfl, h.cell 6 rfl, h.cell 7 rfl, h.cell 8 rfl, h.cell 9 rfl, h.cell 10 rfl, h.cell 11 rfl, h.cell 12 rfl, h.cell 13 rfl, h.cell 14 rfl, h.cell 15 rfl, h.cell 16 rfl⟩, h.fro⟩
theorem eqConfig_t (X : VC) (a1 : Option Addr) (l1 c1 : Nat) (a1' : Option Addr) (c1' : Nat) (w : World) (r1 : Rd w 0 (.list 7 X.n (fun i => trs (xrT (X.f i)))) (.slice a1 l1 c1)) (r1' : Rd w 0 (.list 7 X.n (fun i => trs (xrT (X.f i)))) (.slice a1' l1 c1')) (hz : szT 3 (trs (xcT X)) <= 1048576) :
 Calls Tryz.prog 30 #[.agg (xcL X a1 l1 c1).toArray, .agg (xcL X a1' l1 c1').toArray] w fun e w' => e = .returned (.bool true) /\ Below w.heap.size w w' := by
 obtain ⟨W, hW⟩ : ∃ W, W = (w.alloc (.cells (xcL X a1 l1 c1).toArray 35)).alloc (.cells (xcL X a1' l1 c1').toArray 35) := ⟨_, rfl⟩
 have HZ : Hid ((Tr.list 7 X.n (fun i => trs (xrT (X.f i)))).sz <= 1048576) := by
  rw [szT_xc] at hz
  show (Tr.list 7 X.n (fun i => trs (xrT (X.f i)))).sz <= 1048576
  try simp only [szT_q, szT_a, szT_p, szT_d, szT_t, szT_xr, szT_xc, szT_xl, szT_xn, szT_xf, true_and]
  omega
 have HR : Hid (Rd w 0 (.list 7 X.n (fun i => trs (xrT (X.f i)))) (.slice a1 l1 c1) /\ Rd w 0 (.list 7 X.n (fun i => trs (xrT (X.f i)))) (.slice a1' l1 c1')) := ⟨r1, r1'⟩
 have G0 : Hid (Below w.heap.size w W /\ Blk W w.heap.size 35 (xcL X a1 l1 c1).toArray /\ Blk W (w.heap.size + 1) 35 (xcL X a1' l1 c1').toArray) := ⟨by rw [hW]; exact bel_nx (bel_alloc _ _) (bel_alloc _ _), by rw [hW]; exact (Blk.new w _ _).below (bel_alloc _ _), by rw [hW]; have := Blk.new (w.alloc (.cells (xcL X a1 l1 c1).toArray 35)) (xcL X a1' l1 c1').toArray 35; simpa using this⟩
 clear hz r1 r1'
 go_enter Tryz.func30, Tryz.ntmps30
 go_upto_region 1 with fail
 rw [<- hW]
 clear hW
 obtain ⟨⟨y0, y1, y2⟩, yf⟩ := G0.out.2.1.tc3
 obtain ⟨⟨z0, z1, z2⟩, zf⟩ := G0.out.2.2.tc3
 clear yf zf
 go_wp2_with fail
 refine (eqRuleS_t X.n X.f a1 l1 c1 a1' c1' _ (HR.out.1.below G0.out.1) (HR.out.2.below G0.out.1) HZ.out).mono ?_
 rintro e w1 ⟨rfl, hb1⟩
 have G1 : Hid (Below w.heap.size w w1 /\ Blk w1 w.heap.size 35 (xcL X a1 l1 c1).toArray /\ Blk w1 (w.heap.size + 1) 35 (xcL X a1' l1 c1').toArray) := ⟨bel_nx G0.out.1 hb1, G0.out.2.1.below hb1, G0.out.2.2.below hb1⟩
 clear hb1 y0 y1 y2 z0 z1 z2
 go_wp2
 go_ret
 exact ⟨rfl, G1.out.1⟩
theorem eqCall_t (X : VL) (a1 : Option Addr) (l1 c1 : Nat) (a2 : Option Addr) (l2 c2 : Nat) (a1' : Option Addr) (c1' : Nat) (a2' : Option Addr) (c2' : Nat) (w : World) (r1 : Rd w 0 (intsT X.q.ws) (.slice a1 l1 c1)) (r2 : Rd w 0 (boolsT X.q.bs) (.slice a2 l2 c2)) (r1' : Rd w 0 (intsT X.q.ws) (.slice a1' l1 c1')) (r2' : Rd w 0 (boolsT X.q.bs) (.slice a2' l2 c2')) (hz : szT 9 (trs (xlT X)) <= 1048576) :
 Calls Tryz.prog 181 #[.agg (xlL X a1 l1 c1 a2 l2 c2).toArray, .agg (xlL X a1' l1 c1' a2' l2 c2').toArray] w fun e w' => e = .returned (.bool true) /\ Below w.heap.size w w' := by
 obtain ⟨W, hW⟩ : ∃ W, W = (w.alloc (.cells (xlL X a1 l1 c1 a2 l2 c2).toArray 96)).alloc (.cells (xlL X a1' l1 c1' a2' l2 c2').toArray 96) := ⟨_, rfl⟩
 have HZ : Hid (szT 6 (trs (qT X.q)) <= 1048576) := by
  rw [szT_xl] at hz
  show szT 6 (trs (qT X.q)) <= 1048576
  try simp only [szT_q, szT_a, szT_p, szT_d, szT_t, szT_xr, szT_xc, szT_xl, szT_xn, szT_xf, true_and]
  omega
 have HR : Hid (Rd w 0 (intsT X.q.ws) (.slice a1 l1 c1) /\ Rd w 0 (boolsT X.q.bs) (.slice a2 l2 c2) /\ Rd w 0 (intsT X.q.ws) (.slice a1' l1 c1') /\ Rd w 0 (boolsT X.q.bs) (.slice a2' l2 c2')) := ⟨r1, r2, r1', r2'⟩
 have G0 : Hid (Below w.heap.size w W /\ Blk W w.heap.size 96 (xlL X a1 l1 c1 a2 l2 c2).toArray /\ Blk W (w.heap.size + 1) 96 (xlL X a1' l1 c1' a2' l2 c2').toArray) := ⟨by rw [hW]; exact bel_nx (bel_alloc _ _) (bel_alloc _ _), by rw [hW]; exact (Blk.new w _ _).below (bel_alloc _ _), by rw [hW]; have := Blk.new (w.alloc (.cells (xlL X a1 l1 c1 a2 l2 c2).toArray 96)) (xlL X a1' l1 c1' a2' l2 c2').toArray 96; simpa using this⟩
 clear hz r1 r2 r1' r2'
 go_enter Tryz.func181, Tryz.ntmps181
 go_upto_region 1 with fail
 rw [<- hW]
 clear hW
 obtain ⟨⟨y0, y1, y2, y3, y4, y5, y6, y7, y8⟩, yf⟩ := G0.out.2.1.tc9
 obtain ⟨⟨z0, z1, z2, z3, z4, z5, z6, z7, z8⟩, zf⟩ := G0.out.2.2.tc9
 clear yf zf
 go_wp2_with fail
 refine (eqReq_t X.q a1 l1 c1 a2 l2 c2 a1' c1' a2' c2' _ (HR.out.1.below G0.out.1) (HR.out.2.1.below G0.out.1) (HR.out.2.2.1.below G0.out.1) (HR.out.2.2.2.below G0.out.1) HZ.out).mono ?_
 rintro e w1 ⟨rfl, hb1⟩
 have G1 : Hid (Below w.heap.size w w1 /\ Blk w1 w.heap.size 96 (xlL X a1 l1 c1 a2 l2 c2).toArray /\ Blk w1 (w.heap.size + 1) 96 (xlL X a1' l1 c1' a2' l2 c2').toArray) := ⟨bel_nx G0.out.1 hb1, G0.out.2.1.below hb1, G0.out.2.2.below hb1⟩
 clear hb1 y0 y1 y2 y3 y4 y5 y6 y7 y8 z0 z1 z2 z3 z4 z5 z6 z7 z8
 go_wp2
 go_ret
 exact ⟨rfl, G1.out.1⟩
theorem eqCallS_t (n : Nat) (f : Nat -> VL) (a : Option Addr) (n' cap : Nat) (a' : Option Addr) (cap' : Nat) (w : World) (hs : Rd w 0 (.list 9 n (fun k => trs (xlT (f k)))) (.slice a n' cap)) (hs' : Rd w 0 (.list 9 n (fun k => trs (xlT (f k)))) (.slice a' n' cap')) (hz : (Tr.list 9 n (fun k => trs (xlT (f k)))).sz <= 1048576) :
 Calls Tryz.prog 180 #[.slice a n' cap, .slice a' n' cap'] w fun e w' => e = .returned (.bool true) /\ Below w.heap.size w w' := by
 obtain ⟨a9, c9, h9, -, hn⟩ := hs.shape
 simp only [Value.slice.injEq] at h9
 obtain ⟨-, rfl, -⟩ := h9
 clear a9 c9 hn
 have hn1 : n' <= 1048576 := by rw [Tr.sz_list] at hz; omega
 have HZ : Hid (∀ k, k < n' -> szT 9 (trs (xlT (f k))) <= 1048576) := by
  show ∀ k, k < n' -> szT 9 (trs (xlT (f k))) <= 1048576
  intro k hk
  rw [Tr.sz_list] at hz
  have := sumN_at (fun k => szT 9 (trs (xlT (f k)))) hk
  omega
 have HS : Hid (Rd w 0 (.list 9 n' (fun k => trs (xlT (f k)))) (.slice a n' cap) /\ Rd w 0 (.list 9 n' (fun k => trs (xlT (f k)))) (.slice a' n' cap')) := ⟨hs, hs'⟩
 clear hs hs' hz
 go_enter Tryz.func180, Tryz.ntmps180
 go_wp2
 go_loopw [5] (fun i wr => ∃ z : Nat, z <= n' /\ i = .int .i64 z /\ Below w.heap.size w wr) (fun i _ => n' - (intOf i).toNat)
 case atStart => exact ⟨0, Nat.zero_le _, rfl, Below.refl _ _⟩
 case round =>
  obtain ⟨k, hk, rfl, hbl⟩ := hrel
  by_cases hlt : k < n'
  ·have hi : (k : Int) < (n' : Int) := by omega
   obtain ⟨b, off, vs, rfl, _, hb0, hlen, hr, hrd⟩ := (HS.out.1.below hbl).at hlt
   obtain ⟨a1, c1, a2, c2, rfl, r1, r2⟩ := VL.cells hrd hlen
   clear hlen hrd hb0
   obtain ⟨b', off', vs, rfl, _, hb0, hlen, hr', hrd⟩ := (HS.out.2.below hbl).at hlt
   obtain ⟨a1', c1', a2', c2', rfl, r1', r2'⟩ := VL.cells hrd hlen
   clear hlen hrd hb0
   have d09 : wr.cell? ⟨b, off + k * 9, none⟩ = _ := hr 0 _ rfl
   have e09 : wr.cell? ⟨b', off' + k * 9, none⟩ = _ := hr' 0 _ rfl
   have d19 : wr.cell? ⟨b, off + k * 9 + 1, none⟩ = _ := hr 1 _ rfl
   have e19 : wr.cell? ⟨b', off' + k * 9 + 1, none⟩ = _ := hr' 1 _ rfl
   have d29 : wr.cell? ⟨b, off + k * 9 + 2, none⟩ = _ := hr 2 _ rfl
   have e29 : wr.cell? ⟨b', off' + k * 9 + 2, none⟩ = _ := hr' 2 _ rfl
   have d39 : wr.cell? ⟨b, off + k * 9 + 3, none⟩ = _ := hr 3 _ rfl
   have e39 : wr.cell? ⟨b', off' + k * 9 + 3, none⟩ = _ := hr' 3 _ rfl
   have d49 : wr.cell? ⟨b, off + k * 9 + 4, none⟩ = _ := hr 4 _ rfl
   have e49 : wr.cell? ⟨b', off' + k * 9 + 4, none⟩ = _ := hr' 4 _ rfl
   have d59 : wr.cell? ⟨b, off + k * 9 + 5, none⟩ = _ := hr 5 _ rfl
   have e59 : wr.cell? ⟨b', off' + k * 9 + 5, none⟩ = _ := hr' 5 _ rfl
   have d69 : wr.cell? ⟨b, off + k * 9 + 6, none⟩ = _ := hr 6 _ rfl
   have e69 : wr.cell? ⟨b', off' + k * 9 + 6, none⟩ = _ := hr' 6 _ rfl
   have d79 : wr.cell? ⟨b, off + k * 9 + 7, none⟩ = _ := hr 7 _ rfl
   have e79 : wr.cell? ⟨b', off' + k * 9 + 7, none⟩ = _ := hr' 7 _ rfl
   have d89 : wr.cell? ⟨b, off + k * 9 + 8, none⟩ = _ := hr 8 _ rfl
   have e89 : wr.cell? ⟨b', off' + k * 9 + 8, none⟩ = _ := hr' 8 _ rfl
   have HK : Hid (Below w.heap.size w wr /\ szT 9 (trs (xlT (f k))) <= 1048576 /\ Rd wr 0 (intsT (f k).q.ws) (.slice a1 ((f k).q.ws.length) c1) /\ Rd wr 0 (boolsT (f k).q.bs) (.slice a2 ((f k).q.bs.length) c2) /\ Rd wr 0 (intsT (f k).q.ws) (.slice a1' ((f k).q.ws.length) c1') /\ Rd wr 0 (boolsT (f k).q.bs) (.slice a2' ((f k).q.bs.length) c2')) := ⟨hbl, HZ.out k hlt, r1, r2, r1', r2'⟩
   clear r1 r2 r1' r2' hr hr' hbl
   go_wp2_with fail
   go_region_with (go_at_call 181; refine (eqCall_t (f k) a1 ((f k).q.ws.length) c1 a2 ((f k).q.bs.length) c2 a1' c1' a2' c2' _ (HK.out.2.2.1.below (by first | exact Below.refl _ _ | exact (Below.refl _ _).drew | exact (Below.refl _ _).drew.drew)) (HK.out.2.2.2.1.below (by first | exact Below.refl _ _ | exact (Below.refl _ _).drew | exact (Below.refl _ _).drew.drew)) (HK.out.2.2.2.2.1.below (by first | exact Below.refl _ _ | exact (Below.refl _ _).drew | exact (Below.refl _ _).drew.drew)) (HK.out.2.2.2.2.2.below (by first | exact Below.refl _ _ | exact (Below.refl _ _).drew | exact (Below.refl _ _).drew.drew)) HK.out.2.1).mono ?_; rintro e w1 ⟨rfl, b1'⟩; have b1 : Below wr.heap.size wr w1 := bel_nx (by first | exact Below.refl _ _ | exact (Below.refl _ _).drew | exact (Below.refl _ _).drew.drew) b1'; clear b1')
   all_goals (
    have B1 := bel_nx HK.out.1 b1
    clear HK b1 d09 e09 d19 e19 d29 e29 d39 e39 d49 e49 d59 e59 d69 e69 d79 e79 d89 e89
    go_wp2
    go_roundw
    case rel => exact ⟨k + 1, by omega, by go_num, B1⟩
    case measure => simp [intOf]; omega)
  have hi : ¬ (k : Int) < (n' : Int) := by omega
  go_wp2
  go_ret
  exact ⟨rfl, hbl⟩
theorem eqLine_t (X : VN) (a1 : Option Addr) (l1 c1 : Nat) (a2 : Option Addr) (l2 c2 : Nat) (a3 : Option Addr) (l3 c3 : Nat) (a1' : Option Addr) (c1' : Nat) (a2' : Option Addr) (c2' : Nat) (a3' : Option Addr) (c3' : Nat) (w : World) (r1 : Rd w 0 (.list 9 X.nq (fun i => trs (xlT (X.qf i)))) (.slice a1 l1 c1)) (r2 : Rd w 0 (intsT X.c.q.ws) (.slice a2 l2 c2)) (r3 : Rd w 0 (boolsT X.c.q.bs) (.slice a3 l3 c3)) (r1' : Rd w 0 (.list 9 X.nq (fun i => trs (xlT (X.qf i)))) (.slice a1' l1 c1')) (r2' : Rd w 0 (intsT X.c.q.ws) (.slice a2' l2 c2')) (r3' : Rd w 0 (boolsT X.c.q.bs) (.slice a3' l3 c3')) (hz : szT 17 (trs (xnT X)) <= 1048576) :
 Calls Tryz.prog 114 #[.agg (xnL X a1 l1 c1 a2 l2 c2 a3 l3 c3).toArray, .agg (xnL X a1' l1 c1' a2' l2 c2' a3' l3 c3').toArray] w fun e w' => e = .returned (.bool true) /\ Below w.heap.size w w' := by
 obtain ⟨W, hW⟩ : ∃ W, W = (w.alloc (.cells (xnL X a1 l1 c1 a2 l2 c2 a3 l3 c3).toArray 98)).alloc (.cells (xnL X a1' l1 c1' a2' l2 c2' a3' l3 c3').toArray 98) := ⟨_, rfl⟩
 have HZ : Hid ((Tr.list 9 X.nq (fun i => trs (xlT (X.qf i)))).sz <= 1048576 /\ szT 9 (trs (xlT X.c)) <= 1048576) := by
  rw [szT_xn] at hz
  show (Tr.list 9 X.nq (fun i => trs (xlT (X.qf i)))).sz <= 1048576 /\ szT 9 (trs (xlT X.c)) <= 1048576
  try simp only [szT_q, szT_a, szT_p, szT_d, szT_t, szT_xr, szT_xc, szT_xl, szT_xn, szT_xf, true_and]
  omega
 have HR : Hid (Rd w 0 (.list 9 X.nq (fun i => trs (xlT (X.qf i)))) (.slice a1 l1 c1) /\ Rd w 0 (intsT X.c.q.ws) (.slice a2 l2 c2) /\ Rd w 0 (boolsT X.c.q.bs) (.slice a3 l3 c3) /\ Rd w 0 (.list 9 X.nq (fun i => trs (xlT (X.qf i)))) (.slice a1' l1 c1') /\ Rd w 0 (intsT X.c.q.ws) (.slice a2' l2 c2') /\ Rd w 0 (boolsT X.c.q.bs) (.slice a3' l3 c3')) := ⟨r1, r2, r3, r1', r2', r3'⟩
 have G0 : Hid (Below w.heap.size w W /\ Blk W w.heap.size 98 (xnL X a1 l1 c1 a2 l2 c2 a3 l3 c3).toArray /\ Blk W (w.heap.size + 1) 98 (xnL X a1' l1 c1' a2' l2 c2' a3' l3 c3').toArray) := ⟨by rw [hW]; exact bel_nx (bel_alloc _ _) (bel_alloc _ _), by rw [hW]; exact (Blk.new w _ _).below (bel_alloc _ _), by rw [hW]; have := Blk.new (w.alloc (.cells (xnL X a1 l1 c1 a2 l2 c2 a3 l3 c3).toArray 98)) (xnL X a1' l1 c1' a2' l2 c2' a3' l3 c3').toArray 98; simpa using this⟩
 clear hz r1 r2 r3 r1' r2' r3'
 go_enter Tryz.func114, Tryz.ntmps114
 go_upto_region 1 with fail
 rw [<- hW]
 clear hW
 obtain ⟨⟨y0, y1, y2, y3, y4, y5, y6, y7, y8, y9, y10, y11, y12, y13, y14, y15, y16⟩, yf⟩ := G0.out.2.1.tc17
 obtain ⟨⟨z0, z1, z2, z3, z4, z5, z6, z7, z8, z9, z10, z11, z12, z13, z14, z15, z16⟩, zf⟩ := G0.out.2.2.tc17
 clear yf zf
 go_wp2_with fail
 refine (eqCallS_t X.nq X.qf a1 l1 c1 a1' c1' _ (HR.out.1.below G0.out.1) (HR.out.2.2.2.1.below G0.out.1) HZ.out.1).mono ?_
 rintro e w1 ⟨rfl, hb1⟩
 have G1 : Hid (Below w.heap.size w w1 /\ Blk w1 w.heap.size 98 (xnL X a1 l1 c1 a2 l2 c2 a3 l3 c3).toArray /\ Blk w1 (w.heap.size + 1) 98 (xnL X a1' l1 c1' a2' l2 c2' a3' l3 c3').toArray) := ⟨bel_nx G0.out.1 hb1, G0.out.2.1.below hb1, G0.out.2.2.below hb1⟩
 clear hb1 y0 y1 y2 y3 y4 y5 y6 y7 y8 y9 y10 y11 y12 y13 y14 y15 y16 z0 z1 z2 z3 z4 z5 z6 z7 z8 z9 z10 z11 z12 z13 z14 z15 z16
 obtain ⟨⟨y0, y1, y2, y3, y4, y5, y6, y7, y8, y9, y10, y11, y12, y13, y14, y15, y16⟩, yf⟩ := G1.out.2.1.tc17
 obtain ⟨⟨z0, z1, z2, z3, z4, z5, z6, z7, z8, z9, z10, z11, z12, z13, z14, z15, z16⟩, zf⟩ := G1.out.2.2.tc17
 clear yf zf
 go_wp2_with fail
 refine (eqCall_t X.c a2 l2 c2 a3 l3 c3 a2' c2' a3' c3' _ (HR.out.2.1.below G1.out.1) (HR.out.2.2.1.below G1.out.1) (HR.out.2.2.2.2.1.below G1.out.1) (HR.out.2.2.2.2.2.below G1.out.1) HZ.out.2).mono ?_
 rintro e w2 ⟨rfl, hb2⟩
 have G2 : Hid (Below w.heap.size w w2 /\ Blk w2 w.heap.size 98 (xnL X a1 l1 c1 a2 l2 c2 a3 l3 c3).toArray /\ Blk w2 (w.heap.size + 1) 98 (xnL X a1' l1 c1' a2' l2 c2' a3' l3 c3').toArray) := ⟨bel_nx G1.out.1 hb2, G1.out.2.1.below hb2, G1.out.2.2.below hb2⟩
 clear hb2 y0 y1 y2 y3 y4 y5 y6 y7 y8 y9 y10 y11 y12 y13 y14 y15 y16 z0 z1 z2 z3 z4 z5 z6 z7 z8 z9 z10 z11 z12 z13 z14 z15 z16
 obtain ⟨⟨y0, y1, y2, y3, y4, y5, y6, y7, y8, y9, y10, y11, y12, y13, y14, y15, y16⟩, yf⟩ := G2.out.2.1.tc17
 obtain ⟨⟨z0, z1, z2, z3, z4, z5, z6, z7, z8, z9, z10, z11, z12, z13, z14, z15, z16⟩, zf⟩ := G2.out.2.2.tc17
 clear yf zf
 go_wp2
 go_ret
 exact ⟨rfl, G2.out.1⟩
theorem eqLineS_t (n : Nat) (f : Nat -> VN) (a : Option Addr) (n' cap : Nat) (a' : Option Addr) (cap' : Nat) (w : World) (hs : Rd w 0 (.list 17 n (fun k => trs (xnT (f k)))) (.slice a n' cap)) (hs' : Rd w 0 (.list 17 n (fun k => trs (xnT (f k)))) (.slice a' n' cap')) (hz : (Tr.list 17 n (fun k => trs (xnT (f k)))).sz <= 1048576) :
 Calls Tryz.prog 54 #[.slice a n' cap, .slice a' n' cap'] w fun e w' => e = .returned (.bool true) /\ Below w.heap.size w w' := by
 obtain ⟨a9, c9, h9, -, hn⟩ := hs.shape
 simp only [Value.slice.injEq] at h9
 obtain ⟨-, rfl, -⟩ := h9
 clear a9 c9 hn
 have hn1 : n' <= 1048576 := by rw [Tr.sz_list] at hz; omega
 have HZ : Hid (∀ k, k < n' -> szT 17 (trs (xnT (f k))) <= 1048576) := by
  show ∀ k, k < n' -> szT 17 (trs (xnT (f k))) <= 1048576
  intro k hk
  rw [Tr.sz_list] at hz
  have := sumN_at (fun k => szT 17 (trs (xnT (f k)))) hk
  omega
 have HS : Hid (Rd w 0 (.list 17 n' (fun k => trs (xnT (f k)))) (.slice a n' cap) /\ Rd w 0 (.list 17 n' (fun k => trs (xnT (f k)))) (.slice a' n' cap')) := ⟨hs, hs'⟩
 clear hs hs' hz
 go_enter Tryz.func54, Tryz.ntmps54
 go_wp2
 go_loopw [5] (fun i wr => ∃ z : Nat, z <= n' /\ i = .int .i64 z /\ Below w.heap.size w wr) (fun i _ => n' - (intOf i).toNat)
 case atStart => exact ⟨0, Nat.zero_le _, rfl, Below.refl _ _⟩
 case round =>
  obtain ⟨k, hk, rfl, hbl⟩ := hrel
  by_cases hlt : k < n'
  ·have hi : (k : Int) < (n' : Int) := by omega
   obtain ⟨b, off, vs, rfl, _, hb0, hlen, hr, hrd⟩ := (HS.out.1.below hbl).at hlt
   obtain ⟨a1, c1, a2, c2, a3, c3, rfl, r1, r2, r3⟩ := VN.cells hrd hlen
   clear hlen hrd hb0
   obtain ⟨b', off', vs, rfl, _, hb0, hlen, hr', hrd⟩ := (HS.out.2.below hbl).at hlt
   obtain ⟨a1', c1', a2', c2', a3', c3', rfl, r1', r2', r3'⟩ := VN.cells hrd hlen
   clear hlen hrd hb0
   have d09 : wr.cell? ⟨b, off + k * 17, none⟩ = _ := hr 0 _ rfl
   have e09 : wr.cell? ⟨b', off' + k * 17, none⟩ = _ := hr' 0 _ rfl
   have d19 : wr.cell? ⟨b, off + k * 17 + 1, none⟩ = _ := hr 1 _ rfl
   have e19 : wr.cell? ⟨b', off' + k * 17 + 1, none⟩ = _ := hr' 1 _ rfl
   have d29 : wr.cell? ⟨b, off + k * 17 + 2, none⟩ = _ := hr 2 _ rfl
   have e29 : wr.cell? ⟨b', off' + k * 17 + 2, none⟩ = _ := hr' 2 _ rfl
   have d39 : wr.cell? ⟨b, off + k * 17 + 3, none⟩ = _ := hr 3 _ rfl
   have e39 : wr.cell? ⟨b', off' + k * 17 + 3, none⟩ = _ := hr' 3 _ rfl
   have d49 : wr.cell? ⟨b, off + k * 17 + 4, none⟩ = _ := hr 4 _ rfl
   have e49 : wr.cell? ⟨b', off' + k * 17 + 4, none⟩ = _ := hr' 4 _ rfl
   have d59 : wr.cell? ⟨b, off + k * 17 + 5, none⟩ = _ := hr 5 _ rfl
   have e59 : wr.cell? ⟨b', off' + k * 17 + 5, none⟩ = _ := hr' 5 _ rfl
   have d69 : wr.cell? ⟨b, off + k * 17 + 6, none⟩ = _ := hr 6 _ rfl
   have e69 : wr.cell? ⟨b', off' + k * 17 + 6, none⟩ = _ := hr' 6 _ rfl
   have d79 : wr.cell? ⟨b, off + k * 17 + 7, none⟩ = _ := hr 7 _ rfl
   have e79 : wr.cell? ⟨b', off' + k * 17 + 7, none⟩ = _ := hr' 7 _ rfl
   have d89 : wr.cell? ⟨b, off + k * 17 + 8, none⟩ = _ := hr 8 _ rfl
   have e89 : wr.cell? ⟨b', off' + k * 17 + 8, none⟩ = _ := hr' 8 _ rfl
   have d99 : wr.cell? ⟨b, off + k * 17 + 9, none⟩ = _ := hr 9 _ rfl
   have e99 : wr.cell? ⟨b', off' + k * 17 + 9, none⟩ = _ := hr' 9 _ rfl
   have d109 : wr.cell? ⟨b, off + k * 17 + 10, none⟩ = _ := hr 10 _ rfl
   have e109 : wr.cell? ⟨b', off' + k * 17 + 10, none⟩ = _ := hr' 10 _ rfl
   have d119 : wr.cell? ⟨b, off + k * 17 + 11, none⟩ = _ := hr 11 _ rfl
   have e119 : wr.cell? ⟨b', off' + k * 17 + 11, none⟩ = _ := hr' 11 _ rfl
   have d129 : wr.cell? ⟨b, off + k * 17 + 12, none⟩ = _ := hr 12 _ rfl
   have e129 : wr.cell? ⟨b', off' + k * 17 + 12, none⟩ = _ := hr' 12 _ rfl
   have d139 : wr.cell? ⟨b, off + k * 17 + 13, none⟩ = _ := hr 13 _ rfl
   have e139 : wr.cell? ⟨b', off' + k * 17 + 13, none⟩ = _ := hr' 13 _ rfl
   have d149 : wr.cell? ⟨b, off + k * 17 + 14, none⟩ = _ := hr 14 _ rfl
   have e149 : wr.cell? ⟨b', off' + k * 17 + 14, none⟩ = _ := hr' 14 _ rfl
   have d159 : wr.cell? ⟨b, off + k * 17 + 15, none⟩ = _ := hr 15 _ rfl
   have e159 : wr.cell? ⟨b', off' + k * 17 + 15, none⟩ = _ := hr' 15 _ rfl
   have d169 : wr.cell? ⟨b, off + k * 17 + 16, none⟩ = _ := hr 16 _ rfl
   have e169 : wr.cell? ⟨b', off' + k * 17 + 16, none⟩ = _ := hr' 16 _ rfl
   have HK : Hid (Below w.heap.size w wr /\ szT 17 (trs (xnT (f k))) <= 1048576 /\ Rd wr 0 (.list 9 (f k).nq (fun i => trs (xlT ((f k).qf i)))) (.slice a1 ((f k).nq) c1) /\ Rd wr 0 (intsT (f k).c.q.ws) (.slice a2 ((f k).c.q.ws.length) c2) /\ Rd wr 0 (boolsT (f k).c.q.bs) (.slice a3 ((f k).c.q.bs.length) c3) /\ Rd wr 0 (.list 9 (f k).nq (fun i => trs (xlT ((f k).qf i)))) (.slice a1' ((f k).nq) c1') /\ Rd wr 0 (intsT (f k).c.q.ws) (.slice a2' ((f k).c.q.ws.length) c2') /\ Rd wr 0 (boolsT (f k).c.q.bs) (.slice a3' ((f k).c.q.bs.length) c3')) := ⟨hbl, HZ.out k hlt, r1, r2, r3, r1', r2', r3'⟩
   clear r1 r2 r3 r1' r2' r3' hr hr' hbl
   go_wp2_with fail
   go_region_with (go_at_call 114; refine (eqLine_t (f k) a1 ((f k).nq) c1 a2 ((f k).c.q.ws.length) c2 a3 ((f k).c.q.bs.length) c3 a1' c1' a2' c2' a3' c3' _ (HK.out.2.2.1.below (by first | exact Below.refl _ _ | exact (Below.refl _ _).drew | exact (Below.refl _ _).drew.drew)) (HK.out.2.2.2.1.below (by first | exact Below.refl _ _ | exact (Below.refl _ _).drew | exact (Below.refl _ _).drew.drew)) (HK.out.2.2.2.2.1.below (by first | exact Below.refl _ _ | exact (Below.refl _ _).drew | exact (Below.refl _ _).drew.drew)) (HK.out.2.2.2.2.2.1.below (by first | exact Below.refl _ _ | exact (Below.refl _ _).drew | exact (Below.refl _ _).drew.drew)) (HK.out.2.2.2.2.2.2.1.below (by first | exact Below.refl _ _ | exact (Below.refl _ _).drew | exact (Below.refl _ _).drew.drew)) (HK.out.2.2.2.2.2.2.2.below (by first | exact Below.refl _ _ | exact (Below.refl _ _).drew | exact (Below.refl _ _).drew.drew)) HK.out.2.1).mono ?_; rintro e w1 ⟨rfl, b1'⟩; have b1 : Below wr.heap.size wr w1 := bel_nx (by first | exact Below.refl _ _ | exact (Below.refl _ _).drew | exact (Below.refl _ _).drew.drew) b1'; clear b1')
   all_goals (
    have B1 := bel_nx HK.out.1 b1
    clear HK b1 d09 e09 d19 e19 d29 e29 d39 e39 d49 e49 d59 e59 d69 e69 d79 e79 d89 e89 d99 e99 d109 e109 d119 e119 d129 e129 d139 e139 d149 e149 d159 e159 d169 e169
    go_wp2
    go_roundw
    case rel => exact ⟨k + 1, by omega, by go_num, B1⟩
    case measure => simp [intOf]; omega)
  have hi : ¬ (k : Int) < (n' : Int) := by omega
  go_wp2
  go_ret
  exact ⟨rfl, hbl⟩
theorem eqFabric_t (X : VF) (a1 : Option Addr) (l1 c1 : Nat) (a2 : Option Addr) (l2 c2 : Nat) (a3 : Option Addr) (l3 c3 : Nat) (a1' : Option Addr) (c1' : Nat) (a2' : Option Addr) (c2' : Nat) (a3' : Option Addr) (c3' : Nat) (w : World) (r1 : Rd w 0 (.list 7 X.set.n (fun i => trs (xrT (X.set.f i)))) (.slice a1 l1 c1)) (r2 : Rd w 0 (.list 13 X.op.m (fun i => trs (dT (X.op.f i)))) (.slice a2 l2 c2)) (r3 : Rd w 0 (.list 17 X.nl (fun i => trs (xnT (X.lf i)))) (.slice a3 l3 c3)) (r1' : Rd w 0 (.list 7 X.set.n (fun i => trs (xrT (X.set.f i)))) (.slice a1' l1 c1')) (r2' : Rd w 0 (.list 13 X.op.m (fun i => trs (dT (X.op.f i)))) (.slice a2' l2 c2')) (r3' : Rd w 0 (.list 17 X.nl (fun i => trs (xnT (X.lf i)))) (.slice a3' l3 c3')) (hz : szT 11 (trs (xfT X)) <= 1048576) :
 Calls Tryz.prog 12 #[.agg (xfL X a1 l1 c1 a2 l2 c2 a3 l3 c3).toArray, .agg (xfL X a1' l1 c1' a2' l2 c2' a3' l3 c3').toArray] w fun e w' => e = .returned (.bool true) /\ Below w.heap.size w w' := by
 obtain ⟨W, hW⟩ : ∃ W, W = (w.alloc (.cells (xfL X a1 l1 c1 a2 l2 c2 a3 l3 c3).toArray 41)).alloc (.cells (xfL X a1' l1 c1' a2' l2 c2' a3' l3 c3').toArray 41) := ⟨_, rfl⟩
 have HZ : Hid (szT 3 (trs (xcT X.set)) <= 1048576 /\ szT 2 (trs (tT X.op)) <= 1048576 /\ (Tr.list 17 X.nl (fun i => trs (xnT (X.lf i)))).sz <= 1048576) := by
  rw [szT_xf] at hz
  show szT 3 (trs (xcT X.set)) <= 1048576 /\ szT 2 (trs (tT X.op)) <= 1048576 /\ (Tr.list 17 X.nl (fun i => trs (xnT (X.lf i)))).sz <= 1048576
  try simp only [szT_q, szT_a, szT_p, szT_d, szT_t, szT_xr, szT_xc, szT_xl, szT_xn, szT_xf, true_and]
  omega
 have HR : Hid (Rd w 0 (.list 7 X.set.n (fun i => trs (xrT (X.set.f i)))) (.slice a1 l1 c1) /\ Rd w 0 (.list 13 X.op.m (fun i => trs (dT (X.op.f i)))) (.slice a2 l2 c2) /\ Rd w 0 (.list 17 X.nl (fun i => trs (xnT (X.lf i)))) (.slice a3 l3 c3) /\ Rd w 0 (.list 7 X.set.n (fun i => trs (xrT (X.set.f i)))) (.slice a1' l1 c1') /\ Rd w 0 (.list 13 X.op.m (fun i => trs (dT (X.op.f i)))) (.slice a2' l2 c2') /\ Rd w 0 (.list 17 X.nl (fun i => trs (xnT (X.lf i)))) (.slice a3' l3 c3')) := ⟨r1, r2, r3, r1', r2', r3'⟩
 have G0 : Hid (Below w.heap.size w W /\ Blk W w.heap.size 41 (xfL X a1 l1 c1 a2 l2 c2 a3 l3 c3).toArray /\ Blk W (w.heap.size + 1) 41 (xfL X a1' l1 c1' a2' l2 c2' a3' l3 c3').toArray) := ⟨by rw [hW]; exact bel_nx (bel_alloc _ _) (bel_alloc _ _), by rw [hW]; exact (Blk.new w _ _).below (bel_alloc _ _), by rw [hW]; have := Blk.new (w.alloc (.cells (xfL X a1 l1 c1 a2 l2 c2 a3 l3 c3).toArray 41)) (xfL X a1' l1 c1' a2' l2 c2' a3' l3 c3').toArray 41; simpa using this⟩
 clear hz r1 r2 r3 r1' r2' r3'
 go_enter Tryz.func12, Tryz.ntmps12
 go_upto_region 1 with fail
 rw [<- hW]
 clear hW
 obtain ⟨⟨y0, y1, y2, y3, y4, y5, y6, y7, y8, y9, y10⟩, yf⟩ := G0.out.2.1.tc11
 obtain ⟨⟨z0, z1, z2, z3, z4, z5, z6, z7, z8, z9, z10⟩, zf⟩ := G0.out.2.2.tc11
 clear yf zf
 go_wp2_with fail
 refine (eqConfig_t X.set a1 l1 c1 a1' c1' _ (HR.out.1.below G0.out.1) (HR.out.2.2.2.1.below G0.out.1) HZ.out.1).mono ?_
 rintro e w1 ⟨rfl, hb1⟩
 have G1 : Hid (Below w.heap.size w w1 /\ Blk w1 w.heap.size 41 (xfL X a1 l1 c1 a2 l2 c2 a3 l3 c3).toArray /\ Blk w1 (w.heap.size + 1) 41 (xfL X a1' l1 c1' a2' l2 c2' a3' l3 c3').toArray) := ⟨bel_nx G0.out.1 hb1, G0.out.2.1.below hb1, G0.out.2.2.below hb1⟩
 clear hb1 y0 y1 y2 y3 y4 y5 y6 y7 y8 y9 y10 z0 z1 z2 z3 z4 z5 z6 z7 z8 z9 z10
 obtain ⟨⟨y0, y1, y2, y3, y4, y5, y6, y7, y8, y9, y10⟩, yf⟩ := G1.out.2.1.tc11
 obtain ⟨⟨z0, z1, z2, z3, z4, z5, z6, z7, z8, z9, z10⟩, zf⟩ := G1.out.2.2.tc11
 clear yf zf
 go_wp2_with fail
 refine (eqTable_t X.op a2 l2 c2 a2' c2' _ (HR.out.2.1.below G1.out.1) (HR.out.2.2.2.2.1.below G1.out.1) HZ.out.2.1).mono ?_
 rintro e w2 ⟨rfl, hb2⟩
 have G2 : Hid (Below w.heap.size w w2 /\ Blk w2 w.heap.size 41 (xfL X a1 l1 c1 a2 l2 c2 a3 l3 c3).toArray /\ Blk w2 (w.heap.size + 1) 41 (xfL X a1' l1 c1' a2' l2 c2' a3' l3 c3').toArray) := ⟨bel_nx G1.out.1 hb2, G1.out.2.1.below hb2, G1.out.2.2.below hb2⟩
 clear hb2 y0 y1 y2 y3 y4 y5 y6 y7 y8 y9 y10 z0 z1 z2 z3 z4 z5 z6 z7 z8 z9 z10
 obtain ⟨⟨y0, y1, y2, y3, y4, y5, y6, y7, y8, y9, y10⟩, yf⟩ := G2.out.2.1.tc11
 obtain ⟨⟨z0, z1, z2, z3, z4, z5, z6, z7, z8, z9, z10⟩, zf⟩ := G2.out.2.2.tc11
 clear yf zf
 go_wp2_with fail
 refine (eqLineS_t X.nl X.lf a3 l3 c3 a3' c3' _ (HR.out.2.2.1.below G2.out.1) (HR.out.2.2.2.2.2.below G2.out.1) HZ.out.2.2).mono ?_
 rintro e w3 ⟨rfl, hb3⟩
 have G3 : Hid (Below w.heap.size w w3 /\ Blk w3 w.heap.size 41 (xfL X a1 l1 c1 a2 l2 c2 a3 l3 c3).toArray /\ Blk w3 (w.heap.size + 1) 41 (xfL X a1' l1 c1' a2' l2 c2' a3' l3 c3').toArray) := ⟨bel_nx G2.out.1 hb3, G2.out.2.1.below hb3, G2.out.2.2.below hb3⟩
 clear hb3 y0 y1 y2 y3 y4 y5 y6 y7 y8 y9 y10 z0 z1 z2 z3 z4 z5 z6 z7 z8 z9 z10
 obtain ⟨⟨y0, y1, y2, y3, y4, y5, y6, y7, y8, y9, y10⟩, yf⟩ := G3.out.2.1.tc11
 obtain ⟨⟨z0, z1, z2, z3, z4, z5, z6, z7, z8, z9, z10⟩, zf⟩ := G3.out.2.2.tc11
 clear yf zf
 go_wp2
 go_ret
 exact ⟨rfl, G3.out.1⟩
end Go.Proofs.YtkfgijkkffbpmaaGreat
namespace Go.Proofs.YtkfgijkkffbpmaaGreat
open Go.RowKit Go.Joins
structure VI where
 co : List Bool
 ip : List Bool
 ho : List Int
 wd : List Int
instance : Inhabited VI := ⟨⟨[], [], [], []⟩⟩
def xdT (X : VI) : List Tr := [boolsT X.co, boolsT X.ip, intsT X.ho, intsT X.wd]
abbrev xdL (X : VI) (a1 : Option Addr) (l1 c1 : Nat) (a2 : Option Addr) (l2 c2 : Nat) (a3 : Option Addr) (l3 c3 : Nat) (a4 : Option Addr) (l4 c4 : Nat) : List Value := [.slice a1 l1 c1, .slice a2 l2 c2, .slice a3 l3 c3, .slice a4 l4 c4]
theorem szT_xd (X : VI) : szT 4 (trs (xdT X)) = X.co.length + X.ip.length + X.ho.length + X.wd.length := by
 simp [szT, sumN, trs, xdT, Tr.sz_leaf, intsT_sz, boolsT_sz]
structure VS where
 po : Int
 un : Int
 d : VI
instance : Inhabited VS := ⟨⟨0, 0, default⟩⟩
def xsT (X : VS) : List Tr := [.leaf (.int .i64 X.po), .leaf (.int .i64 X.un), boolsT X.d.co, boolsT X.d.ip, intsT X.d.ho, intsT X.d.wd]
abbrev xsL (X : VS) (a1 : Option Addr) (l1 c1 : Nat) (a2 : Option Addr) (l2 c2 : Nat) (a3 : Option Addr) (l3 c3 : Nat) (a4 : Option Addr) (l4 c4 : Nat) : List Value := [.int .i64 X.po, .int .i64 X.un, .slice a1 l1 c1, .slice a2 l2 c2, .slice a3 l3 c3, .slice a4 l4 c4]
theorem VS.cells {w : World} {lo : Nat} {X : VS} {vs : List Value} (h : RdL w lo (trs (xsT X)) vs) (hl : vs.length = 6) : ∃ a1 c1 a2 c2 a3 c3 a4 c4, vs = xsL X a1 (X.d.co.length) c1 a2 (X.d.ip.length) c2 a3 (X.d.ho.length) c3 a4 (X.d.wd.length) c4 /\ Rd w lo (boolsT X.d.co) (.slice a1 (X.d.co.length) c1) /\ Rd w lo (boolsT X.d.ip) (.slice a2 (X.d.ip.length) c2) /\ Rd w lo (intsT X.d.ho) (.slice a3 (X.d.ho.length) c3) /\ Rd w lo (intsT X.d.wd) (.slice a4 (X.d.wd.length) c4) := by
 match vs, hl with
 | [v0, v1, v2, v3, v4, v5], _ =>
  have e0 : v0 = .int .i64 X.po := RdL.get h (j := 0) rfl rfl
  have e1 : v1 = .int .i64 X.un := RdL.get h (j := 1) rfl rfl
  have r1 : Rd w lo (boolsT X.d.co) v2 := RdL.get h (j := 2) rfl rfl
  obtain ⟨a1, c1, e2, _⟩ := r1.shape
  have r2 : Rd w lo (boolsT X.d.ip) v3 := RdL.get h (j := 3) rfl rfl
  obtain ⟨a2, c2, e3, _⟩ := r2.shape
  have r3 : Rd w lo (intsT X.d.ho) v4 := RdL.get h (j := 4) rfl rfl
  obtain ⟨a3, c3, e4, _⟩ := r3.shape
  have r4 : Rd w lo (intsT X.d.wd) v5 := RdL.get h (j := 5) rfl rfl
  obtain ⟨a4, c4, e5, _⟩ := r4.shape
  subst e0 e1 e2 e3 e4 e5
  exact ⟨a1, c1, a2, c2, a3, c3, a4, c4, rfl, r1, r2, r3, r4⟩
theorem VS.back {w : World} {lo : Nat} {X : VS} {a1 : Option Addr} {l1 c1 : Nat} {a2 : Option Addr} {l2 c2 : Nat} {a3 : Option Addr} {l3 c3 : Nat} {a4 : Option Addr} {l4 c4 : Nat} (r1 : Rd w lo (boolsT X.d.co) (.slice a1 l1 c1)) (r2 : Rd w lo (boolsT X.d.ip) (.slice a2 l2 c2)) (r3 : Rd w lo (intsT X.d.ho) (.slice a3 l3 c3)) (r4 : Rd w lo (intsT X.d.wd) (.slice a4 l4 c4)) : RdL w lo (trs (xsT X)) (xsL X a1 l1 c1 a2 l2 c2 a3 l3 c3 a4 l4 c4) := by
 refine RdL.mk (fun j v t hv ht => ?_) (by simp [xsT])
 match j, hv, ht with
 | 0, hv, ht =>
  obtain rfl := Option.some.inj (show some _ = some v from hv)
  obtain rfl := Option.some.inj (show some _ = some t from ht)
  exact rfl
 | 1, hv, ht =>
  obtain rfl := Option.some.inj (show some _ = some v from hv)
  obtain rfl := Option.some.inj (show some _ = some t from ht)
  exact rfl
 | 2, hv, ht =>
  obtain rfl := Option.some.inj (show some _ = some v from hv)
  obtain rfl := Option.some.inj (show some _ = some t from ht)
  exact r1
 | 3, hv, ht =>
  obtain rfl := Option.some.inj (show some _ = some v from hv)
  obtain rfl := Option.some.inj (show some _ = some t from ht)
  exact r2
 | 4, hv, ht =>
  obtain rfl := Option.some.inj (show some _ = some v from hv)
  obtain rfl := Option.some.inj (show some _ = some t from ht)
  exact r3
 | 5, hv, ht =>
  obtain rfl := Option.some.inj (show some _ = some v from hv)
  obtain rfl := Option.some.inj (show some _ = some t from ht)
  exact r4
 | j + 6, hv, ht => simp at hv
theorem szT_xs (X : VS) : szT 6 (trs (xsT X)) = X.d.co.length + X.d.ip.length + X.d.ho.length + X.d.wd.length := by
 simp [szT, sumN, trs, xsT, Tr.sz_leaf, intsT_sz, boolsT_sz]
structure VK where
 bk : Bool
 po : Int
 nu : Int
 un : Int
 q : VQ
 a : VA
instance : Inhabited VK := ⟨⟨false, 0, 0, 0, default, default⟩⟩
def xkT (X : VK) : List Tr := [.leaf (.bool X.bk), .leaf (.int .i64 X.po), .leaf (.int .i64 X.nu), .leaf (.int .i64 X.un), .leaf (.int .i64 X.q.kd), .leaf (.int .i64 X.q.pl), .leaf (.int .i64 X.q.n), intsT X.q.ws, boolsT X.q.bs, .leaf (.int .i64 X.q.wa), .leaf (.int .i64 X.a.kd), .leaf (.int .i64 X.a.fl), .leaf (.int .i64 X.a.pl), .leaf (.int .i64 X.a.n), intsT X.a.ws, boolsT X.a.bs]
abbrev xkL (X : VK) (a1 : Option Addr) (l1 c1 : Nat) (a2 : Option Addr) (l2 c2 : Nat) (a3 : Option Addr) (l3 c3 : Nat) (a4 : Option Addr) (l4 c4 : Nat) : List Value := [.bool X.bk, .int .i64 X.po, .int .i64 X.nu, .int .i64 X.un, .int .i64 X.q.kd, .int .i64 X.q.pl, .int .i64 X.q.n, .slice a1 l1 c1, .slice a2 l2 c2, .int .i64 X.q.wa, .int .i64 X.a.kd, .int .i64 X.a.fl, .int .i64 X.a.pl, .int .i64 X.a.n, .slice a3 l3 c3, .slice a4 l4 c4]
theorem VK.cells {w : World} {lo : Nat} {X : VK} {vs : List Value} (h : RdL w lo (trs (xkT X)) vs) (hl : vs.length = 16) : ∃ a1 c1 a2 c2 a3 c3 a4 c4, vs = xkL X a1 (X.q.ws.length) c1 a2 (X.q.bs.length) c2 a3 (X.a.ws.length) c3 a4 (X.a.bs.length) c4 /\ Rd w lo (intsT X.q.ws) (.slice a1 (X.q.ws.length) c1) /\ Rd w lo (boolsT X.q.bs) (.slice a2 (X.q.bs.length) c2) /\ Rd w lo (intsT X.a.ws) (.slice a3 (X.a.ws.length) c3) /\ Rd w lo (boolsT X.a.bs) (.slice a4 (X.a.bs.length) c4) := by
 match vs, hl with
 | [v0, v1, v2, v3, v4, v5, v6, v7, v8, v9, v10, v11, v12, v13, v14, v15], _ =>
  have e0 : v0 = .bool X.bk := RdL.get h (j := 0) rfl rfl
  have e1 : v1 = .int .i64 X.po := RdL.get h (j := 1) rfl rfl
  have e2 : v2 = .int .i64 X.nu := RdL.get h (j := 2) rfl rfl
  have e3 : v3 = .int .i64 X.un := RdL.get h (j := 3) rfl rfl
  have e4 : v4 = .int .i64 X.q.kd := RdL.get h (j := 4) rfl rfl
  have e5 : v5 = .int .i64 X.q.pl := RdL.get h (j := 5) rfl rfl
  have e6 : v6 = .int .i64 X.q.n := RdL.get h (j := 6) rfl rfl
  have r1 : Rd w lo (intsT X.q.ws) v7 := RdL.get h (j := 7) rfl rfl
  obtain ⟨a1, c1, e7, _⟩ := r1.shape
  have r2 : Rd w lo (boolsT X.q.bs) v8 := RdL.get h (j := 8) rfl rfl
  obtain ⟨a2, c2, e8, _⟩ := r2.shape
  have e9 : v9 = .int .i64 X.q.wa := RdL.get h (j := 9) rfl rfl
  have e10 : v10 = .int .i64 X.a.kd := RdL.get h (j := 10) rfl rfl
  have e11 : v11 = .int .i64 X.a.fl := RdL.get h (j := 11) rfl rfl
  have e12 : v12 = .int .i64 X.a.pl := RdL.get h (j := 12) rfl rfl
  have e13 : v13 = .int .i64 X.a.n := RdL.get h (j := 13) rfl rfl
  have r3 : Rd w lo (intsT X.a.ws) v14 := RdL.get h (j := 14) rfl rfl
  obtain ⟨a3, c3, e14, _⟩ := r3.shape
  have r4 : Rd w lo (boolsT X.a.bs) v15 := RdL.get h (j := 15) rfl rfl
  obtain ⟨a4, c4, e15, _⟩ := r4.shape
  subst e0 e1 e2 e3 e4 e5 e6 e7 e8 e9 e10 e11 e12 e13 e14 e15
  exact ⟨a1, c1, a2, c2, a3, c3, a4, c4, rfl, r1, r2, r3, r4⟩
theorem szT_xk (X : VK) : szT 16 (trs (xkT X)) = X.q.ws.length + X.q.bs.length + X.a.ws.length + X.a.bs.length := by
 simp [szT, sumN, trs, xkT, Tr.sz_leaf, intsT_sz, boolsT_sz]
structure VR where
 so : Int
 ta : Int
 q : VQ
 np : Nat
 pt : Nat -> VP
 nt : Nat
 tl : Nat -> VA
 a : VA
instance : Inhabited VR := ⟨⟨0, 0, default, 0, fun _ => default, 0, fun _ => default, default⟩⟩
def xyT (X : VR) : List Tr := [.leaf (.int .i64 X.so), .leaf (.int .i64 X.ta), .leaf (.int .i64 X.q.kd), .leaf (.int .i64 X.q.pl), .leaf (.int .i64 X.q.n), intsT X.q.ws, boolsT X.q.bs, .leaf (.int .i64 X.q.wa), .list 8 X.np (fun i => trs (pT (X.pt i))), .list 6 X.nt (fun i => trs (aT (X.tl i))), .leaf (.int .i64 X.a.kd), .leaf (.int .i64 X.a.fl), .leaf (.int .i64 X.a.pl), .leaf (.int .i64 X.a.n), intsT X.a.ws, boolsT X.a.bs]
abbrev xyL (X : VR) (a1 : Option Addr) (l1 c1 : Nat) (a2 : Option Addr) (l2 c2 : Nat) (a3 : Option Addr) (l3 c3 : Nat) (a4 : Option Addr) (l4 c4 : Nat) (a5 : Option Addr) (l5 c5 : Nat) (a6 : Option Addr) (l6 c6 : Nat) : List Value := [.int .i64 X.so, .int .i64 X.ta, .int .i64 X.q.kd, .int .i64 X.q.pl, .int .i64 X.q.n, .slice a1 l1 c1, .slice a2 l2 c2, .int .i64 X.q.wa, .slice a3 l3 c3, .slice a4 l4 c4, .int .i64 X.a.kd, .int .i64 X.a.fl, .int .i64 X.a.pl, .int .i64 X.a.n, .slice a5 l5 c5, .slice a6 l6 c6]
theorem VR.cells {w : World} {lo : Nat} {X : VR} {vs : List Value} (h : RdL w lo (trs (xyT X)) vs) (hl : vs.length = 16) : ∃ a1 c1 a2 c2 a3 c3 a4 c4 a5 c5 a6 c6, vs = xyL X a1 (X.q.ws.length) c1 a2 (X.q.bs.length) c2 a3 (X.np) c3 a4 (X.nt) c4 a5 (X.a.ws.length) c5 a6 (X.a.bs.length) c6 /\ Rd w lo (intsT X.q.ws) (.slice a1 (X.q.ws.length) c1) /\ Rd w lo (boolsT X.q.bs) (.slice a2 (X.q.bs.length) c2) /\ Rd w lo (.list 8 X.np (fun i => trs (pT (X.pt i)))) (.slice a3 (X.np) c3) /\ Rd w lo (.list 6 X.nt (fun i => trs (aT (X.tl i)))) (.slice a4 (X.nt) c4) /\ Rd w lo (intsT X.a.ws) (.slice a5 (X.a.ws.length) c5) /\ Rd w lo (boolsT X.a.bs) (.slice a6 (X.a.bs.length) c6) := by
 match vs, hl with
 | [v0, v1, v2, v3, v4, v5, v6, v7, v8, v9, v10, v11, v12, v13, v14, v15], _ =>
  have e0 : v0 = .int .i64 X.so := RdL.get h (j := 0) rfl rfl
  have e1 : v1 = .int .i64 X.ta := RdL.get h (j := 1) rfl rfl
  have e2 : v2 = .int .i64 X.q.kd := RdL.get h (j := 2) rfl rfl
  have e3 : v3 = .int .i64 X.q.pl := RdL.get h (j := 3) rfl rfl
  have e4 : v4 = .int .i64 X.q.n := RdL.get h (j := 4) rfl rfl
  have r1 : Rd w lo (intsT X.q.ws) v5 := RdL.get h (j := 5) rfl rfl
  obtain ⟨a1, c1, e5, _⟩ := r1.shape
  have r2 : Rd w lo (boolsT X.q.bs) v6 := RdL.get h (j := 6) rfl rfl
  obtain ⟨a2, c2, e6, _⟩ := r2.shape
  have e7 : v7 = .int .i64 X.q.wa := RdL.get h (j := 7) rfl rfl
  have r3 : Rd w lo (.list 8 X.np (fun i => trs (pT (X.pt i)))) v8 := RdL.get h (j := 8) rfl rfl
  obtain ⟨a3, c3, e8, _⟩ := r3.shape
  have r4 : Rd w lo (.list 6 X.nt (fun i => trs (aT (X.tl i)))) v9 := RdL.get h (j := 9) rfl rfl
  obtain ⟨a4, c4, e9, _⟩ := r4.shape
  have e10 : v10 = .int .i64 X.a.kd := RdL.get h (j := 10) rfl rfl
  have e11 : v11 = .int .i64 X.a.fl := RdL.get h (j := 11) rfl rfl
  have e12 : v12 = .int .i64 X.a.pl := RdL.get h (j := 12) rfl rfl
  have e13 : v13 = .int .i64 X.a.n := RdL.get h (j := 13) rfl rfl
  have r5 : Rd w lo (intsT X.a.ws) v14 := RdL.get h (j := 14) rfl rfl
  obtain ⟨a5, c5, e14, _⟩ := r5.shape
  have r6 : Rd w lo (boolsT X.a.bs) v15 := RdL.get h (j := 15) rfl rfl
  obtain ⟨a6, c6, e15, _⟩ := r6.shape
  subst e0 e1 e2 e3 e4 e5 e6 e7 e8 e9 e10 e11 e12 e13 e14 e15
  exact ⟨a1, c1, a2, c2, a3, c3, a4, c4, a5, c5, a6, c6, rfl, r1, r2, r3, r4, r5, r6⟩
theorem szT_xy (X : VR) : szT 16 (trs (xyT X)) = X.q.ws.length + X.q.bs.length + (Tr.list 8 X.np (fun i => trs (pT (X.pt i)))).sz + (Tr.list 6 X.nt (fun i => trs (aT (X.tl i)))).sz + X.a.ws.length + X.a.bs.length := by
 simp [szT, sumN, trs, xyT, Tr.sz_leaf, intsT_sz, boolsT_sz]
structure VE where
 po : Int
 nu : Int
 un : Int
 q : VQ
 a : VA
instance : Inhabited VE := ⟨⟨0, 0, 0, default, default⟩⟩
def xeT (X : VE) : List Tr := [.leaf (.int .i64 X.po), .leaf (.int .i64 X.nu), .leaf (.int .i64 X.un), .leaf (.int .i64 X.q.kd), .leaf (.int .i64 X.q.pl), .leaf (.int .i64 X.q.n), intsT X.q.ws, boolsT X.q.bs, .leaf (.int .i64 X.q.wa), .leaf (.int .i64 X.a.kd), .leaf (.int .i64 X.a.fl), .leaf (.int .i64 X.a.pl), .leaf (.int .i64 X.a.n), intsT X.a.ws, boolsT X.a.bs]
abbrev xeL (X : VE) (a1 : Option Addr) (l1 c1 : Nat) (a2 : Option Addr) (l2 c2 : Nat) (a3 : Option Addr) (l3 c3 : Nat) (a4 : Option Addr) (l4 c4 : Nat) : List Value := [.int .i64 X.po, .int .i64 X.nu, .int .i64 X.un, .int .i64 X.q.kd, .int .i64 X.q.pl, .int .i64 X.q.n, .slice a1 l1 c1, .slice a2 l2 c2, .int .i64 X.q.wa, .int .i64 X.a.kd, .int .i64 X.a.fl, .int .i64 X.a.pl, .int .i64 X.a.n, .slice a3 l3 c3, .slice a4 l4 c4]
theorem VE.cells {w : World} {lo : Nat} {X : VE} {vs : List Value} (h : RdL w lo (trs (xeT X)) vs) (hl : vs.length = 15) : ∃ a1 c1 a2 c2 a3 c3 a4 c4, vs = xeL X a1 (X.q.ws.length) c1 a2 (X.q.bs.length) c2 a3 (X.a.ws.length) c3 a4 (X.a.bs.length) c4 /\ Rd w lo (intsT X.q.ws) (.slice a1 (X.q.ws.length) c1) /\ Rd w lo (boolsT X.q.bs) (.slice a2 (X.q.bs.length) c2) /\ Rd w lo (intsT X.a.ws) (.slice a3 (X.a.ws.length) c3) /\ Rd w lo (boolsT X.a.bs) (.slice a4 (X.a.bs.length) c4) := by
 match vs, hl with
 | [v0, v1, v2, v3, v4, v5, v6, v7, v8, v9, v10, v11, v12, v13, v14], _ =>
  have e0 : v0 = .int .i64 X.po := RdL.get h (j := 0) rfl rfl
  have e1 : v1 = .int .i64 X.nu := RdL.get h (j := 1) rfl rfl
  have e2 : v2 = .int .i64 X.un := RdL.get h (j := 2) rfl rfl
  have e3 : v3 = .int .i64 X.q.kd := RdL.get h (j := 3) rfl rfl
  have e4 : v4 = .int .i64 X.q.pl := RdL.get h (j := 4) rfl rfl
  have e5 : v5 = .int .i64 X.q.n := RdL.get h (j := 5) rfl rfl
  have r1 : Rd w lo (intsT X.q.ws) v6 := RdL.get h (j := 6) rfl rfl
  obtain ⟨a1, c1, e6, _⟩ := r1.shape
  have r2 : Rd w lo (boolsT X.q.bs) v7 := RdL.get h (j := 7) rfl rfl
  obtain ⟨a2, c2, e7, _⟩ := r2.shape
  have e8 : v8 = .int .i64 X.q.wa := RdL.get h (j := 8) rfl rfl
  have e9 : v9 = .int .i64 X.a.kd := RdL.get h (j := 9) rfl rfl
  have e10 : v10 = .int .i64 X.a.fl := RdL.get h (j := 10) rfl rfl
  have e11 : v11 = .int .i64 X.a.pl := RdL.get h (j := 11) rfl rfl
  have e12 : v12 = .int .i64 X.a.n := RdL.get h (j := 12) rfl rfl
  have r3 : Rd w lo (intsT X.a.ws) v13 := RdL.get h (j := 13) rfl rfl
  obtain ⟨a3, c3, e13, _⟩ := r3.shape
  have r4 : Rd w lo (boolsT X.a.bs) v14 := RdL.get h (j := 14) rfl rfl
  obtain ⟨a4, c4, e14, _⟩ := r4.shape
  subst e0 e1 e2 e3 e4 e5 e6 e7 e8 e9 e10 e11 e12 e13 e14
  exact ⟨a1, c1, a2, c2, a3, c3, a4, c4, rfl, r1, r2, r3, r4⟩
theorem szT_xe (X : VE) : szT 15 (trs (xeT X)) = X.q.ws.length + X.q.bs.length + X.a.ws.length + X.a.bs.length := by
 simp [szT, sumN, trs, xeT, Tr.sz_leaf, intsT_sz, boolsT_sz]
structure VW where
 fb : VF
 ns : Nat
 sf : Nat -> VS
 nk : Nat
 kf : Nat -> VK
 nr : Nat
 rf : Nat -> VR
 ne : Nat
 ef : Nat -> VE
instance : Inhabited VW := ⟨⟨default, 0, fun _ => default, 0, fun _ => default, 0, fun _ => default, 0, fun _ => default⟩⟩
def xwT (X : VW) : List Tr := [.leaf (.int .i64 X.fb.nw), .leaf (.int .i64 X.fb.set.wt), .leaf (.int .i64 X.fb.set.tr), .list 7 X.fb.set.n (fun i => trs (xrT (X.fb.set.f i))), .leaf (.int .i64 X.fb.op.nx), .list 13 X.fb.op.m (fun i => trs (dT (X.fb.op.f i))), .list 17 X.fb.nl (fun i => trs (xnT (X.fb.lf i))), .leaf (.int .i64 X.fb.sk), .leaf (.int .i64 X.fb.re), .leaf (.int .i64 X.fb.fa), .leaf (.int .i64 X.fb.se), .list 6 X.ns (fun i => trs (xsT (X.sf i))), .list 16 X.nk (fun i => trs (xkT (X.kf i))), .list 16 X.nr (fun i => trs (xyT (X.rf i))), .list 15 X.ne (fun i => trs (xeT (X.ef i)))]
abbrev xwL (X : VW) (a1 : Option Addr) (l1 c1 : Nat) (a2 : Option Addr) (l2 c2 : Nat) (a3 : Option Addr) (l3 c3 : Nat) (a4 : Option Addr) (l4 c4 : Nat) (a5 : Option Addr) (l5 c5 : Nat) (a6 : Option Addr) (l6 c6 : Nat) (a7 : Option Addr) (l7 c7 : Nat) : List Value := [.int .i64 X.fb.nw, .int .i64 X.fb.set.wt, .int .i64 X.fb.set.tr, .slice a1 l1 c1, .int .i64 X.fb.op.nx, .slice a2 l2 c2, .slice a3 l3 c3, .int .i64 X.fb.sk, .int .i64 X.fb.re, .int .i64 X.fb.fa, .int .i64 X.fb.se, .slice a4 l4 c4, .slice a5 l5 c5, .slice a6 l6 c6, .slice a7 l7 c7]
theorem szT_xw (X : VW) : szT 15 (trs (xwT X)) = (Tr.list 7 X.fb.set.n (fun i => trs (xrT (X.fb.set.f i)))).sz + (Tr.list 13 X.fb.op.m (fun i => trs (dT (X.fb.op.f i)))).sz + (Tr.list 17 X.fb.nl (fun i => trs (xnT (X.fb.lf i)))).sz + (Tr.list 6 X.ns (fun i => trs (xsT (X.sf i)))).sz + (Tr.list 16 X.nk (fun i => trs (xkT (X.kf i)))).sz + (Tr.list 16 X.nr (fun i => trs (xyT (X.rf i)))).sz + (Tr.list 15 X.ne (fun i => trs (xeT (X.ef i)))).sz := by
 simp [szT, sumN, trs, xwT, Tr.sz_leaf, intsT_sz, boolsT_sz]
end Go.Proofs.YtkfgijkkffbpmaaGreat
