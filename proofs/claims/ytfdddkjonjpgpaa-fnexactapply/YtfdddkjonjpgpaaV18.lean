/- Texts that the proof needs, joined: Mk4 Tr5 Ap0 Ap1 Ap2. -/
import Derived.Test.YtfdddkjonjpgpaaV2
import Derived.Test.YtfdddkjonjpgpaaV17
import Derived.Test.YtfdddkjonjpgpaaV16
import Derived.Test.YtfdddkjonjpgpaaV15
import Derived.Test.YtfdddkjonjpgpaaV3
import Derived.Deep.Upon
import Derived.Laws.OwnMore
namespace Go.Proofs.Ytfdddkjonjpgpaa
open Go.RowKit Go.Joins
set_option linter.unusedVariables false
set_option linter.unusedSimpArgs false
def OwnS (w : World) (lo : Nat) (t : Tr) (v : Value) : Prop := ∃ K, Fit w t K v ∧ K.ok ∧ ∀ b, K.bl b → lo ≤ b
def Own1 (w : World) (lo hi : Nat) (ts : List Tr) (vs : List Value) : Prop :=
  ∃ K : Nat → Sk, vs.length = ts.length ∧ (∀ i v, vs[i]? = some v → Fit w (trs ts i) (K i) v) ∧ (∀ i, i < ts.length → (K i).ok ∧ ∀ b, (K i).bl b → lo ≤ b ∧ b < hi) ∧ ∀ i i', i < ts.length → i' < ts.length → i ≠ i' → ∀ b, (K i).bl b → ¬ (K i').bl b
theorem Own1.same {w w' : World} {lo hi : Nat} {ts : List Tr} {vs : List Value} (h : Own1 w lo hi ts vs) (hs : w.heap.size ≤ w'.heap.size) (hb : ∀ b, lo ≤ b → b < hi → w'.heap[b]? = w.heap[b]?) : Own1 w' lo hi ts vs := by
  obtain ⟨K, h1, h2, h3, h4⟩ := h
  refine ⟨K, h1, fun i v hv => (h2 i v hv).same hs (fun b hb' => ?_), h3, h4⟩
  have hi' : i < ts.length := by rw [← h1]; exact (List.getElem?_eq_some_iff.1 hv).1
  have := (h3 i hi').2 b hb'
  exact hb b this.1 this.2
theorem Own1.mono {w : World} {lo hi lo' hi' : Nat} {ts : List Tr} {vs : List Value} (h : Own1 w lo hi ts vs) (h1 : lo' ≤ lo) (h2 : hi ≤ hi') : Own1 w lo' hi' ts vs := by
  obtain ⟨K, g1, g2, g3, g4⟩ := h
  exact ⟨K, g1, g2, fun i hi => ⟨(g3 i hi).1, fun b hb => by have := (g3 i hi).2 b hb; omega⟩, g4⟩
theorem OwnS.rd {w : World} {lo : Nat} {t : Tr} {v : Value} (h : OwnS w lo t v) : Rd w lo t v := by
  obtain ⟨K, h1, h2, h3⟩ := h
  exact h1.rd h3
theorem frozen0 {w : World} {g : Nat} {cs : Array Value} {e : TypeId} (h : w.heap[g]? = some (.cells cs e (0, 0))) (j : Nat) : w.frozen? ⟨g, j, none⟩ = false := by
  unfold World.frozen?
  show (match w.heap[g]? with | some (.cells _ _ (lo, hi)) => lo ≤ j && j < hi | _ => false) = false
  rw [h]
  simp
theorem OwnI.fit {w : World} {lo n c : Nat} {a : Option Addr} {ws : List Int} (h : OwnI w lo (.slice a n c) ws) : ∃ K, Fit w (intsT ws) K (.slice a n c) ∧ K.ok ∧ ∀ b, K.bl b → lo ≤ b ∧ (Value.slice a n c).ownBlock = some b := by
  have hsl := h.sl
  obtain ⟨h0, h⟩ := h
  rcases h with ⟨hv, hn⟩ | ⟨g, cap, cur, hv, hg, hh, h1, h2, h3, h4⟩
  · simp only [Value.slice.injEq] at hv
    obtain ⟨rfl, rfl, rfl⟩ := hv
    exact ⟨.leaf, ⟨hsl.1.symm, none, 0, rfl⟩, trivial, fun b hb => hb.elim⟩
  · simp only [Value.slice.injEq] at hv
    obtain ⟨rfl, rfl, rfl⟩ := hv
    refine ⟨.row g 0 1 ws.length (fun _ _ => .leaf), ?_, ⟨fun _ _ _ _ => ⟨trivial, fun x => x⟩, fun _ _ _ _ _ _ _ _ _ _ x => x.elim⟩, fun b hb => ?_⟩
    · unfold intsT
      have hlt : g < w.heap.size := (Array.getElem?_eq_some_iff.1 hh).1
      refine ⟨rfl, rfl, c, rfl, h1, by omega, hlt, frozen0 hh, fun k j hk hj => ?_⟩
      rcases hsl.2 with e | ⟨b, off, e, _, hc⟩
      · rw [e] at hk; simp at hk
      · simp only [Option.some.injEq, Addr.mk.injEq, and_true] at e
        obtain ⟨rfl, rfl⟩ := e
        refine ⟨_, ?_, rfl, rfl⟩
        have := hc k hk
        rw [show 0 + k * 1 + j = 0 + k by omega]
        exact this
    · rcases hb with rfl | ⟨_, _, _, _, hb⟩
      · exact ⟨hg, rfl⟩
      · exact hb.elim
theorem OwnB.fit {w : World} {lo n c : Nat} {a : Option Addr} {ws : List Bool} (h : OwnB w lo (.slice a n c) ws) : ∃ K, Fit w (boolsT ws) K (.slice a n c) ∧ K.ok ∧ ∀ b, K.bl b → lo ≤ b ∧ (Value.slice a n c).ownBlock = some b := by
  have hsl := h.sl
  obtain ⟨h0, h⟩ := h
  rcases h with ⟨hv, hn⟩ | ⟨g, cap, cur, hv, hg, hh, h1, h2, h3, h4⟩
  · simp only [Value.slice.injEq] at hv
    obtain ⟨rfl, rfl, rfl⟩ := hv
    exact ⟨.leaf, ⟨hsl.1.symm, none, 0, rfl⟩, trivial, fun b hb => hb.elim⟩
  · simp only [Value.slice.injEq] at hv
    obtain ⟨rfl, rfl, rfl⟩ := hv
    refine ⟨.row g 0 1 ws.length (fun _ _ => .leaf), ?_, ⟨fun _ _ _ _ => ⟨trivial, fun x => x⟩, fun _ _ _ _ _ _ _ _ _ _ x => x.elim⟩, fun b hb => ?_⟩
    · unfold boolsT
      have hlt : g < w.heap.size := (Array.getElem?_eq_some_iff.1 hh).1
      refine ⟨rfl, rfl, c, rfl, h1, by omega, hlt, frozen0 hh, fun k j hk hj => ?_⟩
      rcases hsl.2 with e | ⟨b, off, e, _, hc⟩
      · rw [e] at hk; simp at hk
      · simp only [Option.some.injEq, Addr.mk.injEq, and_true] at e
        obtain ⟨rfl, rfl⟩ := e
        refine ⟨_, ?_, rfl, rfl⟩
        have := hc k hk
        rw [show 0 + k * 1 + j = 0 + k by omega]
        exact this
    · rcases hb with rfl | ⟨_, _, _, _, hb⟩
      · exact ⟨hg, rfl⟩
      · exact hb.elim
def LsI (w : World) (g : Nat) (t : TypeId) (s n : Nat) (f : Nat → List Tr) (k : Nat) : Prop :=
  ∃ (F : Nat → List Value) (β : Nat → Nat), RowS w g t s n F ∧ g < β 0 ∧ (∀ j, β j ≤ β (j + 1)) ∧ β k ≤ w.heap.size ∧ ∀ j, j < k → (F j).length = s ∧ Own1 w (β j) (β (j + 1)) (f j) (F j)
theorem LsI.start {w : World} {g : Nat} {t : TypeId} {s n : Nat} {f : Nat → List Tr} {F : Nat → List Value} (h : RowS w g t s n F) : LsI w g t s n f 0 :=
  ⟨F, fun _ => w.heap.size, h, h.lt, fun _ => Nat.le_refl _, Nat.le_refl _, fun j hj => absurd hj (Nat.not_lt_zero _)⟩
theorem LsI.row {w : World} {g : Nat} {t : TypeId} {s n k : Nat} {f : Nat → List Tr} (h : LsI w g t s n f k) : ∃ F, RowS w g t s n F := by
  obtain ⟨F, _, h, _⟩ := h
  exact ⟨F, h⟩
theorem bt_le {β : Nat → Nat} (h : ∀ j, β j ≤ β (j + 1)) : ∀ {i j : Nat}, i ≤ j → β i ≤ β j := by
  intro i j hij
  induction hij with
  | refl => exact Nat.le_refl _
  | step _ ih => exact Nat.le_trans ih (h _)
theorem LsI.cg {w w' : World} {S : Nat → Prop} {g : Nat} {t : TypeId} {s n k : Nat} {f : Nat → List Tr} (h : LsI w g t s n f k) (hc : Cg w w' S) (hS : ∀ b, S b → b < g) : LsI w' g t s n f k := by
  obtain ⟨F, β, h1, h2, h3, h4, h5⟩ := h
  have hlt := h1.lt
  have hsame : ∀ b, g ≤ b → b < w.heap.size → w'.heap[b]? = w.heap[b]? := fun b hb hb' => hc.block b hb' (fun q => by have := hS b q; omega)
  refine ⟨F, β, ?_, h2, h3, Nat.le_trans h4 hc.size, fun j hj => ⟨(h5 j hj).1, (h5 j hj).2.same hc.size (fun b q1 q2 => ?_)⟩⟩
  · obtain ⟨cs, e1, e2, e3⟩ := h1
    exact ⟨cs, (hsame g (Nat.le_refl _) hlt).trans e1, e2, e3⟩
  · have b0 := bt_le h3 (Nat.zero_le j)
    have b1 := bt_le h3 (show j + 1 ≤ k by omega)
    exact hsame b (by omega) (by omega)
theorem LsI.step {w w1 : World} {S : Nat → Prop} {g : Nat} {t : TypeId} {s n k : Nat} {f : Nat → List Tr} {vs : List Value} (h : LsI w g t s n f k) (hk : k < n) (hc : Cg w w1 S) (hS : ∀ b, S b → b < g) (ho : Own1 w1 w.heap.size w1.heap.size (f k) vs) (hv : vs.length = s) : LsI (setL w1 g (k * s) vs) g t s n f (k + 1) := by
  have hz := h
  obtain ⟨F0, β0, _, _, _, hz4, _⟩ := hz
  obtain ⟨F, β, h1, h2, h3, h4, h5⟩ := h.cg hc hS
  have hg : w1.grownBy (setL w1 g (k * s) vs) (some g) := setL_gw _ _ _
  have hgs := hg.size
  have hw := hc.size
  obtain ⟨F', β', g1, g2, g3, g4, g5⟩ := h
  have hlt := g1.lt
  have hsame : ∀ b, g ≤ b → b < w.heap.size → w1.heap[b]? = w.heap[b]? := fun b hb hb' => hc.block b hb' (fun q => by have := hS b q; omega)
  have r1 : RowS w1 g t s n F' := by
    obtain ⟨cs, e1, e2, e3⟩ := g1
    exact ⟨cs, (hsame g (Nat.le_refl _) hlt).trans e1, e2, e3⟩
  refine ⟨fun i => if i = k then vs else F' i, fun j => if j ≤ k then β' j else w1.heap.size, r1.set hk vs hv, by simpa using g2, fun j => ?_, ?_, fun j hj => ?_⟩
  · show (if j ≤ k then β' j else w1.heap.size) ≤ (if j + 1 ≤ k then β' (j + 1) else w1.heap.size)
    by_cases e : j + 1 ≤ k
    · rw [if_pos (by omega), if_pos e]; exact g3 j
    · rw [if_neg e]
      by_cases e' : j ≤ k
      · rw [if_pos e']
        have := bt_le g3 e'
        omega
      · rw [if_neg e']; exact Nat.le_refl _
  · show (if k + 1 ≤ k then β' (k + 1) else w1.heap.size) ≤ _
    rw [if_neg (by omega)]; exact hgs
  · have hkeep : ∀ {lo hi : Nat} {ts : List Tr} {us : List Value}, Own1 w1 lo hi ts us → g < lo → hi ≤ w1.heap.size → Own1 (setL w1 g (k * s) vs) lo hi ts us := fun h9 q1 q2 => h9.same hgs (fun b b1 b2 => hg.block b (by omega) (fun e => by have := Option.some.inj e; omega))
    by_cases e : j = k
    · subst e
      simp only [if_true]
      refine ⟨hv, ?_⟩
      show Own1 _ (if j ≤ j then β' j else w1.heap.size) (if j + 1 ≤ j then β' (j + 1) else w1.heap.size) _ _
      rw [if_pos (Nat.le_refl _), if_neg (by omega)]
      exact (hkeep ho (by omega) (Nat.le_refl _)).mono g4 (Nat.le_refl _)
    · simp only [if_neg e]
      show _ ∧ Own1 _ (if j ≤ k then β' j else w1.heap.size) (if j + 1 ≤ k then β' (j + 1) else w1.heap.size) _ _
      rw [if_pos (show j ≤ k by omega), if_pos (show j + 1 ≤ k by omega)]
      have h9 := g5 j (by omega)
      have b0 := bt_le g3 (Nat.zero_le j)
      have b1 := bt_le g3 (show j + 1 ≤ k by omega)
      exact ⟨h9.1, hkeep (h9.2.same hw (fun b q1 q2 => hsame b (by omega) (by omega))) (by omega) (by omega)⟩
theorem LsI.done {w : World} {lo g : Nat} {t : TypeId} {s n : Nat} {f : Nat → List Tr} (h : LsI w g t s n f n) (hlo : lo ≤ g) (hn : n ≤ maxLen) (hf : ∀ k, k < n → (f k).length = s) : OwnS w lo (.list s n (fun i => trs (f i))) (.slice (some ⟨g, 0, none⟩) n n) := by
  obtain ⟨F, β, h1, h2, h3, h4, h5⟩ := h
  have hex : ∀ k, ∃ K : Nat → Sk, k < n → ((∀ i v, (F k)[i]? = some v → Fit w (trs (f k) i) (K i) v) ∧ (∀ i, i < s → (K i).ok ∧ ∀ b, (K i).bl b → β k ≤ b ∧ b < β (k + 1)) ∧ ∀ i i', i < s → i' < s → i ≠ i' → ∀ b, (K i).bl b → ¬ (K i').bl b) := by
    intro k
    by_cases hk : k < n
    · obtain ⟨hl, K, q1, q2, q3, q4⟩ := h5 k hk
      exact ⟨K, fun _ => ⟨q2, fun i hi => q3 i (by rw [hf k hk]; exact hi), fun i i' hi hi' => q4 i i' (by rw [hf k hk]; exact hi) (by rw [hf k hk]; exact hi')⟩⟩
    · exact ⟨fun _ => .leaf, fun h => absurd h hk⟩
  obtain ⟨K, hK⟩ := Classical.axiomOfChoice hex
  refine ⟨.row g 0 s n K, ⟨rfl, rfl, n, rfl, Nat.le_refl _, hn, h1.lt, h1.fro, fun k j hk hj => ?_⟩, ⟨fun k j hk hj => ?_, fun k j k' j' hk hj hk' hj' hne b hb hb' => ?_⟩, fun b hb => ?_⟩
  · have hl := (h5 k hk).1
    obtain ⟨v, hv⟩ : ∃ v, (F k)[j]? = some v := ⟨(F k)[j]'(by omega), by simp⟩
    refine ⟨v, ?_, (hK k hk).1 j v hv⟩
    rw [Nat.zero_add, h1.cell hk hj, hv]
  · have q := (hK k hk).2.1 j hj
    refine ⟨q.1, fun hb => ?_⟩
    have b0 := bt_le h3 (Nat.zero_le k)
    have := q.2 g hb
    omega
  · have q := (hK k hk).2.1 j hj
    have q' := (hK k' hk').2.1 j' hj'
    by_cases e : k = k'
    · subst e
      exact (hK k hk).2.2 j j' hj hj' (by omega) b hb hb'
    · have r := q.2 b hb
      have r' := q'.2 b hb'
      rcases Nat.lt_or_ge k k' with x | x
      · have := bt_le h3 (show k + 1 ≤ k' by omega); omega
      · have := bt_le h3 (show k' + 1 ≤ k by omega); omega
  · rcases hb with rfl | ⟨k, j, hk, hj, hb⟩
    · exact hlo
    · have q := ((hK k hk).2.1 j hj).2 b hb
      have b0 := bt_le h3 (Nat.zero_le k)
      omega
end Go.Proofs.Ytfdddkjonjpgpaa
namespace Go.Proofs.Ytfdddkjonjpgpaa
open Go.RowKit Go.Joins
set_option linter.unusedVariables false
set_option linter.unusedSimpArgs false
theorem Own1.two {w : World} {lo hi : Nat} {ts : List Tr} {vs : List Value} (p q : Nat) (K1 K2 : Sk) (hpq : p ≠ q) (hl : vs.length = ts.length) (hleaf : ∀ i v, i ≠ p → i ≠ q → vs[i]? = some v → trs ts i = .leaf v) (h1 : ∀ v, vs[p]? = some v → Fit w (trs ts p) K1 v) (h2 : ∀ v, vs[q]? = some v → Fit w (trs ts q) K2 v) (o1 : K1.ok ∧ ∀ b, K1.bl b → lo ≤ b ∧ b < hi) (o2 : K2.ok ∧ ∀ b, K2.bl b → lo ≤ b ∧ b < hi) (hd : ∀ b, K1.bl b → ¬ K2.bl b) : Own1 w lo hi ts vs := by
  refine ⟨fun i => if i = p then K1 else if i = q then K2 else .leaf, hl, fun i v hv => ?_, fun i hi => ?_, fun i i' hi hi' hne b hb => ?_⟩
  · by_cases e : i = p
    · subst e; simp only [if_true]; exact h1 v hv
    · by_cases e' : i = q
      · subst e'; simp only [if_neg e, if_true]; exact h2 v hv
      · simp only [if_neg e, if_neg e']
        rw [hleaf i v e e' hv]
        exact ⟨rfl, rfl⟩
  · by_cases e : i = p
    · subst e; simp only [if_true]; exact o1
    · by_cases e' : i = q
      · subst e'; simp only [if_neg e, if_true]; exact o2
      · simp only [if_neg e, if_neg e']
        exact ⟨trivial, fun b hb => hb.elim⟩
  · by_cases e : i = p
    · subst e
      simp only [if_true] at hb
      by_cases e2 : i' = q
      · subst e2
        simp only [if_neg (fun x : i' = i => hne x.symm), if_true]
        exact hd b hb
      · simp only [if_neg (fun x : i' = i => hne x.symm), if_neg e2]
        exact fun x => x
    · by_cases e' : i = q
      · subst e'
        simp only [if_neg e, if_true] at hb
        by_cases e2 : i' = p
        · subst e2
          simp only [if_true]
          exact fun x => hd b x hb
        · simp only [if_neg e2, if_neg (fun x : i' = i => hne x.symm)]
          exact fun x => x
      · simp only [if_neg e, if_neg e'] at hb
        exact hb.elim
theorem dis_IB {w : World} {lo lo' : Nat} {v1 v2 : Value} {ws : List Int} {bs : List Bool} (h1 : OwnI w lo v1 ws) (h2 : OwnB w lo' v2 bs) {b : Nat} (e1 : v1.ownBlock = some b) (e2 : v2.ownBlock = some b) : False := by
  obtain ⟨_, h1⟩ := h1
  obtain ⟨_, h2⟩ := h2
  rcases h1 with ⟨rfl, _⟩ | ⟨g, _, _, rfl, _, hg, _⟩
  · simp [Value.ownBlock] at e1
  · rcases h2 with ⟨rfl, _⟩ | ⟨g', _, _, rfl, _, hg', _⟩
    · simp [Value.ownBlock] at e2
    · simp only [Value.ownBlock, Option.some.injEq] at e1 e2
      subst e1 e2
      rw [hg] at hg'
      simp at hg'
theorem VQ.own {w : World} {lo : Nat} {X : VQ} {a1 : Option Addr} {l1 c1 : Nat} {a2 : Option Addr} {l2 c2 : Nat} (h1 : OwnI w lo (.slice a1 l1 c1) X.ws) (h2 : OwnB w lo (.slice a2 l2 c2) X.bs) : Own1 w lo w.heap.size (qT X) (qL X a1 l1 c1 a2 l2 c2) := by
  obtain ⟨K1, f1, o1, b1⟩ := h1.fit
  obtain ⟨K2, f2, o2, b2⟩ := h2.fit
  refine Own1.two 3 4 K1 K2 (by decide) rfl (fun i v hp hq hv => ?_) (fun v hv => ?_) (fun v hv => ?_) ⟨o1, fun b hb => ⟨(b1 b hb).1, f1.lt hb⟩⟩ ⟨o2, fun b hb => ⟨(b2 b hb).1, f2.lt hb⟩⟩ (fun b hb hb' => dis_IB h1 h2 (b1 b hb).2 (b2 b hb').2)
  · match i, hv with
    | 0, hv => obtain rfl := Option.some.inj (show some _ = some v from hv); rfl
    | 1, hv => obtain rfl := Option.some.inj (show some _ = some v from hv); rfl
    | 2, hv => obtain rfl := Option.some.inj (show some _ = some v from hv); rfl
    | 3, hv => exact absurd rfl hp
    | 4, hv => exact absurd rfl hq
    | 5, hv => obtain rfl := Option.some.inj (show some _ = some v from hv); rfl
    | i + 6, hv => simp at hv
  · obtain rfl := Option.some.inj (show some _ = some v from hv)
    exact f1
  · obtain rfl := Option.some.inj (show some _ = some v from hv)
    exact f2
theorem toReq_m (X : VQ) (a1 : Option Addr) (l1 c1 : Nat) (a2 : Option Addr) (l2 c2 : Nat) (w : World) (r1 : Rd w 0 (intsT X.ws) (.slice a1 l1 c1)) (r2 : Rd w 0 (boolsT X.bs) (.slice a2 l2 c2)) (hz : szT 6 (trs (qT X)) ≤ 1048576) :
    Calls Try.prog 45 #[.agg (qL X a1 l1 c1 a2 l2 c2).toArray] w fun e w' => ∃ b1 d1 b2 d2, e = .returned (.agg (qL X b1 l1 d1 b2 l2 d2).toArray) ∧ Own1 w' w.heap.size w'.heap.size (qT X) (qL X b1 l1 d1 b2 l2 d2) ∧ Below w.heap.size w w' := by
  rw [szT_q] at hz
  obtain ⟨a9, c9, h9, -, hm1, hs1⟩ := r1.ints
  simp only [Value.slice.injEq] at h9
  obtain ⟨rfl, rfl, rfl⟩ := h9
  obtain ⟨a9, c9, h9, -, hm2, hs2⟩ := r2.bools
  simp only [Value.slice.injEq] at h9
  obtain ⟨rfl, rfl, rfl⟩ := h9
  refine (toReq_any X.kd X.pl X.n X.wa _ _ _ _ _ _ X.ws X.bs w rfl rfl hs1 hs2 (by omega) (by omega)).mono ?_
  rintro e w' ⟨g1, g2, rfl, h1, h2, h3⟩
  exact ⟨_, _, _, _, rfl, VQ.own h1 h2, h3⟩
theorem VA.own {w : World} {lo : Nat} {X : VA} {a1 : Option Addr} {l1 c1 : Nat} {a2 : Option Addr} {l2 c2 : Nat} (h1 : OwnI w lo (.slice a1 l1 c1) X.ws) (h2 : OwnB w lo (.slice a2 l2 c2) X.bs) : Own1 w lo w.heap.size (aT X) (aL X a1 l1 c1 a2 l2 c2) := by
  obtain ⟨K1, f1, o1, b1⟩ := h1.fit
  obtain ⟨K2, f2, o2, b2⟩ := h2.fit
  refine Own1.two 4 5 K1 K2 (by decide) rfl (fun i v hp hq hv => ?_) (fun v hv => ?_) (fun v hv => ?_) ⟨o1, fun b hb => ⟨(b1 b hb).1, f1.lt hb⟩⟩ ⟨o2, fun b hb => ⟨(b2 b hb).1, f2.lt hb⟩⟩ (fun b hb hb' => dis_IB h1 h2 (b1 b hb).2 (b2 b hb').2)
  · match i, hv with
    | 0, hv => obtain rfl := Option.some.inj (show some _ = some v from hv); rfl
    | 1, hv => obtain rfl := Option.some.inj (show some _ = some v from hv); rfl
    | 2, hv => obtain rfl := Option.some.inj (show some _ = some v from hv); rfl
    | 3, hv => obtain rfl := Option.some.inj (show some _ = some v from hv); rfl
    | 4, hv => exact absurd rfl hp
    | 5, hv => exact absurd rfl hq
    | i + 6, hv => simp at hv
  · obtain rfl := Option.some.inj (show some _ = some v from hv)
    exact f1
  · obtain rfl := Option.some.inj (show some _ = some v from hv)
    exact f2
set_option maxRecDepth 20000 in
set_option maxHeartbeats 4000000 in
theorem toReqS_m (n : Nat) (f : Nat → VQ) (a : Option Addr) (n' cap : Nat) (w : World) (hs : Rd w 0 (.list 6 n (fun k => trs (qT (f k)))) (.slice a n' cap)) (hz : (Tr.list 6 n (fun k => trs (qT (f k)))).sz ≤ 1048576) :
    Calls Try.prog 16 #[.slice a n' cap] w fun e w' => ∃ b d, e = .returned (.slice b n' d) ∧ OwnS w' w.heap.size (.list 6 n (fun k => trs (qT (f k)))) (.slice b n' d) ∧ Below w.heap.size w w' := by
  obtain ⟨a9, c9, h9, -, hn⟩ := hs.shape
  simp only [Value.slice.injEq] at h9
  obtain ⟨-, rfl, -⟩ := h9
  clear a9 c9
  have hn1 : n' ≤ 1048576 := by rw [Tr.sz_list] at hz; omega
  have HZ : Hid (∀ k, k < n' → szT 6 (trs (qT (f k))) ≤ 1048576) := by
    show ∀ k, k < n' → szT 6 (trs (qT (f k))) ≤ 1048576
    intro k hk
    rw [Tr.sz_list] at hz
    have := sumN_at (fun k => szT 6 (trs (qT (f k)))) hk
    omega
  have hmk := run_make_st (P := Try.prog) 28 57 (.agg #[.int .i64 0, .int .i64 0, .int .i64 0, .slice none 0 0, .slice none 0 0, .int .i64 0]) 6 80 Try.underlying28 (by kernel_rfl) .i64 .i64 n' (by omega) (by omega)
  have HS : Hid (Rd w 0 (.list 6 n' (fun k => trs (qT (f k)))) (.slice a n' cap) ∧ n' ≤ maxLen) := ⟨hs, hn⟩
  clear hs hz hn
  go_enter Try.func16, Try.ntmps16
  go_wp2
  clear hmk
  go_loopw [4] (fun i wr => ∃ (k : Nat), k ≤ n' ∧ i = .int .i64 k ∧ LsI wr w.heap.size 57 6 n' (fun i => qT (f i)) k ∧ Below w.heap.size w wr) (fun i _ => n' - (intOf i).toNat)
  case atStart => exact ⟨0, Nat.zero_le _, rfl, LsI.start (RowS.made w (#[.int .i64 0, .int .i64 0, .int .i64 0, .slice none 0 0, .slice none 0 0, .int .i64 0]).toList n' _ (by simp)), (Below.refl _ _).alloc (Nat.le_refl _) _⟩
  case round =>
    obtain ⟨k, hk, rfl, hrow, hb⟩ := hrel
    by_cases hlt : k < n'
    · have hi : (k : Int) < (n' : Int) := by omega
      obtain ⟨b, off, vs, rfl, _, hb0, hlen, hr, hrd⟩ := (HS.out.1.below hb).at hlt
      obtain ⟨a1, c1, a2, c2, rfl, r1, r2⟩ := VQ.cells hrd hlen
      clear hlen hrd
      have d09 : wr.cell? ⟨b, off + k * 6, none⟩ = _ := hr 0 _ rfl
      have d19 : wr.cell? ⟨b, off + k * 6 + 1, none⟩ = _ := hr 1 _ rfl
      have d29 : wr.cell? ⟨b, off + k * 6 + 2, none⟩ = _ := hr 2 _ rfl
      have d39 : wr.cell? ⟨b, off + k * 6 + 3, none⟩ = _ := hr 3 _ rfl
      have d49 : wr.cell? ⟨b, off + k * 6 + 4, none⟩ = _ := hr 4 _ rfl
      have d59 : wr.cell? ⟨b, off + k * 6 + 5, none⟩ = _ := hr 5 _ rfl
      have HK : Hid (LsI wr w.heap.size 57 6 n' (fun i => qT (f i)) k ∧ True ∧ Below w.heap.size w wr ∧ Rd wr 0 (intsT (f k).ws) (.slice a1 ((f k).ws.length) c1) ∧ Rd wr 0 (boolsT (f k).bs) (.slice a2 ((f k).bs.length) c2)) := ⟨hrow, trivial, hb, r1, r2⟩
      clear hrow hb hr hb0 r1 r2
      go_wp2_with fail
      refine (toReq_m (f k) a1 ((f k).ws.length) c1 a2 ((f k).bs.length) c2 _ HK.out.2.2.2.1 HK.out.2.2.2.2 (HZ.out k hlt)).mono ?_
      rintro e w1 ⟨b1, d1, b2, d2, rfl, q1, hb1⟩
      obtain ⟨F1, R1⟩ := (HK.out.1.cg (Cg.ofBelow (S := fun _ => False) hb1) (fun b h => h.elim)).row
      obtain ⟨rx0, ry0⟩ : ∃ v, w1.cell? ⟨w.heap.size, k * 6, none⟩ = some v := R1.ex hlt (j := 0) (by decide)
      obtain ⟨rx1, ry1⟩ : ∃ v, w1.cell? ⟨w.heap.size, k * 6 + 1, none⟩ = some v := R1.ex hlt (j := 1) (by decide)
      obtain ⟨rx2, ry2⟩ : ∃ v, w1.cell? ⟨w.heap.size, k * 6 + 2, none⟩ = some v := R1.ex hlt (j := 2) (by decide)
      obtain ⟨rx3, ry3⟩ : ∃ v, w1.cell? ⟨w.heap.size, k * 6 + 3, none⟩ = some v := R1.ex hlt (j := 3) (by decide)
      obtain ⟨rx4, ry4⟩ : ∃ v, w1.cell? ⟨w.heap.size, k * 6 + 4, none⟩ = some v := R1.ex hlt (j := 4) (by decide)
      obtain ⟨rx5, ry5⟩ : ∃ v, w1.cell? ⟨w.heap.size, k * 6 + 5, none⟩ = some v := R1.ex hlt (j := 5) (by decide)
      obtain ⟨W2, hW2⟩ : ∃ W2, W2 = setL w1 w.heap.size (k * 6) (qL (f k) b1 ((f k).ws.length) d1 b2 ((f k).bs.length) d2) := ⟨_, rfl⟩
      have H2 : Hid (LsI W2 w.heap.size 57 6 n' (fun i => qT (f i)) (k + 1) ∧ Below w.heap.size w W2) := ⟨by rw [hW2]; exact HK.out.1.step (S := fun _ => False) hlt (Cg.ofBelow hb1) (fun b h => h.elim) q1 rfl, by rw [hW2]; exact setL_below (Nat.le_refl _) _ _ _ (bel_nx HK.out.2.2.1 hb1)⟩
      have hW2' : W2 = ((((((w1.setCell ⟨w.heap.size, k * 6, none⟩ (.int .i64 (f k).kd)).setCell ⟨w.heap.size, k * 6 + 1, none⟩ (.int .i64 (f k).pl)).setCell ⟨w.heap.size, k * 6 + 2, none⟩ (.int .i64 (f k).n)).setCell ⟨w.heap.size, k * 6 + 3, none⟩ (.slice b1 ((f k).ws.length) d1)).setCell ⟨w.heap.size, k * 6 + 4, none⟩ (.slice b2 ((f k).bs.length) d2)).setCell ⟨w.heap.size, k * 6 + 5, none⟩ (.int .i64 (f k).wa)) := by rw [hW2]; simp only [setL, Nat.reduceAdd, Nat.zero_add, Nat.add_zero, Nat.add_assoc]
      have HE : Hid (∀ j, w1.frozen? ⟨w.heap.size, j, none⟩ = false) := R1.fro
      have qf0 := HE.out (k * 6)
      have qf1 := HE.out (k * 6 + 1)
      have qf2 := HE.out (k * 6 + 2)
      have qf3 := HE.out (k * 6 + 3)
      have qf4 := HE.out (k * 6 + 4)
      have qf5 := HE.out (k * 6 + 5)
      clear R1 hb1 HK d09 d19 d29 d39 d49 d59 hW2 HE q1
      go_wp2
      rw [← hW2']
      clear hW2'
      go_roundw
      case rel =>
        exact ⟨k + 1, by omega, by go_num, H2.out.1, H2.out.2⟩
      case measure => simp [intOf]; omega
    · have hi : ¬ (k : Int) < (n' : Int) := by omega
      have e9 : k = n' := by omega
      subst e9
      have HR : Hid (LsI wr w.heap.size 57 6 k (fun i => qT (f i)) k ∧ Below w.heap.size w wr) := ⟨hrow, hb⟩
      clear hrow hb
      go_wp2
      go_ret
      exact ⟨_, _, rfl, HR.out.1.done (Nat.le_refl _) HS.out.2 (fun _ _ => rfl), HR.out.2⟩
end Go.Proofs.Ytfdddkjonjpgpaa
namespace Go.Proofs.Ytfdddkjonjpgpaa
open Go.RowKit Go.Joins
set_option linter.unusedVariables false
set_option linter.unusedSimpArgs false
def svQ (cs is : List Bool) (hs rs : List Int) (Q : VQ) : SvR := svV cs.length is.length hs.length rs.length cs is hs rs Q.kd Q.pl Q.n Q.wa Q.ws.length Q.bs.length Q.ws Q.bs
def apS (is : List Bool) (rs : List Int) (cs : List Bool) (hs : List Int) (f : Nat → VQ) : Nat → List Bool × List Int
  | 0 => (cs, hs)
  | k + 1 => ((svQ (apS is rs cs hs f k).1 is (apS is rs cs hs f k).2 rs (f k)).cs, (svQ (apS is rs cs hs f k).1 is (apS is rs cs hs f k).2 rs (f k)).hs)
def apV (is : List Bool) (rs : List Int) (cs : List Bool) (hs : List Int) (f : Nat → VQ) (k : Nat) : SvR := svQ (apS is rs cs hs f k).1 is (apS is rs cs hs f k).2 rs (f k)
def vaV (V : SvR) : VA := ⟨V.kd, V.fl, V.pl, V.nn, V.ws, V.bs⟩
def apA (is : List Bool) (rs : List Int) (cs : List Bool) (hs : List Int) (f : Nat → VQ) (k : Nat) : VA := vaV (apV is rs cs hs f k)
theorem apS_len (is : List Bool) (rs : List Int) (cs : List Bool) (hs : List Int) (f : Nat → VQ) : ∀ k, (apS is rs cs hs f k).1.length = cs.length ∧ (apS is rs cs hs f k).2.length = hs.length
  | 0 => ⟨rfl, rfl⟩
  | k + 1 => by
    have ih := apS_len is rs cs hs f k
    have h := svV_len (V := svQ (apS is rs cs hs f k).1 is (apS is rs cs hs f k).2 rs (f k)) ⟨rfl, rfl, rfl, rfl⟩ rfl rfl rfl
    exact ⟨h.1.trans ih.1, h.2.1.trans ih.2⟩
theorem apA_len (is : List Bool) (rs : List Int) (cs : List Bool) (hs : List Int) (f : Nat → VQ) (k : Nat) : (apA is rs cs hs f k).ws.length ≤ (f k).ws.length + hs.length + rs.length ∧ (apA is rs cs hs f k).bs.length ≤ (f k).bs.length + 2007 := by
  have ih := apS_len is rs cs hs f k
  have h := svV_len (V := svQ (apS is rs cs hs f k).1 is (apS is rs cs hs f k).2 rs (f k)) ⟨rfl, rfl, rfl, rfl⟩ rfl rfl rfl
  exact ⟨by have := h.2.2.1; rw [ih.2] at this; exact this, h.2.2.2⟩
theorem Cg.ofChg {w w' : World} {S : Nat → Prop} (h : Chg w w' S) : Cg w w' S := ⟨h.1, h.2.1, h.2.2.1, h.2.2.2.1, h.2.2.2.2⟩
theorem Rd.int4 {w : World} {lo n c : Nat} {a : Option Addr} {ws : List Int} (h : Rd w lo (intsT ws) (.slice a n c)) : SlI w a ws := by
  obtain ⟨a', c', h1, h2, h3, h4⟩ := h.ints
  simp only [Value.slice.injEq] at h1
  obtain ⟨rfl, -, -⟩ := h1
  exact h4
theorem Rd.bool4 {w : World} {lo n c : Nat} {a : Option Addr} {ws : List Bool} (h : Rd w lo (boolsT ws) (.slice a n c)) : SlB w a ws := by
  obtain ⟨a', c', h1, h2, h3, h4⟩ := h.bools
  simp only [Value.slice.injEq] at h1
  obtain ⟨rfl, -, -⟩ := h1
  exact h4
theorem svV_at {l1 l2 l3 l4 : Nat} (is : List Bool) (rs : List Int) (cs : List Bool) (hs : List Int) (f : Nat → VQ) (k : Nat) (hn : LnD l1 l2 l3 l4 cs is hs rs) : svV l1 l2 l3 l4 (apS is rs cs hs f k).1 is (apS is rs cs hs f k).2 rs (f k).kd (f k).pl (f k).n (f k).wa (f k).ws.length (f k).bs.length (f k).ws (f k).bs = apV is rs cs hs f k := by
  obtain ⟨rfl, rfl, rfl, rfl⟩ := hn
  have ih := apS_len is rs cs hs f k
  unfold apV svQ
  rw [ih.1, ih.2]
end Go.Proofs.Ytfdddkjonjpgpaa
namespace Go.Proofs.Ytfdddkjonjpgpaa
open Go.RowKit Go.Joins
set_option linter.unusedVariables false
set_option linter.unusedSimpArgs false
set_option maxRecDepth 20000 in
set_option maxHeartbeats 8000000 in
theorem implApply_any (a1 a2 a3 a4 : Option Addr) (l1 l2 l3 l4 c1 c2 c3 c4 : Nat) (cs is : List Bool) (hs rs : List Int) (n : Nat) (f : Nat → VQ) (b : Option Addr) (c : Nat) (w : World) (hn : LnD l1 l2 l3 l4 cs is hs rs) (hs0 : SlD w a1 a2 a3 a4 cs is hs rs) (hl : SmD 2000000 cs is hs rs) (hr : Rd w 0 (.list 6 n (fun i => trs (qT (f i)))) (.slice b n c)) (hn1 : n ≤ 1048576) (hb : ∀ i, i < n → (f i).ws.length ≤ 2000000 ∧ (f i).bs.length ≤ 2000000) :
    Calls Try.prog 8 #[dv a1 a2 a3 a4 l1 l2 l3 l4 c1 c2 c3 c4, .slice b n c] w fun e w' => ∃ g1 g2 g3 g4 gt, e = .returned (.tuple #[dv (some ⟨g1, 0, none⟩) (some ⟨g2, 0, none⟩) (some ⟨g3, 0, none⟩) (some ⟨g4, 0, none⟩) l1 l2 l3 l4 l1 l2 l3 l4, .slice (some ⟨gt, 0, none⟩) n n]) ∧ OwnD w' w.heap.size (some ⟨g1, 0, none⟩) (some ⟨g2, 0, none⟩) (some ⟨g3, 0, none⟩) (some ⟨g4, 0, none⟩) l1 l2 l3 l4 l1 l2 l3 l4 (apS is rs cs hs f n).1 is (apS is rs cs hs f n).2 rs ∧ OwnS w' gt (.list 6 n (fun i => trs (aT (apA is rs cs hs f i)))) (.slice (some ⟨gt, 0, none⟩) n n) ∧ (∀ g, (Of4 (.slice (some ⟨g1, 0, none⟩) l1 l1) (.slice (some ⟨g2, 0, none⟩) l2 l2) (.slice (some ⟨g3, 0, none⟩) l3 l3) (.slice (some ⟨g4, 0, none⟩) l4 l4)) g → g < gt) ∧ (w.heap.size ≤ gt ∧ gt < w'.heap.size) ∧ Below w.heap.size w w' := by
  obtain ⟨W, hW⟩ : ∃ W, W = (w.alloc (.cells #[.slice a1 l1 c1, .slice a2 l2 c2, .slice a3 l3 c3, .slice a4 l4 c4] 27)).alloc (.cells #[.slice none 0 0, .slice none 0 0, .slice none 0 0, .slice none 0 0] 27) := ⟨_, rfl⟩
  have bW : Below w.heap.size w W := by rw [hW]; exact bel_nx (bel_alloc _ _) (bel_alloc _ _)
  have zW : W.heap.size = w.heap.size + 1 + 1 := by rw [hW]; simp
  have A0 : Blk W w.heap.size 27 #[.slice a1 l1 c1, .slice a2 l2 c2, .slice a3 l3 c3, .slice a4 l4 c4] := by rw [hW]; exact (Blk.new w _ _).below (bel_alloc _ _)
  have R0 : Blk W (w.heap.size + 1) 27 #[.slice none 0 0, .slice none 0 0, .slice none 0 0, .slice none 0 0] := by rw [hW]; have := Blk.new (w.alloc (.cells #[.slice a1 l1 c1, .slice a2 l2 c2, .slice a3 l3 c3, .slice a4 l4 c4] 27)) #[.slice none 0 0, .slice none 0 0, .slice none 0 0, .slice none 0 0] 27; simpa using this
  have HH : Hid (LnD l1 l2 l3 l4 cs is hs rs ∧ SlD w a1 a2 a3 a4 cs is hs rs ∧ SmD 2000000 cs is hs rs ∧ Rd w 0 (.list 6 n (fun i => trs (qT (f i)))) (.slice b n c) ∧ ∀ i, i < n → (f i).ws.length ≤ 2000000 ∧ (f i).bs.length ≤ 2000000) := ⟨hn, hs0, hl, hr, hb⟩
  have H0 : Hid (Below w.heap.size w W ∧ Blk W (w.heap.size + 1) 27 #[.slice none 0 0, .slice none 0 0, .slice none 0 0, .slice none 0 0] ∧ W.heap.size = w.heap.size + 1 + 1) := ⟨bW, R0, zW⟩
  obtain ⟨y0, y1, y2, y3⟩ := A0.four
  have hmk := run_make_st (P := Try.prog) 32 37 (.agg #[.int .i64 0, .int .i64 0, .int .i64 0, .int .i64 0, .slice none 0 0, .slice none 0 0]) 6 80 Try.underlying32 (by kernel_rfl) .i64 .i64 n (by omega) (by omega)
  clear hn hs0 hl hr hb bW R0 A0 zW
  go_enter Try.func8, Try.ntmps8
  go_upto_region 1 with fail
  rw [← hW]
  clear hW
  go_wp2_with fail
  refine (copyDevice_any a1 a2 a3 a4 l1 l2 l3 l4 c1 c2 c3 c4 cs is hs rs _ HH.out.1 (HH.out.2.1.below H0.out.1) HH.out.2.2.1).mono ?_
  rintro e w1 ⟨g1, g2, g3, g4, rfl, O1, b1⟩
  obtain ⟨gD, hgD⟩ : ∃ gD, gD = w1.heap.size := ⟨_, rfl⟩
  obtain ⟨W2, hW2⟩ : ∃ W2, W2 = w1.alloc (.cells #[.slice (some ⟨g1, 0, none⟩) l1 l1, .slice (some ⟨g2, 0, none⟩) l2 l2, .slice (some ⟨g3, 0, none⟩) l3 l3, .slice (some ⟨g4, 0, none⟩) l4 l4] 27) := ⟨_, rfl⟩
  have bW2 : Below w1.heap.size w1 W2 := by rw [hW2]; exact bel_alloc _ _
  have zW2 : W2.heap.size = gD + 1 := by rw [hW2, hgD]; simp
  have H2 : Hid (Below w.heap.size w W2 ∧ Blk W2 (w.heap.size + 1) 27 #[.slice none 0 0, .slice none 0 0, .slice none 0 0, .slice none 0 0] ∧ Blk W2 gD 27 #[.slice (some ⟨g1, 0, none⟩) l1 l1, .slice (some ⟨g2, 0, none⟩) l2 l2, .slice (some ⟨g3, 0, none⟩) l3 l3, .slice (some ⟨g4, 0, none⟩) l4 l4] ∧ OwnD W2 w.heap.size (some ⟨g1, 0, none⟩) (some ⟨g2, 0, none⟩) (some ⟨g3, 0, none⟩) (some ⟨g4, 0, none⟩) l1 l2 l3 l4 l1 l2 l3 l4 (apS is rs cs hs f 0).1 is (apS is rs cs hs f 0).2 rs ∧ (∀ g, (Of4 (.slice (some ⟨g1, 0, none⟩) l1 l1) (.slice (some ⟨g2, 0, none⟩) l2 l2) (.slice (some ⟨g3, 0, none⟩) l3 l3) (.slice (some ⟨g4, 0, none⟩) l4 l4)) g → g < gD) ∧ w.heap.size + 1 < gD ∧ W2.heap.size = gD + 1) := by
    have z1 := H0.out.2.2
    have s1 := b1.size
    exact ⟨bel_nx (bel_nx H0.out.1 b1) bW2, (H0.out.2.1.below b1).below bW2, by rw [hW2, hgD]; exact Blk.new _ _ _, (O1.mono (by omega)).below bW2, fun g hg => by have := (O1.of4 g hg).2; omega, by omega, zW2⟩
  clear O1 b1 bW2 zW2 H0 y0 y1 y2 y3
  go_upto_region 2 with fail
  rw [← hW2, ← hgD]
  clear hW2 hgD
  obtain ⟨gt, hgt⟩ : ∃ gt, gt = W2.heap.size := ⟨_, rfl⟩
  go_upto_region 3 with fail
  obtain ⟨W3, hW3⟩ : ∃ W3, W3 = W2.alloc (.cells (madeCells #[.int .i64 0, .int .i64 0, .int .i64 0, .int .i64 0, .slice none 0 0, .slice none 0 0] (n * 6)) 37) := ⟨_, rfl⟩
  have H3 : Hid (Below w.heap.size w W3 ∧ Blk W3 (w.heap.size + 1) 27 #[.slice none 0 0, .slice none 0 0, .slice none 0 0, .slice none 0 0] ∧ Blk W3 gD 27 #[.slice (some ⟨g1, 0, none⟩) l1 l1, .slice (some ⟨g2, 0, none⟩) l2 l2, .slice (some ⟨g3, 0, none⟩) l3 l3, .slice (some ⟨g4, 0, none⟩) l4 l4] ∧ OwnD W3 w.heap.size (some ⟨g1, 0, none⟩) (some ⟨g2, 0, none⟩) (some ⟨g3, 0, none⟩) (some ⟨g4, 0, none⟩) l1 l2 l3 l4 l1 l2 l3 l4 (apS is rs cs hs f 0).1 is (apS is rs cs hs f 0).2 rs ∧ (∀ g, (Of4 (.slice (some ⟨g1, 0, none⟩) l1 l1) (.slice (some ⟨g2, 0, none⟩) l2 l2) (.slice (some ⟨g3, 0, none⟩) l3 l3) (.slice (some ⟨g4, 0, none⟩) l4 l4)) g → g < gD) ∧ w.heap.size + 1 < gD ∧ gD < gt ∧ LsI W3 gt 37 6 n (fun i => aT (apA is rs cs hs f i)) 0) := by
    have h2 := H2.out
    have b3 : Below W2.heap.size W2 W3 := by rw [hW3]; exact bel_alloc _ _
    refine ⟨bel_nx h2.1 b3, h2.2.1.below b3, h2.2.2.1.below b3, h2.2.2.2.1.below b3, h2.2.2.2.2.1, h2.2.2.2.2.2.1, by omega, ?_⟩
    have := RowS.made W2 [.int .i64 0, .int .i64 0, .int .i64 0, .int .i64 0, .slice none 0 0, .slice none 0 0] n 37 (by simp)
    rw [hW3, hgt]
    exact LsI.start this
  rw [← hW3, ← hgt]
  clear hW3 hgt H2 hmk
  go_wp2
  go_loopw [17] (fun i wr => ∃ k : Nat, k ≤ n ∧ i = .int .i64 k ∧ Below w.heap.size w wr ∧ Blk wr (w.heap.size + 1) 27 #[.slice none 0 0, .slice none 0 0, .slice none 0 0, .slice none 0 0] ∧ Blk wr gD 27 #[.slice (some ⟨g1, 0, none⟩) l1 l1, .slice (some ⟨g2, 0, none⟩) l2 l2, .slice (some ⟨g3, 0, none⟩) l3 l3, .slice (some ⟨g4, 0, none⟩) l4 l4] ∧ OwnD wr w.heap.size (some ⟨g1, 0, none⟩) (some ⟨g2, 0, none⟩) (some ⟨g3, 0, none⟩) (some ⟨g4, 0, none⟩) l1 l2 l3 l4 l1 l2 l3 l4 (apS is rs cs hs f k).1 is (apS is rs cs hs f k).2 rs ∧ LsI wr gt 37 6 n (fun i => aT (apA is rs cs hs f i)) k) (fun i _ => n - (intOf i).toNat)
  case atStart => exact ⟨0, Nat.zero_le _, rfl, H3.out.1, H3.out.2.1, H3.out.2.2.1, H3.out.2.2.2.1, H3.out.2.2.2.2.2.2.2⟩
  case round =>
    obtain ⟨k, hk, rfl, hbl, hR, hD, hO, hL⟩ := hrel
    by_cases hlt : k < n
    · have hi : (k : Int) < (n : Int) := by omega
      obtain ⟨bb, off, vs, rfl, _, hb0, hlen, hr0, hrd⟩ := HH.out.2.2.2.1.at hlt
      obtain ⟨b1, d1, b2, d2, rfl, q1, q2⟩ := VQ.cells hrd hlen
      clear hlen hrd
      have hr := rangeAt_below hr0 hb0 hbl
      have e0 : wr.cell? ⟨bb, off + k * 6, none⟩ = _ := hr 0 _ rfl
      have e1 : wr.cell? ⟨bb, off + k * 6 + 1, none⟩ = _ := hr 1 _ rfl
      have e2 : wr.cell? ⟨bb, off + k * 6 + 2, none⟩ = _ := hr 2 _ rfl
      have e3 : wr.cell? ⟨bb, off + k * 6 + 3, none⟩ = _ := hr 3 _ rfl
      have e4 : wr.cell? ⟨bb, off + k * 6 + 4, none⟩ = _ := hr 4 _ rfl
      have e5 : wr.cell? ⟨bb, off + k * 6 + 5, none⟩ = _ := hr 5 _ rfl
      obtain ⟨gq, hgq⟩ : ∃ gq, gq = wr.heap.size := ⟨_, rfl⟩
      obtain ⟨W5, hW5⟩ : ∃ W5, W5 = wr.alloc (.cells #[.int .i64 (f k).kd, .int .i64 (f k).pl, .int .i64 (f k).n, .slice b1 (f k).ws.length d1, .slice b2 (f k).bs.length d2, .int .i64 (f k).wa] 57) := ⟨_, rfl⟩
      have H5 : Hid (Below wr.heap.size wr W5 ∧ Below w.heap.size w W5 ∧ Blk W5 (w.heap.size + 1) 27 #[.slice none 0 0, .slice none 0 0, .slice none 0 0, .slice none 0 0] ∧ Blk W5 gD 27 #[.slice (some ⟨g1, 0, none⟩) l1 l1, .slice (some ⟨g2, 0, none⟩) l2 l2, .slice (some ⟨g3, 0, none⟩) l3 l3, .slice (some ⟨g4, 0, none⟩) l4 l4] ∧ OwnD W5 w.heap.size (some ⟨g1, 0, none⟩) (some ⟨g2, 0, none⟩) (some ⟨g3, 0, none⟩) (some ⟨g4, 0, none⟩) l1 l2 l3 l4 l1 l2 l3 l4 (apS is rs cs hs f k).1 is (apS is rs cs hs f k).2 rs ∧ Blk W5 gq 57 (qL (f k) b1 (f k).ws.length d1 b2 (f k).bs.length d2).toArray ∧ LsI wr gt 37 6 n (fun i => aT (apA is rs cs hs f i)) k ∧ Rd w 0 (intsT (f k).ws) (.slice b1 (f k).ws.length d1) ∧ Rd w 0 (boolsT (f k).bs) (.slice b2 (f k).bs.length d2)) := by
        have b5 : Below wr.heap.size wr W5 := by rw [hW5]; exact bel_alloc _ _
        exact ⟨b5, bel_nx hbl b5, hR.below b5, hD.below b5, hO.below b5, by rw [hW5, hgq]; exact Blk.new _ _ _, hL, q1, q2⟩
      clear hbl hR hD hO hL hr0 hr q1 q2
      go_upto_region 6 with fail
      rw [← hW5, ← hgq]
      clear hW5 hgq e0 e1 e2 e3 e4 e5
      obtain ⟨y0, y1, y2, y3⟩ := H5.out.2.2.2.1.four
      obtain ⟨z0, z1, z2, z3, z4, z5⟩ := H5.out.2.2.2.2.2.1.six
      go_wp2_with fail
      refine (serve_q (some ⟨g1, 0, none⟩) (some ⟨g2, 0, none⟩) (some ⟨g3, 0, none⟩) (some ⟨g4, 0, none⟩) l1 l2 l3 l4 l1 l2 l3 l4 (apS is rs cs hs f k).1 is (apS is rs cs hs f k).2 rs (f k).kd (f k).pl (f k).n (f k).wa b1 b2 (f k).ws.length (f k).bs.length d1 d2 (f k).ws (f k).bs w _ H5.out.2.1 H5.out.2.2.2.2.1 rfl rfl H5.out.2.2.2.2.2.2.2.1.int4 H5.out.2.2.2.2.2.2.2.2.bool4 (HH.out.2.2.2.2 k hlt).1 (HH.out.2.2.2.2 k hlt).2 (by have h9 := HH.out.2.2.1; have h8 := apS_len is rs cs hs f k; exact ⟨by rw [h8.1]; exact h9.1, h9.2.1, by rw [h8.2]; exact h9.2.2.1, h9.2.2.2⟩) (apV is rs cs hs f k) (svV_at is rs cs hs f k HH.out.1)).mono ?_
      rintro e w6 ⟨r1, r2, m1, m2, k1, k2, rfl, oI, oB, oD, bel, chg⟩
      obtain ⟨F6, R6⟩ := (H5.out.2.2.2.2.2.2.1.cg ((Cg.ofBelow (S := (Of4 (.slice (some ⟨g1, 0, none⟩) l1 l1) (.slice (some ⟨g2, 0, none⟩) l2 l2) (.slice (some ⟨g3, 0, none⟩) l3 l3) (.slice (some ⟨g4, 0, none⟩) l4 l4))) H5.out.1).trans (Cg.ofChg chg)) (fun g hg => by have := H3.out.2.2.2.2.1 g hg; have := H3.out.2.2.2.2.2.2.1; omega)).row
      obtain ⟨rx0, ry0⟩ : ∃ v, w6.cell? ⟨gt, k * 6, none⟩ = some v := R6.ex hlt (j := 0) (by decide)
      obtain ⟨rx1, ry1⟩ : ∃ v, w6.cell? ⟨gt, k * 6 + 1, none⟩ = some v := R6.ex hlt (j := 1) (by decide)
      obtain ⟨rx2, ry2⟩ : ∃ v, w6.cell? ⟨gt, k * 6 + 2, none⟩ = some v := R6.ex hlt (j := 2) (by decide)
      obtain ⟨rx3, ry3⟩ : ∃ v, w6.cell? ⟨gt, k * 6 + 3, none⟩ = some v := R6.ex hlt (j := 3) (by decide)
      obtain ⟨rx4, ry4⟩ : ∃ v, w6.cell? ⟨gt, k * 6 + 4, none⟩ = some v := R6.ex hlt (j := 4) (by decide)
      obtain ⟨rx5, ry5⟩ : ∃ v, w6.cell? ⟨gt, k * 6 + 5, none⟩ = some v := R6.ex hlt (j := 5) (by decide)
      obtain ⟨W7, hW7⟩ : ∃ W7, W7 = setL w6 gt (k * 6) [.int .i64 (apV is rs cs hs f k).kd, .int .i64 (apV is rs cs hs f k).fl, .int .i64 (apV is rs cs hs f k).pl, .int .i64 (apV is rs cs hs f k).nn, .slice r1 m1 k1, .slice r2 m2 k2] := ⟨_, rfl⟩
      have H7 : Hid (Below w.heap.size w W7 ∧ Blk W7 (w.heap.size + 1) 27 #[.slice none 0 0, .slice none 0 0, .slice none 0 0, .slice none 0 0] ∧ Blk W7 gD 27 #[.slice (some ⟨g1, 0, none⟩) l1 l1, .slice (some ⟨g2, 0, none⟩) l2 l2, .slice (some ⟨g3, 0, none⟩) l3 l3, .slice (some ⟨g4, 0, none⟩) l4 l4] ∧ OwnD W7 w.heap.size (some ⟨g1, 0, none⟩) (some ⟨g2, 0, none⟩) (some ⟨g3, 0, none⟩) (some ⟨g4, 0, none⟩) l1 l2 l3 l4 l1 l2 l3 l4 (apS is rs cs hs f (k + 1)).1 is (apS is rs cs hs f (k + 1)).2 rs ∧ LsI W7 gt 37 6 n (fun i => aT (apA is rs cs hs f i)) (k + 1)) := by
        have h3 := H3.out
        have h5 := H5.out
        have hc := (Cg.ofBelow (S := (Of4 (.slice (some ⟨g1, 0, none⟩) l1 l1) (.slice (some ⟨g2, 0, none⟩) l2 l2) (.slice (some ⟨g3, 0, none⟩) l3 l3) (.slice (some ⟨g4, 0, none⟩) l4 l4))) h5.1).trans (Cg.ofChg chg)
        have hlo : ∀ g, (Of4 (.slice (some ⟨g1, 0, none⟩) l1 l1) (.slice (some ⟨g2, 0, none⟩) l2 l2) (.slice (some ⟨g3, 0, none⟩) l3 l3) (.slice (some ⟨g4, 0, none⟩) l4 l4)) g → g < gt := fun g hg => by have := h3.2.2.2.2.1 g hg; omega
        have gw : w6.grownBy W7 (some gt) := by rw [hW7]; exact setL_gw _ _ _
        have c7 : Chg w6 W7 (fun g => g = gt) := Chg.ofGrown gw (fun g e => (Option.some.inj e).symm)
        have nR : ¬ (Of4 (.slice (some ⟨g1, 0, none⟩) l1 l1) (.slice (some ⟨g2, 0, none⟩) l2 l2) (.slice (some ⟨g3, 0, none⟩) l3 l3) (.slice (some ⟨g4, 0, none⟩) l4 l4)) (w.heap.size + 1) := h5.2.2.2.2.1.noBlk h5.2.2.1 (by decide) (by decide)
        have nD : ¬ (Of4 (.slice (some ⟨g1, 0, none⟩) l1 l1) (.slice (some ⟨g2, 0, none⟩) l2 l2) (.slice (some ⟨g3, 0, none⟩) l3 l3) (.slice (some ⟨g4, 0, none⟩) l4 l4)) gD := h5.2.2.2.2.1.noBlk h5.2.2.2.1 (by decide) (by decide)
        refine ⟨by rw [hW7]; exact setL_below (by omega) _ _ _ bel, (h5.2.2.1.chg chg nR).chg c7 (by omega), (h5.2.2.2.1.chg chg nD).chg c7 (by omega), oD.chg c7 (fun g hg => by have := hlo g hg; omega), ?_⟩
        rw [hW7]
        refine h5.2.2.2.2.2.2.1.step hlt hc hlo ?_ rfl
        exact (VA.own (X := apA is rs cs hs f k) oI oB).mono h5.1.size (Nat.le_refl _)
      have hW7' : W7 = ((((((w6.setCell ⟨gt, k * 6, none⟩ (.int .i64 (apV is rs cs hs f k).kd)).setCell ⟨gt, k * 6 + 1, none⟩ (.int .i64 (apV is rs cs hs f k).fl)).setCell ⟨gt, k * 6 + 2, none⟩ (.int .i64 (apV is rs cs hs f k).pl)).setCell ⟨gt, k * 6 + 3, none⟩ (.int .i64 (apV is rs cs hs f k).nn)).setCell ⟨gt, k * 6 + 4, none⟩ (.slice r1 m1 k1)).setCell ⟨gt, k * 6 + 5, none⟩ (.slice r2 m2 k2)) := by rw [hW7]; simp only [setL, Nat.reduceAdd, Nat.zero_add, Nat.add_zero, Nat.add_assoc]
      have HE : Hid (∀ j, w6.frozen? ⟨gt, j, none⟩ = false) := R6.fro
      have qf0 := HE.out (k * 6)
      have qf1 := HE.out (k * 6 + 1)
      have qf2 := HE.out (k * 6 + 2)
      have qf3 := HE.out (k * 6 + 3)
      have qf4 := HE.out (k * 6 + 4)
      have qf5 := HE.out (k * 6 + 5)
      clear oI oB oD bel chg R6 H5 hW7 HE y0 y1 y2 y3 z0 z1 z2 z3 z4 z5
      go_wp2
      rw [← hW7']
      clear hW7'
      go_roundw
      case rel => exact ⟨k + 1, by omega, by go_num, H7.out.1, H7.out.2.1, H7.out.2.2.1, H7.out.2.2.2.1, H7.out.2.2.2.2⟩
      case measure => simp [intOf]; omega
    · have hi : ¬ (k : Int) < (n : Int) := by omega
      have e9 : k = n := by omega
      subst e9
      obtain ⟨y0, y1, y2, y3⟩ := hD.four
      obtain ⟨z0, z1, z2, z3⟩ := hR.four
      have f0 := hR.fro 0
      have f1 := hR.fro 1
      have f2 := hR.fro 2
      have f3 := hR.fro 3
      obtain ⟨W8, hW8⟩ : ∃ W8, W8 = (((wr.setCell ⟨w.heap.size + 1, 0, none⟩ (.slice (some ⟨g1, 0, none⟩) l1 l1)).setCell ⟨w.heap.size + 1, 1, none⟩ (.slice (some ⟨g2, 0, none⟩) l2 l2)).setCell ⟨w.heap.size + 1, 2, none⟩ (.slice (some ⟨g3, 0, none⟩) l3 l3)).setCell ⟨w.heap.size + 1, 3, none⟩ (.slice (some ⟨g4, 0, none⟩) l4 l4) := ⟨_, rfl⟩
      have H8 : Hid (Below w.heap.size w W8 ∧ Blk W8 (w.heap.size + 1) 27 #[.slice (some ⟨g1, 0, none⟩) l1 l1, .slice (some ⟨g2, 0, none⟩) l2 l2, .slice (some ⟨g3, 0, none⟩) l3 l3, .slice (some ⟨g4, 0, none⟩) l4 l4] ∧ OwnD W8 w.heap.size (some ⟨g1, 0, none⟩) (some ⟨g2, 0, none⟩) (some ⟨g3, 0, none⟩) (some ⟨g4, 0, none⟩) l1 l2 l3 l4 l1 l2 l3 l4 (apS is rs cs hs f k).1 is (apS is rs cs hs f k).2 rs ∧ OwnS W8 gt (.list 6 k (fun i => trs (aT (apA is rs cs hs f i)))) (.slice (some ⟨gt, 0, none⟩) k k) ∧ (∀ g, (Of4 (.slice (some ⟨g1, 0, none⟩) l1 l1) (.slice (some ⟨g2, 0, none⟩) l2 l2) (.slice (some ⟨g3, 0, none⟩) l3 l3) (.slice (some ⟨g4, 0, none⟩) l4 l4)) g → g < gt) ∧ w.heap.size ≤ gt ∧ gt < W8.heap.size) := by
        have h3 := H3.out
        have cg : Cg wr W8 (fun g => g = w.heap.size + 1) := by
          rw [hW8]
          exact ((((Cg.refl wr (fun g => g = w.heap.size + 1)).set (p := ⟨w.heap.size + 1, 0, none⟩) rfl _).set (p := ⟨w.heap.size + 1, 1, none⟩) rfl _).set (p := ⟨w.heap.size + 1, 2, none⟩) rfl _).set (p := ⟨w.heap.size + 1, 3, none⟩) rfl _
        have nR : ¬ (Of4 (.slice (some ⟨g1, 0, none⟩) l1 l1) (.slice (some ⟨g2, 0, none⟩) l2 l2) (.slice (some ⟨g3, 0, none⟩) l3 l3) (.slice (some ⟨g4, 0, none⟩) l4 l4)) (w.heap.size + 1) := hO.noBlk hR (by decide) (by decide)
        refine ⟨cg.below hbl (fun g e => by have e' : g = w.heap.size + 1 := e; omega) hbl.size, ?_, hO.chg ⟨cg.os, cg.tape, cg.output, cg.size, cg.block⟩ (fun g hg e => nR (by have e' : g = w.heap.size + 1 := e; rw [← e']; exact hg)), ?_, fun g hg => by have := h3.2.2.2.2.1 g hg; omega, by omega, by obtain ⟨F9, R9⟩ := hL.row; exact Nat.lt_of_lt_of_le R9.lt cg.size⟩
        · rw [hW8]
          exact (((hR.set 0 (.slice (some ⟨g1, 0, none⟩) l1 l1)).set 1 (.slice (some ⟨g2, 0, none⟩) l2 l2)).set 2 (.slice (some ⟨g3, 0, none⟩) l3 l3)).set 3 (.slice (some ⟨g4, 0, none⟩) l4 l4)
        · exact (hL.cg cg (fun g e => by have e' : g = w.heap.size + 1 := e; omega)).done (Nat.le_refl _) (by unfold maxLen; omega) (fun _ _ => rfl)
      clear hbl hR hD hO hL
      go_wp2
      rw [← hW8]
      clear hW8
      obtain ⟨x0, x1, x2, x3⟩ := H8.out.2.1.four
      refine bodyPost_ret (v := .tuple #[dv (some ⟨g1, 0, none⟩) (some ⟨g2, 0, none⟩) (some ⟨g3, 0, none⟩) (some ⟨g4, 0, none⟩) l1 l2 l3 l4 l1 l2 l3 l4, .slice (some ⟨gt, 0, none⟩) k k]) (by simp [results, Try.results8, go_sem, x0, x1, x2, x3]) rfl ?_
      exact ⟨g1, g2, g3, g4, gt, rfl, H8.out.2.2.1, H8.out.2.2.2.1, H8.out.2.2.2.2.1, H8.out.2.2.2.2.2, H8.out.1⟩
end Go.Proofs.Ytfdddkjonjpgpaa
namespace Go.Proofs.Ytfdddkjonjpgpaa
open Go.RowKit Go.Joins
set_option linter.unusedVariables false
set_option linter.unusedSimpArgs false
theorem rfl_pushV (F : Nat → List Value) (vs : List Value) (n : Nat) : (List.range (n + 1)).flatMap (fun k => if k = n then vs else F k) = (List.range n).flatMap F ++ vs := by
  rw [List.range_succ, List.flatMap_append]
  congr 1
  · have : ∀ l : List Nat, (∀ x ∈ l, x < n) → l.flatMap (fun k => if k = n then vs else F k) = l.flatMap F := by
      intro l
      induction l with
      | nil => intro _; rfl
      | cons x r ih =>
        intro h
        rw [List.flatMap_cons, List.flatMap_cons, ih (fun y hy => h y (by simp [hy]))]
        have := h x (by simp)
        rw [if_neg (by omega)]
    exact this _ (fun x hx => List.mem_range.1 hx)
  · simp
theorem rfl_lenV (F : Nat → List Value) (s : Nat) : ∀ n, (∀ k, k < n → (F k).length = s) → ((List.range n).flatMap F).length = n * s
  | 0, _ => by simp
  | n + 1, h => by
    rw [List.range_succ, List.flatMap_append, List.length_append, rfl_lenV F s n (fun k hk => h k (by omega))]
    simp [h n (by omega), Nat.add_mul]
theorem rfl_atV (F : Nat → List Value) (s : Nat) : ∀ n, (∀ k, k < n → (F k).length = s) → ∀ k j, k < n → j < s → ((List.range n).flatMap F)[k * s + j]? = (F k)[j]?
  | 0, _, k, j, hk, _ => by omega
  | n + 1, h, k, j, hk, hj => by
    have hl := rfl_lenV F s n (fun k hk => h k (by omega))
    rw [List.range_succ, List.flatMap_append]
    by_cases e : k = n
    · subst e
      rw [List.getElem?_append_right (by omega), hl, Nat.add_sub_cancel_left]
      simp
    · have hk' : k < n := by omega
      have : (k + 1) * s ≤ n * s := Nat.mul_le_mul_right s hk'
      rw [Nat.add_mul, Nat.one_mul] at this
      rw [List.getElem?_append_left (by omega)]
      exact rfl_atV F s n (fun k hk => h k (by omega)) k j hk' hj
theorem row_belV {w w' : World} {base s n : Nat} {e : TypeId} {v : Value} {xs : List Value} (h : w.ownsRow base e s v n xs) (hb : Below w.heap.size w w') : w'.ownsRow base e s v n xs := by
  refine World.ownsRow.kept h (grown_below hb (some w.heap.size)) ?_
  cases e : v.ownBlock with
  | none => exact .inl rfl
  | some k => exact .inr (fun e2 => by have := (World.ownsRow.lt h k e).2; simp at e2; omega)
def AvAt (w : World) (base : Nat) (vs : List Value) (X : VA) : Prop :=
  ∃ a1 c1 a2 c2, vs = aL X a1 X.ws.length c1 a2 X.bs.length c2 ∧ OwnI w base (.slice a1 X.ws.length c1) X.ws ∧ OwnB w base (.slice a2 X.bs.length c2) X.bs
theorem AvAt.len {w : World} {base : Nat} {vs : List Value} {X : VA} (h : AvAt w base vs X) : vs.length = 6 := by
  obtain ⟨a1, c1, a2, c2, rfl, _⟩ := h
  rfl
theorem AvAt.keptR {w w' : World} {base s n b : Nat} {v : Value} {xs vs : List Value} {X : VA} (h : AvAt w base vs X) (ho : w.ownsRow b 37 s v n xs) (hg : w.grownBy w' v.ownBlock) : AvAt w' base vs X := by
  obtain ⟨a1, c1, a2, c2, h1, h2, h3⟩ := h
  exact ⟨a1, c1, a2, c2, h1, World.ownsRow.kept h2 hg (ne_typesE h2 ho (by decide)), World.ownsRow.kept h3 hg (ne_typesE h3 ho (by decide))⟩
def LsV (w : World) (base : Nat) (v : Value) (n : Nat) (f : Nat → VA) : Prop :=
  ∃ F, w.ownsRow base 37 6 v n ((List.range n).flatMap F) ∧ ∀ k, k < n → AvAt w base (F k) (f k)
theorem LsV.below {w w' : World} {base n : Nat} {v : Value} {f : Nat → VA} (h : LsV w base v n f) (hb : Below w.heap.size w w') : LsV w' base v n f := by
  obtain ⟨F, h1, h2⟩ := h
  refine ⟨F, row_belV h1 hb, fun k hk => ?_⟩
  obtain ⟨a1, c1, a2, c2, e, o1, o2⟩ := h2 k hk
  exact ⟨a1, c1, a2, c2, e, o1.below hb, o2.below hb⟩
theorem LsV.rd {w : World} {base n m c : Nat} {a : Option Addr} {f : Nat → VA} (h : LsV w base (.slice a m c) n f) (hn : n ≤ 2000000) (hl : ∀ k, k < n → (f k).ws.length ≤ 3000000 ∧ (f k).bs.length ≤ 3000000) : m = n ∧ Rd w 0 (.list 6 n (fun i => trs (aT (f i)))) (.slice a m c) := by
  obtain ⟨F, h1, h2⟩ := h
  rcases h1.2 with ⟨hv, h0⟩ | ⟨g, cap, cur, hv, hb, hh, hle, hm, hs, ht⟩
  · simp only [Value.slice.injEq] at hv
    obtain ⟨rfl, rfl, rfl⟩ := hv
    subst h0
    exact ⟨rfl, none, 0, rfl, Nat.le_refl _, Nat.zero_le _, .inl rfl⟩
  · simp only [Value.slice.injEq] at hv
    obtain ⟨rfl, rfl, rfl⟩ := hv
    have hlt : g < w.heap.size := (Array.getElem?_eq_some_iff.1 hh).1
    refine ⟨rfl, _, c, rfl, hle, by unfold maxLen; omega, .inr ⟨g, 0, F, rfl, Nat.zero_le _, hlt, fun k hk => ⟨(h2 k hk).len, fun j v hj => ?_⟩⟩⟩
    have hj6 : j < 6 := by have := (List.getElem?_eq_some_iff.1 hj).1; rw [(h2 k hk).len] at this; exact this
    have hkl : k * 6 + j < m * 6 := by omega
    have hc : w.cell? ⟨g, 0 + k * 6 + j, none⟩ = some v := by
      rw [Nat.zero_add, ← hj, ← rfl_atV F 6 m (fun k hk => (h2 k hk).len) k j hk hj6, ← ht, List.getElem?_take, if_pos hkl, Array.getElem?_toList]
      simp [World.cell?, hh]
    refine ⟨hc, ?_⟩
    obtain ⟨a1, c1, a2, c2, e, o1, o2⟩ := h2 k hk
    rw [e] at hj
    have hl' := hl k hk
    have cap1 : (f k).ws.length ≤ c1 := by
      rcases o1.2 with ⟨e, h0⟩ | ⟨_, _, _, e, _, _, hle, _⟩
      · simp only [Value.slice.injEq] at e; omega
      · simp only [Value.slice.injEq] at e; omega
    have cap2 : (f k).bs.length ≤ c2 := by
      rcases o2.2 with ⟨e, h0⟩ | ⟨_, _, _, e, _, _, hle, _⟩
      · simp only [Value.slice.injEq] at e; omega
      · simp only [Value.slice.injEq] at e; omega
    exact VA.back ((o1.rd cap1 (by unfold maxLen; omega)).mono (Nat.zero_le _)) ((o2.rd cap2 (by unfold maxLen; omega)).mono (Nat.zero_le _)) j v hj
theorem wpList_appV {w : World} {ops : Array Oper} {rest : List Oper} {o : Oper} {a : Act} {Q : Exit → Act → World → Prop} (hgd : o.guard = none) (s x : Operand)
    (ho : o.op = .call { callee := .builtin .append, args := #[s, x], argTypes := #[32, 32] }) (base : Nat) (v : Value) (n : Nat) (f : Nat → VA) (hs : a.eval s = v) (hown : LsV w base v n f)
    (g c : Nat) (a1 : Option Addr) (c1 : Nat) (a2 : Option Addr) (c2 : Nat) (hx : a.eval x = .slice (some ⟨g, 0, none⟩) 1 c) (hb : Blk w g 37 (aL (f n) a1 (f n).ws.length c1 a2 (f n).bs.length c2).toArray) (o1 : OwnI w base (.slice a1 (f n).ws.length c1) (f n).ws) (o2 : OwnB w base (.slice a2 (f n).bs.length c2) (f n).bs) (hlen : n ≤ 2000000) (hbase : base ≤ w.heap.size)
    (h : ∀ v' w', LsV w' base v' (n + 1) f → w.grownBy w' v.ownBlock → (∀ k, v.ownBlock = some k → base ≤ k) → (∀ k, v.ownBlock = some k → ∃ cs, w.heap[k]? = some (.cells cs 37 (0, 0))) → wpList Try.prog ops Q rest (a.put o.dst v') w') : wpList Try.prog ops Q (o :: rest) a w := by
  obtain ⟨F, r1, r2⟩ := hown
  have hinfo : (Try.prog.info? 37).map (fun i => (i.zero, i.size, i.bytes)) = some (some (.agg #[.int .i64 0, .int .i64 0, .int .i64 0, .int .i64 0, .slice none 0 0, .slice none 0 0]), 6, 80) := by kernel_rfl
  obtain ⟨i0, hi, hzz⟩ := Option.map_eq_some_iff.1 hinfo
  simp only [Prod.mk.injEq] at hzz
  obtain ⟨hz0, hz1, hz2⟩ := hzz
  refine wpList_append_own w hgd s x 32 ho base 37 i0 _ 6 80 Try.underlying32 hi hz0 hz1 hz2 rfl (by decide) v n ((List.range n).flatMap F) hs r1 ⟨g, 0, none⟩ 1 c (aL (f n) a1 (f n).ws.length c1 a2 (f n).bs.length c2) hx rfl (fun j u hu => by
    have e1 : (⟨g, 0, none⟩ : Addr).add j = ⟨g, j, none⟩ := by unfold Addr.add; split <;> simp_all
    rw [e1]
    exact hb.cell j (by simpa using hu)) (fun u hu => by simp at hu; rcases hu with rfl | rfl | rfl | rfl | rfl | rfl <;> rfl) (by unfold maxLen; omega) (by omega) hbase ?_
  intro v' w' h1 h2 _
  refine h v' w' ⟨fun k => if k = n then aL (f n) a1 (f n).ws.length c1 a2 (f n).bs.length c2 else F k, ?_, fun k hk => ?_⟩ h2 (fun k hk => (World.ownsRow.lt r1 k hk).1) (fun k hk => ?_)
  · rw [rfl_pushV]; exact h1
  · by_cases e : k = n
    · subst e
      simp only [if_true]
      exact ⟨a1, c1, a2, c2, rfl, World.ownsRow.kept o1 h2 (ne_typesE o1 r1 (by decide)), World.ownsRow.kept o2 h2 (ne_typesE o2 r1 (by decide))⟩
    · simp only [if_neg e]
      exact (r2 k (by omega)).keptR r1 h2
  · rcases r1.2 with ⟨hv, _⟩ | ⟨g', cap, cur, hv, _, hh, _⟩
    · rw [hv] at hk; simp [Value.ownBlock] at hk
    · rw [hv] at hk
      simp only [Value.ownBlock, Option.some.injEq] at hk
      subst hk
      exact ⟨cur, hh⟩
end Go.Proofs.Ytfdddkjonjpgpaa
