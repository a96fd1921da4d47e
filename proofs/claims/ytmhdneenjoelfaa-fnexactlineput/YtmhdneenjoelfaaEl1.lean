/- A struct of a list is marked: what else stays. -/
import Derived.Test.YtmhdneenjoelfaaEl0
namespace Go.Proofs.Ytmhdneenjoelfaa
open Go.RowKit Go.Joins

set_option linter.unusedVariables false

set_option linter.unusedSimpArgs false

/-- A row stays where its block does. -/
theorem row_same {w w' : World} {base e s n : Nat} {v : Value} {xs : List Value} (h : w.ownsRow base e s v n xs) (hs : ∀ g, v.ownBlock = some g → w'.heap[g]? = w.heap[g]?) : w'.ownsRow base e s v n xs := by
  obtain ⟨h1, h2⟩ := h
  refine ⟨h1, ?_⟩
  rcases h2 with h2 | ⟨g, cap, cur, hv, hg, hh, r⟩
  · exact .inl h2
  · refine .inr ⟨g, cap, cur, hv, hg, ?_, r⟩
    rw [hs g (by rw [hv]; simp [Value.ownBlock])]
    exact hh

/-- Some cell owns the block k. -/
def Ob (vs : List Value) (k : Nat) : Prop := ∃ v ∈ vs, v.ownBlock = some k

theorem Ob_els {E : El} {a1 a2 : Option Addr} {c1 c2 k : Nat} (hp : ∀ v ∈ E.pre, v.ownBlock = none) (hq : ∀ v ∈ E.post, v.ownBlock = none) : Ob (els E a1 a2 c1 c2) k ↔ (Value.slice a1 E.ws.length c1).ownBlock = some k ∨ (Value.slice a2 E.bs.length c2).ownBlock = some k := by
  constructor
  · rintro ⟨v, hv, hk⟩
    rw [List.mem_append, List.mem_cons, List.mem_cons] at hv
    rcases hv with hv | rfl | rfl | hv
    · rw [hp v hv] at hk; cases hk
    · exact .inl hk
    · exact .inr hk
    · rw [hq v hv] at hk; cases hk
  · rintro (hk | hk)
    · exact ⟨_, by simp, hk⟩
    · exact ⟨_, by simp, hk⟩

/-- Blocks other than g and those of P are as they were. -/
def Out (w w' : World) (g : Nat) (P : Nat → Prop) : Prop := w.heap.size ≤ w'.heap.size ∧ ∀ k, k < w.heap.size → k ≠ g → ¬ P k → w'.heap[k]? = w.heap[k]?

theorem Out.refl (w : World) (g : Nat) (P : Nat → Prop) : Out w w g P := ⟨Nat.le_refl _, fun _ _ _ _ => rfl⟩

theorem Out.trans {w w' w'' : World} {g : Nat} {P P' : Nat → Prop} (h : Out w w' g P) (h' : Out w' w'' g P') (hi : ∀ k, P' k → P k) : Out w w'' g P :=
  ⟨Nat.le_trans h.1 h'.1, fun k hk hne ho => by rw [h'.2 k (Nat.lt_of_lt_of_le hk h.1) hne (fun q => ho (hi k q)), h.2 k hk hne ho]⟩

/-- One struct is marked: its list keeps its form, and nothing else is touched. -/
theorem mark_elB {wr W1 W2 W3 : World} {base g o N z S : Nat} {t : TypeId} {F : Nat → List Value} {β : Nat → Nat} {G : Nat → El} {a1 a2 : Option Addr} {c1 c2 : Nat} {p' q' : List Value} {ws' : List Int} {bs' : List Bool}
    (ht1 : t ≠ 3) (ht2 : t ≠ 4) (hC : RowO wr g t S o N F) (hb : base ≤ g) (hI : InE wr base β F G N) (hz : z < N)
    (hF : F z = els (G z) a1 a2 c1 c2) (o1 : OwnI wr (β z) (.slice a1 (G z).ws.length c1) (G z).ws) (o2 : OwnB wr (β z) (.slice a2 (G z).bs.length c2) (G z).bs) (k1 : ∀ k, (Value.slice a1 (G z).ws.length c1).ownBlock = some k → k < β (z + 1)) (k2 : ∀ k, (Value.slice a2 (G z).bs.length c2).ownBlock = some k → k < β (z + 1))
    (hS : S = (G z).pre.length + 2 + (G z).post.length) (hp : p'.length = (G z).pre.length) (hq : q'.length = (G z).post.length) (hw : ws'.length = (G z).ws.length) (hbl : bs'.length = (G z).bs.length)
    (hW1 : W1 = setL wr g (o + z * S) p')
    (m1 : OwnI W2 (β z) (.slice a1 (G z).ws.length c1) ws') (g1 : W1.grownBy W2 (Value.slice a1 (G z).ws.length c1).ownBlock) (m2 : OwnB W3 (β z) (.slice a2 (G z).bs.length c2) bs') (g2 : W2.grownBy W3 (Value.slice a2 (G z).bs.length c2).ownBlock) :
    (RowO (setL W3 g (o + z * S + (p'.length + 2)) q') g t S o N (fun i => if i = z then els ⟨p', ws', bs', q'⟩ a1 a2 c1 c2 else F i) ∧ InE (setL W3 g (o + z * S + (p'.length + 2)) q') base β (fun i => if i = z then els ⟨p', ws', bs', q'⟩ a1 a2 c1 c2 else F i) (fun k => if k = z then ⟨p', ws', bs', q'⟩ else G k) N) ∧ Below base wr (setL W3 g (o + z * S + (p'.length + 2)) q') ∧ Out wr (setL W3 g (o + z * S + (p'.length + 2)) q') g (fun k => (Value.slice a1 (G z).ws.length c1).ownBlock = some k ∨ (Value.slice a2 (G z).bs.length c2).ownBlock = some k) := by
  obtain ⟨h0, hm, hP⟩ := hI
  have hlt := hC.lt
  obtain ⟨cs, hX⟩ := hC.exB
  have C1 : RowO W1 g t S o N (fun i => if i = z then els ⟨p', (G z).ws, (G z).bs, (G z).post⟩ a1 a2 c1 c2 else F i) := by
    rw [hW1]
    refine hC.upd (i := 0) hz p' _ (by omega) (fun j hj => ?_)
    rw [hF]
    simp only [els]
    rw [els_at p' _ [], els_at (G z).pre _ [], hp]
    by_cases e : j < (G z).pre.length
    · rw [if_pos e, if_pos (by omega)]; simp
    · rw [if_neg (show ¬ (0 ≤ j ∧ j < 0 + (G z).pre.length) by omega), if_neg e, if_neg e]
  have G1 : wr.grownBy W1 (some g) := by rw [hW1]; exact setL_gw _ _ _
  have p1 : OwnI W1 (β z) (.slice a1 (G z).ws.length c1) (G z).ws := o1.kept G1 (.inr (row_noBlk o1 hX ht1))
  have p2 : OwnB W1 (β z) (.slice a2 (G z).bs.length c2) (G z).bs := o2.kept G1 (.inr (row_noBlk o2 hX ht2))
  have C2 := C1.keptV p1 g1 ht1
  have p2' : OwnB W2 (β z) (.slice a2 (G z).bs.length c2) (G z).bs := p2.kept g1 (ne_typesE p2 p1 (by decide))
  have C3 := C2.keptV p2' g2 ht2
  obtain ⟨cs3, hX3⟩ := C3.exB
  have m1' : OwnI W3 (β z) (.slice a1 (G z).ws.length c1) ws' := m1.kept g2 (ne_typesE m1 p2' (by decide))
  have G4 : W3.grownBy (setL W3 g (o + z * S + (p'.length + 2)) q') (some g) := setL_gw _ _ _
  have C4 := C3.upd (i := p'.length + 2) hz q' (els ⟨p', ws', bs', q'⟩ a1 a2 c1 c2) (by omega) (fun j hj => by
    simp only [if_pos, els]
    rw [els_at p' _ [], els_at p' _ [], hw, hbl]
    by_cases e : j < p'.length
    · rw [if_pos e, if_neg (by omega), if_pos e]
    · by_cases e1 : j = p'.length
      · rw [if_neg e, if_pos e1, if_neg (by omega), if_neg e, if_pos e1]
      · by_cases e2 : j = p'.length + 1
        · rw [if_neg e, if_neg e1, if_pos e2, if_neg (by omega), if_neg e, if_neg e1, if_pos e2]
        · rw [if_neg e, if_neg e1, if_neg e2, if_pos (by omega), show j - (p'.length + 2) = j - p'.length - 2 by omega])
  have hx1 : ∀ gx, (Value.slice a1 (G z).ws.length c1).ownBlock = some gx → β z ≤ gx ∧ gx < β (z + 1) := fun gx e => ⟨(World.ownsRow.lt o1 gx e).1, k1 gx e⟩
  have hx2 : ∀ gx, (Value.slice a2 (G z).bs.length c2).ownBlock = some gx → β z ≤ gx ∧ gx < β (z + 1) := fun gx e => ⟨(World.ownsRow.lt o2 gx e).1, k2 gx e⟩
  have hbz : base ≤ β z := Nat.le_trans h0 (bt_mono hm (Nat.zero_le z))
  refine ⟨⟨C4.congr (fun i _ => by by_cases e : i = z <;> simp [e]), h0, hm, fun k hk => ?_⟩, ?_, ?_, ?_⟩
  · by_cases e : k = z
    · subst e
      simp only [if_pos]
      refine ⟨a1, a2, c1, c2, rfl, ?_, ?_, ?_, ?_⟩
      · simp only [hw]
        exact m1'.kept G4 (.inr (row_noBlk m1' hX3 ht1))
      · simp only [hbl]
        exact m2.kept G4 (.inr (row_noBlk m2 hX3 ht2))
      · simp only [hw]; exact k1
      · simp only [hbl]; exact k2
    · simp only [if_neg e]
      have hd : ∀ gx, β z ≤ gx ∧ gx < β (z + 1) → gx < β k ∨ β (k + 1) ≤ gx := by
        intro gx ⟨q1, q2⟩
        rcases Nat.lt_or_ge k z with h9 | h9
        · right; have := bt_mono hm (show k + 1 ≤ z by omega); omega
        · left; have := bt_mono hm (show z + 1 ≤ k by omega); omega
      have A1 := (hP k hk).kept G1 (.inr (.inr ⟨_, ⟨cs, hX⟩, ht1, ht2⟩))
      have A2 := A1.keptV g1 (fun gx e => hd gx (hx1 gx e))
      have A3 := A2.keptV g2 (fun gx e => hd gx (hx2 gx e))
      exact A3.kept G4 (.inr (.inr ⟨_, ⟨cs3, hX3⟩, ht1, ht2⟩))
  · by_cases hs : base ≤ wr.heap.size
    · have B1 : Below base wr W1 := (Below.refl base wr).grown G1 hs (fun k hk => by have := Option.some.inj hk; omega)
      have B2 : Below base wr W2 := B1.grown g1 (Nat.le_trans hs G1.size) (fun k hk => Nat.le_trans hbz (hx1 k hk).1)
      have B3 : Below base wr W3 := B2.grown g2 (Nat.le_trans hs (Nat.le_trans G1.size g1.size)) (fun k hk => Nat.le_trans hbz (hx2 k hk).1)
      exact B3.grown G4 (Nat.le_trans hs (Nat.le_trans G1.size (Nat.le_trans g1.size g2.size))) (fun k hk => by have := Option.some.inj hk; omega)
    · omega
  · exact Nat.le_trans G1.size (Nat.le_trans g1.size (Nat.le_trans g2.size G4.size))
  · intro k hk hne ho
    have s1 := Nat.lt_of_lt_of_le hk G1.size
    have s2 := Nat.lt_of_lt_of_le s1 g1.size
    have s3 := Nat.lt_of_lt_of_le s2 g2.size
    rw [G4.block k s3 (fun e => hne (Option.some.inj e)), g2.block k s2 (fun e => ho (.inr e.symm)), g1.block k s1 (fun e => ho (.inl e.symm)), G1.block k hk (fun e => hne (Option.some.inj e))]

theorem markIntS_a (a : Option Addr) (n cap base s : Nat) (x : Int) (zs : List Int) (w : World) (hx : x = ((s : Nat) : Int)) (h : OwnI w base (.slice a n cap) zs) (hl : n ≤ 3000000) (hs' : s ≤ 9000000) :
    Calls Try.prog 82 #[.slice a n cap, .int .i64 x] w fun e w' => e = .returned (.int .i64 ((s : Int) + (n : Int))) ∧ OwnI w' base (.slice a n cap) (marksI s n) ∧ w.grownBy w' (Value.slice a n cap).ownBlock := by
  subst hx
  exact markIntS_from a n cap base s zs w h hl hs'

theorem heldIntS_a (a : Option Addr) (n cap s : Nat) (x : Int) (w : World) (hx : x = ((s : Nat) : Int)) (hs : SlI w a (marksI s n)) (hl : n ≤ 3000000) (hs' : s ≤ 9000000) :
    Calls Try.prog 84 #[.slice a n cap, .int .i64 x] w fun e w' => e = .returned (.int .i64 ((s : Int) + (n : Int))) ∧ w' = w := by
  subst hx
  exact heldIntS_from a n cap s w hs hl hs'

end Go.Proofs.Ytmhdneenjoelfaa
