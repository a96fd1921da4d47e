/- Sorting, in numbers alone: rows as functions of their places, orders, exchanges, what a merge of two sorted runs does. -/
import Derived.Test.YtklnfeblkffgiaaDoorRu1
namespace Go.Proofs.YtklnfeblkffgiaaDoor

/-- The order of rules: by unit, space, first place. -/
def ltR (a b : Ru) : Prop := a.u < b.u ∨ (a.u = b.u ∧ (a.s < b.s ∨ (a.s = b.s ∧ a.lo < b.lo)))
instance (a b : Ru) : Decidable (ltR a b) := by unfold ltR; infer_instance

def leR (a b : Ru) : Prop := ¬ ltR b a

theorem leR.trans {a b c : Ru} (h : leR a b) (h' : leR b c) : leR a c := by unfold leR ltR at *; omega

theorem leR.refl (a : Ru) : leR a a := by unfold leR ltR; omega

theorem ltR.le {a b : Ru} (h : ltR a b) : leR a b := by unfold leR; unfold ltR at *; omega

theorem ltR_of_le {a b c : Ru} (h : leR a b) (h' : ltR b c) : ltR a c := by unfold leR at h; unfold ltR at *; omega

theorem ltR_of_lt {a b c : Ru} (h : ltR a b) (h' : leR b c) : ltR a c := by unfold leR at h'; unfold ltR at *; omega

def SortedOn (f : Nat → Ru) (a b : Nat) : Prop := ∀ i j, a ≤ i → i < j → j < b → leR (f i) (f j)

theorem SortedOn.le {f : Nat → Ru} {a b i j : Nat} (h : SortedOn f a b) (h1 : a ≤ i) (h2 : i ≤ j) (h3 : j < b) : leR (f i) (f j) := by
  by_cases e : i = j
  · subst e; exact leR.refl _
  · exact h i j h1 (by omega) h3

/-- g has the elements of f, those outside of a .. b at their places. -/
def PermIn (a b : Nat) (f g : Nat → Ru) : Prop :=
  ∃ σ τ : Nat → Nat, (∀ k, (k < a ∨ b ≤ k) → σ k = k ∧ τ k = k) ∧ (∀ k, a ≤ k → k < b → a ≤ σ k ∧ σ k < b ∧ a ≤ τ k ∧ τ k < b) ∧ (∀ k, τ (σ k) = k ∧ σ (τ k) = k) ∧ ∀ k, g k = f (σ k)

theorem PermIn.refl (a b : Nat) (f : Nat → Ru) : PermIn a b f f := ⟨id, id, fun _ _ => ⟨rfl, rfl⟩, fun _ h1 h2 => ⟨h1, h2, h1, h2⟩, fun _ => ⟨rfl, rfl⟩, fun _ => rfl⟩

theorem PermIn.trans {a b : Nat} {f g h : Nat → Ru} (p : PermIn a b f g) (q : PermIn a b g h) : PermIn a b f h := by
  obtain ⟨σ, τ, h1, h2, h3, h4⟩ := p
  obtain ⟨σ', τ', g1, g2, g3, g4⟩ := q
  refine ⟨fun k => σ (σ' k), fun k => τ' (τ k), fun k hk => ?_, fun k ha hb => ?_, fun k => ⟨?_, ?_⟩, fun k => by rw [g4, h4]⟩
  · have e1 := g1 k hk
    have e2 := h1 k hk
    simp only
    rw [e1.1, e2.2, e2.1, e1.2]
    exact ⟨rfl, rfl⟩
  · have e1 := g2 k ha hb
    have e2 := h2 k ha hb
    have e3 := h2 (σ' k) e1.1 e1.2.1
    have e4 := g2 (τ k) e2.2.2.1 e2.2.2.2
    exact ⟨e3.1, e3.2.1, e4.2.2.1, e4.2.2.2⟩
  · simp only; rw [(h3 _).1, (g3 _).1]
  · simp only; rw [(g3 _).2, (h3 _).2]

theorem PermIn.mono {a b a' b' : Nat} {f g : Nat → Ru} (p : PermIn a b f g) (h1 : a' ≤ a) (h2 : b ≤ b') : PermIn a' b' f g := by
  obtain ⟨σ, τ, p1, p2, p3, p4⟩ := p
  refine ⟨σ, τ, fun k hk => p1 k (by omega), fun k ha hb => ?_, p3, p4⟩
  by_cases e : a ≤ k ∧ k < b
  · have := p2 k e.1 e.2
    omega
  · have := p1 k (by omega)
    omega

theorem PermIn.out {a b : Nat} {f g : Nat → Ru} (p : PermIn a b f g) {k : Nat} (h : k < a ∨ b ≤ k) : g k = f k := by
  obtain ⟨σ, τ, p1, _, _, p4⟩ := p
  rw [p4, (p1 k h).1]

theorem PermIn.from' {a b : Nat} {f g : Nat → Ru} (p : PermIn a b f g) {k : Nat} (h1 : a ≤ k) (h2 : k < b) : ∃ j, a ≤ j ∧ j < b ∧ g k = f j := by
  obtain ⟨σ, τ, _, p2, _, p4⟩ := p
  exact ⟨σ k, (p2 k h1 h2).1, (p2 k h1 h2).2.1, p4 k⟩

def swI (i j k : Nat) : Nat := if k = i then j else if k = j then i else k

theorem swI_inv (i j k : Nat) : swI i j (swI i j k) = k := by unfold swI; split <;> split <;> (try split) <;> omega

theorem PermIn.swap {a b i j : Nat} (f : Nat → Ru) (h1 : a ≤ i) (h2 : i < b) (h3 : a ≤ j) (h4 : j < b) : PermIn a b f (fun k => f (swI i j k)) := by
  refine ⟨swI i j, swI i j, fun k hk => ?_, fun k ha hb => ?_, fun k => ⟨swI_inv i j k, swI_inv i j k⟩, fun k => rfl⟩
  · have : swI i j k = k := by unfold swI; rw [if_neg (by omega), if_neg (by omega)]
    exact ⟨this, this⟩
  · have : a ≤ swI i j k ∧ swI i j k < b := by unfold swI; split <;> (try split) <;> omega
    exact ⟨this.1, this.2, this.1, this.2⟩

/-- The inner loop of insertion: the element at j is the one that is carried down. -/
def InsI (h : Nat → Ru) (a i j : Nat) : Prop :=
  (∀ p q, a ≤ p → p < q → q ≤ i → p ≠ j → q ≠ j → leR (h p) (h q)) ∧ (∀ q, j < q → q ≤ i → leR (h j) (h q))

theorem InsI.start {h : Nat → Ru} {a i : Nat} (hs : SortedOn h a i) : InsI h a i i :=
  ⟨fun p q h1 h2 h3 _ h5 => hs p q h1 h2 (by omega), fun q h1 h2 => by omega⟩

theorem InsI.step {h : Nat → Ru} {a i j : Nat} (H : InsI h a i j) (hj : a < j) (hi : j ≤ i) (hlt : ltR (h j) (h (j - 1))) : InsI (fun k => h (swI j (j - 1) k)) a i (j - 1) := by
  obtain ⟨H1, H2⟩ := H
  have ej : swI j (j - 1) j = j - 1 := by simp [swI]
  have ej' : swI j (j - 1) (j - 1) = j := by unfold swI; rw [if_neg (by omega), if_pos rfl]
  have eo : ∀ k, k ≠ j → k ≠ j - 1 → swI j (j - 1) k = k := fun k h1 h2 => by unfold swI; rw [if_neg h1, if_neg h2]
  refine ⟨fun p q h1 h2 h3 h4 h5 => ?_, fun q h1 h2 => ?_⟩
  · show leR (h (swI j (j - 1) p)) (h (swI j (j - 1) q))
    by_cases ep : p = j
    · subst ep
      rw [ej, eo q (by omega) h5]
      exact H1 (p - 1) q (by omega) (by omega) h3 (by omega) (by omega)
    · rw [eo p ep h4]
      by_cases eq : q = j
      · subst eq
        rw [ej]
        exact H1 p (q - 1) h1 (by omega) (by omega) ep (by omega)
      · rw [eo q eq h5]
        exact H1 p q h1 h2 h3 ep eq
  · show leR (h (swI j (j - 1) (j - 1))) (h (swI j (j - 1) q))
    rw [ej']
    by_cases eq : q = j
    · subst eq
      rw [ej]
      exact hlt.le
    · rw [eo q eq (by omega)]
      exact H2 q (by omega) h2

theorem InsI.fin {h : Nat → Ru} {a i j : Nat} (H : InsI h a i j) (hi : j ≤ i) (hx : j ≤ a ∨ ¬ ltR (h j) (h (j - 1))) : SortedOn h a (i + 1) := by
  obtain ⟨H1, H2⟩ := H
  intro p q h1 h2 h3
  by_cases ep : p = j
  · subst ep; exact H2 q h2 (by omega)
  · by_cases eq : q = j
    · subst eq
      rcases hx with hx | hx
      · omega
      · have e1 : leR (h (q - 1)) (h q) := hx
        by_cases e2 : p = q - 1
        · subst e2; exact e1
        · exact (H1 p (q - 1) h1 (by omega) (by omega) ep (by omega)).trans e1
    · exact H1 p q h1 h2 (by omega) ep eq

end Go.Proofs.YtklnfeblkffgiaaDoor
