/- Rules that have no place in common: neighbours of the sorted ones, in numbers alone. -/
import Derived.Test.YtklnfeblkffgiaaDoorSr9
namespace Go.Proofs.YtklnfeblkffgiaaDoor

def ovl (a b : Ru) : Prop := a.u = b.u ∧ a.s = b.s ∧ a.lo ≤ b.hi ∧ b.lo ≤ a.hi
instance (a b : Ru) : Decidable (ovl a b) := by unfold ovl; infer_instance

def Apart (f : Nat → Ru) (n : Nat) : Prop := ∀ i, i < n → ∀ k, k < i → ¬ ovl (f k) (f i)

def AdjOk (f : Nat → Ru) (n : Nat) : Prop := ∀ i, i + 1 < n → hasR (f i) (f (i + 1)).u (f (i + 1)).s (f (i + 1)).lo = false

theorem ovl_symm {a b : Ru} (h : ovl a b) : ovl b a := by unfold ovl at *; omega

theorem hasR_true {r : Ru} {u s p : Int} : hasR r u s p = true ↔ (r.u = u ∧ r.s = s ∧ r.lo ≤ p ∧ p ≤ r.hi) := by
  simp [hasR, and_assoc]

theorem adj_apart {f : Nat → Ru} {n : Nat} (h : AdjOk f n) (hs : SortedOn f 0 n) : ∀ i j, i < j → j < n → ¬ ovl (f i) (f j) := by
  intro i j hij hj ho
  have h1 := h i (by omega)
  have h2 : leR (f i) (f (i + 1)) := hs i (i + 1) (by omega) (by omega) (by omega)
  have h3 : leR (f (i + 1)) (f j) := hs.le (by omega) (by omega) hj
  have h4 : hasR (f i) (f (i + 1)).u (f (i + 1)).s (f (i + 1)).lo = true := by
    rw [hasR_true]
    unfold ovl at ho
    unfold leR ltR at h2 h3
    omega
  rw [h1] at h4
  cases h4

theorem apart_iff {f f' : Nat → Ru} {n : Nat} (hok : ∀ k, k < n → (f k).lo ≤ (f k).hi) (p : PermIn 0 n f f') (hs : SortedOn f' 0 n) : AdjOk f' n ↔ Apart f n := by
  obtain ⟨σ, τ, p1, p2, p3, p4⟩ := p
  have pf : ∀ k, f k = f' (τ k) := fun k => by rw [p4, (p3 k).2]
  have τlt : ∀ k, k < n → τ k < n := fun k hk => (p2 k (Nat.zero_le _) hk).2.2.2
  have σlt : ∀ k, k < n → σ k < n := fun k hk => (p2 k (Nat.zero_le _) hk).2.1
  constructor
  · intro h i hi k hk ho
    rw [pf k, pf i] at ho
    have hne : τ k ≠ τ i := fun e => by
      have e1 := (p3 k).2
      rw [e, (p3 i).2] at e1
      omega
    rcases Nat.lt_or_gt_of_ne hne with hl | hl
    · exact adj_apart h hs _ _ hl (τlt i hi) ho
    · exact adj_apart h hs _ _ hl (τlt k (by omega)) (ovl_symm ho)
  · intro h i hi
    cases hx : hasR (f' i) (f' (i + 1)).u (f' (i + 1)).s (f' (i + 1)).lo
    · rfl
    · exfalso
      rw [hasR_true, p4 i, p4 (i + 1)] at hx
      have a1 := hok _ (σlt i (by omega))
      have a2 := hok _ (σlt (i + 1) hi)
      have ho : ovl (f (σ i)) (f (σ (i + 1))) := by unfold ovl; omega
      have hne : σ i ≠ σ (i + 1) := fun e => by
        have e1 := (p3 i).1
        rw [e, (p3 (i + 1)).1] at e1
        omega
      rcases Nat.lt_or_gt_of_ne hne with hl | hl
      · exact h _ (σlt _ hi) _ hl ho
      · exact h _ (σlt _ (by omega)) _ hl (ovl_symm ho)

/-- Rules that are right. -/
def OkRs (f : Nat → Ru) (n : Nat) : Prop := n ≤ 24 ∧ (∀ k, k < n → OkRu (f k)) ∧ Apart f n

end Go.Proofs.YtklnfeblkffgiaaDoor
