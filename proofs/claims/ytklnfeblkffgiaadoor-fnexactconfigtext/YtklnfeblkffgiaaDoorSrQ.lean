/- Merging, in numbers alone. -/
import Derived.Test.YtklnfeblkffgiaaDoorSrP
namespace Go.Proofs.YtklnfeblkffgiaaDoor

set_option linter.unusedVariables false

/-- A row by an index function with an inverse. -/
theorem PermIn.of {a b : Nat} {f : Nat → Ru} (σ τ : Nat → Nat) (h1 : ∀ k, (k < a ∨ b ≤ k) → σ k = k ∧ τ k = k) (h2 : ∀ k, a ≤ k → k < b → a ≤ σ k ∧ σ k < b ∧ a ≤ τ k ∧ τ k < b) (h3 : ∀ k, τ (σ k) = k ∧ σ (τ k) = k) : PermIn a b f (fun k => f (σ k)) :=
  ⟨σ, τ, h1, h2, h3, fun _ => rfl⟩

/-- Exchanging m places from a on with those from b on. -/
def srI (a b m k : Nat) : Nat := if a ≤ k ∧ k < a + m then k - a + b else if b ≤ k ∧ k < b + m then k - b + a else k

theorem srI_zero (a b k : Nat) : srI a b 0 k = k := by unfold srI; rw [if_neg (by omega), if_neg (by omega)]

theorem srI_step {a b i : Nat} (h : a + i < b) (k : Nat) : srI a b i (swI (a + i) (b + i) k) = srI a b (i + 1) k := by
  unfold srI swI
  repeat' split
  all_goals omega

/-- Two runs exchanged: m .. b comes first, then a .. m. -/
def rtI (a m b k : Nat) : Nat := if a ≤ k ∧ k < a + (b - m) then k + (m - a) else if a + (b - m) ≤ k ∧ k < b then k - (b - m) else k

theorem rtI_gt {m i j : Nat} (h : j < i) (hi : i ≤ m) (hj : 0 < j) (k : Nat) : srI (m - i) m j (rtI (m - (i - j)) m (m + j) k) = rtI (m - i) m (m + j) k := by
  unfold srI rtI
  repeat' split
  all_goals omega

theorem rtI_lt {m i j : Nat} (h : i < j) (hi : i ≤ m) (h0 : 0 < i) (k : Nat) : srI (m - i) (m + j - i) i (rtI (m - i) m (m + (j - i)) k) = rtI (m - i) m (m + j) k := by
  unfold srI rtI
  repeat' split
  all_goals omega

theorem rtI_eq {m i : Nat} (hi : i ≤ m) (k : Nat) : srI (m - i) m i k = rtI (m - i) m (m + i) k := by
  unfold srI rtI
  repeat' split
  all_goals omega

theorem rtI_inv {a m b : Nat} (h1 : a ≤ m) (h2 : m ≤ b) (k : Nat) : rtI a (a + (b - m)) b (rtI a m b k) = k ∧ rtI a m b (rtI a (a + (b - m)) b k) = k := by
  unfold rtI
  constructor
  all_goals (repeat' split)
  all_goals omega

theorem PermIn.rot {a m b : Nat} (f : Nat → Ru) (h1 : a ≤ m) (h2 : m ≤ b) : PermIn a b f (fun k => f (rtI a m b k)) := by
  refine PermIn.of (rtI a m b) (rtI a (a + (b - m)) b) (fun k hk => ?_) (fun k ha hb => ?_) (rtI_inv h1 h2)
  · unfold rtI
    constructor
    all_goals (repeat' split)
    all_goals omega
  · unfold rtI
    refine ⟨?_, ?_, ?_, ?_⟩
    all_goals (repeat' split)
    all_goals omega

/-- The first of a .. i carried up to its end. -/
def mvU (a i k : Nat) : Nat := if a ≤ k ∧ k + 1 < i then k + 1 else if k + 1 = i ∧ a ≤ k then a else k

/-- The last of i .. e carried down to its begin. -/
def mvD (i e k : Nat) : Nat := if i < k ∧ k < e then k - 1 else if k = i ∧ i < e then e - 1 else k

theorem mvU_start (a k : Nat) : mvU a (a + 1) k = k := by unfold mvU; repeat' split
                                                          all_goals omega

theorem mvU_step {a k : Nat} (h : a ≤ k) (x : Nat) : mvU a (k + 1) (swI k (k + 1) x) = mvU a (k + 1 + 1) x := by
  unfold mvU swI
  repeat' split
  all_goals omega

theorem mvD_start (m k : Nat) : mvD m (m + 1) k = k := by unfold mvD; repeat' split
                                                          all_goals omega

theorem mvD_step {k m : Nat} (h : 0 < k) (hm : k ≤ m) (x : Nat) : mvD k (m + 1) (swI k (k - 1) x) = mvD (k - 1) (m + 1) x := by
  unfold mvD swI
  repeat' split
  all_goals omega

theorem mv_inv {a i : Nat} (h : a < i) (k : Nat) : mvD a i (mvU a i k) = k ∧ mvU a i (mvD a i k) = k := by
  unfold mvU mvD
  constructor
  all_goals (repeat' split)
  all_goals omega

theorem PermIn.up {a i b : Nat} (f : Nat → Ru) (h : a < i) (hi : i ≤ b) : PermIn a b f (fun k => f (mvU a i k)) := by
  refine PermIn.of (mvU a i) (mvD a i) (fun k hk => ?_) (fun k ha hb => ?_) (mv_inv h)
  · unfold mvU mvD
    constructor
    all_goals (repeat' split)
    all_goals omega
  · unfold mvU mvD
    refine ⟨?_, ?_, ?_, ?_⟩
    all_goals (repeat' split)
    all_goals omega

theorem PermIn.down {a i e b : Nat} (f : Nat → Ru) (h : i < e) (ha : a ≤ i) (hi : e ≤ b) : PermIn a b f (fun k => f (mvD i e k)) := by
  refine PermIn.mono ?_ ha hi
  refine PermIn.of (mvD i e) (mvU i e) (fun k hk => ?_) (fun k ha hb => ?_) (fun k => ⟨(mv_inv h k).2, (mv_inv h k).1⟩)
  · unfold mvU mvD
    constructor
    all_goals (repeat' split)
    all_goals omega
  · unfold mvU mvD
    refine ⟨?_, ?_, ?_, ?_⟩
    all_goals (repeat' split)
    all_goals omega

/-- One element ahead of a sorted run, carried up to its place. -/
theorem sorted_up {f : Nat → Ru} {a b i : Nat} (hs : SortedOn f (a + 1) b) (h1 : a + 1 ≤ i) (h2 : i ≤ b) (hl : i = a + 1 ∨ ltR (f (i - 1)) (f a)) (hr : i = b ∨ ¬ ltR (f i) (f a)) : SortedOn (fun k => f (mvU a i k)) a b := by
  intro x y hx hxy hy
  show leR (f (mvU a i x)) (f (mvU a i y))
  by_cases x1 : x + 1 < i
  · have ex : mvU a i x = x + 1 := by unfold mvU; rw [if_pos (by omega)]
    rw [ex]
    by_cases y1 : y + 1 < i
    · have ey : mvU a i y = y + 1 := by unfold mvU; rw [if_pos (by omega)]
      rw [ey]
      exact hs.le (by omega) (by omega) (by omega)
    · by_cases y2 : y + 1 = i
      · have ey : mvU a i y = a := by unfold mvU; rw [if_neg (by omega), if_pos (by omega)]
        rw [ey]
        rcases hl with hl | hl
        · omega
        · exact (hs.le (by omega) (show x + 1 ≤ i - 1 by omega) (by omega)).trans hl.le
      · have ey : mvU a i y = y := by unfold mvU; rw [if_neg (by omega), if_neg (by omega)]
        rw [ey]
        exact hs.le (by omega) (by omega) (by omega)
  · by_cases x2 : x + 1 = i
    · have ex : mvU a i x = a := by unfold mvU; rw [if_neg (by omega), if_pos (by omega)]
      have ey : mvU a i y = y := by unfold mvU; rw [if_neg (by omega), if_neg (by omega)]
      rw [ex, ey]
      rcases hr with hr | hr
      · omega
      · have e1 : leR (f a) (f i) := hr
        exact e1.trans (hs.le (by omega) (by omega) (by omega))
    · have ex : mvU a i x = x := by unfold mvU; rw [if_neg (by omega), if_neg (by omega)]
      have ey : mvU a i y = y := by unfold mvU; rw [if_neg (by omega), if_neg (by omega)]
      rw [ex, ey]
      exact hs.le (by omega) (by omega) (by omega)

/-- One element behind a sorted run, carried down to its place. -/
theorem sorted_down {f : Nat → Ru} {a m i : Nat} (hs : SortedOn f a m) (h1 : a ≤ i) (h2 : i ≤ m) (hl : i = a ∨ ¬ ltR (f m) (f (i - 1))) (hr : i = m ∨ ltR (f m) (f i)) : SortedOn (fun k => f (mvD i (m + 1) k)) a (m + 1) := by
  intro x y hx hxy hy
  show leR (f (mvD i (m + 1) x)) (f (mvD i (m + 1) y))
  have lo : ∀ z, z < i → mvD i (m + 1) z = z := fun z hz => by unfold mvD; rw [if_neg (by omega), if_neg (by omega)]
  have at' : mvD i (m + 1) i = m := by unfold mvD; rw [if_neg (by omega), if_pos (by omega)]; omega
  have hi' : ∀ z, i < z → z < m + 1 → mvD i (m + 1) z = z - 1 := fun z h1 h2 => by unfold mvD; rw [if_pos (by omega)]
  by_cases y1 : y < i
  · rw [lo x (by omega), lo y y1]
    exact hs.le hx (by omega) (by omega)
  · by_cases y2 : y = i
    · subst y2
      rw [lo x hxy, at']
      rcases hl with hl | hl
      · omega
      · have e1 : leR (f (y - 1)) (f m) := hl
        exact (hs.le hx (by omega) (by omega)).trans e1
    · rw [hi' y (by omega) hy]
      by_cases x1 : x < i
      · rw [lo x x1]
        exact hs.le hx (by omega) (by omega)
      · by_cases x2 : x = i
        · subst x2
          rw [at']
          rcases hr with hr | hr
          · omega
          · exact hr.le.trans (hs.le (by omega) (by omega) (by omega))
        · rw [hi' x (by omega) (by omega)]
          exact hs.le (by omega) (by omega) (by omega)

/-- Where the search of the merge has stopped. -/
structure Cutd (f : Nat → Ru) (a m b mid s : Nat) : Prop where
  hm : mid = (a + b) / 2
  am : a ≤ m
  mb : m ≤ b
  ab : a < b
  lo : (mid < m → mid + m - b ≤ s ∧ s ≤ mid) ∧ (m ≤ mid → a ≤ s ∧ s ≤ m)
  p1 : (mid < m ∧ s = mid + m - b) ∨ (m ≤ mid ∧ s = a) ∨ leR (f (s - 1)) (f (mid + m - s))
  p2 : (mid < m ∧ s = mid) ∨ (m ≤ mid ∧ s = m) ∨ ltR (f (mid + m - s - 1)) (f s)

theorem Cutd.in' {f : Nat → Ru} {a m b mid s : Nat} (h : Cutd f a m b mid s) : a ≤ s ∧ s ≤ m ∧ m ≤ mid + m - s ∧ mid + m - s ≤ b ∧ s ≤ mid ∧ mid ≤ mid + m - s ∧ a ≤ mid ∧ mid < b ∧ s ≤ mid + m := by
  obtain ⟨h1, h2, h3, h4, h5, _, _⟩ := h
  omega

theorem Cutd.cross {f : Nat → Ru} {a m b mid s : Nat} (h : Cutd f a m b mid s) (sl : SortedOn f a m) (sr : SortedOn f m b) {x y : Nat} (hx : a ≤ x) (hx' : x < mid) (hy : mid ≤ y) (hy' : y < b) :
    leR (f (rtI s m (mid + m - s) x)) (f (rtI s m (mid + m - s) y)) := by
  obtain ⟨i1, i2, i3, i4, i5, i6, i7, i8, i9⟩ := h.in'
  have h1 := h.hm
  have h4 := h.ab
  have lo := h.lo
  by_cases x1 : x < s
  · have ex : rtI s m (mid + m - s) x = x := by unfold rtI; rw [if_neg (by omega), if_neg (by omega)]
    rw [ex]
    by_cases y1 : y < mid + m - s
    · have ey : rtI s m (mid + m - s) y = y - (mid + m - s - m) := by unfold rtI; rw [if_neg (by omega), if_pos (by omega)]
      rw [ey]
      exact sl.le hx (by omega) (by omega)
    · have ey : rtI s m (mid + m - s) y = y := by unfold rtI; rw [if_neg (by omega), if_neg (by omega)]
      rw [ey]
      rcases h.p1 with p | p | p
      · omega
      · omega
      · exact ((sl.le hx (show x ≤ s - 1 by omega) (by omega)).trans p).trans (sr.le (by omega) (by omega) hy')
  · have ex : rtI s m (mid + m - s) x = x + (m - s) := by unfold rtI; rw [if_pos (by omega)]
    rw [ex]
    by_cases y1 : y < mid + m - s
    · have ey : rtI s m (mid + m - s) y = y - (mid + m - s - m) := by unfold rtI; rw [if_neg (by omega), if_pos (by omega)]
      rw [ey]
      rcases h.p2 with p | p | p
      · omega
      · omega
      · exact ((sr.le (by omega) (show x + (m - s) ≤ mid + m - s - 1 by omega) (by omega)).trans p.le).trans (sl.le (by omega) (by omega) (by omega))
    · have ey : rtI s m (mid + m - s) y = y := by unfold rtI; rw [if_neg (by omega), if_neg (by omega)]
      rw [ey]
      exact sr.le (by omega) (by omega) hy'

theorem Cutd.runs {f : Nat → Ru} {a m b mid s : Nat} (h : Cutd f a m b mid s) (sl : SortedOn f a m) (sr : SortedOn f m b) :
    SortedOn (fun k => f (rtI s m (mid + m - s) k)) a s ∧ SortedOn (fun k => f (rtI s m (mid + m - s) k)) s mid ∧ SortedOn (fun k => f (rtI s m (mid + m - s) k)) mid (mid + m - s) ∧ SortedOn (fun k => f (rtI s m (mid + m - s) k)) (mid + m - s) b := by
  obtain ⟨i1, i2, i3, i4, i5, i6, i7, i8, i9⟩ := h.in'
  have e1 : ∀ k, k < s → rtI s m (mid + m - s) k = k := fun k hk => by unfold rtI; rw [if_neg (by omega), if_neg (by omega)]
  have e2 : ∀ k, s ≤ k → k < mid → rtI s m (mid + m - s) k = k + (m - s) := fun k h1 h2 => by unfold rtI; rw [if_pos (by omega)]
  have e3 : ∀ k, mid ≤ k → k < mid + m - s → rtI s m (mid + m - s) k = k - (mid + m - s - m) := fun k h1 h2 => by unfold rtI; rw [if_neg (by omega), if_pos (by omega)]
  have e4 : ∀ k, mid + m - s ≤ k → rtI s m (mid + m - s) k = k := fun k h1 => by unfold rtI; rw [if_neg (by omega), if_neg (by omega)]
  refine ⟨fun x y hx hxy hy => ?_, fun x y hx hxy hy => ?_, fun x y hx hxy hy => ?_, fun x y hx hxy hy => ?_⟩
  · show leR (f (rtI _ _ _ x)) (f (rtI _ _ _ y)); rw [e1 x (by omega), e1 y hy]; exact sl.le hx (by omega) (by omega)
  · show leR (f (rtI _ _ _ x)) (f (rtI _ _ _ y)); rw [e2 x hx (by omega), e2 y (by omega) hy]; exact sr.le (by omega) (by omega) (by omega)
  · show leR (f (rtI _ _ _ x)) (f (rtI _ _ _ y)); rw [e3 x hx (by omega), e3 y (by omega) hy]; exact sl.le (by omega) (by omega) (by omega)
  · show leR (f (rtI _ _ _ x)) (f (rtI _ _ _ y)); rw [e4 x hx, e4 y (by omega)]; exact sr.le (by omega) (by omega) (by omega)

/-- Both halves sorted, all of the left ahead of all of the right. -/
theorem sorted_halves {g g1 g2 : Nat → Ru} {a mid b : Nat} (h1 : a ≤ mid) (h2 : mid ≤ b) (hc : ∀ x y, a ≤ x → x < mid → mid ≤ y → y < b → leR (g x) (g y)) (p1 : PermIn a mid g g1) (s1 : SortedOn g1 a mid) (p2 : PermIn mid b g1 g2) (s2 : SortedOn g2 mid b) : SortedOn g2 a b := by
  intro x y hx hxy hy
  by_cases y1 : y < mid
  · rw [p2.out (.inl (by omega)), p2.out (.inl y1)]
    exact s1 x y hx hxy y1
  · by_cases x1 : mid ≤ x
    · exact s2 x y x1 hxy hy
    · rw [p2.out (.inl (by omega))]
      obtain ⟨j, j1, j2, ej⟩ := p2.from' (k := y) (by omega) hy
      obtain ⟨i, i1, i2, ei⟩ := p1.from' (k := x) hx (by omega)
      rw [ej, ei, p1.out (.inr j1)]
      exact hc i j i1 i2 j1 j2

end Go.Proofs.YtklnfeblkffgiaaDoor
