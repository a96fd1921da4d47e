/- How places are cut into runs, in numbers alone: by the sorted rules one behind the other, and by asking for each place. -/
import Derived.Test.YtaaokbmfpfmfgaaSrR
namespace Go.Proofs.Ytaaokbmfpfmfgaa

/-- A run: n places from at on that one rule has. -/
structure Rn where
  r : Ru
  at' : Int
  n : Int

/-- The rule that has a place, if there is one. -/
def rAt (f : Nat → Ru) (n : Nat) (un sp p : Int) : Option Ru := if atR f n un sp p < 0 then none else some (f (atR f n un sp p).toNat)

theorem atFrom_cases (f : Nat → Ru) (un sp p : Int) (n k : Nat) : (∃ x : Nat, k ≤ x ∧ x < n ∧ atFrom f un sp p n k = (x : Int) ∧ hasR (f x) un sp p = true ∧ ∀ j, k ≤ j → j < x → hasR (f j) un sp p = false) ∨ (atFrom f un sp p n k = -1 ∧ ∀ j, k ≤ j → j < n → hasR (f j) un sp p = false) := by
  by_cases h : k < n
  · cases hh : hasR (f k) un sp p
    · have ih := atFrom_cases f un sp p n (k + 1)
      rw [atFrom_miss h hh]
      rcases ih with ⟨x, h1, h2, h3, h4, h5⟩ | ⟨h1, h2⟩
      · exact .inl ⟨x, by omega, h2, h3, h4, fun j hj hj' => by by_cases e : j = k; (subst e; exact hh); (exact h5 j (by omega) hj')⟩
      · exact .inr ⟨h1, fun j hj hj' => by by_cases e : j = k; (subst e; exact hh); (exact h2 j (by omega) hj')⟩
    · exact .inl ⟨k, Nat.le_refl _, h, atFrom_hit h hh, hh, fun j h1 h2 => by omega⟩
  · exact .inr ⟨atFrom_end h, fun j h1 h2 => by omega⟩
termination_by n - k

theorem rAt_none {f : Nat → Ru} {n : Nat} {un sp p : Int} (h : ∀ j, j < n → hasR (f j) un sp p = false) : rAt f n un sp p = none := by
  unfold rAt
  rcases atFrom_cases f un sp p n 0 with ⟨x, _, h2, h3, h4, _⟩ | ⟨h1, _⟩
  · rw [h x h2] at h4; cases h4
  · rw [if_pos (by rw [atR, h1]; decide)]

theorem rAt_some {f : Nat → Ru} {n : Nat} {un sp p : Int} (hap : Apart f n) (hok : ∀ k, k < n → (f k).lo ≤ (f k).hi) {x : Nat} (hx : x < n) (h : hasR (f x) un sp p = true) : rAt f n un sp p = some (f x) := by
  unfold rAt
  rcases atFrom_cases f un sp p n 0 with ⟨y, _, h2, h3, h4, _⟩ | ⟨_, h1⟩
  · have e : y = x := by
      rcases Nat.lt_trichotomy x y with hl | hl | hl
      · exfalso
        refine hap y h2 x hl ?_
        rw [hasR_true] at h h4
        have a1 := hok x hx
        have a2 := hok y h2
        unfold ovl
        omega
      · exact hl.symm
      · exfalso
        refine hap x hx y hl ?_
        rw [hasR_true] at h h4
        have a1 := hok x hx
        have a2 := hok y h2
        unfold ovl
        omega
    rw [if_neg (by rw [atR, h3]; omega), atR, h3, e]
    rfl
  · rw [h1 x (Nat.zero_le _) hx] at h; cases h

theorem rAt_has {f : Nat → Ru} {n : Nat} {un sp p : Int} {r : Ru} (h : rAt f n un sp p = some r) : hasR r un sp p = true ∧ ∃ x, x < n ∧ r = f x := by
  unfold rAt at h
  rcases atFrom_cases f un sp p n 0 with ⟨y, _, h2, h3, h4, _⟩ | ⟨h1, _⟩
  · rw [if_neg (by rw [atR, h3]; omega), atR, h3] at h
    simp only [Int.toNat_natCast, Option.some.injEq] at h
    subst h
    exact ⟨h4, y, h2, rfl⟩
  · rw [if_pos (by rw [atR, h1]; decide)] at h; cases h

/-- The runs from c on up to e, by asking for each first place; none, where one has no rule. -/
def runsS (f : Nat → Ru) (n : Nat) (un sp e : Int) : Nat → Int → Option (List Rn)
  | 0, _ => some []
  | m + 1, c => if c < e then (match rAt f n un sp c with
      | none => none
      | some r => (runsS f n un sp e m (min (r.hi + 1) e)).map (fun l => ⟨r, c, min (r.hi + 1) e - c⟩ :: l)) else some []

theorem runsS_end {f : Nat → Ru} {n : Nat} {un sp e c : Int} (h : ¬ c < e) (m : Nat) : runsS f n un sp e m c = some [] := by
  cases m with
  | zero => rfl
  | succ m => rw [runsS, if_neg h]

theorem runsS_none {f : Nat → Ru} {n : Nat} {un sp e c : Int} (h : c < e) (hn : ∀ j, j < n → hasR (f j) un sp c = false) {m : Nat} (hm : 0 < m) : runsS f n un sp e m c = none := by
  cases m with
  | zero => omega
  | succ m => rw [runsS, if_pos h, rAt_none hn]

/-- More fuel than places changes nothing. -/
theorem runsS_fuel {f : Nat → Ru} {n : Nat} {un sp e : Int} : ∀ (m m' : Nat) (c : Int), (e - c).toNat ≤ m → (e - c).toNat ≤ m' → runsS f n un sp e m c = runsS f n un sp e m' c := by
  intro m
  induction m with
  | zero =>
    intro m' c h1 h2
    rw [runsS_end (by omega), runsS_end (by omega)]
  | succ m ih =>
    intro m' c h1 h2
    by_cases hc : c < e
    · cases m' with
      | zero => omega
      | succ m' =>
        rw [runsS, runsS, if_pos hc, if_pos hc]
        cases hr : rAt f n un sp c with
        | none => rfl
        | some r =>
          have hh := (rAt_has hr).1
          rw [hasR_true] at hh
          have e1 : c < min (r.hi + 1) e := by omega
          simp only
          rw [ih m' _ (by omega) (by omega)]
    · rw [runsS_end hc, runsS_end hc]

abbrev runs (f : Nat → Ru) (n : Nat) (un sp e c : Int) : Option (List Rn) := runsS f n un sp e (e - c).toNat c

theorem runs_step {f : Nat → Ru} {n : Nat} {un sp e c : Int} {r : Ru} (h : c < e) (hr : rAt f n un sp c = some r) : runs f n un sp e c = (runs f n un sp e (min (r.hi + 1) e)).map (fun l => ⟨r, c, min (r.hi + 1) e - c⟩ :: l) := by
  have hh := (rAt_has hr).1
  rw [hasR_true] at hh
  have e1 : c < min (r.hi + 1) e := by omega
  obtain ⟨m, hm⟩ : ∃ m, (e - c).toNat = m + 1 := ⟨(e - c).toNat - 1, by omega⟩
  show runsS f n un sp e (e - c).toNat c = _
  rw [hm, runsS, if_pos h, hr]
  simp only
  rw [runsS_fuel m (e - min (r.hi + 1) e).toNat _ (by omega) (Nat.le_refl _)]

theorem runs_none {f : Nat → Ru} {n : Nat} {un sp e c : Int} (h : c < e) (hn : ∀ j, j < n → hasR (f j) un sp c = false) : runs f n un sp e c = none := runsS_none h hn (by omega)

theorem runs_end {f : Nat → Ru} {n : Nat} {un sp e c : Int} (h : ¬ c < e) : runs f n un sp e c = some [] := runsS_end h _

/-- The way of the sorted rules: what is known when k of them have been asked. -/
structure RunI (f f' : Nat → Ru) (n : Nat) (un sp e c0 : Int) (k : Nat) (c : Int) (acc : List Rn) : Prop where
  le : c ≤ e
  ge : c0 ≤ c
  eq : runs f n un sp e c0 = (runs f n un sp e c).map (fun l => acc ++ l)
  past : c < e → (∀ j, j < n → hasR (f' j) un sp c = false) ∨ ∀ j, j < k → (f' j).u = un → (f' j).s = sp → (f' j).hi < c
  len : acc.length ≤ k
  el : ∀ x ∈ acc, (∃ j, j < n ∧ x.r = f' j) ∧ hasR x.r un sp x.at' = true ∧ c0 ≤ x.at' ∧ 0 < x.n ∧ x.at' + x.n ≤ e

theorem RunI.start {f f' : Nat → Ru} {n : Nat} {un sp e c0 : Int} (h : c0 ≤ e) : RunI f f' n un sp e c0 0 c0 [] :=
  ⟨h, Int.le_refl _, by simp, fun _ => .inr (fun j hj => by omega), Nat.le_refl _, fun x hx => by cases hx⟩

theorem RunI.hit {f f' : Nat → Ru} {n : Nat} {un sp e c0 c : Int} {k : Nat} {acc : List Rn} (I : RunI f f' n un sp e c0 k c acc) (hap : Apart f n) (hok : ∀ k, k < n → (f k).lo ≤ (f k).hi) (p : PermIn 0 n f f') (hk : k < n) (hc : c < e) (hh : hasR (f' k) un sp c = true) :
    RunI f f' n un sp e c0 (k + 1) (min ((f' k).hi + 1) e) (acc ++ [⟨f' k, c, min ((f' k).hi + 1) e - c⟩]) := by
  obtain ⟨x, _, hx, ex⟩ := p.from' (k := k) (Nat.zero_le _) hk
  have hr : rAt f n un sp c = some (f' k) := by rw [ex]; exact rAt_some hap hok hx (by rw [← ex]; exact hh)
  have hh' := hasR_true.1 hh
  have hge := I.ge
  refine ⟨by omega, by omega, ?_, ?_, by simp; have := I.len; omega, fun x hx => ?_⟩
  · rw [I.eq, runs_step hc hr]
    cases runs f n un sp e (min ((f' k).hi + 1) e) <;> simp
  · intro hlt
    right
    intro j hj hu hs
    by_cases e1 : j = k
    · subst e1; omega
    · rcases I.past hc with h2 | h2
      · rw [h2 k hk] at hh; cases hh
      · have := h2 j (by omega) hu hs
        omega
  · rcases List.mem_append.1 hx with h9 | h9
    · exact I.el x h9
    · obtain rfl := List.mem_singleton.1 h9
      exact ⟨⟨k, hk, rfl⟩, hh, hge, (by show 0 < min ((f' k).hi + 1) e - c; omega), (by show c + (min ((f' k).hi + 1) e - c) ≤ e; omega)⟩

theorem RunI.miss {f f' : Nat → Ru} {n : Nat} {un sp e c0 c : Int} {k : Nat} {acc : List Rn} (I : RunI f f' n un sp e c0 k c acc) (hs : SortedOn f' 0 n) (hk : k < n) (hh : c < e → hasR (f' k) un sp c = false) :
    RunI f f' n un sp e c0 (k + 1) c acc := by
  refine ⟨I.le, I.ge, I.eq, fun hc => ?_, by have := I.len; omega, I.el⟩
  rcases I.past hc with h2 | h2
  · exact .inl h2
  · by_cases hx : (f' k).u = un ∧ (f' k).s = sp ∧ ¬ (f' k).hi < c
    · -- the rule lies ahead of the place: so do all behind it
      left
      have hh' := hh hc
      have hlo : c < (f' k).lo := by
        by_cases e1 : (f' k).lo ≤ c
        · have : hasR (f' k) un sp c = true := hasR_true.2 ⟨hx.1, hx.2.1, e1, by omega⟩
          rw [this] at hh'; cases hh'
        · omega
      intro j hj
      cases hq : hasR (f' j) un sp c
      · rfl
      · exfalso
        rw [hasR_true] at hq
        rcases Nat.lt_trichotomy j k with hl | hl | hl
        · have := h2 j hl hq.1 hq.2.1
          omega
        · subst hl; omega
        · have h3 : leR (f' k) (f' j) := hs.le (Nat.zero_le _) (by omega) hj
          unfold leR ltR at h3
          omega
    · right
      intro j hj hu hs'
      by_cases e1 : j = k
      · subst e1; omega
      · exact h2 j (by omega) hu hs'

/-- When all rules have been asked. -/
theorem RunI.fin {f f' : Nat → Ru} {n : Nat} {un sp e c0 c : Int} {acc : List Rn} (I : RunI f f' n un sp e c0 n c acc) (p : PermIn 0 n f f') : (c = e → runs f n un sp e c0 = some acc) ∧ (¬ c = e → runs f n un sp e c0 = none) := by
  have hle := I.le
  constructor
  · intro h
    rw [I.eq, runs_end (by omega)]
    simp
  · intro h
    have hc : c < e := by omega
    have hno : ∀ j, j < n → hasR (f' j) un sp c = false := by
      rcases I.past hc with h2 | h2
      · exact h2
      · intro j hj
        cases hq : hasR (f' j) un sp c
        · rfl
        · exfalso
          rw [hasR_true] at hq
          have := h2 j hj hq.1 hq.2.1
          omega
    have hno' : ∀ j, j < n → hasR (f j) un sp c = false := by
      obtain ⟨σ, τ, _, p2, p3, p4⟩ := p
      intro j hj
      have e1 : f j = f' (τ j) := by rw [p4, (p3 j).2]
      rw [e1]
      exact hno _ (p2 j (Nat.zero_le _) hj).2.2.2
    rw [I.eq, runs_none hc hno']
    rfl

end Go.Proofs.Ytaaokbmfpfmfgaa
