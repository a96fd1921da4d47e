/- Lists of structs, each with a row of numbers and a row of bits within: the list's own row, and the rows within. -/
import Derived.Test.YtmhdneenjoelfaaStR
import Derived.Test.YtmhdneenjoelfaaCpy
namespace Go.Proofs.Ytmhdneenjoelfaa
open Go.RowKit Go.Joins

set_option linter.unusedVariables false

set_option linter.unusedSimpArgs false

/-- A struct: the cells ahead of its two rows, the rows, the cells behind them. -/
structure El where
  pre : List Value
  ws : List Int
  bs : List Bool
  post : List Value

instance : Inhabited El := ⟨⟨[], [], [], []⟩⟩

abbrev els (E : El) (a1 a2 : Option Addr) (c1 c2 : Nat) : List Value := E.pre ++ (.slice a1 E.ws.length c1 :: .slice a2 E.bs.length c2 :: E.post)

theorem bel_nx {w0 w w' : World} (h : Below w0.heap.size w0 w) (h' : Below w.heap.size w w') : Below w0.heap.size w0 w' := h.trans (h'.mono h.size)

theorem setL_gw {g : Nat} : ∀ (vs : List Value) (w : World) (o : Nat), w.grownBy (setL w g o vs) (some g)
  | [], w, o => World.grownBy.refl w _
  | v :: vs, w, o => by
    have h1 := grown_setj w g o v
    have h2 := setL_gw (g := g) vs (w.setCell ⟨g, o, none⟩ v) (o + 1)
    exact ⟨h2.os.trans h1.os, h2.tape.trans h1.tape, h2.output.trans h1.output, Nat.le_trans h1.size h2.size, fun k hk hne => by rw [show setL w g o (v :: vs) = setL (w.setCell ⟨g, o, none⟩ v) g (o + 1) vs from rfl, h2.block k (Nat.lt_of_lt_of_le hk h1.size) hne, h1.block k hk hne]⟩

theorem row_stL {w : World} {base size n g o : Nat} {e t : TypeId} {v : Value} {xs vs : List Value} (h : w.ownsRow base e size v n xs) (hb : ExB w g t) (ht : t ≠ e) : (setL w g o vs).ownsRow base e size v n xs := by
  obtain ⟨cs, hb⟩ := hb
  exact World.ownsRow.kept h (setL_gw vs w o) (.inr (row_noBlk h hb ht))

theorem row_ex {w : World} {base s n g : Nat} {e : TypeId} {v : Value} {xs : List Value} (h : w.ownsRow base e s v n xs) (hv : v.ownBlock = some g) : ExB w g e := by
  rcases h.2 with ⟨rfl, _⟩ | ⟨g', cap, cur, rfl, _, hh, _⟩
  · simp [Value.ownBlock] at hv
  · simp [Value.ownBlock] at hv
    subst hv
    exact ⟨cur, hh⟩

theorem ne_typesE {w : World} {b1 b2 s1 s2 n1 n2 : Nat} {e1 e2 : TypeId} {v1 v2 : Value} {x1 x2 : List Value} (h1 : w.ownsRow b1 e1 s1 v1 n1 x1) (h2 : w.ownsRow b2 e2 s2 v2 n2 x2) (he : e1 ≠ e2) : v1.ownBlock = none ∨ v1.ownBlock ≠ v2.ownBlock := by
  cases e : v1.ownBlock with
  | none => exact .inl rfl
  | some g =>
    obtain ⟨cs, hb⟩ := row_ex h1 e
    exact .inr (fun e2' => row_noBlk h2 hb he e2'.symm)

theorem grown_no {w w' : World} (hg : w.grownBy w' none) : Below w.heap.size w w' := (Below.refl _ w).grown hg (Nat.le_refl _) (fun k hk => by cases hk)

/-- A block whose cells from o on are n elements, s cells each: element k has the cells F k. -/
def RowO (w : World) (g : Nat) (t : TypeId) (s o n : Nat) (F : Nat → List Value) : Prop :=
  ∃ cs, w.heap[g]? = some (.cells cs t (0, 0)) ∧ o + n * s ≤ cs.size ∧ ∀ k, k < n → ∀ j, j < s → cs[o + k * s + j]? = (F k)[j]?

theorem RowS.rowO {w : World} {g : Nat} {t : TypeId} {s n : Nat} {F : Nat → List Value} (h : RowS w g t s n F) : RowO w g t s 0 n F := by
  obtain ⟨cs, h1, h2, h3⟩ := h
  exact ⟨cs, h1, by omega, fun k hk j hj => by rw [Nat.zero_add]; exact h3 k hk j hj⟩

section
variable {w w' : World} {g : Nat} {t : TypeId} {s o n : Nat} {F G : Nat → List Value}

theorem RowO.lt (h : RowO w g t s o n F) : g < w.heap.size := by
  obtain ⟨cs, h, _⟩ := h
  exact (Array.getElem?_eq_some_iff.1 h).1

theorem RowO.cell (h : RowO w g t s o n F) {k j : Nat} (hk : k < n) (hj : j < s) : w.cell? ⟨g, o + k * s + j, none⟩ = (F k)[j]? := by
  obtain ⟨cs, h1, _, h3⟩ := h
  rw [cell_of_block h1]
  exact h3 k hk j hj

theorem RowO.fro (h : RowO w g t s o n F) (i : Nat) : w.frozen? ⟨g, i, none⟩ = false := by
  obtain ⟨cs, h1, _⟩ := h
  exact unfrozen_of_block h1 i

theorem RowO.below (h : RowO w g t s o n F) (hb : Below w.heap.size w w') : RowO w' g t s o n F := by
  have hl := h.lt
  obtain ⟨cs, h1, h2, h3⟩ := h
  exact ⟨cs, by rw [hb.block _ hl]; exact h1, h2, h3⟩

theorem RowO.congr (h : RowO w g t s o n F) (he : ∀ k, k < n → F k = G k) : RowO w g t s o n G := by
  obtain ⟨cs, h1, h2, h3⟩ := h
  exact ⟨cs, h1, h2, fun k hk j hj => by rw [← he k hk]; exact h3 k hk j hj⟩

theorem RowO.kept {row : Option Nat} (h : RowO w g t s o n F) (hg : w.grownBy w' row) (hne : row ≠ some g) : RowO w' g t s o n F := by
  have hl := h.lt
  obtain ⟨cs, h1, h2, h3⟩ := h
  exact ⟨cs, by rw [hg.block g hl (fun e => hne e.symm)]; exact h1, h2, h3⟩

theorem RowO.exB (h : RowO w g t s o n F) : ExB w g t := by
  obtain ⟨cs, h1, _⟩ := h
  exact ⟨cs, h1⟩

theorem RowO.upd (h : RowO w g t s o n F) {k i : Nat} (hk : k < n) (vs L : List Value) (ho : i + vs.length ≤ s) (hL : ∀ j, j < s → L[j]? = if i ≤ j ∧ j < i + vs.length then vs[j - i]? else (F k)[j]?) :
    RowO (setL w g (o + k * s + i) vs) g t s o n (fun i => if i = k then L else F i) := by
  obtain ⟨cs, h1, h2, h3⟩ := h
  obtain ⟨cs', g1, g2, g3⟩ := setL_block vs w (o + k * s + i) cs h1
  refine ⟨cs', g1, by omega, fun y hy j hj => ?_⟩
  have hin : o + y * s + j < cs.size := by
    have : (y + 1) * s ≤ n * s := Nat.mul_le_mul_right s hy
    rw [Nat.add_mul, Nat.one_mul] at this
    omega
  rw [g3 _ hin]
  by_cases e : y = k
  · subst e
    simp only [if_pos]
    rw [hL j hj]
    by_cases e2 : i ≤ j ∧ j < i + vs.length
    · rw [if_pos e2, if_pos (by omega), show o + y * s + j - (o + y * s + i) = j - i by omega]
    · rw [if_neg e2, if_neg (by omega), h3 y hy j hj]
  · simp only [if_neg e]
    rw [if_neg, h3 y hy j hj]
    intro ⟨e1, e2⟩
    obtain ⟨d, hd⟩ : ∃ d, y * s + j = k * s + d := ⟨y * s + j - k * s, by omega⟩
    exact e (idx_inj hj (by omega) hd).1

theorem RowO.keptV {e : TypeId} {b s' n' : Nat} {v : Value} {xs : List Value} (h : RowO w g t s o n F) (hr : w.ownsRow b e s' v n' xs) (hg : w.grownBy w' v.ownBlock) (ht : t ≠ e) : RowO w' g t s o n F := by
  obtain ⟨cs, hb⟩ := h.exB
  exact h.kept hg (row_noBlk hr hb ht)

/-- Without its first element. -/
theorem RowO.tail (h : RowO w g t s o (n + 1) F) : RowO w g t s (o + s) n (fun k => F (k + 1)) := by
  obtain ⟨cs, h1, h2, h3⟩ := h
  refine ⟨cs, h1, by rw [Nat.add_mul] at h2; omega, fun k hk j hj => ?_⟩
  rw [← h3 (k + 1) (by omega) j hj, Nat.add_mul, Nat.one_mul]
  congr 1
  omega
end

/-- A list of structs of the call's own. -/
def OwnO (w : World) (base : Nat) (t : TypeId) (s : Nat) (v : Value) (n : Nat) (F : Nat → List Value) : Prop :=
  (n = 0 ∧ ∃ a c, v = .slice a 0 c) ∨ ∃ g o c, v = .slice (some ⟨g, o, none⟩) n c ∧ base ≤ g ∧ RowO w g t s o n F

section
variable {w w' : World} {base : Nat} {t : TypeId} {s : Nat} {v : Value} {n : Nat} {F : Nat → List Value}

theorem OwnO.below (h : OwnO w base t s v n F) (hb : Below w.heap.size w w') : OwnO w' base t s v n F := by
  rcases h with h | ⟨g, o, c, h1, h2, h3⟩
  · exact .inl h
  · exact .inr ⟨g, o, c, h1, h2, h3.below hb⟩

theorem OwnO.mono {base' : Nat} (h : OwnO w base t s v n F) (hb : base' ≤ base) : OwnO w base' t s v n F := by
  rcases h with h | ⟨g, o, c, h1, h2, h3⟩
  · exact .inl h
  · exact .inr ⟨g, o, c, h1, by omega, h3⟩

theorem OwnO.kept {gx : Nat} (h : OwnO w base t s v n F) (hg : w.grownBy w' (some gx)) (hx : gx < base ∨ ∃ t', ExB w gx t' ∧ t' ≠ t) : OwnO w' base t s v n F := by
  rcases h with h | ⟨g, o, c, h1, h2, h3⟩
  · exact .inl h
  · refine .inr ⟨g, o, c, h1, h2, h3.kept hg ?_⟩
    intro e
    have e := Option.some.inj e
    rcases hx with hx | ⟨t', ⟨cs, hx⟩, ht⟩
    · omega
    · subst e
      obtain ⟨cs', hy⟩ := h3.exB
      unfold Blk at hx hy
      rw [hx] at hy
      simp at hy
      exact ht hy.2

theorem OwnO.shape (h : OwnO w base t s v n F) : ∃ a c, v = .slice a n c := by
  rcases h with ⟨rfl, h⟩ | ⟨g, o, c, h1, _⟩
  · exact h
  · exact ⟨_, c, h1⟩

theorem OwnO.sl {m c : Nat} {a : Option Addr} (h : OwnO w base t s (.slice a m c) n F) : SlS w a s n F := by
  rcases h with ⟨h, _⟩ | ⟨g, o, c', h1, _, h3⟩
  · exact .inl h
  · simp only [Value.slice.injEq] at h1
    exact .inr ⟨g, o, h1.1, h3.lt, fun k hk j hj => h3.cell hk hj⟩
end

/-- One struct lies in the world as the cells vs: its rows in the blocks lo .. hi. -/
def ElAt (w : World) (lo hi : Nat) (vs : List Value) (E : El) : Prop :=
  ∃ a1 a2 c1 c2, vs = els E a1 a2 c1 c2 ∧ OwnI w lo (.slice a1 E.ws.length c1) E.ws ∧ OwnB w lo (.slice a2 E.bs.length c2) E.bs ∧
    (∀ k, (Value.slice a1 E.ws.length c1).ownBlock = some k → k < hi) ∧ (∀ k, (Value.slice a2 E.bs.length c2).ownBlock = some k → k < hi)

section
variable {w w' : World} {lo hi : Nat} {vs : List Value} {E : El}

theorem ElAt.below (h : ElAt w lo hi vs E) (hb : Below w.heap.size w w') : ElAt w' lo hi vs E := by
  obtain ⟨a1, a2, c1, c2, h1, h2, h3, h4, h5⟩ := h
  exact ⟨a1, a2, c1, c2, h1, h2.below hb, h3.below hb, h4, h5⟩

theorem ElAt.mono {lo' : Nat} (h : ElAt w lo hi vs E) (hl : lo' ≤ lo) : ElAt w lo' hi vs E := by
  obtain ⟨a1, a2, c1, c2, h1, h2, h3, h4, h5⟩ := h
  exact ⟨a1, a2, c1, c2, h1, h2.mono hl, h3.mono hl, h4, h5⟩

theorem ElAt.kept {gx : Nat} (h : ElAt w lo hi vs E) (hg : w.grownBy w' (some gx)) (hx : gx < lo ∨ hi ≤ gx ∨ ∃ t, ExB w gx t ∧ t ≠ 3 ∧ t ≠ 4) : ElAt w' lo hi vs E := by
  obtain ⟨a1, a2, c1, c2, h1, h2, h3, h4, h5⟩ := h
  refine ⟨a1, a2, c1, c2, h1, h2.kept hg (.inr ?_), h3.kept hg (.inr ?_), h4, h5⟩
  · intro e
    rcases hx with hx | hx | ⟨t, ⟨cs, hx⟩, ht, _⟩
    · have := (World.ownsRow.lt h2 gx e).1; omega
    · have := h4 gx e; omega
    · exact row_noBlk h2 hx ht e
  · intro e
    rcases hx with hx | hx | ⟨t, ⟨cs, hx⟩, _, ht⟩
    · have := (World.ownsRow.lt h3 gx e).1; omega
    · have := h5 gx e; omega
    · exact row_noBlk h3 hx ht e

theorem ElAt.keptV {v : Value} (h : ElAt w lo hi vs E) (hg : w.grownBy w' v.ownBlock) (hx : ∀ gx, v.ownBlock = some gx → gx < lo ∨ hi ≤ gx) : ElAt w' lo hi vs E := by
  cases hv : v.ownBlock with
  | none => rw [hv] at hg; exact h.below (grown_no hg)
  | some gx =>
    rw [hv] at hg
    rcases hx gx hv with h1 | h1
    · exact h.kept hg (.inl h1)
    · exact h.kept hg (.inr (.inl h1))

theorem ElAt.len (h : ElAt w lo hi vs E) : vs.length = E.pre.length + 2 + E.post.length := by
  obtain ⟨a1, a2, c1, c2, rfl, _⟩ := h
  simp; omega
end

theorem bt_mono {β : Nat → Nat} (h : ∀ k, β k ≤ β (k + 1)) : ∀ {i j : Nat}, i ≤ j → β i ≤ β j := by
  intro i j hij
  induction hij with
  | refl => exact Nat.le_refl _
  | step _ ih => exact Nat.le_trans ih (h _)

/-- The first z structs lie apart, one behind the other. -/
def InE (w : World) (base : Nat) (β : Nat → Nat) (F : Nat → List Value) (G : Nat → El) (z : Nat) : Prop :=
  base ≤ β 0 ∧ (∀ k, β k ≤ β (k + 1)) ∧ ∀ k, k < z → ElAt w (β k) (β (k + 1)) (F k) (G k)

section
variable {w w' : World} {base gx z : Nat} {β : Nat → Nat} {F F' : Nat → List Value} {G H : Nat → El}

theorem InE.start (w : World) (base : Nat) (F : Nat → List Value) (G : Nat → El) : InE w base (fun _ => base) F G 0 := ⟨Nat.le_refl _, fun _ => Nat.le_refl _, fun k hk => by omega⟩

theorem InE.below (h : InE w base β F G z) (hb : Below w.heap.size w w') : InE w' base β F G z := ⟨h.1, h.2.1, fun k hk => (h.2.2 k hk).below hb⟩

theorem InE.keptT {t : TypeId} (h : InE w base β F G z) (hg : w.grownBy w' (some gx)) (hx : ExB w gx t) (h1 : t ≠ 3) (h2 : t ≠ 4) : InE w' base β F G z := ⟨h.1, h.2.1, fun k hk => (h.2.2 k hk).kept hg (.inr (.inr ⟨t, hx, h1, h2⟩))⟩

theorem InE.keptLt (h : InE w base β F G z) (hg : w.grownBy w' (some gx)) (hx : gx < base) : InE w' base β F G z :=
  ⟨h.1, h.2.1, fun k hk => (h.2.2 k hk).kept hg (.inl (by have := bt_mono h.2.1 (Nat.zero_le k); have := h.1; omega))⟩

theorem InE.congr (h : InE w base β F G z) (he : ∀ k, k < z → F k = F' k) (hg : ∀ k, k < z → G k = H k) : InE w base β F' H z := ⟨h.1, h.2.1, fun k hk => by rw [← he k hk, ← hg k hk]; exact h.2.2 k hk⟩

theorem InE.mono {base' : Nat} (h : InE w base β F G z) (hb : base' ≤ base) : InE w base' β F G z := ⟨Nat.le_trans hb h.1, h.2⟩

/-- One struct more. -/
theorem InE.push {lo : Nat} {vs : List Value} {E : El} (h : InE w base β F G z) (hz : β z ≤ lo) (hlo : lo ≤ w.heap.size) (p : ElAt w lo w.heap.size vs E) :
    InE w base (fun k => if k ≤ z then β k else w.heap.size) (fun k => if k = z then vs else F k) (fun k => if k = z then E else G k) (z + 1) := by
  refine ⟨h.1, fun k => ?_, fun k hk => ?_⟩
  · by_cases e : k + 1 ≤ z
    · simp only [if_pos e, if_pos (show k ≤ z by omega)]; exact h.2.1 k
    · by_cases e2 : k ≤ z
      · simp only [if_pos e2, if_neg e]
        have : k = z := by omega
        subst this; omega
      · simp only [if_neg e2, if_neg e]; exact Nat.le_refl _
  · by_cases e : k = z
    · subst e
      simp only [if_pos (Nat.le_refl k), if_neg (show ¬ k + 1 ≤ k by omega), if_pos]
      exact p.mono hz
    · simp only [if_pos (show k ≤ z by omega), if_pos (show k + 1 ≤ z by omega), if_neg e]
      exact h.2.2 k (by omega)
end

/-- A list of structs of the call's own, by their numbers. -/
def OwnL (w : World) (base : Nat) (t : TypeId) (s : Nat) (v : Value) (n : Nat) (G : Nat → El) : Prop :=
  ∃ (F : Nat → List Value) (β : Nat → Nat), OwnO w base t s v n F ∧ InE w base β F G n

/-- All of it lies below hi. -/
def TopL (w : World) (base hi : Nat) (t : TypeId) (s : Nat) (v : Value) (n : Nat) (G : Nat → El) : Prop :=
  ∃ (F : Nat → List Value) (β : Nat → Nat), OwnO w base t s v n F ∧ InE w base β F G n ∧ β n ≤ hi ∧ ∀ g o m c, v = .slice (some ⟨g, o, none⟩) m c → 0 < n → g < hi

/-- A list of structs that is read. -/
def SlL (w : World) (a : Option Addr) (s n : Nat) (G : Nat → El) : Prop :=
  ∃ F : Nat → List Value, SlS w a s n F ∧ ∀ k, k < n → ∃ a1 a2 c1 c2, F k = els (G k) a1 a2 c1 c2 ∧ SlI w a1 (G k).ws ∧ SlB w a2 (G k).bs

section
variable {w w' : World} {base : Nat} {t : TypeId} {s n : Nat} {v : Value} {G H : Nat → El} {a : Option Addr}

theorem OwnL.below (h : OwnL w base t s v n G) (hb : Below w.heap.size w w') : OwnL w' base t s v n G := by
  obtain ⟨F, β, h1, h2⟩ := h
  exact ⟨F, β, h1.below hb, h2.below hb⟩

theorem OwnL.mono {base' : Nat} (h : OwnL w base t s v n G) (hb : base' ≤ base) : OwnL w base' t s v n G := by
  obtain ⟨F, β, h1, h2⟩ := h
  exact ⟨F, β, h1.mono hb, h2.mono hb⟩

theorem OwnL.congr (h : OwnL w base t s v n G) (he : ∀ k, k < n → G k = H k) : OwnL w base t s v n H := by
  obtain ⟨F, β, h1, h2⟩ := h
  exact ⟨F, β, h1, h2.congr (fun _ _ => rfl) he⟩

theorem OwnL.keptLt {gx : Nat} (h : OwnL w base t s v n G) (hg : w.grownBy w' (some gx)) (hx : gx < base) : OwnL w' base t s v n G := by
  obtain ⟨F, β, h1, h2⟩ := h
  exact ⟨F, β, h1.kept hg (.inl hx), h2.keptLt hg hx⟩

theorem OwnL.keptT {gx : Nat} {t' : TypeId} (h : OwnL w base t s v n G) (hg : w.grownBy w' (some gx)) (hx : ExB w gx t') (h0 : t' ≠ t) (h1 : t' ≠ 3) (h2 : t' ≠ 4) : OwnL w' base t s v n G := by
  obtain ⟨F, β, q1, q2⟩ := h
  exact ⟨F, β, q1.kept hg (.inr ⟨t', hx, h0⟩), q2.keptT hg hx h1 h2⟩

theorem OwnL.keptV {u : Value} (h : OwnL w base t s v n G) (hg : w.grownBy w' u.ownBlock) (hx : ∀ gx, u.ownBlock = some gx → gx < base) : OwnL w' base t s v n G := by
  cases hv : u.ownBlock with
  | none => rw [hv] at hg; exact h.below (grown_no hg)
  | some gx => rw [hv] at hg; exact h.keptLt hg (hx gx hv)

theorem OwnL.shape (h : OwnL w base t s v n G) : ∃ a c, v = .slice a n c := by
  obtain ⟨F, β, h1, h2⟩ := h
  exact h1.shape

theorem OwnL.sl {m c : Nat} (h : OwnL w base t s (.slice a m c) n G) : SlL w a s n G := by
  obtain ⟨F, β, h1, h2⟩ := h
  refine ⟨F, h1.sl, fun k hk => ?_⟩
  obtain ⟨a1, a2, c1, c2, e, o1, o2, _⟩ := h2.2.2 k hk
  exact ⟨a1, a2, c1, c2, e, o1.sl.2, o2.sl.2⟩

theorem ownL_nil (w : World) (base : Nat) (t : TypeId) (s : Nat) (a : Option Addr) (c : Nat) (G : Nat → El) : OwnL w base t s (.slice a 0 c) 0 G := ⟨fun _ => [], fun _ => base, .inl ⟨rfl, a, c, rfl⟩, InE.start w base _ _⟩

theorem SlL.below (h : SlL w a s n G) (hb : Below w.heap.size w w') : SlL w' a s n G := by
  obtain ⟨F, h1, h2⟩ := h
  refine ⟨F, h1.below hb, fun k hk => ?_⟩
  obtain ⟨a1, a2, c1, c2, e, o1, o2⟩ := h2 k hk
  exact ⟨a1, a2, c1, c2, e, o1.below hb, o2.below hb⟩

theorem slL_nil (w : World) (a : Option Addr) (s : Nat) (G : Nat → El) : SlL w a s 0 G := ⟨fun _ => [], .inl rfl, fun k hk => by omega⟩

/-- Struct k as it is read. -/
theorem SlL.at (h : SlL w a s n G) {k : Nat} (hk : k < n) : ∃ b off a1 a2 c1 c2, a = some ⟨b, off, none⟩ ∧ b < w.heap.size ∧ (∀ j, j < s → w.cell? ⟨b, off + k * s + j, none⟩ = (els (G k) a1 a2 c1 c2)[j]?) ∧ SlI w a1 (G k).ws ∧ SlB w a2 (G k).bs := by
  obtain ⟨F, h1, h2⟩ := h
  obtain ⟨b, off, ha, hb, hc⟩ := SlS.at h1 hk
  obtain ⟨a1, a2, c1, c2, e, s1, s2⟩ := h2 k hk
  rw [e] at hc
  exact ⟨b, off, a1, a2, c1, c2, ha, hb, hc, s1, s2⟩
end

/-- Three stretches of a struct's cells. -/
theorem els_at (p q r : List Value) (x y : Value) (j : Nat) : (p ++ (x :: y :: q))[j]? = if j < p.length then p[j]? else if j = p.length then some x else if j = p.length + 1 then some y else q[j - p.length - 2]? := by
  by_cases h : j < p.length
  · rw [if_pos h, List.getElem?_append_left h]
  · rw [if_neg h, List.getElem?_append_right (by omega)]
    by_cases h1 : j = p.length
    · rw [if_pos h1, h1]; simp
    · rw [if_neg h1]
      by_cases h2 : j = p.length + 1
      · rw [if_pos h2, h2]; simp
      · rw [if_neg h2]
        obtain ⟨d, rfl⟩ : ∃ d, j = p.length + 2 + d := ⟨j - p.length - 2, by omega⟩
        rw [show p.length + 2 + d - p.length = d + 1 + 1 by omega]
        simp

/-- One struct is marked. -/
theorem mark_el {wr W1 W2 W3 : World} {base g o c N z S : Nat} {t : TypeId} {F : Nat → List Value} {β : Nat → Nat} {G : Nat → El} {a1 a2 : Option Addr} {c1 c2 : Nat} {p' q' : List Value} {ws' : List Int} {bs' : List Bool}
    (ht1 : t ≠ 3) (ht2 : t ≠ 4) (hC : RowO wr g t S o N F) (hb : base ≤ g) (hI : InE wr base β F G N) (hz : z < N)
    (hF : F z = els (G z) a1 a2 c1 c2) (o1 : OwnI wr (β z) (.slice a1 (G z).ws.length c1) (G z).ws) (o2 : OwnB wr (β z) (.slice a2 (G z).bs.length c2) (G z).bs) (k1 : ∀ k, (Value.slice a1 (G z).ws.length c1).ownBlock = some k → k < β (z + 1)) (k2 : ∀ k, (Value.slice a2 (G z).bs.length c2).ownBlock = some k → k < β (z + 1))
    (hS : S = (G z).pre.length + 2 + (G z).post.length) (hp : p'.length = (G z).pre.length) (hq : q'.length = (G z).post.length) (hw : ws'.length = (G z).ws.length) (hbl : bs'.length = (G z).bs.length)
    (hW1 : W1 = setL wr g (o + z * S) p')
    (m1 : OwnI W2 (β z) (.slice a1 (G z).ws.length c1) ws') (g1 : W1.grownBy W2 (Value.slice a1 (G z).ws.length c1).ownBlock) (m2 : OwnB W3 (β z) (.slice a2 (G z).bs.length c2) bs') (g2 : W2.grownBy W3 (Value.slice a2 (G z).bs.length c2).ownBlock) :
    OwnL (setL W3 g (o + z * S + (p'.length + 2)) q') base t S (.slice (some ⟨g, o, none⟩) N c) N (fun k => if k = z then ⟨p', ws', bs', q'⟩ else G k) ∧ Below base wr (setL W3 g (o + z * S + (p'.length + 2)) q') := by
  obtain ⟨h0, hm, hP⟩ := hI
  have hlt := hC.lt
  obtain ⟨cs, hX⟩ := hC.exB
  have C1 : RowO W1 g t S o N (fun i => if i = z then els ⟨p', (G z).ws, (G z).bs, (G z).post⟩ a1 a2 c1 c2 else F i) := by
    rw [hW1]
    refine hC.upd (i := 0) hz p' _ (by omega) (fun j hj => ?_)
    rw [hF]
    simp only [els]
    rw [els_at p' _ [], els_at (G z).pre _ [], hp]
    by_cases e : j < (G z).pre.length
    · rw [if_pos e, if_pos (by omega)]; simp
    · rw [if_neg (show ¬ (0 ≤ j ∧ j < 0 + (G z).pre.length) by omega), if_neg e, if_neg e]
  have G1 : wr.grownBy W1 (some g) := by rw [hW1]; exact setL_gw _ _ _
  have p1 : OwnI W1 (β z) (.slice a1 (G z).ws.length c1) (G z).ws := o1.kept G1 (.inr (row_noBlk o1 hX ht1))
  have p2 : OwnB W1 (β z) (.slice a2 (G z).bs.length c2) (G z).bs := o2.kept G1 (.inr (row_noBlk o2 hX ht2))
  have C2 := C1.keptV p1 g1 ht1
  have p2' : OwnB W2 (β z) (.slice a2 (G z).bs.length c2) (G z).bs := p2.kept g1 (ne_typesE p2 p1 (by decide))
  have C3 := C2.keptV p2' g2 ht2
  obtain ⟨cs3, hX3⟩ := C3.exB
  have m1' : OwnI W3 (β z) (.slice a1 (G z).ws.length c1) ws' := m1.kept g2 (ne_typesE m1 p2' (by decide))
  have G4 : W3.grownBy (setL W3 g (o + z * S + (p'.length + 2)) q') (some g) := setL_gw _ _ _
  have C4 := C3.upd (i := p'.length + 2) hz q' (els ⟨p', ws', bs', q'⟩ a1 a2 c1 c2) (by omega) (fun j hj => by
    simp only [if_pos, els]
    rw [els_at p' _ [], els_at p' _ [], hw, hbl]
    by_cases e : j < p'.length
    · rw [if_pos e, if_neg (by omega), if_pos e]
    · by_cases e1 : j = p'.length
      · rw [if_neg e, if_pos e1, if_neg (by omega), if_neg e, if_pos e1]
      · by_cases e2 : j = p'.length + 1
        · rw [if_neg e, if_neg e1, if_pos e2, if_neg (by omega), if_neg e, if_neg e1, if_pos e2]
        · rw [if_neg e, if_neg e1, if_neg e2, if_pos (by omega), show j - (p'.length + 2) = j - p'.length - 2 by omega])
  have hx1 : ∀ gx, (Value.slice a1 (G z).ws.length c1).ownBlock = some gx → β z ≤ gx ∧ gx < β (z + 1) := fun gx e => ⟨(World.ownsRow.lt o1 gx e).1, k1 gx e⟩
  have hx2 : ∀ gx, (Value.slice a2 (G z).bs.length c2).ownBlock = some gx → β z ≤ gx ∧ gx < β (z + 1) := fun gx e => ⟨(World.ownsRow.lt o2 gx e).1, k2 gx e⟩
  have hbz : base ≤ β z := Nat.le_trans h0 (bt_mono hm (Nat.zero_le z))
  refine ⟨⟨_, β, .inr ⟨g, o, c, rfl, hb, C4⟩, h0, hm, fun k hk => ?_⟩, ?_⟩
  · by_cases e : k = z
    · subst e
      simp only [if_pos]
      refine ⟨a1, a2, c1, c2, rfl, ?_, ?_, ?_, ?_⟩
      · simp only [hw]
        exact m1'.kept G4 (.inr (row_noBlk m1' hX3 ht1))
      · simp only [hbl]
        exact m2.kept G4 (.inr (row_noBlk m2 hX3 ht2))
      · simp only [hw]; exact k1
      · simp only [hbl]; exact k2
    · simp only [if_neg e]
      have hd : ∀ gx, β z ≤ gx ∧ gx < β (z + 1) → gx < β k ∨ β (k + 1) ≤ gx := by
        intro gx ⟨q1, q2⟩
        rcases Nat.lt_or_ge k z with h9 | h9
        · right; have := bt_mono hm (show k + 1 ≤ z by omega); omega
        · left; have := bt_mono hm (show z + 1 ≤ k by omega); omega
      have A1 := (hP k hk).kept G1 (.inr (.inr ⟨_, ⟨cs, hX⟩, ht1, ht2⟩))
      have A2 := A1.keptV g1 (fun gx e => hd gx (hx1 gx e))
      have A3 := A2.keptV g2 (fun gx e => hd gx (hx2 gx e))
      exact A3.kept G4 (.inr (.inr ⟨_, ⟨cs3, hX3⟩, ht1, ht2⟩))
  · by_cases hs : base ≤ wr.heap.size
    · have B1 : Below base wr W1 := (Below.refl base wr).grown G1 hs (fun k hk => by have := Option.some.inj hk; omega)
      have B2 : Below base wr W2 := B1.grown g1 (Nat.le_trans hs G1.size) (fun k hk => Nat.le_trans hbz (hx1 k hk).1)
      have B3 : Below base wr W3 := B2.grown g2 (Nat.le_trans hs (Nat.le_trans G1.size g1.size)) (fun k hk => Nat.le_trans hbz (hx2 k hk).1)
      exact B3.grown G4 (Nat.le_trans hs (Nat.le_trans G1.size (Nat.le_trans g1.size g2.size))) (fun k hk => by have := Option.some.inj hk; omega)
    · omega

end Go.Proofs.Ytmhdneenjoelfaa
