/- Texts that the proof needs, joined: Pt7 Jn0. -/
import Derived.Test.YtegckbfbmbiogaaV6
namespace Go.Proofs.Ytegckbfbmbiogaa
open Go.RowKit Go.Joins
set_option linter.unusedVariables false
set_option linter.unusedSimpArgs false
def RowC (w : World) (g : Nat) (t : TypeId) (s n : Nat) (F : Nat → List Value) : Prop :=
  ∃ cs, w.heap[g]? = some (.cells cs t (0, 0)) ∧ n * s ≤ cs.size ∧ ∀ k, k < n → ∀ j, j < s → cs[k * s + j]? = (F k)[j]?
theorem RowC.lt {w : World} {g : Nat} {t : TypeId} {s n : Nat} {F : Nat → List Value} (h : RowC w g t s n F) : g < w.heap.size := by
  obtain ⟨cs, h, _⟩ := h
  exact (Array.getElem?_eq_some_iff.1 h).1
theorem RowC.cell {w : World} {g : Nat} {t : TypeId} {s n : Nat} {F : Nat → List Value} (h : RowC w g t s n F) {k j : Nat} (hk : k < n) (hj : j < s) : w.cell? ⟨g, k * s + j, none⟩ = (F k)[j]? := by
  obtain ⟨cs, h1, _, h3⟩ := h
  rw [cell_of_block h1]
  exact h3 k hk j hj
theorem RowC.fro {w : World} {g : Nat} {t : TypeId} {s n : Nat} {F : Nat → List Value} (h : RowC w g t s n F) (o : Nat) : w.frozen? ⟨g, o, none⟩ = false := by
  obtain ⟨cs, h1, _⟩ := h
  exact unfrozen_of_block h1 o
theorem RowC.below {w w' : World} {g : Nat} {t : TypeId} {s n : Nat} {F : Nat → List Value} (h : RowC w g t s n F) (hb : Below w.heap.size w w') : RowC w' g t s n F := by
  have hl := h.lt
  obtain ⟨cs, h1, h2, h3⟩ := h
  exact ⟨cs, by rw [hb.block _ hl]; exact h1, h2, h3⟩
theorem RowC.kept {w w' : World} {g : Nat} {t : TypeId} {s n : Nat} {F : Nat → List Value} {row : Option Nat} (h : RowC w g t s n F) (hg : w.grownBy w' row) (hne : row ≠ some g) : RowC w' g t s n F := by
  have hl := h.lt
  obtain ⟨cs, h1, h2, h3⟩ := h
  exact ⟨cs, by rw [hg.block g hl (fun e => hne e.symm)]; exact h1, h2, h3⟩
theorem RowC.set {w : World} {g : Nat} {t : TypeId} {s n : Nat} {F : Nat → List Value} (h : RowC w g t s n F) {k : Nat} (hk : k < n) (vs : List Value) (hv : vs.length = s) : RowC (setL w g (k * s) vs) g t s n (fun i => if i = k then vs else F i) := by
  obtain ⟨cs, h1, h2, h3⟩ := h
  obtain ⟨cs', g1, g2, g3⟩ := setL_block vs w (k * s) cs h1
  refine ⟨cs', g1, by omega, fun i hi j hj => ?_⟩
  have hin : i * s + j < cs.size := by
    have : (i + 1) * s ≤ n * s := Nat.mul_le_mul_right s hi
    rw [Nat.add_mul, Nat.one_mul] at this
    omega
  rw [g3 _ hin]
  by_cases e : i = k
  · subst e
    rw [if_pos (by omega), Nat.add_sub_cancel_left]
    simp
  · rw [if_neg]
    · rw [h3 i hi j hj]
      simp [e]
    · intro ⟨e1, e2⟩
      obtain ⟨d, hd⟩ : ∃ d, i * s + j = k * s + d := ⟨i * s + j - k * s, by omega⟩
      exact e (idx_inj hj (by omega) hd).1
theorem RowC.exB {w : World} {g : Nat} {t : TypeId} {s n : Nat} {F : Nat → List Value} (h : RowC w g t s n F) : ExB w g t := by
  obtain ⟨cs, h1, _⟩ := h
  exact ⟨cs, h1⟩
def OwnC (w : World) (base : Nat) (t : TypeId) (s : Nat) (v : Value) (n : Nat) (F : Nat → List Value) : Prop :=
  (n = 0 ∧ ∃ a c, v = .slice a 0 c) ∨ ∃ g c, v = .slice (some ⟨g, 0, none⟩) n c ∧ base ≤ g ∧ RowC w g t s n F
theorem OwnC.below {w w' : World} {base : Nat} {t : TypeId} {s : Nat} {v : Value} {n : Nat} {F : Nat → List Value} (h : OwnC w base t s v n F) (hb : Below w.heap.size w w') : OwnC w' base t s v n F := by
  rcases h with h | ⟨g, c, h1, h2, h3⟩
  · exact .inl h
  · exact .inr ⟨g, c, h1, h2, h3.below hb⟩
theorem OwnC.mono {w : World} {base base' : Nat} {t : TypeId} {s : Nat} {v : Value} {n : Nat} {F : Nat → List Value} (h : OwnC w base t s v n F) (hb : base' ≤ base) : OwnC w base' t s v n F := by
  rcases h with h | ⟨g, c, h1, h2, h3⟩
  · exact .inl h
  · exact .inr ⟨g, c, h1, by omega, h3⟩
theorem OwnC.keptLt {w w' : World} {base gx : Nat} {t : TypeId} {s : Nat} {v : Value} {n : Nat} {F : Nat → List Value} (h : OwnC w base t s v n F) (hg : w.grownBy w' (some gx)) (hx : gx < base) : OwnC w' base t s v n F := by
  rcases h with h | ⟨g, c, h1, h2, h3⟩
  · exact .inl h
  · exact .inr ⟨g, c, h1, h2, h3.kept hg (by intro e; have := Option.some.inj e; omega)⟩
theorem OwnC.shape {w : World} {base : Nat} {t : TypeId} {s : Nat} {v : Value} {n : Nat} {F : Nat → List Value} (h : OwnC w base t s v n F) : ∃ a c, v = .slice a n c := by
  rcases h with ⟨rfl, h⟩ | ⟨g, c, h1, _⟩
  · exact h
  · exact ⟨_, c, h1⟩
theorem OwnC.sl {w : World} {base : Nat} {t : TypeId} {s n m c : Nat} {a : Option Addr} {F : Nat → List Value} (h : OwnC w base t s (.slice a m c) n F) : SlS w a s n F := by
  rcases h with ⟨h, _⟩ | ⟨g, c', h1, _, h3⟩
  · exact .inl h
  · simp only [Value.slice.injEq] at h1
    exact .inr ⟨g, 0, h1.1, h3.lt, fun k hk j hj => by rw [Nat.zero_add]; exact h3.cell hk hj⟩
def PtAt (w : World) (lo hi : Nat) (vs : List Value) (P : Pa) : Prop :=
  ∃ a1 a2 c1 c2, vs = ptl P a1 a2 c1 c2 ∧ OwnI w lo (.slice a1 P.ws.length c1) P.ws ∧ OwnB w lo (.slice a2 P.bs.length c2) P.bs ∧
    (∀ k, (Value.slice a1 P.ws.length c1).ownBlock = some k → k < hi) ∧ (∀ k, (Value.slice a2 P.bs.length c2).ownBlock = some k → k < hi)
theorem PtAt.below {w w' : World} {lo hi : Nat} {vs : List Value} {P : Pa} (h : PtAt w lo hi vs P) (hb : Below w.heap.size w w') : PtAt w' lo hi vs P := by
  obtain ⟨a1, a2, c1, c2, h1, h2, h3, h4, h5⟩ := h
  exact ⟨a1, a2, c1, c2, h1, h2.below hb, h3.below hb, h4, h5⟩
theorem PtAt.mono {w : World} {lo lo' hi : Nat} {vs : List Value} {P : Pa} (h : PtAt w lo hi vs P) (hl : lo' ≤ lo) : PtAt w lo' hi vs P := by
  obtain ⟨a1, a2, c1, c2, h1, h2, h3, h4, h5⟩ := h
  exact ⟨a1, a2, c1, c2, h1, h2.mono hl, h3.mono hl, h4, h5⟩
theorem PtAt.kept {w w' : World} {lo hi : Nat} {vs : List Value} {P : Pa} {gx : Nat} (h : PtAt w lo hi vs P) (hg : w.grownBy w' (some gx)) (hx : gx < lo ∨ hi ≤ gx ∨ ∃ t, ExB w gx t ∧ t ≠ 3 ∧ t ≠ 4) : PtAt w' lo hi vs P := by
  obtain ⟨a1, a2, c1, c2, h1, h2, h3, h4, h5⟩ := h
  refine ⟨a1, a2, c1, c2, h1, h2.kept hg (.inr ?_), h3.kept hg (.inr ?_), h4, h5⟩
  · intro e
    rcases hx with hx | hx | ⟨t, ⟨cs, hx⟩, ht, _⟩
    · have := (World.ownsRow.lt h2 gx e).1; omega
    · have := h4 gx e; omega
    · exact row_noBlk h2 hx ht e
  · intro e
    rcases hx with hx | hx | ⟨t, ⟨cs, hx⟩, _, ht⟩
    · have := (World.ownsRow.lt h3 gx e).1; omega
    · have := h5 gx e; omega
    · exact row_noBlk h3 hx ht e
theorem PtAt.len {w : World} {lo hi : Nat} {vs : List Value} {P : Pa} (h : PtAt w lo hi vs P) : vs.length = 8 := by
  obtain ⟨a1, a2, c1, c2, rfl, _⟩ := h
  rfl
def InP (w : World) (base : Nat) (β : Nat → Nat) (F : Nat → List Value) (Ps : List Pa) (z : Nat) : Prop :=
  base ≤ β 0 ∧ (∀ k, β k ≤ β (k + 1)) ∧ ∀ k, k < z → PtAt w (β k) (β (k + 1)) (F k) (Ps.getD k default)
theorem InP.start (w : World) (base : Nat) (F : Nat → List Value) (Ps : List Pa) : InP w base (fun _ => base) F Ps 0 := ⟨Nat.le_refl _, fun _ => Nat.le_refl _, fun k hk => by omega⟩
theorem InP.below {w w' : World} {base : Nat} {β : Nat → Nat} {F : Nat → List Value} {Ps : List Pa} {z : Nat} (h : InP w base β F Ps z) (hb : Below w.heap.size w w') : InP w' base β F Ps z := ⟨h.1, h.2.1, fun k hk => (h.2.2 k hk).below hb⟩
theorem InP.keptT {w w' : World} {base gx : Nat} {β : Nat → Nat} {F : Nat → List Value} {Ps : List Pa} {z : Nat} {t : TypeId} (h : InP w base β F Ps z) (hg : w.grownBy w' (some gx)) (hx : ExB w gx t) (h1 : t ≠ 3) (h2 : t ≠ 4) : InP w' base β F Ps z := ⟨h.1, h.2.1, fun k hk => (h.2.2 k hk).kept hg (.inr (.inr ⟨t, hx, h1, h2⟩))⟩
theorem beta_mono {β : Nat → Nat} (h : ∀ k, β k ≤ β (k + 1)) : ∀ {i j : Nat}, i ≤ j → β i ≤ β j := by
  intro i j hij
  induction hij with
  | refl => exact Nat.le_refl _
  | step _ ih => exact Nat.le_trans ih (h _)
theorem InP.keptLt {w w' : World} {base gx : Nat} {β : Nat → Nat} {F : Nat → List Value} {Ps : List Pa} {z : Nat} (h : InP w base β F Ps z) (hg : w.grownBy w' (some gx)) (hx : gx < base) : InP w' base β F Ps z :=
  ⟨h.1, h.2.1, fun k hk => (h.2.2 k hk).kept hg (.inl (by have := beta_mono h.2.1 (Nat.zero_le k); have := h.1; omega))⟩
theorem InP.push {w : World} {base lo z : Nat} {β : Nat → Nat} {F : Nat → List Value} {Ps : List Pa} {vs : List Value} {P : Pa} (h : InP w base β F Ps z) (hz : β z ≤ lo) (hlo : lo ≤ w.heap.size) (p : PtAt w lo w.heap.size vs P) (hP : Ps.getD z default = P) :
    InP w base (fun k => if k ≤ z then β k else w.heap.size) (fun k => if k = z then vs else F k) Ps (z + 1) := by
  refine ⟨h.1, fun k => ?_, fun k hk => ?_⟩
  · by_cases e : k + 1 ≤ z
    · simp only [if_pos e, if_pos (show k ≤ z by omega)]; exact h.2.1 k
    · by_cases e2 : k ≤ z
      · simp only [if_pos e2, if_neg e]
        have : k = z := by omega
        subst this; omega
      · simp only [if_neg e2, if_neg e]; exact Nat.le_refl _
  · by_cases e : k = z
    · subst e
      simp only [if_pos (Nat.le_refl k), if_neg (show ¬ k + 1 ≤ k by omega), if_pos]
      rw [hP]
      exact p.mono hz
    · simp only [if_pos (show k ≤ z by omega), if_pos (show k + 1 ≤ z by omega), if_neg e]
      exact h.2.2 k (by omega)
def OwnPs (w : World) (base : Nat) (v : Value) (Ps : List Pa) : Prop :=
  ∃ F β, OwnC w base 37 8 v Ps.length F ∧ InP w base β F Ps Ps.length
theorem OwnPs.below {w w' : World} {base : Nat} {v : Value} {Ps : List Pa} (h : OwnPs w base v Ps) (hb : Below w.heap.size w w') : OwnPs w' base v Ps := by
  obtain ⟨F, β, h1, h2⟩ := h
  exact ⟨F, β, h1.below hb, h2.below hb⟩
theorem OwnPs.keptLt {w w' : World} {base gx : Nat} {v : Value} {Ps : List Pa} (h : OwnPs w base v Ps) (hg : w.grownBy w' (some gx)) (hx : gx < base) : OwnPs w' base v Ps := by
  obtain ⟨F, β, h1, h2⟩ := h
  exact ⟨F, β, h1.keptLt hg hx, h2.keptLt hg hx⟩
theorem OwnPs.mono {w : World} {base base' : Nat} {v : Value} {Ps : List Pa} (h : OwnPs w base v Ps) (hb : base' ≤ base) : OwnPs w base' v Ps := by
  obtain ⟨F, β, h1, h2⟩ := h
  exact ⟨F, β, h1.mono hb, Nat.le_trans hb h2.1, h2.2⟩
theorem OwnPs.shape {w : World} {base : Nat} {v : Value} {Ps : List Pa} (h : OwnPs w base v Ps) : ∃ a c, v = .slice a Ps.length c := by
  obtain ⟨F, β, h1, h2⟩ := h
  exact h1.shape
theorem ownPs_nil (w : World) (base : Nat) (a : Option Addr) (c : Nat) : OwnPs w base (.slice a 0 c) [] := ⟨fun _ => [], fun _ => base, .inl ⟨rfl, a, c, rfl⟩, InP.start w base _ _⟩
theorem OwnPs.at {w : World} {base : Nat} {a : Option Addr} {m c : Nat} {Ps : List Pa} (h : OwnPs w base (.slice a m c) Ps) {k : Nat} (hk : k < Ps.length) : ∃ b off a1 a2 c1 c2, a = some ⟨b, off, none⟩ ∧
    w.cell? ⟨b, off + k * 8, none⟩ = some (.int .i64 (Ps.getD k default).p) ∧ w.cell? ⟨b, off + k * 8 + 1, none⟩ = some (.int .i64 (Ps.getD k default).t) ∧ w.cell? ⟨b, off + k * 8 + 2, none⟩ = some (.int .i64 (Ps.getD k default).kd) ∧ w.cell? ⟨b, off + k * 8 + 3, none⟩ = some (.int .i64 (Ps.getD k default).pl) ∧ w.cell? ⟨b, off + k * 8 + 4, none⟩ = some (.int .i64 (Ps.getD k default).n) ∧
    w.cell? ⟨b, off + k * 8 + 5, none⟩ = some (.slice a1 (Ps.getD k default).ws.length c1) ∧ w.cell? ⟨b, off + k * 8 + 6, none⟩ = some (.slice a2 (Ps.getD k default).bs.length c2) ∧ w.cell? ⟨b, off + k * 8 + 7, none⟩ = some (.int .i64 (Ps.getD k default).wa) ∧
    SlI w a1 (Ps.getD k default).ws ∧ SlB w a2 (Ps.getD k default).bs := by
  obtain ⟨F, β, h1, h2⟩ := h
  obtain ⟨b, off, ha, hb, hc⟩ := SlS.at h1.sl hk
  obtain ⟨a1, a2, c1, c2, e, o1, o2, _⟩ := h2.2.2 k hk
  rw [e] at hc
  exact ⟨b, off, a1, a2, c1, c2, ha, hc 0 (by decide), hc 1 (by decide), hc 2 (by decide), hc 3 (by decide), hc 4 (by decide), hc 5 (by decide), hc 6 (by decide), hc 7 (by decide), o1.sl.2, o2.sl.2⟩
end Go.Proofs.Ytegckbfbmbiogaa
namespace Go.Proofs.Ytegckbfbmbiogaa
open Go.RowKit Go.Joins
set_option linter.unusedVariables false
set_option linter.unusedSimpArgs false
structure An where
  kd : Int
  fl : Int
  pl : Int
  nn : Int
  ws : List Int
  bs : List Bool
instance : Inhabited An := ⟨⟨0, 0, 0, 0, [], []⟩⟩
def SlA (w : World) (a : Option Addr) (n : Nat) (A : Nat → An) : Prop :=
  n = 0 ∨ ∃ b off, a = some ⟨b, off, none⟩ ∧ b < w.heap.size ∧ ∀ k, k < n → ∃ a1 a2 c1 c2,
    w.cell? ⟨b, off + k * 6, none⟩ = some (.int .i64 (A k).kd) ∧ w.cell? ⟨b, off + k * 6 + 1, none⟩ = some (.int .i64 (A k).fl) ∧ w.cell? ⟨b, off + k * 6 + 2, none⟩ = some (.int .i64 (A k).pl) ∧ w.cell? ⟨b, off + k * 6 + 3, none⟩ = some (.int .i64 (A k).nn) ∧ w.cell? ⟨b, off + k * 6 + 4, none⟩ = some (.slice a1 (A k).ws.length c1) ∧ w.cell? ⟨b, off + k * 6 + 5, none⟩ = some (.slice a2 (A k).bs.length c2) ∧
    SlI w a1 (A k).ws ∧ SlB w a2 (A k).bs ∧ (A k).ws.length ≤ c1 ∧ (A k).bs.length ≤ c2
theorem SlA.below {w w' : World} {a : Option Addr} {n : Nat} {A : Nat → An} (h : SlA w a n A) (hb : Below w.heap.size w w') : SlA w' a n A := by
  rcases h with h | ⟨b, off, ha, hlt, hc⟩
  · exact .inl h
  · refine .inr ⟨b, off, ha, Nat.lt_of_lt_of_le hlt hb.size, fun k hk => ?_⟩
    obtain ⟨a1, a2, c1, c2, h0, h1, h2, h3, h4, h5, h6, h7, h8, h9⟩ := hc k hk
    exact ⟨a1, a2, c1, c2, (hb.cell (p := ⟨b, off + k * 6, none⟩) hlt).trans h0, (hb.cell (p := ⟨b, off + k * 6 + 1, none⟩) hlt).trans h1, (hb.cell (p := ⟨b, off + k * 6 + 2, none⟩) hlt).trans h2, (hb.cell (p := ⟨b, off + k * 6 + 3, none⟩) hlt).trans h3, (hb.cell (p := ⟨b, off + k * 6 + 4, none⟩) hlt).trans h4, (hb.cell (p := ⟨b, off + k * 6 + 5, none⟩) hlt).trans h5, h6.below hb, h7.below hb, h8, h9⟩
theorem SlA.at {w : World} {a : Option Addr} {n : Nat} {A : Nat → An} (h : SlA w a n A) {k : Nat} (hk : k < n) : ∃ b off a1 a2 c1 c2, a = some ⟨b, off, none⟩ ∧
    w.cell? ⟨b, off + k * 6, none⟩ = some (.int .i64 (A k).kd) ∧ w.cell? ⟨b, off + k * 6 + 1, none⟩ = some (.int .i64 (A k).fl) ∧ w.cell? ⟨b, off + k * 6 + 2, none⟩ = some (.int .i64 (A k).pl) ∧ w.cell? ⟨b, off + k * 6 + 3, none⟩ = some (.int .i64 (A k).nn) ∧ w.cell? ⟨b, off + k * 6 + 4, none⟩ = some (.slice a1 (A k).ws.length c1) ∧ w.cell? ⟨b, off + k * 6 + 5, none⟩ = some (.slice a2 (A k).bs.length c2) ∧
    SlI w a1 (A k).ws ∧ SlB w a2 (A k).bs ∧ (A k).ws.length ≤ c1 ∧ (A k).bs.length ≤ c2 := by
  rcases h with h | ⟨b, off, ha, hlt, hc⟩
  · omega
  · obtain ⟨a1, a2, c1, c2, h9⟩ := hc k hk
    exact ⟨b, off, a1, a2, c1, c2, ha, h9⟩
def ffF (A : Nat → An) (n k : Nat) : Int := if h : k < n then (if (A k).fl = 0 then ffF A n (k + 1) else (A k).fl) else 0
termination_by n - k
theorem ffF_hit {A : Nat → An} {n k : Nat} (h : k < n) (hh : ¬ (A k).fl = 0) : ffF A n k = (A k).fl := by rw [ffF, dif_pos h, if_neg hh]
theorem ffF_miss {A : Nat → An} {n k : Nat} (h : k < n) (hh : (A k).fl = 0) : ffF A n k = ffF A n (k + 1) := by rw [ffF, dif_pos h, if_pos hh]
theorem ffF_end {A : Nat → An} {n k : Nat} (h : ¬ k < n) : ffF A n k = 0 := by rw [ffF, dif_neg h]
set_option maxRecDepth 20000 in
set_option maxHeartbeats 2000000 in
theorem firstFault_any (a : Option Addr) (n cap : Nat) (A : Nat → An) (w : World) (h : SlA w a n A) (hn : n ≤ 1000) :
    Calls Try.prog 56 #[.slice a n cap] w fun e w' => e = .returned (.int .i64 (ffF A n 0)) ∧ Below w.heap.size w w' := by
  have HS : Hid (SlA w a n A) := h
  clear h
  go_enter Try.func56, Try.ntmps56
  go_wp2
  go_loopw [7] (fun i wr => ∃ z : Nat, z ≤ n ∧ i = .int .i64 z ∧ ffF A n 0 = ffF A n z ∧ Below w.heap.size w wr) (fun i _ => n - (intOf i).toNat)
  case atStart => exact ⟨0, Nat.zero_le _, rfl, rfl, Below.refl _ _⟩
  case round =>
    obtain ⟨z, hz, rfl, hff, hbl⟩ := hrel
    have HF : Hid (ffF A n 0 = ffF A n z) := hff
    clear hff
    by_cases hlt : z < n
    · have hi : (z : Int) < (n : Int) := by omega
      obtain ⟨b, off, a1, a2, c1, c2, rfl, h0, h1, h2, h3, h4, h5, _⟩ := (HS.out.below hbl).at hlt
      have B1 : Below w.heap.size w (wr.alloc (.cells #[.int .i64 (A z).kd, .int .i64 (A z).fl, .int .i64 (A z).pl, .int .i64 (A z).nn, .slice a1 (A z).ws.length c1, .slice a2 (A z).bs.length c2] 49)) := bel_next hbl (bel_alloc _ _)
      by_cases hf : (A z).fl = 0
      · have d : ((A z).fl == 0) = true := by simpa using hf
        have HF2 : Hid (ffF A n 0 = ffF A n (z + 1)) := HF.out.trans (ffF_miss hlt hf)
        rw [hf] at h1 B1
        clear hf hbl d
        go_wp2
        go_roundw
        case rel => exact ⟨z + 1, by omega, by go_num, HF2.out, B1⟩
        case measure => simp [intOf]; omega
      · have d : ((A z).fl == 0) = false := by simpa using hf
        have HF2 : Hid (ffF A n 0 = (A z).fl) := HF.out.trans (ffF_hit hlt hf)
        clear hbl
        go_wp2
        go_ret
        exact ⟨ret_int HF2.out.symm, B1⟩
    · have hi : ¬ (z : Int) < (n : Int) := by omega
      have HF2 : Hid (ffF A n 0 = 0) := HF.out.trans (ffF_end hlt)
      go_wp2
      go_ret
      exact ⟨ret_int HF2.out.symm, hbl⟩
end Go.Proofs.Ytegckbfbmbiogaa
