/- Rows of structs: blocks of n elements of s cells each. -/
import Derived.Test.YtmhdneenjoelfaaBox
import Derived.Lib.SmallJoins
import Derived.Laws.MakeOwn
namespace Go.Proofs.Ytmhdneenjoelfaa
open Go.RowKit Go.Joins

set_option linter.unusedVariables false

theorem idx_inj {s i k j l : Nat} (hj : j < s) (hl : l < s) (h : i * s + j = k * s + l) : i = k ∧ j = l := by
  have e1 : (i * s + j) / s = i := by rw [Nat.mul_comm, Nat.mul_add_div (by omega), Nat.div_eq_of_lt hj, Nat.add_zero]
  have e2 : (k * s + l) / s = k := by rw [Nat.mul_comm, Nat.mul_add_div (by omega), Nat.div_eq_of_lt hl, Nat.add_zero]
  have : i = k := by rw [← e1, h, e2]
  subst this
  exact ⟨rfl, by omega⟩

/-- The cells of a block from o on are vs. -/
def CsAt (w : World) (g o : Nat) (vs : List Value) : Prop := ∀ j, j < vs.length → w.cell? ⟨g, o + j, none⟩ = vs[j]?

/-- A block of n elements, s cells each; element k has the cells F k. -/
def RowS (w : World) (g : Nat) (t : TypeId) (s n : Nat) (F : Nat → List Value) : Prop :=
  ∃ cs, w.heap[g]? = some (.cells cs t (0, 0)) ∧ cs.size = n * s ∧ ∀ k, k < n → ∀ j, j < s → cs[k * s + j]? = (F k)[j]?

/-- Stores of vs, one behind the other. -/
def setL (w : World) (g : Nat) : Nat → List Value → World
  | _, [] => w
  | o, v :: vs => setL (w.setCell ⟨g, o, none⟩ v) g (o + 1) vs

theorem setL_block {g : Nat} {t : TypeId} {fr : Nat × Nat} : ∀ (vs : List Value) (w : World) (o : Nat) (cs : Array Value), w.heap[g]? = some (.cells cs t fr) →
    ∃ cs', (setL w g o vs).heap[g]? = some (.cells cs' t fr) ∧ cs'.size = cs.size ∧ ∀ i, i < cs.size → cs'[i]? = if o ≤ i ∧ i < o + vs.length then vs[i - o]? else cs[i]?
  | [], w, o, cs, h => ⟨cs, h, rfl, fun i _ => by rw [if_neg (by simp)]⟩
  | v :: vs, w, o, cs, h => by
    obtain ⟨cs', h1, h2, h3⟩ := setL_block vs (w.setCell ⟨g, o, none⟩ v) (o + 1) (cs.setIfInBounds o v) (block_setCell h v)
    refine ⟨cs', h1, by simpa using h2, fun i hi => ?_⟩
    rw [h3 i (by simpa using hi)]
    by_cases e : i = o
    · subst e
      rw [if_neg (by omega), if_pos (by simp)]
      simp [hi]
    · by_cases e2 : o ≤ i ∧ i < o + (v :: vs).length
      · rw [if_pos (by simp at e2; omega), if_pos e2]
        obtain ⟨d, rfl⟩ : ∃ d, i = o + 1 + d := ⟨i - (o + 1), by omega⟩
        rw [show o + 1 + d - (o + 1) = d by omega, show o + 1 + d - o = d + 1 by omega]
        simp
      · rw [if_neg (by simp at e2; omega), if_neg e2, Array.getElem?_setIfInBounds_ne (by omega)]

theorem setL_size (vs : List Value) : ∀ (w : World) (g o : Nat), (setL w g o vs).heap.size = w.heap.size := by
  induction vs with
  | nil => intro w g o; rfl
  | cons v vs ih => intro w g o; show (setL (w.setCell ⟨g, o, none⟩ v) g (o + 1) vs).heap.size = _; rw [ih]; simp [World.setCell]

theorem setL_below {B g : Nat} {w0 : World} (hg : B ≤ g) : ∀ (vs : List Value) (w : World) (o : Nat), Below B w0 w → Below B w0 (setL w g o vs)
  | [], _, _, h => h
  | v :: vs, w, o, h => setL_below hg vs (w.setCell ⟨g, o, none⟩ v) (o + 1) (h.setCell hg v)

theorem RowS.lt {w : World} {g : Nat} {t : TypeId} {s n : Nat} {F : Nat → List Value} (h : RowS w g t s n F) : g < w.heap.size := by
  obtain ⟨cs, h, _⟩ := h
  exact (Array.getElem?_eq_some_iff.1 h).1

theorem RowS.cell {w : World} {g : Nat} {t : TypeId} {s n : Nat} {F : Nat → List Value} (h : RowS w g t s n F) {k j : Nat} (hk : k < n) (hj : j < s) : w.cell? ⟨g, k * s + j, none⟩ = (F k)[j]? := by
  obtain ⟨cs, h1, _, h3⟩ := h
  rw [cell_of_block h1]
  exact h3 k hk j hj

theorem RowS.fro {w : World} {g : Nat} {t : TypeId} {s n : Nat} {F : Nat → List Value} (h : RowS w g t s n F) (o : Nat) : w.frozen? ⟨g, o, none⟩ = false := by
  obtain ⟨cs, h1, _⟩ := h
  exact unfrozen_of_block h1 o

theorem RowS.below {w w' : World} {g : Nat} {t : TypeId} {s n : Nat} {F : Nat → List Value} (h : RowS w g t s n F) (hb : Below w.heap.size w w') : RowS w' g t s n F := by
  have hl := h.lt
  obtain ⟨cs, h1, h2, h3⟩ := h
  exact ⟨cs, by rw [hb.block _ hl]; exact h1, h2, h3⟩

theorem RowS.congr {w : World} {g : Nat} {t : TypeId} {s n : Nat} {F G : Nat → List Value} (h : RowS w g t s n F) (he : ∀ k, k < n → F k = G k) : RowS w g t s n G := by
  obtain ⟨cs, h1, h2, h3⟩ := h
  exact ⟨cs, h1, h2, fun k hk j hj => by rw [← he k hk]; exact h3 k hk j hj⟩

theorem RowS.kept {w w' : World} {g : Nat} {t : TypeId} {s n : Nat} {F : Nat → List Value} {row : Option Nat} (h : RowS w g t s n F) (hg : w.grownBy w' row) (hne : row ≠ some g) : RowS w' g t s n F := by
  have hl := h.lt
  obtain ⟨cs, h1, h2, h3⟩ := h
  exact ⟨cs, by rw [hg.block g hl (fun e => hne e.symm)]; exact h1, h2, h3⟩

theorem RowS.set {w : World} {g : Nat} {t : TypeId} {s n : Nat} {F : Nat → List Value} (h : RowS w g t s n F) {k : Nat} (hk : k < n) (vs : List Value) (hv : vs.length = s) : RowS (setL w g (k * s) vs) g t s n (fun i => if i = k then vs else F i) := by
  obtain ⟨cs, h1, h2, h3⟩ := h
  obtain ⟨cs', g1, g2, g3⟩ := setL_block vs w (k * s) cs h1
  refine ⟨cs', g1, by omega, fun i hi j hj => ?_⟩
  have hin : i * s + j < cs.size := by
    rw [h2]
    have : (i + 1) * s ≤ n * s := Nat.mul_le_mul_right s hi
    rw [Nat.add_mul, Nat.one_mul] at this
    omega
  rw [g3 _ hin]
  by_cases e : i = k
  · subst e
    rw [if_pos (by omega), Nat.add_sub_cancel_left]
    simp
  · rw [if_neg]
    · rw [h3 i hi j hj]
      simp [e]
    · intro ⟨e1, e2⟩
      obtain ⟨d, hd⟩ : ∃ d, i * s + j = k * s + d := ⟨i * s + j - k * s, by omega⟩
      exact e (idx_inj hj (by omega) hd).1

/-- make of structs: n times the zero value. -/
theorem run_make_st {P : Program} (t e : TypeId) (z : Value) (s bytes : Nat) (ht : P.underlying t = some (.slice e)) (hinfo : (P.info? e).map (fun i => (i.zero, i.size, i.bytes)) = some (some z, s, bytes))
    (kl kc : IntKind) (n : Nat) (hbytes : bytes * n ≤ 281474976710656) (h63 : n ≤ 9223372036854775807) (w : World) :
    (Instr.makeSlice t (.int kl (n : Int)) (.int kc (n : Int))).run P w = .ok (.slice (some ⟨w.heap.size, 0, none⟩) n n) (w.alloc (.cells (madeCells z.cells (n * s)) e)) := by
  obtain ⟨i, hi, hzz⟩ := Option.map_eq_some_iff.1 hinfo
  simp only [Prod.mk.injEq] at hzz
  obtain ⟨hz, hs, hb⟩ := hzz
  have hb' : (i.bytes : Int) * (n : Int) ≤ 281474976710656 := by
    have h : ((i.bytes * n : Nat) : Int) ≤ 281474976710656 := by rw [hb]; omega
    rwa [Int.natCast_mul] at h
  have hr := run_make (P := P) w t e i z ht hi hz kl kc n n (by omega) (Int.le_refl _) hb' (by omega)
  simp only [Int.toNat_natCast, hs] at hr
  exact hr

theorem RowS.made (w : World) (zs : List Value) (n : Nat) (t : TypeId) (h0 : 0 < zs.length) : RowS (w.alloc (.cells (madeCells zs.toArray (n * zs.length)) t)) w.heap.size t zs.length n (fun _ => zs) := by
  refine ⟨madeCells zs.toArray (n * zs.length), (by show (w.heap.push _)[w.heap.size]? = _; simp), size_madeCells _ _, fun k hk j hj => ?_⟩
  have hin : k * zs.length + j < n * zs.length := by
    have : (k + 1) * zs.length ≤ n * zs.length := Nat.mul_le_mul_right _ hk
    rw [Nat.add_mul, Nat.one_mul] at this
    omega
  have hm : (k * zs.length + j) % zs.length = j := by rw [Nat.add_comm, Nat.add_mul_mod_self_right, Nat.mod_eq_of_lt hj]
  simp [madeCells, hin, hm, hj]

/-- A slice of structs that is read. -/
def SlS (w : World) (a : Option Addr) (s n : Nat) (F : Nat → List Value) : Prop :=
  n = 0 ∨ ∃ b off, a = some ⟨b, off, none⟩ ∧ b < w.heap.size ∧ ∀ k, k < n → ∀ j, j < s → w.cell? ⟨b, off + k * s + j, none⟩ = (F k)[j]?

theorem SlS.below {w w' : World} {a : Option Addr} {s n : Nat} {F : Nat → List Value} (h : SlS w a s n F) (hb : Below w.heap.size w w') : SlS w' a s n F := by
  rcases h with h | ⟨b, off, ha, hlt, hc⟩
  · exact .inl h
  · exact .inr ⟨b, off, ha, by have := hb.size; omega, fun k hk j hj => by rw [hb.cell (p := ⟨b, off + k * s + j, none⟩) hlt]; exact hc k hk j hj⟩

theorem SlS.at {w : World} {a : Option Addr} {s n : Nat} {F : Nat → List Value} (h : SlS w a s n F) {k : Nat} (hk : k < n) : ∃ b off, a = some ⟨b, off, none⟩ ∧ b < w.heap.size ∧ ∀ j, j < s → w.cell? ⟨b, off + k * s + j, none⟩ = (F k)[j]? := by
  rcases h with h | ⟨b, off, ha, hlt, hc⟩
  · omega
  · exact ⟨b, off, ha, hlt, hc k hk⟩

theorem RowS.sl {w : World} {g : Nat} {t : TypeId} {s n : Nat} {F : Nat → List Value} (h : RowS w g t s n F) : SlS w (some ⟨g, 0, none⟩) s n F :=
  .inr ⟨g, 0, rfl, h.lt, fun k hk j hj => by rw [Nat.zero_add]; exact h.cell hk hj⟩

end Go.Proofs.Ytmhdneenjoelfaa
