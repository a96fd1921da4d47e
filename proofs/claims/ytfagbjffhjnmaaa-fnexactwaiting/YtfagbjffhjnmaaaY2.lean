/- Texts that the proof needs, joined: ArgTr Q1 Q4 Bits Pack1 S1 WordAt1. -/
import Derived.Test.YtfagbjffhjnmaaaY1
import Derived.Deep.Slices
import Derived.Lib.SmallJoins
import Derived.WalkKit
namespace Go.Proofs.Ytfagbjffhjnmaaa
open Go.ChangeShapes Go.WideShapes Go.ChangeAt Go.RowKit Go.Deep Go.Joins
set_option linter.unusedVariables false
set_option linter.unusedSimpArgs false
inductive Sh where
  | int
  | bool
  | lst (s : Nat) (f : Nat → Sh)
def OfSh (w : World) : Sh → Value → Prop
  | .int, v => ∃ z, v = .int .i64 z
  | .bool, v => ∃ z, v = .bool z
  | .lst s f, v => ∃ a n c, v = .slice a n c ∧ n ≤ c ∧ n ≤ maxLen ∧ (n = 0 ∨ ∃ (g off : Nat) (F : Nat → List Value), a = some ⟨g, off, none⟩ ∧ g < w.heap.size ∧
      ∀ k, k < n → (F k).length = s ∧ ∀ j v, (F k)[j]? = some v → w.cell? ⟨g, off + k * s + j, none⟩ = some v ∧ OfSh w (f j) v)
def OfShL (w : World) (S : List Sh) (vs : List Value) : Prop := vs.length = S.length ∧ ∀ j v, vs[j]? = some v → OfSh w (S.getD j .int) v
def shF (P : Program) (sh : TypeId → Option (List Sh)) : List Field → Nat → Option (List Sh)
  | [], _ => some []
  | f :: r, o => match sh f.type, shF P sh r (o + P.cellsOf f.type) with
    | some l, some l' => if f.offset = o ∧ P.cellsOf f.type = l.length then some (l ++ l') else none
    | _, _ => none
def shT (P : Program) : Nat → TypeId → Option (List Sh)
  | 0, _ => none
  | n + 1, t => match P.underlying t with
    | some (.int .i64) => some [.int]
    | some .bool => some [.bool]
    | some (.slice e) => match shT P n e with
      | some l => if P.cellsOf e = l.length ∧ 0 < l.length then some [.lst l.length (fun j => l.getD j .int)] else none
      | none => none
    | some (.struct fs) => match shF P (shT P n) fs.toList 0 with
      | some l => if P.cellsOf t = l.length then some l else none
      | none => none
    | _ => none
section
variable {H : Type} {enc : TypeId × Value → H} {P : Program} {w : World} {base : Nat} {held : Bool}
theorem opened_shF {sh : TypeId → Option (List Sh)} {cs : List Value}
    (hsh : ∀ t S, sh t = some S → ∀ (fuel : Nat) cs' (y : DataW H × List MemPlace), DataW.trod enc P w base (fun _ => true) held fuel t cs' = some y → OfShL w S cs') :
    ∀ (fs : List Field) (o : Nat) (S : List Sh), shF P sh fs o = some S → (∀ (i : Nat) f, fs[i]? = some f → ∃ (n : Nat) (y : DataW H × List MemPlace), DataW.trod enc P w base (fun _ => true) held n f.type ((cs.drop f.offset).take (P.cellsOf f.type)) = some y) →
      ∀ j v, j < S.length → cs[o + j]? = some v → OfSh w (S.getD j .int) v
  | [], o, S, h, _, j, v, hj, hv => by
    simp only [shF, Option.some.injEq] at h
    subst h
    simp at hj
  | f :: r, o, S, h, hf, j, v, hj, hv => by
    unfold shF at h
    split at h
    · rename_i l l' h1 h2
      split at h
      · rename_i hc
        simp only [Option.some.injEq] at h
        subst h
        obtain ⟨n, y, hy⟩ := hf 0 f rfl
        obtain ⟨q1, q2⟩ := hsh _ _ h1 _ _ _ hy
        by_cases e : j < l.length
        · have := q2 j v (by
            rw [List.getElem?_take, if_pos (by omega), List.getElem?_drop, hc.1]
            exact hv)
          rw [List.getD_eq_getElem?_getD] at this ⊢
          rw [List.getElem?_append_left e]
          exact this
        · have := opened_shF hsh r _ l' h2 (fun i f' hf' => hf (i + 1) f' (by simpa using hf')) (j - l.length) v (by simp at hj; omega) (by
            rw [show o + P.cellsOf f.type + (j - l.length) = o + j by omega]
            exact hv)
          rw [List.getD_eq_getElem?_getD] at this ⊢
          rw [List.getElem?_append_right (by omega)]
          exact this
      · simp at h
    · simp at h
theorem opened_sh : ∀ (n : Nat) (t : TypeId) (S : List Sh), shT P n t = some S → ∀ (fuel : Nat) cs (y : DataW H × List MemPlace), DataW.trod enc P w base (fun _ => true) held fuel t cs = some y → OfShL w S cs
  | 0, t, S, h, _, _, _, _ => by simp [shT] at h
  | n + 1, t, S, h, fuel, cs, y, hy => by
    unfold shT at h
    split at h
    · rename_i ht
      simp only [Option.some.injEq] at h
      subst h
      obtain ⟨z, rfl, _⟩ := DataW.trod_int ht hy
      refine ⟨rfl, fun j v hv => ?_⟩
      match j, hv with
      | 0, hv => simp at hv; subst hv; exact ⟨z, rfl⟩
      | j + 1, hv => simp at hv
    · rename_i ht
      simp only [Option.some.injEq] at h
      subst h
      obtain ⟨z, rfl, _⟩ := DataW.trod_bool ht hy
      refine ⟨rfl, fun j v hv => ?_⟩
      match j, hv with
      | 0, hv => simp at hv; subst hv; exact ⟨z, rfl⟩
      | j + 1, hv => simp at hv
    · rename_i e ht
      split at h
      · rename_i l hl
        split at h
        · rename_i hc
          simp only [Option.some.injEq] at h
          subst h
          rcases open_slice ht hy with ⟨rfl, _⟩ | ⟨x, len, c, m, n', D, Pl, rfl, _, hlc, hcm, hmm, _, hx⟩
          · refine ⟨rfl, fun j v hv => ?_⟩
            match j, hv with
            | 0, hv => simp at hv; subst hv; exact ⟨none, 0, 0, rfl, Nat.le_refl _, Nat.zero_le _, .inl rfl⟩
            | j + 1, hv => simp at hv
          · simp only [if_true] at hmm
            subst hmm
            rw [hc.1] at hx
            obtain ⟨F, hF⟩ := choose_lt (α := List Value) (p := fun i cs' => w.cells? base (x.add (i * l.length)) l.length = some cs' ∧ DataW.trod enc P w base (fun _ => true) held n' e cs' = some (D i, Pl i)) (fun i hi => hx i hi)
            refine ⟨rfl, fun j v hv => ?_⟩
            match j, hv with
            | 0, hv =>
              simp at hv
              subst hv
              refine ⟨some x, len, m, rfl, hlc, by omega, ?_⟩
              by_cases e0 : len = 0
              · exact .inl e0
              · have hc0 := (World.cells?_some (hF 0 (by omega)).1)
                obtain ⟨b, off, spot⟩ := x
                have hc9 := hc0.2.2 0 hc.2
                obtain ⟨v0, hv0⟩ : ∃ v, (F 0)[0]? = some v := ⟨(F 0)[0]'(by rw [hc0.2.1]; exact hc.2), by simp⟩
                rw [hv0] at hc9
                have hspot : spot = none := by simpa [Addr.add] using World.cell?_spot hc9
                subst hspot
                refine .inr ⟨b, off, F, rfl, (by simpa [Addr.add] using World.block_lt_of_cell? _ _ hc9), fun k hk => ?_⟩
                have h1 := World.cells?_some (hF k (by omega)).1
                obtain ⟨q1, q2⟩ := opened_sh n e l hl _ _ _ (hF k (by omega)).2
                refine ⟨q1, fun j v hj => ⟨?_, q2 j v hj⟩⟩
                have h2 := h1.2.2 j (by rw [← q1]; exact (List.getElem?_eq_some_iff.1 hj).1)
                have e1 : ∀ (o n : Nat), (Addr.mk b o none).add n = ⟨b, o + n, none⟩ := fun o n => by
                  by_cases e : n = 0
                  · subst e; rfl
                  · simp [Addr.add, e]
                rw [e1, e1, hj] at h2
                exact h2
            | j + 1, hv => simp at hv
        · simp at h
      · simp at h
    · rename_i fs ht
      split at h
      · rename_i l hl
        split at h
        · rename_i hc
          simp only [Option.some.injEq] at h
          subst h
          obtain ⟨xs, m, _, hx, hlen, hxl, hg⟩ := DataW.trod_struct ht hy
          refine ⟨by rw [hlen, hc], fun j v hv => ?_⟩
          have hj : j < l.length := by
            have := (List.getElem?_eq_some_iff.1 hv).1
            omega
          exact opened_shF (cs := cs) (fun t' S' hs => opened_sh n t' S' hs) fs.toList 0 l hl (fun i f hf => by
            have hf' : fs[i]? = some f := by simpa using hf
            have := hg i f hf'
            have hi : i < xs.length := by rw [hxl]; exact (Array.getElem?_eq_some_iff.1 hf').1
            exact ⟨m, xs[i], by rw [this]; simp⟩) j v hj (by rw [Nat.zero_add]; exact hv)
        · simp at h
      · simp at h
    · simp at h
end
/- Rows of numbers and bits by their shape. -/
theorem OfSh.ints {w : World} {f : Nat → Sh} {v : Value} (h : OfSh w (.lst 1 f) v) (hf : f 0 = .int) : ∃ ws, Rd w 0 (intsT ws) v := by
  obtain ⟨a, n, c, rfl, h1, h2, h3⟩ := h
  rcases h3 with h3 | ⟨g, off, F, rfl, hg, hF⟩
  · subst h3
    exact ⟨[], a, c, rfl, h1, h2, .inl rfl⟩
  · obtain ⟨z, hz⟩ := choose_lt (α := Int) (n := n) (p := fun k z => w.cell? ⟨g, off + k, none⟩ = some (.int .i64 z)) (fun k hk => by
      obtain ⟨q1, q2⟩ := hF k hk
      obtain ⟨v, hv⟩ : ∃ v, (F k)[0]? = some v := ⟨(F k)[0]'(by omega), by simp⟩
      obtain ⟨q3, q4⟩ := q2 0 v hv
      rw [hf] at q4
      obtain ⟨z, rfl⟩ := q4
      exact ⟨z, by rw [Nat.mul_one, Nat.add_zero] at q3; exact q3⟩)
    refine ⟨(List.range n).map z, rd_ints (by simp) h1 h2 (.inr ⟨g, off, rfl, hg, fun i hi => ?_⟩) (fun _ _ => Nat.zero_le _)⟩
    simp at hi
    rw [hz i hi]
    simp [List.getD_eq_getElem?_getD, hi]
theorem OfSh.bools {w : World} {f : Nat → Sh} {v : Value} (h : OfSh w (.lst 1 f) v) (hf : f 0 = .bool) : ∃ bs, Rd w 0 (boolsT bs) v := by
  obtain ⟨a, n, c, rfl, h1, h2, h3⟩ := h
  rcases h3 with h3 | ⟨g, off, F, rfl, hg, hF⟩
  · subst h3
    exact ⟨[], a, c, rfl, h1, h2, .inl rfl⟩
  · obtain ⟨z, hz⟩ := choose_lt (α := Bool) (n := n) (p := fun k z => w.cell? ⟨g, off + k, none⟩ = some (.bool z)) (fun k hk => by
      obtain ⟨q1, q2⟩ := hF k hk
      obtain ⟨v, hv⟩ : ∃ v, (F k)[0]? = some v := ⟨(F k)[0]'(by omega), by simp⟩
      obtain ⟨q3, q4⟩ := q2 0 v hv
      rw [hf] at q4
      obtain ⟨z, rfl⟩ := q4
      exact ⟨z, by rw [Nat.mul_one, Nat.add_zero] at q3; exact q3⟩)
    refine ⟨(List.range n).map z, rd_bools (by simp) h1 h2 (.inr ⟨g, off, rfl, hg, fun i hi => ?_⟩) (fun _ _ => Nat.zero_le _)⟩
    simp at hi
    rw [hz i hi]
    simp [List.getD_eq_getElem?_getD, hi]
theorem OfSh.list {w : World} {s : Nat} {f : Nat → Sh} {v : Value} {α : Type} [Inhabited α] {T : α → List Tr} (h : OfSh w (.lst s f) v) (hof : ∀ vs : List Value, vs.length = s → (∀ j v, vs[j]? = some v → OfSh w (f j) v) → ∃ X : α, RdL w 0 (trs (T X)) vs) : ∃ (n : Nat) (g : Nat → α), Rd w 0 (.list s n (fun i => trs (T (g i)))) v := by
  obtain ⟨a, n, c, rfl, h1, h2, h3⟩ := h
  rcases h3 with h3 | ⟨g, off, F, rfl, hg, hF⟩
  · subst h3
    exact ⟨0, fun _ => default, a, c, rfl, h1, h2, .inl rfl⟩
  · obtain ⟨X, hX⟩ := choose_lt (α := α) (n := n) (p := fun k X => RdL w 0 (trs (T X)) (F k)) (fun k hk => hof _ (hF k hk).1 (fun j v hv => ((hF k hk).2 j v hv).2))
    exact ⟨n, X, some ⟨g, off, none⟩, c, rfl, h1, h2, .inr ⟨g, off, F, rfl, Nat.zero_le _, hg, fun k hk => ⟨(hF k hk).1, fun j v hv => ⟨((hF k hk).2 j v hv).1, hX k hk j v hv⟩⟩⟩⟩
def qSh : List Sh := [.int, .int, .int, .lst 1 (fun j => [Sh.int].getD j .int), .lst 1 (fun j => [Sh.bool].getD j .int), .int]
def aSh : List Sh := [.int, .int, .int, .int, .lst 1 (fun j => [Sh.int].getD j .int), .lst 1 (fun j => [Sh.bool].getD j .int)]
theorem VA.of {w : World} {vs : List Value} (h : OfShL w aSh vs) : ∃ X : VA, RdL w 0 (trs (aT X)) vs := by
  obtain ⟨hl, h⟩ := h
  match vs, hl with
  | [v0, v1, v2, v3, v4, v5], _ =>
    obtain ⟨z0, rfl⟩ := h 0 v0 rfl
    obtain ⟨z1, rfl⟩ := h 1 v1 rfl
    obtain ⟨z2, rfl⟩ := h 2 v2 rfl
    obtain ⟨z3, rfl⟩ := h 3 v3 rfl
    obtain ⟨z4, r4⟩ := OfSh.ints (h 4 v4 rfl) rfl
    obtain ⟨a4, c4, e4, _⟩ := r4.shape
    subst e4
    obtain ⟨z5, r5⟩ := OfSh.bools (h 5 v5 rfl) rfl
    obtain ⟨a5, c5, e5, _⟩ := r5.shape
    subst e5
    exact ⟨⟨z0, z1, z2, z3, z4, z5⟩, VA.back (X := ⟨z0, z1, z2, z3, z4, z5⟩) r4 r5⟩
def pSh : List Sh := [.int, .int, .int, .int, .int, .lst 1 (fun j => [Sh.int].getD j .int), .lst 1 (fun j => [Sh.bool].getD j .int), .int]
theorem VP.of {w : World} {vs : List Value} (h : OfShL w pSh vs) : ∃ X : VP, RdL w 0 (trs (pT X)) vs := by
  obtain ⟨hl, h⟩ := h
  match vs, hl with
  | [v0, v1, v2, v3, v4, v5, v6, v7], _ =>
    obtain ⟨z0, rfl⟩ := h 0 v0 rfl
    obtain ⟨z1, rfl⟩ := h 1 v1 rfl
    obtain ⟨z2, rfl⟩ := h 2 v2 rfl
    obtain ⟨z3, rfl⟩ := h 3 v3 rfl
    obtain ⟨z4, rfl⟩ := h 4 v4 rfl
    obtain ⟨z5, r5⟩ := OfSh.ints (h 5 v5 rfl) rfl
    obtain ⟨a5, c5, e5, _⟩ := r5.shape
    subst e5
    obtain ⟨z6, r6⟩ := OfSh.bools (h 6 v6 rfl) rfl
    obtain ⟨a6, c6, e6, _⟩ := r6.shape
    subst e6
    obtain ⟨z7, rfl⟩ := h 7 v7 rfl
    exact ⟨⟨z0, z1, ⟨z2, z3, z4, z5, z6, z7⟩⟩, VP.back (X := ⟨z0, z1, ⟨z2, z3, z4, z5, z6, z7⟩⟩) r5 r6⟩
def dSh : List Sh := [.int, .int, .int, .int, .int, .int, .int, .lst 1 (fun j => [Sh.int].getD j .int), .lst 1 (fun j => [Sh.bool].getD j .int), .int, .lst 8 (fun j => pSh.getD j .int), .lst 1 (fun j => [Sh.bool].getD j .int), .lst 6 (fun j => aSh.getD j .int)]
theorem VD.of {w : World} {vs : List Value} (h : OfShL w dSh vs) : ∃ X : VD, RdL w 0 (trs (dT X)) vs := by
  obtain ⟨hl, h⟩ := h
  match vs, hl with
  | [v0, v1, v2, v3, v4, v5, v6, v7, v8, v9, v10, v11, v12], _ =>
    obtain ⟨z0, rfl⟩ := h 0 v0 rfl
    obtain ⟨z1, rfl⟩ := h 1 v1 rfl
    obtain ⟨z2, rfl⟩ := h 2 v2 rfl
    obtain ⟨z3, rfl⟩ := h 3 v3 rfl
    obtain ⟨z4, rfl⟩ := h 4 v4 rfl
    obtain ⟨z5, rfl⟩ := h 5 v5 rfl
    obtain ⟨z6, rfl⟩ := h 6 v6 rfl
    obtain ⟨z7, r7⟩ := OfSh.ints (h 7 v7 rfl) rfl
    obtain ⟨a7, c7, e7, _⟩ := r7.shape
    subst e7
    obtain ⟨z8, r8⟩ := OfSh.bools (h 8 v8 rfl) rfl
    obtain ⟨a8, c8, e8, _⟩ := r8.shape
    subst e8
    obtain ⟨z9, rfl⟩ := h 9 v9 rfl
    obtain ⟨n10, z10, r10⟩ := OfSh.list (T := pT) (h 10 v10 rfl) (fun vs h1 h2 => VP.of ⟨h1, h2⟩)
    obtain ⟨a10, c10, e10, _⟩ := r10.shape
    subst e10
    obtain ⟨z11, r11⟩ := OfSh.bools (h 11 v11 rfl) rfl
    obtain ⟨a11, c11, e11, _⟩ := r11.shape
    subst e11
    obtain ⟨n12, z12, r12⟩ := OfSh.list (T := aT) (h 12 v12 rfl) (fun vs h1 h2 => VA.of ⟨h1, h2⟩)
    obtain ⟨a12, c12, e12, _⟩ := r12.shape
    subst e12
    exact ⟨⟨z0, z1, z2, z3, ⟨z4, z5, z6, z7, z8, z9⟩, n10, z10, z11, n12, z12⟩, VD.back (X := ⟨z0, z1, z2, z3, ⟨z4, z5, z6, z7, z8, z9⟩, n10, z10, z11, n12, z12⟩) r7 r8 r10 r11 r12⟩
def tSh : List Sh := [.int, .lst 13 (fun j => dSh.getD j .int)]
theorem VT.of {w : World} {vs : List Value} (h : OfShL w tSh vs) : ∃ X : VT, RdL w 0 (trs (tT X)) vs := by
  obtain ⟨hl, h⟩ := h
  match vs, hl with
  | [v0, v1], _ =>
    obtain ⟨z0, rfl⟩ := h 0 v0 rfl
    obtain ⟨n1, z1, r1⟩ := OfSh.list (T := dT) (h 1 v1 rfl) (fun vs h1 h2 => VD.of ⟨h1, h2⟩)
    obtain ⟨a1, c1, e1, _⟩ := r1.shape
    subst e1
    exact ⟨⟨z0, n1, z1⟩, VT.back (X := ⟨z0, n1, z1⟩) r1⟩
theorem opened_tv {H : Type} {enc : TypeId × Value → H} {P : Program} {w : World} {base : Nat} {held : Bool} {r : Reach} {b0 : Nat} {t : TypeId} {fs : Array Field} {v : Value} {d : DataW H} {p : List MemPlace} {N : Nat} (hs : P.underlying t = some (.struct fs)) (hsh : shT P N t = some tSh)
    (hv : Value.okWide P w r b0 t v) (h : DataW.Trod enc P w base (fun _ => true) held t v d p) :
    ∃ (X : VT) (a1 : Option Addr) (l1 c1 : Nat), v = .agg (tL X a1 l1 c1).toArray ∧ Rd w 0 (.list 13 X.m (fun i => trs (dT (X.f i)))) (.slice a1 l1 c1) := by
  obtain ⟨cs, rfl, hsz⟩ := okWide_struct hs hv
  obtain ⟨fuel, hf⟩ := h
  obtain ⟨l⟩ := cs
  obtain ⟨X, hX⟩ := VT.of (opened_sh N t _ hsh fuel l _ (by simpa [Value.cells] using hf))
  have hl := (opened_sh N t _ hsh fuel l _ (by simpa [Value.cells] using hf)).1
  obtain ⟨a1, c1, rfl, r1⟩ := VT.cells hX hl
  exact ⟨X, a1, _, c1, rfl, r1⟩
end Go.Proofs.Ytfagbjffhjnmaaa
namespace Go.Proofs.Ytfagbjffhjnmaaa
open Go.RowKit
set_option linter.unusedVariables false
def inB (x lo hi : Int) : Bool := decide (lo ≤ x ∧ x ≤ hi)
def allW (ws : List Int) : Bool := decide (∀ k, k < ws.length → 0 ≤ ws.getD k 0 ∧ ws.getD k 0 ≤ 65535)
def fitB (p n : Int) : Bool := decide (0 ≤ p ∧ p ≤ 65535 ∧ p + n ≤ 65536)
def rnB (p n most : Int) : Bool := decide (1 ≤ n ∧ n ≤ most ∧ 0 ≤ p ∧ p + n ≤ 65536)
def zrB (n w b a : Bool) (nn : Int) (l1 l2 : Nat) (wa : Int) : Bool := (n || decide (nn = 0)) && ((w || decide (l1 = 0)) && ((b || decide (l2 = 0)) && (a || decide (wa = 0))))
set_option maxHeartbeats 1000000 in
theorem l1In_any (x lo hi : Int) (w : World) (b : Bool) (hb : inB x lo hi = b) : Calls Try.prog 13 #[.int .i64 x, .int .i64 lo, .int .i64 hi] w fun e w' => e = .returned (.bool b) ∧ w' = w := by
  subst hb
  unfold inB
  by_cases h1 : lo ≤ x
  · by_cases h2 : x ≤ hi
    · rw [decide_eq_true (show lo ≤ x ∧ x ≤ hi from ⟨h1, h2⟩)]
      go_enter Try.func13, Try.ntmps13
      go_wp2
      go_ret
      exact ⟨rfl, rfl⟩
    · rw [decide_eq_false (show ¬ (lo ≤ x ∧ x ≤ hi) from fun h => h2 h.2)]
      go_enter Try.func13, Try.ntmps13
      go_wp2
      go_ret
      exact ⟨rfl, rfl⟩
  · rw [decide_eq_false (show ¬ (lo ≤ x ∧ x ≤ hi) from fun h => h1 h.1)]
    go_enter Try.func13, Try.ntmps13
    go_wp2
    go_ret
    exact ⟨rfl, rfl⟩
set_option maxHeartbeats 1000000 in
theorem isWord_any (x : Int) (w : World) (b : Bool) (hb : inB x 0 65535 = b) : Calls Try.prog 76 #[.int .i64 x] w fun e w' => e = .returned (.bool b) ∧ w' = w := by
  subst hb
  unfold inB
  by_cases h1 : 0 ≤ x
  · by_cases h2 : x ≤ 65535
    · rw [decide_eq_true (show 0 ≤ x ∧ x ≤ 65535 from ⟨h1, h2⟩)]
      go_enter Try.func76, Try.ntmps76
      go_wp2
      go_ret
      exact ⟨rfl, rfl⟩
    · rw [decide_eq_false (show ¬ (0 ≤ x ∧ x ≤ 65535) from fun h => h2 h.2)]
      go_enter Try.func76, Try.ntmps76
      go_wp2
      go_ret
      exact ⟨rfl, rfl⟩
  · rw [decide_eq_false (show ¬ (0 ≤ x ∧ x ≤ 65535) from fun h => h1 h.1)]
    go_enter Try.func76, Try.ntmps76
    go_wp2
    go_ret
    exact ⟨rfl, rfl⟩
set_option maxHeartbeats 1000000 in
theorem l3Fits_any (x n : Int) (w : World) (hn0 : 0 ≤ n) (hn1 : n ≤ 9000000000000000000) (b : Bool) (hb : fitB x n = b) : Calls Try.prog 36 #[.int .i64 x, .int .i64 n] w fun e w' => e = .returned (.bool b) ∧ w' = w := by
  subst hb
  unfold fitB
  by_cases h1 : 0 ≤ x
  · by_cases h2 : x ≤ 65535
    · by_cases h3 : x + n ≤ 65536
      · rw [decide_eq_true (show 0 ≤ x ∧ x ≤ 65535 ∧ x + n ≤ 65536 from ⟨h1, h2, h3⟩)]
        go_enter Try.func36, Try.ntmps36
        go_wp2_with (go_at_call 13; go_in)
        go_ret
        exact ⟨rfl, rfl⟩
      · rw [decide_eq_false (show ¬ (0 ≤ x ∧ x ≤ 65535 ∧ x + n ≤ 65536) from fun h => h3 h.2.2)]
        go_enter Try.func36, Try.ntmps36
        go_wp2_with (go_at_call 13; go_in)
        go_ret
        exact ⟨rfl, rfl⟩
    · rw [decide_eq_false (show ¬ (0 ≤ x ∧ x ≤ 65535 ∧ x + n ≤ 65536) from fun h => h2 h.2.1)]
      go_enter Try.func36, Try.ntmps36
      go_wp2_with (go_at_call 13; go_in)
      go_ret
      exact ⟨rfl, rfl⟩
  · rw [decide_eq_false (show ¬ (0 ≤ x ∧ x ≤ 65535 ∧ x + n ≤ 65536) from fun h => h1 h.1)]
    go_enter Try.func36, Try.ntmps36
    go_wp2_with (go_at_call 13; go_in)
    go_ret
    exact ⟨rfl, rfl⟩
set_option maxHeartbeats 1000000 in
theorem isRun_any (x n most : Int) (w : World) (hm : most ≤ 2000) (b : Bool) (hb : rnB x n most = b) : Calls Try.prog 75 #[.int .i64 x, .int .i64 n, .int .i64 most] w fun e w' => e = .returned (.bool b) ∧ w' = w := by
  subst hb
  unfold rnB
  by_cases h1 : 1 ≤ n
  · by_cases h2 : n ≤ most
    · by_cases h3 : 0 ≤ x
      · by_cases h4 : x ≤ 65536 - n
        · rw [decide_eq_true (show 1 ≤ n ∧ n ≤ most ∧ 0 ≤ x ∧ x + n ≤ 65536 from ⟨h1, h2, h3, by omega⟩)]
          go_enter Try.func75, Try.ntmps75
          go_wp2
          go_ret
          exact ⟨rfl, rfl⟩
        · rw [decide_eq_false (show ¬ (1 ≤ n ∧ n ≤ most ∧ 0 ≤ x ∧ x + n ≤ 65536) from fun h => h4 (by omega))]
          go_enter Try.func75, Try.ntmps75
          go_wp2
          go_ret
          exact ⟨rfl, rfl⟩
      · rw [decide_eq_false (show ¬ (1 ≤ n ∧ n ≤ most ∧ 0 ≤ x ∧ x + n ≤ 65536) from fun h => h3 h.2.2.1)]
        go_enter Try.func75, Try.ntmps75
        go_wp2
        go_ret
        exact ⟨rfl, rfl⟩
    · rw [decide_eq_false (show ¬ (1 ≤ n ∧ n ≤ most ∧ 0 ≤ x ∧ x + n ≤ 65536) from fun h => h2 h.2.1)]
      go_enter Try.func75, Try.ntmps75
      go_wp2
      go_ret
      exact ⟨rfl, rfl⟩
  · rw [decide_eq_false (show ¬ (1 ≤ n ∧ n ≤ most ∧ 0 ≤ x ∧ x + n ≤ 65536) from fun h => h1 h.1)]
    go_enter Try.func75, Try.ntmps75
    go_wp2
    go_ret
    exact ⟨rfl, rfl⟩
theorem allW_bad {zs : List Int} {k : Nat} (h : k < zs.length) (hb : ¬ (0 ≤ zs.getD k 0 ∧ zs.getD k 0 ≤ 65535)) : allW zs = false := by
  unfold allW; exact decide_eq_false (fun hh => hb (hh k h))
theorem allW_good {zs : List Int} (hb : ∀ k, k < zs.length → 0 ≤ zs.getD k 0 ∧ zs.getD k 0 ≤ 65535) : allW zs = true := by
  unfold allW; exact decide_eq_true hb
set_option maxHeartbeats 1000000 in
theorem l3Words_any (a : Option Addr) (n cap : Nat) (zs : List Int) (w : World) (hn : n = zs.length) (hs : SlI w a zs) (hl : zs.length ≤ 2000000) (b : Bool) (hb : allW zs = b) :
    Calls Try.prog 34 #[.slice a n cap] w fun e w' => e = .returned (.bool b) ∧ w' = w := by
  subst hn
  go_enter Try.func34, Try.ntmps34
  go_wp2
  go_loop [3] (fun i => ∃ k : Nat, k ≤ zs.length ∧ i = .int .i64 k ∧ ∀ j, j < k → 0 ≤ zs.getD j 0 ∧ zs.getD j 0 ≤ 65535) (fun i => zs.length - (intOf i).toNat)
  case atStart => exact ⟨0, Nat.zero_le _, rfl, fun j hj => absurd hj (Nat.not_lt_zero _)⟩
  case round =>
    obtain ⟨k, hk, rfl, hg⟩ := hrel
    have HG : Hid (∀ j, j < k → 0 ≤ zs.getD j 0 ∧ zs.getD j 0 ≤ 65535) := hg
    clear hg
    by_cases hlt : k < zs.length
    · obtain ⟨bb, off, rfl, _, hc⟩ := cell_atI hs hlt
      have hi : (k : Int) < (zs.length : Int) := by omega
      obtain ⟨x, hx⟩ : ∃ x, x = zs.getD k 0 := ⟨_, rfl⟩
      have HX : Hid (x = zs.getD k 0) := hx
      rw [← hx] at hc
      clear hs hx
      by_cases h1 : 0 ≤ x
      · by_cases h2 : x ≤ 65535
        · go_wp2_with (go_at_call 13; go_in)
          go_round
          case rel =>
            first
              | exact ⟨k + 1, by omega, by go_num, fun j hj => by
                  by_cases e : j = k
                  · subst e; rw [← HX.out]; exact ⟨h1, h2⟩
                  · exact HG.out j (by omega)⟩
              | exact ⟨_, _, ⟨k + 1, by omega, by go_num, fun j hj => by
                  by_cases e : j = k
                  · subst e; rw [← HX.out]; exact ⟨h1, h2⟩
                  · exact HG.out j (by omega)⟩, rfl, rfl⟩
          case measure => simp [intOf]; omega
        · have hf := allW_bad hlt (by rw [← HX.out]; exact fun h => h2 h.2)
          rw [hf] at hb
          subst hb
          go_wp2_with (go_at_call 13; go_in)
          go_ret
          exact ⟨rfl, rfl⟩
      · have hf := allW_bad hlt (by rw [← HX.out]; exact fun h => h1 h.1)
        rw [hf] at hb
        subst hb
        go_wp2_with (go_at_call 13; go_in)
        go_ret
        exact ⟨rfl, rfl⟩
    · have hf := allW_good (zs := zs) (fun j hj => HG.out j (by omega))
      rw [hf] at hb
      subst hb
      clear hs
      go_wp2
      go_ret
      exact ⟨rfl, rfl⟩
set_option maxHeartbeats 1000000 in
theorem areWords_any (a : Option Addr) (n cap : Nat) (zs : List Int) (w : World) (hn : n = zs.length) (hs : SlI w a zs) (hl : zs.length ≤ 2000000) (b : Bool) (hb : allW zs = b) :
    Calls Try.prog 77 #[.slice a n cap] w fun e w' => e = .returned (.bool b) ∧ w' = w := by
  subst hn
  go_enter Try.func77, Try.ntmps77
  go_wp2
  go_loop [7] (fun i => ∃ k : Nat, k ≤ zs.length ∧ i = .int .i64 k ∧ ∀ j, j < k → 0 ≤ zs.getD j 0 ∧ zs.getD j 0 ≤ 65535) (fun i => zs.length - (intOf i).toNat)
  case atStart => exact ⟨0, Nat.zero_le _, rfl, fun j hj => absurd hj (Nat.not_lt_zero _)⟩
  case round =>
    obtain ⟨k, hk, rfl, hg⟩ := hrel
    have HG : Hid (∀ j, j < k → 0 ≤ zs.getD j 0 ∧ zs.getD j 0 ≤ 65535) := hg
    clear hg
    by_cases hlt : k < zs.length
    · obtain ⟨bb, off, rfl, _, hc⟩ := cell_atI hs hlt
      have hi : (k : Int) < (zs.length : Int) := by omega
      obtain ⟨x, hx⟩ : ∃ x, x = zs.getD k 0 := ⟨_, rfl⟩
      have HX : Hid (x = zs.getD k 0) := hx
      rw [← hx] at hc
      clear hs hx
      by_cases h1 : 0 ≤ x
      · by_cases h2 : x ≤ 65535
        · go_wp2_with (go_at_call 76; go_in)
          go_round
          case rel =>
            first
              | exact ⟨k + 1, by omega, by go_num, fun j hj => by
                  by_cases e : j = k
                  · subst e; rw [← HX.out]; exact ⟨h1, h2⟩
                  · exact HG.out j (by omega)⟩
              | exact ⟨_, _, ⟨k + 1, by omega, by go_num, fun j hj => by
                  by_cases e : j = k
                  · subst e; rw [← HX.out]; exact ⟨h1, h2⟩
                  · exact HG.out j (by omega)⟩, rfl, rfl⟩
          case measure => simp [intOf]; omega
        · have hf := allW_bad hlt (by rw [← HX.out]; exact fun h => h2 h.2)
          rw [hf] at hb
          subst hb
          go_wp2_with (go_at_call 76; go_in)
          go_ret
          exact ⟨rfl, rfl⟩
      · have hf := allW_bad hlt (by rw [← HX.out]; exact fun h => h1 h.1)
        rw [hf] at hb
        subst hb
        go_wp2_with (go_at_call 76; go_in)
        go_ret
        exact ⟨rfl, rfl⟩
    · have hf := allW_good (zs := zs) (fun j hj => HG.out j (by omega))
      rw [hf] at hb
      subst hb
      clear hs
      go_wp2
      go_ret
      exact ⟨rfl, rfl⟩
set_option maxHeartbeats 2000000 in
theorem l3Zero_tfff (kd pl nn wa : Int) (a1 a2 : Option Addr) (l1 l2 c1 c2 : Nat) (w : World) (hm1 : l1 ≤ 2000000) (hm2 : l2 ≤ 20000000) (z : Bool) (hz : zrB true false false false nn l1 l2 wa = z) :
    Calls Try.prog 35 #[rq kd pl nn wa a1 a2 l1 l2 c1 c2, .bool true, .bool false, .bool false, .bool false] w fun e w' => e = .returned (.bool z) ∧ Below w.heap.size w w' := by
  have B0 := bel_alloc w (.cells #[.int .i64 kd, .int .i64 pl, .int .i64 nn, .slice a1 l1 c1, .slice a2 l2 c2, .int .i64 wa] 40)
  subst hz
  by_cases h1 : l1 = 0
  · skip
    by_cases h2 : l2 = 0
    · skip
      by_cases ha : wa = 0
      · skip
        have e : zrB true false false false nn l1 l2 wa = true := by simp [zrB, h1, h2, ha]
        rw [e]
        clear e
        subst h1
        subst h2
        subst ha
        go_enter Try.func35, Try.ntmps35
        go_wp2
        go_ret
        exact ⟨rfl, B0⟩
      · have e : zrB true false false false nn l1 l2 wa = false := by simp [zrB, h1, h2, ha]
        rw [e]
        clear e
        subst h1
        subst h2
        have e2 : (wa == 0) = false := by simp [ha]
        go_enter Try.func35, Try.ntmps35
        go_wp2
        go_ret
        exact ⟨rfl, B0⟩
    · have e : zrB true false false false nn l1 l2 wa = false := by simp [zrB, h1, h2]
      rw [e]
      have h2i : ¬ (l2 : Int) = 0 := by omega
      clear e
      subst h1
      go_enter Try.func35, Try.ntmps35
      go_wp2
      go_ret
      exact ⟨rfl, B0⟩
  · have e : zrB true false false false nn l1 l2 wa = false := by simp [zrB, h1]
    rw [e]
    have h1i : ¬ (l1 : Int) = 0 := by omega
    clear e
    go_enter Try.func35, Try.ntmps35
    go_wp2
    go_ret
    exact ⟨rfl, B0⟩
set_option maxHeartbeats 2000000 in
theorem l3Zero_fftf (kd pl nn wa : Int) (a1 a2 : Option Addr) (l1 l2 c1 c2 : Nat) (w : World) (hm1 : l1 ≤ 2000000) (hm2 : l2 ≤ 20000000) (z : Bool) (hz : zrB false false true false nn l1 l2 wa = z) :
    Calls Try.prog 35 #[rq kd pl nn wa a1 a2 l1 l2 c1 c2, .bool false, .bool false, .bool true, .bool false] w fun e w' => e = .returned (.bool z) ∧ Below w.heap.size w w' := by
  have B0 := bel_alloc w (.cells #[.int .i64 kd, .int .i64 pl, .int .i64 nn, .slice a1 l1 c1, .slice a2 l2 c2, .int .i64 wa] 40)
  subst hz
  by_cases hn : nn = 0
  · skip
    by_cases h1 : l1 = 0
    · skip
      by_cases ha : wa = 0
      · skip
        have e : zrB false false true false nn l1 l2 wa = true := by simp [zrB, hn, h1, ha]
        rw [e]
        clear e
        subst hn
        subst h1
        subst ha
        go_enter Try.func35, Try.ntmps35
        go_wp2
        go_ret
        exact ⟨rfl, B0⟩
      · have e : zrB false false true false nn l1 l2 wa = false := by simp [zrB, hn, h1, ha]
        rw [e]
        clear e
        subst hn
        subst h1
        have e2 : (wa == 0) = false := by simp [ha]
        go_enter Try.func35, Try.ntmps35
        go_wp2
        go_ret
        exact ⟨rfl, B0⟩
    · have e : zrB false false true false nn l1 l2 wa = false := by simp [zrB, hn, h1]
      rw [e]
      have h1i : ¬ (l1 : Int) = 0 := by omega
      clear e
      subst hn
      go_enter Try.func35, Try.ntmps35
      go_wp2
      go_ret
      exact ⟨rfl, B0⟩
  · have e : zrB false false true false nn l1 l2 wa = false := by simp [zrB, hn]
    rw [e]
    clear e
    go_enter Try.func35, Try.ntmps35
    go_wp2
    go_ret
    exact ⟨rfl, B0⟩
set_option maxHeartbeats 2000000 in
theorem l3Zero_ftff (kd pl nn wa : Int) (a1 a2 : Option Addr) (l1 l2 c1 c2 : Nat) (w : World) (hm1 : l1 ≤ 2000000) (hm2 : l2 ≤ 20000000) (z : Bool) (hz : zrB false true false false nn l1 l2 wa = z) :
    Calls Try.prog 35 #[rq kd pl nn wa a1 a2 l1 l2 c1 c2, .bool false, .bool true, .bool false, .bool false] w fun e w' => e = .returned (.bool z) ∧ Below w.heap.size w w' := by
  have B0 := bel_alloc w (.cells #[.int .i64 kd, .int .i64 pl, .int .i64 nn, .slice a1 l1 c1, .slice a2 l2 c2, .int .i64 wa] 40)
  subst hz
  by_cases hn : nn = 0
  · skip
    by_cases h2 : l2 = 0
    · skip
      by_cases ha : wa = 0
      · skip
        have e : zrB false true false false nn l1 l2 wa = true := by simp [zrB, hn, h2, ha]
        rw [e]
        clear e
        subst hn
        subst h2
        subst ha
        go_enter Try.func35, Try.ntmps35
        go_wp2
        go_ret
        exact ⟨rfl, B0⟩
      · have e : zrB false true false false nn l1 l2 wa = false := by simp [zrB, hn, h2, ha]
        rw [e]
        clear e
        subst hn
        subst h2
        have e2 : (wa == 0) = false := by simp [ha]
        go_enter Try.func35, Try.ntmps35
        go_wp2
        go_ret
        exact ⟨rfl, B0⟩
    · have e : zrB false true false false nn l1 l2 wa = false := by simp [zrB, hn, h2]
      rw [e]
      have h2i : ¬ (l2 : Int) = 0 := by omega
      clear e
      subst hn
      go_enter Try.func35, Try.ntmps35
      go_wp2
      go_ret
      exact ⟨rfl, B0⟩
  · have e : zrB false true false false nn l1 l2 wa = false := by simp [zrB, hn]
    rw [e]
    clear e
    go_enter Try.func35, Try.ntmps35
    go_wp2
    go_ret
    exact ⟨rfl, B0⟩
set_option maxHeartbeats 2000000 in
theorem l3Zero_ttft (kd pl nn wa : Int) (a1 a2 : Option Addr) (l1 l2 c1 c2 : Nat) (w : World) (hm1 : l1 ≤ 2000000) (hm2 : l2 ≤ 20000000) (z : Bool) (hz : zrB true true false true nn l1 l2 wa = z) :
    Calls Try.prog 35 #[rq kd pl nn wa a1 a2 l1 l2 c1 c2, .bool true, .bool true, .bool false, .bool true] w fun e w' => e = .returned (.bool z) ∧ Below w.heap.size w w' := by
  have B0 := bel_alloc w (.cells #[.int .i64 kd, .int .i64 pl, .int .i64 nn, .slice a1 l1 c1, .slice a2 l2 c2, .int .i64 wa] 40)
  subst hz
  by_cases h2 : l2 = 0
  · skip
    have e : zrB true true false true nn l1 l2 wa = true := by simp [zrB, h2]
    rw [e]
    clear e
    subst h2
    go_enter Try.func35, Try.ntmps35
    go_wp2
    go_ret
    exact ⟨rfl, B0⟩
  · have e : zrB true true false true nn l1 l2 wa = false := by simp [zrB, h2]
    rw [e]
    have h2i : ¬ (l2 : Int) = 0 := by omega
    clear e
    go_enter Try.func35, Try.ntmps35
    go_wp2
    go_ret
    exact ⟨rfl, B0⟩
set_option maxHeartbeats 1000000 in
theorem equal_int (a a' : Option Addr) (n n' cap cap' : Nat) (zs : List Int) (w : World) (hn : n = zs.length) (hn' : n' = zs.length) (hs : SlI w a zs) (hs' : SlI w a' zs) (hl : zs.length ≤ 2000000) :
    Calls Try.prog 70 #[.slice a n cap, .slice a' n' cap'] w fun e w' => e = .returned (.bool true) ∧ Below w.heap.size w w' := by
  subst hn hn'
  go_enter Try.func70, Try.ntmps70
  go_wp2
  go_loopw [13] (fun i wr => ∃ k : Nat, k ≤ zs.length ∧ i = .int .i64 k ∧ ∃ n, wr = w.drewN n) (fun i _ => zs.length - (intOf i).toNat)
  case atStart => exact ⟨0, Nat.zero_le _, rfl, 0, rfl⟩
  case round =>
    obtain ⟨k, hk, rfl, n, rfl⟩ := hrel
    by_cases hlt : k < zs.length
    · obtain ⟨b, off, rfl, _, hc⟩ := cell_atI hs hlt
      obtain ⟨b', off', rfl, _, hc'⟩ := cell_atI hs' hlt
      have hi : (k : Int) < (zs.length : Int) := by omega
      clear hs hs'
      go_wp2
      go_quiet (fail)
      go_wp2
      go_roundw
      case rel => first | exact ⟨k + 1, by omega, by go_num, _, rfl⟩ | exact ⟨_, _, ⟨k + 1, by omega, by go_num, _, rfl⟩, rfl, rfl⟩
      case measure => simp [intOf]; omega
    · clear hs hs'
      go_wp2
      go_ret
      exact ⟨rfl, drew_refl _ _⟩
set_option maxHeartbeats 1000000 in
theorem equal_int_len (a a' : Option Addr) (n n' cap cap' : Nat) (w : World) (hne : ¬ (n : Int) = (n' : Int)) (h1 : n ≤ 20000000) (h2 : n' ≤ 20000000) :
    Calls Try.prog 70 #[.slice a n cap, .slice a' n' cap'] w fun e w' => e = .returned (.bool false) ∧ Below w.heap.size w w' := by
  go_enter Try.func70, Try.ntmps70
  go_wp2
  go_ret
  exact ⟨rfl, Below.refl _ _⟩
set_option maxHeartbeats 1000000 in
theorem equal_bool (a a' : Option Addr) (n n' cap cap' : Nat) (zs : List Bool) (w : World) (hn : n = zs.length) (hn' : n' = zs.length) (hs : SlB w a zs) (hs' : SlB w a' zs) (hl : zs.length ≤ 2000000) :
    Calls Try.prog 71 #[.slice a n cap, .slice a' n' cap'] w fun e w' => e = .returned (.bool true) ∧ Below w.heap.size w w' := by
  subst hn hn'
  go_enter Try.func71, Try.ntmps71
  go_wp2
  go_loopw [13] (fun i wr => ∃ k : Nat, k ≤ zs.length ∧ i = .int .i64 k ∧ ∃ n, wr = w.drewN n) (fun i _ => zs.length - (intOf i).toNat)
  case atStart => exact ⟨0, Nat.zero_le _, rfl, 0, rfl⟩
  case round =>
    obtain ⟨k, hk, rfl, n, rfl⟩ := hrel
    by_cases hlt : k < zs.length
    · obtain ⟨b, off, rfl, _, hc⟩ := cell_atB hs hlt
      obtain ⟨b', off', rfl, _, hc'⟩ := cell_atB hs' hlt
      have hi : (k : Int) < (zs.length : Int) := by omega
      clear hs hs'
      go_wp2
      go_quiet (fail)
      go_wp2
      go_roundw
      case rel => first | exact ⟨k + 1, by omega, by go_num, _, rfl⟩ | exact ⟨_, _, ⟨k + 1, by omega, by go_num, _, rfl⟩, rfl, rfl⟩
      case measure => simp [intOf]; omega
    · clear hs hs'
      go_wp2
      go_ret
      exact ⟨rfl, drew_refl _ _⟩
set_option maxHeartbeats 1000000 in
theorem equal_bool_len (a a' : Option Addr) (n n' cap cap' : Nat) (w : World) (hne : ¬ (n : Int) = (n' : Int)) (h1 : n ≤ 20000000) (h2 : n' ≤ 20000000) :
    Calls Try.prog 71 #[.slice a n cap, .slice a' n' cap'] w fun e w' => e = .returned (.bool false) ∧ Below w.heap.size w w' := by
  go_enter Try.func71, Try.ntmps71
  go_wp2
  go_ret
  exact ⟨rfl, Below.refl _ _⟩
end Go.Proofs.Ytfagbjffhjnmaaa
namespace Go.Proofs.Ytfagbjffhjnmaaa
open Go.RowKit
set_option linter.unusedVariables false
theorem lit_slB1 (w : World) (x : Bool) {g : Nat} (hg : g = w.heap.size) : SlB (w.alloc (.cells #[.bool x] 4)) (some ⟨g, 0, none⟩) [x] := hg ▸
  .inr ⟨_, 0, rfl, by simp, fun i hi => by
    have : i = 0 := by simp at hi; omega
    subst this; simp⟩
theorem lit_slI1 (w : World) (x : Int) {g : Nat} (hg : g = w.heap.size) : SlI (w.alloc (.cells #[.int .i64 x] 3)) (some ⟨g, 0, none⟩) [x] := hg ▸
  .inr ⟨_, 0, rfl, by simp, fun i hi => by
    have : i = 0 := by simp at hi; omega
    subst this; simp⟩
theorem lit_slI2 (w : World) (x y : Int) {g : Nat} (hg : g = w.heap.size) : SlI (w.alloc (.cells #[.int .i64 x, .int .i64 y] 3)) (some ⟨g, 0, none⟩) [x, y] := hg ▸
  .inr ⟨_, 0, rfl, by simp, fun i hi => by
    have : i = 0 ∨ i = 1 := by simp at hi; omega
    rcases this with rfl | rfl <;> simp⟩
set_option maxHeartbeats 2000000 in
theorem req_1 (pl nn : Int) (w : World) :
    Calls Try.prog 101 #[.agg #[.int .i64 pl, .int .i64 nn]] w fun e w' => e = .returned (rq 1 pl nn 0 none none 0 0 0 0) ∧ Below w.heap.size w w' := by
  go_enter Try.func101, Try.ntmps101
  go_wp2
  refine bodyPost_ret (v := rq 1 pl nn 0 none none 0 0 0 0) (by simp [results, Try.results101, go_sem]) rfl ?_
  exact ⟨rfl, bel_next (bel_alloc _ _) (bel_alloc _ _)⟩
set_option maxHeartbeats 2000000 in
theorem req_2 (pl nn : Int) (w : World) :
    Calls Try.prog 102 #[.agg #[.int .i64 pl, .int .i64 nn]] w fun e w' => e = .returned (rq 2 pl nn 0 none none 0 0 0 0) ∧ Below w.heap.size w w' := by
  go_enter Try.func102, Try.ntmps102
  go_wp2
  refine bodyPost_ret (v := rq 2 pl nn 0 none none 0 0 0 0) (by simp [results, Try.results102, go_sem]) rfl ?_
  exact ⟨rfl, bel_next (bel_alloc _ _) (bel_alloc _ _)⟩
set_option maxHeartbeats 2000000 in
theorem req_3 (pl nn : Int) (w : World) :
    Calls Try.prog 103 #[.agg #[.int .i64 pl, .int .i64 nn]] w fun e w' => e = .returned (rq 3 pl nn 0 none none 0 0 0 0) ∧ Below w.heap.size w w' := by
  go_enter Try.func103, Try.ntmps103
  go_wp2
  refine bodyPost_ret (v := rq 3 pl nn 0 none none 0 0 0 0) (by simp [results, Try.results103, go_sem]) rfl ?_
  exact ⟨rfl, bel_next (bel_alloc _ _) (bel_alloc _ _)⟩
set_option maxHeartbeats 2000000 in
theorem req_4 (pl nn : Int) (w : World) :
    Calls Try.prog 104 #[.agg #[.int .i64 pl, .int .i64 nn]] w fun e w' => e = .returned (rq 4 pl nn 0 none none 0 0 0 0) ∧ Below w.heap.size w w' := by
  go_enter Try.func104, Try.ntmps104
  go_wp2
  refine bodyPost_ret (v := rq 4 pl nn 0 none none 0 0 0 0) (by simp [results, Try.results104, go_sem]) rfl ?_
  exact ⟨rfl, bel_next (bel_alloc _ _) (bel_alloc _ _)⟩
set_option maxHeartbeats 2000000 in
theorem req_5 (pl : Int) (x : Bool) (w : World) :
    Calls Try.prog 105 #[.agg #[.int .i64 pl, .bool x]] w fun e w' => e = .returned (rq 5 pl 0 0 none (some ⟨w.heap.size + 1 + 1, 0, none⟩) 0 1 0 1) ∧ SlB w' (some ⟨w.heap.size + 1 + 1, 0, none⟩) [x] ∧ Below w.heap.size w w' := by
  go_enter Try.func105, Try.ntmps105
  go_wp2
  refine bodyPost_ret (v := rq 5 pl 0 0 none (some ⟨w.heap.size + 1 + 1, 0, none⟩) 0 1 0 1) (by simp [results, Try.results105, go_sem]) rfl ?_
  exact ⟨rfl, lit_slB1 _ x (by simp), bel_next (bel_next (bel_alloc _ _) (bel_alloc _ _)) (bel_alloc _ _)⟩
set_option maxHeartbeats 2000000 in
theorem req_6 (pl x : Int) (w : World) :
    Calls Try.prog 106 #[.agg #[.int .i64 pl, .int .i64 x]] w fun e w' => e = .returned (rq 6 pl 0 0 (some ⟨w.heap.size + 1 + 1, 0, none⟩) none 1 0 1 0) ∧ SlI w' (some ⟨w.heap.size + 1 + 1, 0, none⟩) [x] ∧ Below w.heap.size w w' := by
  go_enter Try.func106, Try.ntmps106
  go_wp2
  refine bodyPost_ret (v := rq 6 pl 0 0 (some ⟨w.heap.size + 1 + 1, 0, none⟩) none 1 0 1 0) (by simp [results, Try.results106, go_sem]) rfl ?_
  exact ⟨rfl, lit_slI1 _ x (by simp), bel_next (bel_next (bel_alloc _ _) (bel_alloc _ _)) (bel_alloc _ _)⟩
set_option maxHeartbeats 2000000 in
theorem req_15 (pl : Int) (a2 : Option Addr) (l2 c2 : Nat) (w : World) :
    Calls Try.prog 107 #[.agg #[.int .i64 pl, .slice a2 l2 c2]] w fun e w' => e = .returned (rq 15 pl 0 0 none a2 0 l2 0 c2) ∧ Below w.heap.size w w' := by
  go_enter Try.func107, Try.ntmps107
  go_wp2
  refine bodyPost_ret (v := rq 15 pl 0 0 none a2 0 l2 0 c2) (by simp [results, Try.results107, go_sem]) rfl ?_
  exact ⟨rfl, bel_next (bel_alloc _ _) (bel_alloc _ _)⟩
set_option maxHeartbeats 2000000 in
theorem req_16 (pl : Int) (a1 : Option Addr) (l1 c1 : Nat) (w : World) :
    Calls Try.prog 108 #[.agg #[.int .i64 pl, .slice a1 l1 c1]] w fun e w' => e = .returned (rq 16 pl 0 0 a1 none l1 0 c1 0) ∧ Below w.heap.size w w' := by
  go_enter Try.func108, Try.ntmps108
  go_wp2
  refine bodyPost_ret (v := rq 16 pl 0 0 a1 none l1 0 c1 0) (by simp [results, Try.results108, go_sem]) rfl ?_
  exact ⟨rfl, bel_next (bel_alloc _ _) (bel_alloc _ _)⟩
set_option maxHeartbeats 2000000 in
theorem req_22 (pl x y : Int) (w : World) :
    Calls Try.prog 109 #[.agg #[.int .i64 pl, .int .i64 x, .int .i64 y]] w fun e w' => e = .returned (rq 22 pl 0 0 (some ⟨w.heap.size + 1 + 1, 0, none⟩) none 2 0 2 0) ∧ SlI w' (some ⟨w.heap.size + 1 + 1, 0, none⟩) [x, y] ∧ Below w.heap.size w w' := by
  go_enter Try.func109, Try.ntmps109
  go_wp2
  refine bodyPost_ret (v := rq 22 pl 0 0 (some ⟨w.heap.size + 1 + 1, 0, none⟩) none 2 0 2 0) (by simp [results, Try.results109, go_sem]) rfl ?_
  exact ⟨rfl, lit_slI2 _ x y (by simp), bel_next (bel_next (bel_alloc _ _) (bel_alloc _ _)) (bel_alloc _ _)⟩
set_option maxHeartbeats 2000000 in
theorem req_23 (pl nn wa : Int) (a1 : Option Addr) (l1 c1 : Nat) (w : World) :
    Calls Try.prog 110 #[.agg #[.int .i64 pl, .int .i64 nn, .int .i64 wa, .slice a1 l1 c1]] w fun e w' => e = .returned (rq 23 pl nn wa a1 none l1 0 c1 0) ∧ Below w.heap.size w w' := by
  go_enter Try.func110, Try.ntmps110
  go_wp2
  refine bodyPost_ret (v := rq 23 pl nn wa a1 none l1 0 c1 0) (by simp [results, Try.results110, go_sem]) rfl ?_
  exact ⟨rfl, bel_next (bel_alloc _ _) (bel_alloc _ _)⟩
set_option maxHeartbeats 4000000 in
theorem sameReq_n (kd pl nn wa nn' wa' : Int) (a1 a2 a1' a2' : Option Addr) (l1 l2 c1 c2 l1' l2' c1' c2' : Nat) (w : World) (hne : ¬ nn = nn') :
    Calls Try.prog 64 #[rq kd pl nn wa a1 a2 l1 l2 c1 c2, rq kd pl nn' wa' a1' a2' l1' l2' c1' c2'] w fun e w' => e = .returned (.bool false) ∧ Below w.heap.size w w' := by
  obtain ⟨W0, hW0'⟩ : ∃ W0, W0 = (w.alloc (.cells #[.int .i64 kd, .int .i64 pl, .int .i64 nn, .slice a1 l1 c1, .slice a2 l2 c2, .int .i64 wa] 40)).alloc (.cells #[.int .i64 kd, .int .i64 pl, .int .i64 nn', .slice a1' l1' c1', .slice a2' l2' c2', .int .i64 wa'] 40) := ⟨_, rfl⟩
  have hW0 : Hid (W0 = _) := hW0'
  have B0 : Below w.heap.size w W0 := by rw [hW0']; exact bel_next (bel_alloc w _) (bel_alloc _ _)
  have X0 : Blk W0 w.heap.size 40 #[.int .i64 kd, .int .i64 pl, .int .i64 nn, .slice a1 l1 c1, .slice a2 l2 c2, .int .i64 wa] := by rw [hW0']; exact (Blk.new w _ _).below (bel_alloc _ _)
  have Y0 : Blk W0 (w.heap.size + 1) 40 #[.int .i64 kd, .int .i64 pl, .int .i64 nn', .slice a1' l1' c1', .slice a2' l2' c2', .int .i64 wa'] := by
    rw [hW0']; have := Blk.new (w.alloc (.cells #[.int .i64 kd, .int .i64 pl, .int .i64 nn, .slice a1 l1 c1, .slice a2 l2 c2, .int .i64 wa] 40)) #[.int .i64 kd, .int .i64 pl, .int .i64 nn', .slice a1' l1' c1', .slice a2' l2' c2', .int .i64 wa'] 40; simpa using this
  obtain ⟨x0, x1, x2, x3, x4, x5⟩ := X0.six
  obtain ⟨y0, y1, y2, y3, y4, y5⟩ := Y0.six
  clear hW0'
  go_enter Try.func64, Try.ntmps64
  go_upto_region 1 with fail
  rw [← hW0.out]
  go_wp2
  go_ret
  exact ⟨rfl, B0⟩
set_option maxHeartbeats 4000000 in
theorem sameReq_w (kd pl nn wa nn' wa' : Int) (a1 a2 a1' a2' : Option Addr) (l1 l2 c1 c2 l1' l2' c1' c2' : Nat) (w : World) (hn : nn' = nn) (hne : ¬ wa = wa') :
    Calls Try.prog 64 #[rq kd pl nn wa a1 a2 l1 l2 c1 c2, rq kd pl nn' wa' a1' a2' l1' l2' c1' c2'] w fun e w' => e = .returned (.bool false) ∧ Below w.heap.size w w' := by
  obtain ⟨W0, hW0'⟩ : ∃ W0, W0 = (w.alloc (.cells #[.int .i64 kd, .int .i64 pl, .int .i64 nn, .slice a1 l1 c1, .slice a2 l2 c2, .int .i64 wa] 40)).alloc (.cells #[.int .i64 kd, .int .i64 pl, .int .i64 nn', .slice a1' l1' c1', .slice a2' l2' c2', .int .i64 wa'] 40) := ⟨_, rfl⟩
  have hW0 : Hid (W0 = _) := hW0'
  have B0 : Below w.heap.size w W0 := by rw [hW0']; exact bel_next (bel_alloc w _) (bel_alloc _ _)
  have X0 : Blk W0 w.heap.size 40 #[.int .i64 kd, .int .i64 pl, .int .i64 nn, .slice a1 l1 c1, .slice a2 l2 c2, .int .i64 wa] := by rw [hW0']; exact (Blk.new w _ _).below (bel_alloc _ _)
  have Y0 : Blk W0 (w.heap.size + 1) 40 #[.int .i64 kd, .int .i64 pl, .int .i64 nn', .slice a1' l1' c1', .slice a2' l2' c2', .int .i64 wa'] := by
    rw [hW0']; have := Blk.new (w.alloc (.cells #[.int .i64 kd, .int .i64 pl, .int .i64 nn, .slice a1 l1 c1, .slice a2 l2 c2, .int .i64 wa] 40)) #[.int .i64 kd, .int .i64 pl, .int .i64 nn', .slice a1' l1' c1', .slice a2' l2' c2', .int .i64 wa'] 40; simpa using this
  obtain ⟨x0, x1, x2, x3, x4, x5⟩ := X0.six
  obtain ⟨y0, y1, y2, y3, y4, y5⟩ := Y0.six
  subst hn
  clear hW0'
  go_enter Try.func64, Try.ntmps64
  go_upto_region 1 with fail
  rw [← hW0.out]
  go_wp2
  go_ret
  exact ⟨rfl, B0⟩
set_option maxHeartbeats 4000000 in
theorem sameReq_1 (kd pl nn wa nn' wa' : Int) (a1 a2 a1' a2' : Option Addr) (l1 l2 c1 c2 l1' l2' c1' c2' : Nat) (w : World) (hn : nn' = nn) (hw : wa' = wa) (hne : ¬ (l1 : Int) = (l1' : Int)) (h1 : l1 ≤ 20000000) (h1' : l1' ≤ 20000000) :
    Calls Try.prog 64 #[rq kd pl nn wa a1 a2 l1 l2 c1 c2, rq kd pl nn' wa' a1' a2' l1' l2' c1' c2'] w fun e w' => e = .returned (.bool false) ∧ Below w.heap.size w w' := by
  obtain ⟨W0, hW0'⟩ : ∃ W0, W0 = (w.alloc (.cells #[.int .i64 kd, .int .i64 pl, .int .i64 nn, .slice a1 l1 c1, .slice a2 l2 c2, .int .i64 wa] 40)).alloc (.cells #[.int .i64 kd, .int .i64 pl, .int .i64 nn', .slice a1' l1' c1', .slice a2' l2' c2', .int .i64 wa'] 40) := ⟨_, rfl⟩
  have hW0 : Hid (W0 = _) := hW0'
  have B0 : Below w.heap.size w W0 := by rw [hW0']; exact bel_next (bel_alloc w _) (bel_alloc _ _)
  have X0 : Blk W0 w.heap.size 40 #[.int .i64 kd, .int .i64 pl, .int .i64 nn, .slice a1 l1 c1, .slice a2 l2 c2, .int .i64 wa] := by rw [hW0']; exact (Blk.new w _ _).below (bel_alloc _ _)
  have Y0 : Blk W0 (w.heap.size + 1) 40 #[.int .i64 kd, .int .i64 pl, .int .i64 nn', .slice a1' l1' c1', .slice a2' l2' c2', .int .i64 wa'] := by
    rw [hW0']; have := Blk.new (w.alloc (.cells #[.int .i64 kd, .int .i64 pl, .int .i64 nn, .slice a1 l1 c1, .slice a2 l2 c2, .int .i64 wa] 40)) #[.int .i64 kd, .int .i64 pl, .int .i64 nn', .slice a1' l1' c1', .slice a2' l2' c2', .int .i64 wa'] 40; simpa using this
  obtain ⟨x0, x1, x2, x3, x4, x5⟩ := X0.six
  obtain ⟨y0, y1, y2, y3, y4, y5⟩ := Y0.six
  subst hn hw
  clear hW0'
  go_enter Try.func64, Try.ntmps64
  go_upto_region 1 with fail
  rw [← hW0.out]
  go_wp2_with fail
  refine (equal_int_len _ _ _ _ _ _ _ hne h1 h1').mono ?_
  rintro e w1 ⟨rfl, b'⟩
  go_wp2
  go_ret
  exact ⟨rfl, bel_next B0 b'⟩
set_option maxHeartbeats 4000000 in
theorem sameReq_2 (kd pl nn wa nn' wa' : Int) (a1 a2 a1' a2' : Option Addr) (l1 l2 c1 c2 l1' l2' c1' c2' : Nat) (w : World) (hn : nn' = nn) (hw : wa' = wa) (ws : List Int) (h1 : l1 = ws.length) (h1' : l1' = ws.length) (s1 : SlI w a1 ws) (s1' : SlI w a1' ws) (hl1 : ws.length ≤ 2000000) (hne : ¬ (l2 : Int) = (l2' : Int)) (h2 : l2 ≤ 20000000) (h2' : l2' ≤ 20000000) :
    Calls Try.prog 64 #[rq kd pl nn wa a1 a2 l1 l2 c1 c2, rq kd pl nn' wa' a1' a2' l1' l2' c1' c2'] w fun e w' => e = .returned (.bool false) ∧ Below w.heap.size w w' := by
  obtain ⟨W0, hW0'⟩ : ∃ W0, W0 = (w.alloc (.cells #[.int .i64 kd, .int .i64 pl, .int .i64 nn, .slice a1 l1 c1, .slice a2 l2 c2, .int .i64 wa] 40)).alloc (.cells #[.int .i64 kd, .int .i64 pl, .int .i64 nn', .slice a1' l1' c1', .slice a2' l2' c2', .int .i64 wa'] 40) := ⟨_, rfl⟩
  have hW0 : Hid (W0 = _) := hW0'
  have B0 : Below w.heap.size w W0 := by rw [hW0']; exact bel_next (bel_alloc w _) (bel_alloc _ _)
  have X0 : Blk W0 w.heap.size 40 #[.int .i64 kd, .int .i64 pl, .int .i64 nn, .slice a1 l1 c1, .slice a2 l2 c2, .int .i64 wa] := by rw [hW0']; exact (Blk.new w _ _).below (bel_alloc _ _)
  have Y0 : Blk W0 (w.heap.size + 1) 40 #[.int .i64 kd, .int .i64 pl, .int .i64 nn', .slice a1' l1' c1', .slice a2' l2' c2', .int .i64 wa'] := by
    rw [hW0']; have := Blk.new (w.alloc (.cells #[.int .i64 kd, .int .i64 pl, .int .i64 nn, .slice a1 l1 c1, .slice a2 l2 c2, .int .i64 wa] 40)) #[.int .i64 kd, .int .i64 pl, .int .i64 nn', .slice a1' l1' c1', .slice a2' l2' c2', .int .i64 wa'] 40; simpa using this
  obtain ⟨x0, x1, x2, x3, x4, x5⟩ := X0.six
  obtain ⟨y0, y1, y2, y3, y4, y5⟩ := Y0.six
  subst hn hw
  have HH : Hid (l1 = ws.length ∧ l1' = ws.length ∧ SlI W0 a1 ws ∧ SlI W0 a1' ws) := ⟨h1, h1', s1.below B0, s1'.below B0⟩
  clear h1 h1' s1 s1'
  clear hW0'
  go_enter Try.func64, Try.ntmps64
  go_upto_region 1 with fail
  rw [← hW0.out]
  go_wp2_with fail
  refine (equal_int _ _ _ _ _ _ ws _ HH.out.1 HH.out.2.1 HH.out.2.2.1 HH.out.2.2.2 hl1).mono ?_
  rintro e w1 ⟨rfl, b'⟩
  have b1 := bel_next B0 b'
  obtain ⟨x0, x1, x2, x3, x4, x5⟩ := (X0.below b').six
  obtain ⟨y0, y1, y2, y3, y4, y5⟩ := (Y0.below b').six
  go_wp2_with fail
  refine (equal_bool_len _ _ _ _ _ _ _ hne h2 h2').mono ?_
  rintro e w2 ⟨rfl, b2'⟩
  go_wp2
  go_ret
  exact ⟨rfl, bel_next b1 b2'⟩
set_option maxHeartbeats 4000000 in
theorem sameReq_t (kd pl nn wa nn' wa' : Int) (a1 a2 a1' a2' : Option Addr) (l1 l2 c1 c2 l1' l2' c1' c2' : Nat) (w : World) (hn : nn' = nn) (hw : wa' = wa) (ws : List Int) (h1 : l1 = ws.length) (h1' : l1' = ws.length) (s1 : SlI w a1 ws) (s1' : SlI w a1' ws) (hl1 : ws.length ≤ 2000000) (bs : List Bool) (h2 : l2 = bs.length) (h2' : l2' = bs.length) (s2 : SlB w a2 bs) (s2' : SlB w a2' bs) (hl2 : bs.length ≤ 2000000) :
    Calls Try.prog 64 #[rq kd pl nn wa a1 a2 l1 l2 c1 c2, rq kd pl nn' wa' a1' a2' l1' l2' c1' c2'] w fun e w' => e = .returned (.bool true) ∧ Below w.heap.size w w' := by
  obtain ⟨W0, hW0'⟩ : ∃ W0, W0 = (w.alloc (.cells #[.int .i64 kd, .int .i64 pl, .int .i64 nn, .slice a1 l1 c1, .slice a2 l2 c2, .int .i64 wa] 40)).alloc (.cells #[.int .i64 kd, .int .i64 pl, .int .i64 nn', .slice a1' l1' c1', .slice a2' l2' c2', .int .i64 wa'] 40) := ⟨_, rfl⟩
  have hW0 : Hid (W0 = _) := hW0'
  have B0 : Below w.heap.size w W0 := by rw [hW0']; exact bel_next (bel_alloc w _) (bel_alloc _ _)
  have X0 : Blk W0 w.heap.size 40 #[.int .i64 kd, .int .i64 pl, .int .i64 nn, .slice a1 l1 c1, .slice a2 l2 c2, .int .i64 wa] := by rw [hW0']; exact (Blk.new w _ _).below (bel_alloc _ _)
  have Y0 : Blk W0 (w.heap.size + 1) 40 #[.int .i64 kd, .int .i64 pl, .int .i64 nn', .slice a1' l1' c1', .slice a2' l2' c2', .int .i64 wa'] := by
    rw [hW0']; have := Blk.new (w.alloc (.cells #[.int .i64 kd, .int .i64 pl, .int .i64 nn, .slice a1 l1 c1, .slice a2 l2 c2, .int .i64 wa] 40)) #[.int .i64 kd, .int .i64 pl, .int .i64 nn', .slice a1' l1' c1', .slice a2' l2' c2', .int .i64 wa'] 40; simpa using this
  obtain ⟨x0, x1, x2, x3, x4, x5⟩ := X0.six
  obtain ⟨y0, y1, y2, y3, y4, y5⟩ := Y0.six
  subst hn hw
  have HH : Hid (l1 = ws.length ∧ l1' = ws.length ∧ SlI W0 a1 ws ∧ SlI W0 a1' ws) := ⟨h1, h1', s1.below B0, s1'.below B0⟩
  clear h1 h1' s1 s1'
  have HB : Hid (l2 = bs.length ∧ l2' = bs.length ∧ SlB W0 a2 bs ∧ SlB W0 a2' bs) := ⟨h2, h2', s2.below B0, s2'.below B0⟩
  clear h2 h2' s2 s2'
  clear hW0'
  go_enter Try.func64, Try.ntmps64
  go_upto_region 1 with fail
  rw [← hW0.out]
  go_wp2_with fail
  refine (equal_int _ _ _ _ _ _ ws _ HH.out.1 HH.out.2.1 HH.out.2.2.1 HH.out.2.2.2 hl1).mono ?_
  rintro e w1 ⟨rfl, b'⟩
  have b1 := bel_next B0 b'
  obtain ⟨x0, x1, x2, x3, x4, x5⟩ := (X0.below b').six
  obtain ⟨y0, y1, y2, y3, y4, y5⟩ := (Y0.below b').six
  go_wp2_with fail
  refine (equal_bool _ _ _ _ _ _ bs _ HB.out.1 HB.out.2.1 (HB.out.2.2.1.below b') (HB.out.2.2.2.below b') hl2).mono ?_
  rintro e w2 ⟨rfl, b2'⟩
  go_wp2
  go_ret
  exact ⟨rfl, bel_next b1 b2'⟩
end Go.Proofs.Ytfagbjffhjnmaaa
namespace Go.Proofs.Ytfagbjffhjnmaaa
theorem wraps_i64' (n : Int) (h₀ : 0 ≤ n) (h₁ : n < 2 ^ 32) : IntKind.i64.wrap n = n := by rw [IntKind.wrap_i64]; omega
end Go.Proofs.Ytfagbjffhjnmaaa
namespace Go.Proofs.Ytfagbjffhjnmaaa
open Go.RowKit
def pv (bits : List Bool) : Nat → Nat → Int
  | 0, _ => 0
  | k + 1, j => if k / 8 = j ∧ bits.getD k false = true then pv bits k j + (2 ^ (k % 8) : Nat) else pv bits k j
set_option maxHeartbeats 1000000 in
theorem bytesFor_any (x : Int) (w : World) (h0 : 0 ≤ x) (h1 : x ≤ 9223372036854775807) :
    Calls Try.prog 79 #[.int .i64 x] w fun e w' => e = .returned (.int .i64 ((x + 7) / 8)) ∧ w' = w := by
  by_cases h : x % 8 = 0
  · have e : (x + 7) / 8 = x / 8 := by omega
    rw [e]
    have h' : (x % 8 == 0) = true := by simp [h]
    clear e
    go_enter Try.func79, Try.ntmps79
    go_wp2
    go_ret
    exact ⟨rfl, rfl⟩
  · have e : (x + 7) / 8 = x / 8 + 1 := by omega
    rw [e]
    have h' : (x % 8 == 0) = false := by simp [h]
    clear e
    go_enter Try.func79, Try.ntmps79
    go_wp2
    go_ret
    exact ⟨rfl, rfl⟩
end Go.Proofs.Ytfagbjffhjnmaaa
namespace Go.Proofs.Ytfagbjffhjnmaaa
open Go.RowKit
set_option linter.unusedVariables false
set_option linter.unusedSimpArgs false
theorem first_diff {α : Type} [DecidableEq α] (d : α) : ∀ (zs ys : List α), zs.length = ys.length → zs ≠ ys → ∃ k, k < zs.length ∧ zs.getD k d ≠ ys.getD k d ∧ ∀ j, j < k → zs.getD j d = ys.getD j d
  | [], [], _, h => absurd rfl h
  | [], _ :: _, h, _ => by simp at h
  | _ :: _, [], h, _ => by simp at h
  | x :: r, y :: s, hl, hne => by
    by_cases e : x = y
    · subst e
      obtain ⟨k, h1, h2, h3⟩ := first_diff d r s (by simpa using hl) (fun h => hne (by rw [h]))
      refine ⟨k + 1, by simp; omega, by simpa using h2, fun j hj => ?_⟩
      cases j with
      | zero => simp
      | succ j => simpa using h3 j (by omega)
    · exact ⟨0, by simp, by simpa using e, fun j hj => by omega⟩
set_option maxHeartbeats 2000000 in
theorem equal_int_ne (a a' : Option Addr) (n n' cap cap' : Nat) (zs ys : List Int) (w : World) (hn : n = zs.length) (hn' : n' = zs.length) (hy : zs.length = ys.length) (hs : SlI w a zs) (hs' : SlI w a' ys) (hl : zs.length ≤ 2000000) (hne : zs ≠ ys) :
    Calls Try.prog 70 #[.slice a n cap, .slice a' n' cap'] w fun e w' => e = .returned (.bool false) ∧ Below w.heap.size w w' := by
  subst hn hn'
  obtain ⟨d, hd, hdn, hdj⟩ := first_diff 0 zs ys hy hne
  have HY : Hid (zs.length = ys.length) := hy
  have HD : Hid (∀ j, j < d → zs.getD j 0 = ys.getD j 0) := hdj
  clear hy hdj hne
  go_enter Try.func70, Try.ntmps70
  go_wp2
  go_loopw [13] (fun i wr => ∃ k : Nat, k ≤ d ∧ i = .int .i64 k ∧ ∃ n, wr = w.drewN n) (fun i _ => d - (intOf i).toNat)
  case atStart => exact ⟨0, Nat.zero_le _, rfl, 0, rfl⟩
  case round =>
    obtain ⟨k, hk, rfl, n, rfl⟩ := hrel
    have hlt : k < zs.length := by omega
    obtain ⟨b, off, rfl, _, hc⟩ := cell_atI hs hlt
    obtain ⟨b', off', rfl, _, hc'⟩ := cell_atI hs' (show k < ys.length by have := HY.out; omega)
    have hi : (k : Int) < (zs.length : Int) := by omega
    by_cases hkd : k < d
    · rw [← HD.out k hkd] at hc'
      clear hs hs'
      go_wp2
      go_quiet (fail)
      go_wp2
      go_roundw
      case rel => first | exact ⟨k + 1, by omega, by go_num, _, rfl⟩ | exact ⟨_, _, ⟨k + 1, by omega, by go_num, _, rfl⟩, rfl, rfl⟩
      case measure => simp [intOf]; omega
    · obtain rfl : k = d := by omega
      clear hs hs'
      generalize zs.getD k 0 = x at *
      generalize ys.getD k 0 = y at *
      go_wp2
      go_quiet (fail)
      go_wp2
      go_ret
      exact ⟨rfl, bel_drewN (drew_refl _ _) _⟩
set_option maxHeartbeats 2000000 in
theorem equal_bool_ne (a a' : Option Addr) (n n' cap cap' : Nat) (zs ys : List Bool) (w : World) (hn : n = zs.length) (hn' : n' = zs.length) (hy : zs.length = ys.length) (hs : SlB w a zs) (hs' : SlB w a' ys) (hl : zs.length ≤ 2000000) (hne : zs ≠ ys) :
    Calls Try.prog 71 #[.slice a n cap, .slice a' n' cap'] w fun e w' => e = .returned (.bool false) ∧ Below w.heap.size w w' := by
  subst hn hn'
  obtain ⟨d, hd, hdn, hdj⟩ := first_diff false zs ys hy hne
  have HY : Hid (zs.length = ys.length) := hy
  have HD : Hid (∀ j, j < d → zs.getD j false = ys.getD j false) := hdj
  clear hy hdj hne
  go_enter Try.func71, Try.ntmps71
  go_wp2
  go_loopw [13] (fun i wr => ∃ k : Nat, k ≤ d ∧ i = .int .i64 k ∧ ∃ n, wr = w.drewN n) (fun i _ => d - (intOf i).toNat)
  case atStart => exact ⟨0, Nat.zero_le _, rfl, 0, rfl⟩
  case round =>
    obtain ⟨k, hk, rfl, n, rfl⟩ := hrel
    have hlt : k < zs.length := by omega
    obtain ⟨b, off, rfl, _, hc⟩ := cell_atB hs hlt
    obtain ⟨b', off', rfl, _, hc'⟩ := cell_atB hs' (show k < ys.length by have := HY.out; omega)
    have hi : (k : Int) < (zs.length : Int) := by omega
    by_cases hkd : k < d
    · rw [← HD.out k hkd] at hc'
      clear hs hs'
      go_wp2
      go_quiet (fail)
      go_wp2
      go_roundw
      case rel => first | exact ⟨k + 1, by omega, by go_num, _, rfl⟩ | exact ⟨_, _, ⟨k + 1, by omega, by go_num, _, rfl⟩, rfl, rfl⟩
      case measure => simp [intOf]; omega
    · obtain rfl : k = d := by omega
      clear hs hs'
      generalize zs.getD k false = x at *
      generalize ys.getD k false = y at *
      obtain rfl : y = !x := by cases x <;> cases y <;> simp_all
      clear hdn
      cases x
      all_goals (
        go_wp2
        go_quiet (fail)
        go_wp2
        go_ret
        exact ⟨rfl, bel_drewN (drew_refl _ _) _⟩)
theorem equal_int_any (a a' : Option Addr) (n n' cap cap' : Nat) (zs ys : List Int) (w : World) (hn : n = zs.length) (hn' : n' = ys.length) (hs : SlI w a zs) (hs' : SlI w a' ys) (hl : zs.length ≤ 2000000) (hl' : ys.length ≤ 2000000) (b : Bool) (hb : decide (zs = ys) = b) :
    Calls Try.prog 70 #[.slice a n cap, .slice a' n' cap'] w fun e w' => e = .returned (.bool b) ∧ Below w.heap.size w w' := by
  subst hb
  by_cases h : zs = ys
  · subst h
    rw [decide_eq_true rfl]
    exact equal_int a a' n n' cap cap' zs w hn hn' hs hs' hl
  · rw [decide_eq_false h]
    by_cases hy : zs.length = ys.length
    · exact equal_int_ne a a' n n' cap cap' zs ys w hn (hn'.trans hy.symm) hy hs hs' hl h
    · exact equal_int_len a a' n n' cap cap' w (by omega) (by omega) (by omega)
theorem equal_bool_any (a a' : Option Addr) (n n' cap cap' : Nat) (zs ys : List Bool) (w : World) (hn : n = zs.length) (hn' : n' = ys.length) (hs : SlB w a zs) (hs' : SlB w a' ys) (hl : zs.length ≤ 2000000) (hl' : ys.length ≤ 2000000) (b : Bool) (hb : decide (zs = ys) = b) :
    Calls Try.prog 71 #[.slice a n cap, .slice a' n' cap'] w fun e w' => e = .returned (.bool b) ∧ Below w.heap.size w w' := by
  subst hb
  by_cases h : zs = ys
  · subst h
    rw [decide_eq_true rfl]
    exact equal_bool a a' n n' cap cap' zs w hn hn' hs hs' hl
  · rw [decide_eq_false h]
    by_cases hy : zs.length = ys.length
    · exact equal_bool_ne a a' n n' cap cap' zs ys w hn (hn'.trans hy.symm) hy hs hs' hl h
    · exact equal_bool_len a a' n n' cap cap' w (by omega) (by omega) (by omega)
set_option maxHeartbeats 2000000 in
theorem l4SameWords_any (a a' : Option Addr) (n n' cap cap' : Nat) (zs ys : List Int) (w : World) (hn : n = zs.length) (hn' : n' = ys.length) (hs : SlI w a zs) (hs' : SlI w a' ys) (hl : zs.length ≤ 2000000) (hl' : ys.length ≤ 2000000) (b : Bool) (hb : decide (zs = ys) = b) :
    Calls Try.prog 38 #[.slice a n cap, .slice a' n' cap'] w fun e w' => e = .returned (.bool b) ∧ Below w.heap.size w w' := by
  subst hb hn hn'
  by_cases hy : zs.length = ys.length
  · have hyi : (zs.length : Int) = (ys.length : Int) := by omega
    have HY : Hid (zs.length = ys.length) := hy
    by_cases h : zs = ys
    · subst h
      rw [decide_eq_true rfl]
      clear hy hyi
      go_enter Try.func38, Try.ntmps38
      go_wp2
      go_loopw [5] (fun i wr => ∃ k : Nat, k ≤ zs.length ∧ i = .int .i64 k ∧ ∃ n, wr = w.drewN n) (fun i _ => zs.length - (intOf i).toNat)
      case atStart => exact ⟨0, Nat.zero_le _, rfl, 0, rfl⟩
      case round =>
        obtain ⟨k, hk, rfl, n, rfl⟩ := hrel
        by_cases hlt : k < zs.length
        · obtain ⟨b, off, rfl, _, hc⟩ := cell_atI hs hlt
          obtain ⟨b', off', rfl, _, hc'⟩ := cell_atI hs' hlt
          have hi : (k : Int) < (zs.length : Int) := by omega
          clear hs hs'
          go_wp2
          go_quiet (fail)
          go_wp2
          go_roundw
          case rel => first | exact ⟨k + 1, by omega, by go_num, _, rfl⟩ | exact ⟨_, _, ⟨k + 1, by omega, by go_num, _, rfl⟩, rfl, rfl⟩
          case measure => simp [intOf]; omega
        · clear hs hs'
          go_wp2
          go_ret
          exact ⟨rfl, drew_refl _ _⟩
    · rw [decide_eq_false h]
      obtain ⟨d, hd, hdn, hdj⟩ := first_diff 0 zs ys hy h
      have HD : Hid (∀ j, j < d → zs.getD j 0 = ys.getD j 0) := hdj
      clear hdj h
      rw [← hy]
      clear hy hyi
      go_enter Try.func38, Try.ntmps38
      go_wp2
      go_loopw [5] (fun i wr => ∃ k : Nat, k ≤ d ∧ i = .int .i64 k ∧ ∃ n, wr = w.drewN n) (fun i _ => d - (intOf i).toNat)
      case atStart => exact ⟨0, Nat.zero_le _, rfl, 0, rfl⟩
      case round =>
        obtain ⟨k, hk, rfl, n, rfl⟩ := hrel
        have hlt : k < zs.length := by omega
        obtain ⟨b, off, rfl, _, hc⟩ := cell_atI hs hlt
        obtain ⟨b', off', rfl, _, hc'⟩ := cell_atI hs' (show k < ys.length by have := HY.out; omega)
        have hi : (k : Int) < (zs.length : Int) := by omega
        by_cases hkd : k < d
        · rw [← HD.out k hkd] at hc'
          clear hs hs'
          go_wp2
          go_quiet (fail)
          go_wp2
          go_roundw
          case rel => first | exact ⟨k + 1, by omega, by go_num, _, rfl⟩ | exact ⟨_, _, ⟨k + 1, by omega, by go_num, _, rfl⟩, rfl, rfl⟩
          case measure => simp [intOf]; omega
        · obtain rfl : k = d := by omega
          clear hs hs'
          generalize zs.getD k 0 = x at *
          generalize ys.getD k 0 = y at *
          go_wp2
          go_quiet (fail)
          go_wp2
          go_ret
          exact ⟨rfl, bel_drewN (drew_refl _ _) _⟩
  · rw [decide_eq_false (fun h => hy (by rw [h]))]
    have hyi : ¬ (zs.length : Int) = (ys.length : Int) := by omega
    clear hs hs' hy
    go_enter Try.func38, Try.ntmps38
    go_wp2
    go_ret
    exact ⟨rfl, Below.refl _ _⟩
def nfB (bs : List Bool) (n : Nat) : Bool := decide (∀ k, k < bs.length → n ≤ k → bs.getD k false = false)
theorem nfB_no {bs : List Bool} {n k : Nat} (h1 : n ≤ k) (h2 : k < bs.length) (h : bs.getD k false = true) : nfB bs n = false :=
  decide_eq_false (fun hh => by rw [hh k h2 h1] at h; cases h)
set_option maxHeartbeats 2000000 in
theorem indexB_any (a : Option Addr) (n cap : Nat) (zs : List Bool) (w : World) (hn : n = zs.length) (hs : SlB w a zs) (hl : zs.length ≤ 2000000) :
    Calls Try.prog 84 #[.slice a n cap, .bool true] w fun e w' => ∃ i : Int, e = .returned (.int .i64 i) ∧ decide (i ≥ 0) = !nfB zs 0 ∧ Below w.heap.size w w' := by
  subst hn
  go_enter Try.func84, Try.ntmps84
  go_wp2
  go_loopw [8] (fun i wr => ∃ k : Nat, k ≤ zs.length ∧ i = .int .i64 k ∧ (∀ j, j < k → zs.getD j false = false) ∧ wr = w) (fun i _ => zs.length - (intOf i).toNat)
  case atStart => exact ⟨0, Nat.zero_le _, rfl, fun j hj => by omega, rfl⟩
  case round =>
    obtain ⟨k, hk, rfl, hz, rfl⟩ := hrel
    have HZ : Hid (∀ j, j < k → zs.getD j false = false) := hz
    clear hz
    by_cases hlt : k < zs.length
    · obtain ⟨b, off, rfl, _, hc⟩ := cell_atB hs hlt
      have hi : (k : Int) < (zs.length : Int) := by omega
      cases hx : zs.getD k false
      · rw [hx] at hc
        have HN : Hid (∀ j, j < k + 1 → zs.getD j false = false) := by
          intro j hj
          by_cases h : j < k
          · exact HZ.out j h
          · rw [show j = k by omega]; exact hx
        clear hs hx
        go_wp2
        go_roundw
        case rel => exact ⟨k + 1, by omega, by go_num, HN.out, trivial⟩
        case measure => simp [intOf]; omega
      · rw [hx] at hc
        have HX : Hid (nfB zs 0 = false) := nfB_no (Nat.zero_le _) hlt hx
        clear hs hx
        go_wp2
        go_ret
        exact ⟨k, rfl, by rw [HX.out]; simp, Below.refl _ _⟩
    · have HX : Hid (nfB zs 0 = true) := decide_eq_true (fun j hj _ => HZ.out j (by omega))
      clear hs
      go_wp2
      go_ret
      exact ⟨-1, rfl, by rw [HX.out]; rfl, Below.refl _ _⟩
set_option maxHeartbeats 2000000 in
theorem containsB_any (a : Option Addr) (n cap : Nat) (zs : List Bool) (w : World) (hn : n = zs.length) (hs : SlB w a zs) (hl : zs.length ≤ 2000000) (b : Bool) (hb : nfB zs 0 = b) :
    Calls Try.prog 80 #[.slice a n cap, .bool true] w fun e w' => e = .returned (.bool (!b)) ∧ Below w.heap.size w w' := by
  have HS : Hid (SlB w a zs ∧ n = zs.length) := ⟨hs, hn⟩
  have HB : Hid (nfB zs 0 = b) := hb
  clear hs hn hb
  go_enter Try.func80, Try.ntmps80
  go_wp2_with fail
  refine (indexB_any a n cap zs _ HS.out.2 HS.out.1 hl).mono ?_
  rintro e w1 ⟨i, rfl, hi, b'⟩
  rw [HB.out] at hi
  have HI : Hid (decide (i ≥ 0) = !b) := hi
  clear hi
  go_wp2
  go_ret
  exact ⟨by first | (rw [← HI.out]; rfl) | exact congrArg (fun x => Ending.returned (Value.bool x)) HI.out, b'⟩
end Go.Proofs.Ytfagbjffhjnmaaa
namespace Go.Proofs.Ytfagbjffhjnmaaa
open Go.RowKit
def word2 (x y : Int) : Int := bits BinOp.or IntKind.i64 (x * 256) y
end Go.Proofs.Ytfagbjffhjnmaaa
