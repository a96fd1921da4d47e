/- Texts that the proof needs, joined: Tr1 ArgTr Tr2 Tr4 Mk0 Mk1. -/
import Derived.Test.YtfdddkjonjpgpaaV1
import Derived.Deep.Slices
import Derived.Lib.SmallJoins
namespace Go.Proofs.Ytfdddkjonjpgpaa
open Go.RowKit Go.Joins
set_option linter.unusedVariables false
set_option linter.unusedSimpArgs false
theorem Tr.sz_leaf (v : Value) : (Tr.leaf v).sz = 0 := rfl
structure VQ where
  kd : Int
  pl : Int
  n : Int
  ws : List Int
  bs : List Bool
  wa : Int
instance : Inhabited VQ := ⟨⟨0, 0, 0, [], [], 0⟩⟩
def qT (X : VQ) : List Tr := [.leaf (.int .i64 X.kd), .leaf (.int .i64 X.pl), .leaf (.int .i64 X.n), intsT X.ws, boolsT X.bs, .leaf (.int .i64 X.wa)]
abbrev qL (X : VQ) (a1 : Option Addr) (l1 c1 : Nat) (a2 : Option Addr) (l2 c2 : Nat) : List Value := [.int .i64 X.kd, .int .i64 X.pl, .int .i64 X.n, .slice a1 l1 c1, .slice a2 l2 c2, .int .i64 X.wa]
theorem VQ.cells {w : World} {lo : Nat} {X : VQ} {vs : List Value} (h : RdL w lo (trs (qT X)) vs) (hl : vs.length = 6) : ∃ a1 c1 a2 c2, vs = qL X a1 (X.ws.length) c1 a2 (X.bs.length) c2 ∧ Rd w lo (intsT X.ws) (.slice a1 (X.ws.length) c1) ∧ Rd w lo (boolsT X.bs) (.slice a2 (X.bs.length) c2) := by
  match vs, hl with
  | [v0, v1, v2, v3, v4, v5], _ =>
    have e0 : v0 = .int .i64 X.kd := RdL.get h (j := 0) rfl rfl
    have e1 : v1 = .int .i64 X.pl := RdL.get h (j := 1) rfl rfl
    have e2 : v2 = .int .i64 X.n := RdL.get h (j := 2) rfl rfl
    have r1 : Rd w lo (intsT X.ws) v3 := RdL.get h (j := 3) rfl rfl
    obtain ⟨a1, c1, e3, _⟩ := r1.shape
    have r2 : Rd w lo (boolsT X.bs) v4 := RdL.get h (j := 4) rfl rfl
    obtain ⟨a2, c2, e4, _⟩ := r2.shape
    have e5 : v5 = .int .i64 X.wa := RdL.get h (j := 5) rfl rfl
    subst e0 e1 e2 e3 e4 e5
    exact ⟨a1, c1, a2, c2, rfl, r1, r2⟩
theorem VQ.back {w : World} {lo : Nat} {X : VQ} {a1 : Option Addr} {l1 c1 : Nat} {a2 : Option Addr} {l2 c2 : Nat} (r1 : Rd w lo (intsT X.ws) (.slice a1 l1 c1)) (r2 : Rd w lo (boolsT X.bs) (.slice a2 l2 c2)) : RdL w lo (trs (qT X)) (qL X a1 l1 c1 a2 l2 c2) := by
  refine RdL.mk (fun j v t hv ht => ?_) (by simp [qT])
  match j, hv, ht with
  | 0, hv, ht =>
    obtain rfl := Option.some.inj (show some _ = some v from hv)
    obtain rfl := Option.some.inj (show some _ = some t from ht)
    exact rfl
  | 1, hv, ht =>
    obtain rfl := Option.some.inj (show some _ = some v from hv)
    obtain rfl := Option.some.inj (show some _ = some t from ht)
    exact rfl
  | 2, hv, ht =>
    obtain rfl := Option.some.inj (show some _ = some v from hv)
    obtain rfl := Option.some.inj (show some _ = some t from ht)
    exact rfl
  | 3, hv, ht =>
    obtain rfl := Option.some.inj (show some _ = some v from hv)
    obtain rfl := Option.some.inj (show some _ = some t from ht)
    exact r1
  | 4, hv, ht =>
    obtain rfl := Option.some.inj (show some _ = some v from hv)
    obtain rfl := Option.some.inj (show some _ = some t from ht)
    exact r2
  | 5, hv, ht =>
    obtain rfl := Option.some.inj (show some _ = some v from hv)
    obtain rfl := Option.some.inj (show some _ = some t from ht)
    exact rfl
  | j + 6, hv, ht => simp at hv
theorem szT_q (X : VQ) : szT 6 (trs (qT X)) = X.ws.length + X.bs.length := by
  simp [szT, sumN, trs, qT, Tr.sz_leaf, intsT_sz, boolsT_sz]
structure VA where
  kd : Int
  fl : Int
  pl : Int
  n : Int
  ws : List Int
  bs : List Bool
instance : Inhabited VA := ⟨⟨0, 0, 0, 0, [], []⟩⟩
def aT (X : VA) : List Tr := [.leaf (.int .i64 X.kd), .leaf (.int .i64 X.fl), .leaf (.int .i64 X.pl), .leaf (.int .i64 X.n), intsT X.ws, boolsT X.bs]
abbrev aL (X : VA) (a1 : Option Addr) (l1 c1 : Nat) (a2 : Option Addr) (l2 c2 : Nat) : List Value := [.int .i64 X.kd, .int .i64 X.fl, .int .i64 X.pl, .int .i64 X.n, .slice a1 l1 c1, .slice a2 l2 c2]
theorem VA.cells {w : World} {lo : Nat} {X : VA} {vs : List Value} (h : RdL w lo (trs (aT X)) vs) (hl : vs.length = 6) : ∃ a1 c1 a2 c2, vs = aL X a1 (X.ws.length) c1 a2 (X.bs.length) c2 ∧ Rd w lo (intsT X.ws) (.slice a1 (X.ws.length) c1) ∧ Rd w lo (boolsT X.bs) (.slice a2 (X.bs.length) c2) := by
  match vs, hl with
  | [v0, v1, v2, v3, v4, v5], _ =>
    have e0 : v0 = .int .i64 X.kd := RdL.get h (j := 0) rfl rfl
    have e1 : v1 = .int .i64 X.fl := RdL.get h (j := 1) rfl rfl
    have e2 : v2 = .int .i64 X.pl := RdL.get h (j := 2) rfl rfl
    have e3 : v3 = .int .i64 X.n := RdL.get h (j := 3) rfl rfl
    have r1 : Rd w lo (intsT X.ws) v4 := RdL.get h (j := 4) rfl rfl
    obtain ⟨a1, c1, e4, _⟩ := r1.shape
    have r2 : Rd w lo (boolsT X.bs) v5 := RdL.get h (j := 5) rfl rfl
    obtain ⟨a2, c2, e5, _⟩ := r2.shape
    subst e0 e1 e2 e3 e4 e5
    exact ⟨a1, c1, a2, c2, rfl, r1, r2⟩
theorem VA.back {w : World} {lo : Nat} {X : VA} {a1 : Option Addr} {l1 c1 : Nat} {a2 : Option Addr} {l2 c2 : Nat} (r1 : Rd w lo (intsT X.ws) (.slice a1 l1 c1)) (r2 : Rd w lo (boolsT X.bs) (.slice a2 l2 c2)) : RdL w lo (trs (aT X)) (aL X a1 l1 c1 a2 l2 c2) := by
  refine RdL.mk (fun j v t hv ht => ?_) (by simp [aT])
  match j, hv, ht with
  | 0, hv, ht =>
    obtain rfl := Option.some.inj (show some _ = some v from hv)
    obtain rfl := Option.some.inj (show some _ = some t from ht)
    exact rfl
  | 1, hv, ht =>
    obtain rfl := Option.some.inj (show some _ = some v from hv)
    obtain rfl := Option.some.inj (show some _ = some t from ht)
    exact rfl
  | 2, hv, ht =>
    obtain rfl := Option.some.inj (show some _ = some v from hv)
    obtain rfl := Option.some.inj (show some _ = some t from ht)
    exact rfl
  | 3, hv, ht =>
    obtain rfl := Option.some.inj (show some _ = some v from hv)
    obtain rfl := Option.some.inj (show some _ = some t from ht)
    exact rfl
  | 4, hv, ht =>
    obtain rfl := Option.some.inj (show some _ = some v from hv)
    obtain rfl := Option.some.inj (show some _ = some t from ht)
    exact r1
  | 5, hv, ht =>
    obtain rfl := Option.some.inj (show some _ = some v from hv)
    obtain rfl := Option.some.inj (show some _ = some t from ht)
    exact r2
  | j + 6, hv, ht => simp at hv
structure VP where
  p : Int
  t : Int
  q : VQ
instance : Inhabited VP := ⟨⟨0, 0, default⟩⟩
def pT (X : VP) : List Tr := [.leaf (.int .i64 X.p), .leaf (.int .i64 X.t), .leaf (.int .i64 X.q.kd), .leaf (.int .i64 X.q.pl), .leaf (.int .i64 X.q.n), intsT X.q.ws, boolsT X.q.bs, .leaf (.int .i64 X.q.wa)]
abbrev pL (X : VP) (a1 : Option Addr) (l1 c1 : Nat) (a2 : Option Addr) (l2 c2 : Nat) : List Value := [.int .i64 X.p, .int .i64 X.t, .int .i64 X.q.kd, .int .i64 X.q.pl, .int .i64 X.q.n, .slice a1 l1 c1, .slice a2 l2 c2, .int .i64 X.q.wa]
structure VD where
  id : Int
  so : Int
  ta : Int
  un : Int
  q : VQ
  np : Nat
  pt : Nat → VP
  hs : List Bool
  nt : Nat
  tl : Nat → VA
instance : Inhabited VD := ⟨⟨0, 0, 0, 0, default, 0, fun _ => default, [], 0, fun _ => default⟩⟩
def dT (X : VD) : List Tr := [.leaf (.int .i64 X.id), .leaf (.int .i64 X.so), .leaf (.int .i64 X.ta), .leaf (.int .i64 X.un), .leaf (.int .i64 X.q.kd), .leaf (.int .i64 X.q.pl), .leaf (.int .i64 X.q.n), intsT X.q.ws, boolsT X.q.bs, .leaf (.int .i64 X.q.wa), .list 8 X.np (fun i => trs (pT (X.pt i))), boolsT X.hs, .list 6 X.nt (fun i => trs (aT (X.tl i)))]
abbrev dL (X : VD) (a1 : Option Addr) (l1 c1 : Nat) (a2 : Option Addr) (l2 c2 : Nat) (a3 : Option Addr) (l3 c3 : Nat) (a4 : Option Addr) (l4 c4 : Nat) (a5 : Option Addr) (l5 c5 : Nat) : List Value := [.int .i64 X.id, .int .i64 X.so, .int .i64 X.ta, .int .i64 X.un, .int .i64 X.q.kd, .int .i64 X.q.pl, .int .i64 X.q.n, .slice a1 l1 c1, .slice a2 l2 c2, .int .i64 X.q.wa, .slice a3 l3 c3, .slice a4 l4 c4, .slice a5 l5 c5]
structure VT where
  nx : Int
  m : Nat
  f : Nat → VD
instance : Inhabited VT := ⟨⟨0, 0, fun _ => default⟩⟩
def tT (X : VT) : List Tr := [.leaf (.int .i64 X.nx), .list 13 X.m (fun i => trs (dT (X.f i)))]
abbrev tL (X : VT) (a1 : Option Addr) (l1 c1 : Nat) : List Value := [.int .i64 X.nx, .slice a1 l1 c1]
end Go.Proofs.Ytfdddkjonjpgpaa
namespace Go.Proofs.Ytfdddkjonjpgpaa
open Go.ChangeShapes Go.WideShapes Go.ChangeAt Go.RowKit Go.Deep Go.Joins
set_option linter.unusedVariables false
set_option linter.unusedSimpArgs false
inductive Sh where
  | int
  | bool
  | lst (s : Nat) (f : Nat → Sh)
def OfSh (w : World) : Sh → Value → Prop
  | .int, v => ∃ z, v = .int .i64 z
  | .bool, v => ∃ z, v = .bool z
  | .lst s f, v => ∃ a n c, v = .slice a n c ∧ n ≤ c ∧ n ≤ maxLen ∧ (n = 0 ∨ ∃ (g off : Nat) (F : Nat → List Value), a = some ⟨g, off, none⟩ ∧ g < w.heap.size ∧
      ∀ k, k < n → (F k).length = s ∧ ∀ j v, (F k)[j]? = some v → w.cell? ⟨g, off + k * s + j, none⟩ = some v ∧ OfSh w (f j) v)
def OfShL (w : World) (S : List Sh) (vs : List Value) : Prop := vs.length = S.length ∧ ∀ j v, vs[j]? = some v → OfSh w (S.getD j .int) v
def shF (P : Program) (sh : TypeId → Option (List Sh)) : List Field → Nat → Option (List Sh)
  | [], _ => some []
  | f :: r, o => match sh f.type, shF P sh r (o + P.cellsOf f.type) with
    | some l, some l' => if f.offset = o ∧ P.cellsOf f.type = l.length then some (l ++ l') else none
    | _, _ => none
def shT (P : Program) : Nat → TypeId → Option (List Sh)
  | 0, _ => none
  | n + 1, t => match P.underlying t with
    | some (.int .i64) => some [.int]
    | some .bool => some [.bool]
    | some (.slice e) => match shT P n e with
      | some l => if P.cellsOf e = l.length ∧ 0 < l.length then some [.lst l.length (fun j => l.getD j .int)] else none
      | none => none
    | some (.struct fs) => match shF P (shT P n) fs.toList 0 with
      | some l => if P.cellsOf t = l.length then some l else none
      | none => none
    | _ => none
section
variable {H : Type} {enc : TypeId × Value → H} {P : Program} {w : World} {base : Nat} {held : Bool}
theorem opened_shF {sh : TypeId → Option (List Sh)} {cs : List Value}
    (hsh : ∀ t S, sh t = some S → ∀ (fuel : Nat) cs' (y : DataW H × List MemPlace), DataW.trod enc P w base (fun _ => true) held fuel t cs' = some y → OfShL w S cs') :
    ∀ (fs : List Field) (o : Nat) (S : List Sh), shF P sh fs o = some S → (∀ (i : Nat) f, fs[i]? = some f → ∃ (n : Nat) (y : DataW H × List MemPlace), DataW.trod enc P w base (fun _ => true) held n f.type ((cs.drop f.offset).take (P.cellsOf f.type)) = some y) →
      ∀ j v, j < S.length → cs[o + j]? = some v → OfSh w (S.getD j .int) v
  | [], o, S, h, _, j, v, hj, hv => by
    simp only [shF, Option.some.injEq] at h
    subst h
    simp at hj
  | f :: r, o, S, h, hf, j, v, hj, hv => by
    unfold shF at h
    split at h
    · rename_i l l' h1 h2
      split at h
      · rename_i hc
        simp only [Option.some.injEq] at h
        subst h
        obtain ⟨n, y, hy⟩ := hf 0 f rfl
        obtain ⟨q1, q2⟩ := hsh _ _ h1 _ _ _ hy
        by_cases e : j < l.length
        · have := q2 j v (by
            rw [List.getElem?_take, if_pos (by omega), List.getElem?_drop, hc.1]
            exact hv)
          rw [List.getD_eq_getElem?_getD] at this ⊢
          rw [List.getElem?_append_left e]
          exact this
        · have := opened_shF hsh r _ l' h2 (fun i f' hf' => hf (i + 1) f' (by simpa using hf')) (j - l.length) v (by simp at hj; omega) (by
            rw [show o + P.cellsOf f.type + (j - l.length) = o + j by omega]
            exact hv)
          rw [List.getD_eq_getElem?_getD] at this ⊢
          rw [List.getElem?_append_right (by omega)]
          exact this
      · simp at h
    · simp at h
theorem opened_sh : ∀ (n : Nat) (t : TypeId) (S : List Sh), shT P n t = some S → ∀ (fuel : Nat) cs (y : DataW H × List MemPlace), DataW.trod enc P w base (fun _ => true) held fuel t cs = some y → OfShL w S cs
  | 0, t, S, h, _, _, _, _ => by simp [shT] at h
  | n + 1, t, S, h, fuel, cs, y, hy => by
    unfold shT at h
    split at h
    · rename_i ht
      simp only [Option.some.injEq] at h
      subst h
      obtain ⟨z, rfl, _⟩ := DataW.trod_int ht hy
      refine ⟨rfl, fun j v hv => ?_⟩
      match j, hv with
      | 0, hv => simp at hv; subst hv; exact ⟨z, rfl⟩
      | j + 1, hv => simp at hv
    · rename_i ht
      simp only [Option.some.injEq] at h
      subst h
      obtain ⟨z, rfl, _⟩ := DataW.trod_bool ht hy
      refine ⟨rfl, fun j v hv => ?_⟩
      match j, hv with
      | 0, hv => simp at hv; subst hv; exact ⟨z, rfl⟩
      | j + 1, hv => simp at hv
    · rename_i e ht
      split at h
      · rename_i l hl
        split at h
        · rename_i hc
          simp only [Option.some.injEq] at h
          subst h
          rcases open_slice ht hy with ⟨rfl, _⟩ | ⟨x, len, c, m, n', D, Pl, rfl, _, hlc, hcm, hmm, _, hx⟩
          · refine ⟨rfl, fun j v hv => ?_⟩
            match j, hv with
            | 0, hv => simp at hv; subst hv; exact ⟨none, 0, 0, rfl, Nat.le_refl _, Nat.zero_le _, .inl rfl⟩
            | j + 1, hv => simp at hv
          · simp only [if_true] at hmm
            subst hmm
            rw [hc.1] at hx
            obtain ⟨F, hF⟩ := choose_lt (α := List Value) (p := fun i cs' => w.cells? base (x.add (i * l.length)) l.length = some cs' ∧ DataW.trod enc P w base (fun _ => true) held n' e cs' = some (D i, Pl i)) (fun i hi => hx i hi)
            refine ⟨rfl, fun j v hv => ?_⟩
            match j, hv with
            | 0, hv =>
              simp at hv
              subst hv
              refine ⟨some x, len, m, rfl, hlc, by omega, ?_⟩
              by_cases e0 : len = 0
              · exact .inl e0
              · have hc0 := (World.cells?_some (hF 0 (by omega)).1)
                obtain ⟨b, off, spot⟩ := x
                have hc9 := hc0.2.2 0 hc.2
                obtain ⟨v0, hv0⟩ : ∃ v, (F 0)[0]? = some v := ⟨(F 0)[0]'(by rw [hc0.2.1]; exact hc.2), by simp⟩
                rw [hv0] at hc9
                have hspot : spot = none := by simpa [Addr.add] using World.cell?_spot hc9
                subst hspot
                refine .inr ⟨b, off, F, rfl, (by simpa [Addr.add] using World.block_lt_of_cell? _ _ hc9), fun k hk => ?_⟩
                have h1 := World.cells?_some (hF k (by omega)).1
                obtain ⟨q1, q2⟩ := opened_sh n e l hl _ _ _ (hF k (by omega)).2
                refine ⟨q1, fun j v hj => ⟨?_, q2 j v hj⟩⟩
                have h2 := h1.2.2 j (by rw [← q1]; exact (List.getElem?_eq_some_iff.1 hj).1)
                have e1 : ∀ (o n : Nat), (Addr.mk b o none).add n = ⟨b, o + n, none⟩ := fun o n => by
                  by_cases e : n = 0
                  · subst e; rfl
                  · simp [Addr.add, e]
                rw [e1, e1, hj] at h2
                exact h2
            | j + 1, hv => simp at hv
        · simp at h
      · simp at h
    · rename_i fs ht
      split at h
      · rename_i l hl
        split at h
        · rename_i hc
          simp only [Option.some.injEq] at h
          subst h
          obtain ⟨xs, m, _, hx, hlen, hxl, hg⟩ := DataW.trod_struct ht hy
          refine ⟨by rw [hlen, hc], fun j v hv => ?_⟩
          have hj : j < l.length := by
            have := (List.getElem?_eq_some_iff.1 hv).1
            omega
          exact opened_shF (cs := cs) (fun t' S' hs => opened_sh n t' S' hs) fs.toList 0 l hl (fun i f hf => by
            have hf' : fs[i]? = some f := by simpa using hf
            have := hg i f hf'
            have hi : i < xs.length := by rw [hxl]; exact (Array.getElem?_eq_some_iff.1 hf').1
            exact ⟨m, xs[i], by rw [this]; simp⟩) j v hj (by rw [Nat.zero_add]; exact hv)
        · simp at h
      · simp at h
    · simp at h
end
/- Rows of numbers and bits by their shape. -/
theorem OfSh.ints {w : World} {f : Nat → Sh} {v : Value} (h : OfSh w (.lst 1 f) v) (hf : f 0 = .int) : ∃ ws, Rd w 0 (intsT ws) v := by
  obtain ⟨a, n, c, rfl, h1, h2, h3⟩ := h
  rcases h3 with h3 | ⟨g, off, F, rfl, hg, hF⟩
  · subst h3
    exact ⟨[], a, c, rfl, h1, h2, .inl rfl⟩
  · obtain ⟨z, hz⟩ := choose_lt (α := Int) (n := n) (p := fun k z => w.cell? ⟨g, off + k, none⟩ = some (.int .i64 z)) (fun k hk => by
      obtain ⟨q1, q2⟩ := hF k hk
      obtain ⟨v, hv⟩ : ∃ v, (F k)[0]? = some v := ⟨(F k)[0]'(by omega), by simp⟩
      obtain ⟨q3, q4⟩ := q2 0 v hv
      rw [hf] at q4
      obtain ⟨z, rfl⟩ := q4
      exact ⟨z, by rw [Nat.mul_one, Nat.add_zero] at q3; exact q3⟩)
    refine ⟨(List.range n).map z, rd_ints (by simp) h1 h2 (.inr ⟨g, off, rfl, hg, fun i hi => ?_⟩) (fun _ _ => Nat.zero_le _)⟩
    simp at hi
    rw [hz i hi]
    simp [List.getD_eq_getElem?_getD, hi]
theorem OfSh.bools {w : World} {f : Nat → Sh} {v : Value} (h : OfSh w (.lst 1 f) v) (hf : f 0 = .bool) : ∃ bs, Rd w 0 (boolsT bs) v := by
  obtain ⟨a, n, c, rfl, h1, h2, h3⟩ := h
  rcases h3 with h3 | ⟨g, off, F, rfl, hg, hF⟩
  · subst h3
    exact ⟨[], a, c, rfl, h1, h2, .inl rfl⟩
  · obtain ⟨z, hz⟩ := choose_lt (α := Bool) (n := n) (p := fun k z => w.cell? ⟨g, off + k, none⟩ = some (.bool z)) (fun k hk => by
      obtain ⟨q1, q2⟩ := hF k hk
      obtain ⟨v, hv⟩ : ∃ v, (F k)[0]? = some v := ⟨(F k)[0]'(by omega), by simp⟩
      obtain ⟨q3, q4⟩ := q2 0 v hv
      rw [hf] at q4
      obtain ⟨z, rfl⟩ := q4
      exact ⟨z, by rw [Nat.mul_one, Nat.add_zero] at q3; exact q3⟩)
    refine ⟨(List.range n).map z, rd_bools (by simp) h1 h2 (.inr ⟨g, off, rfl, hg, fun i hi => ?_⟩) (fun _ _ => Nat.zero_le _)⟩
    simp at hi
    rw [hz i hi]
    simp [List.getD_eq_getElem?_getD, hi]
theorem OfSh.list {w : World} {s : Nat} {f : Nat → Sh} {v : Value} {α : Type} [Inhabited α] {T : α → List Tr} (h : OfSh w (.lst s f) v) (hof : ∀ vs : List Value, vs.length = s → (∀ j v, vs[j]? = some v → OfSh w (f j) v) → ∃ X : α, RdL w 0 (trs (T X)) vs) : ∃ (n : Nat) (g : Nat → α), Rd w 0 (.list s n (fun i => trs (T (g i)))) v := by
  obtain ⟨a, n, c, rfl, h1, h2, h3⟩ := h
  rcases h3 with h3 | ⟨g, off, F, rfl, hg, hF⟩
  · subst h3
    exact ⟨0, fun _ => default, a, c, rfl, h1, h2, .inl rfl⟩
  · obtain ⟨X, hX⟩ := choose_lt (α := α) (n := n) (p := fun k X => RdL w 0 (trs (T X)) (F k)) (fun k hk => hof _ (hF k hk).1 (fun j v hv => ((hF k hk).2 j v hv).2))
    exact ⟨n, X, some ⟨g, off, none⟩, c, rfl, h1, h2, .inr ⟨g, off, F, rfl, Nat.zero_le _, hg, fun k hk => ⟨(hF k hk).1, fun j v hv => ⟨((hF k hk).2 j v hv).1, hX k hk j v hv⟩⟩⟩⟩
def qSh : List Sh := [.int, .int, .int, .lst 1 (fun j => [Sh.int].getD j .int), .lst 1 (fun j => [Sh.bool].getD j .int), .int]
theorem VQ.of {w : World} {vs : List Value} (h : OfShL w qSh vs) : ∃ X : VQ, RdL w 0 (trs (qT X)) vs := by
  obtain ⟨hl, h⟩ := h
  match vs, hl with
  | [v0, v1, v2, v3, v4, v5], _ =>
    obtain ⟨z0, rfl⟩ := h 0 v0 rfl
    obtain ⟨z1, rfl⟩ := h 1 v1 rfl
    obtain ⟨z2, rfl⟩ := h 2 v2 rfl
    obtain ⟨z3, r3⟩ := OfSh.ints (h 3 v3 rfl) rfl
    obtain ⟨a3, c3, e3, _⟩ := r3.shape
    subst e3
    obtain ⟨z4, r4⟩ := OfSh.bools (h 4 v4 rfl) rfl
    obtain ⟨a4, c4, e4, _⟩ := r4.shape
    subst e4
    obtain ⟨z5, rfl⟩ := h 5 v5 rfl
    exact ⟨⟨z0, z1, z2, z3, z4, z5⟩, VQ.back (X := ⟨z0, z1, z2, z3, z4, z5⟩) r3 r4⟩
def aSh : List Sh := [.int, .int, .int, .int, .lst 1 (fun j => [Sh.int].getD j .int), .lst 1 (fun j => [Sh.bool].getD j .int)]
def pSh : List Sh := [.int, .int, .int, .int, .int, .lst 1 (fun j => [Sh.int].getD j .int), .lst 1 (fun j => [Sh.bool].getD j .int), .int]
def dSh : List Sh := [.int, .int, .int, .int, .int, .int, .int, .lst 1 (fun j => [Sh.int].getD j .int), .lst 1 (fun j => [Sh.bool].getD j .int), .int, .lst 8 (fun j => pSh.getD j .int), .lst 1 (fun j => [Sh.bool].getD j .int), .lst 6 (fun j => aSh.getD j .int)]
def tSh : List Sh := [.int, .lst 13 (fun j => dSh.getD j .int)]
theorem opened_qs {H : Type} {enc : TypeId × Value → H} {P : Program} {w : World} {base : Nat} {held : Bool} {r : Reach} {b0 : Nat} {t e : TypeId} {v : Value} {d : DataW H} {p : List MemPlace} {N : Nat} (hs : P.underlying t = some (.slice e)) (hsh : shT P N t = some [.lst 6 (fun j => qSh.getD j .int)])
    (hv : Value.okWide P w r b0 t v) (h : DataW.Trod enc P w base (fun _ => true) held t v d p) :
    ∃ (n : Nat) (f : Nat → VQ) (a : Option Addr) (c : Nat), v = .slice a n c ∧ Rd w 0 (.list 6 n (fun i => trs (qT (f i)))) (.slice a n c) := by
  obtain ⟨a, l, c, rfl⟩ := okWide_slice hs hv
  obtain ⟨fuel, hf⟩ := h
  obtain ⟨hl, hx⟩ := opened_sh N t _ hsh fuel [.slice a l c] _ (by simpa [Value.cells] using hf)
  obtain ⟨n, f, hr⟩ := OfSh.list (T := qT) (hx 0 _ rfl) (fun vs h1 h2 => VQ.of ⟨h1, h2⟩)
  obtain ⟨a', c', e', _⟩ := hr.shape
  simp only [Value.slice.injEq] at e'
  obtain ⟨rfl, rfl, rfl⟩ := e'
  exact ⟨_, f, a, c, rfl, hr⟩
end Go.Proofs.Ytfdddkjonjpgpaa
namespace Go.Proofs.Ytfdddkjonjpgpaa
open Go.RowKit Go.Joins
set_option linter.unusedVariables false
set_option linter.unusedSimpArgs false
set_option maxHeartbeats 2000000 in
theorem szIntS_t (ws : List Int) (a : Option Addr) (l c : Nat) (left : Nat) (w : World) (r : Rd w 0 (intsT ws) (.slice a l c)) (hl : left ≤ 1048576) :
    Calls Try.prog 39 #[.slice a l c, .int .i64 (left : Int)] w fun e w' => e = .returned (.int .i64 (lfT left ws.length)) ∧ Below w.heap.size w w' := by
  obtain ⟨a9, c9, h9, -, hm, -⟩ := r.ints
  simp only [Value.slice.injEq] at h9
  obtain ⟨-, rfl, -⟩ := h9
  obtain ⟨m, e⟩ : ∃ m, m = ws.length := ⟨_, rfl⟩
  clear r
  rw [← e] at hm ⊢
  clear a9 c9 e
  unfold maxLen at hm
  have w1 : IntKind.i64.wrap ((left : Int) - (m : Int)) = (left : Int) - (m : Int) := by rw [IntKind.wrap_i64]; omega
  by_cases h : m ≤ left
  · have h1 : ¬ ((left : Int) - (m : Int) < 0) := by omega
    have HE : Hid (lfT left m = (left : Int) - (m : Int)) := by show _ = _; unfold lfT; rw [if_pos h]
    go_enter Try.func39, Try.ntmps39
    go_wp2
    go_ret
    exact ⟨by rw [HE.out]; rfl, Below.refl _ _⟩
  · have h1 : ((left : Int) - (m : Int) < 0) := by omega
    have HE : Hid (lfT left m = -1) := by show _ = _; unfold lfT; rw [if_neg h]
    go_enter Try.func39, Try.ntmps39
    go_wp2
    go_ret
    exact ⟨by rw [HE.out]; rfl, Below.refl _ _⟩
set_option maxHeartbeats 2000000 in
theorem szBoolS_t (ws : List Bool) (a : Option Addr) (l c : Nat) (left : Nat) (w : World) (r : Rd w 0 (boolsT ws) (.slice a l c)) (hl : left ≤ 1048576) :
    Calls Try.prog 38 #[.slice a l c, .int .i64 (left : Int)] w fun e w' => e = .returned (.int .i64 (lfT left ws.length)) ∧ Below w.heap.size w w' := by
  obtain ⟨a9, c9, h9, -, hm, -⟩ := r.bools
  simp only [Value.slice.injEq] at h9
  obtain ⟨-, rfl, -⟩ := h9
  obtain ⟨m, e⟩ : ∃ m, m = ws.length := ⟨_, rfl⟩
  clear r
  rw [← e] at hm ⊢
  clear a9 c9 e
  unfold maxLen at hm
  have w1 : IntKind.i64.wrap ((left : Int) - (m : Int)) = (left : Int) - (m : Int) := by rw [IntKind.wrap_i64]; omega
  by_cases h : m ≤ left
  · have h1 : ¬ ((left : Int) - (m : Int) < 0) := by omega
    have HE : Hid (lfT left m = (left : Int) - (m : Int)) := by show _ = _; unfold lfT; rw [if_pos h]
    go_enter Try.func38, Try.ntmps38
    go_wp2
    go_ret
    exact ⟨by rw [HE.out]; rfl, Below.refl _ _⟩
  · have h1 : ((left : Int) - (m : Int) < 0) := by omega
    have HE : Hid (lfT left m = -1) := by show _ = _; unfold lfT; rw [if_neg h]
    go_enter Try.func38, Try.ntmps38
    go_wp2
    go_ret
    exact ⟨by rw [HE.out]; rfl, Below.refl _ _⟩
theorem Blk.tc6 {w : World} {g : Nat} {t : TypeId} {v0 v1 v2 v3 v4 v5 : Value} (h : Blk w g t #[v0, v1, v2, v3, v4, v5]) : (w.cell? ⟨g, 0, none⟩ = some v0 ∧ w.cell? ⟨g, 1, none⟩ = some v1 ∧ w.cell? ⟨g, 2, none⟩ = some v2 ∧ w.cell? ⟨g, 3, none⟩ = some v3 ∧ w.cell? ⟨g, 4, none⟩ = some v4 ∧ w.cell? ⟨g, 5, none⟩ = some v5) ∧ ∀ j, w.frozen? ⟨g, j, none⟩ = false :=
  ⟨⟨h.cell 0 rfl, h.cell 1 rfl, h.cell 2 rfl, h.cell 3 rfl, h.cell 4 rfl, h.cell 5 rfl⟩, h.fro⟩
set_option maxRecDepth 20000 in
set_option maxHeartbeats 2000000 in
theorem szReq_t (X : VQ) (a1 : Option Addr) (l1 c1 : Nat) (a2 : Option Addr) (l2 c2 : Nat) (left : Nat) (w : World) (r1 : Rd w 0 (intsT X.ws) (.slice a1 l1 c1)) (r2 : Rd w 0 (boolsT X.bs) (.slice a2 l2 c2)) (hl : left ≤ 1048576) :
    Calls Try.prog 40 #[.agg (qL X a1 l1 c1 a2 l2 c2).toArray, .int .i64 (left : Int)] w fun e w' => e = .returned (.int .i64 (lfT left (szT 6 (trs (qT X))))) ∧ Below w.heap.size w w' := by
  have HT : Hid (szT 6 (trs (qT X)) = X.ws.length + X.bs.length) := by
    show _ = _
    simp only [szT_q]
    try omega
  obtain ⟨t1, ht1⟩ : ∃ t : Nat, t = X.ws.length := ⟨_, rfl⟩
  obtain ⟨t2, ht2⟩ : ∃ t : Nat, t = X.bs.length := ⟨_, rfl⟩
  obtain ⟨W, hW⟩ : ∃ W, W = w.alloc (.cells (qL X a1 l1 c1 a2 l2 c2).toArray 69) := ⟨_, rfl⟩
  have H0 : Hid (Below w.heap.size w W ∧ Blk W w.heap.size 69 (qL X a1 l1 c1 a2 l2 c2).toArray ∧ szT 6 (trs (qT X)) = t1 + t2 ∧ Rd w 0 (intsT X.ws) (.slice a1 l1 c1) ∧ Rd w 0 (boolsT X.bs) (.slice a2 l2 c2)) := ⟨by rw [hW]; exact bel_alloc _ _, by rw [hW]; exact Blk.new _ _ _, by rw [HT.out]; omega, r1, r2⟩
  have K1 : Hid (t1 = X.ws.length) := ht1
  have K2 : Hid (t2 = X.bs.length) := ht2
  clear HT r1 r2 ht1 ht2
  go_enter Try.func40, Try.ntmps40
  go_upto_region 1 with fail
  rw [← hW]
  clear hW
  have G0 : Hid (Below w.heap.size w W ∧ Blk W w.heap.size 69 (qL X a1 l1 c1 a2 l2 c2).toArray) := ⟨H0.out.1, H0.out.2.1⟩
  have Q0 : Hid (left ≤ 1048576 ∧ left = left) := ⟨hl, rfl⟩
  obtain ⟨⟨y0, y1, y2, y3, y4, y5⟩, yf⟩ := G0.out.2.tc6
  clear yf
  by_cases g1 : t1 ≤ left
  rotate_left
  · have E : Hid (lfT left (X.ws.length) = -1 ∧ lfT left (szT 6 (trs (qT X))) = -1) := by
      have h9 := Q0.out.2
      have h8 := H0.out.2.2.1
      refine ⟨?_, ?_⟩
      · rw [← K1.out]; unfold lfT; rw [if_neg g1]
      · rw [h8]; unfold lfT; rw [if_neg (by omega)]
    go_wp2_with fail
    refine (szIntS_t X.ws a1 l1 c1 left _ (H0.out.2.2.2.1.below G0.out.1) Q0.out.1).mono ?_
    rintro e w9 ⟨rfl, b9⟩
    rw [E.out.1]
    have B9 := bel_nx G0.out.1 b9
    clear b9 y0 y1 y2 y3 y4 y5
    go_wp2
    go_ret
    exact ⟨by rw [E.out.2]; rfl, B9⟩
  · obtain ⟨L1, hL1⟩ : ∃ m : Nat, m + t1 = left := ⟨left - t1, by omega⟩
    have E1 : Hid (lfT left (X.ws.length) = (L1 : Int)) := by
      show _ = _
      rw [← K1.out]; unfold lfT; rw [if_pos g1]; omega
    have n1 : ¬ ((L1 : Int) < 0) := by omega
    have Q1 : Hid (L1 ≤ 1048576 ∧ L1 + t1 = left) := by
      have h9 := Q0.out
      exact ⟨by omega, by omega⟩
    clear hL1 g1
    go_wp2_with fail
    refine (szIntS_t X.ws a1 l1 c1 left _ (H0.out.2.2.2.1.below G0.out.1) Q0.out.1).mono ?_
    rintro e w1 ⟨rfl, b1⟩
    rw [E1.out]
    have G1 : Hid (Below w.heap.size w w1 ∧ Blk w1 w.heap.size 69 (qL X a1 l1 c1 a2 l2 c2).toArray) := ⟨bel_nx G0.out.1 b1, G0.out.2.below b1⟩
    clear b1 y0 y1 y2 y3 y4 y5
    obtain ⟨⟨y0, y1, y2, y3, y4, y5⟩, yf⟩ := G1.out.2.tc6
    clear yf
    by_cases g2 : t2 ≤ L1
    rotate_left
    · have E : Hid (lfT L1 (X.bs.length) = -1 ∧ lfT left (szT 6 (trs (qT X))) = -1) := by
        have h9 := Q1.out.2
        have h8 := H0.out.2.2.1
        refine ⟨?_, ?_⟩
        · rw [← K2.out]; unfold lfT; rw [if_neg g2]
        · rw [h8]; unfold lfT; rw [if_neg (by omega)]
      go_wp2_with fail
      refine (szBoolS_t X.bs a2 l2 c2 L1 _ (H0.out.2.2.2.2.below G1.out.1) Q1.out.1).mono ?_
      rintro e w9 ⟨rfl, b9⟩
      rw [E.out.1]
      have B9 := bel_nx G1.out.1 b9
      clear b9 y0 y1 y2 y3 y4 y5
      go_wp2
      go_ret
      exact ⟨by rw [E.out.2]; rfl, B9⟩
    · obtain ⟨L2, hL2⟩ : ∃ m : Nat, m + t2 = L1 := ⟨L1 - t2, by omega⟩
      have E2 : Hid (lfT L1 (X.bs.length) = (L2 : Int)) := by
        show _ = _
        rw [← K2.out]; unfold lfT; rw [if_pos g2]; omega
      have n2 : ¬ ((L2 : Int) < 0) := by omega
      have Q2 : Hid (L2 ≤ 1048576 ∧ L2 + t1 + t2 = left) := by
        have h9 := Q1.out
        exact ⟨by omega, by omega⟩
      clear hL2 g2
      go_wp2_with fail
      refine (szBoolS_t X.bs a2 l2 c2 L1 _ (H0.out.2.2.2.2.below G1.out.1) Q1.out.1).mono ?_
      rintro e w2 ⟨rfl, b2⟩
      rw [E2.out]
      have G2 : Hid (Below w.heap.size w w2 ∧ Blk w2 w.heap.size 69 (qL X a1 l1 c1 a2 l2 c2).toArray) := ⟨bel_nx G1.out.1 b2, G1.out.2.below b2⟩
      clear b2 y0 y1 y2 y3 y4 y5
      have E : Hid (lfT left (szT 6 (trs (qT X))) = (L2 : Int)) := by
        have h9 := Q2.out.2
        have h8 := H0.out.2.2.1
        show _ = _
        rw [h8]; unfold lfT; rw [if_pos (by omega)]; omega
      go_wp2
      go_ret
      exact ⟨by rw [E.out]; rfl, G2.out.1⟩
set_option maxRecDepth 20000 in
set_option maxHeartbeats 2000000 in
theorem szReqS_t (n : Nat) (f : Nat → VQ) (a : Option Addr) (n' cap : Nat) (left : Nat) (w : World) (hs : Rd w 0 (.list 6 n (fun k => trs (qT (f k)))) (.slice a n' cap)) (hl : left ≤ 1048576) :
    Calls Try.prog 13 #[.slice a n' cap, .int .i64 (left : Int)] w fun e w' => e = .returned (.int .i64 (lfT left (Tr.list 6 n (fun k => trs (qT (f k)))).sz)) ∧ Below w.heap.size w w' := by
  obtain ⟨a9, c9, h9, -, hn⟩ := hs.shape
  simp only [Value.slice.injEq] at h9
  obtain ⟨-, rfl, -⟩ := h9
  clear a9 c9
  unfold maxLen at hn
  have w1 : IntKind.i64.wrap ((left : Int) - (n' : Int)) = (left : Int) - (n' : Int) := by rw [IntKind.wrap_i64]; omega
  obtain ⟨g, hg⟩ : ∃ g : Nat → Nat, g = fun k => szT 6 (trs (qT (f k))) := ⟨_, rfl⟩
  have HT : Hid ((Tr.list 6 n' (fun k => trs (qT (f k)))).sz = n' + sumN n' g) := by show _ = _; rw [hg]; exact Tr.sz_list _ _ _
  have HG : Hid (∀ k, g k = szT 6 (trs (qT (f k)))) := by show ∀ k, g k = _; intro k; rw [hg]
  clear hg
  by_cases h0 : n' ≤ left
  · have h1 : ¬ ((left : Int) - (n' : Int) < 0) := by omega
    have HS : Hid (Rd w 0 (.list 6 n' (fun k => trs (qT (f k)))) (.slice a n' cap)) := hs
    have HL : Hid (left ≤ 1048576) := hl
    clear hs hn
    go_enter Try.func13, Try.ntmps13
    go_wp2
    go_loopw [1, 5] (fun lv i wr => ∃ k : Nat, k ≤ n' ∧ i = .int .i64 k ∧ n' + sumN k g ≤ left ∧ lv = .int .i64 ((left : Int) - (n' : Int) - (sumN k g : Int)) ∧ Below w.heap.size w wr) (fun _ i _ => n' - (intOf i).toNat)
    case atStart => exact ⟨0, Nat.zero_le _, rfl, by simp [sumN]; omega, by simp [sumN], Below.refl _ _⟩
    case round =>
      obtain ⟨k, hk, rfl, ht, rfl, hb⟩ := hrel
      by_cases hlt : k < n'
      · have hi : (k : Int) < (n' : Int) := by omega
        obtain ⟨b, off, vs, rfl, _, hb0, hlen, hr, hrd⟩ := (HS.out.below hb).at hlt
        obtain ⟨a1, c1, a2, c2, rfl, r1, r2⟩ := VQ.cells hrd hlen
        clear hlen hrd
        have d0 : wr.cell? ⟨b, off + k * 6, none⟩ = _ := hr 0 _ rfl
        have d1 : wr.cell? ⟨b, off + k * 6 + 1, none⟩ = _ := hr 1 _ rfl
        have d2 : wr.cell? ⟨b, off + k * 6 + 2, none⟩ = _ := hr 2 _ rfl
        have d3 : wr.cell? ⟨b, off + k * 6 + 3, none⟩ = _ := hr 3 _ rfl
        have d4 : wr.cell? ⟨b, off + k * 6 + 4, none⟩ = _ := hr 4 _ rfl
        have d5 : wr.cell? ⟨b, off + k * 6 + 5, none⟩ = _ := hr 5 _ rfl
        obtain ⟨lf, hlf⟩ : ∃ lf : Nat, (lf : Int) = (left : Int) - (n' : Int) - (sumN k g : Int) := ⟨left - n' - sumN k g, by omega⟩
        rw [← hlf]
        obtain ⟨x, hx⟩ : ∃ x, x = g k := ⟨_, rfl⟩
        have HK : Hid ((lf : Int) = (left : Int) - (n' : Int) - (sumN k g : Int) ∧ lf ≤ 1048576 ∧ sumN (k + 1) g = sumN k g + x ∧ Below w.heap.size w wr ∧ x = szT 6 (trs (qT (f k))) ∧ Rd wr 0 (intsT (f k).ws) (.slice a1 ((f k).ws.length) c1) ∧ Rd wr 0 (boolsT (f k).bs) (.slice a2 ((f k).bs.length) c2)) := ⟨hlf, by have := HL.out; omega, by rw [hx]; rfl, hb, by rw [hx]; exact HG.out k, r1, r2⟩
        clear hlf hb HS hx hr hb0 r1 r2
        by_cases hf : x ≤ lf
        · obtain ⟨lg, hlg⟩ : ∃ m : Nat, m + x = lf := ⟨lf - x, by omega⟩
          have hx0 : ¬ ((lg : Int) < 0) := by omega
          have HF : Hid (lfT lf (szT 6 (trs (qT (f k)))) = (lg : Int) ∧ (lg : Int) = (left : Int) - (n' : Int) - (sumN (k + 1) g : Int) ∧ n' + sumN (k + 1) g ≤ left) := by
            have h9 := HK.out
            refine ⟨?_, ?_, ?_⟩
            · rw [← h9.2.2.2.2.1]; unfold lfT; rw [if_pos hf]; omega
            · omega
            · omega
          clear ht hf hlg
          go_wp2_with fail
          refine (szReq_t (f k) a1 ((f k).ws.length) c1 a2 ((f k).bs.length) c2 lf _ HK.out.2.2.2.2.2.1 HK.out.2.2.2.2.2.2 HK.out.2.1).mono ?_
          rintro e w2 ⟨rfl, b2⟩
          rw [HF.out.1]
          have HB : Hid (Below w.heap.size w w2) := bel_nx HK.out.2.2.2.1 b2
          clear b2 d0 d1 d2 d3 d4 d5
          go_wp2
          go_roundw
          case rel => exact ⟨k + 1, by omega, by go_num, HF.out.2.2, by rw [HF.out.2.1], HB.out⟩
          case measure => simp [intOf]; omega
        · have HF : Hid (lfT lf (szT 6 (trs (qT (f k)))) = -1 ∧ lfT left (Tr.list 6 n' (fun k => trs (qT (f k)))).sz = -1) := by
            have h9 := HK.out
            have h8 := sumN_mono g (show k + 1 ≤ n' by omega)
            have h7 := HT.out
            refine ⟨?_, ?_⟩
            · rw [← h9.2.2.2.2.1]; unfold lfT; rw [if_neg hf]
            · rw [h7]; unfold lfT; rw [if_neg (by omega)]
          clear ht hf
          go_wp2_with fail
          refine (szReq_t (f k) a1 ((f k).ws.length) c1 a2 ((f k).bs.length) c2 lf _ HK.out.2.2.2.2.2.1 HK.out.2.2.2.2.2.2 HK.out.2.1).mono ?_
          rintro e w2 ⟨rfl, b2⟩
          rw [HF.out.1]
          have HB : Hid (Below w.heap.size w w2) := bel_nx HK.out.2.2.2.1 b2
          clear b2 d0 d1 d2 d3 d4 d5
          go_wp2
          go_ret
          exact ⟨(by rw [HF.out.2]; rfl), HB.out⟩
      · have hi : ¬ (k : Int) < (n' : Int) := by omega
        have e9 : k = n' := by omega
        subst e9
        have HE : Hid (lfT left (Tr.list 6 k (fun k => trs (qT (f k)))).sz = (left : Int) - (k : Int) - (sumN k g : Int)) := by
          show _ = _
          rw [HT.out]; unfold lfT; rw [if_pos ht]; omega
        clear ht
        go_wp2
        go_ret
        exact ⟨(by rw [HE.out]; rfl), hb⟩
  · have h1 : (left : Int) - (n' : Int) < 0 := by omega
    have HE : Hid (lfT left (Tr.list 6 n' (fun k => trs (qT (f k)))).sz = -1) := by
      show _ = _
      rw [HT.out]; unfold lfT; rw [if_neg (by omega)]
    clear hs hn hl
    go_enter Try.func13, Try.ntmps13
    go_wp2
    go_ret
    exact ⟨(by rw [HE.out]; rfl), Below.refl _ _⟩
end Go.Proofs.Ytfdddkjonjpgpaa
namespace Go.Proofs.Ytfdddkjonjpgpaa
open Go.RowKit Go.Joins
set_option linter.unusedVariables false
set_option linter.unusedSimpArgs false
theorem eqReq_t (X : VQ) (a1 : Option Addr) (l1 c1 : Nat) (a2 : Option Addr) (l2 c2 : Nat) (a1' : Option Addr) (c1' : Nat) (a2' : Option Addr) (c2' : Nat) (w : World) (r1 : Rd w 0 (intsT X.ws) (.slice a1 l1 c1)) (r2 : Rd w 0 (boolsT X.bs) (.slice a2 l2 c2)) (r1' : Rd w 0 (intsT X.ws) (.slice a1' l1 c1')) (r2' : Rd w 0 (boolsT X.bs) (.slice a2' l2 c2')) (hz : szT 6 (trs (qT X)) ≤ 1048576) :
    Calls Try.prog 49 #[.agg (qL X a1 l1 c1 a2 l2 c2).toArray, .agg (qL X a1' l1 c1' a2' l2 c2').toArray] w fun e w' => e = .returned (.bool true) ∧ Below w.heap.size w w' := by
  rw [szT_q] at hz
  obtain ⟨a9, c9, h9, -, hm1, hs1⟩ := r1.ints
  simp only [Value.slice.injEq] at h9
  obtain ⟨rfl, rfl, rfl⟩ := h9
  obtain ⟨a9, c9, h9, -, hm2, hs2⟩ := r2.bools
  simp only [Value.slice.injEq] at h9
  obtain ⟨rfl, rfl, rfl⟩ := h9
  obtain ⟨a9, c9, h9, -, -, hs1'⟩ := r1'.ints
  simp only [Value.slice.injEq] at h9
  obtain ⟨rfl, -, rfl⟩ := h9
  obtain ⟨a9, c9, h9, -, -, hs2'⟩ := r2'.bools
  simp only [Value.slice.injEq] at h9
  obtain ⟨rfl, -, rfl⟩ := h9
  exact eqReq_true X.kd X.pl X.n X.wa _ _ _ _ _ _ _ _ _ _ _ _ X.ws X.bs w rfl rfl rfl rfl hs1 hs2 hs1' hs2' (by omega) (by omega)
set_option maxRecDepth 20000 in
set_option maxHeartbeats 4000000 in
theorem eqReqS_t (n : Nat) (f : Nat → VQ) (a : Option Addr) (n' cap : Nat) (a' : Option Addr) (cap' : Nat) (w : World) (hs : Rd w 0 (.list 6 n (fun k => trs (qT (f k)))) (.slice a n' cap)) (hs' : Rd w 0 (.list 6 n (fun k => trs (qT (f k)))) (.slice a' n' cap')) (hz : (Tr.list 6 n (fun k => trs (qT (f k)))).sz ≤ 1048576) :
    Calls Try.prog 19 #[.slice a n' cap, .slice a' n' cap'] w fun e w' => e = .returned (.bool true) ∧ Below w.heap.size w w' := by
  obtain ⟨a9, c9, h9, -, hn⟩ := hs.shape
  simp only [Value.slice.injEq] at h9
  obtain ⟨-, rfl, -⟩ := h9
  clear a9 c9 hn
  have hn1 : n' ≤ 1048576 := by rw [Tr.sz_list] at hz; omega
  have HZ : Hid (∀ k, k < n' → szT 6 (trs (qT (f k))) ≤ 1048576) := by
    show ∀ k, k < n' → szT 6 (trs (qT (f k))) ≤ 1048576
    intro k hk
    rw [Tr.sz_list] at hz
    have := sumN_at (fun k => szT 6 (trs (qT (f k)))) hk
    omega
  have HS : Hid (Rd w 0 (.list 6 n' (fun k => trs (qT (f k)))) (.slice a n' cap) ∧ Rd w 0 (.list 6 n' (fun k => trs (qT (f k)))) (.slice a' n' cap')) := ⟨hs, hs'⟩
  clear hs hs' hz
  go_enter Try.func19, Try.ntmps19
  go_wp2
  go_loopw [5] (fun i wr => ∃ z : Nat, z ≤ n' ∧ i = .int .i64 z ∧ Below w.heap.size w wr) (fun i _ => n' - (intOf i).toNat)
  case atStart => exact ⟨0, Nat.zero_le _, rfl, Below.refl _ _⟩
  case round =>
    obtain ⟨k, hk, rfl, hbl⟩ := hrel
    by_cases hlt : k < n'
    · have hi : (k : Int) < (n' : Int) := by omega
      obtain ⟨b, off, vs, rfl, _, hb0, hlen, hr, hrd⟩ := (HS.out.1.below hbl).at hlt
      obtain ⟨a1, c1, a2, c2, rfl, r1, r2⟩ := VQ.cells hrd hlen
      clear hlen hrd hb0
      obtain ⟨b', off', vs, rfl, _, hb0, hlen, hr', hrd⟩ := (HS.out.2.below hbl).at hlt
      obtain ⟨a1', c1', a2', c2', rfl, r1', r2'⟩ := VQ.cells hrd hlen
      clear hlen hrd hb0
      have d09 : wr.cell? ⟨b, off + k * 6, none⟩ = _ := hr 0 _ rfl
      have e09 : wr.cell? ⟨b', off' + k * 6, none⟩ = _ := hr' 0 _ rfl
      have d19 : wr.cell? ⟨b, off + k * 6 + 1, none⟩ = _ := hr 1 _ rfl
      have e19 : wr.cell? ⟨b', off' + k * 6 + 1, none⟩ = _ := hr' 1 _ rfl
      have d29 : wr.cell? ⟨b, off + k * 6 + 2, none⟩ = _ := hr 2 _ rfl
      have e29 : wr.cell? ⟨b', off' + k * 6 + 2, none⟩ = _ := hr' 2 _ rfl
      have d39 : wr.cell? ⟨b, off + k * 6 + 3, none⟩ = _ := hr 3 _ rfl
      have e39 : wr.cell? ⟨b', off' + k * 6 + 3, none⟩ = _ := hr' 3 _ rfl
      have d49 : wr.cell? ⟨b, off + k * 6 + 4, none⟩ = _ := hr 4 _ rfl
      have e49 : wr.cell? ⟨b', off' + k * 6 + 4, none⟩ = _ := hr' 4 _ rfl
      have d59 : wr.cell? ⟨b, off + k * 6 + 5, none⟩ = _ := hr 5 _ rfl
      have e59 : wr.cell? ⟨b', off' + k * 6 + 5, none⟩ = _ := hr' 5 _ rfl
      have HK : Hid (Below w.heap.size w wr ∧ szT 6 (trs (qT (f k))) ≤ 1048576 ∧ Rd wr 0 (intsT (f k).ws) (.slice a1 ((f k).ws.length) c1) ∧ Rd wr 0 (boolsT (f k).bs) (.slice a2 ((f k).bs.length) c2) ∧ Rd wr 0 (intsT (f k).ws) (.slice a1' ((f k).ws.length) c1') ∧ Rd wr 0 (boolsT (f k).bs) (.slice a2' ((f k).bs.length) c2')) := ⟨hbl, HZ.out k hlt, r1, r2, r1', r2'⟩
      clear r1 r2 r1' r2' hr hr' hbl
      go_wp2_with fail
      go_region_with (go_at_call 49; refine (eqReq_t (f k) a1 ((f k).ws.length) c1 a2 ((f k).bs.length) c2 a1' c1' a2' c2' _ (HK.out.2.2.1.below (by first | exact Below.refl _ _ | exact (Below.refl _ _).drew | exact (Below.refl _ _).drew.drew)) (HK.out.2.2.2.1.below (by first | exact Below.refl _ _ | exact (Below.refl _ _).drew | exact (Below.refl _ _).drew.drew)) (HK.out.2.2.2.2.1.below (by first | exact Below.refl _ _ | exact (Below.refl _ _).drew | exact (Below.refl _ _).drew.drew)) (HK.out.2.2.2.2.2.below (by first | exact Below.refl _ _ | exact (Below.refl _ _).drew | exact (Below.refl _ _).drew.drew)) HK.out.2.1).mono ?_; rintro e w1 ⟨rfl, b1'⟩; have b1 : Below wr.heap.size wr w1 := bel_nx (by first | exact Below.refl _ _ | exact (Below.refl _ _).drew | exact (Below.refl _ _).drew.drew) b1'; clear b1')
      all_goals (
        have B1 := bel_nx HK.out.1 b1
        clear HK b1 d09 e09 d19 e19 d29 e29 d39 e39 d49 e49 d59 e59
        go_wp2
        go_roundw
        case rel => exact ⟨k + 1, by omega, by go_num, B1⟩
        case measure => simp [intOf]; omega)
    · have hi : ¬ (k : Int) < (n' : Int) := by omega
      go_wp2
      go_ret
      exact ⟨rfl, hbl⟩
end Go.Proofs.Ytfdddkjonjpgpaa
namespace Go.Proofs.Ytfdddkjonjpgpaa
open Go.RowKit Go.Joins
set_option linter.unusedVariables false
set_option linter.unusedSimpArgs false
inductive Sk where
  | leaf
  | row (g off s n : Nat) (K : Nat → Nat → Sk)
def Sk.bl : Sk → Nat → Prop
  | .leaf, _ => False
  | .row g _ s n K, b => b = g ∨ ∃ k j, k < n ∧ j < s ∧ (K k j).bl b
def Sk.ok : Sk → Prop
  | .leaf => True
  | .row g _ s n K => (∀ k j, k < n → j < s → (K k j).ok ∧ ¬ (K k j).bl g) ∧ ∀ k j k' j', k < n → j < s → k' < n → j' < s → (k ≠ k' ∨ j ≠ j') → ∀ b, (K k j).bl b → ¬ (K k' j').bl b
def Fit (w : World) : Tr → Sk → Value → Prop
  | .leaf u, K, v => K = .leaf ∧ v = u
  | .list s n f, .leaf, v => n = 0 ∧ ∃ a c, v = .slice a 0 c
  | .list s n f, .row g off s' n' K, v => s' = s ∧ n' = n ∧ ∃ c, v = .slice (some ⟨g, off, none⟩) n c ∧ n ≤ c ∧ n ≤ maxLen ∧ g < w.heap.size ∧ (∀ j, w.frozen? ⟨g, j, none⟩ = false) ∧
      ∀ k j, k < n → j < s → ∃ u, w.cell? ⟨g, off + k * s + j, none⟩ = some u ∧ Fit w (f k j) (K k j) u
theorem Fit.lt {w : World} {b : Nat} : ∀ {t : Tr} {K : Sk} {v : Value}, Fit w t K v → K.bl b → b < w.heap.size := by
  intro t
  induction t with
  | leaf u => intro K v h hb; obtain ⟨rfl, _⟩ := h; exact hb.elim
  | list s n f ih =>
    intro K v h hb
    cases K with
    | leaf => exact hb.elim
    | row g off s' n' K =>
      obtain ⟨rfl, rfl, c, _, _, _, hg, _, hc⟩ := h
      rcases hb with rfl | ⟨k, j, hk, hj, hb⟩
      · exact hg
      · obtain ⟨u, _, hf⟩ := hc k j hk hj
        exact ih k j hf hb
theorem Fit.same {w w' : World} (hs : w.heap.size ≤ w'.heap.size) : ∀ {t : Tr} {K : Sk} {v : Value}, Fit w t K v → (∀ b, K.bl b → w'.heap[b]? = w.heap[b]?) → Fit w' t K v := by
  intro t
  induction t with
  | leaf u => intro K v h _; exact h
  | list s n f ih =>
    intro K v h hb
    cases K with
    | leaf => exact h
    | row g off s' n' K =>
      obtain ⟨rfl, rfl, c, h1, h2, h3, hg, hz, hc⟩ := h
      have e := hb g (.inl rfl)
      refine ⟨rfl, rfl, c, h1, h2, h3, Nat.lt_of_lt_of_le hg hs, fun j => (World.frozen?_of_block (a := ⟨g, j, none⟩) e).trans (hz j), fun k j hk hj => ?_⟩
      obtain ⟨u, hu, hf⟩ := hc k j hk hj
      exact ⟨u, (World.cell?_of_block (a := ⟨g, off + k * s' + j, none⟩) e).trans hu, ih k j hf (fun b hb' => hb b (.inr ⟨k, j, hk, hj, hb'⟩))⟩
theorem Fit.below {w w' : World} {t : Tr} {K : Sk} {v : Value} (h : Fit w t K v) (hb : Below w.heap.size w w') : Fit w' t K v := h.same hb.size (fun b hb' => hb.block b (h.lt hb'))
theorem Fit.rd {w : World} {lo : Nat} : ∀ {t : Tr} {K : Sk} {v : Value}, Fit w t K v → (∀ b, K.bl b → lo ≤ b) → Rd w lo t v := by
  intro t
  induction t with
  | leaf u => intro K v h _; exact h.2
  | list s n f ih =>
    intro K v h hb
    cases K with
    | leaf =>
      obtain ⟨rfl, a, c, rfl⟩ := h
      exact ⟨a, c, rfl, Nat.zero_le _, Nat.zero_le _, .inl rfl⟩
    | row g off s' n' K =>
      obtain ⟨rfl, rfl, c, rfl, h2, h3, hg, hz, hc⟩ := h
      refine ⟨_, c, rfl, h2, h3, .inr ⟨g, off, fun k => (List.range s').map (fun j => (w.cell? ⟨g, off + k * s' + j, none⟩).getD undef), rfl, hb g (.inl rfl), hg, fun k hk => ⟨by simp, fun j v hv => ?_⟩⟩⟩
      have hj : j < s' := by have := (List.getElem?_eq_some_iff.1 hv).1; simpa using this
      obtain ⟨u, hu, hf⟩ := hc k j hk hj
      have e : v = u := by
        rw [List.getElem?_map, List.getElem?_range hj] at hv
        simp only [Option.map_some, Option.some.injEq] at hv
        rw [← hv, hu]
        rfl
      subst e
      exact ⟨hu, ih k j hf (fun b hb' => hb b (.inr ⟨k, j, hk, hj, hb'⟩))⟩
structure Cg (w w' : World) (S : Nat → Prop) : Prop where
  os : w'.os = w.os
  tape : w'.tape = w.tape
  output : w'.output = w.output
  size : w.heap.size ≤ w'.heap.size
  block : ∀ g, g < w.heap.size → ¬ S g → w'.heap[g]? = w.heap[g]?
theorem Cg.refl (w : World) (S : Nat → Prop) : Cg w w S := ⟨rfl, rfl, rfl, Nat.le_refl _, fun _ _ _ => rfl⟩
theorem Cg.trans {a b c : World} {S : Nat → Prop} (h : Cg a b S) (k : Cg b c S) : Cg a c S :=
  ⟨k.os.trans h.os, k.tape.trans h.tape, k.output.trans h.output, Nat.le_trans h.size k.size, fun g hg hn => (k.block g (Nat.lt_of_lt_of_le hg h.size) hn).trans (h.block g hg hn)⟩
theorem Cg.mono {w w' : World} {S S' : Nat → Prop} (h : Cg w w' S) (hs : ∀ g, S g → S' g) : Cg w w' S' := ⟨h.os, h.tape, h.output, h.size, fun g hg hn => h.block g hg (fun q => hn (hs g q))⟩
theorem Cg.ofBelow {w w' : World} {S : Nat → Prop} (h : Below w.heap.size w w') : Cg w w' S := ⟨h.os, h.tape, h.output, h.size, fun g hg _ => h.block g hg⟩
theorem Cg.set {w w' : World} {S : Nat → Prop} (h : Cg w w' S) {p : Addr} (hp : S p.block) (u : Value) : Cg w (w'.setCell p u) S :=
  h.trans ⟨rfl, rfl, rfl, by simp [World.setCell], fun g hg hn => Below.heap_setCell _ _ _ _ (fun e => hn (by rw [e]; exact hp))⟩
theorem Cg.below {B : Nat} {W w w' : World} {S : Nat → Prop} (hb : Below B W w) (hc : Cg w w' S) (hs : ∀ g, S g → B ≤ g) (hB : B ≤ w.heap.size) : Below B W w' :=
  hb.trans ⟨hc.os, hc.tape, hc.output, hc.size, fun k hk => hc.block k (by omega) (fun q => by have := hs k q; omega)⟩
theorem Fit.cg {w w' : World} {S : Nat → Prop} {t : Tr} {K : Sk} {v : Value} (h : Fit w t K v) (hc : Cg w w' S) (hd : ∀ b, K.bl b → ¬ S b) : Fit w' t K v := h.same hc.size (fun b hb => hc.block b (h.lt hb) (hd b hb))
theorem Fit.congr {w : World} {s n : Nat} {f f' : Nat → Nat → Tr} {K : Sk} {v : Value} (h : Fit w (.list s n f) K v) (he : ∀ k j, k < n → j < s → f k j = f' k j) : Fit w (.list s n f') K v := by
  cases K with
  | leaf => exact h
  | row g off s' n' K =>
    obtain ⟨rfl, rfl, c, h1, h2, h3, hg, hz, hc⟩ := h
    exact ⟨rfl, rfl, c, h1, h2, h3, hg, hz, fun k j hk hj => by rw [← he k j hk hj]; exact hc k j hk hj⟩
theorem Fit.row {w : World} {s n m c : Nat} {a : Option Addr} {f : Nat → Nat → Tr} {K : Sk} (h : Fit w (.list s n f) K (.slice a m c)) (h0 : 0 < n) : ∃ g off K', K = .row g off s n K' ∧ a = some ⟨g, off, none⟩ ∧ m = n ∧ n ≤ c ∧ n ≤ maxLen ∧ g < w.heap.size ∧ ∀ j, w.frozen? ⟨g, j, none⟩ = false := by
  cases K with
  | leaf => obtain ⟨e, _⟩ := h; omega
  | row g off s' n' K =>
    obtain ⟨rfl, rfl, c', h1, h2, h3, hg, hz, hc⟩ := h
    simp only [Value.slice.injEq] at h1
    obtain ⟨rfl, rfl, rfl⟩ := h1
    exact ⟨g, off, K, rfl, rfl, rfl, h2, h3, hg, hz⟩
theorem Fit.len {w : World} {s n m c : Nat} {a : Option Addr} {f : Nat → Nat → Tr} {K : Sk} (h : Fit w (.list s n f) K (.slice a m c)) : m = n ∧ n ≤ c ∧ n ≤ maxLen := by
  cases K with
  | leaf =>
    obtain ⟨rfl, a', c', h1⟩ := h
    simp only [Value.slice.injEq] at h1
    exact ⟨h1.2.1, Nat.zero_le _, Nat.zero_le _⟩
  | row g off s' n' K =>
    obtain ⟨rfl, rfl, c', h1, h2, h3, _⟩ := h
    simp only [Value.slice.injEq] at h1
    obtain ⟨-, rfl, rfl⟩ := h1
    exact ⟨rfl, h2, h3⟩
theorem cell_ne {s k j k' j' : Nat} (hj : j < s) (hj' : j' < s) (h : k ≠ k' ∨ j ≠ j') (off : Nat) : off + k * s + j ≠ off + k' * s + j' := by
  intro e
  have e' : k * s + j = k' * s + j' := by omega
  have h1 : (k * s + j) / s = k := by rw [Nat.mul_comm, Nat.mul_add_div (by omega), Nat.div_eq_of_lt hj, Nat.add_zero]
  have h2 : (k' * s + j') / s = k' := by rw [Nat.mul_comm, Nat.mul_add_div (by omega), Nat.div_eq_of_lt hj', Nat.add_zero]
  have e1 : k = k' := by rw [← h1, ← h2, e']
  subst e1
  rcases h with h | h
  · exact h rfl
  · omega
def atZ (z : Nat) (L : List Tr) (T0 : Nat → Nat → Tr) : Nat → Nat → Tr := fun i => if i = z then trs L else T0 i
theorem atZ_eq (z : Nat) (L : List Tr) (T0 : Nat → Nat → Tr) : atZ z L T0 z = trs L := by simp [atZ]
theorem atZ_ne {z i : Nat} (L : List Tr) (T0 : Nat → Nat → Tr) (h : i ≠ z) : atZ z L T0 i = T0 i := by simp [atZ, h]
theorem trs_set {L : List Tr} {j j' : Nat} {t : Tr} (h : j < L.length) : trs (L.set j t) j' = if j' = j then t else trs L j' := by
  unfold trs
  rw [List.getD_eq_getElem?_getD, List.getElem?_set]
  by_cases e : j = j'
  · subst e; simp [h]
  · rw [if_neg e, if_neg (fun x => e x.symm), List.getD_eq_getElem?_getD]
theorem Fit.cellZ {w : World} {s n z g off : Nat} {L : List Tr} {T0 : Nat → Nat → Tr} {K : Nat → Nat → Sk} {v : Value} (h : Fit w (.list s n (atZ z L T0)) (.row g off s n K) v) (hz : z < n) (j : Nat) (hj : j < s) : ∃ u, w.cell? ⟨g, off + z * s + j, none⟩ = some u ∧ Fit w (trs L j) (K z j) u := by
  obtain ⟨_, _, c, _, _, _, _, _, hc⟩ := h
  have := hc z j hz hj
  rw [atZ_eq] at this
  exact this
theorem Fit.setZ {w : World} {s n z g off : Nat} {L L' : List Tr} {T0 : Nat → Nat → Tr} {K : Nat → Nat → Sk} {v : Value} (h : Fit w (.list s n (atZ z L T0)) (.row g off s n K) v) (hok : (Sk.row g off s n K).ok) (hz : z < n) (j : Nat) (hj : j < s) (hl : j < L.length) (u0 u u' : Value) (hu0 : trs L j = .leaf u0) (hu : u = u') (hL : L' = L.set j (.leaf u')) :
    Fit (w.setCell ⟨g, off + z * s + j, none⟩ u) (.list s n (atZ z L' T0)) (.row g off s n K) v := by
  subst hu hL
  obtain ⟨_, _, c, h1, h2, h3, hg, hf, hc⟩ := h
  refine ⟨rfl, rfl, c, h1, h2, h3, by simpa using hg, fun i => by simpa using hf i, fun k i hk hi => ?_⟩
  obtain ⟨x, hx, hfx⟩ := hc k i hk hi
  have hblk : ∀ b, (K k i).bl b → (w.setCell ⟨g, off + z * s + j, none⟩ u).heap[b]? = w.heap[b]? := fun b hb => Below.heap_setCell _ _ _ _ (fun e => (hok.1 k i hk hi).2 (by have e' : b = g := e; rw [← e']; exact hb))
  have hsz : w.heap.size ≤ (w.setCell ⟨g, off + z * s + j, none⟩ u).heap.size := by simp [World.setCell]
  by_cases e : k = z ∧ i = j
  · obtain ⟨rfl, rfl⟩ := e
    refine ⟨u, World.cell?_setCell_same _ _ u hx, ?_⟩
    rw [atZ_eq, hu0] at hfx
    rw [atZ_eq, trs_set hl, if_pos rfl]
    exact ⟨hfx.1, rfl⟩
  · refine ⟨x, ?_, ?_⟩
    · rw [World.cell?_setCell_other (h := fun e' => cell_ne hj hi (show z ≠ k ∨ j ≠ i by omega) off (congrArg Addr.off e'))]
      exact hx
    · have hfx' : Fit w (atZ z (L.set j (.leaf u)) T0 k i) (K k i) x := by
        by_cases ek : k = z
        · subst ek
          rw [atZ_eq] at hfx ⊢
          rw [trs_set hl, if_neg (by omega)]
          exact hfx
        · rw [atZ_ne _ _ ek] at hfx ⊢
          exact hfx
      exact hfx'.same hsz hblk
theorem Fit.subZ {w w' : World} {s n z g off : Nat} {L L' : List Tr} {T0 : Nat → Nat → Tr} {K : Nat → Nat → Sk} {v : Value} (h : Fit w (.list s n (atZ z L T0)) (.row g off s n K) v) (hok : (Sk.row g off s n K).ok) (hz : z < n) (j : Nat) (hj : j < s) (hl : j < L.length) (u : Value) (hu : w.cell? ⟨g, off + z * s + j, none⟩ = some u) (t' : Tr) (hcg : Cg w w' (K z j).bl) (hf' : Fit w' t' (K z j) u) (hL : L' = L.set j t') :
    Fit w' (.list s n (atZ z L' T0)) (.row g off s n K) v := by
  subst hL
  obtain ⟨_, _, c, h1, h2, h3, hg, hf, hc⟩ := h
  have hgb := hcg.block g hg (hok.1 z j hz hj).2
  refine ⟨rfl, rfl, c, h1, h2, h3, Nat.lt_of_lt_of_le hg hcg.size, fun i => (World.frozen?_of_block (a := ⟨g, i, none⟩) hgb).trans (hf i), fun k i hk hi => ?_⟩
  obtain ⟨x, hx, hfx⟩ := hc k i hk hi
  have hcx : w'.cell? ⟨g, off + k * s + i, none⟩ = some x := (World.cell?_of_block (a := ⟨g, off + k * s + i, none⟩) hgb).trans hx
  refine ⟨x, hcx, ?_⟩
  by_cases e : k = z ∧ i = j
  · obtain ⟨rfl, rfl⟩ := e
    rw [atZ_eq, trs_set hl, if_pos rfl]
    have : x = u := by rw [hx] at hu; exact Option.some.inj hu
    rw [this]
    exact hf'
  · have hfx' : Fit w (atZ z (L.set j t') T0 k i) (K k i) x := by
      by_cases ek : k = z
      · subst ek
        rw [atZ_eq] at hfx ⊢
        rw [trs_set hl, if_neg (by omega)]
        exact hfx
      · rw [atZ_ne _ _ ek] at hfx ⊢
        exact hfx
    exact hfx'.cg hcg (fun b hb => hok.2 k i z j hk hi hz hj (by omega) b hb)
theorem Sk.bl_in {g off s n : Nat} {K : Nat → Nat → Sk} {k j b : Nat} (hk : k < n) (hj : j < s) (h : (K k j).bl b) : (Sk.row g off s n K).bl b := .inr ⟨k, j, hk, hj, h⟩
theorem Fit.toZ {w : World} {s n z : Nat} {f : Nat → Nat → Tr} {L : List Tr} {K : Sk} {v : Value} (h : Fit w (.list s n f) K v) (hL : ∀ j, j < s → f z j = trs L j) : Fit w (.list s n (atZ z L f)) K v :=
  h.congr (fun k j hk hj => by
    by_cases e : k = z
    · subst e; rw [atZ_eq]; exact hL j hj
    · rw [atZ_ne _ _ e])
theorem Fit.fro {w : World} {s n g off s' n' : Nat} {f : Nat → Nat → Tr} {K : Nat → Nat → Sk} {v : Value} (h : Fit w (.list s n f) (.row g off s' n' K) v) (j : Nat) : w.frozen? ⟨g, j, none⟩ = false := by
  obtain ⟨_, _, _, _, _, _, _, hz, _⟩ := h
  exact hz j
theorem Fit.shape {w : World} {s n : Nat} {f : Nat → Nat → Tr} {K : Sk} {v : Value} (h : Fit w (.list s n f) K v) : ∃ a c, v = .slice a n c := by
  cases K with
  | leaf => obtain ⟨rfl, a, c, rfl⟩ := h; exact ⟨a, c, rfl⟩
  | row g off s' n' K => obtain ⟨_, _, c, rfl, _⟩ := h; exact ⟨_, c, rfl⟩
theorem if_lt_succ {α : Type} {i z : Nat} (h : i ≠ z) (x y : α) : (if i < z then x else y) = (if i < z + 1 then x else y) := by
  by_cases e : i < z
  · rw [if_pos e, if_pos (by omega)]
  · rw [if_neg e, if_neg (by omega)]
theorem Fit.doneZ {w : World} {s n z : Nat} {L : List Tr} {T0 T1 : Nat → Nat → Tr} {K : Sk} {v : Value} (h : Fit w (.list s n (atZ z L T0)) K v) (hT : ∀ i, i ≠ z → T0 i = T1 i) (hz : ∀ j, j < s → trs L j = T1 z j) : Fit w (.list s n T1) K v :=
  h.congr (fun k j hk hj => by
    by_cases e : k = z
    · subst e; rw [atZ_eq, hz j hj]
    · rw [atZ_ne _ _ e, hT k e])
end Go.Proofs.Ytfdddkjonjpgpaa
namespace Go.Proofs.Ytfdddkjonjpgpaa
open Go.RowKit Go.Joins
set_option linter.unusedVariables false
set_option linter.unusedSimpArgs false
theorem sumN_le {g : Nat → Nat} {z n : Nat} (hz : z < n) : sumN z g + g z ≤ sumN n g := by
  have := sumN_mono g (show z + 1 ≤ n by omega)
  simpa [sumN] using this
set_option maxRecDepth 20000 in
set_option maxHeartbeats 2000000 in
theorem markIntS_f (ws : List Int) (a : Option Addr) (n c s : Nat) (x : Int) (K : Sk) (w : World) (hx : x = ((s : Nat) : Int)) (h : Fit w (intsT ws) K (.slice a n c)) (hok : K.ok) (hB : s + ws.length ≤ 1125899906842624) :
    Calls Try.prog 51 #[.slice a n c, .int .i64 x] w fun e w' => e = .returned (.int .i64 ((s + ws.length : Nat) : Int)) ∧ Fit w' (intsT (marksI s ws.length)) K (.slice a n c) ∧ Cg w w' K.bl := by
  subst hx
  obtain ⟨hn, hc1, hm⟩ := h.len
  unfold maxLen at hm
  have HN : Hid (n = ws.length) := hn
  rw [← hn] at hB hm ⊢
  have h1 : Fit w (.list 1 n (fun i _ => if i < 0 then .leaf (.int .i64 ((s : Int) + (i : Int))) else .leaf (.int .i64 (ws.getD i 0)))) K (.slice a n c) := by
    have h9 : Fit w (.list 1 n (fun i _ => .leaf (.int .i64 (ws.getD i 0)))) K (.slice a n c) := by
      unfold intsT at h
      rw [← hn] at h
      exact h
    exact h9.congr (fun k j hk hj => by simp)
  have HE : Hid (∀ w', Fit w' (.list 1 n (fun i _ => if i < n then .leaf (.int .i64 ((s : Int) + (i : Int))) else .leaf (.int .i64 (ws.getD i 0)))) K (.slice a n c) → Fit w' (intsT (marksI s n)) K (.slice a n c)) := by
    show ∀ w', _
    intro w' h9
    have h8 : Fit w' (.list 1 n (fun k _ => .leaf (.int .i64 ((marksI s n).getD k 0)))) K (.slice a n c) := h9.congr (fun k j hk hj => by simp only [if_pos hk]; rw [marksI_get s n k hk])
    unfold intsT
    rw [marksI_length]
    exact h8
  clear h hn
  by_cases h0 : n = 0
  · subst h0
    have h2 := HE.out w h1
    clear h1
    go_enter Try.func51, Try.ntmps51
    go_wp2
    refine wp_loop_rounds 1 ?_
    rw [rounds_succ]
    go_wp2
    go_ret
    exact ⟨rfl, h2, Cg.refl _ _⟩
  · obtain ⟨g, off, K', rfl, rfl, -, -, -, hg, -⟩ := h1.row (by omega)
    have HH : Hid (Fit w (.list 1 n (fun i _ => if i < 0 then .leaf (.int .i64 ((s : Int) + (i : Int))) else .leaf (.int .i64 (ws.getD i 0)))) (.row g off 1 n K') (.slice (some ⟨g, off, none⟩) n c) ∧ (Sk.row g off 1 n K').ok) := ⟨h1, hok⟩
    clear h1 hok
    go_enter Try.func51, Try.ntmps51
    go_wp2
    go_loopw [1, 5] (fun kv i wr => ∃ z : Nat, z ≤ n ∧ i = .int .i64 z ∧ kv = .int .i64 ((s : Int) + (z : Int)) ∧ Fit wr (.list 1 n (fun i _ => if i < z then .leaf (.int .i64 ((s : Int) + (i : Int))) else .leaf (.int .i64 (ws.getD i 0)))) (.row g off 1 n K') (.slice (some ⟨g, off, none⟩) n c) ∧ Cg w wr (Sk.row g off 1 n K').bl) (fun _ i _ => n - (intOf i).toNat)
    case atStart => exact ⟨0, Nat.zero_le _, rfl, by simp, HH.out.1, Cg.refl _ _⟩
    case round =>
      obtain ⟨z, hz, rfl, rfl, hF, hC⟩ := hrel
      by_cases hlt : z < n
      · have hi : (z : Int) < (n : Int) := by omega
        have F0 := hF.toZ (z := z) (L := [.leaf (.int .i64 (ws.getD z 0))]) (fun j hj => by
          have e0 : j = 0 := by omega
          subst e0
          simp only [if_neg (Nat.lt_irrefl z)]
          rfl)
        obtain ⟨u, e0', t0⟩ := F0.cellZ hlt 0 (by decide)
        have eo : off + z * 1 + 0 = off + z := by omega
        rw [eo] at e0'
        have f0 := F0.fro (off + z)
        have F1 := F0.setZ HH.out.2 hlt 0 (by decide) (by simp) _ (.int .i64 ((s : Int) + (z : Int))) (.int .i64 ((s : Int) + (z : Int))) rfl rfl rfl
        rw [eo] at F1
        have F2 := F1.doneZ (T1 := fun i _ => if i < z + 1 then .leaf (.int .i64 ((s : Int) + (i : Int))) else .leaf (.int .i64 (ws.getD i 0))) (fun i hi => by funext j; exact if_lt_succ hi _ _) (fun j hj => by
          have e0 : j = 0 := by omega
          subst e0
          simp only [if_pos (Nat.lt_succ_self z)]
          rfl)
        have C1 := hC.set (p := ⟨g, off + z, none⟩) (.inl rfl) (.int .i64 ((s : Int) + (z : Int)))
        have H1 : Hid (_ ∧ _) := ⟨F2, C1⟩
        clear hF hC F0 F1 F2 C1 t0 eo
        go_wp2
        go_roundw
        case rel => exact ⟨z + 1, by omega, by go_num, by go_num, H1.out.1, H1.out.2⟩
        case measure => simp [intOf]; omega
      · have hi : ¬ (z : Int) < (n : Int) := by omega
        have e9 : z = n := by omega
        subst e9
        have H1 : Hid (_ ∧ _) := ⟨HE.out _ hF, hC⟩
        clear hF hC
        go_wp2
        go_ret
        exact ⟨rfl, H1.out.1, H1.out.2⟩
set_option maxRecDepth 20000 in
set_option maxHeartbeats 2000000 in
theorem markBoolS_f (ws : List Bool) (a : Option Addr) (n c s : Nat) (x : Int) (K : Sk) (w : World) (hx : x = ((s : Nat) : Int)) (h : Fit w (boolsT ws) K (.slice a n c)) (hok : K.ok) (hB : s + ws.length ≤ 1125899906842624) :
    Calls Try.prog 50 #[.slice a n c, .int .i64 x] w fun e w' => e = .returned (.int .i64 ((s + ws.length : Nat) : Int)) ∧ Fit w' (boolsT (marksB s ws.length)) K (.slice a n c) ∧ Cg w w' K.bl := by
  subst hx
  obtain ⟨hn, hc1, hm⟩ := h.len
  unfold maxLen at hm
  have HN : Hid (n = ws.length) := hn
  rw [← hn] at hB hm ⊢
  have h1 : Fit w (.list 1 n (fun i _ => if i < 0 then .leaf (.bool (((s : Int) + (i : Int)) % 3 == 0)) else .leaf (.bool (ws.getD i false)))) K (.slice a n c) := by
    have h9 : Fit w (.list 1 n (fun i _ => .leaf (.bool (ws.getD i false)))) K (.slice a n c) := by
      unfold boolsT at h
      rw [← hn] at h
      exact h
    exact h9.congr (fun k j hk hj => by simp)
  have HE : Hid (∀ w', Fit w' (.list 1 n (fun i _ => if i < n then .leaf (.bool (((s : Int) + (i : Int)) % 3 == 0)) else .leaf (.bool (ws.getD i false)))) K (.slice a n c) → Fit w' (boolsT (marksB s n)) K (.slice a n c)) := by
    show ∀ w', _
    intro w' h9
    have h8 : Fit w' (.list 1 n (fun k _ => .leaf (.bool ((marksB s n).getD k false)))) K (.slice a n c) := h9.congr (fun k j hk hj => by simp only [if_pos hk]; rw [marksB_get s n k hk])
    unfold boolsT
    rw [marksB_length]
    exact h8
  clear h hn
  by_cases h0 : n = 0
  · subst h0
    have h2 := HE.out w h1
    clear h1
    go_enter Try.func50, Try.ntmps50
    go_wp2
    refine wp_loop_rounds 1 ?_
    rw [rounds_succ]
    go_wp2
    go_ret
    exact ⟨rfl, h2, Cg.refl _ _⟩
  · obtain ⟨g, off, K', rfl, rfl, -, -, -, hg, -⟩ := h1.row (by omega)
    have HH : Hid (Fit w (.list 1 n (fun i _ => if i < 0 then .leaf (.bool (((s : Int) + (i : Int)) % 3 == 0)) else .leaf (.bool (ws.getD i false)))) (.row g off 1 n K') (.slice (some ⟨g, off, none⟩) n c) ∧ (Sk.row g off 1 n K').ok) := ⟨h1, hok⟩
    clear h1 hok
    go_enter Try.func50, Try.ntmps50
    go_wp2
    go_loopw [1, 5] (fun kv i wr => ∃ z : Nat, z ≤ n ∧ i = .int .i64 z ∧ kv = .int .i64 ((s : Int) + (z : Int)) ∧ Fit wr (.list 1 n (fun i _ => if i < z then .leaf (.bool (((s : Int) + (i : Int)) % 3 == 0)) else .leaf (.bool (ws.getD i false)))) (.row g off 1 n K') (.slice (some ⟨g, off, none⟩) n c) ∧ Cg w wr (Sk.row g off 1 n K').bl) (fun _ i _ => n - (intOf i).toNat)
    case atStart => exact ⟨0, Nat.zero_le _, rfl, by simp, HH.out.1, Cg.refl _ _⟩
    case round =>
      obtain ⟨z, hz, rfl, rfl, hF, hC⟩ := hrel
      by_cases hlt : z < n
      · have hi : (z : Int) < (n : Int) := by omega
        have F0 := hF.toZ (z := z) (L := [.leaf (.bool (ws.getD z false))]) (fun j hj => by
          have e0 : j = 0 := by omega
          subst e0
          simp only [if_neg (Nat.lt_irrefl z)]
          rfl)
        obtain ⟨u, e0', t0⟩ := F0.cellZ hlt 0 (by decide)
        have eo : off + z * 1 + 0 = off + z := by omega
        rw [eo] at e0'
        have f0 := F0.fro (off + z)
        have F1 := F0.setZ HH.out.2 hlt 0 (by decide) (by simp) _ (.bool (((s : Int) + (z : Int)) % 3 == 0)) (.bool (((s : Int) + (z : Int)) % 3 == 0)) rfl rfl rfl
        rw [eo] at F1
        have F2 := F1.doneZ (T1 := fun i _ => if i < z + 1 then .leaf (.bool (((s : Int) + (i : Int)) % 3 == 0)) else .leaf (.bool (ws.getD i false))) (fun i hi => by funext j; exact if_lt_succ hi _ _) (fun j hj => by
          have e0 : j = 0 := by omega
          subst e0
          simp only [if_pos (Nat.lt_succ_self z)]
          rfl)
        have C1 := hC.set (p := ⟨g, off + z, none⟩) (.inl rfl) (.bool (((s : Int) + (z : Int)) % 3 == 0))
        have H1 : Hid (_ ∧ _) := ⟨F2, C1⟩
        clear hF hC F0 F1 F2 C1 t0 eo
        go_wp2
        go_roundw
        case rel => exact ⟨z + 1, by omega, by go_num, by go_num, H1.out.1, H1.out.2⟩
        case measure => simp [intOf]; omega
      · have hi : ¬ (z : Int) < (n : Int) := by omega
        have e9 : z = n := by omega
        subst e9
        have H1 : Hid (_ ∧ _) := ⟨HE.out _ hF, hC⟩
        clear hF hC
        go_wp2
        go_ret
        exact ⟨rfl, H1.out.1, H1.out.2⟩
set_option maxRecDepth 20000 in
set_option maxHeartbeats 2000000 in
theorem heldIntS_f (m : Nat) (a : Option Addr) (n c s : Nat) (x : Int) (w : World) (hx : x = ((s : Nat) : Int)) (h : Rd w 0 (intsT (marksI s m)) (.slice a n c)) (hB : s + m ≤ 1125899906842624) :
    Calls Try.prog 53 #[.slice a n c, .int .i64 x] w fun e w' => e = .returned (.int .i64 ((s + m : Nat) : Int)) ∧ w' = w := by
  subst hx
  obtain ⟨a', c', h1, -, hm, hs⟩ := h.ints
  simp only [Value.slice.injEq] at h1
  obtain ⟨rfl, h2, rfl⟩ := h1
  rw [marksI_length] at h2 hm
  subst h2
  unfold maxLen at hm
  have HS : Hid (SlI w a (marksI s n)) := hs
  clear hs h
  go_enter Try.func53, Try.ntmps53
  go_wp2
  go_loopw [1, 5] (fun kv i wr => ∃ z : Nat, z ≤ n ∧ i = .int .i64 z ∧ kv = .int .i64 ((s : Int) + (z : Int)) ∧ wr = w) (fun _ i _ => n - (intOf i).toNat)
  case atStart => exact ⟨0, Nat.zero_le _, rfl, by simp, rfl⟩
  case round =>
    obtain ⟨z, hz, rfl, rfl, hw⟩ := hrel
    subst hw
    by_cases hlt : z < n
    · have hi : (z : Int) < (n : Int) := by omega
      rcases HS.out with h0 | ⟨b, off, rfl, hb, hc⟩
      · have := congrArg List.length h0
        rw [marksI_length] at this
        simp at this
        omega
      · have e0 : wr.cell? ⟨b, off + z, none⟩ = some (.int .i64 ((s : Int) + (z : Int))) := by
          have h9 := hc z (by rw [marksI_length]; exact hlt)
          rw [marksI_get s n z hlt] at h9
          exact h9
        clear hc
        go_wp2
        go_roundw
        case rel => exact ⟨z + 1, by omega, by go_num, by go_num, trivial⟩
        case measure => simp [intOf]; omega
    · have hi : ¬ (z : Int) < (n : Int) := by omega
      have e9 : z = n := by omega
      subst e9
      go_wp2
      go_ret
      exact ⟨rfl, rfl⟩
set_option maxRecDepth 20000 in
set_option maxHeartbeats 2000000 in
theorem heldBoolS_f (m : Nat) (a : Option Addr) (n c s : Nat) (x : Int) (w : World) (hx : x = ((s : Nat) : Int)) (h : Rd w 0 (boolsT (marksB s m)) (.slice a n c)) (hB : s + m ≤ 1125899906842624) :
    Calls Try.prog 52 #[.slice a n c, .int .i64 x] w fun e w' => e = .returned (.int .i64 ((s + m : Nat) : Int)) ∧ w' = w := by
  subst hx
  obtain ⟨a', c', h1, -, hm, hs⟩ := h.bools
  simp only [Value.slice.injEq] at h1
  obtain ⟨rfl, h2, rfl⟩ := h1
  rw [marksB_length] at h2 hm
  subst h2
  unfold maxLen at hm
  have HS : Hid (SlB w a (marksB s n)) := hs
  clear hs h
  go_enter Try.func52, Try.ntmps52
  go_wp2
  go_loopw [1, 5] (fun kv i wr => ∃ z : Nat, z ≤ n ∧ i = .int .i64 z ∧ kv = .int .i64 ((s : Int) + (z : Int)) ∧ wr = w) (fun _ i _ => n - (intOf i).toNat)
  case atStart => exact ⟨0, Nat.zero_le _, rfl, by simp, rfl⟩
  case round =>
    obtain ⟨z, hz, rfl, rfl, hw⟩ := hrel
    subst hw
    by_cases hlt : z < n
    · have hi : (z : Int) < (n : Int) := by omega
      rcases HS.out with h0 | ⟨b, off, rfl, hb, hc⟩
      · have := congrArg List.length h0
        rw [marksB_length] at this
        simp at this
        omega
      · have e0 : wr.cell? ⟨b, off + z, none⟩ = some (.bool (((s : Int) + (z : Int)) % 3 == 0)) := by
          have h9 := hc z (by rw [marksB_length]; exact hlt)
          rw [marksB_get s n z hlt] at h9
          exact h9
        clear hc
        go_wp2
        go_roundw
        case rel => exact ⟨z + 1, by omega, by go_num, by go_num, trivial⟩
        case measure => simp [intOf]; omega
    · have hi : ¬ (z : Int) < (n : Int) := by omega
      have e9 : z = n := by omega
      subst e9
      go_wp2
      go_ret
      exact ⟨rfl, rfl⟩
def ctVQ (X : VQ) : Nat := 1 + 1 + 1 + X.ws.length + X.bs.length + 1
def nmVQ (k : Nat) (X : VQ) : VQ := ⟨((k : Nat) : Int), ((k + 1 : Nat) : Int), ((k + 1 + 1 : Nat) : Int), marksI (k + 1 + 1 + 1) X.ws.length, marksB (k + 1 + 1 + 1 + X.ws.length) X.bs.length, ((k + 1 + 1 + 1 + X.ws.length + X.bs.length : Nat) : Int)⟩
def ctVA (X : VA) : Nat := 1 + 1 + 1 + 1 + X.ws.length + X.bs.length
def nmVA (k : Nat) (X : VA) : VA := ⟨((k : Nat) : Int), ((k + 1 : Nat) : Int), ((k + 1 + 1 : Nat) : Int), ((k + 1 + 1 + 1 : Nat) : Int), marksI (k + 1 + 1 + 1 + 1) X.ws.length, marksB (k + 1 + 1 + 1 + 1 + X.ws.length) X.bs.length⟩
def ctVP (X : VP) : Nat := 1 + 1 + ctVQ X.q
def nmVP (k : Nat) (X : VP) : VP := ⟨((k : Nat) : Int), ((k + 1 : Nat) : Int), nmVQ (k + 1 + 1) X.q⟩
def ctVD (X : VD) : Nat := 1 + 1 + 1 + 1 + ctVQ X.q + sumN X.np (fun i => ctVP (X.pt i)) + X.hs.length + sumN X.nt (fun i => ctVA (X.tl i))
def nmVD (k : Nat) (X : VD) : VD := ⟨((k : Nat) : Int), ((k + 1 : Nat) : Int), ((k + 1 + 1 : Nat) : Int), ((k + 1 + 1 + 1 : Nat) : Int), nmVQ (k + 1 + 1 + 1 + 1) X.q, X.np, fun i => nmVP (k + 1 + 1 + 1 + 1 + ctVQ X.q + sumN i (fun i => ctVP (X.pt i))) (X.pt i), marksB (k + 1 + 1 + 1 + 1 + ctVQ X.q + sumN X.np (fun i => ctVP (X.pt i))) X.hs.length, X.nt, fun i => nmVA (k + 1 + 1 + 1 + 1 + ctVQ X.q + sumN X.np (fun i => ctVP (X.pt i)) + X.hs.length + sumN i (fun i => ctVA (X.tl i))) (X.tl i)⟩
def ctVT (X : VT) : Nat := 1 + sumN X.m (fun i => ctVD (X.f i))
def nmVT (k : Nat) (X : VT) : VT := ⟨((k : Nat) : Int), X.m, fun i => nmVD (k + 1 + sumN i (fun i => ctVD (X.f i))) (X.f i)⟩
end Go.Proofs.Ytfdddkjonjpgpaa
