/- Texts that the proof needs, joined: A64. -/
import Derived.Test.YtpgcankjhkchjaaGreatV2
import Derived.Test.YtpgcankjhkchjaaGreatV3
namespace Go.Proofs.YtpgcankjhkchjaaGreat
open Go.ChangeShapes Go.WideShapes Go.ChangeAt Go.RowKit Go.Deep Go.Joins
set_option linter.unusedVariables false
set_option linter.unusedSimpArgs false
theorem wf64 {z : Int} (h : (Lit.int .i64 z).wf = true) : -9223372036854775808 ≤ z ∧ z ≤ 9223372036854775807 := bounds_i64 h
def OfB (w : World) : Sh → Value → Prop
  | .int, v => ∃ z, v = .int .i64 z ∧ -9223372036854775808 ≤ z ∧ z ≤ 9223372036854775807
  | .bool, v => ∃ z, v = .bool z
  | .lst s f, v => ∃ a n c, v = .slice a n c ∧ n ≤ c ∧ n ≤ maxLen ∧ (n = 0 ∨ ∃ (g off : Nat) (F : Nat → List Value), a = some ⟨g, off, none⟩ ∧ g < w.heap.size ∧
      ∀ k, k < n → (F k).length = s ∧ ∀ j v, (F k)[j]? = some v → w.cell? ⟨g, off + k * s + j, none⟩ = some v ∧ OfB w (f j) v)
def OfBL (w : World) (S : List Sh) (vs : List Value) : Prop := vs.length = S.length ∧ ∀ j v, vs[j]? = some v → OfB w (S.getD j .int) v
section
variable {H : Type} {enc : TypeId × Value → H} {P : Program} {w : World} {base : Nat} {held : Bool}
theorem opened_bF {sh : TypeId → Option (List Sh)} {cs : List Value}
    (hsh : ∀ t S, sh t = some S → ∀ (fuel : Nat) cs' (y : DataW H × List MemPlace), DataW.trod enc P w base (fun _ => true) held fuel t cs' = some y → OfBL w S cs') :
    ∀ (fs : List Field) (o : Nat) (S : List Sh), shF P sh fs o = some S → (∀ (i : Nat) f, fs[i]? = some f → ∃ (n : Nat) (y : DataW H × List MemPlace), DataW.trod enc P w base (fun _ => true) held n f.type ((cs.drop f.offset).take (P.cellsOf f.type)) = some y) →
      ∀ j v, j < S.length → cs[o + j]? = some v → OfB w (S.getD j .int) v
  | [], o, S, h, _, j, v, hj, hv => by
    simp only [shF, Option.some.injEq] at h
    subst h
    simp at hj
  | f :: r, o, S, h, hf, j, v, hj, hv => by
    unfold shF at h
    split at h
    · rename_i l l' h1 h2
      split at h
      · rename_i hc
        simp only [Option.some.injEq] at h
        subst h
        obtain ⟨n, y, hy⟩ := hf 0 f rfl
        obtain ⟨q1, q2⟩ := hsh _ _ h1 _ _ _ hy
        by_cases e : j < l.length
        · have := q2 j v (by
            rw [List.getElem?_take, if_pos (by omega), List.getElem?_drop, hc.1]
            exact hv)
          rw [List.getD_eq_getElem?_getD] at this ⊢
          rw [List.getElem?_append_left e]
          exact this
        · have := opened_bF hsh r _ l' h2 (fun i f' hf' => hf (i + 1) f' (by simpa using hf')) (j - l.length) v (by simp at hj; omega) (by
            rw [show o + P.cellsOf f.type + (j - l.length) = o + j by omega]
            exact hv)
          rw [List.getD_eq_getElem?_getD] at this ⊢
          rw [List.getElem?_append_right (by omega)]
          exact this
      · simp at h
    · simp at h
theorem opened_b : ∀ (n : Nat) (t : TypeId) (S : List Sh), shT P n t = some S → ∀ (fuel : Nat) cs (y : DataW H × List MemPlace), DataW.trod enc P w base (fun _ => true) held fuel t cs = some y → OfBL w S cs
  | 0, t, S, h, _, _, _, _ => by simp [shT] at h
  | n + 1, t, S, h, fuel, cs, y, hy => by
    unfold shT at h
    split at h
    · rename_i ht
      simp only [Option.some.injEq] at h
      subst h
      obtain ⟨z, rfl, _, hz⟩ := DataW.trod_int ht hy
      refine ⟨rfl, fun j v hv => ?_⟩
      match j, hv with
      | 0, hv => simp at hv; subst hv; exact ⟨z, rfl, wf64 hz⟩
      | j + 1, hv => simp at hv
    · rename_i ht
      simp only [Option.some.injEq] at h
      subst h
      obtain ⟨z, rfl, _⟩ := DataW.trod_bool ht hy
      refine ⟨rfl, fun j v hv => ?_⟩
      match j, hv with
      | 0, hv => simp at hv; subst hv; exact ⟨z, rfl⟩
      | j + 1, hv => simp at hv
    · rename_i e ht
      split at h
      · rename_i l hl
        split at h
        · rename_i hc
          simp only [Option.some.injEq] at h
          subst h
          rcases open_slice ht hy with ⟨rfl, _⟩ | ⟨x, len, c, m, n', D, Pl, rfl, _, hlc, hcm, hmm, _, hx⟩
          · refine ⟨rfl, fun j v hv => ?_⟩
            match j, hv with
            | 0, hv => simp at hv; subst hv; exact ⟨none, 0, 0, rfl, Nat.le_refl _, Nat.zero_le _, .inl rfl⟩
            | j + 1, hv => simp at hv
          · simp only [if_true] at hmm
            subst hmm
            rw [hc.1] at hx
            obtain ⟨F, hF⟩ := choose_lt (α := List Value) (p := fun i cs' => w.cells? base (x.add (i * l.length)) l.length = some cs' ∧ DataW.trod enc P w base (fun _ => true) held n' e cs' = some (D i, Pl i)) (fun i hi => hx i hi)
            refine ⟨rfl, fun j v hv => ?_⟩
            match j, hv with
            | 0, hv =>
              simp at hv
              subst hv
              refine ⟨some x, len, m, rfl, hlc, by omega, ?_⟩
              by_cases e0 : len = 0
              · exact .inl e0
              · have hc0 := (World.cells?_some (hF 0 (by omega)).1)
                obtain ⟨b, off, spot⟩ := x
                have hc9 := hc0.2.2 0 hc.2
                obtain ⟨v0, hv0⟩ : ∃ v, (F 0)[0]? = some v := ⟨(F 0)[0]'(by rw [hc0.2.1]; exact hc.2), by simp⟩
                rw [hv0] at hc9
                have hspot : spot = none := by simpa [Addr.add] using World.cell?_spot hc9
                subst hspot
                refine .inr ⟨b, off, F, rfl, (by simpa [Addr.add] using World.block_lt_of_cell? _ _ hc9), fun k hk => ?_⟩
                have h1 := World.cells?_some (hF k (by omega)).1
                obtain ⟨q1, q2⟩ := opened_b n e l hl _ _ _ (hF k (by omega)).2
                refine ⟨q1, fun j v hj => ⟨?_, q2 j v hj⟩⟩
                have h2 := h1.2.2 j (by rw [← q1]; exact (List.getElem?_eq_some_iff.1 hj).1)
                have e1 : ∀ (o n : Nat), (Addr.mk b o none).add n = ⟨b, o + n, none⟩ := fun o n => by
                  by_cases e : n = 0
                  · subst e; rfl
                  · simp [Addr.add, e]
                rw [e1, e1, hj] at h2
                exact h2
            | j + 1, hv => simp at hv
        · simp at h
      · simp at h
    · rename_i fs ht
      split at h
      · rename_i l hl
        split at h
        · rename_i hc
          simp only [Option.some.injEq] at h
          subst h
          obtain ⟨xs, m, _, hx, hlen, hxl, hg⟩ := DataW.trod_struct ht hy
          refine ⟨by rw [hlen, hc], fun j v hv => ?_⟩
          have hj : j < l.length := by
            have := (List.getElem?_eq_some_iff.1 hv).1
            omega
          exact opened_bF (cs := cs) (fun t' S' hs => opened_b n t' S' hs) fs.toList 0 l hl (fun i f hf => by
            have hf' : fs[i]? = some f := by simpa using hf
            have := hg i f hf'
            have hi : i < xs.length := by rw [hxl]; exact (Array.getElem?_eq_some_iff.1 hf').1
            exact ⟨m, xs[i], by rw [this]; simp⟩) j v hj (by rw [Nat.zero_add]; exact hv)
        · simp at h
      · simp at h
    · simp at h
end
theorem rules64 {w : World} {lo n l c : Nat} {f : Nat → Sh} {g : Nat → Ru} {a : Option Addr} (hf : f 6 = .int) (h : OfB w (.lst 7 f) (.slice a l c)) (hr : Rd w lo (.list 7 n (fun i => trs (xrT (g i)))) (.slice a l c)) : ∀ k, k < n → -9223372036854775808 ≤ (g k).sh ∧ (g k).sh ≤ 9223372036854775807 := by
  intro k hk
  obtain ⟨a', n', c', h1, _, _, h4⟩ := h
  simp only [Value.slice.injEq] at h1
  obtain ⟨rfl, rfl, rfl⟩ := h1
  have hl : l = n := hr.slu.1
  subst hl
  obtain ⟨b, off, vs, ha, _, _, hlen, hrng, hd⟩ := hr.at hk
  rcases h4 with h4 | ⟨b', off', F, ha', _, hc⟩
  · omega
  · rw [ha] at ha'
    simp only [Option.some.injEq, Addr.mk.injEq, and_true] at ha'
    obtain ⟨rfl, rfl⟩ := ha'
    have e := Ru.cells hd hlen
    subst e
    have q1 := hrng 6 _ rfl
    obtain ⟨q2, q3⟩ := hc k hk
    obtain ⟨v, hv⟩ : ∃ v, (F k)[6]? = some v := ⟨(F k)[6]'(by omega), by simp⟩
    obtain ⟨q4, q5⟩ := q3 6 v hv
    rw [q1] at q4
    obtain rfl := Option.some.inj q4
    rw [hf] at q5
    obtain ⟨z, hz, hb⟩ := q5
    simp only [rul, Value.int.injEq, true_and] at hz
    rw [hz]
    exact hb
theorem opened_64 {H : Type} {enc : TypeId × Value → H} {P : Program} {w : World} {base : Nat} {held : Bool} {t : TypeId} {d : DataW H} {p : List MemPlace} {N : Nat} {S : List Sh} {l : List Value} {n m c : Nat} {f : Nat → Sh} {g : Nat → Ru} {a : Option Addr} (hsh : shT P N t = some S) (h : DataW.Trod enc P w base (fun _ => true) held t (.agg l.toArray) d p)
    (h3 : l[3]? = some (.slice a m c)) (hS : S.getD 3 .int = .lst 7 f) (hf : f 6 = .int) (hr : Rd w 0 (.list 7 n (fun i => trs (xrT (g i)))) (.slice a m c)) : ∀ k, k < n → -9223372036854775808 ≤ (g k).sh ∧ (g k).sh ≤ 9223372036854775807 := by
  obtain ⟨fuel, hf'⟩ := h
  have h9 := (opened_b N t _ hsh fuel l _ (by simpa [Value.cells] using hf')).2 3 _ h3
  rw [hS] at h9
  exact rules64 hf h9 hr
end Go.Proofs.YtpgcankjhkchjaaGreat
