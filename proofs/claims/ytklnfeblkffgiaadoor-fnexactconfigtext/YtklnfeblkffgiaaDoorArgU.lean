/- Rules that came in, opened. -/
import Derived.Test.YtklnfeblkffgiaaDoorArgQ
import Derived.Test.YtklnfeblkffgiaaDoorRu1
import Derived.Deep.Slices
namespace Go.Proofs.YtklnfeblkffgiaaDoor
open Go.ChangeShapes Go.WideShapes Go.ChangeAt Go.RowKit Go.Deep Go.Joins

set_option linter.unusedVariables false

section
variable {H : Type} {enc : TypeId × Value → H} {P : Program} {w : World} {base : Nat} {held : Bool}

/-- What the walk is told of rules that came in. -/
def InRus (w : World) (a : Option Addr) (n : Nat) (f : Nat → Ru) : Prop := n ≤ maxLen ∧ SlU w a n f ∧ ∀ k, k < n → -9223372036854775808 ≤ (f k).sh ∧ (f k).sh ≤ 9223372036854775807

/-- The elements of a slice of structs of s cells each, as lists of cells. -/
theorem opened_cells {t e : TypeId} {fuel s : Nat} {a : Option Addr} {len cap : Nat} {x : DataW H × List MemPlace} (ht : P.underlying t = some (.slice e)) (hs : P.cellsOf e = s) (h0 : 0 < s)
    (hf : DataW.trod enc P w base (fun _ => true) held fuel t [.slice a len cap] = some x) :
    len ≤ maxLen ∧ ∃ F : Nat → List Value, SlS w a s len F ∧ ∀ k, k < len → (F k).length = s ∧ ∃ n y, DataW.trod enc P w base (fun _ => true) held n e (F k) = some y := by
  rcases open_slice ht hf with ⟨hcs, _⟩ | ⟨x, l, c, m, n, D, Pl, hcs, _, hl, hm, hmm, _, hx⟩
  · simp at hcs
    obtain ⟨rfl, rfl, rfl⟩ := hcs
    exact ⟨Nat.zero_le _, fun _ => [], .inl rfl, fun k hk => by omega⟩
  · simp at hcs
    obtain ⟨rfl, rfl, rfl⟩ := hcs
    simp only [if_true] at hmm
    subst hmm
    rw [hs] at hx
    obtain ⟨F, hF⟩ := choose_lt (α := List Value) (p := fun i cs' => w.cells? base (x.add (i * s)) s = some cs' ∧ DataW.trod enc P w base (fun _ => true) held n e cs' = some (D i, Pl i)) (fun i hi => hx i hi)
    refine ⟨by omega, F, ?_, fun k hk => ⟨(World.cells?_some (hF k (by omega)).1).2.1, n, _, (hF k (by omega)).2⟩⟩
    by_cases e0 : len = 0
    · exact .inl e0
    · have hc0 := (World.cells?_some (hF 0 (by omega)).1)
      obtain ⟨b, off, spot⟩ := x
      have hc := hc0.2.2 0 h0
      obtain ⟨v0, hv0⟩ : ∃ v, (F 0)[0]? = some v := ⟨(F 0)[0], by simp⟩
      rw [hv0] at hc
      have hspot : spot = none := by simpa [Addr.add] using World.cell?_spot hc
      subst hspot
      refine .inr ⟨b, off, rfl, (by simpa [Addr.add] using World.block_lt_of_cell? _ _ hc), fun k hk j hj => ?_⟩
      have h1 := (World.cells?_some (hF k (by omega)).1).2.2 j hj
      rw [← h1]
      have e1 : ∀ (o n : Nat), (Addr.mk b o none).add n = ⟨b, o + n, none⟩ := fun o n => by
        by_cases e : n = 0
        · subst e; rfl
        · simp [Addr.add, e]
      rw [e1, e1]

/-- A struct of seven numbers, opened. -/
theorem opened_seven {t i : TypeId} {f0 f1 f2 f3 f4 f5 f6 : Field} {fuel : Nat} {cs : List Value} {y : DataW H × List MemPlace} (hs : P.underlying t = some (.struct #[f0, f1, f2, f3, f4, f5, f6])) (hone : oneCellFields P #[f0, f1, f2, f3, f4, f5, f6] = true)
    (e0 : f0.type = i) (e1 : f1.type = i) (e2 : f2.type = i) (e3 : f3.type = i) (e4 : f4.type = i) (e5 : f5.type = i) (e6 : f6.type = i) (hi : P.underlying i = some (.int .i64)) (hl : cs.length = 7)
    (h : DataW.trod enc P w base (fun _ => true) held fuel t cs = some y) : ∃ r : Ru, cs = rul r ∧ -9223372036854775808 ≤ r.sh ∧ r.sh ≤ 9223372036854775807 := by
  obtain ⟨xs, n, _, hx, hl', hlen, hg⟩ := DataW.trod_struct hs h
  match cs, hl with
  | [c0, c1, c2, c3, c4, c5, c6], _ =>
    obtain ⟨o0, k0⟩ := hone_of hone 0 f0 rfl
    obtain ⟨o1, k1⟩ := hone_of hone 1 f1 rfl
    obtain ⟨o2, k2⟩ := hone_of hone 2 f2 rfl
    obtain ⟨o3, k3⟩ := hone_of hone 3 f3 rfl
    obtain ⟨o4, k4⟩ := hone_of hone 4 f4 rfl
    obtain ⟨o5, k5⟩ := hone_of hone 5 f5 rfl
    obtain ⟨o6, k6⟩ := hone_of hone 6 f6 rfl
    have h0 := hg 0 f0 rfl
    have h1 := hg 1 f1 rfl
    have h2 := hg 2 f2 rfl
    have h3 := hg 3 f3 rfl
    have h4 := hg 4 f4 rfl
    have h5 := hg 5 f5 rfl
    have h6 := hg 6 f6 rfl
    match xs, hlen with
    | [y0, y1, y2, y3, y4, y5, y6], _ =>
      obtain ⟨z0, rfl, _⟩ := opened_int1 (c := c0) (y := y0) hi (by rw [← e0]; simpa [o0, k0] using h0)
      obtain ⟨z1, rfl, _⟩ := opened_int1 (c := c1) (y := y1) hi (by rw [← e1]; simpa [o1, k1] using h1)
      obtain ⟨z2, rfl, _⟩ := opened_int1 (c := c2) (y := y2) hi (by rw [← e2]; simpa [o2, k2] using h2)
      obtain ⟨z3, rfl, _⟩ := opened_int1 (c := c3) (y := y3) hi (by rw [← e3]; simpa [o3, k3] using h3)
      obtain ⟨z4, rfl, _⟩ := opened_int1 (c := c4) (y := y4) hi (by rw [← e4]; simpa [o4, k4] using h4)
      obtain ⟨z5, rfl, _⟩ := opened_int1 (c := c5) (y := y5) hi (by rw [← e5]; simpa [o5, k5] using h5)
      obtain ⟨z6, rfl, w6⟩ := opened_int1 (c := c6) (y := y6) hi (by rw [← e6]; simpa [o6, k6] using h6)
      exact ⟨⟨z0, z1, z2, z3, z4, z5, z6⟩, rfl, bounds_i64 w6⟩

instance : Inhabited Ru := ⟨⟨0, 0, 0, 0, 0, 0, 0⟩⟩

theorem opened_rus {t e i : TypeId} {f0 f1 f2 f3 f4 f5 f6 : Field} {fuel : Nat} {a : Option Addr} {len cap : Nat} {x : DataW H × List MemPlace} (ht : P.underlying t = some (.slice e)) (hc : P.cellsOf e = 7) (hs : P.underlying e = some (.struct #[f0, f1, f2, f3, f4, f5, f6])) (hone : oneCellFields P #[f0, f1, f2, f3, f4, f5, f6] = true)
    (e0 : f0.type = i) (e1 : f1.type = i) (e2 : f2.type = i) (e3 : f3.type = i) (e4 : f4.type = i) (e5 : f5.type = i) (e6 : f6.type = i) (hi : P.underlying i = some (.int .i64))
    (hf : DataW.trod enc P w base (fun _ => true) held fuel t [.slice a len cap] = some x) : ∃ f : Nat → Ru, InRus w a len f := by
  obtain ⟨hm, F, hS, hF⟩ := opened_cells ht hc (by decide) hf
  obtain ⟨f, hf'⟩ := choose_lt (α := Ru) (p := fun k r => F k = rul r ∧ -9223372036854775808 ≤ r.sh ∧ r.sh ≤ 9223372036854775807) (fun k hk => by
    obtain ⟨hl, n, y, hy⟩ := hF k hk
    exact opened_seven hs hone e0 e1 e2 e3 e4 e5 e6 hi hl hy)
  refine ⟨f, hm, ?_, fun k hk => (hf' k hk).2⟩
  rcases hS with h | ⟨b, off, ha, hlt, hc'⟩
  · exact .inl h
  · exact .inr ⟨b, off, ha, hlt, fun k hk j hj => by rw [hc' k hk j hj, (hf' k hk).1]⟩
end

end Go.Proofs.YtklnfeblkffgiaaDoor
