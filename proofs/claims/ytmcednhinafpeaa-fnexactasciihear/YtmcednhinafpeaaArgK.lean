/- A listener of digits that came in, opened. -/
import Derived.Test.YtmcednhinafpeaaArgQ
namespace Go.Proofs.Ytmcednhinafpeaa
open Go.ChangeShapes Go.WideShapes Go.ChangeAt Go.RowKit Go.Deep Go.Joins

section
variable {H : Type} {enc : TypeId × Value → H} {P : Program} {w : World} {base : Nat} {held : Bool}

theorem array4 {α : Type} {cs : Array α} (h : cs.size = 4) : ∃ c0 c1 c2 c3, cs = #[c0, c1, c2, c3] := by
  obtain ⟨l⟩ := cs
  match l, h with
  | [c0, c1, c2, c3], _ => exact ⟨c0, c1, c2, c3, rfl⟩

/-- A struct of four fields of one cell each, opened. -/
theorem opened_struct4 {r : Reach} {b0 : Nat} {t : TypeId} {f0 f1 f2 f3 : Field} {v : Value} {d : DataW H} {p : List MemPlace} {spare : Nat → Bool} (hs : P.underlying t = some (.struct #[f0, f1, f2, f3])) (hone : oneCellFields P #[f0, f1, f2, f3] = true) (hC : P.cellsOf t = 4)
    (hv : Value.okWide P w r b0 t v) (h : DataW.Trod enc P w base spare held t v d p) :
    ∃ c0 c1 c2 c3 n y0 y1 y2 y3, v = .agg #[c0, c1, c2, c3] ∧ DataW.trod enc P w base spare held n f0.type [c0] = some y0 ∧ DataW.trod enc P w base spare held n f1.type [c1] = some y1 ∧ DataW.trod enc P w base spare held n f2.type [c2] = some y2 ∧ DataW.trod enc P w base spare held n f3.type [c3] = some y3 := by
  obtain ⟨cs, rfl, hsz⟩ := okWide_struct hs hv
  obtain ⟨c0, c1, c2, c3, rfl⟩ := array4 (hsz.trans hC)
  obtain ⟨fuel, hf'⟩ := h
  obtain ⟨xs, n, _, hx, hl, hlen, hg⟩ := DataW.trod_struct hs hf'
  obtain ⟨o0, k0⟩ := hone_of hone 0 f0 rfl
  obtain ⟨o1, k1⟩ := hone_of hone 1 f1 rfl
  obtain ⟨o2, k2⟩ := hone_of hone 2 f2 rfl
  obtain ⟨o3, k3⟩ := hone_of hone 3 f3 rfl
  have h0 := hg 0 f0 rfl
  have h1 := hg 1 f1 rfl
  have h2 := hg 2 f2 rfl
  have h3 := hg 3 f3 rfl
  match xs, hlen with
  | [y0, y1, y2, y3], _ =>
    exact ⟨c0, c1, c2, c3, n, y0, y1, y2, y3, rfl, by simpa [Value.cells, o0, k0] using h0, by simpa [Value.cells, o1, k1] using h1, by simpa [Value.cells, o2, k2] using h2, by simpa [Value.cells, o3, k3] using h3⟩

theorem opened_bool1 {t : TypeId} {n : Nat} {c : Value} {y : DataW H × List MemPlace} {spare : Nat → Bool} (ht : P.underlying t = some .bool) (h : DataW.trod enc P w base spare held n t [c] = some y) : ∃ x, c = .bool x := by
  obtain ⟨x, h1, _⟩ := DataW.trod_bool ht h
  exact ⟨x, by simpa using h1⟩

/-- What the walk is told of a listener that came in. -/
def InAsc (w : World) (a : Option Addr) (l : Nat) (ls wt : Int) (zs : List Int) : Prop :=
  InBys w a l zs ∧ (Lit.int .i64 ls).wf = true ∧ (Lit.int .i64 wt).wf = true

theorem opened_asc {r : Reach} {b0 : Nat} {t i sb u8 tb : TypeId} {f0 f1 f2 f3 : Field} {v : Value} {d : DataW H} {p : List MemPlace} (hs : P.underlying t = some (.struct #[f0, f1, f2, f3])) (hone : oneCellFields P #[f0, f1, f2, f3] = true) (hC : P.cellsOf t = 4)
    (e0 : f0.type = sb) (e1 : f1.type = tb) (e2 : f2.type = i) (e3 : f3.type = i) (hi : P.underlying i = some (.int .i64)) (hsb : P.underlying sb = some (.slice u8)) (hu : P.underlying u8 = some (.int .u8)) (htb : P.underlying tb = some .bool) (hcu : P.cellsOf u8 = 1)
    (hv : Value.okWide P w r b0 t v) (h : DataW.Trod enc P w base (fun _ => true) held t v d p) :
    ∃ a l c op ls wt zs, v = .agg #[.slice a l c, .bool op, .int .i64 ls, .int .i64 wt] ∧ InAsc w a l ls wt zs := by
  obtain ⟨c0, c1, c2, c3, n, y0, y1, y2, y3, rfl, h0, h1, h2, h3⟩ := opened_struct4 hs hone hC hv h
  rw [e0] at h0
  rw [e1] at h1
  rw [e2] at h2
  rw [e3] at h3
  obtain ⟨a, l, c, hcs⟩ := slice_form hsb h0
  simp at hcs
  subst hcs
  obtain ⟨op, rfl⟩ := opened_bool1 htb h1
  obtain ⟨ls, rfl, q2⟩ := opened_int1 hi h2
  obtain ⟨wt, rfl, q3⟩ := opened_int1 hi h3
  obtain ⟨zs, hz⟩ := opened_bys hsb hu hcu h0
  exact ⟨a, l, c, op, ls, wt, zs, rfl, hz, q2, q3⟩
end

end Go.Proofs.Ytmcednhinafpeaa
