/- Settings that came in, opened. -/
import Derived.Test.YtklnfeblkffgiaaDoorArgU
namespace Go.Proofs.YtklnfeblkffgiaaDoor
open Go.ChangeShapes Go.WideShapes Go.ChangeAt Go.RowKit Go.Deep Go.Joins

set_option linter.unusedVariables false

section
variable {H : Type} {enc : TypeId × Value → H} {P : Program} {w : World} {base : Nat} {held : Bool}

theorem array3 {α : Type} {cs : Array α} (h : cs.size = 3) : ∃ c0 c1 c2, cs = #[c0, c1, c2] := by
  obtain ⟨l⟩ := cs
  match l, h with
  | [c0, c1, c2], _ => exact ⟨c0, c1, c2, rfl⟩

theorem opened_cfg {r : Reach} {b0 : Nat} {t i s e : TypeId} {g0 g1 g2 f0 f1 f2 f3 f4 f5 f6 : Field} {v : Value} {d : DataW H} {p : List MemPlace} (hs : P.underlying t = some (.struct #[g0, g1, g2])) (hone : oneCellFields P #[g0, g1, g2] = true) (hC : P.cellsOf t = 3)
    (q0 : g0.type = i) (q1 : g1.type = i) (q2 : g2.type = s) (hi : P.underlying i = some (.int .i64)) (ht : P.underlying s = some (.slice e)) (hc : P.cellsOf e = 7) (hse : P.underlying e = some (.struct #[f0, f1, f2, f3, f4, f5, f6])) (hone' : oneCellFields P #[f0, f1, f2, f3, f4, f5, f6] = true)
    (e0 : f0.type = i) (e1 : f1.type = i) (e2 : f2.type = i) (e3 : f3.type = i) (e4 : f4.type = i) (e5 : f5.type = i) (e6 : f6.type = i)
    (hv : Value.okWide P w r b0 t v) (h : DataW.Trod enc P w base (fun _ => true) held t v d p) :
    ∃ wt tr a len cap f, v = .agg #[.int .i64 wt, .int .i64 tr, .slice a len cap] ∧ InRus w a len f := by
  obtain ⟨cs, rfl, hsz⟩ := okWide_struct hs hv
  obtain ⟨c0, c1, c2, rfl⟩ := array3 (hsz.trans hC)
  obtain ⟨fuel, hf'⟩ := h
  obtain ⟨xs, n, _, hx, hl, hlen, hg⟩ := DataW.trod_struct hs hf'
  obtain ⟨o0, k0⟩ := hone_of hone 0 g0 rfl
  obtain ⟨o1, k1⟩ := hone_of hone 1 g1 rfl
  obtain ⟨o2, k2⟩ := hone_of hone 2 g2 rfl
  have h0 := hg 0 g0 rfl
  have h1 := hg 1 g1 rfl
  have h2 := hg 2 g2 rfl
  match xs, hlen with
  | [y0, y1, y2], _ =>
    obtain ⟨z0, rfl, _⟩ := opened_int1 (c := c0) (y := y0) hi (by rw [← q0]; simpa [Value.cells, o0, k0] using h0)
    obtain ⟨z1, rfl, _⟩ := opened_int1 (c := c1) (y := y1) hi (by rw [← q1]; simpa [Value.cells, o1, k1] using h1)
    have h9 : DataW.trod enc P w base (fun _ => true) held n s [c2] = some y2 := by rw [← q2]; simpa [Value.cells, o2, k2] using h2
    obtain ⟨a, l, c, hcs⟩ := slice_form ht h9
    simp at hcs
    subst hcs
    obtain ⟨f, hf⟩ := opened_rus ht hc hse hone' e0 e1 e2 e3 e4 e5 e6 hi h9
    exact ⟨z0, z1, a, l, c, f, rfl, hf⟩
end

end Go.Proofs.YtklnfeblkffgiaaDoor
