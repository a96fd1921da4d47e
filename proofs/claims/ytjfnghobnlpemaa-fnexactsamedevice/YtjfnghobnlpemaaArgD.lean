/- A device that came in, opened. -/
import Derived.Test.YtjfnghobnlpemaaArgQ
namespace Go.Proofs.Ytjfnghobnlpemaa
open Go.ChangeShapes Go.WideShapes Go.ChangeAt Go.RowKit Go.Deep Go.Joins

section
variable {H : Type} {enc : TypeId × Value → H} {P : Program} {w : World} {base : Nat} {held : Bool}

theorem array4 {α : Type} {cs : Array α} (h : cs.size = 4) : ∃ c0 c1 c2 c3, cs = #[c0, c1, c2, c3] := by
  obtain ⟨l⟩ := cs
  match l, h with
  | [c0, c1, c2, c3], _ => exact ⟨c0, c1, c2, c3, rfl⟩

/-- A struct of four fields of one cell each, opened. -/
theorem opened_struct4 {r : Reach} {b0 : Nat} {t : TypeId} {f0 f1 f2 f3 : Field} {v : Value} {d : DataW H} {p : List MemPlace} {spare : Nat → Bool} (hs : P.underlying t = some (.struct #[f0, f1, f2, f3])) (hone : oneCellFields P #[f0, f1, f2, f3] = true) (hC : P.cellsOf t = 4)
    (hv : Value.okWide P w r b0 t v) (h : DataW.Trod enc P w base spare held t v d p) :
    ∃ c0 c1 c2 c3 n y0 y1 y2 y3, v = .agg #[c0, c1, c2, c3] ∧ DataW.trod enc P w base spare held n f0.type [c0] = some y0 ∧ DataW.trod enc P w base spare held n f1.type [c1] = some y1 ∧ DataW.trod enc P w base spare held n f2.type [c2] = some y2 ∧ DataW.trod enc P w base spare held n f3.type [c3] = some y3 := by
  obtain ⟨cs, rfl, hsz⟩ := okWide_struct hs hv
  obtain ⟨c0, c1, c2, c3, rfl⟩ := array4 (hsz.trans hC)
  obtain ⟨fuel, hf'⟩ := h
  obtain ⟨xs, n, _, hx, hl, hlen, hg⟩ := DataW.trod_struct hs hf'
  obtain ⟨o0, k0⟩ := hone_of hone 0 f0 rfl
  obtain ⟨o1, k1⟩ := hone_of hone 1 f1 rfl
  obtain ⟨o2, k2⟩ := hone_of hone 2 f2 rfl
  obtain ⟨o3, k3⟩ := hone_of hone 3 f3 rfl
  have h0 := hg 0 f0 rfl
  have h1 := hg 1 f1 rfl
  have h2 := hg 2 f2 rfl
  have h3 := hg 3 f3 rfl
  match xs, hlen with
  | [y0, y1, y2, y3], _ =>
    exact ⟨c0, c1, c2, c3, n, y0, y1, y2, y3, rfl, by simpa [Value.cells, o0, k0] using h0, by simpa [Value.cells, o1, k1] using h1, by simpa [Value.cells, o2, k2] using h2, by simpa [Value.cells, o3, k3] using h3⟩

/-- What the walk is told of a device that came in. -/
def InDev (w : World) (a b c d : Option Addr) (la lb lc ld : Nat) (cs is : List Bool) (hs rs : List Int) : Prop :=
  (InBos w a la cs ∧ la ≤ maxLen) ∧ (InBos w b lb is ∧ lb ≤ maxLen) ∧ InIos w c lc hs ∧ InIos w d ld rs

theorem opened_dev {r : Reach} {b0 : Nat} {t i si sb tb : TypeId} {f0 f1 f2 f3 : Field} {v : Value} {d : DataW H} {p : List MemPlace} (hs : P.underlying t = some (.struct #[f0, f1, f2, f3])) (hone : oneCellFields P #[f0, f1, f2, f3] = true) (hC : P.cellsOf t = 4)
    (e0 : f0.type = sb) (e1 : f1.type = sb) (e2 : f2.type = si) (e3 : f3.type = si) (hi : P.underlying i = some (.int .i64)) (hsi : P.underlying si = some (.slice i)) (hsb : P.underlying sb = some (.slice tb)) (htb : P.underlying tb = some .bool) (hci : P.cellsOf i = 1) (hcb : P.cellsOf tb = 1)
    (hv : Value.okWide P w r b0 t v) (h : DataW.Trod enc P w base (fun _ => true) held t v d p) :
    ∃ xa xb xc xd la ca lb cb lc cc ld cd cs is hs rs, v = .agg #[.slice xa la ca, .slice xb lb cb, .slice xc lc cc, .slice xd ld cd] ∧ InDev w xa xb xc xd la lb lc ld cs is hs rs := by
  obtain ⟨c0, c1, c2, c3, n, y0, y1, y2, y3, rfl, h0, h1, h2, h3⟩ := opened_struct4 hs hone hC hv h
  rw [e0] at h0
  rw [e1] at h1
  rw [e2] at h2
  rw [e3] at h3
  obtain ⟨xa, la, ca, hcs⟩ := slice_form hsb h0
  simp at hcs
  subst hcs
  obtain ⟨xb, lb, cb, hcs⟩ := slice_form hsb h1
  simp at hcs
  subst hcs
  obtain ⟨xc, lc, cc, hcs⟩ := slice_form hsi h2
  simp at hcs
  subst hcs
  obtain ⟨xd, ld, cd, hcs⟩ := slice_form hsi h3
  simp at hcs
  subst hcs
  obtain ⟨⟨cs, hb0⟩, hm0⟩ := opened_bosm hsb htb hcb h0
  obtain ⟨⟨is, hb1⟩, hm1⟩ := opened_bosm hsb htb hcb h1
  obtain ⟨hs', hw2⟩ := opened_ios hsi hi hci h2
  obtain ⟨rs, hw3⟩ := opened_ios hsi hi hci h3
  exact ⟨xa, xb, xc, xd, la, ca, lb, cb, lc, cc, ld, cd, cs, is, hs', rs, rfl, ⟨hb0, hm0⟩, ⟨hb1, hm1⟩, hw2, hw3⟩
end

end Go.Proofs.Ytjfnghobnlpemaa
