/- An answer that came in, opened. -/
import Derived.Test.YtgamicfcdkjleaaArgQ
namespace Go.Proofs.Ytgamicfcdkjleaa
open Go.ChangeShapes Go.WideShapes Go.ChangeAt Go.RowKit Go.Deep Go.Joins

section
variable {H : Type} {enc : TypeId × Value → H} {P : Program} {w : World} {base : Nat} {held : Bool}

/-- What the walk is told of an answer that came in. -/
def InResp (w : World) (kd fl pl nn : Int) (a b : Option Addr) (la lb : Nat) (ws : List Int) (bs : List Bool) : Prop :=
  InIos w a la ws ∧ InBos w b lb bs ∧ lb ≤ maxLen ∧ (Lit.int .i64 kd).wf = true ∧ (Lit.int .i64 fl).wf = true ∧ (Lit.int .i64 pl).wf = true ∧ (Lit.int .i64 nn).wf = true

theorem opened_resp {r : Reach} {b0 : Nat} {t i si sb tb : TypeId} {f0 f1 f2 f3 f4 f5 : Field} {v : Value} {d : DataW H} {p : List MemPlace} (hs : P.underlying t = some (.struct #[f0, f1, f2, f3, f4, f5])) (hone : oneCellFields P #[f0, f1, f2, f3, f4, f5] = true) (hC : P.cellsOf t = 6)
    (e0 : f0.type = i) (e1 : f1.type = i) (e2 : f2.type = i) (e3 : f3.type = i) (e4 : f4.type = si) (e5 : f5.type = sb) (hi : P.underlying i = some (.int .i64)) (hsi : P.underlying si = some (.slice i)) (hsb : P.underlying sb = some (.slice tb)) (htb : P.underlying tb = some .bool) (hci : P.cellsOf i = 1) (hcb : P.cellsOf tb = 1)
    (hv : Value.okWide P w r b0 t v) (h : DataW.Trod enc P w base (fun _ => true) held t v d p) :
    ∃ kd fl pl nn a b la ca lb cb ws bs, v = .agg #[.int .i64 kd, .int .i64 fl, .int .i64 pl, .int .i64 nn, .slice a la ca, .slice b lb cb] ∧ InResp w kd fl pl nn a b la lb ws bs := by
  obtain ⟨c0, c1, c2, c3, c4, c5, n, y0, y1, y2, y3, y4, y5, rfl, h0, h1, h2, h3, h4, h5⟩ := opened_struct6 hs hone hC hv h
  rw [e0] at h0
  rw [e1] at h1
  rw [e2] at h2
  rw [e3] at h3
  rw [e4] at h4
  rw [e5] at h5
  obtain ⟨kd, rfl, q0⟩ := opened_int1 hi h0
  obtain ⟨fl, rfl, q1⟩ := opened_int1 hi h1
  obtain ⟨pl, rfl, q2⟩ := opened_int1 hi h2
  obtain ⟨nn, rfl, q5⟩ := opened_int1 hi h3
  obtain ⟨a, la, ca, hcs⟩ := slice_form hsi h4
  simp at hcs
  subst hcs
  obtain ⟨b, lb, cb, hcs⟩ := slice_form hsb h5
  simp at hcs
  subst hcs
  obtain ⟨ws, hw⟩ := opened_ios hsi hi hci h4
  obtain ⟨⟨bs, hb⟩, hm⟩ := opened_bosm hsb htb hcb h5
  exact ⟨kd, fl, pl, nn, a, b, la, ca, lb, cb, ws, bs, rfl, hw, hb, hm, q0, q1, q2, q5⟩
end

end Go.Proofs.Ytgamicfcdkjleaa
