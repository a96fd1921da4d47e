/- Texts that the proof needs, joined. -/
import Derived.Test.YtmbkfoemhnhoiaaArgQ
import Derived.Test.YtmbkfoemhnhoiaaMA
import Derived.Test.YtmbkfoemhnhoiaaMB
namespace Go.Proofs.Ytmbkfoemhnhoiaa
open Go.ChangeShapes Go.WideShapes Go.ChangeAt Go.RowKit Go.Deep Go.Joins

section
variable {H : Type} {enc : TypeId × Value → H} {P : Program} {w : World} {base : Nat} {held : Bool}

theorem array4 {α : Type} {cs : Array α} (h : cs.size = 4) : ∃ c0 c1 c2 c3, cs = #[c0, c1, c2, c3] := by
  obtain ⟨l⟩ := cs
  match l, h with
  | [c0, c1, c2, c3], _ => exact ⟨c0, c1, c2, c3, rfl⟩

/-- A struct of four fields of one cell each, opened. -/
theorem opened_struct4 {r : Reach} {b0 : Nat} {t : TypeId} {f0 f1 f2 f3 : Field} {v : Value} {d : DataW H} {p : List MemPlace} {spare : Nat → Bool} (hs : P.underlying t = some (.struct #[f0, f1, f2, f3])) (hone : oneCellFields P #[f0, f1, f2, f3] = true) (hC : P.cellsOf t = 4)
    (hv : Value.okWide P w r b0 t v) (h : DataW.Trod enc P w base spare held t v d p) :
    ∃ c0 c1 c2 c3 n y0 y1 y2 y3, v = .agg #[c0, c1, c2, c3] ∧ DataW.trod enc P w base spare held n f0.type [c0] = some y0 ∧ DataW.trod enc P w base spare held n f1.type [c1] = some y1 ∧ DataW.trod enc P w base spare held n f2.type [c2] = some y2 ∧ DataW.trod enc P w base spare held n f3.type [c3] = some y3 := by
  obtain ⟨cs, rfl, hsz⟩ := okWide_struct hs hv
  obtain ⟨c0, c1, c2, c3, rfl⟩ := array4 (hsz.trans hC)
  obtain ⟨fuel, hf'⟩ := h
  obtain ⟨xs, n, _, hx, hl, hlen, hg⟩ := DataW.trod_struct hs hf'
  obtain ⟨o0, k0⟩ := hone_of hone 0 f0 rfl
  obtain ⟨o1, k1⟩ := hone_of hone 1 f1 rfl
  obtain ⟨o2, k2⟩ := hone_of hone 2 f2 rfl
  obtain ⟨o3, k3⟩ := hone_of hone 3 f3 rfl
  have h0 := hg 0 f0 rfl
  have h1 := hg 1 f1 rfl
  have h2 := hg 2 f2 rfl
  have h3 := hg 3 f3 rfl
  match xs, hlen with
  | [y0, y1, y2, y3], _ =>
    exact ⟨c0, c1, c2, c3, n, y0, y1, y2, y3, rfl, by simpa [Value.cells, o0, k0] using h0, by simpa [Value.cells, o1, k1] using h1, by simpa [Value.cells, o2, k2] using h2, by simpa [Value.cells, o3, k3] using h3⟩

/-- What the walk is told of a device that came in. -/
def InDev (w : World) (a b c d : Option Addr) (la lb lc ld : Nat) (cs is : List Bool) (hs rs : List Int) : Prop :=
  (InBos w a la cs ∧ la ≤ maxLen) ∧ (InBos w b lb is ∧ lb ≤ maxLen) ∧ InIos w c lc hs ∧ InIos w d ld rs

theorem opened_dev {r : Reach} {b0 : Nat} {t i si sb tb : TypeId} {f0 f1 f2 f3 : Field} {v : Value} {d : DataW H} {p : List MemPlace} (hs : P.underlying t = some (.struct #[f0, f1, f2, f3])) (hone : oneCellFields P #[f0, f1, f2, f3] = true) (hC : P.cellsOf t = 4)
    (e0 : f0.type = sb) (e1 : f1.type = sb) (e2 : f2.type = si) (e3 : f3.type = si) (hi : P.underlying i = some (.int .i64)) (hsi : P.underlying si = some (.slice i)) (hsb : P.underlying sb = some (.slice tb)) (htb : P.underlying tb = some .bool) (hci : P.cellsOf i = 1) (hcb : P.cellsOf tb = 1)
    (hv : Value.okWide P w r b0 t v) (h : DataW.Trod enc P w base (fun _ => true) held t v d p) :
    ∃ xa xb xc xd la ca lb cb lc cc ld cd cs is hs rs, v = .agg #[.slice xa la ca, .slice xb lb cb, .slice xc lc cc, .slice xd ld cd] ∧ InDev w xa xb xc xd la lb lc ld cs is hs rs := by
  obtain ⟨c0, c1, c2, c3, n, y0, y1, y2, y3, rfl, h0, h1, h2, h3⟩ := opened_struct4 hs hone hC hv h
  rw [e0] at h0
  rw [e1] at h1
  rw [e2] at h2
  rw [e3] at h3
  obtain ⟨xa, la, ca, hcs⟩ := slice_form hsb h0
  simp at hcs
  subst hcs
  obtain ⟨xb, lb, cb, hcs⟩ := slice_form hsb h1
  simp at hcs
  subst hcs
  obtain ⟨xc, lc, cc, hcs⟩ := slice_form hsi h2
  simp at hcs
  subst hcs
  obtain ⟨xd, ld, cd, hcs⟩ := slice_form hsi h3
  simp at hcs
  subst hcs
  obtain ⟨⟨cs, hb0⟩, hm0⟩ := opened_bosm hsb htb hcb h0
  obtain ⟨⟨is, hb1⟩, hm1⟩ := opened_bosm hsb htb hcb h1
  obtain ⟨hs', hw2⟩ := opened_ios hsi hi hci h2
  obtain ⟨rs, hw3⟩ := opened_ios hsi hi hci h3
  exact ⟨xa, xb, xc, xd, la, ca, lb, cb, lc, cc, ld, cd, cs, is, hs', rs, rfl, ⟨hb0, hm0⟩, ⟨hb1, hm1⟩, hw2, hw3⟩
end

end Go.Proofs.Ytmbkfoemhnhoiaa

namespace Go.Proofs.Ytmbkfoemhnhoiaa
open Go.RowKit

set_option linter.unusedVariables false

set_option linter.unusedSimpArgs false

theorem one_of {α : Type} {l : List α} (h : l.length = 1) (d : α) : l = [l.getD 0 d] := by
  match l, h with
  | [x], _ => rfl

set_option maxRecDepth 20000 in
set_option maxHeartbeats 400000 in
theorem specServe_q (a1 a2 a3 a4 : Option Addr) (l1 l2 l3 l4 c1 c2 c3 c4 : Nat) (cs is : List Bool) (hs rs : List Int) (kd pl nn wa : Int) (q1 q2 : Option Addr) (m1 m2 k1 k2 : Nat) (ws : List Int) (bs : List Bool) (w : World) (hn : LnD l1 l2 l3 l4 cs is hs rs) (hs0 : SlD w a1 a2 a3 a4 cs is hs rs) (hsm : SmD 2000000 cs is hs rs) (hcap : l1 ≤ c1 ∧ l2 ≤ c2 ∧ l3 ≤ c3 ∧ l4 ≤ c4) (hq : SlI w q1 ws) (hq2 : SlB w q2 bs) (h1 : m1 = ws.length) (h2 : m2 = bs.length) (hl : ws.length ≤ 2000000) (hl2 : bs.length ≤ 2000000) (V : SvR) (hV : svV l1 l2 l3 l4 cs is hs rs kd pl nn wa m1 m2 ws bs = V) :
    Calls Try.prog 20 #[dv a1 a2 a3 a4 l1 l2 l3 l4 c1 c2 c3 c4, rq kd pl nn wa q1 q2 m1 m2 k1 k2] w fun e w' => SR w w' e V.cs is V.hs rs V.kd V.fl V.pl V.nn V.ws V.bs := by
  cases hok : okR kd pl nn wa ws m1 m2
  · obtain rfl : V = ⟨cs, hs, 0, 0, 0, 0, [], []⟩ := by rw [← hV]; unfold svV; rw [if_pos hok]
    cases hd : okD l1 l2 l3 l4 hs rs
    · exact specServe_no2 a1 a2 a3 a4 l1 l2 l3 l4 c1 c2 c3 c4 cs is hs rs kd pl nn wa q1 q2 m1 m2 k1 k2 ws bs w hn hs0 hsm hq hq2 h1 h2 hl hl2 hok hd
    · exact specServe_no1 a1 a2 a3 a4 l1 l2 l3 l4 c1 c2 c3 c4 cs is hs rs kd pl nn wa q1 q2 m1 m2 k1 k2 ws bs w hn hs0 hsm hq hq2 h1 h2 hl hl2 hok hd
  cases hd : okD l1 l2 l3 l4 hs rs
  · obtain rfl : V = ⟨cs, hs, kd, 4, 0, 0, [], []⟩ := by rw [← hV]; unfold svV; rw [hok, if_neg (by decide), if_pos hd]
    exact specServe_dev a1 a2 a3 a4 l1 l2 l3 l4 c1 c2 c3 c4 cs is hs rs kd pl nn wa q1 q2 m1 m2 k1 k2 ws bs w hn hs0 hsm hq hq2 h1 h2 hl hl2 hok hd
  cases ha : svAll l1 l2 l3 l4 kd pl nn wa m1 m2
  · obtain rfl : V = ⟨cs, hs, kd, 2, 0, 0, [], []⟩ := by rw [← hV]; unfold svV; rw [hok, if_neg (by decide), hd, if_neg (by decide), if_pos ha]
    exact specServe_at a1 a2 a3 a4 l1 l2 l3 l4 c1 c2 c3 c4 cs is hs rs kd pl nn wa q1 q2 m1 m2 k1 k2 ws bs w hn hs0 hsm hq hq2 h1 h2 hl hl2 hok hd ha
  have hVd : svDo cs is hs rs kd pl nn wa ws bs = V := by rw [← hV]; unfold svV; rw [hok, if_neg (by decide), hd, if_neg (by decide), ha, if_neg (by decide)]
  have hle := svAll_le ha
  have hlm := okD_len hd
  obtain ⟨hc1, hc2, hc3, hc4⟩ := hcap
  obtain ⟨⟨hp0, hp1⟩, hf⟩ := okR_f hok
  obtain ⟨k, rfl⟩ := Int.eq_ofNat_of_zero_le hp0
  clear hV
  rcases hf with h1 | h2 | h3 | h4 | h5 | h6 | h15 | h16 | h22 | h23
  · obtain ⟨rfl, hN1, hN2, hm1, hm2, rfl⟩ := h1
    obtain ⟨N, rfl⟩ := Int.eq_ofNat_of_zero_le (show 0 ≤ nn by omega)
    obtain rfl : V = ⟨cs, hs, 1, 0, 0, 0, [], tB8 cs k N⟩ := by rw [← hVd]; rfl
    have hle1 := hle.1
    have hle2 := hle.2
    simp [spc0, spcN] at hle1 hle2
    have := specServe_1 a1 a2 a3 a4 l1 l2 l3 l4 c1 c2 c3 c4 cs is hs rs 0 q1 q2 m1 m2 k1 k2 ws bs w hn hs0 hsm hq hq2 h1 h2 hl hl2 k N (by omega) (by omega) hc1 hok hd ha
    exact this
  · obtain ⟨rfl, hN1, hN2, hm1, hm2, rfl⟩ := h2
    obtain ⟨N, rfl⟩ := Int.eq_ofNat_of_zero_le (show 0 ≤ nn by omega)
    obtain rfl : V = ⟨cs, hs, 2, 0, 0, 0, [], tB8 is k N⟩ := by rw [← hVd]; rfl
    have hle1 := hle.1
    have hle2 := hle.2
    simp [spc0, spcN] at hle1 hle2
    have := specServe_2 a1 a2 a3 a4 l1 l2 l3 l4 c1 c2 c3 c4 cs is hs rs 0 q1 q2 m1 m2 k1 k2 ws bs w hn hs0 hsm hq hq2 h1 h2 hl hl2 k N (by omega) (by omega) hc2 hok hd ha
    exact this
  · obtain ⟨rfl, hN1, hN2, hm1, hm2, rfl⟩ := h3
    obtain ⟨N, rfl⟩ := Int.eq_ofNat_of_zero_le (show 0 ≤ nn by omega)
    obtain rfl : V = ⟨cs, hs, 3, 0, 0, 0, (hs.drop k).take N, []⟩ := by rw [← hVd]; rfl
    have hle1 := hle.1
    have hle2 := hle.2
    simp [spc0, spcN] at hle1 hle2
    have := specServe_3 a1 a2 a3 a4 l1 l2 l3 l4 c1 c2 c3 c4 cs is hs rs 0 q1 q2 m1 m2 k1 k2 ws bs w hn hs0 hsm hq hq2 h1 h2 hl hl2 k N (by omega) (by omega) hc3 _ rfl hok hd ha
    exact this
  · obtain ⟨rfl, hN1, hN2, hm1, hm2, rfl⟩ := h4
    obtain ⟨N, rfl⟩ := Int.eq_ofNat_of_zero_le (show 0 ≤ nn by omega)
    obtain rfl : V = ⟨cs, hs, 4, 0, 0, 0, (rs.drop k).take N, []⟩ := by rw [← hVd]; rfl
    have hle1 := hle.1
    have hle2 := hle.2
    simp [spc0, spcN] at hle1 hle2
    have := specServe_4 a1 a2 a3 a4 l1 l2 l3 l4 c1 c2 c3 c4 cs is hs rs 0 q1 q2 m1 m2 k1 k2 ws bs w hn hs0 hsm hq hq2 h1 h2 hl hl2 k N (by omega) (by omega) hc4 _ rfl hok hd ha
    exact this
  · obtain ⟨rfl, rfl, hm1, hm2, rfl⟩ := h5
    obtain rfl : V = ⟨cs.set k (bs.getD 0 false), hs, 5, 0, (k : Int), 0, [], bs⟩ := by rw [← hVd]; rfl
    have hle1 := hle.1
    have hle2 := hle.2
    simp [spc0, spcN] at hle1 hle2
    have := specServe_5 a1 a2 a3 a4 l1 l2 l3 l4 c1 c2 c3 c4 cs is hs rs 0 0 q1 q2 m1 m2 k1 k2 ws bs w hn hs0 hsm hq hq2 h1 h2 hl hl2 k (by omega) hok hd ha
    have e5 : wr cs k bs = cs.set k (bs.getD 0 false) := by rw [one_of (l := bs) (by omega) false]; exact wr_one cs k _ (by obtain ⟨e, _⟩ := hn; omega)
    rw [e5] at this
    exact this
  · obtain ⟨rfl, rfl, hm1, hm2, rfl⟩ := h6
    obtain rfl : V = ⟨cs, hs.set k (ws.getD 0 0), 6, 0, (k : Int), 0, ws, []⟩ := by rw [← hVd]; rfl
    have hle1 := hle.1
    have hle2 := hle.2
    simp [spc0, spcN] at hle1 hle2
    have := specServe_6 a1 a2 a3 a4 l1 l2 l3 l4 c1 c2 c3 c4 cs is hs rs 0 0 q1 q2 m1 m2 k1 k2 ws bs w hn hs0 hsm hq hq2 h1 h2 hl hl2 k (by omega) hok hd ha
    have e5 : wr hs k ws = hs.set k (ws.getD 0 0) := by rw [one_of (l := ws) (by omega) 0]; exact wr_one hs k _ (by obtain ⟨_, _, e, _⟩ := hn; omega)
    rw [e5] at this
    exact this
  · obtain ⟨rfl, rfl, hm1, hm2, hm3, rfl⟩ := h15
    obtain rfl : V = ⟨wr cs k bs, hs, 15, 0, (k : Int), (m2 : Int), [], []⟩ := by rw [← hVd, h2]; rfl
    have hle1 := hle.1
    have hle2 := hle.2
    simp [spc0, spcN] at hle1 hle2
    have := specServe_15 a1 a2 a3 a4 l1 l2 l3 l4 c1 c2 c3 c4 cs is hs rs 0 0 q1 q2 m1 m2 k1 k2 ws bs w hn hs0 hsm hq hq2 h1 h2 hl hl2 k (by omega) hok hd ha
    exact this
  · obtain ⟨rfl, rfl, hm2, hm1, hm3, rfl⟩ := h16
    obtain rfl : V = ⟨cs, wr hs k ws, 16, 0, (k : Int), (m1 : Int), [], []⟩ := by rw [← hVd, h1]; rfl
    have hle1 := hle.1
    have hle2 := hle.2
    simp [spc0, spcN] at hle1 hle2
    have := specServe_16 a1 a2 a3 a4 l1 l2 l3 l4 c1 c2 c3 c4 cs is hs rs 0 0 q1 q2 m1 m2 k1 k2 ws bs w hn hs0 hsm hq hq2 h1 h2 hl hl2 k (by omega) hok hd ha
    exact this
  · obtain ⟨rfl, rfl, hm1, hm2, rfl⟩ := h22
    obtain rfl : V = ⟨cs, hs.set k (mskI (hs.getD k 0) (ws.getD 0 0) (ws.getD 1 0)), 22, 0, (k : Int), 0, ws, []⟩ := by rw [← hVd]; rfl
    have hle1 := hle.1
    have hle2 := hle.2
    simp [spc0, spcN] at hle1 hle2
    have := specServe_22 a1 a2 a3 a4 l1 l2 l3 l4 c1 c2 c3 c4 cs is hs rs 0 0 q1 q2 m1 m2 k1 k2 ws bs w hn hs0 hsm hq hq2 h1 h2 hl hl2 k (by omega) (by omega) _ rfl hok hd ha
    exact this
  · obtain ⟨rfl, hN1, hN2, hm2, hm1, hm3, hw1, hw2⟩ := h23
    obtain ⟨N, rfl⟩ := Int.eq_ofNat_of_zero_le (show 0 ≤ nn by omega)
    obtain ⟨j, rfl⟩ := Int.eq_ofNat_of_zero_le hw1
    obtain rfl : V = ⟨cs, wr hs j ws, 23, 0, 0, 0, ((wr hs j ws).drop k).take N, []⟩ := by rw [← hVd]; rfl
    have hle1 := hle.1
    have hle2 := hle.2
    simp [spc0, spcN] at hle1 hle2
    have := specServe_23 a1 a2 a3 a4 l1 l2 l3 l4 c1 c2 c3 c4 cs is hs rs q1 q2 m1 m2 k1 k2 ws bs w hn hs0 hsm hq hq2 h1 h2 hl hl2 k N j (by omega) (by omega) (by omega) _ rfl hok hd ha
    exact this

end Go.Proofs.Ytmbkfoemhnhoiaa

namespace Go.Proofs.Ytmbkfoemhnhoiaa
open Go.RowKit

set_option linter.unusedVariables false

set_option linter.unusedSimpArgs false

/-- What Serve told, as a value. -/
def SRv (u : World) (B : Nat) (is : List Bool) (rs : List Int) (V : SvR) (v : Value) : Prop :=
  ∃ a1 a2 a3 a4 l1 l2 l3 l4 c1 c2 c3 c4 r1 r2 m1 m2 k1 k2, v = .tuple #[dv a1 a2 a3 a4 l1 l2 l3 l4 c1 c2 c3 c4, rp V.kd V.fl V.pl V.nn r1 r2 m1 m2 k1 k2] ∧ OwnD u B a1 a2 a3 a4 l1 l2 l3 l4 c1 c2 c3 c4 V.cs is V.hs rs ∧ OwnI u B (.slice r1 m1 k1) V.ws ∧ OwnB u B (.slice r2 m2 k2) V.bs ∧
    (∀ g, Of4 (.slice a1 l1 c1) (.slice a2 l2 c2) (.slice a3 l3 c3) (.slice a4 l4 c4) g → ¬ Of2 (.slice r1 m1 k1) (.slice r2 m2 k2) g)

theorem SRv.below {u u' : World} {B : Nat} {is : List Bool} {rs : List Int} {V : SvR} {v : Value} (h : SRv u B is rs V v) (hb : Below u.heap.size u u') : SRv u' B is rs V v := by
  obtain ⟨a1, a2, a3, a4, l1, l2, l3, l4, c1, c2, c3, c4, r1, r2, m1, m2, k1, k2, e, o1, o2, o3, o4⟩ := h
  exact ⟨a1, a2, a3, a4, l1, l2, l3, l4, c1, c2, c3, c4, r1, r2, m1, m2, k1, k2, e, o1.below hb, o2.below hb, o3.below hb, o4⟩

/-- What the two boxes hold behind such a statement. -/
def SRb (u : World) (B B6 B7 : Nat) (is : List Bool) (rs : List Int) (V : SvR) : Prop :=
  ∃ a1 a2 a3 a4 l1 l2 l3 l4 c1 c2 c3 c4 r1 r2 m1 m2 k1 k2, Blk u B6 36 #[.slice a1 l1 c1, .slice a2 l2 c2, .slice a3 l3 c3, .slice a4 l4 c4] ∧ Blk u B7 29 #[.int .i64 V.kd, .int .i64 V.fl, .int .i64 V.pl, .int .i64 V.nn, .slice r1 m1 k1, .slice r2 m2 k2] ∧ OwnD u B a1 a2 a3 a4 l1 l2 l3 l4 c1 c2 c3 c4 V.cs is V.hs rs ∧ OwnI u B (.slice r1 m1 k1) V.ws ∧ OwnB u B (.slice r2 m2 k2) V.bs ∧
    (∀ g, Of4 (.slice a1 l1 c1) (.slice a2 l2 c2) (.slice a3 l3 c3) (.slice a4 l4 c4) g → ¬ Of2 (.slice r1 m1 k1) (.slice r2 m2 k2) g)

theorem blk_neT {u : World} {g g' : Nat} {t t' : TypeId} {c c' : Array Value} (h : Blk u g t c) (h' : Blk u g' t' c') (ht : t ≠ t') : g ≠ g' := by
  intro e
  subst e
  have := h.symm.trans h'
  simp at this
  exact ht this.2

theorem blk_agg {u : World} {B : Nat} {t : TypeId} {cs zs : Array Value} (h : Blk u B t cs) (e : Value.agg cs = .agg zs) : Blk u B t zs := by
  injection e with e
  exact e ▸ h

theorem blk_set4 {u : World} {B : Nat} {t : TypeId} {z0 z1 z2 z3 v0 v1 v2 v3 : Value} (h : Blk u B t #[z0, z1, z2, z3]) : Blk ((((u.setCell ⟨B, 0, none⟩ v0).setCell ⟨B, 1, none⟩ v1).setCell ⟨B, 2, none⟩ v2).setCell ⟨B, 3, none⟩ v3) B t #[v0, v1, v2, v3] :=
  (((h.set 0 v0).set 1 v1).set 2 v2).set 3 v3

theorem blk_set6 {u : World} {B : Nat} {t : TypeId} {z0 z1 z2 z3 z4 z5 v0 v1 v2 v3 v4 v5 : Value} (h : Blk u B t #[z0, z1, z2, z3, z4, z5]) : Blk ((((((u.setCell ⟨B, 0, none⟩ v0).setCell ⟨B, 1, none⟩ v1).setCell ⟨B, 2, none⟩ v2).setCell ⟨B, 3, none⟩ v3).setCell ⟨B, 4, none⟩ v4).setCell ⟨B, 5, none⟩ v5) B t #[v0, v1, v2, v3, v4, v5] :=
  (((((h.set 0 v0).set 1 v1).set 2 v2).set 3 v3).set 4 v4).set 5 v5

end Go.Proofs.Ytmbkfoemhnhoiaa

namespace Go.Proofs.Ytmbkfoemhnhoiaa
open Go.RowKit

set_option linter.unusedVariables false

set_option linter.unusedSimpArgs false

theorem wpAny_inv_at {P : Program} {ops : Array Oper} {Q : Exit → Act → World → Prop} {md : Region.Mode} {a0 : Act} {w0 : World} (Inv : Act → Array Bool → Act → World → Prop)
    (hordB : ordB md ops = true)
    (hend : ∀ l a w, Inv a0 l a w → (∀ i, i < ops.size → l.getD i true = true) → Q .normal a w)
    (hstep : ∀ l a w i o, Inv a0 l a w → ops[i]? = some o → l.getD i true = false → (∀ e ∈ o.after, Region.binds md e = true → l.getD e.on false = true) →
      ∀ K : Act → World → Prop, (∀ a w, Inv a0 (l.setIfInBounds i true) a w → K a w) → if Region.wanted o (yielded ops a.tmps) = true then Oper.wp P o a w K Q else K (a.put o.dst undef) w)
    (fuel : Nat) (l : Array Bool) (hs : l.size = ops.size) (hc : l.toList.count false ≤ fuel) (hI : Inv a0 l a0 w0) : wpAny P md ops Q fuel l a0 w0 :=
  wpAny_inv (Inv a0) hordB hend hstep fuel l a0 w0 hs hc hI

structure RI (W : World) (a1 a2 a3 a4 : Option Addr) (l1 l2 l3 l4 c1 c2 c3 c4 : Nat) (cs is : List Bool) (hs rs : List Int) (kd pl nn wa : Int) (q1 q2 : Option Addr) (m1 m2 k1 k2 : Nat) (ws : List Int) (bs : List Bool) (V : SvR) (b0 b1 b2 b3 b4 b5 b6 b7 b8 b9 b10 b11 : Bool) (tA tB tC tD tS tM tE tF tX tY : Value) (u : World) : Prop where
  bel : Below W.heap.size W u
  f0 : b0 = true → tA = .agg #[.slice a1 l1 c1, .slice a2 l2 c2, .slice a3 l3 c3, .slice a4 l4 c4]
  f1 : b1 = true → ∃ g1 g2 g3 g4, tB = .agg #[.slice (some ⟨g1, 0, none⟩) l1 l1, .slice (some ⟨g2, 0, none⟩) l2 l2, .slice (some ⟨g3, 0, none⟩) l3 l3, .slice (some ⟨g4, 0, none⟩) l4 l4] ∧ OwnD u W.heap.size (some ⟨g1, 0, none⟩) (some ⟨g2, 0, none⟩) (some ⟨g3, 0, none⟩) (some ⟨g4, 0, none⟩) l1 l2 l3 l4 l1 l2 l3 l4 cs is hs rs
  f2 : b2 = true → tC = .agg #[.int .i64 kd, .int .i64 pl, .int .i64 nn, .slice q1 m1 k1, .slice q2 m2 k2, .int .i64 wa]
  f3 : b3 = true → ∃ g5 g6, tD = .agg #[.int .i64 kd, .int .i64 pl, .int .i64 nn, .slice (some ⟨g5, 0, none⟩) m1 m1, .slice (some ⟨g6, 0, none⟩) m2 m2, .int .i64 wa] ∧ OwnI u W.heap.size (.slice (some ⟨g5, 0, none⟩) m1 m1) ws ∧ OwnB u W.heap.size (.slice (some ⟨g6, 0, none⟩) m2 m2) bs
  f4 : b4 = true → SRv u W.heap.size is rs V tS
  f5 : b5 = true → b4 = true ∧ tM = tS
  f6 : b6 = true → b5 = true ∧ ∀ x y, tM = .tuple #[x, y] → tE = x
  f7 : b7 = true → b5 = true ∧ ∀ x y, tM = .tuple #[x, y] → tF = y
  f8 : b8 = true → ∃ B6, tX = .pointer (some ⟨B6, 0, none⟩) ∧ W.heap.size ≤ B6 ∧ (b10 = false → Blk u B6 36 #[.slice none 0 0, .slice none 0 0, .slice none 0 0, .slice none 0 0]) ∧ (b10 = true → ∀ zs, tE = .agg zs → Blk u B6 36 zs)
  f9 : b9 = true → ∃ B7, tY = .pointer (some ⟨B7, 0, none⟩) ∧ W.heap.size ≤ B7 ∧ (b11 = false → Blk u B7 29 #[.int .i64 0, .int .i64 0, .int .i64 0, .int .i64 0, .slice none 0 0, .slice none 0 0]) ∧ (b11 = true → ∀ zs, tF = .agg zs → Blk u B7 29 zs)
  g10 : b10 = true → b8 = true ∧ b6 = true
  g11 : b11 = true → b9 = true ∧ b7 = true

theorem RI.below {W : World} {a1 a2 a3 a4 : Option Addr} {l1 l2 l3 l4 c1 c2 c3 c4 : Nat} {cs is : List Bool} {hs rs : List Int} {kd pl nn wa : Int} {q1 q2 : Option Addr} {m1 m2 k1 k2 : Nat} {ws : List Int} {bs : List Bool} {V : SvR} {b0 b1 b2 b3 b4 b5 b6 b7 b8 b9 b10 b11 : Bool} {tA tB tC tD tS tM tE tF tX tY : Value} {u : World} {u' : World} (F : RI W a1 a2 a3 a4 l1 l2 l3 l4 c1 c2 c3 c4 cs is hs rs kd pl nn wa q1 q2 m1 m2 k1 k2 ws bs V b0 b1 b2 b3 b4 b5 b6 b7 b8 b9 b10 b11 tA tB tC tD tS tM tE tF tX tY u) (hb : Below u.heap.size u u') : RI W a1 a2 a3 a4 l1 l2 l3 l4 c1 c2 c3 c4 cs is hs rs kd pl nn wa q1 q2 m1 m2 k1 k2 ws bs V b0 b1 b2 b3 b4 b5 b6 b7 b8 b9 b10 b11 tA tB tC tD tS tM tE tF tX tY u' where
  bel := bel_next F.bel hb
  f0 := F.f0
  f1 := fun h => by obtain ⟨g1, g2, g3, g4, e, o⟩ := F.f1 h; exact ⟨g1, g2, g3, g4, e, o.below hb⟩
  f2 := F.f2
  f3 := fun h => by obtain ⟨g5, g6, e, o, o'⟩ := F.f3 h; exact ⟨g5, g6, e, o.below hb, o'.below hb⟩
  f4 := fun h => (F.f4 h).below hb
  f5 := F.f5
  f6 := F.f6
  f7 := F.f7
  f8 := fun h => by obtain ⟨B, e, l, z, y⟩ := F.f8 h; exact ⟨B, e, l, fun k => (z k).below hb, fun k zs ez => (y k zs ez).below hb⟩
  f9 := fun h => by obtain ⟨B, e, l, z, y⟩ := F.f9 h; exact ⟨B, e, l, fun k => (z k).below hb, fun k zs ez => (y k zs ez).below hb⟩
  g10 := F.g10
  g11 := F.g11

def putS8 (a : Act) (tA tB tC tD tS tM tE tF tX tY : Value) : Act := ((((((((((a.put (some 28) tA).put (some 29) tB).put (some 30) tC).put (some 31) tD).put (some 32) tS).put (some 27) tM).put (some 33) tE).put (some 34) tF).put (some 6) tX).put (some 7) tY)

def putS35 (a : Act) (tA tB tC tD tS tM tE tF tX tY : Value) : Act := ((((((((((a.put (some 105) tA).put (some 106) tB).put (some 107) tC).put (some 108) tD).put (some 109) tS).put (some 104) tM).put (some 110) tE).put (some 111) tF).put (some 15) tX).put (some 16) tY)

def RInv8 (W : World) (a1 a2 a3 a4 : Option Addr) (l1 l2 l3 l4 c1 c2 c3 c4 : Nat) (cs is : List Bool) (hs rs : List Int) (kd pl nn wa : Int) (q1 q2 : Option Addr) (m1 m2 k1 k2 : Nat) (ws : List Int) (bs : List Bool) (V : SvR) (a0 : Act) (l : Array Bool) (act : Act) (u : World) : Prop :=
  ∃ b0 b1 b2 b3 b4 b5 b6 b7 b8 b9 b10 b11 : Bool, l = #[b0, b1, b2, b3, b4, b5, b6, b7, b8, b9, b10, b11] ∧ ∃ tA tB tC tD tS tM tE tF tX tY : Value, act = putS8 a0 tA tB tC tD tS tM tE tF tX tY ∧ RI W a1 a2 a3 a4 l1 l2 l3 l4 c1 c2 c3 c4 cs is hs rs kd pl nn wa q1 q2 m1 m2 k1 k2 ws bs V b0 b1 b2 b3 b4 b5 b6 b7 b8 b9 b10 b11 tA tB tC tD tS tM tE tF tX tY u

def RInv35 (W : World) (a1 a2 a3 a4 : Option Addr) (l1 l2 l3 l4 c1 c2 c3 c4 : Nat) (cs is : List Bool) (hs rs : List Int) (kd pl nn wa : Int) (q1 q2 : Option Addr) (m1 m2 k1 k2 : Nat) (ws : List Int) (bs : List Bool) (V : SvR) (a0 : Act) (l : Array Bool) (act : Act) (u : World) : Prop :=
  ∃ b0 b1 b2 b3 b4 b5 b6 b7 b8 b9 b10 b11 : Bool, l = #[b0, b1, b2, b3, b4, b5, b6, b7, b8, b9, b10, b11] ∧ ∃ tA tB tC tD tS tM tE tF tX tY : Value, act = putS35 a0 tA tB tC tD tS tM tE tF tX tY ∧ RI W a1 a2 a3 a4 l1 l2 l3 l4 c1 c2 c3 c4 cs is hs rs kd pl nn wa q1 q2 m1 m2 k1 k2 ws bs V b0 b1 b2 b3 b4 b5 b6 b7 b8 b9 b10 b11 tA tB tC tD tS tM tE tF tX tY u

end Go.Proofs.Ytmbkfoemhnhoiaa

namespace Go.Proofs.Ytmbkfoemhnhoiaa
open Go.RowKit

set_option linter.unusedVariables false

set_option linter.unusedSimpArgs false

theorem svV_len {l1 l2 l3 l4 : Nat} {cs is : List Bool} {hs rs : List Int} {kd pl nn wa : Int} {m1 m2 : Nat} {ws : List Int} {bs : List Bool} {V : SvR} (hn : LnD l1 l2 l3 l4 cs is hs rs) (h1 : m1 = ws.length) (h2 : m2 = bs.length) (hV : svV l1 l2 l3 l4 cs is hs rs kd pl nn wa m1 m2 ws bs = V) :
    V.cs.length = cs.length ∧ V.hs.length = hs.length ∧ V.ws.length ≤ ws.length + hs.length + rs.length ∧ V.bs.length ≤ bs.length + 2007 := by
  obtain ⟨e1, e2, e3, e4⟩ := hn
  cases hok : okR kd pl nn wa ws m1 m2
  · obtain rfl : V = ⟨cs, hs, 0, 0, 0, 0, [], []⟩ := by rw [← hV]; unfold svV; rw [if_pos hok]
    exact ⟨rfl, rfl, by simp, by simp⟩
  cases hd : okD l1 l2 l3 l4 hs rs
  · obtain rfl : V = ⟨cs, hs, kd, 4, 0, 0, [], []⟩ := by rw [← hV]; unfold svV; rw [hok, if_neg (by decide), if_pos hd]
    exact ⟨rfl, rfl, by simp, by simp⟩
  cases ha : svAll l1 l2 l3 l4 kd pl nn wa m1 m2
  · obtain rfl : V = ⟨cs, hs, kd, 2, 0, 0, [], []⟩ := by rw [← hV]; unfold svV; rw [hok, if_neg (by decide), hd, if_neg (by decide), if_pos ha]
    exact ⟨rfl, rfl, by simp, by simp⟩
  have hVd : svDo cs is hs rs kd pl nn wa ws bs = V := by rw [← hV]; unfold svV; rw [hok, if_neg (by decide), hd, if_neg (by decide), ha, if_neg (by decide)]
  have hle := svAll_le ha
  obtain ⟨⟨hp0, hp1⟩, hf⟩ := okR_f hok
  obtain ⟨k, rfl⟩ := Int.eq_ofNat_of_zero_le hp0
  clear hV
  rcases hf with h1 | h2 | h3 | h4 | h5 | h6 | h15 | h16 | h22 | h23
  · obtain ⟨rfl, hN1, hN2, hm1, hm2, rfl⟩ := h1
    obtain ⟨N, rfl⟩ := Int.eq_ofNat_of_zero_le (show 0 ≤ nn by omega)
    obtain rfl : V = ⟨cs, hs, 1, 0, 0, 0, [], tB8 cs k N⟩ := by rw [← hVd]; rfl
    have hle1 := hle.1
    have hle2 := hle.2
    simp [spc0, spcN] at hle1 hle2
    exact ⟨rfl, rfl, by simp, by show (tB8 cs k N).length ≤ _; rw [tB8_len cs k N (by omega)]; omega⟩
  · obtain ⟨rfl, hN1, hN2, hm1, hm2, rfl⟩ := h2
    obtain ⟨N, rfl⟩ := Int.eq_ofNat_of_zero_le (show 0 ≤ nn by omega)
    obtain rfl : V = ⟨cs, hs, 2, 0, 0, 0, [], tB8 is k N⟩ := by rw [← hVd]; rfl
    have hle1 := hle.1
    have hle2 := hle.2
    simp [spc0, spcN] at hle1 hle2
    exact ⟨rfl, rfl, by simp, by show (tB8 is k N).length ≤ _; rw [tB8_len is k N (by omega)]; omega⟩
  · obtain ⟨rfl, hN1, hN2, hm1, hm2, rfl⟩ := h3
    obtain ⟨N, rfl⟩ := Int.eq_ofNat_of_zero_le (show 0 ≤ nn by omega)
    obtain rfl : V = ⟨cs, hs, 3, 0, 0, 0, (hs.drop k).take N, []⟩ := by rw [← hVd]; rfl
    have hle1 := hle.1
    have hle2 := hle.2
    simp [spc0, spcN] at hle1 hle2
    exact ⟨rfl, rfl, by show ((hs.drop k).take N).length ≤ _; simp; omega, by simp⟩
  · obtain ⟨rfl, hN1, hN2, hm1, hm2, rfl⟩ := h4
    obtain ⟨N, rfl⟩ := Int.eq_ofNat_of_zero_le (show 0 ≤ nn by omega)
    obtain rfl : V = ⟨cs, hs, 4, 0, 0, 0, (rs.drop k).take N, []⟩ := by rw [← hVd]; rfl
    have hle1 := hle.1
    have hle2 := hle.2
    simp [spc0, spcN] at hle1 hle2
    exact ⟨rfl, rfl, by show ((rs.drop k).take N).length ≤ _; simp; omega, by simp⟩
  · obtain ⟨rfl, rfl, hm1, hm2, rfl⟩ := h5
    obtain rfl : V = ⟨cs.set k (bs.getD 0 false), hs, 5, 0, (k : Int), 0, [], bs⟩ := by rw [← hVd]; rfl
    have hle1 := hle.1
    have hle2 := hle.2
    simp [spc0, spcN] at hle1 hle2
    exact ⟨by simp, rfl, by simp, by show bs.length ≤ _; omega⟩
  · obtain ⟨rfl, rfl, hm1, hm2, rfl⟩ := h6
    obtain rfl : V = ⟨cs, hs.set k (ws.getD 0 0), 6, 0, (k : Int), 0, ws, []⟩ := by rw [← hVd]; rfl
    have hle1 := hle.1
    have hle2 := hle.2
    simp [spc0, spcN] at hle1 hle2
    exact ⟨rfl, by simp, by show ws.length ≤ _; omega, by simp⟩
  · obtain ⟨rfl, rfl, hm1, hm2, hm3, rfl⟩ := h15
    obtain rfl : V = ⟨wr cs k bs, hs, 15, 0, (k : Int), bs.length, [], []⟩ := by rw [← hVd]; rfl
    have hle1 := hle.1
    have hle2 := hle.2
    simp [spc0, spcN] at hle1 hle2
    exact ⟨wr_length cs k bs (by omega), rfl, by simp, by simp⟩
  · obtain ⟨rfl, rfl, hm2, hm1, hm3, rfl⟩ := h16
    obtain rfl : V = ⟨cs, wr hs k ws, 16, 0, (k : Int), ws.length, [], []⟩ := by rw [← hVd]; rfl
    have hle1 := hle.1
    have hle2 := hle.2
    simp [spc0, spcN] at hle1 hle2
    exact ⟨rfl, wr_length hs k ws (by omega), by simp, by simp⟩
  · obtain ⟨rfl, rfl, hm1, hm2, rfl⟩ := h22
    obtain rfl : V = ⟨cs, hs.set k (mskI (hs.getD k 0) (ws.getD 0 0) (ws.getD 1 0)), 22, 0, (k : Int), 0, ws, []⟩ := by rw [← hVd]; rfl
    have hle1 := hle.1
    have hle2 := hle.2
    simp [spc0, spcN] at hle1 hle2
    exact ⟨rfl, by simp, by show ws.length ≤ _; omega, by simp⟩
  · obtain ⟨rfl, hN1, hN2, hm2, hm1, hm3, hw1, hw2⟩ := h23
    obtain ⟨N, rfl⟩ := Int.eq_ofNat_of_zero_le (show 0 ≤ nn by omega)
    obtain ⟨j, rfl⟩ := Int.eq_ofNat_of_zero_le hw1
    obtain rfl : V = ⟨cs, wr hs j ws, 23, 0, 0, 0, ((wr hs j ws).drop k).take N, []⟩ := by rw [← hVd]; rfl
    have hle1 := hle.1
    have hle2 := hle.2
    simp [spc0, spcN] at hle1 hle2
    exact ⟨rfl, wr_length hs j ws (by omega), by show (((wr hs j ws).drop k).take N).length ≤ _; have := wr_length hs j ws (by omega); simp; omega, by simp⟩

theorem noBlk_row {u : World} {B g s n : Nat} {e t : TypeId} {v : Value} {xs : List Value} {cs : Array Value} (h : u.ownsRow B e s v n xs) (hb : Blk u g t cs) (ht : t ≠ e) : ¬ v.ownBlock = some g := by
  intro hv
  obtain ⟨_, h2⟩ := h
  rcases h2 with ⟨rfl, _⟩ | ⟨g', cap, cur, rfl, _, hh, _⟩
  · simp [Value.ownBlock] at hv
  · simp [Value.ownBlock] at hv
    subst hv
    have := hh.symm.trans hb
    simp at this
    exact ht this.2.symm

theorem noBlk2 {u : World} {B g : Nat} {t : TypeId} {cs : Array Value} {v1 v2 : Value} {ws : List Int} {bs : List Bool} (h1 : OwnI u B v1 ws) (h2 : OwnB u B v2 bs) (hb : Blk u g t cs) (ht1 : t ≠ 4) (ht2 : t ≠ 3) : ¬ Of2 v1 v2 g := by
  rintro (h | h)
  · exact noBlk_row h1 hb ht2 h
  · exact noBlk_row h2 hb ht1 h

end Go.Proofs.Ytmbkfoemhnhoiaa
