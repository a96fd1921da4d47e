/- Texts that the proof needs, joined. -/
import Derived.Test.YtfcbkollmhjdoaaVBm
import Derived.Test.YtfcbkollmhjdoaaVCmm
import Derived.Test.YtfcbkollmhjdoaaIos
import Derived.Test.YtfcbkollmhjdoaaArgS
import Derived.Test.YtfcbkollmhjdoaaVA
import Derived.Test.YtfcbkollmhjdoaaVE
import Derived.Deep.RegionHeld3
import Derived.Deep.QuietTactic
import Derived.BigQuiet
namespace Go.Proofs.Ytfcbkollmhjdoaa
open Go.RowKit

set_option linter.unusedVariables false

set_option linter.unusedSimpArgs false

theorem one_of {α : Type} {l : List α} (h : l.length = 1) (d : α) : l = [l.getD 0 d] := by
  match l, h with
  | [x], _ => rfl

set_option maxRecDepth 20000 in
set_option maxHeartbeats 400000 in
theorem specServe_q (a1 a2 a3 a4 : Option Addr) (l1 l2 l3 l4 c1 c2 c3 c4 : Nat) (cs is : List Bool) (hs rs : List Int) (kd pl nn wa : Int) (q1 q2 : Option Addr) (m1 m2 k1 k2 : Nat) (ws : List Int) (bs : List Bool) (w : World) (hn : LnD l1 l2 l3 l4 cs is hs rs) (hs0 : SlD w a1 a2 a3 a4 cs is hs rs) (hsm : SmD 2000000 cs is hs rs) (hcap : l1 ≤ c1 ∧ l2 ≤ c2 ∧ l3 ≤ c3 ∧ l4 ≤ c4) (hq : SlI w q1 ws) (hq2 : SlB w q2 bs) (h1 : m1 = ws.length) (h2 : m2 = bs.length) (hl : ws.length ≤ 2000000) (hl2 : bs.length ≤ 2000000) (V : SvR) (hV : svV l1 l2 l3 l4 cs is hs rs kd pl nn wa m1 m2 ws bs = V) :
    Calls Try.prog 19 #[dv a1 a2 a3 a4 l1 l2 l3 l4 c1 c2 c3 c4, rq kd pl nn wa q1 q2 m1 m2 k1 k2] w fun e w' => SR w w' e V.cs is V.hs rs V.kd V.fl V.pl V.nn V.ws V.bs := by
  cases hok : okR kd pl nn wa ws m1 m2
  · obtain rfl : V = ⟨cs, hs, 0, 0, 0, 0, [], []⟩ := by rw [← hV]; unfold svV; rw [if_pos hok]
    cases hd : okD l1 l2 l3 l4 hs rs
    · exact specServe_no2 a1 a2 a3 a4 l1 l2 l3 l4 c1 c2 c3 c4 cs is hs rs kd pl nn wa q1 q2 m1 m2 k1 k2 ws bs w hn hs0 hsm hq hq2 h1 h2 hl hl2 hok hd
    · exact specServe_no1 a1 a2 a3 a4 l1 l2 l3 l4 c1 c2 c3 c4 cs is hs rs kd pl nn wa q1 q2 m1 m2 k1 k2 ws bs w hn hs0 hsm hq hq2 h1 h2 hl hl2 hok hd
  cases hd : okD l1 l2 l3 l4 hs rs
  · obtain rfl : V = ⟨cs, hs, kd, 4, 0, 0, [], []⟩ := by rw [← hV]; unfold svV; rw [hok, if_neg (by decide), if_pos hd]
    exact specServe_dev a1 a2 a3 a4 l1 l2 l3 l4 c1 c2 c3 c4 cs is hs rs kd pl nn wa q1 q2 m1 m2 k1 k2 ws bs w hn hs0 hsm hq hq2 h1 h2 hl hl2 hok hd
  cases ha : svAll l1 l2 l3 l4 kd pl nn wa m1 m2
  · obtain rfl : V = ⟨cs, hs, kd, 2, 0, 0, [], []⟩ := by rw [← hV]; unfold svV; rw [hok, if_neg (by decide), hd, if_neg (by decide), if_pos ha]
    exact specServe_at a1 a2 a3 a4 l1 l2 l3 l4 c1 c2 c3 c4 cs is hs rs kd pl nn wa q1 q2 m1 m2 k1 k2 ws bs w hn hs0 hsm hq hq2 h1 h2 hl hl2 hok hd ha
  have hVd : svDo cs is hs rs kd pl nn wa ws bs = V := by rw [← hV]; unfold svV; rw [hok, if_neg (by decide), hd, if_neg (by decide), ha, if_neg (by decide)]
  have hle := svAll_le ha
  have hlm := okD_len hd
  obtain ⟨hc1, hc2, hc3, hc4⟩ := hcap
  obtain ⟨⟨hp0, hp1⟩, hf⟩ := okR_f hok
  obtain ⟨k, rfl⟩ := Int.eq_ofNat_of_zero_le hp0
  clear hV
  rcases hf with h1 | h2 | h3 | h4 | h5 | h6 | h15 | h16 | h22 | h23
  · obtain ⟨rfl, hN1, hN2, hm1, hm2, rfl⟩ := h1
    obtain ⟨N, rfl⟩ := Int.eq_ofNat_of_zero_le (show 0 ≤ nn by omega)
    obtain rfl : V = ⟨cs, hs, 1, 0, 0, 0, [], tB8 cs k N⟩ := by rw [← hVd]; rfl
    have hle1 := hle.1
    have hle2 := hle.2
    simp [spc0, spcN] at hle1 hle2
    have := specServe_1 a1 a2 a3 a4 l1 l2 l3 l4 c1 c2 c3 c4 cs is hs rs 0 q1 q2 m1 m2 k1 k2 ws bs w hn hs0 hsm hq hq2 h1 h2 hl hl2 k N (by omega) (by omega) hc1 hok hd ha
    exact this
  · obtain ⟨rfl, hN1, hN2, hm1, hm2, rfl⟩ := h2
    obtain ⟨N, rfl⟩ := Int.eq_ofNat_of_zero_le (show 0 ≤ nn by omega)
    obtain rfl : V = ⟨cs, hs, 2, 0, 0, 0, [], tB8 is k N⟩ := by rw [← hVd]; rfl
    have hle1 := hle.1
    have hle2 := hle.2
    simp [spc0, spcN] at hle1 hle2
    have := specServe_2 a1 a2 a3 a4 l1 l2 l3 l4 c1 c2 c3 c4 cs is hs rs 0 q1 q2 m1 m2 k1 k2 ws bs w hn hs0 hsm hq hq2 h1 h2 hl hl2 k N (by omega) (by omega) hc2 hok hd ha
    exact this
  · obtain ⟨rfl, hN1, hN2, hm1, hm2, rfl⟩ := h3
    obtain ⟨N, rfl⟩ := Int.eq_ofNat_of_zero_le (show 0 ≤ nn by omega)
    obtain rfl : V = ⟨cs, hs, 3, 0, 0, 0, (hs.drop k).take N, []⟩ := by rw [← hVd]; rfl
    have hle1 := hle.1
    have hle2 := hle.2
    simp [spc0, spcN] at hle1 hle2
    have := specServe_3 a1 a2 a3 a4 l1 l2 l3 l4 c1 c2 c3 c4 cs is hs rs 0 q1 q2 m1 m2 k1 k2 ws bs w hn hs0 hsm hq hq2 h1 h2 hl hl2 k N (by omega) (by omega) hc3 _ rfl hok hd ha
    exact this
  · obtain ⟨rfl, hN1, hN2, hm1, hm2, rfl⟩ := h4
    obtain ⟨N, rfl⟩ := Int.eq_ofNat_of_zero_le (show 0 ≤ nn by omega)
    obtain rfl : V = ⟨cs, hs, 4, 0, 0, 0, (rs.drop k).take N, []⟩ := by rw [← hVd]; rfl
    have hle1 := hle.1
    have hle2 := hle.2
    simp [spc0, spcN] at hle1 hle2
    have := specServe_4 a1 a2 a3 a4 l1 l2 l3 l4 c1 c2 c3 c4 cs is hs rs 0 q1 q2 m1 m2 k1 k2 ws bs w hn hs0 hsm hq hq2 h1 h2 hl hl2 k N (by omega) (by omega) hc4 _ rfl hok hd ha
    exact this
  · obtain ⟨rfl, rfl, hm1, hm2, rfl⟩ := h5
    obtain rfl : V = ⟨cs.set k (bs.getD 0 false), hs, 5, 0, (k : Int), 0, [], bs⟩ := by rw [← hVd]; rfl
    have hle1 := hle.1
    have hle2 := hle.2
    simp [spc0, spcN] at hle1 hle2
    have := specServe_5 a1 a2 a3 a4 l1 l2 l3 l4 c1 c2 c3 c4 cs is hs rs 0 0 q1 q2 m1 m2 k1 k2 ws bs w hn hs0 hsm hq hq2 h1 h2 hl hl2 k (by omega) hok hd ha
    have e5 : wr cs k bs = cs.set k (bs.getD 0 false) := by rw [one_of (l := bs) (by omega) false]; exact wr_one cs k _ (by obtain ⟨e, _⟩ := hn; omega)
    rw [e5] at this
    exact this
  · obtain ⟨rfl, rfl, hm1, hm2, rfl⟩ := h6
    obtain rfl : V = ⟨cs, hs.set k (ws.getD 0 0), 6, 0, (k : Int), 0, ws, []⟩ := by rw [← hVd]; rfl
    have hle1 := hle.1
    have hle2 := hle.2
    simp [spc0, spcN] at hle1 hle2
    have := specServe_6 a1 a2 a3 a4 l1 l2 l3 l4 c1 c2 c3 c4 cs is hs rs 0 0 q1 q2 m1 m2 k1 k2 ws bs w hn hs0 hsm hq hq2 h1 h2 hl hl2 k (by omega) hok hd ha
    have e5 : wr hs k ws = hs.set k (ws.getD 0 0) := by rw [one_of (l := ws) (by omega) 0]; exact wr_one hs k _ (by obtain ⟨_, _, e, _⟩ := hn; omega)
    rw [e5] at this
    exact this
  · obtain ⟨rfl, rfl, hm1, hm2, hm3, rfl⟩ := h15
    obtain rfl : V = ⟨wr cs k bs, hs, 15, 0, (k : Int), (m2 : Int), [], []⟩ := by rw [← hVd, h2]; rfl
    have hle1 := hle.1
    have hle2 := hle.2
    simp [spc0, spcN] at hle1 hle2
    have := specServe_15 a1 a2 a3 a4 l1 l2 l3 l4 c1 c2 c3 c4 cs is hs rs 0 0 q1 q2 m1 m2 k1 k2 ws bs w hn hs0 hsm hq hq2 h1 h2 hl hl2 k (by omega) hok hd ha
    exact this
  · obtain ⟨rfl, rfl, hm2, hm1, hm3, rfl⟩ := h16
    obtain rfl : V = ⟨cs, wr hs k ws, 16, 0, (k : Int), (m1 : Int), [], []⟩ := by rw [← hVd, h1]; rfl
    have hle1 := hle.1
    have hle2 := hle.2
    simp [spc0, spcN] at hle1 hle2
    have := specServe_16 a1 a2 a3 a4 l1 l2 l3 l4 c1 c2 c3 c4 cs is hs rs 0 0 q1 q2 m1 m2 k1 k2 ws bs w hn hs0 hsm hq hq2 h1 h2 hl hl2 k (by omega) hok hd ha
    exact this
  · obtain ⟨rfl, rfl, hm1, hm2, rfl⟩ := h22
    obtain rfl : V = ⟨cs, hs.set k (mskI (hs.getD k 0) (ws.getD 0 0) (ws.getD 1 0)), 22, 0, (k : Int), 0, ws, []⟩ := by rw [← hVd]; rfl
    have hle1 := hle.1
    have hle2 := hle.2
    simp [spc0, spcN] at hle1 hle2
    have := specServe_22 a1 a2 a3 a4 l1 l2 l3 l4 c1 c2 c3 c4 cs is hs rs 0 0 q1 q2 m1 m2 k1 k2 ws bs w hn hs0 hsm hq hq2 h1 h2 hl hl2 k (by omega) (by omega) _ rfl hok hd ha
    exact this
  · obtain ⟨rfl, hN1, hN2, hm2, hm1, hm3, hw1, hw2⟩ := h23
    obtain ⟨N, rfl⟩ := Int.eq_ofNat_of_zero_le (show 0 ≤ nn by omega)
    obtain ⟨j, rfl⟩ := Int.eq_ofNat_of_zero_le hw1
    obtain rfl : V = ⟨cs, wr hs j ws, 23, 0, 0, 0, ((wr hs j ws).drop k).take N, []⟩ := by rw [← hVd]; rfl
    have hle1 := hle.1
    have hle2 := hle.2
    simp [spc0, spcN] at hle1 hle2
    have := specServe_23 a1 a2 a3 a4 l1 l2 l3 l4 c1 c2 c3 c4 cs is hs rs q1 q2 m1 m2 k1 k2 ws bs w hn hs0 hsm hq hq2 h1 h2 hl hl2 k N j (by omega) (by omega) (by omega) _ rfl hok hd ha
    exact this

end Go.Proofs.Ytfcbkollmhjdoaa

namespace Go.Proofs.Ytfcbkollmhjdoaa
open Go.ChangeShapes Go.WideShapes Go.ChangeAt Go.RowKit Go.Deep Go.Joins

/-- What the walk is told of a slice of ints that came in: its elements. -/
def InIos (w : World) (a : Option Addr) (len : Nat) (zs : List Int) : Prop := zs.length = len ∧ len ≤ maxLen ∧ SlI w a zs ∧ ∀ n ∈ zs, -9223372036854775808 ≤ n ∧ n ≤ 9223372036854775807

theorem inIos_of {w : World} {x : Addr} {len cap : Nat} {z : List Int} (hl : len ≤ cap) (hm : cap ≤ maxLen) (hz : z.length = cap) (hcell : ∀ i, i < z.length → w.cell? (x.add i) = some (.int .i64 (z.getD i 0)))
    (hwz : ∀ n ∈ z, (Lit.int .i64 n).wf = true) : ∃ zs : List Int, InIos w (some x) len zs := by
  refine ⟨z.take len, by simp; omega, by omega, ?_, fun n hn => bounds_i64 (hwz n (List.mem_of_mem_take hn))⟩
  by_cases h0 : len = 0
  · subst h0; exact .inl (by simp)
  · obtain ⟨b, off, spot⟩ := x
    have hc := hcell 0 (by omega)
    have hspot : spot = none := by simpa [Addr.add] using World.cell?_spot hc
    subst hspot
    refine .inr ⟨b, off, rfl, World.block_lt_of_cell? _ _ hc, fun i hi => ?_⟩
    simp only [List.length_take] at hi
    have := hcell i (by omega)
    rw [List.getD_eq_getElem?_getD, List.getElem?_take, if_pos (by omega), ← List.getD_eq_getElem?_getD]
    by_cases e : i = 0
    · subst e; simpa [Addr.add] using this
    · simpa [Addr.add, e] using this

section
variable {H : Type} {enc : TypeId × Value → H} {P : Program} {w : World} {base : Nat} {held : Bool}

theorem opened_ios {t e : TypeId} {fuel : Nat} {a : Option Addr} {len cap : Nat} {x : DataW H × List MemPlace} (ht : P.underlying t = some (.slice e)) (he : P.underlying e = some (.int .i64)) (hc : P.cellsOf e = 1)
    (hf : DataW.trod enc P w base (fun _ => true) held fuel t [.slice a len cap] = some x) : ∃ zs : List Int, InIos w a len zs := by
  rcases open_ints ht he hc hf with ⟨hcs, _⟩ | ⟨x, l, c, zs, hcs, _, hl, hm, hz, _, hcell, hwz⟩
  · simp at hcs
    obtain ⟨rfl, rfl, rfl⟩ := hcs
    exact ⟨[], rfl, Nat.zero_le _, .inl rfl, fun n hn => by cases hn⟩
  · simp at hcs
    obtain ⟨rfl, rfl, rfl⟩ := hcs
    exact inIos_of hl hm (by simpa using hz) hcell hwz

theorem opened_bosm {t e : TypeId} {fuel : Nat} {a : Option Addr} {len cap : Nat} {x : DataW H × List MemPlace} (ht : P.underlying t = some (.slice e)) (he : P.underlying e = some .bool) (hc : P.cellsOf e = 1)
    (hf : DataW.trod enc P w base (fun _ => true) held fuel t [.slice a len cap] = some x) : (∃ zs : List Bool, InBos w a len zs) ∧ len ≤ maxLen := by
  refine ⟨opened_bos ht he hc hf, ?_⟩
  rcases open_bools ht he hc hf with ⟨hcs, _⟩ | ⟨x, l, c, B, hcs, _, hl, hm, _, hcell⟩
  · simp at hcs
    obtain ⟨rfl, rfl, rfl⟩ := hcs
    exact Nat.zero_le _
  · simp at hcs
    obtain ⟨rfl, rfl, rfl⟩ := hcs
    omega

theorem array6 {α : Type} {cs : Array α} (h : cs.size = 6) : ∃ c0 c1 c2 c3 c4 c5, cs = #[c0, c1, c2, c3, c4, c5] := by
  obtain ⟨l⟩ := cs
  match l, h with
  | [c0, c1, c2, c3, c4, c5], _ => exact ⟨c0, c1, c2, c3, c4, c5, rfl⟩

/-- A struct of six fields of one cell each, opened. -/
theorem opened_struct6 {r : Reach} {b0 : Nat} {t : TypeId} {f0 f1 f2 f3 f4 f5 : Field} {v : Value} {d : DataW H} {p : List MemPlace} {spare : Nat → Bool} (hs : P.underlying t = some (.struct #[f0, f1, f2, f3, f4, f5])) (hone : oneCellFields P #[f0, f1, f2, f3, f4, f5] = true) (hC : P.cellsOf t = 6)
    (hv : Value.okWide P w r b0 t v) (h : DataW.Trod enc P w base spare held t v d p) :
    ∃ c0 c1 c2 c3 c4 c5 n y0 y1 y2 y3 y4 y5, v = .agg #[c0, c1, c2, c3, c4, c5] ∧ DataW.trod enc P w base spare held n f0.type [c0] = some y0 ∧ DataW.trod enc P w base spare held n f1.type [c1] = some y1 ∧ DataW.trod enc P w base spare held n f2.type [c2] = some y2 ∧
      DataW.trod enc P w base spare held n f3.type [c3] = some y3 ∧ DataW.trod enc P w base spare held n f4.type [c4] = some y4 ∧ DataW.trod enc P w base spare held n f5.type [c5] = some y5 := by
  obtain ⟨cs, rfl, hsz⟩ := okWide_struct hs hv
  obtain ⟨c0, c1, c2, c3, c4, c5, rfl⟩ := array6 (hsz.trans hC)
  obtain ⟨fuel, hf'⟩ := h
  obtain ⟨xs, n, _, hx, hl, hlen, hg⟩ := DataW.trod_struct hs hf'
  obtain ⟨o0, k0⟩ := hone_of hone 0 f0 rfl
  obtain ⟨o1, k1⟩ := hone_of hone 1 f1 rfl
  obtain ⟨o2, k2⟩ := hone_of hone 2 f2 rfl
  obtain ⟨o3, k3⟩ := hone_of hone 3 f3 rfl
  obtain ⟨o4, k4⟩ := hone_of hone 4 f4 rfl
  obtain ⟨o5, k5⟩ := hone_of hone 5 f5 rfl
  have h0 := hg 0 f0 rfl
  have h1 := hg 1 f1 rfl
  have h2 := hg 2 f2 rfl
  have h3 := hg 3 f3 rfl
  have h4 := hg 4 f4 rfl
  have h5 := hg 5 f5 rfl
  match xs, hlen with
  | [y0, y1, y2, y3, y4, y5], _ =>
    exact ⟨c0, c1, c2, c3, c4, c5, n, y0, y1, y2, y3, y4, y5, rfl, by simpa [Value.cells, o0, k0] using h0, by simpa [Value.cells, o1, k1] using h1, by simpa [Value.cells, o2, k2] using h2, by simpa [Value.cells, o3, k3] using h3, by simpa [Value.cells, o4, k4] using h4, by simpa [Value.cells, o5, k5] using h5⟩

theorem opened_int1 {t : TypeId} {k : IntKind} {n : Nat} {c : Value} {y : DataW H × List MemPlace} {spare : Nat → Bool} (ht : P.underlying t = some (.int k)) (h : DataW.trod enc P w base spare held n t [c] = some y) : ∃ x, c = .int k x ∧ (Lit.int k x).wf = true := by
  obtain ⟨x, h1, h2, h3⟩ := DataW.trod_int ht h
  exact ⟨x, by simpa using h1, by first | exact h2 | exact h3⟩

/-- What the walk is told of a question that came in. -/
def InReq (w : World) (kd pl nn wa : Int) (a b : Option Addr) (la lb : Nat) (ws : List Int) (bs : List Bool) : Prop :=
  InIos w a la ws ∧ InBos w b lb bs ∧ lb ≤ maxLen ∧ (Lit.int .i64 kd).wf = true ∧ (Lit.int .i64 pl).wf = true ∧ (Lit.int .i64 nn).wf = true ∧ (Lit.int .i64 wa).wf = true

theorem opened_req {r : Reach} {b0 : Nat} {t i si sb tb : TypeId} {f0 f1 f2 f3 f4 f5 : Field} {v : Value} {d : DataW H} {p : List MemPlace} (hs : P.underlying t = some (.struct #[f0, f1, f2, f3, f4, f5])) (hone : oneCellFields P #[f0, f1, f2, f3, f4, f5] = true) (hC : P.cellsOf t = 6)
    (e0 : f0.type = i) (e1 : f1.type = i) (e2 : f2.type = i) (e3 : f3.type = si) (e4 : f4.type = sb) (e5 : f5.type = i) (hi : P.underlying i = some (.int .i64)) (hsi : P.underlying si = some (.slice i)) (hsb : P.underlying sb = some (.slice tb)) (htb : P.underlying tb = some .bool) (hci : P.cellsOf i = 1) (hcb : P.cellsOf tb = 1)
    (hv : Value.okWide P w r b0 t v) (h : DataW.Trod enc P w base (fun _ => true) held t v d p) :
    ∃ kd pl nn wa a b la ca lb cb ws bs, v = .agg #[.int .i64 kd, .int .i64 pl, .int .i64 nn, .slice a la ca, .slice b lb cb, .int .i64 wa] ∧ InReq w kd pl nn wa a b la lb ws bs := by
  obtain ⟨c0, c1, c2, c3, c4, c5, n, y0, y1, y2, y3, y4, y5, rfl, h0, h1, h2, h3, h4, h5⟩ := opened_struct6 hs hone hC hv h
  rw [e0] at h0
  rw [e1] at h1
  rw [e2] at h2
  rw [e3] at h3
  rw [e4] at h4
  rw [e5] at h5
  obtain ⟨kd, rfl, q0⟩ := opened_int1 hi h0
  obtain ⟨pl, rfl, q1⟩ := opened_int1 hi h1
  obtain ⟨nn, rfl, q2⟩ := opened_int1 hi h2
  obtain ⟨wa, rfl, q5⟩ := opened_int1 hi h5
  obtain ⟨a, la, ca, hcs⟩ := slice_form hsi h3
  simp at hcs
  subst hcs
  obtain ⟨b, lb, cb, hcs⟩ := slice_form hsb h4
  simp at hcs
  subst hcs
  obtain ⟨ws, hw⟩ := opened_ios hsi hi hci h3
  obtain ⟨⟨bs, hb⟩, hm⟩ := opened_bosm hsb htb hcb h4
  exact ⟨kd, pl, nn, wa, a, b, la, ca, lb, cb, ws, bs, rfl, hw, hb, hm, q0, q1, q2, q5⟩
end

end Go.Proofs.Ytfcbkollmhjdoaa

namespace Go.Proofs.Ytfcbkollmhjdoaa
open Go.ChangeShapes Go.WideShapes Go.ChangeAt Go.RowKit Go.Deep Go.Joins

section
variable {H : Type} {enc : TypeId × Value → H} {P : Program} {w : World} {base : Nat} {held : Bool}

theorem array4 {α : Type} {cs : Array α} (h : cs.size = 4) : ∃ c0 c1 c2 c3, cs = #[c0, c1, c2, c3] := by
  obtain ⟨l⟩ := cs
  match l, h with
  | [c0, c1, c2, c3], _ => exact ⟨c0, c1, c2, c3, rfl⟩

/-- A struct of four fields of one cell each, opened. -/
theorem opened_struct4 {r : Reach} {b0 : Nat} {t : TypeId} {f0 f1 f2 f3 : Field} {v : Value} {d : DataW H} {p : List MemPlace} {spare : Nat → Bool} (hs : P.underlying t = some (.struct #[f0, f1, f2, f3])) (hone : oneCellFields P #[f0, f1, f2, f3] = true) (hC : P.cellsOf t = 4)
    (hv : Value.okWide P w r b0 t v) (h : DataW.Trod enc P w base spare held t v d p) :
    ∃ c0 c1 c2 c3 n y0 y1 y2 y3, v = .agg #[c0, c1, c2, c3] ∧ DataW.trod enc P w base spare held n f0.type [c0] = some y0 ∧ DataW.trod enc P w base spare held n f1.type [c1] = some y1 ∧ DataW.trod enc P w base spare held n f2.type [c2] = some y2 ∧ DataW.trod enc P w base spare held n f3.type [c3] = some y3 := by
  obtain ⟨cs, rfl, hsz⟩ := okWide_struct hs hv
  obtain ⟨c0, c1, c2, c3, rfl⟩ := array4 (hsz.trans hC)
  obtain ⟨fuel, hf'⟩ := h
  obtain ⟨xs, n, _, hx, hl, hlen, hg⟩ := DataW.trod_struct hs hf'
  obtain ⟨o0, k0⟩ := hone_of hone 0 f0 rfl
  obtain ⟨o1, k1⟩ := hone_of hone 1 f1 rfl
  obtain ⟨o2, k2⟩ := hone_of hone 2 f2 rfl
  obtain ⟨o3, k3⟩ := hone_of hone 3 f3 rfl
  have h0 := hg 0 f0 rfl
  have h1 := hg 1 f1 rfl
  have h2 := hg 2 f2 rfl
  have h3 := hg 3 f3 rfl
  match xs, hlen with
  | [y0, y1, y2, y3], _ =>
    exact ⟨c0, c1, c2, c3, n, y0, y1, y2, y3, rfl, by simpa [Value.cells, o0, k0] using h0, by simpa [Value.cells, o1, k1] using h1, by simpa [Value.cells, o2, k2] using h2, by simpa [Value.cells, o3, k3] using h3⟩

/-- What the walk is told of a device that came in. -/
def InDev (w : World) (a b c d : Option Addr) (la lb lc ld : Nat) (cs is : List Bool) (hs rs : List Int) : Prop :=
  (InBos w a la cs ∧ la ≤ maxLen) ∧ (InBos w b lb is ∧ lb ≤ maxLen) ∧ InIos w c lc hs ∧ InIos w d ld rs

theorem opened_dev {r : Reach} {b0 : Nat} {t i si sb tb : TypeId} {f0 f1 f2 f3 : Field} {v : Value} {d : DataW H} {p : List MemPlace} (hs : P.underlying t = some (.struct #[f0, f1, f2, f3])) (hone : oneCellFields P #[f0, f1, f2, f3] = true) (hC : P.cellsOf t = 4)
    (e0 : f0.type = sb) (e1 : f1.type = sb) (e2 : f2.type = si) (e3 : f3.type = si) (hi : P.underlying i = some (.int .i64)) (hsi : P.underlying si = some (.slice i)) (hsb : P.underlying sb = some (.slice tb)) (htb : P.underlying tb = some .bool) (hci : P.cellsOf i = 1) (hcb : P.cellsOf tb = 1)
    (hv : Value.okWide P w r b0 t v) (h : DataW.Trod enc P w base (fun _ => true) held t v d p) :
    ∃ xa xb xc xd la ca lb cb lc cc ld cd cs is hs rs, v = .agg #[.slice xa la ca, .slice xb lb cb, .slice xc lc cc, .slice xd ld cd] ∧ InDev w xa xb xc xd la lb lc ld cs is hs rs := by
  obtain ⟨c0, c1, c2, c3, n, y0, y1, y2, y3, rfl, h0, h1, h2, h3⟩ := opened_struct4 hs hone hC hv h
  rw [e0] at h0
  rw [e1] at h1
  rw [e2] at h2
  rw [e3] at h3
  obtain ⟨xa, la, ca, hcs⟩ := slice_form hsb h0
  simp at hcs
  subst hcs
  obtain ⟨xb, lb, cb, hcs⟩ := slice_form hsb h1
  simp at hcs
  subst hcs
  obtain ⟨xc, lc, cc, hcs⟩ := slice_form hsi h2
  simp at hcs
  subst hcs
  obtain ⟨xd, ld, cd, hcs⟩ := slice_form hsi h3
  simp at hcs
  subst hcs
  obtain ⟨⟨cs, hb0⟩, hm0⟩ := opened_bosm hsb htb hcb h0
  obtain ⟨⟨is, hb1⟩, hm1⟩ := opened_bosm hsb htb hcb h1
  obtain ⟨hs', hw2⟩ := opened_ios hsi hi hci h2
  obtain ⟨rs, hw3⟩ := opened_ios hsi hi hci h3
  exact ⟨xa, xb, xc, xd, la, ca, lb, cb, lc, cc, ld, cd, cs, is, hs', rs, rfl, ⟨hb0, hm0⟩, ⟨hb1, hm1⟩, hw2, hw3⟩
end

end Go.Proofs.Ytfcbkollmhjdoaa

namespace Go.Proofs.Ytfcbkollmhjdoaa
open Go.RowKit

set_option linter.unusedVariables false

set_option linter.unusedSimpArgs false

/-- What Serve told, as a value. -/
def SRv (u : World) (B : Nat) (is : List Bool) (rs : List Int) (V : SvR) (v : Value) : Prop :=
  ∃ a1 a2 a3 a4 l1 l2 l3 l4 c1 c2 c3 c4 r1 r2 m1 m2 k1 k2, v = .tuple #[dv a1 a2 a3 a4 l1 l2 l3 l4 c1 c2 c3 c4, rp V.kd V.fl V.pl V.nn r1 r2 m1 m2 k1 k2] ∧ OwnD u B a1 a2 a3 a4 l1 l2 l3 l4 c1 c2 c3 c4 V.cs is V.hs rs ∧ OwnI u B (.slice r1 m1 k1) V.ws ∧ OwnB u B (.slice r2 m2 k2) V.bs ∧
    (∀ g, Of4 (.slice a1 l1 c1) (.slice a2 l2 c2) (.slice a3 l3 c3) (.slice a4 l4 c4) g → ¬ Of2 (.slice r1 m1 k1) (.slice r2 m2 k2) g)

theorem SRv.below {u u' : World} {B : Nat} {is : List Bool} {rs : List Int} {V : SvR} {v : Value} (h : SRv u B is rs V v) (hb : Below u.heap.size u u') : SRv u' B is rs V v := by
  obtain ⟨a1, a2, a3, a4, l1, l2, l3, l4, c1, c2, c3, c4, r1, r2, m1, m2, k1, k2, e, o1, o2, o3, o4⟩ := h
  exact ⟨a1, a2, a3, a4, l1, l2, l3, l4, c1, c2, c3, c4, r1, r2, m1, m2, k1, k2, e, o1.below hb, o2.below hb, o3.below hb, o4⟩

/-- What the two boxes hold behind such a statement. -/
def SRb (u : World) (B B6 B7 : Nat) (is : List Bool) (rs : List Int) (V : SvR) : Prop :=
  ∃ a1 a2 a3 a4 l1 l2 l3 l4 c1 c2 c3 c4 r1 r2 m1 m2 k1 k2, Blk u B6 36 #[.slice a1 l1 c1, .slice a2 l2 c2, .slice a3 l3 c3, .slice a4 l4 c4] ∧ Blk u B7 29 #[.int .i64 V.kd, .int .i64 V.fl, .int .i64 V.pl, .int .i64 V.nn, .slice r1 m1 k1, .slice r2 m2 k2] ∧ OwnD u B a1 a2 a3 a4 l1 l2 l3 l4 c1 c2 c3 c4 V.cs is V.hs rs ∧ OwnI u B (.slice r1 m1 k1) V.ws ∧ OwnB u B (.slice r2 m2 k2) V.bs ∧
    (∀ g, Of4 (.slice a1 l1 c1) (.slice a2 l2 c2) (.slice a3 l3 c3) (.slice a4 l4 c4) g → ¬ Of2 (.slice r1 m1 k1) (.slice r2 m2 k2) g)

theorem blk_neT {u : World} {g g' : Nat} {t t' : TypeId} {c c' : Array Value} (h : Blk u g t c) (h' : Blk u g' t' c') (ht : t ≠ t') : g ≠ g' := by
  intro e
  subst e
  have := h.symm.trans h'
  simp at this
  exact ht this.2

theorem blk_agg {u : World} {B : Nat} {t : TypeId} {cs zs : Array Value} (h : Blk u B t cs) (e : Value.agg cs = .agg zs) : Blk u B t zs := by
  injection e with e
  exact e ▸ h

theorem blk_set4 {u : World} {B : Nat} {t : TypeId} {z0 z1 z2 z3 v0 v1 v2 v3 : Value} (h : Blk u B t #[z0, z1, z2, z3]) : Blk ((((u.setCell ⟨B, 0, none⟩ v0).setCell ⟨B, 1, none⟩ v1).setCell ⟨B, 2, none⟩ v2).setCell ⟨B, 3, none⟩ v3) B t #[v0, v1, v2, v3] :=
  (((h.set 0 v0).set 1 v1).set 2 v2).set 3 v3

theorem blk_set6 {u : World} {B : Nat} {t : TypeId} {z0 z1 z2 z3 z4 z5 v0 v1 v2 v3 v4 v5 : Value} (h : Blk u B t #[z0, z1, z2, z3, z4, z5]) : Blk ((((((u.setCell ⟨B, 0, none⟩ v0).setCell ⟨B, 1, none⟩ v1).setCell ⟨B, 2, none⟩ v2).setCell ⟨B, 3, none⟩ v3).setCell ⟨B, 4, none⟩ v4).setCell ⟨B, 5, none⟩ v5) B t #[v0, v1, v2, v3, v4, v5] :=
  (((((h.set 0 v0).set 1 v1).set 2 v2).set 3 v3).set 4 v4).set 5 v5

end Go.Proofs.Ytfcbkollmhjdoaa

namespace Go.Proofs.Ytfcbkollmhjdoaa
open Go.RowKit

set_option linter.unusedVariables false

set_option linter.unusedSimpArgs false

theorem wpAny_inv_at {P : Program} {ops : Array Oper} {Q : Exit → Act → World → Prop} {md : Region.Mode} {a0 : Act} {w0 : World} (Inv : Act → Array Bool → Act → World → Prop)
    (hordB : ordB md ops = true)
    (hend : ∀ l a w, Inv a0 l a w → (∀ i, i < ops.size → l.getD i true = true) → Q .normal a w)
    (hstep : ∀ l a w i o, Inv a0 l a w → ops[i]? = some o → l.getD i true = false → (∀ e ∈ o.after, Region.binds md e = true → l.getD e.on false = true) →
      ∀ K : Act → World → Prop, (∀ a w, Inv a0 (l.setIfInBounds i true) a w → K a w) → if Region.wanted o (yielded ops a.tmps) = true then Oper.wp P o a w K Q else K (a.put o.dst undef) w)
    (fuel : Nat) (l : Array Bool) (hs : l.size = ops.size) (hc : l.toList.count false ≤ fuel) (hI : Inv a0 l a0 w0) : wpAny P md ops Q fuel l a0 w0 :=
  wpAny_inv (Inv a0) hordB hend hstep fuel l a0 w0 hs hc hI

structure RI (W : World) (a1 a2 a3 a4 : Option Addr) (l1 l2 l3 l4 c1 c2 c3 c4 : Nat) (cs is : List Bool) (hs rs : List Int) (kd pl nn wa : Int) (q1 q2 : Option Addr) (m1 m2 k1 k2 : Nat) (ws : List Int) (bs : List Bool) (V : SvR) (b0 b1 b2 b3 b4 b5 b6 b7 b8 b9 b10 b11 : Bool) (tA tB tC tD tS tM tE tF tX tY : Value) (u : World) : Prop where
  bel : Below W.heap.size W u
  f0 : b0 = true → tA = .agg #[.slice a1 l1 c1, .slice a2 l2 c2, .slice a3 l3 c3, .slice a4 l4 c4]
  f1 : b1 = true → ∃ g1 g2 g3 g4, tB = .agg #[.slice (some ⟨g1, 0, none⟩) l1 l1, .slice (some ⟨g2, 0, none⟩) l2 l2, .slice (some ⟨g3, 0, none⟩) l3 l3, .slice (some ⟨g4, 0, none⟩) l4 l4] ∧ OwnD u W.heap.size (some ⟨g1, 0, none⟩) (some ⟨g2, 0, none⟩) (some ⟨g3, 0, none⟩) (some ⟨g4, 0, none⟩) l1 l2 l3 l4 l1 l2 l3 l4 cs is hs rs
  f2 : b2 = true → tC = .agg #[.int .i64 kd, .int .i64 pl, .int .i64 nn, .slice q1 m1 k1, .slice q2 m2 k2, .int .i64 wa]
  f3 : b3 = true → ∃ g5 g6, tD = .agg #[.int .i64 kd, .int .i64 pl, .int .i64 nn, .slice (some ⟨g5, 0, none⟩) m1 m1, .slice (some ⟨g6, 0, none⟩) m2 m2, .int .i64 wa] ∧ OwnI u W.heap.size (.slice (some ⟨g5, 0, none⟩) m1 m1) ws ∧ OwnB u W.heap.size (.slice (some ⟨g6, 0, none⟩) m2 m2) bs
  f4 : b4 = true → SRv u W.heap.size is rs V tS
  f5 : b5 = true → b4 = true ∧ tM = tS
  f6 : b6 = true → b5 = true ∧ ∀ x y, tM = .tuple #[x, y] → tE = x
  f7 : b7 = true → b5 = true ∧ ∀ x y, tM = .tuple #[x, y] → tF = y
  f8 : b8 = true → ∃ B6, tX = .pointer (some ⟨B6, 0, none⟩) ∧ W.heap.size ≤ B6 ∧ (b10 = false → Blk u B6 36 #[.slice none 0 0, .slice none 0 0, .slice none 0 0, .slice none 0 0]) ∧ (b10 = true → ∀ zs, tE = .agg zs → Blk u B6 36 zs)
  f9 : b9 = true → ∃ B7, tY = .pointer (some ⟨B7, 0, none⟩) ∧ W.heap.size ≤ B7 ∧ (b11 = false → Blk u B7 29 #[.int .i64 0, .int .i64 0, .int .i64 0, .int .i64 0, .slice none 0 0, .slice none 0 0]) ∧ (b11 = true → ∀ zs, tF = .agg zs → Blk u B7 29 zs)
  g10 : b10 = true → b8 = true ∧ b6 = true
  g11 : b11 = true → b9 = true ∧ b7 = true

theorem RI.below {W : World} {a1 a2 a3 a4 : Option Addr} {l1 l2 l3 l4 c1 c2 c3 c4 : Nat} {cs is : List Bool} {hs rs : List Int} {kd pl nn wa : Int} {q1 q2 : Option Addr} {m1 m2 k1 k2 : Nat} {ws : List Int} {bs : List Bool} {V : SvR} {b0 b1 b2 b3 b4 b5 b6 b7 b8 b9 b10 b11 : Bool} {tA tB tC tD tS tM tE tF tX tY : Value} {u : World} {u' : World} (F : RI W a1 a2 a3 a4 l1 l2 l3 l4 c1 c2 c3 c4 cs is hs rs kd pl nn wa q1 q2 m1 m2 k1 k2 ws bs V b0 b1 b2 b3 b4 b5 b6 b7 b8 b9 b10 b11 tA tB tC tD tS tM tE tF tX tY u) (hb : Below u.heap.size u u') : RI W a1 a2 a3 a4 l1 l2 l3 l4 c1 c2 c3 c4 cs is hs rs kd pl nn wa q1 q2 m1 m2 k1 k2 ws bs V b0 b1 b2 b3 b4 b5 b6 b7 b8 b9 b10 b11 tA tB tC tD tS tM tE tF tX tY u' where
  bel := bel_next F.bel hb
  f0 := F.f0
  f1 := fun h => by obtain ⟨g1, g2, g3, g4, e, o⟩ := F.f1 h; exact ⟨g1, g2, g3, g4, e, o.below hb⟩
  f2 := F.f2
  f3 := fun h => by obtain ⟨g5, g6, e, o, o'⟩ := F.f3 h; exact ⟨g5, g6, e, o.below hb, o'.below hb⟩
  f4 := fun h => (F.f4 h).below hb
  f5 := F.f5
  f6 := F.f6
  f7 := F.f7
  f8 := fun h => by obtain ⟨B, e, l, z, y⟩ := F.f8 h; exact ⟨B, e, l, fun k => (z k).below hb, fun k zs ez => (y k zs ez).below hb⟩
  f9 := fun h => by obtain ⟨B, e, l, z, y⟩ := F.f9 h; exact ⟨B, e, l, fun k => (z k).below hb, fun k zs ez => (y k zs ez).below hb⟩
  g10 := F.g10
  g11 := F.g11

def putS8 (a : Act) (tA tB tC tD tS tM tE tF tX tY : Value) : Act := ((((((((((a.put (some 28) tA).put (some 29) tB).put (some 30) tC).put (some 31) tD).put (some 32) tS).put (some 27) tM).put (some 33) tE).put (some 34) tF).put (some 6) tX).put (some 7) tY)

def putS35 (a : Act) (tA tB tC tD tS tM tE tF tX tY : Value) : Act := ((((((((((a.put (some 105) tA).put (some 106) tB).put (some 107) tC).put (some 108) tD).put (some 109) tS).put (some 104) tM).put (some 110) tE).put (some 111) tF).put (some 15) tX).put (some 16) tY)

def RInv8 (W : World) (a1 a2 a3 a4 : Option Addr) (l1 l2 l3 l4 c1 c2 c3 c4 : Nat) (cs is : List Bool) (hs rs : List Int) (kd pl nn wa : Int) (q1 q2 : Option Addr) (m1 m2 k1 k2 : Nat) (ws : List Int) (bs : List Bool) (V : SvR) (a0 : Act) (l : Array Bool) (act : Act) (u : World) : Prop :=
  ∃ b0 b1 b2 b3 b4 b5 b6 b7 b8 b9 b10 b11 : Bool, l = #[b0, b1, b2, b3, b4, b5, b6, b7, b8, b9, b10, b11] ∧ ∃ tA tB tC tD tS tM tE tF tX tY : Value, act = putS8 a0 tA tB tC tD tS tM tE tF tX tY ∧ RI W a1 a2 a3 a4 l1 l2 l3 l4 c1 c2 c3 c4 cs is hs rs kd pl nn wa q1 q2 m1 m2 k1 k2 ws bs V b0 b1 b2 b3 b4 b5 b6 b7 b8 b9 b10 b11 tA tB tC tD tS tM tE tF tX tY u

def RInv35 (W : World) (a1 a2 a3 a4 : Option Addr) (l1 l2 l3 l4 c1 c2 c3 c4 : Nat) (cs is : List Bool) (hs rs : List Int) (kd pl nn wa : Int) (q1 q2 : Option Addr) (m1 m2 k1 k2 : Nat) (ws : List Int) (bs : List Bool) (V : SvR) (a0 : Act) (l : Array Bool) (act : Act) (u : World) : Prop :=
  ∃ b0 b1 b2 b3 b4 b5 b6 b7 b8 b9 b10 b11 : Bool, l = #[b0, b1, b2, b3, b4, b5, b6, b7, b8, b9, b10, b11] ∧ ∃ tA tB tC tD tS tM tE tF tX tY : Value, act = putS35 a0 tA tB tC tD tS tM tE tF tX tY ∧ RI W a1 a2 a3 a4 l1 l2 l3 l4 c1 c2 c3 c4 cs is hs rs kd pl nn wa q1 q2 m1 m2 k1 k2 ws bs V b0 b1 b2 b3 b4 b5 b6 b7 b8 b9 b10 b11 tA tB tC tD tS tM tE tF tX tY u

end Go.Proofs.Ytfcbkollmhjdoaa

namespace Go.Proofs.Ytfcbkollmhjdoaa
open Go.RowKit

set_option linter.unusedVariables false

set_option linter.unusedSimpArgs false

theorem svV_len {l1 l2 l3 l4 : Nat} {cs is : List Bool} {hs rs : List Int} {kd pl nn wa : Int} {m1 m2 : Nat} {ws : List Int} {bs : List Bool} {V : SvR} (hn : LnD l1 l2 l3 l4 cs is hs rs) (h1 : m1 = ws.length) (h2 : m2 = bs.length) (hV : svV l1 l2 l3 l4 cs is hs rs kd pl nn wa m1 m2 ws bs = V) :
    V.cs.length = cs.length ∧ V.hs.length = hs.length ∧ V.ws.length ≤ ws.length + hs.length + rs.length ∧ V.bs.length ≤ bs.length + 2007 := by
  obtain ⟨e1, e2, e3, e4⟩ := hn
  cases hok : okR kd pl nn wa ws m1 m2
  · obtain rfl : V = ⟨cs, hs, 0, 0, 0, 0, [], []⟩ := by rw [← hV]; unfold svV; rw [if_pos hok]
    exact ⟨rfl, rfl, by simp, by simp⟩
  cases hd : okD l1 l2 l3 l4 hs rs
  · obtain rfl : V = ⟨cs, hs, kd, 4, 0, 0, [], []⟩ := by rw [← hV]; unfold svV; rw [hok, if_neg (by decide), if_pos hd]
    exact ⟨rfl, rfl, by simp, by simp⟩
  cases ha : svAll l1 l2 l3 l4 kd pl nn wa m1 m2
  · obtain rfl : V = ⟨cs, hs, kd, 2, 0, 0, [], []⟩ := by rw [← hV]; unfold svV; rw [hok, if_neg (by decide), hd, if_neg (by decide), if_pos ha]
    exact ⟨rfl, rfl, by simp, by simp⟩
  have hVd : svDo cs is hs rs kd pl nn wa ws bs = V := by rw [← hV]; unfold svV; rw [hok, if_neg (by decide), hd, if_neg (by decide), ha, if_neg (by decide)]
  have hle := svAll_le ha
  obtain ⟨⟨hp0, hp1⟩, hf⟩ := okR_f hok
  obtain ⟨k, rfl⟩ := Int.eq_ofNat_of_zero_le hp0
  clear hV
  rcases hf with h1 | h2 | h3 | h4 | h5 | h6 | h15 | h16 | h22 | h23
  · obtain ⟨rfl, hN1, hN2, hm1, hm2, rfl⟩ := h1
    obtain ⟨N, rfl⟩ := Int.eq_ofNat_of_zero_le (show 0 ≤ nn by omega)
    obtain rfl : V = ⟨cs, hs, 1, 0, 0, 0, [], tB8 cs k N⟩ := by rw [← hVd]; rfl
    have hle1 := hle.1
    have hle2 := hle.2
    simp [spc0, spcN] at hle1 hle2
    exact ⟨rfl, rfl, by simp, by show (tB8 cs k N).length ≤ _; rw [tB8_len cs k N (by omega)]; omega⟩
  · obtain ⟨rfl, hN1, hN2, hm1, hm2, rfl⟩ := h2
    obtain ⟨N, rfl⟩ := Int.eq_ofNat_of_zero_le (show 0 ≤ nn by omega)
    obtain rfl : V = ⟨cs, hs, 2, 0, 0, 0, [], tB8 is k N⟩ := by rw [← hVd]; rfl
    have hle1 := hle.1
    have hle2 := hle.2
    simp [spc0, spcN] at hle1 hle2
    exact ⟨rfl, rfl, by simp, by show (tB8 is k N).length ≤ _; rw [tB8_len is k N (by omega)]; omega⟩
  · obtain ⟨rfl, hN1, hN2, hm1, hm2, rfl⟩ := h3
    obtain ⟨N, rfl⟩ := Int.eq_ofNat_of_zero_le (show 0 ≤ nn by omega)
    obtain rfl : V = ⟨cs, hs, 3, 0, 0, 0, (hs.drop k).take N, []⟩ := by rw [← hVd]; rfl
    have hle1 := hle.1
    have hle2 := hle.2
    simp [spc0, spcN] at hle1 hle2
    exact ⟨rfl, rfl, by show ((hs.drop k).take N).length ≤ _; simp; omega, by simp⟩
  · obtain ⟨rfl, hN1, hN2, hm1, hm2, rfl⟩ := h4
    obtain ⟨N, rfl⟩ := Int.eq_ofNat_of_zero_le (show 0 ≤ nn by omega)
    obtain rfl : V = ⟨cs, hs, 4, 0, 0, 0, (rs.drop k).take N, []⟩ := by rw [← hVd]; rfl
    have hle1 := hle.1
    have hle2 := hle.2
    simp [spc0, spcN] at hle1 hle2
    exact ⟨rfl, rfl, by show ((rs.drop k).take N).length ≤ _; simp; omega, by simp⟩
  · obtain ⟨rfl, rfl, hm1, hm2, rfl⟩ := h5
    obtain rfl : V = ⟨cs.set k (bs.getD 0 false), hs, 5, 0, (k : Int), 0, [], bs⟩ := by rw [← hVd]; rfl
    have hle1 := hle.1
    have hle2 := hle.2
    simp [spc0, spcN] at hle1 hle2
    exact ⟨by simp, rfl, by simp, by show bs.length ≤ _; omega⟩
  · obtain ⟨rfl, rfl, hm1, hm2, rfl⟩ := h6
    obtain rfl : V = ⟨cs, hs.set k (ws.getD 0 0), 6, 0, (k : Int), 0, ws, []⟩ := by rw [← hVd]; rfl
    have hle1 := hle.1
    have hle2 := hle.2
    simp [spc0, spcN] at hle1 hle2
    exact ⟨rfl, by simp, by show ws.length ≤ _; omega, by simp⟩
  · obtain ⟨rfl, rfl, hm1, hm2, hm3, rfl⟩ := h15
    obtain rfl : V = ⟨wr cs k bs, hs, 15, 0, (k : Int), bs.length, [], []⟩ := by rw [← hVd]; rfl
    have hle1 := hle.1
    have hle2 := hle.2
    simp [spc0, spcN] at hle1 hle2
    exact ⟨wr_length cs k bs (by omega), rfl, by simp, by simp⟩
  · obtain ⟨rfl, rfl, hm2, hm1, hm3, rfl⟩ := h16
    obtain rfl : V = ⟨cs, wr hs k ws, 16, 0, (k : Int), ws.length, [], []⟩ := by rw [← hVd]; rfl
    have hle1 := hle.1
    have hle2 := hle.2
    simp [spc0, spcN] at hle1 hle2
    exact ⟨rfl, wr_length hs k ws (by omega), by simp, by simp⟩
  · obtain ⟨rfl, rfl, hm1, hm2, rfl⟩ := h22
    obtain rfl : V = ⟨cs, hs.set k (mskI (hs.getD k 0) (ws.getD 0 0) (ws.getD 1 0)), 22, 0, (k : Int), 0, ws, []⟩ := by rw [← hVd]; rfl
    have hle1 := hle.1
    have hle2 := hle.2
    simp [spc0, spcN] at hle1 hle2
    exact ⟨rfl, by simp, by show ws.length ≤ _; omega, by simp⟩
  · obtain ⟨rfl, hN1, hN2, hm2, hm1, hm3, hw1, hw2⟩ := h23
    obtain ⟨N, rfl⟩ := Int.eq_ofNat_of_zero_le (show 0 ≤ nn by omega)
    obtain ⟨j, rfl⟩ := Int.eq_ofNat_of_zero_le hw1
    obtain rfl : V = ⟨cs, wr hs j ws, 23, 0, 0, 0, ((wr hs j ws).drop k).take N, []⟩ := by rw [← hVd]; rfl
    have hle1 := hle.1
    have hle2 := hle.2
    simp [spc0, spcN] at hle1 hle2
    exact ⟨rfl, wr_length hs j ws (by omega), by show (((wr hs j ws).drop k).take N).length ≤ _; have := wr_length hs j ws (by omega); simp; omega, by simp⟩

theorem noBlk_row {u : World} {B g s n : Nat} {e t : TypeId} {v : Value} {xs : List Value} {cs : Array Value} (h : u.ownsRow B e s v n xs) (hb : Blk u g t cs) (ht : t ≠ e) : ¬ v.ownBlock = some g := by
  intro hv
  obtain ⟨_, h2⟩ := h
  rcases h2 with ⟨rfl, _⟩ | ⟨g', cap, cur, rfl, _, hh, _⟩
  · simp [Value.ownBlock] at hv
  · simp [Value.ownBlock] at hv
    subst hv
    have := hh.symm.trans hb
    simp at this
    exact ht this.2.symm

theorem noBlk2 {u : World} {B g : Nat} {t : TypeId} {cs : Array Value} {v1 v2 : Value} {ws : List Int} {bs : List Bool} (h1 : OwnI u B v1 ws) (h2 : OwnB u B v2 bs) (hb : Blk u g t cs) (ht1 : t ≠ 4) (ht2 : t ≠ 3) : ¬ Of2 v1 v2 g := by
  rintro (h | h)
  · exact noBlk_row h1 hb ht2 h
  · exact noBlk_row h2 hb ht1 h

end Go.Proofs.Ytfcbkollmhjdoaa

namespace Go.Proofs.Ytfcbkollmhjdoaa
open Go.RowKit

set_option linter.unusedVariables false

set_option linter.unusedSimpArgs false

set_option maxHeartbeats 4000000 in
theorem lawSameResp_t (kd fl pl nn : Int) (a1 a2 a1' a2' : Option Addr) (l1 l2 c1 c2 l1' l2' c1' c2' : Nat) (w : World) (ws : List Int) (h1 : l1 = ws.length) (h1' : l1' = ws.length) (s1 : SlI w a1 ws) (s1' : SlI w a1' ws) (hl1 : ws.length ≤ 2000000) (bs : List Bool) (h2 : l2 = bs.length) (h2' : l2' = bs.length) (s2 : SlB w a2 bs) (s2' : SlB w a2' bs) (hl2 : bs.length ≤ 2000000) :
    Calls Try.prog 20 #[rp kd fl pl nn a1 a2 l1 l2 c1 c2, rp kd fl pl nn a1' a2' l1' l2' c1' c2'] w fun e w' => e = .returned (.bool true) ∧ Below w.heap.size w w' := by
  obtain ⟨W0, hW0'⟩ : ∃ W0, W0 = (w.alloc (.cells #[.int .i64 kd, .int .i64 fl, .int .i64 pl, .int .i64 nn, .slice a1 l1 c1, .slice a2 l2 c2] 29)).alloc (.cells #[.int .i64 kd, .int .i64 fl, .int .i64 pl, .int .i64 nn, .slice a1' l1' c1', .slice a2' l2' c2'] 29) := ⟨_, rfl⟩
  have hW0 : Hid (W0 = _) := hW0'
  have B0 : Below w.heap.size w W0 := by rw [hW0']; exact bel_next (bel_alloc w _) (bel_alloc _ _)
  have X0 : Blk W0 w.heap.size 29 #[.int .i64 kd, .int .i64 fl, .int .i64 pl, .int .i64 nn, .slice a1 l1 c1, .slice a2 l2 c2] := by rw [hW0']; exact (Blk.new w _ _).below (bel_alloc _ _)
  have Y0 : Blk W0 (w.heap.size + 1) 29 #[.int .i64 kd, .int .i64 fl, .int .i64 pl, .int .i64 nn, .slice a1' l1' c1', .slice a2' l2' c2'] := by
    rw [hW0']; have := Blk.new (w.alloc (.cells #[.int .i64 kd, .int .i64 fl, .int .i64 pl, .int .i64 nn, .slice a1 l1 c1, .slice a2 l2 c2] 29)) #[.int .i64 kd, .int .i64 fl, .int .i64 pl, .int .i64 nn, .slice a1' l1' c1', .slice a2' l2' c2'] 29; simpa using this
  obtain ⟨x0, x1, x2, x3, x4, x5⟩ := X0.six
  obtain ⟨y0, y1, y2, y3, y4, y5⟩ := Y0.six
  have HH : Hid (l1 = ws.length ∧ l1' = ws.length ∧ SlI W0 a1 ws ∧ SlI W0 a1' ws) := ⟨h1, h1', s1.below B0, s1'.below B0⟩
  clear h1 h1' s1 s1'
  have HB : Hid (l2 = bs.length ∧ l2' = bs.length ∧ SlB W0 a2 bs ∧ SlB W0 a2' bs) := ⟨h2, h2', s2.below B0, s2'.below B0⟩
  clear h2 h2' s2 s2'
  clear hW0'
  go_enter Try.func20, Try.ntmps20
  go_upto_region 1 with fail
  rw [← hW0.out]
  go_wp2_with fail
  refine (sameInts_true _ _ _ _ _ _ ws _ HH.out.1 HH.out.2.1 HH.out.2.2.1 HH.out.2.2.2 hl1).mono ?_
  rintro e w1 ⟨rfl, n1, hw1⟩
  have b' : Below W0.heap.size W0 w1 := by rw [hw1]; exact drew_refl _ _
  have b1 := bel_next B0 b'
  obtain ⟨x0, x1, x2, x3, x4, x5⟩ := (X0.below b').six
  obtain ⟨y0, y1, y2, y3, y4, y5⟩ := (Y0.below b').six
  have HB1 : Hid (l2 = bs.length ∧ l2' = bs.length ∧ SlB w1 a2 bs ∧ SlB w1 a2' bs) := ⟨HB.out.1, HB.out.2.1, HB.out.2.2.1.below b', HB.out.2.2.2.below b'⟩
  clear hw1 b'
  go_wp2_with fail
  refine (sameBits_true _ _ _ _ _ _ bs _ HB1.out.1 HB1.out.2.1 HB1.out.2.2.1 HB1.out.2.2.2 (by omega)).mono ?_
  rintro e w2 ⟨rfl, n2, hw2⟩
  have b2' : Below w1.heap.size w1 w2 := by rw [hw2]; exact drew_refl _ _
  have b2 := bel_next b1 b2'
  clear hw2 b2'
  go_wp2
  go_ret
  exact ⟨rfl, b2⟩

end Go.Proofs.Ytfcbkollmhjdoaa

namespace Go.Proofs.Ytfcbkollmhjdoaa
open Go.RowKit

set_option linter.unusedVariables false

theorem svAll_m (m : Nat) (kd pl nn wa : Int) (m1 m2 : Nat) : svAll m m m m kd pl nn wa m1 m2 = hsB m pl (spcN kd nn m1 m2) kd wa m1 := by
  unfold svAll
  have : [(m : Int), (m : Int), (m : Int), (m : Int)].getD (spc0 kd).toNat 0 = (m : Int) := by
    unfold spc0
    split
    · rfl
    split
    · rfl
    split
    · rfl
    · rfl
  rw [this]

theorem allW_rep (m : Nat) : allW (List.replicate m 0) = true := by
  unfold allW
  refine decide_eq_true (fun k hk => ?_)
  have : (List.replicate m (0 : Int)).getD k 0 = 0 := by
    simp only [List.getD_eq_getElem?_getD, List.getElem?_replicate]
    split <;> rfl
  rw [this]
  omega

theorem okD_rep (m : Nat) (hm : m ≤ 64) : okD m m m m (List.replicate m 0) (List.replicate m 0) = true := by
  unfold okD
  rw [allW_rep, decide_eq_true ⟨hm, hm, hm, hm⟩]
  rfl

theorem svDo_fl (cs is : List Bool) (hs rs : List Int) (kd pl nn wa : Int) (ws : List Int) (bs : List Bool) : (svDo cs is hs rs kd pl nn wa ws bs).fl = 0 := by
  unfold svDo
  repeat' split
  all_goals rfl

theorem sv_no {l1 l2 l3 l4 : Nat} {cs is : List Bool} {hs rs : List Int} {kd pl nn wa : Int} {m1 m2 : Nat} {ws : List Int} {bs : List Bool} (h : okR kd pl nn wa ws m1 m2 = false) : (svV l1 l2 l3 l4 cs is hs rs kd pl nn wa m1 m2 ws bs).kd = 0 := by
  unfold svV; rw [if_pos h]

theorem sv_not {m : Nat} {kd pl nn wa : Int} {m1 m2 : Nat} {ws : List Int} {bs : List Bool} (hm : m ≤ 64) (h : okR kd pl nn wa ws m1 m2 = true) (ha : hsB m pl (spcN kd nn m1 m2) kd wa m1 = false) :
    svV m m m m (List.replicate m false) (List.replicate m false) (List.replicate m 0) (List.replicate m 0) kd pl nn wa m1 m2 ws bs = ⟨List.replicate m false, List.replicate m 0, kd, 2, 0, 0, [], []⟩ := by
  unfold svV
  rw [if_neg (by rw [h]; decide), if_neg (by rw [okD_rep m hm]; decide), if_pos (by rw [svAll_m]; exact ha)]

theorem sv_there {m : Nat} {kd pl nn wa : Int} {m1 m2 : Nat} {ws : List Int} {bs : List Bool} (hm : m ≤ 64) (h1 : m1 = ws.length) (h2 : m2 = bs.length) (h : okR kd pl nn wa ws m1 m2 = true) (ha : hsB m pl (spcN kd nn m1 m2) kd wa m1 = true) :
    (svV m m m m (List.replicate m false) (List.replicate m false) (List.replicate m 0) (List.replicate m 0) kd pl nn wa m1 m2 ws bs).fl = 0 ∧ (svV m m m m (List.replicate m false) (List.replicate m false) (List.replicate m 0) (List.replicate m 0) kd pl nn wa m1 m2 ws bs).hs.length = m := by
  unfold svV
  rw [if_neg (by rw [h]; decide), if_neg (by rw [okD_rep m hm]; decide), if_neg (by rw [svAll_m, ha]; decide)]
  refine ⟨svDo_fl _ _ _ _ _ _ _ _ _ _, ?_⟩
  obtain ⟨hp, hk⟩ := okR_f h
  unfold svDo
  rcases hk with hk | hk | hk | hk | hk | hk | hk | hk | hk | hk <;> obtain ⟨rfl, hk⟩ := hk
  · simp
  · simp
  · simp
  · simp
  · simp
  · simp
  · simp
  · simp [hsB, spcN] at ha
    simp
    rw [wr_length _ _ _ (by simp; omega)]
    simp
  · simp
  · simp [hsB, spcN] at ha
    simp
    rw [wr_length _ _ _ (by simp; omega)]
    simp

theorem hsB_there {m : Nat} {kd pl nn wa : Int} {m1 : Nat} {N : Int} (h1 : pl + N ≤ (m : Int)) (h2 : kd = 23 → wa + (m1 : Int) ≤ (m : Int)) : hsB m pl N kd wa m1 = true := by
  unfold hsB
  rw [if_neg (by rintro ⟨h3, h4⟩; have := h2 h3; omega)]
  exact decide_eq_true h1

theorem hsB_far {m : Nat} {kd pl nn wa : Int} {m1 : Nat} {N : Int} (h1 : ¬ pl + N ≤ (m : Int)) : hsB m pl N kd wa m1 = false := by
  unfold hsB
  split
  · rfl
  · exact decide_eq_false h1

theorem hsB_wr {m : Nat} {kd pl nn wa : Int} {m1 : Nat} {N : Int} (h1 : kd = 23) (h2 : ¬ wa + (m1 : Int) ≤ (m : Int)) : hsB m pl N kd wa m1 = false := by
  unfold hsB
  rw [if_pos ⟨h1, by omega⟩]

end Go.Proofs.Ytfcbkollmhjdoaa

namespace Go.Proofs.Ytfcbkollmhjdoaa
open Go.RowKit

set_option linter.unusedVariables false

set_option linter.unusedSimpArgs false

theorem allW_at {ws : List Int} (h : allW ws = true) (k : Nat) (hk : k < ws.length) : 0 ≤ ws.getD k 0 ∧ ws.getD k 0 ≤ 65535 := (of_decide_eq_true h) k hk

theorem allW_mem {ws : List Int} (h : ∀ x ∈ ws, 0 ≤ x ∧ x ≤ 65535) : allW ws = true := by
  refine decide_eq_true (fun k hk => ?_)
  rw [List.getD_eq_getElem?_getD, List.getElem?_eq_getElem hk]
  exact h _ (List.getElem_mem hk)

theorem mem_allW {ws : List Int} (h : allW ws = true) : ∀ x ∈ ws, 0 ≤ x ∧ x ≤ 65535 := by
  intro x hx
  obtain ⟨k, hk, rfl⟩ := List.getElem_of_mem hx
  have := allW_at h k hk
  rw [List.getD_eq_getElem?_getD, List.getElem?_eq_getElem hk] at this
  exact this

theorem allW_set {hs : List Int} {k : Nat} {x : Int} (h : allW hs = true) (hx : 0 ≤ x ∧ x ≤ 65535) : allW (hs.set k x) = true := by
  refine allW_mem (fun y hy => ?_)
  rcases List.mem_or_eq_of_mem_set hy with h1 | h1
  · exact mem_allW h y h1
  · exact h1 ▸ hx

theorem allW_wr {hs ws : List Int} {k : Nat} (h : allW hs = true) (h2 : allW ws = true) : allW (wr hs k ws) = true := by
  refine allW_mem (fun y hy => ?_)
  unfold wr at hy
  rcases List.mem_append.1 hy with h1 | h1
  · exact mem_allW h y (List.mem_of_mem_take h1)
  · rcases List.mem_append.1 h1 with h1 | h1
    · exact mem_allW h2 y h1
    · exact mem_allW h y (List.mem_of_mem_drop h1)

theorem wr_wr {α : Type} (hs : List α) (k : Nat) (ws : List α) (h : k + ws.length ≤ hs.length) : wr (wr hs k ws) k ws = wr hs k ws := by
  unfold wr
  have e1 : (hs.take k ++ (ws ++ hs.drop (k + ws.length))).take k = hs.take k := by
    rw [List.take_append_of_le_length (by simp; omega), List.take_take, Nat.min_self]
  have e2 : (hs.take k ++ (ws ++ hs.drop (k + ws.length))).drop (k + ws.length) = hs.drop (k + ws.length) := by
    rw [← List.append_assoc, List.drop_append_of_le_length (by simp; omega), List.drop_of_length_le (by simp; omega), List.nil_append]
  rw [e1, e2]

theorem wr_read {α : Type} (hs : List α) (k : Nat) (ws : List α) (h : k + ws.length ≤ hs.length) : ((wr hs k ws).drop k).take ws.length = ws := by
  unfold wr
  rw [List.drop_append_of_le_length (by simp; omega), List.drop_of_length_le (by simp; omega), List.nil_append, List.take_append_of_le_length (Nat.le_refl _), List.take_length]

theorem set_read {α : Type} (hs : List α) (k : Nat) (x : α) (h : k < hs.length) : ((hs.set k x).drop k).take 1 = [x] := by
  rw [← wr_one hs k x h]
  exact wr_read hs k [x] (by simp; omega)

/-- What the rows are behind a question that is served. -/
theorem svDo_len (cs is : List Bool) (hs rs : List Int) (kd pl nn wa : Int) (m1 m2 : Nat) (ws : List Int) (bs : List Bool) (h1 : m1 = ws.length) (h2 : m2 = bs.length) (h : okR kd pl nn wa ws m1 m2 = true) (ha : svAll cs.length is.length hs.length rs.length kd pl nn wa m1 m2 = true) :
    (svDo cs is hs rs kd pl nn wa ws bs).cs.length = cs.length ∧ (svDo cs is hs rs kd pl nn wa ws bs).hs.length = hs.length := by
  obtain ⟨hp, hk⟩ := okR_f h
  unfold svDo
  unfold svAll at ha
  rcases hk with hk | hk | hk | hk | hk | hk | hk | hk | hk | hk <;> obtain ⟨rfl, hk⟩ := hk
  · simp
  · simp
  · simp
  · simp
  · simp
  · simp
  · simp [hsB, spcN, spc0] at ha
    simp
    exact wr_length _ _ _ (by omega)
  · simp [hsB, spcN, spc0] at ha
    simp
    exact wr_length _ _ _ (by omega)
  · simp
  · simp [hsB, spcN, spc0] at ha
    simp
    exact wr_length _ _ _ (by omega)

theorem svV_cases (l1 l2 l3 l4 : Nat) (cs is : List Bool) (hs rs : List Int) (kd pl nn wa : Int) (m1 m2 : Nat) (ws : List Int) (bs : List Bool) :
    ((svV l1 l2 l3 l4 cs is hs rs kd pl nn wa m1 m2 ws bs).cs = cs ∧ (svV l1 l2 l3 l4 cs is hs rs kd pl nn wa m1 m2 ws bs).hs = hs ∧ (okR kd pl nn wa ws m1 m2 = false ∨ okD l1 l2 l3 l4 hs rs = false ∨ (svV l1 l2 l3 l4 cs is hs rs kd pl nn wa m1 m2 ws bs).fl = 2))
    ∨ (okR kd pl nn wa ws m1 m2 = true ∧ okD l1 l2 l3 l4 hs rs = true ∧ svAll l1 l2 l3 l4 kd pl nn wa m1 m2 = true ∧ svV l1 l2 l3 l4 cs is hs rs kd pl nn wa m1 m2 ws bs = svDo cs is hs rs kd pl nn wa ws bs) := by
  unfold svV
  cases hR : okR kd pl nn wa ws m1 m2
  · exact .inl ⟨rfl, rfl, .inl rfl⟩
  cases hD : okD l1 l2 l3 l4 hs rs
  · exact .inl ⟨rfl, rfl, .inr (.inl rfl)⟩
  cases hA : svAll l1 l2 l3 l4 kd pl nn wa m1 m2
  · exact .inl ⟨rfl, rfl, .inr (.inr rfl)⟩
  · exact .inr ⟨rfl, rfl, rfl, rfl⟩

theorem okD_words {l1 l2 l3 l4 : Nat} {hs rs : List Int} (h : okD l1 l2 l3 l4 hs rs = true) : allW hs = true ∧ allW rs = true := by
  unfold okD at h
  simp only [Bool.and_eq_true] at h
  exact ⟨h.2.1, h.2.2⟩

theorem okD_new {l1 l2 l3 l4 : Nat} {hs hs' rs : List Int} (h : okD l1 l2 l3 l4 hs rs = true) (h' : allW hs' = true) : okD l1 l2 l3 l4 hs' rs = true := by
  unfold okD at h ⊢
  simp only [Bool.and_eq_true] at h ⊢
  exact ⟨h.1, h', h.2.2⟩

theorem okR_words {kd pl nn wa : Int} {ws : List Int} {m1 m2 : Nat} (h : okR kd pl nn wa ws m1 m2 = true) : allW ws = true := by
  unfold okR at h
  simp only [Bool.and_eq_true] at h
  exact h.1

theorem svDo_words {cs is : List Bool} {hs rs : List Int} {kd pl nn wa : Int} {m1 m2 : Nat} {ws : List Int} {bs : List Bool} (h1 : m1 = ws.length) (h : okR kd pl nn wa ws m1 m2 = true) (hh : allW hs = true) (hp3 : kd = 22 → pl.toNat < hs.length) : allW (svDo cs is hs rs kd pl nn wa ws bs).hs = true := by
  obtain ⟨hp, hk⟩ := okR_f h
  have hw := okR_words h
  unfold svDo
  rcases hk with hk | hk | hk | hk | hk | hk | hk | hk | hk | hk <;> obtain ⟨rfl, hk⟩ := hk
  · simpa using hh
  · simpa using hh
  · simpa using hh
  · simpa using hh
  · simpa using hh
  · simp
    have := allW_at hw 0 (by omega)
    rw [List.getD_eq_getElem?_getD] at this
    exact allW_set hh this
  · simpa using hh
  · simp
    exact allW_wr hh hw
  · simp
    have q0 := allW_at hh pl.toNat (hp3 rfl)
    have q1 := allW_at hw 1 (by omega)
    simp only [List.getD_eq_getElem?_getD] at q0 q1
    exact allW_set hh (mskI_rg q0 q1)
  · simp
    exact allW_wr hh hw

/-- Served twice is as once. -/
theorem svDo_twice {cs is : List Bool} {hs rs : List Int} {kd pl nn wa : Int} {m1 m2 : Nat} {ws : List Int} {bs : List Bool} (h1 : m1 = ws.length) (h2 : m2 = bs.length) (h : okR kd pl nn wa ws m1 m2 = true) (hh : allW hs = true) (ha : svAll cs.length is.length hs.length rs.length kd pl nn wa m1 m2 = true) :
    svDo (svDo cs is hs rs kd pl nn wa ws bs).cs is (svDo cs is hs rs kd pl nn wa ws bs).hs rs kd pl nn wa ws bs = svDo cs is hs rs kd pl nn wa ws bs := by
  obtain ⟨hp, hk⟩ := okR_f h
  have hw := okR_words h
  unfold svAll at ha
  rcases hk with hk | hk | hk | hk | hk | hk | hk | hk | hk | hk <;> obtain ⟨rfl, hk⟩ := hk
  · simp [svDo]
  · simp [svDo]
  · simp [svDo]
  · simp [svDo]
  · simp [svDo, List.set_set]
  · simp [svDo, List.set_set]
  · simp [hsB, spcN, spc0] at ha
    simp [svDo]
    exact wr_wr _ _ _ (by omega)
  · simp [hsB, spcN, spc0] at ha
    simp [svDo]
    exact wr_wr _ _ _ (by omega)
  · simp [hsB, spcN, spc0] at ha
    have hl : pl.toNat < hs.length := by omega
    have q0 := allW_at hh pl.toNat hl
    have q1 := allW_at hw 1 (by omega)
    simp only [List.getD_eq_getElem?_getD] at q0 q1
    have e : ∀ x : Int, (hs.set pl.toNat x)[pl.toNat]?.getD 0 = x := by intro x; simp [hl]
    simp only [svDo]
    simp [List.set_set, e, mskI_again q0 q1]
  · simp [hsB, spcN, spc0] at ha
    have e := wr_wr hs wa.toNat ws (by omega)
    simp [svDo, e]

end Go.Proofs.Ytfcbkollmhjdoaa

namespace Go.Proofs.Ytfcbkollmhjdoaa
open Go.RowKit

set_option linter.unusedVariables false

set_option linter.unusedSimpArgs false

theorem SlB.takeM {w : World} {a : Option Addr} {zs : List Bool} (h : SlB w a zs) (m : Nat) : SlB w a (zs.take m) := by
  rcases h with e | ⟨b, off, e, hb, hc⟩
  · subst e; simp; exact .inl rfl
  · refine .inr ⟨b, off, e, hb, fun k hk => ?_⟩
    simp at hk
    rw [hc k (by omega)]
    have hm : k < m := by omega
    simp [List.getD_eq_getElem?_getD, List.getElem?_take, hm]

/-- Words that are read of a device. -/
theorem rd_words {l1 l2 l3 l4 : Nat} {cs is : List Bool} {hs rs : List Int} {pl : Int} {N : Nat} (hD : okD l1 l2 l3 l4 hs rs = true) (hp : 0 ≤ pl ∧ pl ≤ 65535) (hf : pl + (N : Int) ≤ 65536) (h1 : 1 ≤ N) (h2 : N ≤ 125) (ha : pl + (N : Int) ≤ (l3 : Int)) :
    svV l1 l2 l3 l4 cs is hs rs 3 pl (N : Int) 0 0 0 [] [] = ⟨cs, hs, 3, 0, 0, 0, (hs.drop pl.toNat).take N, []⟩ := by
  have hR : okR 3 pl (N : Int) 0 [] 0 0 = true := by
    unfold okR
    simp [allW, inB, okK, zrB, fitB]
    omega
  unfold svV
  rw [if_neg (by rw [hR]; decide), if_neg (by rw [hD]; decide), if_neg (by simp [svAll, spc0, spcN, hsB]; omega)]
  simp [svDo]

/-- Bits that are read of a device. -/
theorem rd_bits {l1 l2 l3 l4 : Nat} {cs is : List Bool} {hs rs : List Int} {pl : Int} {N : Nat} (hD : okD l1 l2 l3 l4 hs rs = true) (hp : 0 ≤ pl ∧ pl ≤ 65535) (hf : pl + (N : Int) ≤ 65536) (h1 : 1 ≤ N) (h2 : N ≤ 2000) (ha : pl + (N : Int) ≤ (l1 : Int)) :
    svV l1 l2 l3 l4 cs is hs rs 1 pl (N : Int) 0 0 0 [] [] = ⟨cs, hs, 1, 0, 0, 0, [], tB8 cs pl.toNat N⟩ := by
  have hR : okR 1 pl (N : Int) 0 [] 0 0 = true := by
    unfold okR
    simp [allW, inB, okK, zrB, fitB]
    omega
  unfold svV
  rw [if_neg (by rw [hR]; decide), if_neg (by rw [hD]; decide), if_neg (by simp [svAll, spc0, spcN, hsB]; omega)]
  simp [svDo]

/-- What is known of a question that is served. -/
structure SvT (l1 l2 l3 l4 : Nat) (cs is : List Bool) (hs rs : List Int) (kd pl nn wa : Int) (m1 m2 : Nat) (ws : List Int) (bs : List Bool) (V : SvR) : Prop where
  ok : okR kd pl nn wa ws m1 m2 = true
  od : okD l1 l2 l3 l4 V.hs rs = true
  cl : V.cs.length = l1
  hl : V.hs.length = l3
  tw : svV l1 l2 l3 l4 V.cs is V.hs rs kd pl nn wa m1 m2 ws bs = V
  kp : V.fl > 0 ∨ kd ≤ 4 → V.cs = cs ∧ V.hs = hs
  ww : V.fl ≤ 0 → kd = 6 ∨ kd = 16 → svV l1 l2 l3 l4 V.cs is V.hs rs 3 pl (m1 : Int) 0 0 0 [] [] = ⟨V.cs, V.hs, 3, 0, 0, 0, ws, []⟩
  wc : V.fl ≤ 0 → kd = 5 ∨ kd = 15 → ∃ pad, svV l1 l2 l3 l4 V.cs is V.hs rs 1 pl (m2 : Int) 0 0 0 [] [] = ⟨V.cs, V.hs, 1, 0, 0, 0, [], bs ++ pad⟩
  wr : V.fl ≤ 0 → kd = 23 → svV l1 l2 l3 l4 V.cs is V.hs rs 3 pl nn 0 0 0 [] [] = ⟨V.cs, V.hs, 3, 0, 0, 0, V.ws, []⟩

theorem svT_of {l1 l2 l3 l4 : Nat} {cs is : List Bool} {hs rs : List Int} {kd pl nn wa : Int} {m1 m2 : Nat} {ws : List Int} {bs : List Bool} (hn : LnD l1 l2 l3 l4 cs is hs rs) (h1 : m1 = ws.length) (h2 : m2 = bs.length) (hR : okR kd pl nn wa ws m1 m2 = true) (hD : okD l1 l2 l3 l4 hs rs = true) :
    SvT l1 l2 l3 l4 cs is hs rs kd pl nn wa m1 m2 ws bs (svV l1 l2 l3 l4 cs is hs rs kd pl nn wa m1 m2 ws bs) := by
  obtain ⟨rfl, rfl, rfl, rfl⟩ := hn
  obtain ⟨V, hV⟩ : ∃ V, V = svV cs.length is.length hs.length rs.length cs is hs rs kd pl nn wa m1 m2 ws bs := ⟨_, rfl⟩
  rcases svV_cases cs.length is.length hs.length rs.length cs is hs rs kd pl nn wa m1 m2 ws bs with ⟨e1, e2, h3⟩ | ⟨_, _, hA, e⟩
  · rw [← hV] at e1 e2 h3 ⊢
    have hf : V.fl = 2 := by
      rcases h3 with h3 | h3 | h3
      · rw [hR] at h3; cases h3
      · rw [hD] at h3; cases h3
      · exact h3
    refine ⟨hR, by rw [e2]; exact hD, by rw [e1], by rw [e2], by rw [e1, e2]; exact hV.symm, fun _ => ⟨e1, e2⟩, fun h => by omega, fun h => by omega, fun h => by omega⟩
  · rw [← hV] at e ⊢
    have hlen := svDo_len cs is hs rs kd pl nn wa m1 m2 ws bs h1 h2 hR hA
    have htw := svDo_twice h1 h2 hR (okD_words hD).1 hA
    obtain ⟨hp, hk⟩ := okR_f hR
    have hA' := hA
    unfold svAll at hA'
    have h22 : kd = 22 → pl.toNat < hs.length := by
      rintro rfl
      simp [hsB, spcN, spc0] at hA'
      omega
    have hod : okD cs.length is.length hs.length rs.length V.hs rs = true := okD_new hD (by rw [e]; exact svDo_words h1 hR (okD_words hD).1 h22)
    have hfl : V.fl = 0 := by rw [e]; exact svDo_fl _ _ _ _ _ _ _ _ _ _
    have hcl : V.cs.length = cs.length := by rw [e]; exact hlen.1
    have hhl : V.hs.length = hs.length := by rw [e]; exact hlen.2
    have hfit : (kd = 15 → pl + (m2 : Int) ≤ 65536) ∧ (kd = 16 → pl + (m1 : Int) ≤ 65536) ∧ (kd = 23 → pl + nn ≤ 65536) := by
      have h := hR
      unfold okR at h
      simp only [Bool.and_eq_true] at h
      have h := h.2.2
      refine ⟨?_, ?_, ?_⟩ <;> rintro rfl <;> simp [okK, fitB, zrB, inB] at h <;> omega
    refine ⟨hR, hod, hcl, hhl, ?_, ?_, ?_, ?_, ?_⟩
    · unfold svV
      rw [if_neg (by rw [hR]; decide), if_neg (by rw [hod]; decide), if_neg (by rw [hA]; decide), e]
      exact htw
    · rintro (h | h)
      · omega
      · rw [e]
        unfold svDo
        rcases hk with hk | hk | hk | hk | hk | hk | hk | hk | hk | hk <;> obtain ⟨rfl, hk⟩ := hk
        · simp
        · simp
        · simp
        · simp
        all_goals omega
    · rintro _ (rfl | rfl)
      · simp [hsB, spcN, spc0] at hA'
        simp [okR, okK, zrB] at hR
        have hm : m1 = 1 := by omega
        obtain ⟨x, rfl⟩ : ∃ x, ws = [x] := List.length_eq_one_iff.1 (by omega)
        have eh : V.hs = hs.set pl.toNat x := by rw [e]; simp [svDo]
        rw [rd_words hod hp (by omega) (by omega) (by omega) (by omega), hm, eh, set_read hs pl.toNat x (by omega)]
      · simp [hsB, spcN, spc0] at hA'
        have hm : 1 ≤ m1 ∧ m1 ≤ 123 := by omega
        have eh : V.hs = wr hs pl.toNat ws := by rw [e]; simp [svDo]
        rw [rd_words hod hp (by have := hfit.2.1 rfl; omega) (by omega) (by omega) (by omega), eh, h1, wr_read hs pl.toNat ws (by omega)]
    · rintro _ (rfl | rfl)
      · simp [hsB, spcN, spc0] at hA'
        have hm : m2 = 1 := by omega
        obtain ⟨x, rfl⟩ : ∃ x, bs = [x] := List.length_eq_one_iff.1 (by omega)
        have eh : V.cs = cs.set pl.toNat x := by rw [e]; simp [svDo]
        refine ⟨List.replicate (8 * ((1 + 7) / 8) - 1) false, ?_⟩
        rw [rd_bits hod hp (by omega) (by omega) (by omega) (by omega), hm, eh, tB8, set_read cs pl.toNat x (by omega)]
      · simp [hsB, spcN, spc0] at hA'
        have hm : 1 ≤ m2 ∧ m2 ≤ 1968 := by omega
        have eh : V.cs = wr cs pl.toNat bs := by rw [e]; simp [svDo]
        refine ⟨List.replicate (8 * ((bs.length + 7) / 8) - bs.length) false, ?_⟩
        rw [rd_bits hod hp (by have := hfit.1 rfl; omega) (by omega) (by omega) (by omega), eh, h2, tB8, wr_read cs pl.toNat bs (by omega)]
    · rintro _ rfl
      simp [hsB, spcN, spc0] at hA'
      obtain ⟨N, rfl⟩ : ∃ N : Nat, nn = (N : Int) := ⟨nn.toNat, by omega⟩
      rw [rd_words hod hp (by have := hfit.2.2 rfl; omega) (by omega) (by omega) (by omega), e]
      simp [svDo]

end Go.Proofs.Ytfcbkollmhjdoaa

namespace Go.Proofs.Ytfcbkollmhjdoaa
open Go.RowKit

set_option linter.unusedVariables false

set_option linter.unusedSimpArgs false

/-- What is known in the law, once the device and the question are drawn. -/
structure LV (w : World) (u : World) (D Q : Nat) (a1 a2 a3 a4 : Option Addr) (l1 l2 l3 l4 c1 c2 c3 c4 : Nat) (cs is : List Bool) (hs rs : List Int) (kd pl nn wa : Int) (q1 q2 : Option Addr) (m1 m2 k1 k2 : Nat) (ws : List Int) (bs : List Bool) : Prop where
  b : Below w.heap.size w u
  x : Blk u D 36 #[.slice a1 l1 c1, .slice a2 l2 c2, .slice a3 l3 c3, .slice a4 l4 c4]
  y : Blk u Q 27 #[.int .i64 kd, .int .i64 pl, .int .i64 nn, .slice q1 m1 k1, .slice q2 m2 k2, .int .i64 wa]
  r : RowD u w.heap.size a1 a2 a3 a4 l1 l2 l3 l4 c1 c2 c3 c4 cs is hs rs
  i : OwnI u w.heap.size (.slice q1 m1 k1) ws
  j : OwnB u w.heap.size (.slice q2 m2 k2) bs

/-- A device of the call's own in a block, and an answer in another. -/
structure LN (w : World) (u : World) (N A : Nat) (u1 u2 u3 u4 : Option Addr) (e1 e2 e3 e4 v1 v2 v3 v4 : Nat) (cs is : List Bool) (hs rs : List Int) (V : SvR) (r1 r2 : Option Addr) (n1 n2 p1 p2 : Nat) : Prop where
  x : Blk u N 36 #[.slice u1 e1 v1, .slice u2 e2 v2, .slice u3 e3 v3, .slice u4 e4 v4]
  y : Blk u A 29 #[.int .i64 V.kd, .int .i64 V.fl, .int .i64 V.pl, .int .i64 V.nn, .slice r1 n1 p1, .slice r2 n2 p2]
  r : OwnD u w.heap.size u1 u2 u3 u4 e1 e2 e3 e4 v1 v2 v3 v4 V.cs is V.hs rs
  i : OwnI u w.heap.size (.slice r1 n1 p1) V.ws
  j : OwnB u w.heap.size (.slice r2 n2 p2) V.bs

theorem LV.below {w u u2 : World} {D Q : Nat} {a1 a2 a3 a4 : Option Addr} {l1 l2 l3 l4 c1 c2 c3 c4 : Nat} {cs is : List Bool} {hs rs : List Int} {kd pl nn wa : Int} {q1 q2 : Option Addr} {m1 m2 k1 k2 : Nat} {ws : List Int} {bs : List Bool} (h : LV w u D Q a1 a2 a3 a4 l1 l2 l3 l4 c1 c2 c3 c4 cs is hs rs kd pl nn wa q1 q2 m1 m2 k1 k2 ws bs) (b : Below u.heap.size u u2) : LV w u2 D Q a1 a2 a3 a4 l1 l2 l3 l4 c1 c2 c3 c4 cs is hs rs kd pl nn wa q1 q2 m1 m2 k1 k2 ws bs :=
  ⟨bel_next h.b b, h.x.below b, h.y.below b, h.r.below b, OwnI.below h.i b, OwnB.below h.j b⟩

theorem LN.below {w u t : World} {N A : Nat} {u1 u2 u3 u4 : Option Addr} {e1 e2 e3 e4 v1 v2 v3 v4 : Nat} {cs is : List Bool} {hs rs : List Int} {V : SvR} {r1 r2 : Option Addr} {n1 n2 p1 p2 : Nat} (h : LN w u N A u1 u2 u3 u4 e1 e2 e3 e4 v1 v2 v3 v4 cs is hs rs V r1 r2 n1 n2 p1 p2) (b : Below u.heap.size u t) : LN w t N A u1 u2 u3 u4 e1 e2 e3 e4 v1 v2 v3 v4 cs is hs rs V r1 r2 n1 n2 p1 p2 :=
  ⟨h.x.below b, h.y.below b, h.r.below b, OwnI.below h.i b, OwnB.below h.j b⟩

theorem capB {w : World} {B n c : Nat} {a : Option Addr} {bs : List Bool} (h : OwnB w B (.slice a n c) bs) : n ≤ c := by
  by_cases h0 : 0 < n
  · obtain ⟨_, _, h1⟩ := OwnB.cap h h0; exact h1
  · omega

theorem capI {w : World} {B n c : Nat} {a : Option Addr} {bs : List Int} (h : OwnI w B (.slice a n c) bs) : n ≤ c := by
  by_cases h0 : 0 < n
  · obtain ⟨_, _, h1⟩ := OwnI.cap h h0; exact h1
  · omega

/-- Two blocks laid one behind the other. -/
theorem two_blk (u : World) (c1 c2 : Array Value) (t1 t2 : TypeId) (W : World) (hW : W = (u.alloc (.cells c1 t1)).alloc (.cells c2 t2)) : Below u.heap.size u W ∧ Blk W u.heap.size t1 c1 ∧ Blk W (u.heap.size + 1) t2 c2 := by
  subst hW
  refine ⟨bel_next (bel_alloc _ _) (bel_alloc _ _), (Blk.new _ _ _).below (bel_alloc _ _), ?_⟩
  have := Blk.new (u.alloc (.cells c1 t1)) c2 t2
  simpa using this

theorem svV_kept {l1 l2 l3 l4 : Nat} {cs is : List Bool} {hs rs : List Int} {kd pl nn wa : Int} {m1 m2 : Nat} {ws : List Int} {bs : List Bool} (h : okR kd pl nn wa ws m1 m2 = false ∨ okD l1 l2 l3 l4 hs rs = false) : (svV l1 l2 l3 l4 cs is hs rs kd pl nn wa m1 m2 ws bs).cs = cs ∧ (svV l1 l2 l3 l4 cs is hs rs kd pl nn wa m1 m2 ws bs).hs = hs := by
  rcases svV_cases l1 l2 l3 l4 cs is hs rs kd pl nn wa m1 m2 ws bs with ⟨e1, e2, _⟩ | ⟨h1, h2, _⟩
  · exact ⟨e1, e2⟩
  · rcases h with h | h
    · rw [h1] at h; cases h
    · rw [h2] at h; cases h

set_option maxRecDepth 20000 in
set_option maxHeartbeats 2000000 in
theorem served_law (a : Option Addr) (n cap : Nat) (zs : List Int) (w : World) (hn : n = zs.length) (hs : Sl w a zs) (hr : ∀ z ∈ zs, 0 ≤ z ∧ z ≤ 255) (hl : zs.length ≤ 1048576) :
    Calls Try.prog 4 #[.slice a n cap] w fun e w' => e = .returned (.bool true) ∧ Below w.heap.size w w' := by
  have HS : Hid (n = zs.length ∧ Sl w a zs ∧ (∀ z ∈ zs, 0 ≤ z ∧ z ≤ 255) ∧ zs.length ≤ 1048576) := ⟨hn, hs, hr, hl⟩
  have hl' : ¬ ((1048576 : Int) < (n : Int)) := by omega
  clear hn hs hr hl
  go_enter Try.func4, Try.ntmps4
  go_wp2_with (first | (go_at_call 8; go_in) | fail)
  refine (DrawServe_any w a n cap zs HS.out.1 HS.out.2.1 HS.out.2.2.1 HS.out.2.2.2).mono ?_
  rintro e w1 ⟨a1, a2, a3, a4, l1, l2, l3, l4, c1, c2, c3, c4, cs, is, hs, rs, kd, pl, nn, wa, q1, q2, m1, m2, k1, k2, ws, bs, rfl, hsm, hrow, hm1, hm2, i1, j1, b1⟩
  have HE : Hid (m1 = ws.length ∧ m2 = bs.length ∧ m1 ≤ 300 ∧ m2 ≤ 3000) := ⟨i1.sl.1, j1.sl.1, hm1, hm2⟩
  have HLN : Hid (LnD l1 l2 l3 l4 cs is hs rs) := hrow.sl.1
  have HSM : Hid (SmD 2000000 cs is hs rs) := by obtain ⟨h1, h2, h3, h4⟩ := hsm; exact ⟨by omega, by omega, by omega, by omega⟩
  have HSM1 : Hid (SmD 100 cs is hs rs) := hsm
  clear hm1 hm2 hsm
  obtain ⟨w2, hw2⟩ : ∃ x, x = (w1.alloc (.cells #[.slice a1 l1 c1, .slice a2 l2 c2, .slice a3 l3 c3, .slice a4 l4 c4] 36)).alloc (.cells #[.int .i64 kd, .int .i64 pl, .int .i64 nn, .slice q1 m1 k1, .slice q2 m2 k2, .int .i64 wa] 27) := ⟨_, rfl⟩
  obtain ⟨b', X2, Y2⟩ := two_blk w1 _ _ _ _ w2 hw2
  obtain ⟨D, hD⟩ : ∃ x, x = w1.heap.size := ⟨_, rfl⟩
  rw [← hD] at X2 Y2
  have L2 : LV w w2 D (D + 1) a1 a2 a3 a4 l1 l2 l3 l4 c1 c2 c3 c4 cs is hs rs kd pl nn wa q1 q2 m1 m2 k1 k2 ws bs := ⟨bel_next b1 b', X2, Y2, hrow.below b', OwnI.below i1 b', OwnB.below j1 b'⟩
  have HW2 : Hid (w2 = _) := hw2
  have HD : Hid (D = w1.heap.size) := hD
  clear hw2 hD b1 i1 j1 b' X2 Y2 hrow
  obtain ⟨V, hV⟩ : ∃ V, V = svV l1 l2 l3 l4 cs is hs rs kd pl nn wa m1 m2 ws bs := ⟨_, rfl⟩
  have HV : Hid (svV l1 l2 l3 l4 cs is hs rs kd pl nn wa m1 m2 ws bs = V) := hV.symm
  clear hV
  obtain ⟨x0, x1, x2, x3⟩ := L2.x.four
  obtain ⟨y0, y1, y2, y3, y4, y5⟩ := L2.y.six
  go_upto_region 4 with fail
  rw [← HW2.out]
  simp only [← HD.out]
  go_wp2_with fail
  refine (implServe_q a1 a2 a3 a4 l1 l2 l3 l4 c1 c2 c3 c4 cs is hs rs kd pl nn wa q1 q2 m1 m2 k1 k2 ws bs _ HLN.out L2.r.sl.2 HSM.out L2.i.sl.2 L2.j.sl.2 HE.out.1 HE.out.2.1 (by have := HE.out; omega) (by have := HE.out; omega) V HV.out).mono ?_
  rintro e w3 ⟨u1, u2, u3, u4, e1, e2, e3, e4, v1, v2, v3, v4, r1, r2, n1, n2, p1, p2, rfl, E3, I3, J3, _, b'⟩
  have L3 := L2.below b'
  have hz : w.heap.size ≤ w2.heap.size := L2.b.size
  have E3 := E3.mono hz
  have I3 := OwnI.mono I3 hz
  have J3 := OwnB.mono J3 hz
  clear L2 b' hz x0 x1 x2 x3 y0 y1 y2 y3 y4 y5
  obtain ⟨w4, hw4⟩ : ∃ x, x = (w3.alloc (.cells #[.slice u1 e1 v1, .slice u2 e2 v2, .slice u3 e3 v3, .slice u4 e4 v4] 36)).alloc (.cells #[.int .i64 V.kd, .int .i64 V.fl, .int .i64 V.pl, .int .i64 V.nn, .slice r1 n1 p1, .slice r2 n2 p2] 29) := ⟨_, rfl⟩
  obtain ⟨b', X4, Y4⟩ := two_blk w3 _ _ _ _ w4 hw4
  obtain ⟨N, hN⟩ : ∃ x, x = w3.heap.size := ⟨_, rfl⟩
  rw [← hN] at X4 Y4
  have L4 := L3.below b'
  have N4 : LN w w4 N (N + 1) u1 u2 u3 u4 e1 e2 e3 e4 v1 v2 v3 v4 cs is hs rs V r1 r2 n1 n2 p1 p2 := ⟨X4, Y4, E3.below b', OwnI.below I3 b', OwnB.below J3 b'⟩
  have HW4 : Hid (w4 = _) := hw4
  have HN : Hid (N = w3.heap.size) := hN
  clear hw4 hN L3 E3 I3 J3 X4 Y4 b'
  obtain ⟨x0, x1, x2, x3⟩ := L4.x.four
  obtain ⟨y0, y1, y2, y3, y4, y5⟩ := L4.y.six
  go_upto_region 5 with fail
  rw [← HW4.out]
  simp only [← HN.out]
  go_wp2_with fail
  refine (specServe_q a1 a2 a3 a4 l1 l2 l3 l4 c1 c2 c3 c4 cs is hs rs kd pl nn wa q1 q2 m1 m2 k1 k2 ws bs _ HLN.out L4.r.sl.2 HSM.out ⟨capB L4.r.r1, capB L4.r.r2, capI L4.r.r3, capI L4.r.r4⟩ L4.i.sl.2 L4.j.sl.2 HE.out.1 HE.out.2.1 (by have := HE.out; omega) (by have := HE.out; omega) V HV.out).mono ?_
  rintro e w5 ⟨s1, s2, s3, s4, f1, f2, f3, f4, g1, g2, g3, g4, o1, o2, t1, t2, h1, h2, rfl, _, I5, J5, _, b'⟩
  have L5 := L4.below b'
  have N5 := N4.below b'
  clear L4 N4 b' x0 x1 x2 x3 y0 y1 y2 y3 y4 y5
  obtain ⟨w6, hw6⟩ : ∃ x, x = (w5.alloc (.cells #[.slice s1 f1 g1, .slice s2 f2 g2, .slice s3 f3 g3, .slice s4 f4 g4] 36)).alloc (.cells #[.int .i64 V.kd, .int .i64 V.fl, .int .i64 V.pl, .int .i64 V.nn, .slice o1 t1 h1, .slice o2 t2 h2] 29) := ⟨_, rfl⟩
  obtain ⟨b', _, Y6⟩ := two_blk w5 _ _ _ _ w6 hw6
  obtain ⟨M, hM⟩ : ∃ x, x = w5.heap.size := ⟨_, rfl⟩
  rw [← hM] at Y6
  have L6 := L5.below b'
  have N6 := N5.below b'
  have I6 := OwnI.below I5 b'
  have J6 := OwnB.below J5 b'
  have HW6 : Hid (w6 = _) := hw6
  have HM : Hid (M = w5.heap.size) := hM
  have HVL : Hid (V.ws.length ≤ 2000000 ∧ V.bs.length ≤ 2000000) := by obtain ⟨_, _, h3, h4⟩ := svV_len HLN.out HE.out.1 HE.out.2.1 HV.out; obtain ⟨_, _, g3, g4⟩ := HSM1.out; have := HE.out; exact ⟨by omega, by omega⟩
  clear hw6 hM L5 N5 I5 J5 b'
  obtain ⟨x0, x1, x2, x3⟩ := L6.x.four
  obtain ⟨y0, y1, y2, y3, y4, y5⟩ := L6.y.six
  obtain ⟨z0, z1, z2, z3, z4, z5⟩ := N6.y.six
  obtain ⟨t0, t1', t2', t3, t4, t5⟩ := Y6.six
  go_upto_region 6 with fail
  rw [← HW6.out]
  simp only [← HM.out]
  go_wp2_with fail
  refine (lawSameResp_t V.kd V.fl V.pl V.nn r1 r2 o1 o2 n1 n2 p1 p2 t1 t2 h1 h2 _ V.ws N6.i.sl.1 I6.sl.1 N6.i.sl.2 I6.sl.2 HVL.out.1 V.bs N6.j.sl.1 J6.sl.1 N6.j.sl.2 J6.sl.2 HVL.out.2).mono ?_
  rintro e w7 ⟨rfl, b'⟩
  have L7 := L6.below b'
  have N7 := N6.below b'
  clear L6 N6 I6 J6 Y6 b' x0 x1 x2 x3 y0 y1 y2 y3 y4 y5 z0 z1 z2 z3 z4 z5 t0 t1' t2' t3 t4 t5
  obtain ⟨x0, x1, x2, x3⟩ := L7.x.four
  obtain ⟨bD, hbD⟩ : ∃ b, okD l1 l2 l3 l4 hs rs = b := ⟨_, rfl⟩
  have HBD : Hid (okD l1 l2 l3 l4 hs rs = bD) := hbD
  clear hbD
  go_wp2_with fail
  refine (specDeviceOk_any a1 a2 a3 a4 l1 l2 l3 l4 c1 c2 c3 c4 cs is hs rs _ HLN.out L7.r.sl.2 HSM.out bD HBD.out).mono ?_
  rintro e w8 ⟨rfl, b'⟩
  have L8 := L7.below b'
  have N8 := N7.below b'
  clear L7 N7 b' x0 x1 x2 x3
  cases bD
  · skip
    obtain ⟨x0, x1, x2, x3⟩ := L8.x.four
    obtain ⟨z0, z1, z2, z3⟩ := N8.x.four
    have HSD : Hid (sdB V.cs is V.hs rs cs is hs rs = true ∧ SmD 2000000 V.cs is V.hs rs) := by
      have e1 := svV_kept (is := is) (ws := ws) (bs := bs) (cs := cs) (kd := kd) (pl := pl) (nn := nn) (wa := wa) (m1 := m1) (m2 := m2) (.inr HBD.out)
      rw [HV.out] at e1
      rw [e1.1, e1.2]
      exact ⟨by simp [sdB], HSM.out⟩
    go_wp2_with fail
    refine (implSame_any u1 u2 u3 u4 e1 e2 e3 e4 v1 v2 v3 v4 a1 a2 a3 a4 l1 l2 l3 l4 c1 c2 c3 c4 _ _ _ _ _ _ _ _ _ N8.r.sl.1 HLN.out N8.r.sl.2 L8.r.sl.2 HSD.out.2 HSM.out true HSD.out.1).mono ?_
    rintro e w9 ⟨rfl, b'⟩
    have B9 := bel_next L8.b b'
    clear b' L8 N8 x0 x1 x2 x3 z0 z1 z2 z3
    go_wp2
    go_ret
    exact ⟨rfl, B9⟩
  obtain ⟨y0, y1, y2, y3, y4, y5⟩ := L8.y.six
  go_wp2_with fail
  refine (specReqOk_q kd pl nn wa q1 q2 m1 m2 k1 k2 ws bs _ HE.out.1 HE.out.2.1 L8.i.sl.2 L8.j.sl.2 (by have := HE.out; omega) (by have := HE.out; omega)).mono ?_
  rintro e w9 ⟨he, b'⟩
  have L9 := L8.below b'
  have N9 := N8.below b'
  clear L8 N8 b' y0 y1 y2 y3 y4 y5
  cases hok : okR kd pl nn wa ws m1 m2
  · rw [hok] at he
    subst he
    have HSD : Hid (sdB V.cs is V.hs rs cs is hs rs = true ∧ SmD 2000000 V.cs is V.hs rs) := by
      have e1 := svV_kept (is := is) (ws := ws) (bs := bs) (cs := cs) (l1 := l1) (l2 := l2) (l3 := l3) (l4 := l4) (hs := hs) (rs := rs) (.inl hok)
      rw [HV.out] at e1
      rw [e1.1, e1.2]
      exact ⟨by simp [sdB], HSM.out⟩
    obtain ⟨x0, x1, x2, x3⟩ := L9.x.four
    obtain ⟨z0, z1, z2, z3⟩ := N9.x.four
    go_wp2_with fail
    refine (implSame_any u1 u2 u3 u4 e1 e2 e3 e4 v1 v2 v3 v4 a1 a2 a3 a4 l1 l2 l3 l4 c1 c2 c3 c4 _ _ _ _ _ _ _ _ _ N9.r.sl.1 HLN.out N9.r.sl.2 L9.r.sl.2 HSD.out.2 HSM.out true HSD.out.1).mono ?_
    rintro e wE ⟨rfl, b'⟩
    have BE := bel_next L9.b b'
    clear b' L9 N9 x0 x1 x2 x3 z0 z1 z2 z3
    go_wp2
    go_ret
    exact ⟨rfl, BE⟩
  rw [hok] at he
  subst he
  have HT : Hid (SvT l1 l2 l3 l4 cs is hs rs kd pl nn wa m1 m2 ws bs V) := by have h := svT_of (cs := cs) (is := is) HLN.out HE.out.1 HE.out.2.1 hok HBD.out; rw [HV.out] at h; exact h
  have HOK : Hid (okR kd pl nn wa ws m1 m2 = true) := hok
  obtain rfl : e1 = l1 := by have h := N9.r.sl.1.1; have h2 := HT.out.cl; omega
  obtain rfl : e2 = l2 := by have h := N9.r.sl.1.2.1; have h2 := HLN.out.2.1; omega
  obtain rfl : e3 = l3 := by have h := N9.r.sl.1.2.2.1; have h2 := HT.out.hl; omega
  obtain rfl : e4 = l4 := by have h := N9.r.sl.1.2.2.2; have h2 := HLN.out.2.2.2; omega
  have HSV : Hid (SmD 2000000 V.cs is V.hs rs) := by
    obtain ⟨h1, h2, h3, h4⟩ := HSM.out
    have g1 := HT.out.cl
    have g3 := HT.out.hl
    obtain ⟨f1, f2, f3, f4⟩ := HLN.out
    exact ⟨by omega, h2, by omega, h4⟩
  clear hok
  obtain ⟨z0, z1, z2, z3⟩ := N9.x.four
  obtain ⟨y0, y1, y2, y3, y4, y5⟩ := L9.y.six
  go_wp2_with fail
  refine (implServe_q u1 u2 u3 u4 e1 e2 e3 e4 v1 v2 v3 v4 V.cs is V.hs rs kd pl nn wa q1 q2 m1 m2 k1 k2 ws bs _ N9.r.sl.1 N9.r.sl.2 HSV.out L9.i.sl.2 L9.j.sl.2 HE.out.1 HE.out.2.1 (by have := HE.out; omega) (by have := HE.out; omega) V HT.out.tw).mono ?_
  rintro e w10 ⟨d1, d2, d3, d4, i1, i2, i3, i4, j1, j2, j3, j4, b1, b2, x1, x2, y1', y2', rfl, E10, I10, J10, _, b'⟩
  have hz : w.heap.size ≤ w9.heap.size := L9.b.size
  have E10 := E10.mono hz
  have I10 := OwnI.mono I10 hz
  have J10 := OwnB.mono J10 hz
  have L10 := L9.below b'
  have N10 := N9.below b'
  clear L9 N9 b' hz z0 z1 z2 z3 y0 y1 y2 y3 y4 y5
  obtain ⟨w11, hw11⟩ : ∃ x, x = (w10.alloc (.cells #[.slice d1 i1 j1, .slice d2 i2 j2, .slice d3 i3 j3, .slice d4 i4 j4] 36)).alloc (.cells #[.int .i64 V.kd, .int .i64 V.fl, .int .i64 V.pl, .int .i64 V.nn, .slice b1 x1 y1', .slice b2 x2 y2'] 29) := ⟨_, rfl⟩
  obtain ⟨b', X11, Y11⟩ := two_blk w10 _ _ _ _ w11 hw11
  obtain ⟨P, hP⟩ : ∃ x, x = w10.heap.size := ⟨_, rfl⟩
  rw [← hP] at X11 Y11
  have L11 := L10.below b'
  have N11 := N10.below b'
  have M11 : LN w w11 P (P + 1) d1 d2 d3 d4 i1 i2 i3 i4 j1 j2 j3 j4 V.cs is V.hs rs V b1 b2 x1 x2 y1' y2' := ⟨X11, Y11, E10.below b', OwnI.below I10 b', OwnB.below J10 b'⟩
  have HW11 : Hid (w11 = _) := hw11
  have HP : Hid (P = w10.heap.size) := hP
  clear hw11 hP L10 N10 E10 I10 J10 X11 Y11 b'
  obtain ⟨z0, z1, z2, z3⟩ := N11.x.four
  obtain ⟨x0, x1', x2', x3⟩ := M11.x.four
  go_upto_region 11 with fail
  rw [← HW11.out]
  simp only [← HP.out]
  go_wp2_with fail
  refine (implSame_any d1 d2 d3 d4 i1 i2 i3 i4 j1 j2 j3 j4 u1 u2 u3 u4 e1 e2 e3 e4 v1 v2 v3 v4 _ _ _ _ _ _ _ _ _ M11.r.sl.1 N11.r.sl.1 M11.r.sl.2 N11.r.sl.2 HSV.out HSV.out true (by simp [sdB])).mono ?_
  rintro e w12 ⟨rfl, b'⟩
  have L12 := L11.below b'
  have N12 := N11.below b'
  have M12 := M11.below b'
  clear L11 N11 M11 b' z0 z1 z2 z3 x0 x1' x2' x3
  obtain ⟨z0, z1, z2, z3, z4, z5⟩ := N12.y.six
  obtain ⟨t0, t1', t2', t3, t4, t5⟩ := M12.y.six
  go_wp2_with fail
  refine (lawSameResp_t V.kd V.fl V.pl V.nn b1 b2 r1 r2 x1 x2 y1' y2' n1 n2 p1 p2 _ V.ws M12.i.sl.1 N12.i.sl.1 M12.i.sl.2 N12.i.sl.2 HVL.out.1 V.bs M12.j.sl.1 N12.j.sl.1 M12.j.sl.2 N12.j.sl.2 HVL.out.2).mono ?_
  rintro e w13 ⟨rfl, b'⟩
  have L13 := L12.below b'
  have N13 := N12.below b'
  clear L12 N12 M12 b' z0 z1 z2 z3 z4 z5 t0 t1' t2' t3 t4 t5
  obtain ⟨z0, z1, z2, z3, z4, z5⟩ := N13.y.six
  obtain ⟨y0, y1, y2, y3, y4, y5⟩ := L13.y.six
  by_cases hfl : V.fl > 0
  · have HFL : Hid (V.fl > 0) := hfl
    have HSD : Hid (sdB V.cs is V.hs rs cs is hs rs = true) := by
      show sdB V.cs is V.hs rs cs is hs rs = true
      have e1 := HT.out.kp (.inl HFL.out)
      rw [e1.1, e1.2]
      simp [sdB]
    obtain ⟨x0, x1', x2', x3⟩ := L13.x.four
    obtain ⟨z0, z1, z2, z3⟩ := N13.x.four
    go_wp2_with fail
    refine (implSame_any u1 u2 u3 u4 e1 e2 e3 e4 v1 v2 v3 v4 a1 a2 a3 a4 e1 e2 e3 e4 c1 c2 c3 c4 _ _ _ _ _ _ _ _ _ N13.r.sl.1 HLN.out N13.r.sl.2 L13.r.sl.2 HSV.out HSM.out true HSD.out).mono ?_
    rintro e wE ⟨rfl, b'⟩
    have BE := bel_next L13.b b'
    clear b' L13 N13 x0 x1' x2' x3 z0 z1 z2 z3
    go_wp2
    go_ret
    exact ⟨rfl, BE⟩
  have HFL : Hid (V.fl ≤ 0) := by show V.fl ≤ 0; omega
  go_wp2_with fail
  refine (implWrites_any kd pl nn wa q1 q2 m1 m2 k1 k2 _).mono ?_
  rintro e w14 ⟨he, b'⟩
  have L14 := L13.below b'
  have N14 := N13.below b'
  clear L13 N13 b' z0 z1 z2 z3 z4 z5 y0 y1 y2 y3 y4 y5
  cases hwr : wrK kd
  · rw [hwr] at he
    subst he
    have HK4 : Hid (kd ≤ 4) := by
      have hk := (okR_f HOK.out).2
      have hw : ¬ (kd = 5 ∨ kd = 6 ∨ kd = 15 ∨ kd = 16 ∨ kd = 22 ∨ kd = 23) := of_decide_eq_false hwr
      show kd ≤ 4
      omega
    clear hwr
    have HSD : Hid (sdB V.cs is V.hs rs cs is hs rs = true) := by
      show sdB V.cs is V.hs rs cs is hs rs = true
      have e1 := HT.out.kp (.inr HK4.out)
      rw [e1.1, e1.2]
      simp [sdB]
    obtain ⟨x0, x1', x2', x3⟩ := L14.x.four
    obtain ⟨z0, z1, z2, z3⟩ := N14.x.four
    go_wp2_with fail
    refine (implSame_any u1 u2 u3 u4 e1 e2 e3 e4 v1 v2 v3 v4 a1 a2 a3 a4 e1 e2 e3 e4 c1 c2 c3 c4 _ _ _ _ _ _ _ _ _ N14.r.sl.1 HLN.out N14.r.sl.2 L14.r.sl.2 HSV.out HSM.out true HSD.out).mono ?_
    rintro e wE ⟨rfl, b'⟩
    have BE := bel_next L14.b b'
    clear b' L14 N14 x0 x1' x2' x3 z0 z1 z2 z3
    go_wp2
    go_ret
    exact ⟨rfl, BE⟩
  rw [hwr] at he
  subst he
  have hkd : kd = 5 ∨ kd = 6 ∨ kd = 15 ∨ kd = 16 ∨ kd = 22 ∨ kd = 23 := of_decide_eq_true hwr
  clear hwr
  obtain ⟨y0, y1, y2, y3, y4, y5⟩ := L14.y.six
  obtain ⟨z0, z1, z2, z3⟩ := N14.x.four
  obtain rfl | rfl | rfl | rfl | rfl | rfl := hkd
  · skip
    have HR0 : Hid (OwnI w14 w14.heap.size (.slice none 0 0) [] ∧ OwnB w14 w14.heap.size (.slice none 0 0) []) := ⟨ownI_nil0 _ _, ownB_nil0 _ _⟩
    obtain ⟨pad, hR⟩ := HT.out.wc HFL.out (by first | exact .inl rfl | exact .inr rfl)
    have HR : Hid _ := hR
    clear hR
    go_wp2_with fail
    refine (implServe_q u1 u2 u3 u4 e1 e2 e3 e4 v1 v2 v3 v4 V.cs is V.hs rs 1 pl (m2 : Int) 0 none none 0 0 0 0 [] [] _ N14.r.sl.1 N14.r.sl.2 HSV.out HR0.out.1.sl.2 HR0.out.2.sl.2 rfl rfl (by simp) (by simp) _ HR.out).mono ?_
    rintro e w15 ⟨d1', d2', d3', d4', i1', i2', i3', i4', j1', j2', j3', j4', s1', s2', x1', x2', y1'', y2'', rfl, _, I15, J15, _, b'⟩
    have L15 := L14.below b'
    have N15 := N14.below b'
    clear L14 N14 b' y0 y1 y2 y3 y4 y5 z0 z1 z2 z3
    obtain ⟨w16, hw16⟩ : ∃ x, x = (w15.alloc (.cells #[.slice d1' i1' j1', .slice d2' i2' j2', .slice d3' i3' j3', .slice d4' i4' j4'] 36)).alloc (.cells #[.int .i64 1, .int .i64 0, .int .i64 0, .int .i64 0, .slice s1' x1' y1'', .slice s2' x2' y2''] 29) := ⟨_, rfl⟩
    obtain ⟨b', _, Y16⟩ := two_blk w15 _ _ _ _ w16 hw16
    obtain ⟨O, hO⟩ : ∃ x, x = w15.heap.size := ⟨_, rfl⟩
    rw [← hO] at Y16
    have L16 := L15.below b'
    have N16 := N15.below b'
    have I16 := OwnI.below I15 b'
    have J16 := OwnB.below J15 b'
    have HW16 : Hid (w16 = _) := hw16
    have HO : Hid (O = w15.heap.size) := hO
    clear hw16 hO L15 N15 I15 J15 b'
    obtain ⟨y0, y1, y2, y3, y4, y5⟩ := L16.y.six
    obtain ⟨z0, z1, z2, z3, z4, z5⟩ := N16.y.six
    obtain ⟨t0, t1', t2', t3, t4, t5⟩ := Y16.six
    have hx2 : x2' = bs.length + pad.length := by have h := J16.sl.1; simpa using h
    have hle : (m2 : Int) ≤ (x2' : Int) := by have := HE.out.2.1; omega
    have hcap := capB J16
    have hc2 : (m2 : Int) ≤ (y2'' : Int) := by omega
    have SB : Hid (SlB w16 s2' bs) := by show SlB w16 s2' bs; have h := SlB.takeM J16.sl.2 bs.length; simpa using h
    clear hx2
    go_upto_region 23 with fail
    rw [← HW16.out]
    simp only [← HO.out]
    go_quiet (first | (go_at_call 25; refine Calls.quiet_of (sameBits_true _ _ _ _ _ _ bs _ HE.out.2.1 HE.out.2.1 (SB.out.below (drew_refl _ _)) (L16.j.sl.2.below (drew_refl _ _)) (by have := HE.out; omega))))
    go_wp2
    go_ret
    exact ⟨rfl, ⟨L16.b.os, L16.b.tape, L16.b.output, L16.b.size, L16.b.block⟩⟩
  · skip
    have HR0 : Hid (OwnI w14 w14.heap.size (.slice none 0 0) [] ∧ OwnB w14 w14.heap.size (.slice none 0 0) []) := ⟨ownI_nil0 _ _, ownB_nil0 _ _⟩
    have HR : Hid _ := HT.out.ww HFL.out (by first | exact .inl rfl | exact .inr rfl)
    go_wp2_with fail
    refine (implServe_q u1 u2 u3 u4 e1 e2 e3 e4 v1 v2 v3 v4 V.cs is V.hs rs 3 pl (m1 : Int) 0 none none 0 0 0 0 [] [] _ N14.r.sl.1 N14.r.sl.2 HSV.out HR0.out.1.sl.2 HR0.out.2.sl.2 rfl rfl (by simp) (by simp) _ HR.out).mono ?_
    rintro e w15 ⟨d1', d2', d3', d4', i1', i2', i3', i4', j1', j2', j3', j4', s1', s2', x1', x2', y1'', y2'', rfl, _, I15, J15, _, b'⟩
    have L15 := L14.below b'
    have N15 := N14.below b'
    clear L14 N14 b' y0 y1 y2 y3 y4 y5 z0 z1 z2 z3
    obtain ⟨w16, hw16⟩ : ∃ x, x = (w15.alloc (.cells #[.slice d1' i1' j1', .slice d2' i2' j2', .slice d3' i3' j3', .slice d4' i4' j4'] 36)).alloc (.cells #[.int .i64 3, .int .i64 0, .int .i64 0, .int .i64 0, .slice s1' x1' y1'', .slice s2' x2' y2''] 29) := ⟨_, rfl⟩
    obtain ⟨b', _, Y16⟩ := two_blk w15 _ _ _ _ w16 hw16
    obtain ⟨O, hO⟩ : ∃ x, x = w15.heap.size := ⟨_, rfl⟩
    rw [← hO] at Y16
    have L16 := L15.below b'
    have N16 := N15.below b'
    have I16 := OwnI.below I15 b'
    have J16 := OwnB.below J15 b'
    have HW16 : Hid (w16 = _) := hw16
    have HO : Hid (O = w15.heap.size) := hO
    clear hw16 hO L15 N15 I15 J15 b'
    obtain ⟨y0, y1, y2, y3, y4, y5⟩ := L16.y.six
    obtain ⟨z0, z1, z2, z3, z4, z5⟩ := N16.y.six
    obtain ⟨t0, t1', t2', t3, t4, t5⟩ := Y16.six
    go_upto_region 19 with fail
    rw [← HW16.out]
    simp only [← HO.out]
    go_wp2_with fail
    refine (sameInts_true _ _ _ _ _ _ ws _ I16.sl.1 HE.out.1 I16.sl.2 L16.i.sl.2 (by have := HE.out; omega)).mono ?_
    rintro e w17 ⟨rfl, n17, hw17⟩
    have B17 : Below w.heap.size w w17 := by rw [hw17]; exact ⟨L16.b.os, L16.b.tape, L16.b.output, L16.b.size, L16.b.block⟩
    clear hw17
    go_wp2
    go_ret
    exact ⟨rfl, B17⟩
  · skip
    have HR0 : Hid (OwnI w14 w14.heap.size (.slice none 0 0) [] ∧ OwnB w14 w14.heap.size (.slice none 0 0) []) := ⟨ownI_nil0 _ _, ownB_nil0 _ _⟩
    obtain ⟨pad, hR⟩ := HT.out.wc HFL.out (by first | exact .inl rfl | exact .inr rfl)
    have HR : Hid _ := hR
    clear hR
    go_wp2_with fail
    refine (implServe_q u1 u2 u3 u4 e1 e2 e3 e4 v1 v2 v3 v4 V.cs is V.hs rs 1 pl (m2 : Int) 0 none none 0 0 0 0 [] [] _ N14.r.sl.1 N14.r.sl.2 HSV.out HR0.out.1.sl.2 HR0.out.2.sl.2 rfl rfl (by simp) (by simp) _ HR.out).mono ?_
    rintro e w15 ⟨d1', d2', d3', d4', i1', i2', i3', i4', j1', j2', j3', j4', s1', s2', x1', x2', y1'', y2'', rfl, _, I15, J15, _, b'⟩
    have L15 := L14.below b'
    have N15 := N14.below b'
    clear L14 N14 b' y0 y1 y2 y3 y4 y5 z0 z1 z2 z3
    obtain ⟨w16, hw16⟩ : ∃ x, x = (w15.alloc (.cells #[.slice d1' i1' j1', .slice d2' i2' j2', .slice d3' i3' j3', .slice d4' i4' j4'] 36)).alloc (.cells #[.int .i64 1, .int .i64 0, .int .i64 0, .int .i64 0, .slice s1' x1' y1'', .slice s2' x2' y2''] 29) := ⟨_, rfl⟩
    obtain ⟨b', _, Y16⟩ := two_blk w15 _ _ _ _ w16 hw16
    obtain ⟨O, hO⟩ : ∃ x, x = w15.heap.size := ⟨_, rfl⟩
    rw [← hO] at Y16
    have L16 := L15.below b'
    have N16 := N15.below b'
    have I16 := OwnI.below I15 b'
    have J16 := OwnB.below J15 b'
    have HW16 : Hid (w16 = _) := hw16
    have HO : Hid (O = w15.heap.size) := hO
    clear hw16 hO L15 N15 I15 J15 b'
    obtain ⟨y0, y1, y2, y3, y4, y5⟩ := L16.y.six
    obtain ⟨z0, z1, z2, z3, z4, z5⟩ := N16.y.six
    obtain ⟨t0, t1', t2', t3, t4, t5⟩ := Y16.six
    have hx2 : x2' = bs.length + pad.length := by have h := J16.sl.1; simpa using h
    have hle : (m2 : Int) ≤ (x2' : Int) := by have := HE.out.2.1; omega
    have hcap := capB J16
    have hc2 : (m2 : Int) ≤ (y2'' : Int) := by omega
    have SB : Hid (SlB w16 s2' bs) := by show SlB w16 s2' bs; have h := SlB.takeM J16.sl.2 bs.length; simpa using h
    clear hx2
    go_upto_region 23 with fail
    rw [← HW16.out]
    simp only [← HO.out]
    go_quiet (first | (go_at_call 25; refine Calls.quiet_of (sameBits_true _ _ _ _ _ _ bs _ HE.out.2.1 HE.out.2.1 (SB.out.below (drew_refl _ _)) (L16.j.sl.2.below (drew_refl _ _)) (by have := HE.out; omega))))
    go_wp2
    go_ret
    exact ⟨rfl, ⟨L16.b.os, L16.b.tape, L16.b.output, L16.b.size, L16.b.block⟩⟩
  · skip
    have HR0 : Hid (OwnI w14 w14.heap.size (.slice none 0 0) [] ∧ OwnB w14 w14.heap.size (.slice none 0 0) []) := ⟨ownI_nil0 _ _, ownB_nil0 _ _⟩
    have HR : Hid _ := HT.out.ww HFL.out (by first | exact .inl rfl | exact .inr rfl)
    go_wp2_with fail
    refine (implServe_q u1 u2 u3 u4 e1 e2 e3 e4 v1 v2 v3 v4 V.cs is V.hs rs 3 pl (m1 : Int) 0 none none 0 0 0 0 [] [] _ N14.r.sl.1 N14.r.sl.2 HSV.out HR0.out.1.sl.2 HR0.out.2.sl.2 rfl rfl (by simp) (by simp) _ HR.out).mono ?_
    rintro e w15 ⟨d1', d2', d3', d4', i1', i2', i3', i4', j1', j2', j3', j4', s1', s2', x1', x2', y1'', y2'', rfl, _, I15, J15, _, b'⟩
    have L15 := L14.below b'
    have N15 := N14.below b'
    clear L14 N14 b' y0 y1 y2 y3 y4 y5 z0 z1 z2 z3
    obtain ⟨w16, hw16⟩ : ∃ x, x = (w15.alloc (.cells #[.slice d1' i1' j1', .slice d2' i2' j2', .slice d3' i3' j3', .slice d4' i4' j4'] 36)).alloc (.cells #[.int .i64 3, .int .i64 0, .int .i64 0, .int .i64 0, .slice s1' x1' y1'', .slice s2' x2' y2''] 29) := ⟨_, rfl⟩
    obtain ⟨b', _, Y16⟩ := two_blk w15 _ _ _ _ w16 hw16
    obtain ⟨O, hO⟩ : ∃ x, x = w15.heap.size := ⟨_, rfl⟩
    rw [← hO] at Y16
    have L16 := L15.below b'
    have N16 := N15.below b'
    have I16 := OwnI.below I15 b'
    have J16 := OwnB.below J15 b'
    have HW16 : Hid (w16 = _) := hw16
    have HO : Hid (O = w15.heap.size) := hO
    clear hw16 hO L15 N15 I15 J15 b'
    obtain ⟨y0, y1, y2, y3, y4, y5⟩ := L16.y.six
    obtain ⟨z0, z1, z2, z3, z4, z5⟩ := N16.y.six
    obtain ⟨t0, t1', t2', t3, t4, t5⟩ := Y16.six
    go_upto_region 19 with fail
    rw [← HW16.out]
    simp only [← HO.out]
    go_wp2_with fail
    refine (sameInts_true _ _ _ _ _ _ ws _ I16.sl.1 HE.out.1 I16.sl.2 L16.i.sl.2 (by have := HE.out; omega)).mono ?_
    rintro e w17 ⟨rfl, n17, hw17⟩
    have B17 : Below w.heap.size w w17 := by rw [hw17]; exact ⟨L16.b.os, L16.b.tape, L16.b.output, L16.b.size, L16.b.block⟩
    clear hw17
    go_wp2
    go_ret
    exact ⟨rfl, B17⟩
  · go_wp2
    go_ret
    exact ⟨rfl, L14.b⟩
  · skip
    have HR0 : Hid (OwnI w14 w14.heap.size (.slice none 0 0) [] ∧ OwnB w14 w14.heap.size (.slice none 0 0) []) := ⟨ownI_nil0 _ _, ownB_nil0 _ _⟩
    have HR : Hid _ := HT.out.wr HFL.out rfl
    go_wp2_with fail
    refine (implServe_q u1 u2 u3 u4 e1 e2 e3 e4 v1 v2 v3 v4 V.cs is V.hs rs 3 pl nn 0 none none 0 0 0 0 [] [] _ N14.r.sl.1 N14.r.sl.2 HSV.out HR0.out.1.sl.2 HR0.out.2.sl.2 rfl rfl (by simp) (by simp) _ HR.out).mono ?_
    rintro e w15 ⟨d1', d2', d3', d4', i1', i2', i3', i4', j1', j2', j3', j4', s1', s2', x1', x2', y1'', y2'', rfl, _, I15, J15, _, b'⟩
    have L15 := L14.below b'
    have N15 := N14.below b'
    clear L14 N14 b' y0 y1 y2 y3 y4 y5 z0 z1 z2 z3
    obtain ⟨w16, hw16⟩ : ∃ x, x = (w15.alloc (.cells #[.slice d1' i1' j1', .slice d2' i2' j2', .slice d3' i3' j3', .slice d4' i4' j4'] 36)).alloc (.cells #[.int .i64 3, .int .i64 0, .int .i64 0, .int .i64 0, .slice s1' x1' y1'', .slice s2' x2' y2''] 29) := ⟨_, rfl⟩
    obtain ⟨b', _, Y16⟩ := two_blk w15 _ _ _ _ w16 hw16
    obtain ⟨O, hO⟩ : ∃ x, x = w15.heap.size := ⟨_, rfl⟩
    rw [← hO] at Y16
    have L16 := L15.below b'
    have N16 := N15.below b'
    have I16 := OwnI.below I15 b'
    have J16 := OwnB.below J15 b'
    have HW16 : Hid (w16 = _) := hw16
    have HO : Hid (O = w15.heap.size) := hO
    clear hw16 hO L15 N15 I15 J15 b'
    obtain ⟨y0, y1, y2, y3, y4, y5⟩ := L16.y.six
    obtain ⟨z0, z1, z2, z3, z4, z5⟩ := N16.y.six
    obtain ⟨t0, t1', t2', t3, t4, t5⟩ := Y16.six
    go_upto_region 26 with fail
    rw [← HW16.out]
    simp only [← HO.out]
    go_wp2_with fail
    refine (sameInts_true _ _ _ _ _ _ V.ws _ I16.sl.1 N16.i.sl.1 I16.sl.2 N16.i.sl.2 HVL.out.1).mono ?_
    rintro e w17 ⟨rfl, n17, hw17⟩
    have B17 : Below w.heap.size w w17 := by rw [hw17]; exact ⟨L16.b.os, L16.b.tape, L16.b.output, L16.b.size, L16.b.block⟩
    clear hw17
    go_wp2
    go_ret
    exact ⟨rfl, B17⟩

end Go.Proofs.Ytfcbkollmhjdoaa
