/- A call and a line that came in, opened. -/
import Derived.Test.YtmhdneenjoelfaaArgQ
import Derived.Test.YtmhdneenjoelfaaLn1
import Derived.Deep.Slices
namespace Go.Proofs.Ytmhdneenjoelfaa
open Go.ChangeShapes Go.WideShapes Go.ChangeAt Go.RowKit Go.Deep Go.Joins

set_option linter.unusedVariables false

instance : Inhabited Ca := ⟨ca0⟩

theorem choose_lt' {α : Type} [Inhabited α] {p : Nat → α → Prop} {n : Nat} (h : ∀ k, k < n → ∃ x, p k x) : ∃ f : Nat → α, ∀ k, k < n → p k (f k) := by
  classical
  exact ⟨fun k => if hk : k < n then Classical.choose (h k hk) else default, fun k hk => by simp only [dif_pos hk]; exact Classical.choose_spec (h k hk)⟩

section
variable {H : Type} {enc : TypeId × Value → H} {P : Program} {w : World} {base : Nat} {held : Bool}

/-- What the walk is told of a call that came in. -/
def InCa (w : World) (C : Ca) (a b : Option Addr) : Prop := C.ws.length ≤ maxLen ∧ C.bs.length ≤ maxLen ∧ SlI w a C.ws ∧ SlB w b C.bs

/-- What the walk is told of a line that came in. -/
def InLn (w : World) (n : Nat) (f : Nat → Ca) (L : La) (a a1 a2 : Option Addr) (l1 l2 : Nat) : Prop := LnR w n f L a a1 a2 l1 l2 ∧ n ≤ maxLen ∧ (∀ k, k < n → (f k).ws.length ≤ maxLen ∧ (f k).bs.length ≤ maxLen) ∧ l1 ≤ maxLen ∧ l2 ≤ maxLen

theorem opened_cellsL {t e : TypeId} {fuel s : Nat} {a : Option Addr} {len cap : Nat} {x : DataW H × List MemPlace} (ht : P.underlying t = some (.slice e)) (hs : P.cellsOf e = s) (h0 : 0 < s)
    (hf : DataW.trod enc P w base (fun _ => true) held fuel t [.slice a len cap] = some x) :
    len ≤ maxLen ∧ ∃ F : Nat → List Value, SlS w a s len F ∧ ∀ k, k < len → (F k).length = s ∧ ∃ n y, DataW.trod enc P w base (fun _ => true) held n e (F k) = some y := by
  rcases open_slice ht hf with ⟨hcs, _⟩ | ⟨x, l, c, m, n, D, Pl, hcs, _, hl, hm, hmm, _, hx⟩
  · simp at hcs
    obtain ⟨rfl, rfl, rfl⟩ := hcs
    exact ⟨Nat.zero_le _, fun _ => [], .inl rfl, fun k hk => by omega⟩
  · simp at hcs
    obtain ⟨rfl, rfl, rfl⟩ := hcs
    simp only [if_true] at hmm
    subst hmm
    rw [hs] at hx
    obtain ⟨F, hF⟩ := choose_lt (α := List Value) (p := fun i cs' => w.cells? base (x.add (i * s)) s = some cs' ∧ DataW.trod enc P w base (fun _ => true) held n e cs' = some (D i, Pl i)) (fun i hi => hx i hi)
    refine ⟨by omega, F, ?_, fun k hk => ⟨(World.cells?_some (hF k (by omega)).1).2.1, n, _, (hF k (by omega)).2⟩⟩
    by_cases e0 : len = 0
    · exact .inl e0
    · have hc0 := (World.cells?_some (hF 0 (by omega)).1)
      obtain ⟨b, off, spot⟩ := x
      have hc := hc0.2.2 0 h0
      obtain ⟨v0, hv0⟩ : ∃ v, (F 0)[0]? = some v := ⟨(F 0)[0]'(by rw [hc0.2.1]; exact h0), by simp⟩
      rw [hv0] at hc
      have hspot : spot = none := by simpa [Addr.add] using World.cell?_spot hc
      subst hspot
      refine .inr ⟨b, off, rfl, (by simpa [Addr.add] using World.block_lt_of_cell? _ _ hc), fun k hk j hj => ?_⟩
      have h1 := (World.cells?_some (hF k (by omega)).1).2.2 j hj
      rw [← h1]
      have e1 : ∀ (o n : Nat), (Addr.mk b o none).add n = ⟨b, o + n, none⟩ := fun o n => by
        by_cases e : n = 0
        · subst e; rfl
        · simp [Addr.add, e]
      rw [e1, e1]

theorem opened_reqL {t i si sb tb : TypeId} {f0 f1 f2 f3 f4 f5 : Field} {n : Nat} {cs : List Value} {y : DataW H × List MemPlace} (hs : P.underlying t = some (.struct #[f0, f1, f2, f3, f4, f5])) (hone : oneCellFields P #[f0, f1, f2, f3, f4, f5] = true) (hC : P.cellsOf t = 6)
    (e0 : f0.type = i) (e1 : f1.type = i) (e2 : f2.type = i) (e3 : f3.type = si) (e4 : f4.type = sb) (e5 : f5.type = i) (hi : P.underlying i = some (.int .i64)) (hsi : P.underlying si = some (.slice i)) (hsb : P.underlying sb = some (.slice tb)) (htb : P.underlying tb = some .bool) (hci : P.cellsOf i = 1) (hcb : P.cellsOf tb = 1)
    (h : DataW.trod enc P w base (fun _ => true) held n t cs = some y) :
    ∃ kd pl nn wa a b la ca lb cb ws bs, cs = [.int .i64 kd, .int .i64 pl, .int .i64 nn, .slice a la ca, .slice b lb cb, .int .i64 wa] ∧ InReq w kd pl nn wa a b la lb ws bs := by
  obtain ⟨xs, m, _, hx, hl, hlen, hg⟩ := DataW.trod_struct hs h
  rw [hC] at hl
  match cs, hl with
  | [c0, c1, c2, c3, c4, c5], _ =>
    obtain ⟨o0, k0⟩ := hone_of hone 0 f0 rfl
    obtain ⟨o1, k1⟩ := hone_of hone 1 f1 rfl
    obtain ⟨o2, k2⟩ := hone_of hone 2 f2 rfl
    obtain ⟨o3, k3⟩ := hone_of hone 3 f3 rfl
    obtain ⟨o4, k4⟩ := hone_of hone 4 f4 rfl
    obtain ⟨o5, k5⟩ := hone_of hone 5 f5 rfl
    have h0 := hg 0 f0 rfl
    have h1 := hg 1 f1 rfl
    have h2 := hg 2 f2 rfl
    have h3 := hg 3 f3 rfl
    have h4 := hg 4 f4 rfl
    have h5 := hg 5 f5 rfl
    match xs, hlen with
    | [y0, y1, y2, y3, y4, y5], _ =>
      obtain ⟨z0, rfl, w0⟩ := opened_int1 (c := c0) (y := y0) hi (by rw [← e0]; simpa [o0, k0] using h0)
      obtain ⟨z1, rfl, w1⟩ := opened_int1 (c := c1) (y := y1) hi (by rw [← e1]; simpa [o1, k1] using h1)
      obtain ⟨z2, rfl, w2⟩ := opened_int1 (c := c2) (y := y2) hi (by rw [← e2]; simpa [o2, k2] using h2)
      obtain ⟨z5, rfl, w5⟩ := opened_int1 (c := c5) (y := y5) hi (by rw [← e5]; simpa [o5, k5] using h5)
      have q3 : DataW.trod enc P w base (fun _ => true) held m si [c3] = some y3 := by rw [← e3]; simpa [o3, k3] using h3
      have q4 : DataW.trod enc P w base (fun _ => true) held m sb [c4] = some y4 := by rw [← e4]; simpa [o4, k4] using h4
      obtain ⟨a, la, ca, hcs⟩ := slice_form hsi q3
      simp at hcs
      subst hcs
      obtain ⟨b, lb, cb, hcs⟩ := slice_form hsb q4
      simp at hcs
      subst hcs
      obtain ⟨ws, hws⟩ := opened_ios hsi hi hci q3
      obtain ⟨⟨bs, hbs⟩, hm⟩ := opened_bosm hsb htb hcb q4
      exact ⟨z0, z1, z2, z5, a, b, la, ca, lb, cb, ws, bs, rfl, hws, hbs, hm, w0, w1, w2, w5⟩

theorem opened_callL {tc t i si sb tb : TypeId} {g0 g1 g2 g3 f0 f1 f2 f3 f4 f5 : Field} {n : Nat} {cs : List Value} {y : DataW H × List MemPlace} (hsc : P.underlying tc = some (.struct #[g0, g1, g2, g3])) (hCc : P.cellsOf tc = 9) (p0 : g0.offset = 0) (p1 : g1.offset = 1) (p2 : g2.offset = 2) (p3 : g3.offset = 3) (r0 : g0.type = i) (r1 : g1.type = i) (r2 : g2.type = i) (r3 : g3.type = t)
    (hs : P.underlying t = some (.struct #[f0, f1, f2, f3, f4, f5])) (hone : oneCellFields P #[f0, f1, f2, f3, f4, f5] = true) (hC : P.cellsOf t = 6)
    (e0 : f0.type = i) (e1 : f1.type = i) (e2 : f2.type = i) (e3 : f3.type = si) (e4 : f4.type = sb) (e5 : f5.type = i) (hi : P.underlying i = some (.int .i64)) (hsi : P.underlying si = some (.slice i)) (hsb : P.underlying sb = some (.slice tb)) (htb : P.underlying tb = some .bool) (hci : P.cellsOf i = 1) (hcb : P.cellsOf tb = 1)
    (h : DataW.trod enc P w base (fun _ => true) held n tc cs = some y) :
    ∃ C a b ca cb, cs = calL C a b C.ws.length C.bs.length ca cb ∧ InCa w C a b := by
  obtain ⟨xs, m, _, hx, hl, hlen, hg⟩ := DataW.trod_struct hsc h
  rw [hCc] at hl
  match cs, hl with
  | [c0, c1, c2, c3, c4, c5, c6, c7, c8], _ =>
    have h0 := hg 0 g0 rfl
    have h1 := hg 1 g1 rfl
    have h2 := hg 2 g2 rfl
    have h3 := hg 3 g3 rfl
    rw [p0, r0, hci] at h0
    rw [p1, r1, hci] at h1
    rw [p2, r2, hci] at h2
    rw [p3, r3, hC] at h3
    match xs, hlen with
    | [y0, y1, y2, y3], _ =>
      obtain ⟨z0, rfl, w0⟩ := opened_int1 (c := c0) (y := y0) hi (by simpa using h0)
      obtain ⟨z1, rfl, w1⟩ := opened_int1 (c := c1) (y := y1) hi (by simpa using h1)
      obtain ⟨z2, rfl, w2⟩ := opened_int1 (c := c2) (y := y2) hi (by simpa using h2)
      obtain ⟨kd, pl, nn, wa, a, b, la, ca, lb, cb, ws, bs, he, hq⟩ := opened_reqL hs hone hC e0 e1 e2 e3 e4 e5 hi hsi hsb htb hci hcb (cs := [c3, c4, c5, c6, c7, c8]) (y := y3) (by simpa using h3)
      simp only [List.cons.injEq, and_true] at he
      obtain ⟨rfl, rfl, rfl, rfl, rfl, rfl⟩ := he
      obtain ⟨q1, q2, q3, _⟩ := hq
      refine ⟨⟨z0, z1, z2, kd, pl, nn, wa, ws, bs⟩, a, b, ca, cb, ?_, ?_⟩
      · simp [calL, q1.1, q2.1]
      · exact ⟨by rw [q1.1]; exact q1.2.1, by rw [q2.1]; exact q3, q1.2.2.1, q2.2⟩

theorem array17 {α : Type} {cs : Array α} (h : cs.size = 17) : ∃ c0 c1 c2 c3 c4 c5 c6 c7 c8 c9 c10 c11 c12 c13 c14 c15 c16, cs = #[c0, c1, c2, c3, c4, c5, c6, c7, c8, c9, c10, c11, c12, c13, c14, c15, c16] := by
  obtain ⟨l⟩ := cs
  match l, h with
  | [c0, c1, c2, c3, c4, c5, c6, c7, c8, c9, c10, c11, c12, c13, c14, c15, c16], _ => exact ⟨c0, c1, c2, c3, c4, c5, c6, c7, c8, c9, c10, c11, c12, c13, c14, c15, c16, rfl⟩

theorem opened_boolL {t : TypeId} {n : Nat} {c : Value} {y : DataW H × List MemPlace} {spare : Nat → Bool} (ht : P.underlying t = some .bool) (h : DataW.trod enc P w base spare held n t [c] = some y) : ∃ x, c = .bool x := by
  obtain ⟨x, h1, _⟩ := DataW.trod_bool ht h
  exact ⟨x, by simpa using h1⟩

theorem opened_line {r : Reach} {b0 : Nat} {tl' sc tc t i si sb tb : TypeId} {m0 m1 m2 m3 m4 m5 m6 m7 m8 g0 g1 g2 g3 f0 f1 f2 f3 f4 f5 : Field} {v : Value} {d : DataW H} {p : List MemPlace} (hsl : P.underlying tl' = some (.struct #[m0, m1, m2, m3, m4, m5, m6, m7, m8])) (hCl : P.cellsOf tl' = 17)
    (u0 : m0.offset = 0) (u1 : m1.offset = 1) (u2 : m2.offset = 2) (u3 : m3.offset = 11) (u4 : m4.offset = 12) (u5 : m5.offset = 13) (u6 : m6.offset = 14) (u7 : m7.offset = 15) (u8 : m8.offset = 16)
    (v0 : m0.type = sc) (v1 : m1.type = tb) (v2 : m2.type = tc) (v3 : m3.type = i) (v4 : m4.type = i) (v5 : m5.type = i) (v6 : m6.type = i) (v7 : m7.type = i) (v8 : m8.type = i) (hss : P.underlying sc = some (.slice tc)) (hcs : P.cellsOf sc = 1)
    (hsc : P.underlying tc = some (.struct #[g0, g1, g2, g3])) (hCc : P.cellsOf tc = 9) (p0 : g0.offset = 0) (p1 : g1.offset = 1) (p2 : g2.offset = 2) (p3 : g3.offset = 3) (r0 : g0.type = i) (r1 : g1.type = i) (r2 : g2.type = i) (r3 : g3.type = t)
    (hs : P.underlying t = some (.struct #[f0, f1, f2, f3, f4, f5])) (hone : oneCellFields P #[f0, f1, f2, f3, f4, f5] = true) (hC : P.cellsOf t = 6)
    (e0 : f0.type = i) (e1 : f1.type = i) (e2 : f2.type = i) (e3 : f3.type = si) (e4 : f4.type = sb) (e5 : f5.type = i) (hi : P.underlying i = some (.int .i64)) (hsi : P.underlying si = some (.slice i)) (hsb : P.underlying sb = some (.slice tb)) (htb : P.underlying tb = some .bool) (hci : P.cellsOf i = 1) (hcb : P.cellsOf tb = 1)
    (hv : Value.okWide P w r b0 tl' v) (h : DataW.Trod enc P w base (fun _ => true) held tl' v d p) :
    ∃ L a n cp a1 a2 l1 l2 c1 c2 f, v = .agg (lac L a n cp a1 a2 l1 l2 c1 c2) ∧ InLn w n f L a a1 a2 l1 l2 := by
  obtain ⟨cs, rfl, hsz⟩ := okWide_struct hsl hv
  obtain ⟨c0, c1, c2, c3, c4, c5, c6, c7, c8, c9, c10, c11, c12, c13, c14, c15, c16, rfl⟩ := array17 (hsz.trans hCl)
  obtain ⟨fuel, hf'⟩ := h
  obtain ⟨xs, m, _, hx, hl, hlen, hg⟩ := DataW.trod_struct hsl hf'
  have h0 := hg 0 m0 rfl
  have h1 := hg 1 m1 rfl
  have h2 := hg 2 m2 rfl
  have h3 := hg 3 m3 rfl
  have h4 := hg 4 m4 rfl
  have h5 := hg 5 m5 rfl
  have h6 := hg 6 m6 rfl
  have h7 := hg 7 m7 rfl
  have h8 := hg 8 m8 rfl
  rw [u0, v0, hcs] at h0
  rw [u1, v1, hcb] at h1
  rw [u2, v2, hCc] at h2
  rw [u3, v3, hci] at h3
  rw [u4, v4, hci] at h4
  rw [u5, v5, hci] at h5
  rw [u6, v6, hci] at h6
  rw [u7, v7, hci] at h7
  rw [u8, v8, hci] at h8
  match xs, hlen with
  | [y0, y1, y2, y3, y4, y5, y6, y7, y8], _ =>
    obtain ⟨z1, rfl⟩ := opened_boolL (c := c1) (y := y1) htb (by simpa [Value.cells] using h1)
    obtain ⟨z3, rfl, _⟩ := opened_int1 (c := c11) (y := y3) hi (by simpa [Value.cells] using h3)
    obtain ⟨z4, rfl, _⟩ := opened_int1 (c := c12) (y := y4) hi (by simpa [Value.cells] using h4)
    obtain ⟨z5, rfl, _⟩ := opened_int1 (c := c13) (y := y5) hi (by simpa [Value.cells] using h5)
    obtain ⟨z6, rfl, _⟩ := opened_int1 (c := c14) (y := y6) hi (by simpa [Value.cells] using h6)
    obtain ⟨z7, rfl, _⟩ := opened_int1 (c := c15) (y := y7) hi (by simpa [Value.cells] using h7)
    obtain ⟨z8, rfl, _⟩ := opened_int1 (c := c16) (y := y8) hi (by simpa [Value.cells] using h8)
    obtain ⟨C, a1, a2, ca, cb, he, hq⟩ := opened_callL hsc hCc p0 p1 p2 p3 r0 r1 r2 r3 hs hone hC e0 e1 e2 e3 e4 e5 hi hsi hsb htb hci hcb (cs := [c2, c3, c4, c5, c6, c7, c8, c9, c10]) (y := y2) (by simpa [Value.cells] using h2)
    simp only [calL, List.cons.injEq, and_true] at he
    obtain ⟨rfl, rfl, rfl, rfl, rfl, rfl, rfl, rfl, rfl⟩ := he
    have q0 : DataW.trod enc P w base (fun _ => true) held m sc [c0] = some y0 := by simpa [Value.cells] using h0
    obtain ⟨a, n, cp, hc0⟩ := slice_form hss q0
    simp at hc0
    subst hc0
    obtain ⟨hm, F, hS, hF⟩ := opened_cellsL hss hCc (by decide) q0
    obtain ⟨f, hf⟩ := choose_lt' (p := fun k C => ∃ a b ca cb, F k = calL C a b C.ws.length C.bs.length ca cb ∧ InCa w C a b) (n := n) (fun k hk => by
      obtain ⟨hlk, n', y', hy'⟩ := hF k hk
      exact opened_callL hsc hCc p0 p1 p2 p3 r0 r1 r2 r3 hs hone hC e0 e1 e2 e3 e4 e5 hi hsi hsb htb hci hcb hy')
    refine ⟨⟨z1, C, z3, z4, z5, z6, z7, z8⟩, a, n, cp, a1, a2, _, _, ca, cb, f, rfl, ⟨rfl, rfl, ⟨F, hS, fun k hk => ?_⟩, hq.2.2.1, hq.2.2.2⟩, hm, fun k hk => ?_, hq.1, hq.2.1⟩
    · obtain ⟨b1, b2, k1, k2, hFk, hin⟩ := hf k hk
      exact ⟨b1, b2, k1, k2, by rw [hFk]; exact cal_els _ _ _ _ _ _ _ rfl rfl, hin.2.2.1, hin.2.2.2⟩
    · obtain ⟨b1, b2, k1, k2, hFk, hin⟩ := hf k hk
      exact ⟨hin.1, hin.2.1⟩

theorem opened_call {r : Reach} {b0 : Nat} {tc t i si sb tb : TypeId} {g0 g1 g2 g3 f0 f1 f2 f3 f4 f5 : Field} {v : Value} {d : DataW H} {p : List MemPlace} (hsc : P.underlying tc = some (.struct #[g0, g1, g2, g3])) (hCc : P.cellsOf tc = 9) (p0 : g0.offset = 0) (p1 : g1.offset = 1) (p2 : g2.offset = 2) (p3 : g3.offset = 3) (r0 : g0.type = i) (r1 : g1.type = i) (r2 : g2.type = i) (r3 : g3.type = t)
    (hs : P.underlying t = some (.struct #[f0, f1, f2, f3, f4, f5])) (hone : oneCellFields P #[f0, f1, f2, f3, f4, f5] = true) (hC : P.cellsOf t = 6)
    (e0 : f0.type = i) (e1 : f1.type = i) (e2 : f2.type = i) (e3 : f3.type = si) (e4 : f4.type = sb) (e5 : f5.type = i) (hi : P.underlying i = some (.int .i64)) (hsi : P.underlying si = some (.slice i)) (hsb : P.underlying sb = some (.slice tb)) (htb : P.underlying tb = some .bool) (hci : P.cellsOf i = 1) (hcb : P.cellsOf tb = 1)
    (hv : Value.okWide P w r b0 tc v) (h : DataW.Trod enc P w base (fun _ => true) held tc v d p) :
    ∃ C a b la ca lb cb, v = .agg (cac C a b la lb ca cb) ∧ la = C.ws.length ∧ lb = C.bs.length ∧ InCa w C a b := by
  obtain ⟨cs, rfl, hsz⟩ := okWide_struct hsc hv
  obtain ⟨fuel, hf'⟩ := h
  obtain ⟨C, a, b, ca, cb, he, hq⟩ := opened_callL hsc hCc p0 p1 p2 p3 r0 r1 r2 r3 hs hone hC e0 e1 e2 e3 e4 e5 hi hsi hsb htb hci hcb hf'
  refine ⟨C, a, b, _, ca, _, cb, ?_, rfl, rfl, hq⟩
  obtain ⟨l⟩ := cs
  simp only [Value.cells] at he
  rw [show l = calL C a b C.ws.length C.bs.length ca cb from he]
end

end Go.Proofs.Ytmhdneenjoelfaa
