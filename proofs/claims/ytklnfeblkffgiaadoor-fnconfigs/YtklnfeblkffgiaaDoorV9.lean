/- Texts that the proof needs, joined: Cf1 De1 De2 Tx0 Tx1. -/
import Derived.Test.YtklnfeblkffgiaaDoorV7
import Derived.Test.YtklnfeblkffgiaaDoorV8
import Derived.Test.YtklnfeblkffgiaaDoorV1
import Derived.Lib.ItoaNum
import Derived.Laws.IdiomStrings
import Derived.Laws.Concat
import Derived.Deep.RegionWith
import Derived.Lib.ItoaMem
namespace Go.Proofs.YtklnfeblkffgiaaDoor
open Go.RowKit
set_option linter.unusedVariables false
set_option linter.unusedSimpArgs false
theorem Blk.thr {w : World} {g : Nat} {t : TypeId} {v0 v1 v2 : Value} (h : Blk w g t #[v0, v1, v2]) : (w.cell? ⟨g, 0, none⟩ = some v0 ∧ w.cell? ⟨g, 1, none⟩ = some v1 ∧ w.cell? ⟨g, 2, none⟩ = some v2) ∧ w.frozen? ⟨g, 0, none⟩ = false ∧ w.frozen? ⟨g, 1, none⟩ = false ∧ w.frozen? ⟨g, 2, none⟩ = false :=
  ⟨⟨h.cell 0 rfl, h.cell 1 rfl, h.cell 2 rfl⟩, h.fro 0, h.fro 1, h.fro 2⟩
abbrev cfc (wt tr : Int) (a : Option Addr) (n c : Nat) : Array Value := #[.int .i64 wt, .int .i64 tr, .slice a n c]
def okC (wt tr : Int) (b : Bool) : Bool := (inB wt 1 100 && inB tr 0 5) && b
set_option maxHeartbeats 1000000 in
theorem specConfigOk_any (wt tr : Int) (a : Option Addr) (n cap : Nat) (f : Nat → Ru) (w : World) (hs : SlU w a n f) (hl : n ≤ 2000000) (b : Bool) (hb : b = true ↔ OkRs f n) :
    Calls Tryd.prog 9 #[.agg (cfc wt tr a n cap)] w fun e w' => e = .returned (.bool (okC wt tr b)) ∧ Below w.heap.size w w' := by
  have bW := bel_alloc w (.cells (cfc wt tr a n cap) 26)
  have HS : Hid (SlU (w.alloc (.cells (cfc wt tr a n cap) 26)) a n f ∧ Below w.heap.size w (w.alloc (.cells (cfc wt tr a n cap) 26))) := ⟨SlS.below hs bW, bW⟩
  have HB : Hid (b = true ↔ OkRs f n) := hb
  clear hs bW hb
  obtain ⟨c1, hc1⟩ : ∃ c1, c1 = inB wt 1 100 := ⟨_, rfl⟩
  obtain ⟨c2, hc2⟩ : ∃ c2, c2 = inB tr 0 5 := ⟨_, rfl⟩
  have HE : Hid (okC wt tr b = (c1 && c2 && b) ∧ inB wt 1 100 = c1 ∧ inB tr 0 5 = c2) := ⟨by unfold okC; rw [hc1, hc2], hc1.symm, hc2.symm⟩
  rw [HE.out.1]
  clear hc1 hc2
  go_enter Tryd.func9, Tryd.ntmps9
  go_wp2_with fail
  refine (l1In_any _ _ _ _ c1 HE.out.2.1).mono ?_
  rintro e w1 ⟨rfl, rfl⟩
  cases c1 with
  | false =>
    go_wp2
    go_ret
    exact ⟨rfl, HS.out.2⟩
  | true =>
    go_wp2_with fail
    refine (l1In_any _ _ _ _ c2 HE.out.2.2).mono ?_
    rintro e w1 ⟨rfl, rfl⟩
    cases c2 with
    | false =>
      go_wp2
      go_ret
      exact ⟨rfl, HS.out.2⟩
    | true =>
      go_wp2_with fail
      refine (specRulesOk_any a n cap f _ HS.out.1 hl b HB.out).mono ?_
      rintro e w2 ⟨rfl, b2⟩
      have B2 := bel_next HS.out.2 b2
      clear b2
      go_wp2
      go_ret
      exact ⟨rfl, B2⟩
set_option maxHeartbeats 1000000 in
theorem isWait_any (x : Int) (w : World) (b : Bool) (hb : inB x 1 100 = b) : Calls Tryd.prog 24 #[.int .i64 x] w fun e w' => e = .returned (.bool b) ∧ w' = w := by
  subst hb
  unfold inB
  by_cases h1 : 1 ≤ x
  · by_cases h2 : x ≤ 100
    · rw [decide_eq_true ⟨h1, h2⟩]
      go_enter Tryd.func24, Tryd.ntmps24
      go_wp2_with (go_at_call 43; go_in)
      go_ret
      exact ⟨rfl, rfl⟩
    · rw [decide_eq_false (fun h => h2 h.2)]
      go_enter Tryd.func24, Tryd.ntmps24
      go_wp2_with (go_at_call 43; go_in)
      go_ret
      exact ⟨rfl, rfl⟩
  · rw [decide_eq_false (fun h => h1 h.1)]
    go_enter Tryd.func24, Tryd.ntmps24
    go_wp2_with (go_at_call 43; go_in)
    go_ret
    exact ⟨rfl, rfl⟩
set_option maxHeartbeats 1000000 in
theorem isTries_any (x : Int) (w : World) (b : Bool) (hb : inB x 0 5 = b) : Calls Tryd.prog 25 #[.int .i64 x] w fun e w' => e = .returned (.bool b) ∧ w' = w := by
  subst hb
  unfold inB
  by_cases h1 : 0 ≤ x
  · by_cases h2 : x ≤ 5
    · rw [decide_eq_true ⟨h1, h2⟩]
      go_enter Tryd.func25, Tryd.ntmps25
      go_wp2
      go_ret
      exact ⟨rfl, rfl⟩
    · rw [decide_eq_false (fun h => h2 h.2)]
      go_enter Tryd.func25, Tryd.ntmps25
      go_wp2
      go_ret
      exact ⟨rfl, rfl⟩
  · rw [decide_eq_false (fun h => h1 h.1)]
    go_enter Tryd.func25, Tryd.ntmps25
    go_wp2
    go_ret
    exact ⟨rfl, rfl⟩
set_option maxHeartbeats 1000000 in
theorem implConfigOk_any (wt tr : Int) (a : Option Addr) (n cap : Nat) (f : Nat → Ru) (w : World) (hs : SlU w a n f) (hl : n ≤ 2000000) (h64 : ∀ k, k < n → -9223372036854775808 ≤ (f k).sh ∧ (f k).sh ≤ 9223372036854775807) (b : Bool) (hb : b = true ↔ OkRs f n) :
    Calls Tryd.prog 10 #[.agg (cfc wt tr a n cap)] w fun e w' => e = .returned (.bool (okC wt tr b)) ∧ Below w.heap.size w w' := by
  have bW := bel_alloc w (.cells (cfc wt tr a n cap) 26)
  have HS : Hid (SlU (w.alloc (.cells (cfc wt tr a n cap) 26)) a n f ∧ Below w.heap.size w (w.alloc (.cells (cfc wt tr a n cap) 26))) := ⟨SlS.below hs bW, bW⟩
  have HB : Hid ((b = true ↔ OkRs f n) ∧ ∀ k, k < n → -9223372036854775808 ≤ (f k).sh ∧ (f k).sh ≤ 9223372036854775807) := ⟨hb, h64⟩
  clear hs bW hb h64
  obtain ⟨c1, hc1⟩ : ∃ c1, c1 = inB wt 1 100 := ⟨_, rfl⟩
  obtain ⟨c2, hc2⟩ : ∃ c2, c2 = inB tr 0 5 := ⟨_, rfl⟩
  have HE : Hid (okC wt tr b = (c1 && c2 && b) ∧ inB wt 1 100 = c1 ∧ inB tr 0 5 = c2) := ⟨by unfold okC; rw [hc1, hc2], hc1.symm, hc2.symm⟩
  rw [HE.out.1]
  clear hc1 hc2
  go_enter Tryd.func10, Tryd.ntmps10
  go_wp2_with fail
  refine (isWait_any _ _ c1 HE.out.2.1).mono ?_
  rintro e w1 ⟨rfl, rfl⟩
  cases c1 with
  | false =>
    go_wp2
    go_ret
    exact ⟨rfl, HS.out.2⟩
  | true =>
    go_wp2_with fail
    refine (isTries_any _ _ c2 HE.out.2.2).mono ?_
    rintro e w1 ⟨rfl, rfl⟩
    cases c2 with
    | false =>
      go_wp2
      go_ret
      exact ⟨rfl, HS.out.2⟩
    | true =>
      go_wp2_with fail
      refine (implRulesOk_any a n cap f _ HS.out.1 hl HB.out.2 b HB.out.1).mono ?_
      rintro e w2 ⟨rfl, b2⟩
      have B2 := bel_next HS.out.2 b2
      clear b2
      go_wp2
      go_ret
      exact ⟨rfl, B2⟩
end Go.Proofs.YtklnfeblkffgiaaDoor
namespace Go.Proofs.YtklnfeblkffgiaaDoor
open Go.RowKit
set_option linter.unusedVariables false
set_option linter.unusedSimpArgs false
theorem gset (w : World) (g o : Nat) (v : Value) : w.grownBy (w.setCell ⟨g, o, none⟩ v) (some g) :=
  ⟨rfl, rfl, rfl, by simp [World.setCell], fun k hk hne => Below.heap_setCell _ _ _ _ (fun e => hne (by simpa using e))⟩
theorem ghi {w u : World} {g B j : Nat} {y : Value} (hB : w.heap.size ≤ B) (h : w.grownBy u (some g)) : w.grownBy (u.setCell ⟨B, j, none⟩ y) (some g) := by
  have h2 : u.grownBy (u.setCell ⟨B, j, none⟩ y) (some B) := gset u B j y
  exact ⟨h2.os.trans h.os, h2.tape.trans h.tape, h2.output.trans h.output, Nat.le_trans h.size h2.size, fun k hk hne => (h2.block k (Nat.lt_of_lt_of_le hk h.size) (fun e => by have := Option.some.inj e; omega)).trans (h.block k hk hne)⟩
section
variable {w0 : World} {a : Option Addr} {cap : Nat} {zs : List Int} {w : World} {g m : Nat} {v : Value} {u u' : World}
theorem VU.base {w2 : World} (h : VU w0 a cap zs w2 g m v u) (hg : w.grownBy w2 (some g)) (hlt : g < w.heap.size) : VU w0 a cap zs w g m v u := by
  obtain ⟨va, vn, vc, l, k, e1, e2, e3, e4, D⟩ := h
  exact ⟨va, vn, vc, l, k, e1, e2, e3, e4, D.mono hg hlt⟩
theorem VU.alloc (h : VU w0 a cap zs w g m v u) (o : Obj) : VU w0 a cap zs w g m v (u.alloc o) := by
  obtain ⟨va, vn, vc, l, k, e1, e2, e3, e4, D⟩ := h
  exact ⟨va, vn, vc, l, k, e1, e2, e3, e4, D.alloc o⟩
theorem VU.lt (h : VU w0 a cap zs w g m v u) : g < w.heap.size := by
  obtain ⟨va, vn, vc, l, k, e1, e2, e3, e4, D⟩ := h
  exact D.lt
theorem VU.setc (h : VU w0 a cap zs w g m v u) (hw : w0.heap.size ≤ w.heap.size) {B j : Nat} {cs : Array Value} {y : Value} (hb : Blk u B 26 cs) (hB : w.heap.size ≤ B) : VU w0 a cap zs w g m v (u.setCell ⟨B, j, none⟩ y) := by
  obtain ⟨va, vn, vc, l, k, e1, e2, e3, e4, D⟩ := h
  have hlt := D.lt
  refine ⟨va, vn, vc, l, k, e1, e2, e3, e4, D.cur.grown (gset u B j y) (fun e => by have := Option.some.inj e; omega) (fun k hk => by have := Option.some.inj hk; omega), ghi hB D.gr, row_setE D.own ⟨_, hb⟩ (by decide), D.lt, D.s64⟩
end
set_option maxRecDepth 20000 in
set_option maxHeartbeats 2000000 in
theorem l11Draw_any (w0 : World) (a : Option Addr) (cap : Nat) (zs : List Int) (w : World) (g : Nat) (hC : Cur w0 a cap zs w g) (hw0 : w0.heap.size ≤ w.heap.size) :
    Calls Tryd.prog 37 #[.pointer (some ⟨g, 0, none⟩)] w fun e w' => ∃ (wt tr : Int) (va : Option Addr) (vn vc : Nat), e = .returned (.agg (cfc wt tr va vn vc)) ∧ (1 ≤ wt ∧ wt ≤ 4) ∧ (0 ≤ tr ∧ tr ≤ 2) ∧ VU w0 a cap zs w g 24 (.slice va vn vc) w' := by
  have hlt := hC.hi
  obtain ⟨W, hW⟩ : ∃ W, W = w.alloc (.cells (cfc 0 0 none 0 0) 26) := ⟨_, rfl⟩
  have HB : Hid (Cur w0 a cap zs W g ∧ w.grownBy W (some g) ∧ Blk W w.heap.size 26 (cfc 0 0 none 0 0)) := by
    rw [hW]
    exact ⟨hC.alloc _, World.grownBy_alloc w _ _, Blk.new w _ _⟩
  have hlt2 : g < W.heap.size := Nat.lt_of_lt_of_le hlt HB.out.2.1.size
  have hw02 : w0.heap.size ≤ W.heap.size := Nat.le_trans hw0 HB.out.2.1.size
  go_enter Tryd.func37, Tryd.ntmps37
  go_wp2_with fail
  rw [← hW]
  refine (l10Rules_any w0 a cap zs W g HB.out.1 (Nat.le_trans hw0 HB.out.2.1.size)).mono ?_
  intro e w1 h1
  obtain ⟨va, vn, vc, rfl, V1⟩ := VU.of h1 (World.grownBy.refl W _) hlt2
  clear h1 hC hW
  go_wp2_with fail
  refine (l1Once_any w0 a cap zs _ g 2 (by decide) V1.read.2.2.1).mono ?_
  rintro e w2 ⟨t, rfl, C2, g2⟩
  have V2 := V1.call C2 g2
  clear V1 C2 g2
  have HV2 : Hid (VU w0 a cap zs W g 12 (.slice va vn vc) w2) := V2
  clear V2
  go_upto_if 7 with fail
  go_cut [3] (fun sv wx => ∃ va vn vc, sv = .slice va vn vc ∧ VU w0 a cap zs W g 28 (.slice va vn vc) wx)
  case first =>
    cases t with
    | false =>
      go_wp2_with fail
      go_meet
      obtain ⟨va', vn', vc', l, k, q1, q2, q3, q4, D⟩ := HV2.out
      exact ⟨va, vn, vc, rfl, va', vn', vc', l, k, q1, q2, q3, by omega, D⟩
    | true =>
      go_wp2_with fail
      refine (l10One_any w0 a cap zs _ g HV2.out.read.2.2.1 (Nat.le_trans hw02 HV2.out.read.2.2.2.1.size)).mono ?_
      intro e w3 h3
      obtain ⟨va3, vn3, vc3, rfl, V3⟩ := VU.of h3 HV2.out.read.2.2.2.1 hlt2
      have HV3 : Hid (VU w0 a cap zs W g 28 (.slice va3 vn3 vc3) w3) := V3
      clear h3 V3 HV2
      go_wp2_with fail
      go_meet
      exact ⟨va3, vn3, vc3, rfl, HV3.out⟩
  case rest =>
  obtain ⟨va3, vn3, vc3, rfl, V3⟩ := hcut
  have HV3 : Hid (VU w0 a cap zs W g 28 (.slice va3 vn3 vc3) wc) := V3
  clear V3 HV2
  obtain ⟨W3, hW3⟩ : ∃ W3, W3 = wc := ⟨_, rfl⟩
  rw [← hW3] at HV3 ⊢
  clear hW3
  go_upto_if 12 with fail
  go_cut [3] (fun sv wx => ∃ va vn vc, sv = .slice va vn vc ∧ VU w0 a cap zs W g 24 (.slice va vn vc) wx)
  case first =>
    by_cases h24 : 24 < vn3
    · have d : (24 : Int) < (vn3 : Int) := by omega
      have hc24 : vn3 ≤ vc3 := HV3.out.read.2.1
      have hc24' : (24 : Int) ≤ (vc3 : Int) := by omega
      go_wp2_with fail
      go_meet
      obtain ⟨va', vn', vc', l, k, q1, q2, q3, q4, D⟩ := HV3.out
      simp only [Value.slice.injEq] at q1
      obtain ⟨rfl, rfl, rfl⟩ := q1
      exact ⟨_, _, _, rfl, va3, vn', vc3, l, 24, by first | rfl | simp, q2, by omega, by omega, D⟩
    · have d : ¬ (24 : Int) < (vn3 : Int) := by omega
      go_wp2_with fail
      go_meet
      obtain ⟨va', vn', vc', l, k, q1, q2, q3, q4, D⟩ := HV3.out
      simp only [Value.slice.injEq] at q1
      obtain ⟨rfl, rfl, rfl⟩ := q1
      exact ⟨_, _, _, rfl, va3, vn', vc3, l, vn3, rfl, q2, q3, by omega, D⟩
  case rest =>
  obtain ⟨va4, vn4, vc4, rfl, V4⟩ := hcut
  clear HV3
  go_wp2_with fail
  refine (l1Below_any w0 a cap zs _ g 4 (by decide) V4.read.2.2.1).mono ?_
  rintro e w5 ⟨x5, rfl, b5, C5, g5⟩
  have V5 := V4.call C5 g5
  clear V4 C5 g5
  go_wp2_with fail
  refine (l1Below_any w0 a cap zs _ g 3 (by decide) V5.read.2.2.1).mono ?_
  rintro e w6 ⟨x6, rfl, b6, C6, g6⟩
  have V6 := V5.call C6 g6
  clear V5 C6 g6
  have HV6 := hide V6
  obtain ⟨B, hB⟩ : ∃ B, B = w.heap.size := ⟨_, rfl⟩
  have K6 := HB.out.2.2.grown V6.read.2.2.2.1 (fun e => by have := Option.some.inj e; omega)
  rw [← hB] at K6 ⊢
  have HBE := hide hB
  clear hB V6
  obtain ⟨⟨x0, x1, x2⟩, f0, f1, f2⟩ := K6.thr
  have hx5 : IntKind.i64.wrap (1 + x5) = 1 + x5 := by rw [IntKind.wrap_i64]; omega
  obtain ⟨W7, hW7⟩ : ∃ W7, W7 = ((w6.setCell ⟨B, 0, none⟩ (.int .i64 (1 + x5))).setCell ⟨B, 1, none⟩ (.int .i64 x6)).setCell ⟨B, 2, none⟩ (.slice va4 vn4 vc4) := ⟨_, rfl⟩
  have H7 : Hid (Blk W7 B 26 (cfc (1 + x5) x6 va4 vn4 vc4) ∧ VU w0 a cap zs w g 24 (.slice va4 vn4 vc4) W7) := by
    rw [hW7]
    have hBl : w.heap.size ≤ B := by rw [HBE.out]; exact Nat.le_refl _
    have V := HV6.out.base HB.out.2.1 hlt
    have k1 := K6.set 0 (.int .i64 (1 + x5))
    have k2 := k1.set 1 (.int .i64 x6)
    have k3 := k2.set 2 (.slice va4 vn4 vc4)
    exact ⟨by simpa using k3, ((V.setc hw0 K6 hBl).setc hw0 k1 hBl).setc hw0 k2 hBl⟩
  obtain ⟨⟨k0, k1, k2⟩, _⟩ := H7.out.1.thr
  clear K6 HV6
  go_wp2
  rw [← hW7]
  refine bodyPost_ret (v := .agg (cfc (1 + x5) x6 va4 vn4 vc4)) (by simp [results, Tryd.results37, go_sem, k0, k1, k2]) rfl ⟨1 + x5, x6, va4, vn4, vc4, rfl, by omega, by omega, H7.out.2⟩
end Go.Proofs.YtklnfeblkffgiaaDoor
namespace Go.Proofs.YtklnfeblkffgiaaDoor
open Go.RowKit
set_option linter.unusedVariables false
set_option linter.unusedSimpArgs false
structure DD (w0 : World) (a : Option Addr) (cap : Nat) (zs : List Int) (w : World) (g R X m : Nat) (wt tr : Int) (va : Option Addr) (vn vc : Nat) (u : World) : Prop where
  vu : VU w0 a cap zs w g m (.slice va vn vc) u
  r : Blk u R 26 (cfc 0 0 none 0 0)
  x : Blk u X 26 (cfc wt tr va vn vc)
  nm : w.heap.size ≤ R ∧ w.heap.size ≤ X ∧ R ≠ X ∧ w0.heap.size ≤ w.heap.size
section
variable {w0 : World} {a : Option Addr} {cap : Nat} {zs : List Int} {w : World} {g R X m : Nat} {wt tr : Int} {va : Option Addr} {vn vc : Nat} {u u' : World}
theorem DD.call (h : DD w0 a cap zs w g R X m wt tr va vn vc u) (c : Cur w0 a cap zs u' g) (hg : u.grownBy u' (some g)) : DD w0 a cap zs w g R X m wt tr va vn vc u' :=
  ⟨h.vu.call c hg, h.r.grown hg (fun e => by have := Option.some.inj e; have := h.vu.lt; have := h.nm; omega), h.x.grown hg (fun e => by have := Option.some.inj e; have := h.vu.lt; have := h.nm; omega), h.nm⟩
theorem DD.alloc (h : DD w0 a cap zs w g R X m wt tr va vn vc u) (o : Obj) : DD w0 a cap zs w g R X m wt tr va vn vc (u.alloc o) :=
  ⟨h.vu.alloc o, h.r.below (bel_alloc _ _), h.x.below (bel_alloc _ _), h.nm⟩
theorem DD.set0 (h : DD w0 a cap zs w g R X m wt tr va vn vc u) (y : Int) : DD w0 a cap zs w g R X m y tr va vn vc (u.setCell ⟨X, 0, none⟩ (.int .i64 y)) := by
  have k := h.x.set 0 (.int .i64 y)
  exact ⟨h.vu.setc h.nm.2.2.2 h.x h.nm.2.1, h.r.setNe h.nm.2.2.1, by simpa using k, h.nm⟩
theorem DD.set1 (h : DD w0 a cap zs w g R X m wt tr va vn vc u) (y : Int) : DD w0 a cap zs w g R X m wt y va vn vc (u.setCell ⟨X, 1, none⟩ (.int .i64 y)) := by
  have k := h.x.set 1 (.int .i64 y)
  exact ⟨h.vu.setc h.nm.2.2.2 h.x h.nm.2.1, h.r.setNe h.nm.2.2.1, by simpa using k, h.nm⟩
theorem DD.rules {va2 : Option Addr} {vn2 vc2 m2 : Nat} (h : DD w0 a cap zs w g R X m wt tr va vn vc u) (hv : VU w0 a cap zs w g m2 (.slice va2 vn2 vc2) u') (hg : u.grownBy u' (some g)) :
    Blk u' X 26 (cfc wt tr va vn vc) ∧ DD w0 a cap zs w g R X m2 wt tr va2 vn2 vc2 (u'.setCell ⟨X, 2, none⟩ (.slice va2 vn2 vc2)) := by
  have kx := h.x.grown hg (fun e => by have := Option.some.inj e; have := h.vu.lt; have := h.nm; omega)
  have kr := h.r.grown hg (fun e => by have := Option.some.inj e; have := h.vu.lt; have := h.nm; omega)
  have k := kx.set 2 (.slice va2 vn2 vc2)
  exact ⟨kx, hv.setc h.nm.2.2.2 kx h.nm.2.1, kr.setNe h.nm.2.2.1, by simpa using k, h.nm⟩
theorem DD.tell (h : DD w0 a cap zs w g R X m wt tr va vn vc u) : Blk (((u.setCell ⟨R, 0, none⟩ (.int .i64 wt)).setCell ⟨R, 1, none⟩ (.int .i64 tr)).setCell ⟨R, 2, none⟩ (.slice va vn vc)) R 26 (cfc wt tr va vn vc) ∧ VU w0 a cap zs w g m (.slice va vn vc) (((u.setCell ⟨R, 0, none⟩ (.int .i64 wt)).setCell ⟨R, 1, none⟩ (.int .i64 tr)).setCell ⟨R, 2, none⟩ (.slice va vn vc)) := by
  have k1 := h.r.set 0 (.int .i64 wt)
  have k2 := k1.set 1 (.int .i64 tr)
  have k3 := k2.set 2 (.slice va vn vc)
  exact ⟨by simpa using k3, ((h.vu.setc h.nm.2.2.2 h.r h.nm.1).setc h.nm.2.2.2 k1 h.nm.1).setc h.nm.2.2.2 k2 h.nm.1⟩
theorem VU.more {v : Value} {m2 : Nat} (h : VU w0 a cap zs w g m v u) (hm : m ≤ m2) : VU w0 a cap zs w g m2 v u := by
  obtain ⟨va', vn', vc', l, k, q1, q2, q3, q4, D⟩ := h
  exact ⟨va', vn', vc', l, k, q1, q2, q3, by omega, D⟩
end
set_option maxRecDepth 20000 in
set_option maxHeartbeats 2000000 in
theorem l11DrawAny_any (w0 : World) (a : Option Addr) (cap : Nat) (zs : List Int) (w : World) (g : Nat) (hC : Cur w0 a cap zs w g) (hw0 : w0.heap.size ≤ w.heap.size) :
    Calls Tryd.prog 20 #[.pointer (some ⟨g, 0, none⟩)] w fun e w' => ∃ (wt tr : Int) (va : Option Addr) (vn vc : Nat), e = .returned (.agg (cfc wt tr va vn vc)) ∧ (-1 ≤ wt ∧ wt ≤ 101) ∧ (-1 ≤ tr ∧ tr ≤ 6) ∧ VU w0 a cap zs w g 25 (.slice va vn vc) w' := by
  have hlt := hC.hi
  obtain ⟨W, hW⟩ : ∃ W, W = w.alloc (.cells (cfc 0 0 none 0 0) 26) := ⟨_, rfl⟩
  obtain ⟨R, hR⟩ : ∃ R, R = w.heap.size := ⟨_, rfl⟩
  have HB : Hid (Cur w0 a cap zs W g ∧ w.grownBy W (some g) ∧ Blk W R 26 (cfc 0 0 none 0 0)) := by
    rw [hW, hR]
    exact ⟨hC.alloc _, World.grownBy_alloc w _ _, Blk.new w _ _⟩
  clear hC
  go_enter Tryd.func20, Tryd.ntmps20
  go_wp2_with fail
  rw [← hW, ← hR]
  clear hW
  refine (l11Draw_any w0 a cap zs W g HB.out.1 (Nat.le_trans hw0 HB.out.2.1.size)).mono ?_
  rintro e w1 ⟨wt, tr, va, vn, vc, rfl, hwt, htr, V1⟩
  obtain ⟨X, hX⟩ : ∃ X, X = w1.heap.size := ⟨_, rfl⟩
  obtain ⟨W2, hW2⟩ : ∃ W2, W2 = w1.alloc (.cells (cfc wt tr va vn vc) 26) := ⟨_, rfl⟩
  have H2 : Hid (DD w0 a cap zs w g R X 24 wt tr va vn vc W2) := by
    have hRl := HB.out.2.2.lt
    have hsz := V1.read.2.2.2.1.size
    have V := V1.base HB.out.2.1 hlt
    rw [hW2]
    refine ⟨V.alloc _, (HB.out.2.2.grown V1.read.2.2.2.1 (fun e => by have := Option.some.inj e; omega)).below (bel_alloc _ _), by rw [hX]; exact Blk.new w1 _ _, by omega, by omega, by omega, hw0⟩
  have HR := hide hR
  clear hR V1 HB
  go_wp2_with fail
  rw [← hX, ← hW2]
  clear hX hW2
  refine (l1Below_any w0 a cap zs W2 g 8 (by decide) H2.out.vu.read.2.2.1).mono ?_
  rintro e w3 ⟨k, rfl, hk, C3, g3⟩
  have D3 := H2.out.call C3 g3
  have H3 := hide D3
  clear C3 g3 H2
  obtain ⟨⟨x0, x1, x2⟩, f0, f1, f2⟩ := D3.x.thr
  clear D3
  by_cases k0 : k = 0
  · subst k0
    have HI : Hid (Ints (w3.alloc (.cells #[.int .i64 0, .int .i64 100, .int .i64 101, .int .i64 (-1)] 3)) ⟨w3.heap.size, 0, none⟩ [0, 100, 101, -1] ∧ DD w0 a cap zs w g R X 24 wt tr va vn vc (w3.alloc (.cells #[.int .i64 0, .int .i64 100, .int .i64 101, .int .i64 (-1)] 3)) ∧ w3.heap.size ≠ g) := ⟨ints_lit w3 [0, 100, 101, -1] 3, H3.out.alloc _, by have := H3.out.vu.lt; have := H3.out.vu.read.2.2.2.1.size; omega⟩
    clear x0 x1 x2 f0 f1 f2
    go_wp2_with fail
    refine (l1Int_any w0 a cap zs _ g ⟨w3.heap.size, 0, none⟩ 4 4 [0, 100, 101, -1] rfl (by omega) (by omega) HI.out.1 HI.out.2.2 HI.out.2.1.vu.read.2.2.1).mono ?_
    rintro e w4 ⟨y, rfl, hy, C', g'⟩
    have D4 := HI.out.2.1.call C' g'
    clear HI C' g'
    have hy2 : -1 ≤ y ∧ y ≤ 101 := by simp at hy; omega
    clear hy
    obtain ⟨⟨x0, x1, x2⟩, f0, f1, f2⟩ := D4.x.thr
    have H5 := hide (D4.set0 y)
    obtain ⟨⟨z0, z1, z2⟩, _⟩ := H5.out.x.thr
    obtain ⟨_, i0, i1, i2⟩ := H5.out.r.thr
    have H6 := hide H5.out.tell
    obtain ⟨⟨k0, k1, k2⟩, _⟩ := H6.out.1.thr
    clear D4
    have n1 : ¬ R = X := H3.out.nm.2.2.1
    have n2 : ¬ X = R := fun e => n1 e.symm
    go_wp2
    refine bodyPost_ret (v := .agg (cfc y tr va vn vc)) (by simp [results, Tryd.results20, go_sem, k0, k1, k2]) rfl ⟨y, tr, va, vn, vc, rfl, by omega, by omega, H6.out.2.more (by omega)⟩
  · by_cases k1 : k = 1
    · subst k1
      clear k0
      have HI : Hid (Ints (w3.alloc (.cells #[.int .i64 (-1), .int .i64 5, .int .i64 6] 3)) ⟨w3.heap.size, 0, none⟩ [-1, 5, 6] ∧ DD w0 a cap zs w g R X 24 wt tr va vn vc (w3.alloc (.cells #[.int .i64 (-1), .int .i64 5, .int .i64 6] 3)) ∧ w3.heap.size ≠ g) := ⟨ints_lit w3 [-1, 5, 6] 3, H3.out.alloc _, by have := H3.out.vu.lt; have := H3.out.vu.read.2.2.2.1.size; omega⟩
      clear x0 x1 x2 f0 f1 f2
      go_wp2_with fail
      refine (l1Int_any w0 a cap zs _ g ⟨w3.heap.size, 0, none⟩ 3 3 [-1, 5, 6] rfl (by omega) (by omega) HI.out.1 HI.out.2.2 HI.out.2.1.vu.read.2.2.1).mono ?_
      rintro e w4 ⟨y, rfl, hy, C', g'⟩
      have D4 := HI.out.2.1.call C' g'
      clear HI C' g'
      have hy2 : -1 ≤ y ∧ y ≤ 6 := by simp at hy; omega
      clear hy
      obtain ⟨⟨x0, x1, x2⟩, f0, f1, f2⟩ := D4.x.thr
      have H5 := hide (D4.set1 y)
      clear D4
      obtain ⟨⟨z0, z1, z2⟩, _⟩ := H5.out.x.thr
      obtain ⟨_, i0, i1, i2⟩ := H5.out.r.thr
      have H6 := hide H5.out.tell
      obtain ⟨⟨k0, k1, k2⟩, _⟩ := H6.out.1.thr
      have n1 : ¬ R = X := H3.out.nm.2.2.1
      have n2 : ¬ X = R := fun e => n1 e.symm
      go_wp2
      refine bodyPost_ret (v := .agg (cfc wt y va vn vc)) (by simp [results, Tryd.results20, go_sem, k0, k1, k2]) rfl ⟨wt, y, va, vn, vc, rfl, by omega, by omega, H6.out.2.more (by omega)⟩
    · by_cases k2 : k = 2
      · subst k2
        clear k0 k1
        have HR5 := hide H3.out.vu.read
        go_wp2_with fail
        obtain ⟨hk5, _, C5, g5, l5, e5, s5, h5⟩ := HR5.out
        refine (l10Bend_any w0 a cap zs _ g C5 (Nat.le_trans hw0 g5.size) va vn vc l5 e5 s5 (by omega) h5).mono ?_
        intro e w4 h4
        have hg4 : w3.grownBy w4 (some g) := by obtain ⟨_, _, _, _, _, _, _, D⟩ := h4; exact D.gr
        obtain ⟨va6, vn6, vc6, rfl, V6⟩ := VU.of h4 g5 hlt
        have V7 : VU w0 a cap zs w g 25 (.slice va6 vn6 vc6) w4 := V6.more (by omega)
        obtain ⟨kx, D5⟩ := H3.out.rules V7 hg4
        have H5 := hide D5
        clear D5 V6 V7 h4 hg4 HR5 C5 g5 s5 h5 e5 hk5 x0 x1 x2 f0 f1 f2
        obtain ⟨⟨x0, x1, x2⟩, f0, f1, f2⟩ := kx.thr
        clear kx
        obtain ⟨⟨z0, z1, z2⟩, _⟩ := H5.out.x.thr
        obtain ⟨_, i0, i1, i2⟩ := H5.out.r.thr
        have H6 := hide H5.out.tell
        obtain ⟨⟨k0, k1, k2⟩, _⟩ := H6.out.1.thr
        have n1 : ¬ R = X := H3.out.nm.2.2.1
        have n2 : ¬ X = R := fun e => n1 e.symm
        go_wp2
        refine bodyPost_ret (v := .agg (cfc wt tr va6 vn6 vc6)) (by simp [results, Tryd.results20, go_sem, k0, k1, k2]) rfl ⟨wt, tr, va6, vn6, vc6, rfl, by omega, by omega, H6.out.2.more (by omega)⟩
      · have H5 := H3
        have k0f : (k == 0) = false := by simpa using k0
        have k1f : (k == 1) = false := by simpa using k1
        have k2f : (k == 2) = false := by simpa using k2
        obtain ⟨⟨z0, z1, z2⟩, _⟩ := H5.out.x.thr
        obtain ⟨_, i0, i1, i2⟩ := H5.out.r.thr
        have H6 := hide H5.out.tell
        obtain ⟨⟨c0, c1, c2⟩, _⟩ := H6.out.1.thr
        have n1 : ¬ R = X := H3.out.nm.2.2.1
        have n2 : ¬ X = R := fun e => n1 e.symm
        go_wp2
        refine bodyPost_ret (v := .agg (cfc wt tr va vn vc)) (by simp [results, Tryd.results20, go_sem, c0, c1, c2]) rfl ⟨wt, tr, va, vn, vc, rfl, by omega, by omega, H6.out.2.more (by omega)⟩
theorem own_take {u : World} {base vn vc k : Nat} {va : Option Addr} {l : List Ru} (o : OwnU u base (.slice va vn vc) l) (hk : k ≤ l.length) : (l.take k).length = k ∧ SlU u va k (fun i => (l.take k).getD i default) := by
  have hs := o.sl.2
  have el : (l.take k).length = k := by simp; omega
  refine ⟨el, ?_⟩
  rcases hs with h0 | ⟨b, off, ha, hlt, hc⟩
  · exact .inl (by omega)
  · exact .inr ⟨b, off, ha, hlt, fun i hi j hj => by
      rw [hc i (by omega) j hj]
      have e9 : (l.take k).getD i default = l.getD i default := by
        rw [List.getD_eq_getElem?_getD, List.getD_eq_getElem?_getD, List.getElem?_take, if_pos hi]
      show (rul (l.getD i default))[j]? = (rul ((l.take k).getD i default))[j]?
      rw [e9]⟩
set_option maxRecDepth 20000 in
set_option maxHeartbeats 2000000 in
theorem drawConfigText_any (w : World) (a : Option Addr) (n cap : Nat) (zs : List Int) (hn : n = zs.length) (hs : Sl w a zs) (hr : ∀ z ∈ zs, 0 ≤ z ∧ z ≤ 255) (hl : zs.length ≤ 1048576) :
    Calls Tryd.prog 7 #[.slice a n cap] w fun e w' => ∃ (wt tr : Int) (va : Option Addr) (vn vc : Nat) (l : List Ru), e = .returned (.agg (cfc wt tr va vn vc)) ∧ (-1 ≤ wt ∧ wt ≤ 101) ∧ (-1 ≤ tr ∧ tr ≤ 6) ∧ vn = l.length ∧ vn ≤ 25 ∧ SlU w' va vn (fun i => l.getD i default) ∧ (∀ r ∈ l, S64 r) ∧ Below w.heap.size w w' := by
  have HNN : Hid (n = zs.length) := hn
  have Hs : Hid (Sl w a zs) := hs
  clear hs hn
  obtain ⟨W, hW⟩ : ∃ W, W = w.alloc (.cells (cfc 0 0 none 0 0) 26) := ⟨_, rfl⟩
  obtain ⟨R, hR⟩ : ∃ R, R = w.heap.size := ⟨_, rfl⟩
  have HB : Hid (Sl W a zs ∧ Below w.heap.size w W ∧ Blk W R 26 (cfc 0 0 none 0 0)) := by
    rw [hW, hR]
    exact ⟨Hs.out.below (bel_alloc _ _), bel_alloc _ _, Blk.new w _ _⟩
  go_enter Tryd.func7, Tryd.ntmps7
  go_wp2_with fail
  rw [← hW, ← hR]
  clear hW
  have HR := hide hR
  clear hR
  refine (l1New_any W a _ cap zs HNN.out HB.out.1 hr hl).mono ?_
  rintro e w1 ⟨rfl, C1, g1⟩
  obtain ⟨g, hg⟩ : ∃ g, g = W.heap.size := ⟨_, rfl⟩
  have HG1 : Hid (W.grownBy w1 none ∧ Cur W a cap zs w1 g ∧ g = W.heap.size) := ⟨g1, by rw [hg]; exact C1, hg⟩
  rw [← hg]
  clear hr C1 g1 Hs HNN hg
  go_wp2_with fail
  refine (l11DrawAny_any W a cap zs w1 g HG1.out.2.1 HG1.out.1.size).mono ?_
  rintro e w2 ⟨wt, tr, va, vn, vc, rfl, hwt, htr, V2⟩
  have hRl := HB.out.2.2.lt
  have g2 := V2.read.2.2.2.1
  have K2 := (HB.out.2.2.grown HG1.out.1 (by simp)).grown g2 (fun e => by have := Option.some.inj e; have := HG1.out.2.2; omega)
  have HK2 := hide K2
  obtain ⟨⟨x0, x1, x2⟩, f0, f1, f2⟩ := K2.thr
  obtain ⟨W3, hW3⟩ : ∃ W3, W3 = ((w2.setCell ⟨R, 0, none⟩ (.int .i64 wt)).setCell ⟨R, 1, none⟩ (.int .i64 tr)).setCell ⟨R, 2, none⟩ (.slice va vn vc) := ⟨_, rfl⟩
  have H3 : Hid (Blk W3 R 26 (cfc wt tr va vn vc) ∧ (∃ l : List Ru, vn = l.length ∧ vn ≤ 25 ∧ SlU W3 va vn (fun i => l.getD i default) ∧ (∀ r ∈ l, S64 r)) ∧ Below w.heap.size w W3) := by
    rw [hW3]
    have k1 := K2.set 0 (.int .i64 wt)
    have k2 := k1.set 1 (.int .i64 tr)
    have k3 := k2.set 2 (.slice va vn vc)
    refine ⟨by simpa using k3, ?_, ?_⟩
    · obtain ⟨va', vn', vc', l, k, e1, e2, e3, e4, D⟩ := V2
      simp only [Value.slice.injEq] at e1
      obtain ⟨rfl, rfl, rfl⟩ := e1
      have o3 := row_setE (row_setE (row_setE D.own ⟨_, K2⟩ (by decide) (j := 0) (y := .int .i64 wt)) ⟨_, k1⟩ (by decide) (j := 1) (y := .int .i64 tr)) ⟨_, k2⟩ (by decide) (j := 2) (y := .slice va vn vc)
      obtain ⟨t1, t2⟩ := own_take (show OwnU _ _ _ l from o3) e3
      exact ⟨l.take vn, t1.symm, e4, t2, fun r hr => D.s64 r (List.mem_of_mem_take hr)⟩
    · have hR := HR.out
      have b1 := Below.grown HB.out.2.1 HG1.out.1 (by omega) (fun k hk => by cases hk)
      have b2 := Below.grown b1 g2 (by have := HG1.out.1.size; have := HB.out.2.1.size; omega) (fun k hk => by have := Option.some.inj hk; have := HG1.out.2.2; omega)
      exact ((b2.setCell (p := ⟨R, 0, none⟩) (by show _ ≤ R; omega) _).setCell (p := ⟨R, 1, none⟩) (by show _ ≤ R; omega) _).setCell (p := ⟨R, 2, none⟩) (by show _ ≤ R; omega) _
  obtain ⟨⟨c0, c1, c2⟩, _⟩ := H3.out.1.thr
  clear K2 V2 g2
  go_wp2
  rw [← hW3]
  obtain ⟨l, q1, q2, q3, q4⟩ := H3.out.2.1
  refine bodyPost_ret (v := .agg (cfc wt tr va vn vc)) (by simp [results, Tryd.results7, go_sem, c0, c1, c2]) rfl ⟨wt, tr, va, vn, vc, l, rfl, by omega, by omega, q1, q2, q3, q4, H3.out.2.2⟩
end Go.Proofs.YtklnfeblkffgiaaDoor
namespace Go.Proofs.YtklnfeblkffgiaaDoor
open Go.RowKit
set_option linter.unusedVariables false
set_option linter.unusedSimpArgs false
def tx (l : List UInt8) : ByteArray := ⟨l.toArray⟩
theorem tx_size (l : List UInt8) : (tx l).size = l.length := by show l.toArray.size = _; simp
theorem tx_append (l m : List UInt8) : tx l ++ tx m = tx (l ++ m) := by
  apply ByteArray.ext
  simp [tx]
theorem dec_len (u : Nat) : (Lib.decDigits u).length ≤ u + 1 := by
  induction u using Nat.strongRecOn with
  | _ u ih =>
    rw [Lib.decDigits]
    split
    · simp
    · rw [List.length_append]
      have := ih (u / 10) (by omega)
      simp only [List.length_cons, List.length_nil]
      omega
end Go.Proofs.YtklnfeblkffgiaaDoor
namespace Go.Proofs.YtklnfeblkffgiaaDoor
open Go.RowKit
set_option linter.unusedVariables false
set_option linter.unusedSimpArgs false
theorem itoa_len (n : Int) (h : -1000000 ≤ n ∧ n ≤ 1000000) : (Lib.itoa n).length ≤ 1000002 := by
  unfold Lib.itoa
  split
  · have := dec_len n.natAbs
    simp only [List.length_cons]
    omega
  · have := dec_len n.toNat
    omega
end Go.Proofs.YtklnfeblkffgiaaDoor
