/- Texts that the proof needs, joined: Ru1 ArgU ArgC Tr2 Tr4 Mk0 Mk1. -/
import Derived.Test.YtkfgijkkffbpmaaGreatV1
import Derived.Deep.Slices
set_option linter.unusedVariables false
set_option linter.unusedSimpArgs false
set_option maxHeartbeats 4000000
set_option maxRecDepth 20000
namespace Go.Proofs.YtkfgijkkffbpmaaGreat
open Go.RowKit
structure Ru where
 u : Int
 s : Int
 lo : Int
 hi : Int
 p : Int
 t : Int
 sh : Int
abbrev rul (r : Ru) : List Value := [.int .i64 r.u, .int .i64 r.s, .int .i64 r.lo, .int .i64 r.hi, .int .i64 r.p, .int .i64 r.t, .int .i64 r.sh]
abbrev ruc (r : Ru) : Array Value := #[.int .i64 r.u, .int .i64 r.s, .int .i64 r.lo, .int .i64 r.hi, .int .i64 r.p, .int .i64 r.t, .int .i64 r.sh]
abbrev SlU (w : World) (a : Option Addr) (n : Nat) (f : Nat -> Ru) : Prop := SlS w a 7 n (fun k => rul (f k))
abbrev RowU (w : World) (g n : Nat) (f : Nat -> Ru) : Prop := RowS w g 110 7 n (fun k => rul (f k))
theorem SlU.seven {w : World} {a : Option Addr} {n : Nat} {f : Nat -> Ru} (h : SlU w a n f) {k : Nat} (hk : k < n) : ∃ b off, a = some ⟨b, off, none⟩ /\ b < w.heap.size /\
 w.cell? ⟨b, off + k * 7, none⟩ = some (.int .i64 (f k).u) /\ w.cell? ⟨b, off + k * 7 + 1, none⟩ = some (.int .i64 (f k).s) /\ w.cell? ⟨b, off + k * 7 + 2, none⟩ = some (.int .i64 (f k).lo) /\ w.cell? ⟨b, off + k * 7 + 3, none⟩ = some (.int .i64 (f k).hi) /\ w.cell? ⟨b, off + k * 7 + 4, none⟩ = some (.int .i64 (f k).p) /\ w.cell? ⟨b, off + k * 7 + 5, none⟩ = some (.int .i64 (f k).t) /\ w.cell? ⟨b, off + k * 7 + 6, none⟩ = some (.int .i64 (f k).sh) := by
 obtain ⟨b, off, ha, hb, hc⟩ := SlS.at h hk
 exact ⟨b, off, ha, hb, hc 0 (by decide), hc 1 (by decide), hc 2 (by decide), hc 3 (by decide), hc 4 (by decide), hc 5 (by decide), hc 6 (by decide)⟩
theorem RowU.seven {w : World} {g n : Nat} {f : Nat -> Ru} (h : RowU w g n f) {k : Nat} (hk : k < n) :
 w.cell? ⟨g, k * 7, none⟩ = some (.int .i64 (f k).u) /\ w.cell? ⟨g, k * 7 + 1, none⟩ = some (.int .i64 (f k).s) /\ w.cell? ⟨g, k * 7 + 2, none⟩ = some (.int .i64 (f k).lo) /\ w.cell? ⟨g, k * 7 + 3, none⟩ = some (.int .i64 (f k).hi) /\ w.cell? ⟨g, k * 7 + 4, none⟩ = some (.int .i64 (f k).p) /\ w.cell? ⟨g, k * 7 + 5, none⟩ = some (.int .i64 (f k).t) /\ w.cell? ⟨g, k * 7 + 6, none⟩ = some (.int .i64 (f k).sh) :=
 ⟨h.cell hk (j := 0) (by decide), h.cell hk (j := 1) (by decide), h.cell hk (j := 2) (by decide), h.cell hk (j := 3) (by decide), h.cell hk (j := 4) (by decide), h.cell hk (j := 5) (by decide), h.cell hk (j := 6) (by decide)⟩
theorem Tryz.info110 : (Tryz.prog.info? 110).map (fun i => (i.zero, i.size, i.bytes)) = some (some (.agg (ruc ⟨0, 0, 0, 0, 0, 0, 0⟩)), 7, 56) := by kernel_rfl
theorem toRule_any (r : Ru) (w : World) :
 Calls Tryz.prog 57 #[.agg (ruc r)] w fun e w' => e = .returned (.agg (ruc r)) /\ Below w.heap.size w w' := by
 go_enter Tryz.func57, Tryz.ntmps57
 go_wp2
 refine bodyPost_ret (v := .agg (ruc r)) (by simp [results, Tryz.results57, go_sem]) rfl ⟨rfl, ?_⟩
 exact (((Below.refl _ w).alloc (Nat.le_refl _) _).alloc (by simp) _).alloc (by simp; omega) _
theorem eqRule_true (r : Ru) (w : World) :
 Calls Tryz.prog 61 #[.agg (ruc r), .agg (ruc r)] w fun e w' => e = .returned (.bool true) /\ Below w.heap.size w w' := by
 go_enter Tryz.func61, Tryz.ntmps61
 go_wp2
 go_ret
 exact ⟨rfl, ((Below.refl _ w).alloc (Nat.le_refl _) _).alloc (by simp) _⟩
theorem szRuleS_fits (a : Option Addr) (n cap : Nat) (left : Nat) (w : World) (h : n <= left) (hl : left <= 1048576) :
 Calls Tryz.prog 13 #[.slice a n cap, .int .i64 (left : Int)] w fun e w' => e = .returned (.int .i64 (((left - n : Nat) : Nat) : Int)) /\ w' = w := by
 have h1 : ¬ ((left : Int) - (n : Int) < 0) := by omega
 have h2 : IntKind.i64.wrap ((left : Int) - n) = (left : Int) - n := by rw [IntKind.wrap_i64]; omega
 go_enter Tryz.func13, Tryz.ntmps13
 go_wp2
 go_ret
 exact ⟨ret_int (by omega), rfl⟩
theorem szRuleS_big (a : Option Addr) (n cap : Nat) (left : Nat) (w : World) (hm : n <= maxLen) (h : ¬ n <= left) (hl : left <= 1048576) :
 Calls Tryz.prog 13 #[.slice a n cap, .int .i64 (left : Int)] w fun e w' => e = .returned (.int .i64 (-1)) /\ w' = w := by
 unfold maxLen at hm
 have h1 : (left : Int) - (n : Int) < 0 := by omega
 have h2 : IntKind.i64.wrap ((left : Int) - n) = (left : Int) - n := by rw [IntKind.wrap_i64]; omega
 go_enter Tryz.func13, Tryz.ntmps13
 go_wp2
 go_ret
 exact ⟨rfl, rfl⟩
theorem toRuleS_any (a : Option Addr) (n cap : Nat) (f : Nat -> Ru) (w : World) (hs : SlU w a n f) (hl : n <= 2000000) :
 Calls Tryz.prog 15 #[.slice a n cap] w fun e w' => e = .returned (.slice (some ⟨w.heap.size, 0, none⟩) n n) /\
  RowU w' w.heap.size n f /\ Below w.heap.size w w' := by
 have hmk := run_make_st (P := Tryz.prog) 33 110 (.agg (ruc ⟨0, 0, 0, 0, 0, 0, 0⟩)) 7 56 Tryz.underlying33 Tryz.info110 .i64 .i64 n (by omega) (by omega)
 go_enter Tryz.func15, Tryz.ntmps15
 go_wp2
 clear hmk
 go_loopw [4] (fun i wr => ∃ k : Nat, k <= n /\ i = .int .i64 k /\ RowU wr w.heap.size n (fun i => if i < k then f i else ⟨0, 0, 0, 0, 0, 0, 0⟩) /\ Below w.heap.size w wr) (fun i _ => n - (intOf i).toNat)
 case atStart => exact ⟨0, Nat.zero_le _, rfl, (RowS.made w (rul ⟨0, 0, 0, 0, 0, 0, 0⟩) n _ (by simp)).congr (fun i _ => by simp), (Below.refl _ _).alloc (Nat.le_refl _) _⟩
 case round =>
  obtain ⟨k, hk, rfl, hrow, hb⟩ := hrel
  by_cases hlt : k < n
  ·obtain ⟨b, off, rfl, hb0, c0, c1, c2, c3, c4, c5, c6⟩ := SlU.seven (SlS.below hs hb) hlt
   have hi : (k : Int) < (n : Int) := by omega
   have HR : Hid (RowU wr w.heap.size n (fun i => if i < k then f i else ⟨0, 0, 0, 0, 0, 0, 0⟩)) := hrow
   have HB : Hid (Below w.heap.size w wr) := hb
   clear hrow hb
   go_wp2_with fail
   refine (toRule_any (f k) _).mono ?_
   rintro e w1 ⟨rfl, b1⟩
   have R1 := HR.out.below b1
   have B1 := bel_next HB.out b1
   obtain ⟨d0, d1, d2, d3, d4, d5, d6⟩ := RowU.seven R1 hlt
   have f0 := RowS.fro R1 (k * 7)
   have f1 := RowS.fro R1 (k * 7 + 1)
   have f2 := RowS.fro R1 (k * 7 + 2)
   have f3 := RowS.fro R1 (k * 7 + 3)
   have f4 := RowS.fro R1 (k * 7 + 4)
   have f5 := RowS.fro R1 (k * 7 + 5)
   have f6 := RowS.fro R1 (k * 7 + 6)
   have HR2 : Hid (RowU (setL w1 w.heap.size (k * 7) (rul (f k))) w.heap.size n (fun i => if i < k + 1 then f i else ⟨0, 0, 0, 0, 0, 0, 0⟩)) := by
    refine (RowS.set R1 hlt (rul (f k)) rfl).congr (fun i _ => ?_)
    by_cases e : i = k
    ·subst e; simp
    simp only [if_neg e]
    by_cases h : i < k
    ·rw [if_pos h, if_pos (by omega)]
    rw [if_neg h, if_neg (by omega)]
   have HB2 : Hid (Below w.heap.size w (setL w1 w.heap.size (k * 7) (rul (f k)))) := setL_below (Nat.le_refl _) _ _ _ B1
   clear R1 B1 b1 HR HB c0 c1 c2 c3 c4 c5 c6 hs
   go_wp2
   go_roundw
   case rel => exact ⟨k + 1, by omega, by go_num, HR2.out, HB2.out⟩
   case measure => simp [intOf]; omega
  have R : Hid (RowU wr w.heap.size n f) := hrow.congr (fun i hi => by show rul (if i < k then f i else _) = _; rw [if_pos (by omega)])
  clear hrow hs
  go_wp2
  go_ret
  exact ⟨rfl, R.out, hb⟩
theorem eqRuleS_true (a a' : Option Addr) (n cap cap' : Nat) (f : Nat -> Ru) (w : World) (hs : SlU w a n f) (hs' : SlU w a' n f) (hl : n <= 2000000) :
 Calls Tryz.prog 17 #[.slice a n cap, .slice a' n cap'] w fun e w' => e = .returned (.bool true) /\ Below w.heap.size w w' := by
 go_enter Tryz.func17, Tryz.ntmps17
 go_wp2
 go_loopw [5] (fun i wr => ∃ k : Nat, k <= n /\ i = .int .i64 k /\ Below w.heap.size w wr) (fun i _ => n - (intOf i).toNat)
 case atStart => exact ⟨0, Nat.zero_le _, rfl, Below.refl _ _⟩
 case round =>
  obtain ⟨k, hk, rfl, hb⟩ := hrel
  by_cases hlt : k < n
  ·obtain ⟨b, off, rfl, hb0, c0, c1, c2, c3, c4, c5, c6⟩ := SlU.seven (SlS.below hs hb) hlt
   obtain ⟨b', off', rfl, hb0', d0, d1, d2, d3, d4, d5, d6⟩ := SlU.seven (SlS.below hs' hb) hlt
   have hi : (k : Int) < (n : Int) := by omega
   clear hs hs'
   go_wp2_with fail
   go_region_with (go_at_call 61; refine (eqRule_true (f k) _).mono ?_; rintro e w1 ⟨rfl, b1'⟩; have b1 : Below wr.heap.size wr w1 := bel_next (by first | exact Below.refl _ _ | exact (Below.refl _ _).drew | exact (Below.refl _ _).drew.drew) b1'; clear b1')
   all_goals (
    have B1 := bel_next hb b1
    clear hb b1 c0 c1 c2 c3 c4 c5 c6 d0 d1 d2 d3 d4 d5 d6
    go_wp2
    go_roundw
    case rel => exact ⟨k + 1, by omega, by go_num, B1⟩
    case measure => simp [intOf]; omega)
  clear hs hs'
  go_wp2
  go_ret
  exact ⟨rfl, hb⟩
end Go.Proofs.YtkfgijkkffbpmaaGreat
namespace Go.Proofs.YtkfgijkkffbpmaaGreat
open Go.ChangeShapes Go.WideShapes Go.ChangeAt Go.RowKit Go.Deep Go.Joins
section
variable {H : Type} {enc : TypeId × Value -> H} {P : Program} {w : World} {base : Nat} {held : Bool}
def InRus (w : World) (a : Option Addr) (n : Nat) (f : Nat -> Ru) : Prop := n <= maxLen /\ SlU w a n f /\ ∀ k, k < n -> -9223372036854775808 <= (f k).sh /\ (f k).sh <= 9223372036854775807
theorem opened_cells {t e : TypeId} {fuel s : Nat} {a : Option Addr} {len cap : Nat} {x : DataW H × List MemPlace} (ht : P.underlying t = some (.slice e)) (hs : P.cellsOf e = s) (h0 : 0 < s)
 (hf : DataW.trod enc P w base (fun _ => true) held fuel t [.slice a len cap] = some x) :
 len <= maxLen /\ ∃ F : Nat -> List Value, SlS w a s len F /\ ∀ k, k < len -> (F k).length = s /\ ∃ n y, DataW.trod enc P w base (fun _ => true) held n e (F k) = some y := by
 rcases open_slice ht hf with ⟨hcs, _⟩ | ⟨x, l, c, m, n, D, Pl, hcs, _, hl, hm, hmm, _, hx⟩
 ·simp at hcs
  obtain ⟨rfl, rfl, rfl⟩ := hcs
  exact ⟨Nat.zero_le _, fun _ => [], .inl rfl, fun k hk => by omega⟩
 simp at hcs
 obtain ⟨rfl, rfl, rfl⟩ := hcs
 simp only [if_true] at hmm
 subst hmm
 rw [hs] at hx
 obtain ⟨F, hF⟩ := choose_lt (α := List Value) (p := fun i cs' => w.cells? base (x.add (i * s)) s = some cs' /\ DataW.trod enc P w base (fun _ => true) held n e cs' = some (D i, Pl i)) (fun i hi => hx i hi)
 refine ⟨by omega, F, ?_, fun k hk => ⟨(World.cells?_some (hF k (by omega)).1).2.1, n, _, (hF k (by omega)).2⟩⟩
 by_cases e0 : len = 0
 ·exact .inl e0
 have hc0 := (World.cells?_some (hF 0 (by omega)).1)
 obtain ⟨b, off, spot⟩ := x
 have hc := hc0.2.2 0 h0
 obtain ⟨v0, hv0⟩ : ∃ v, (F 0)[0]? = some v := ⟨(F 0)[0], by simp⟩
 rw [hv0] at hc
 have hspot : spot = none := by simpa [Addr.add] using World.cell?_spot hc
 subst hspot
 refine .inr ⟨b, off, rfl, (by simpa [Addr.add] using World.block_lt_of_cell? _ _ hc), fun k hk j hj => ?_⟩
 have h1 := (World.cells?_some (hF k (by omega)).1).2.2 j hj
 rw [<- h1]
 have e1 : ∀ (o n : Nat), (Addr.mk b o none).add n = ⟨b, o + n, none⟩ := fun o n => by
  by_cases e : n = 0
  ·subst e; rfl
  simp [Addr.add, e]
 rw [e1, e1]
theorem opened_seven {t i : TypeId} {f0 f1 f2 f3 f4 f5 f6 : Field} {fuel : Nat} {cs : List Value} {y : DataW H × List MemPlace} (hs : P.underlying t = some (.struct #[f0, f1, f2, f3, f4, f5, f6])) (hone : oneCellFields P #[f0, f1, f2, f3, f4, f5, f6] = true)
 (e0 : f0.type = i) (e1 : f1.type = i) (e2 : f2.type = i) (e3 : f3.type = i) (e4 : f4.type = i) (e5 : f5.type = i) (e6 : f6.type = i) (hi : P.underlying i = some (.int .i64)) (hl : cs.length = 7)
 (h : DataW.trod enc P w base (fun _ => true) held fuel t cs = some y) : ∃ r : Ru, cs = rul r /\ -9223372036854775808 <= r.sh /\ r.sh <= 9223372036854775807 := by
 obtain ⟨xs, n, _, hx, hl', hlen, hg⟩ := DataW.trod_struct hs h
 match cs, hl with
 | [c0, c1, c2, c3, c4, c5, c6], _ =>
  obtain ⟨o0, k0⟩ := hone_of hone 0 f0 rfl
  obtain ⟨o1, k1⟩ := hone_of hone 1 f1 rfl
  obtain ⟨o2, k2⟩ := hone_of hone 2 f2 rfl
  obtain ⟨o3, k3⟩ := hone_of hone 3 f3 rfl
  obtain ⟨o4, k4⟩ := hone_of hone 4 f4 rfl
  obtain ⟨o5, k5⟩ := hone_of hone 5 f5 rfl
  obtain ⟨o6, k6⟩ := hone_of hone 6 f6 rfl
  have h0 := hg 0 f0 rfl
  have h1 := hg 1 f1 rfl
  have h2 := hg 2 f2 rfl
  have h3 := hg 3 f3 rfl
  have h4 := hg 4 f4 rfl
  have h5 := hg 5 f5 rfl
  have h6 := hg 6 f6 rfl
  match xs, hlen with
  | [y0, y1, y2, y3, y4, y5, y6], _ =>
   obtain ⟨z0, rfl, _⟩ := opened_int1 (c := c0) (y := y0) hi (by rw [<- e0]; simpa [o0, k0] using h0)
   obtain ⟨z1, rfl, _⟩ := opened_int1 (c := c1) (y := y1) hi (by rw [<- e1]; simpa [o1, k1] using h1)
   obtain ⟨z2, rfl, _⟩ := opened_int1 (c := c2) (y := y2) hi (by rw [<- e2]; simpa [o2, k2] using h2)
   obtain ⟨z3, rfl, _⟩ := opened_int1 (c := c3) (y := y3) hi (by rw [<- e3]; simpa [o3, k3] using h3)
   obtain ⟨z4, rfl, _⟩ := opened_int1 (c := c4) (y := y4) hi (by rw [<- e4]; simpa [o4, k4] using h4)
   obtain ⟨z5, rfl, _⟩ := opened_int1 (c := c5) (y := y5) hi (by rw [<- e5]; simpa [o5, k5] using h5)
   obtain ⟨z6, rfl, w6⟩ := opened_int1 (c := c6) (y := y6) hi (by rw [<- e6]; simpa [o6, k6] using h6)
   exact ⟨⟨z0, z1, z2, z3, z4, z5, z6⟩, rfl, bounds_i64 w6⟩
instance : Inhabited Ru := ⟨⟨0, 0, 0, 0, 0, 0, 0⟩⟩
theorem opened_rus {t e i : TypeId} {f0 f1 f2 f3 f4 f5 f6 : Field} {fuel : Nat} {a : Option Addr} {len cap : Nat} {x : DataW H × List MemPlace} (ht : P.underlying t = some (.slice e)) (hc : P.cellsOf e = 7) (hs : P.underlying e = some (.struct #[f0, f1, f2, f3, f4, f5, f6])) (hone : oneCellFields P #[f0, f1, f2, f3, f4, f5, f6] = true)
 (e0 : f0.type = i) (e1 : f1.type = i) (e2 : f2.type = i) (e3 : f3.type = i) (e4 : f4.type = i) (e5 : f5.type = i) (e6 : f6.type = i) (hi : P.underlying i = some (.int .i64))
 (hf : DataW.trod enc P w base (fun _ => true) held fuel t [.slice a len cap] = some x) : ∃ f : Nat -> Ru, InRus w a len f := by
 obtain ⟨hm, F, hS, hF⟩ := opened_cells ht hc (by decide) hf
 obtain ⟨f, hf'⟩ := choose_lt (α := Ru) (p := fun k r => F k = rul r /\ -9223372036854775808 <= r.sh /\ r.sh <= 9223372036854775807) (fun k hk => by
  obtain ⟨hl, n, y, hy⟩ := hF k hk
  exact opened_seven hs hone e0 e1 e2 e3 e4 e5 e6 hi hl hy)
 refine ⟨f, hm, ?_, fun k hk => (hf' k hk).2⟩
 rcases hS with h | ⟨b, off, ha, hlt, hc'⟩
 ·exact .inl h
 exact .inr ⟨b, off, ha, hlt, fun k hk j hj => by rw [hc' k hk j hj, (hf' k hk).1]⟩
end
end Go.Proofs.YtkfgijkkffbpmaaGreat
namespace Go.Proofs.YtkfgijkkffbpmaaGreat
open Go.ChangeShapes Go.WideShapes Go.ChangeAt Go.RowKit Go.Deep Go.Joins
section
variable {H : Type} {enc : TypeId × Value -> H} {P : Program} {w : World} {base : Nat} {held : Bool}
theorem array3 {α : Type} {cs : Array α} (h : cs.size = 3) : ∃ c0 c1 c2, cs = #[c0, c1, c2] := by
 obtain ⟨l⟩ := cs
 match l, h with
 | [c0, c1, c2], _ => exact ⟨c0, c1, c2, rfl⟩
theorem opened_cfg {r : Reach} {b0 : Nat} {t i s e : TypeId} {g0 g1 g2 f0 f1 f2 f3 f4 f5 f6 : Field} {v : Value} {d : DataW H} {p : List MemPlace} (hs : P.underlying t = some (.struct #[g0, g1, g2])) (hone : oneCellFields P #[g0, g1, g2] = true) (hC : P.cellsOf t = 3)
 (q0 : g0.type = i) (q1 : g1.type = i) (q2 : g2.type = s) (hi : P.underlying i = some (.int .i64)) (ht : P.underlying s = some (.slice e)) (hc : P.cellsOf e = 7) (hse : P.underlying e = some (.struct #[f0, f1, f2, f3, f4, f5, f6])) (hone' : oneCellFields P #[f0, f1, f2, f3, f4, f5, f6] = true)
 (e0 : f0.type = i) (e1 : f1.type = i) (e2 : f2.type = i) (e3 : f3.type = i) (e4 : f4.type = i) (e5 : f5.type = i) (e6 : f6.type = i)
 (hv : Value.okWide P w r b0 t v) (h : DataW.Trod enc P w base (fun _ => true) held t v d p) :
 ∃ wt tr a len cap f, v = .agg #[.int .i64 wt, .int .i64 tr, .slice a len cap] /\ InRus w a len f := by
 obtain ⟨cs, rfl, hsz⟩ := okWide_struct hs hv
 obtain ⟨c0, c1, c2, rfl⟩ := array3 (hsz.trans hC)
 obtain ⟨fuel, hf'⟩ := h
 obtain ⟨xs, n, _, hx, hl, hlen, hg⟩ := DataW.trod_struct hs hf'
 obtain ⟨o0, k0⟩ := hone_of hone 0 g0 rfl
 obtain ⟨o1, k1⟩ := hone_of hone 1 g1 rfl
 obtain ⟨o2, k2⟩ := hone_of hone 2 g2 rfl
 have h0 := hg 0 g0 rfl
 have h1 := hg 1 g1 rfl
 have h2 := hg 2 g2 rfl
 match xs, hlen with
 | [y0, y1, y2], _ =>
  obtain ⟨z0, rfl, _⟩ := opened_int1 (c := c0) (y := y0) hi (by rw [<- q0]; simpa [Value.cells, o0, k0] using h0)
  obtain ⟨z1, rfl, _⟩ := opened_int1 (c := c1) (y := y1) hi (by rw [<- q1]; simpa [Value.cells, o1, k1] using h1)
  have h9 : DataW.trod enc P w base (fun _ => true) held n s [c2] = some y2 := by rw [<- q2]; simpa [Value.cells, o2, k2] using h2
  obtain ⟨a, l, c, hcs⟩ := slice_form ht h9
  simp at hcs
  subst hcs
  obtain ⟨f, hf⟩ := opened_rus ht hc hse hone' e0 e1 e2 e3 e4 e5 e6 hi h9
  exact ⟨z0, z1, a, l, c, f, rfl, hf⟩
end
end Go.Proofs.YtkfgijkkffbpmaaGreat
namespace Go.Proofs.YtkfgijkkffbpmaaGreat
open Go.RowKit Go.Joins
theorem szIntS_t (ws : List Int) (a : Option Addr) (l c : Nat) (left : Nat) (w : World) (r : Rd w 0 (intsT ws) (.slice a l c)) (hl : left <= 1048576) :
 Calls Tryz.prog 197 #[.slice a l c, .int .i64 (left : Int)] w fun e w' => e = .returned (.int .i64 (lfT left ws.length)) /\ Below w.heap.size w w' := by
 obtain ⟨a9, c9, h9, -, hm, -⟩ := r.ints
 simp only [Value.slice.injEq] at h9
 obtain ⟨-, rfl, -⟩ := h9
 obtain ⟨m, e⟩ : ∃ m, m = ws.length := ⟨_, rfl⟩
 clear r
 rw [<- e] at hm ⊢
 clear a9 c9 e
 unfold maxLen at hm
 have w1 : IntKind.i64.wrap ((left : Int) - (m : Int)) = (left : Int) - (m : Int) := by rw [IntKind.wrap_i64]; omega
 by_cases h : m <= left
 ·have h1 : ¬ ((left : Int) - (m : Int) < 0) := by omega
  have HE : Hid (lfT left m = (left : Int) - (m : Int)) := by show _ = _; unfold lfT; rw [if_pos h]
  go_enter Tryz.func197, Tryz.ntmps197
  go_wp2
  go_ret
  exact ⟨by rw [HE.out]; rfl, Below.refl _ _⟩
 have h1 : ((left : Int) - (m : Int) < 0) := by omega
 have HE : Hid (lfT left m = -1) := by show _ = _; unfold lfT; rw [if_neg h]
 go_enter Tryz.func197, Tryz.ntmps197
 go_wp2
 go_ret
 exact ⟨by rw [HE.out]; rfl, Below.refl _ _⟩
theorem szBoolS_t (ws : List Bool) (a : Option Addr) (l c : Nat) (left : Nat) (w : World) (r : Rd w 0 (boolsT ws) (.slice a l c)) (hl : left <= 1048576) :
 Calls Tryz.prog 196 #[.slice a l c, .int .i64 (left : Int)] w fun e w' => e = .returned (.int .i64 (lfT left ws.length)) /\ Below w.heap.size w w' := by
 obtain ⟨a9, c9, h9, -, hm, -⟩ := r.bools
 simp only [Value.slice.injEq] at h9
 obtain ⟨-, rfl, -⟩ := h9
 obtain ⟨m, e⟩ : ∃ m, m = ws.length := ⟨_, rfl⟩
 clear r
 rw [<- e] at hm ⊢
 clear a9 c9 e
 unfold maxLen at hm
 have w1 : IntKind.i64.wrap ((left : Int) - (m : Int)) = (left : Int) - (m : Int) := by rw [IntKind.wrap_i64]; omega
 by_cases h : m <= left
 ·have h1 : ¬ ((left : Int) - (m : Int) < 0) := by omega
  have HE : Hid (lfT left m = (left : Int) - (m : Int)) := by show _ = _; unfold lfT; rw [if_pos h]
  go_enter Tryz.func196, Tryz.ntmps196
  go_wp2
  go_ret
  exact ⟨by rw [HE.out]; rfl, Below.refl _ _⟩
 have h1 : ((left : Int) - (m : Int) < 0) := by omega
 have HE : Hid (lfT left m = -1) := by show _ = _; unfold lfT; rw [if_neg h]
 go_enter Tryz.func196, Tryz.ntmps196
 go_wp2
 go_ret
 exact ⟨by rw [HE.out]; rfl, Below.refl _ _⟩
theorem Blk.tc2 {w : World} {g : Nat} {t : TypeId} {v0 v1 : Value} (h : Blk w g t #[v0, v1]) : (w.cell? ⟨g, 0, none⟩ = some v0 /\ w.cell? ⟨g, 1, none⟩ = some v1) /\ ∀ j, w.frozen? ⟨g, j, none⟩ = false :=
 ⟨⟨h.cell 0 rfl, h.cell 1 rfl⟩, h.fro⟩
theorem Blk.tc6 {w : World} {g : Nat} {t : TypeId} {v0 v1 v2 v3 v4 v5 : Value} (h : Blk w g t #[v0, v1, v2, v3, v4, v5]) : (w.cell? ⟨g, 0, none⟩ = some v0 /\ w.cell? ⟨g, 1, none⟩ = some v1 /\ w.cell? ⟨g, 2, none⟩ = some v2 /\ w.cell? ⟨g, 3, none⟩ = some v3 /\ w.cell? ⟨g, 4, none⟩ = some v4 /\ w.cell? ⟨g, 5, none⟩ = some v5) /\ ∀ j, w.frozen? ⟨g, j, none⟩ = false :=
 ⟨⟨h.cell 0 rfl, h.cell 1 rfl, h.cell 2 rfl, h.cell 3 rfl, h.cell 4 rfl, h.cell 5 rfl⟩, h.fro⟩
theorem Blk.tc8 {w : World} {g : Nat} {t : TypeId} {v0 v1 v2 v3 v4 v5 v6 v7 : Value} (h : Blk w g t #[v0, v1, v2, v3, v4, v5, v6, v7]) : (w.cell? ⟨g, 0, none⟩ = some v0 /\ w.cell? ⟨g, 1, none⟩ = some v1 /\ w.cell? ⟨g, 2, none⟩ = some v2 /\ w.cell? ⟨g, 3, none⟩ = some v3 /\ w.cell? ⟨g, 4, none⟩ = some v4 /\ w.cell? ⟨g, 5, none⟩ = some v5 /\ w.cell? ⟨g, 6, none⟩ = some v6 /\ w.cell? ⟨g, 7, none⟩ = some v7) /\ ∀ j, w.frozen? ⟨g, j, none⟩ = false :=
 ⟨⟨h.cell 0 rfl, h.cell 1 rfl, h.cell 2 rfl, h.cell 3 rfl, h.cell 4 rfl, h.cell 5 rfl, h.cell 6 rfl, h.cell 7 rfl⟩, h.fro⟩
theorem Blk.tc13 {w : World} {g : Nat} {t : TypeId} {v0 v1 v2 v3 v4 v5 v6 v7 v8 v9 v10 v11 v12 : Value} (h : Blk w g t #[v0, v1, v2, v3, v4, v5, v6, v7, v8, v9, v10, v11, v12]) : (w.cell? ⟨g, 0, none⟩ = some v0 /\ w.cell? ⟨g, 1, none⟩ = some v1 /\ w.cell? ⟨g, 2, none⟩ = some v2 /\ w.cell? ⟨g, 3, none⟩ = some v3 /\ w.cell? ⟨g, 4, none⟩ = some v4 /\ w.cell? ⟨g, 5, none⟩ = some v5 /\ w.cell? ⟨g, 6, none⟩ = some v6 /\ w.cell? ⟨g, 7, none⟩ = some v7 /\ w.cell? ⟨g, 8, none⟩ = some v8 /\ w.cell? ⟨g, 9, none⟩ = some v9 /\ w.cell? ⟨g, 10, none⟩ = some v10 /\ w.cell? ⟨g, 11, none⟩ = some v11 /\ w.cell? ⟨g, 12, none⟩ = some v12) /\ ∀ j, w.frozen? ⟨g, j, none⟩ = false :=
 ⟨⟨h.cell 0 rfl, h.cell 1 rfl, h.cell 2 rfl, h.cell 3 rfl, h.cell 4 rfl, h.cell 5 rfl, h.cell 6 rfl, h.cell 7 rfl, h.cell 8 rfl, h.cell 9 rfl, h.cell 10 rfl, h.cell 11 rfl, h.cell 12 rfl⟩, h.fro⟩
end Go.Proofs.YtkfgijkkffbpmaaGreat
namespace Go.Proofs.YtkfgijkkffbpmaaGreat
open Go.RowKit Go.Joins
theorem eqIntS_t (ws : List Int) (a : Option Addr) (l c : Nat) (a' : Option Addr) (c' : Nat) (w : World) (r : Rd w 0 (intsT ws) (.slice a l c)) (r' : Rd w 0 (intsT ws) (.slice a' l c')) (hz : ws.length <= 1048576) :
 Calls Tryz.prog 213 #[.slice a l c, .slice a' l c'] w fun e w' => e = .returned (.bool true) /\ Below w.heap.size w w' := by
 obtain ⟨a9, c9, h9, -, hm, hs⟩ := r.ints
 simp only [Value.slice.injEq] at h9
 obtain ⟨rfl, rfl, rfl⟩ := h9
 obtain ⟨a9, c9, h9, -, -, hs'⟩ := r'.ints
 simp only [Value.slice.injEq] at h9
 obtain ⟨rfl, -, rfl⟩ := h9
 exact eqIntS_ok _ _ _ _ _ _ ws w rfl rfl hs hs' (by omega)
theorem eqBoolS_t (ws : List Bool) (a : Option Addr) (l c : Nat) (a' : Option Addr) (c' : Nat) (w : World) (r : Rd w 0 (boolsT ws) (.slice a l c)) (r' : Rd w 0 (boolsT ws) (.slice a' l c')) (hz : ws.length <= 1048576) :
 Calls Tryz.prog 212 #[.slice a l c, .slice a' l c'] w fun e w' => e = .returned (.bool true) /\ Below w.heap.size w w' := by
 obtain ⟨a9, c9, h9, -, hm, hs⟩ := r.bools
 simp only [Value.slice.injEq] at h9
 obtain ⟨rfl, rfl, rfl⟩ := h9
 obtain ⟨a9, c9, h9, -, -, hs'⟩ := r'.bools
 simp only [Value.slice.injEq] at h9
 obtain ⟨rfl, -, rfl⟩ := h9
 exact eqBoolS_ok _ _ _ _ _ _ ws w rfl rfl hs hs' (by omega)
theorem eqReq_t (X : VQ) (a1 : Option Addr) (l1 c1 : Nat) (a2 : Option Addr) (l2 c2 : Nat) (a1' : Option Addr) (c1' : Nat) (a2' : Option Addr) (c2' : Nat) (w : World) (r1 : Rd w 0 (intsT X.ws) (.slice a1 l1 c1)) (r2 : Rd w 0 (boolsT X.bs) (.slice a2 l2 c2)) (r1' : Rd w 0 (intsT X.ws) (.slice a1' l1 c1')) (r2' : Rd w 0 (boolsT X.bs) (.slice a2' l2 c2')) (hz : szT 6 (trs (qT X)) <= 1048576) :
 Calls Tryz.prog 208 #[.agg (qL X a1 l1 c1 a2 l2 c2).toArray, .agg (qL X a1' l1 c1' a2' l2 c2').toArray] w fun e w' => e = .returned (.bool true) /\ Below w.heap.size w w' := by
 rw [szT_q] at hz
 obtain ⟨a9, c9, h9, -, hm1, hs1⟩ := r1.ints
 simp only [Value.slice.injEq] at h9
 obtain ⟨rfl, rfl, rfl⟩ := h9
 obtain ⟨a9, c9, h9, -, hm2, hs2⟩ := r2.bools
 simp only [Value.slice.injEq] at h9
 obtain ⟨rfl, rfl, rfl⟩ := h9
 obtain ⟨a9, c9, h9, -, -, hs1'⟩ := r1'.ints
 simp only [Value.slice.injEq] at h9
 obtain ⟨rfl, -, rfl⟩ := h9
 obtain ⟨a9, c9, h9, -, -, hs2'⟩ := r2'.bools
 simp only [Value.slice.injEq] at h9
 obtain ⟨rfl, -, rfl⟩ := h9
 exact eqReq_true X.kd X.pl X.n X.wa _ _ _ _ _ _ _ _ _ _ _ _ X.ws X.bs w rfl rfl rfl rfl hs1 hs2 hs1' hs2' (by omega) (by omega)
theorem eqResp_t (X : VA) (a1 : Option Addr) (l1 c1 : Nat) (a2 : Option Addr) (l2 c2 : Nat) (a1' : Option Addr) (c1' : Nat) (a2' : Option Addr) (c2' : Nat) (w : World) (r1 : Rd w 0 (intsT X.ws) (.slice a1 l1 c1)) (r2 : Rd w 0 (boolsT X.bs) (.slice a2 l2 c2)) (r1' : Rd w 0 (intsT X.ws) (.slice a1' l1 c1')) (r2' : Rd w 0 (boolsT X.bs) (.slice a2' l2 c2')) (hz : szT 6 (trs (aT X)) <= 1048576) :
 Calls Tryz.prog 209 #[.agg (aL X a1 l1 c1 a2 l2 c2).toArray, .agg (aL X a1' l1 c1' a2' l2 c2').toArray] w fun e w' => e = .returned (.bool true) /\ Below w.heap.size w w' := by
 rw [szT_a] at hz
 obtain ⟨a9, c9, h9, -, hm1, hs1⟩ := r1.ints
 simp only [Value.slice.injEq] at h9
 obtain ⟨rfl, rfl, rfl⟩ := h9
 obtain ⟨a9, c9, h9, -, hm2, hs2⟩ := r2.bools
 simp only [Value.slice.injEq] at h9
 obtain ⟨rfl, rfl, rfl⟩ := h9
 obtain ⟨a9, c9, h9, -, -, hs1'⟩ := r1'.ints
 simp only [Value.slice.injEq] at h9
 obtain ⟨rfl, -, rfl⟩ := h9
 obtain ⟨a9, c9, h9, -, -, hs2'⟩ := r2'.bools
 simp only [Value.slice.injEq] at h9
 obtain ⟨rfl, -, rfl⟩ := h9
 exact eqResp_true X.kd X.fl X.pl X.n _ _ _ _ _ _ _ _ _ _ _ _ X.ws X.bs w rfl rfl rfl rfl hs1 hs2 hs1' hs2' (by omega) (by omega)
theorem eqRespS_t (n : Nat) (f : Nat -> VA) (a : Option Addr) (n' cap : Nat) (a' : Option Addr) (cap' : Nat) (w : World) (hs : Rd w 0 (.list 6 n (fun k => trs (aT (f k)))) (.slice a n' cap)) (hs' : Rd w 0 (.list 6 n (fun k => trs (aT (f k)))) (.slice a' n' cap')) (hz : (Tr.list 6 n (fun k => trs (aT (f k)))).sz <= 1048576) :
 Calls Tryz.prog 211 #[.slice a n' cap, .slice a' n' cap'] w fun e w' => e = .returned (.bool true) /\ Below w.heap.size w w' := by
 obtain ⟨a9, c9, h9, -, hn⟩ := hs.shape
 simp only [Value.slice.injEq] at h9
 obtain ⟨-, rfl, -⟩ := h9
 clear a9 c9 hn
 have hn1 : n' <= 1048576 := by rw [Tr.sz_list] at hz; omega
 have HZ : Hid (∀ k, k < n' -> szT 6 (trs (aT (f k))) <= 1048576) := by
  show ∀ k, k < n' -> szT 6 (trs (aT (f k))) <= 1048576
  intro k hk
  rw [Tr.sz_list] at hz
  have := sumN_at (fun k => szT 6 (trs (aT (f k)))) hk
  omega
 have HS : Hid (Rd w 0 (.list 6 n' (fun k => trs (aT (f k)))) (.slice a n' cap) /\ Rd w 0 (.list 6 n' (fun k => trs (aT (f k)))) (.slice a' n' cap')) := ⟨hs, hs'⟩
 clear hs hs' hz
 go_enter Tryz.func211, Tryz.ntmps211
 go_wp2
 go_loopw [5] (fun i wr => ∃ z : Nat, z <= n' /\ i = .int .i64 z /\ Below w.heap.size w wr) (fun i _ => n' - (intOf i).toNat)
 case atStart => exact ⟨0, Nat.zero_le _, rfl, Below.refl _ _⟩
 case round =>
  obtain ⟨k, hk, rfl, hbl⟩ := hrel
  by_cases hlt : k < n'
  ·have hi : (k : Int) < (n' : Int) := by omega
   obtain ⟨b, off, vs, rfl, _, hb0, hlen, hr, hrd⟩ := (HS.out.1.below hbl).at hlt
   obtain ⟨a1, c1, a2, c2, rfl, r1, r2⟩ := VA.cells hrd hlen
   clear hlen hrd hb0
   obtain ⟨b', off', vs, rfl, _, hb0, hlen, hr', hrd⟩ := (HS.out.2.below hbl).at hlt
   obtain ⟨a1', c1', a2', c2', rfl, r1', r2'⟩ := VA.cells hrd hlen
   clear hlen hrd hb0
   have d09 : wr.cell? ⟨b, off + k * 6, none⟩ = _ := hr 0 _ rfl
   have e09 : wr.cell? ⟨b', off' + k * 6, none⟩ = _ := hr' 0 _ rfl
   have d19 : wr.cell? ⟨b, off + k * 6 + 1, none⟩ = _ := hr 1 _ rfl
   have e19 : wr.cell? ⟨b', off' + k * 6 + 1, none⟩ = _ := hr' 1 _ rfl
   have d29 : wr.cell? ⟨b, off + k * 6 + 2, none⟩ = _ := hr 2 _ rfl
   have e29 : wr.cell? ⟨b', off' + k * 6 + 2, none⟩ = _ := hr' 2 _ rfl
   have d39 : wr.cell? ⟨b, off + k * 6 + 3, none⟩ = _ := hr 3 _ rfl
   have e39 : wr.cell? ⟨b', off' + k * 6 + 3, none⟩ = _ := hr' 3 _ rfl
   have d49 : wr.cell? ⟨b, off + k * 6 + 4, none⟩ = _ := hr 4 _ rfl
   have e49 : wr.cell? ⟨b', off' + k * 6 + 4, none⟩ = _ := hr' 4 _ rfl
   have d59 : wr.cell? ⟨b, off + k * 6 + 5, none⟩ = _ := hr 5 _ rfl
   have e59 : wr.cell? ⟨b', off' + k * 6 + 5, none⟩ = _ := hr' 5 _ rfl
   have HK : Hid (Below w.heap.size w wr /\ szT 6 (trs (aT (f k))) <= 1048576 /\ Rd wr 0 (intsT (f k).ws) (.slice a1 ((f k).ws.length) c1) /\ Rd wr 0 (boolsT (f k).bs) (.slice a2 ((f k).bs.length) c2) /\ Rd wr 0 (intsT (f k).ws) (.slice a1' ((f k).ws.length) c1') /\ Rd wr 0 (boolsT (f k).bs) (.slice a2' ((f k).bs.length) c2')) := ⟨hbl, HZ.out k hlt, r1, r2, r1', r2'⟩
   clear r1 r2 r1' r2' hr hr' hbl
   go_wp2_with fail
   go_region_with (go_at_call 209; refine (eqResp_t (f k) a1 ((f k).ws.length) c1 a2 ((f k).bs.length) c2 a1' c1' a2' c2' _ (HK.out.2.2.1.below (by first | exact Below.refl _ _ | exact (Below.refl _ _).drew | exact (Below.refl _ _).drew.drew)) (HK.out.2.2.2.1.below (by first | exact Below.refl _ _ | exact (Below.refl _ _).drew | exact (Below.refl _ _).drew.drew)) (HK.out.2.2.2.2.1.below (by first | exact Below.refl _ _ | exact (Below.refl _ _).drew | exact (Below.refl _ _).drew.drew)) (HK.out.2.2.2.2.2.below (by first | exact Below.refl _ _ | exact (Below.refl _ _).drew | exact (Below.refl _ _).drew.drew)) HK.out.2.1).mono ?_; rintro e w1 ⟨rfl, b1'⟩; have b1 : Below wr.heap.size wr w1 := bel_nx (by first | exact Below.refl _ _ | exact (Below.refl _ _).drew | exact (Below.refl _ _).drew.drew) b1'; clear b1')
   all_goals (
    have B1 := bel_nx HK.out.1 b1
    clear HK b1 d09 e09 d19 e19 d29 e29 d39 e39 d49 e49 d59 e59
    go_wp2
    go_roundw
    case rel => exact ⟨k + 1, by omega, by go_num, B1⟩
    case measure => simp [intOf]; omega)
  have hi : ¬ (k : Int) < (n' : Int) := by omega
  go_wp2
  go_ret
  exact ⟨rfl, hbl⟩
theorem eqPart_t (X : VP) (a1 : Option Addr) (l1 c1 : Nat) (a2 : Option Addr) (l2 c2 : Nat) (a1' : Option Addr) (c1' : Nat) (a2' : Option Addr) (c2' : Nat) (w : World) (r1 : Rd w 0 (intsT X.q.ws) (.slice a1 l1 c1)) (r2 : Rd w 0 (boolsT X.q.bs) (.slice a2 l2 c2)) (r1' : Rd w 0 (intsT X.q.ws) (.slice a1' l1 c1')) (r2' : Rd w 0 (boolsT X.q.bs) (.slice a2' l2 c2')) (hz : szT 8 (trs (pT X)) <= 1048576) :
 Calls Tryz.prog 247 #[.agg (pL X a1 l1 c1 a2 l2 c2).toArray, .agg (pL X a1' l1 c1' a2' l2 c2').toArray] w fun e w' => e = .returned (.bool true) /\ Below w.heap.size w w' := by
 obtain ⟨W, hW⟩ : ∃ W, W = (w.alloc (.cells (pL X a1 l1 c1 a2 l2 c2).toArray 167)).alloc (.cells (pL X a1' l1 c1' a2' l2 c2').toArray 167) := ⟨_, rfl⟩
 have HZ : Hid (szT 6 (trs (qT X.q)) <= 1048576) := by
  rw [szT_p] at hz
  show szT 6 (trs (qT X.q)) <= 1048576
  try simp only [szT_q, szT_a, szT_p, szT_d, szT_t, true_and]
  omega
 have HR : Hid (Rd w 0 (intsT X.q.ws) (.slice a1 l1 c1) /\ Rd w 0 (boolsT X.q.bs) (.slice a2 l2 c2) /\ Rd w 0 (intsT X.q.ws) (.slice a1' l1 c1') /\ Rd w 0 (boolsT X.q.bs) (.slice a2' l2 c2')) := ⟨r1, r2, r1', r2'⟩
 have G0 : Hid (Below w.heap.size w W /\ Blk W w.heap.size 167 (pL X a1 l1 c1 a2 l2 c2).toArray /\ Blk W (w.heap.size + 1) 167 (pL X a1' l1 c1' a2' l2 c2').toArray) := ⟨by rw [hW]; exact bel_nx (bel_alloc _ _) (bel_alloc _ _), by rw [hW]; exact (Blk.new w _ _).below (bel_alloc _ _), by rw [hW]; have := Blk.new (w.alloc (.cells (pL X a1 l1 c1 a2 l2 c2).toArray 167)) (pL X a1' l1 c1' a2' l2 c2').toArray 167; simpa using this⟩
 clear hz r1 r2 r1' r2'
 go_enter Tryz.func247, Tryz.ntmps247
 go_upto_region 1 with fail
 rw [<- hW]
 clear hW
 obtain ⟨⟨y0, y1, y2, y3, y4, y5, y6, y7⟩, yf⟩ := G0.out.2.1.tc8
 obtain ⟨⟨z0, z1, z2, z3, z4, z5, z6, z7⟩, zf⟩ := G0.out.2.2.tc8
 clear yf zf
 go_wp2_with fail
 refine (eqReq_t X.q a1 l1 c1 a2 l2 c2 a1' c1' a2' c2' _ (HR.out.1.below G0.out.1) (HR.out.2.1.below G0.out.1) (HR.out.2.2.1.below G0.out.1) (HR.out.2.2.2.below G0.out.1) HZ.out).mono ?_
 rintro e w1 ⟨rfl, hb1⟩
 have G1 : Hid (Below w.heap.size w w1 /\ Blk w1 w.heap.size 167 (pL X a1 l1 c1 a2 l2 c2).toArray /\ Blk w1 (w.heap.size + 1) 167 (pL X a1' l1 c1' a2' l2 c2').toArray) := ⟨bel_nx G0.out.1 hb1, G0.out.2.1.below hb1, G0.out.2.2.below hb1⟩
 clear hb1 y0 y1 y2 y3 y4 y5 y6 y7 z0 z1 z2 z3 z4 z5 z6 z7
 go_wp2
 go_ret
 exact ⟨rfl, G1.out.1⟩
theorem eqPartS_t (n : Nat) (f : Nat -> VP) (a : Option Addr) (n' cap : Nat) (a' : Option Addr) (cap' : Nat) (w : World) (hs : Rd w 0 (.list 8 n (fun k => trs (pT (f k)))) (.slice a n' cap)) (hs' : Rd w 0 (.list 8 n (fun k => trs (pT (f k)))) (.slice a' n' cap')) (hz : (Tr.list 8 n (fun k => trs (pT (f k)))).sz <= 1048576) :
 Calls Tryz.prog 210 #[.slice a n' cap, .slice a' n' cap'] w fun e w' => e = .returned (.bool true) /\ Below w.heap.size w w' := by
 obtain ⟨a9, c9, h9, -, hn⟩ := hs.shape
 simp only [Value.slice.injEq] at h9
 obtain ⟨-, rfl, -⟩ := h9
 clear a9 c9 hn
 have hn1 : n' <= 1048576 := by rw [Tr.sz_list] at hz; omega
 have HZ : Hid (∀ k, k < n' -> szT 8 (trs (pT (f k))) <= 1048576) := by
  show ∀ k, k < n' -> szT 8 (trs (pT (f k))) <= 1048576
  intro k hk
  rw [Tr.sz_list] at hz
  have := sumN_at (fun k => szT 8 (trs (pT (f k)))) hk
  omega
 have HS : Hid (Rd w 0 (.list 8 n' (fun k => trs (pT (f k)))) (.slice a n' cap) /\ Rd w 0 (.list 8 n' (fun k => trs (pT (f k)))) (.slice a' n' cap')) := ⟨hs, hs'⟩
 clear hs hs' hz
 go_enter Tryz.func210, Tryz.ntmps210
 go_wp2
 go_loopw [5] (fun i wr => ∃ z : Nat, z <= n' /\ i = .int .i64 z /\ Below w.heap.size w wr) (fun i _ => n' - (intOf i).toNat)
 case atStart => exact ⟨0, Nat.zero_le _, rfl, Below.refl _ _⟩
 case round =>
  obtain ⟨k, hk, rfl, hbl⟩ := hrel
  by_cases hlt : k < n'
  ·have hi : (k : Int) < (n' : Int) := by omega
   obtain ⟨b, off, vs, rfl, _, hb0, hlen, hr, hrd⟩ := (HS.out.1.below hbl).at hlt
   obtain ⟨a1, c1, a2, c2, rfl, r1, r2⟩ := VP.cells hrd hlen
   clear hlen hrd hb0
   obtain ⟨b', off', vs, rfl, _, hb0, hlen, hr', hrd⟩ := (HS.out.2.below hbl).at hlt
   obtain ⟨a1', c1', a2', c2', rfl, r1', r2'⟩ := VP.cells hrd hlen
   clear hlen hrd hb0
   have d09 : wr.cell? ⟨b, off + k * 8, none⟩ = _ := hr 0 _ rfl
   have e09 : wr.cell? ⟨b', off' + k * 8, none⟩ = _ := hr' 0 _ rfl
   have d19 : wr.cell? ⟨b, off + k * 8 + 1, none⟩ = _ := hr 1 _ rfl
   have e19 : wr.cell? ⟨b', off' + k * 8 + 1, none⟩ = _ := hr' 1 _ rfl
   have d29 : wr.cell? ⟨b, off + k * 8 + 2, none⟩ = _ := hr 2 _ rfl
   have e29 : wr.cell? ⟨b', off' + k * 8 + 2, none⟩ = _ := hr' 2 _ rfl
   have d39 : wr.cell? ⟨b, off + k * 8 + 3, none⟩ = _ := hr 3 _ rfl
   have e39 : wr.cell? ⟨b', off' + k * 8 + 3, none⟩ = _ := hr' 3 _ rfl
   have d49 : wr.cell? ⟨b, off + k * 8 + 4, none⟩ = _ := hr 4 _ rfl
   have e49 : wr.cell? ⟨b', off' + k * 8 + 4, none⟩ = _ := hr' 4 _ rfl
   have d59 : wr.cell? ⟨b, off + k * 8 + 5, none⟩ = _ := hr 5 _ rfl
   have e59 : wr.cell? ⟨b', off' + k * 8 + 5, none⟩ = _ := hr' 5 _ rfl
   have d69 : wr.cell? ⟨b, off + k * 8 + 6, none⟩ = _ := hr 6 _ rfl
   have e69 : wr.cell? ⟨b', off' + k * 8 + 6, none⟩ = _ := hr' 6 _ rfl
   have d79 : wr.cell? ⟨b, off + k * 8 + 7, none⟩ = _ := hr 7 _ rfl
   have e79 : wr.cell? ⟨b', off' + k * 8 + 7, none⟩ = _ := hr' 7 _ rfl
   have HK : Hid (Below w.heap.size w wr /\ szT 8 (trs (pT (f k))) <= 1048576 /\ Rd wr 0 (intsT (f k).q.ws) (.slice a1 ((f k).q.ws.length) c1) /\ Rd wr 0 (boolsT (f k).q.bs) (.slice a2 ((f k).q.bs.length) c2) /\ Rd wr 0 (intsT (f k).q.ws) (.slice a1' ((f k).q.ws.length) c1') /\ Rd wr 0 (boolsT (f k).q.bs) (.slice a2' ((f k).q.bs.length) c2')) := ⟨hbl, HZ.out k hlt, r1, r2, r1', r2'⟩
   clear r1 r2 r1' r2' hr hr' hbl
   go_wp2_with fail
   go_region_with (go_at_call 247; refine (eqPart_t (f k) a1 ((f k).q.ws.length) c1 a2 ((f k).q.bs.length) c2 a1' c1' a2' c2' _ (HK.out.2.2.1.below (by first | exact Below.refl _ _ | exact (Below.refl _ _).drew | exact (Below.refl _ _).drew.drew)) (HK.out.2.2.2.1.below (by first | exact Below.refl _ _ | exact (Below.refl _ _).drew | exact (Below.refl _ _).drew.drew)) (HK.out.2.2.2.2.1.below (by first | exact Below.refl _ _ | exact (Below.refl _ _).drew | exact (Below.refl _ _).drew.drew)) (HK.out.2.2.2.2.2.below (by first | exact Below.refl _ _ | exact (Below.refl _ _).drew | exact (Below.refl _ _).drew.drew)) HK.out.2.1).mono ?_; rintro e w1 ⟨rfl, b1'⟩; have b1 : Below wr.heap.size wr w1 := bel_nx (by first | exact Below.refl _ _ | exact (Below.refl _ _).drew | exact (Below.refl _ _).drew.drew) b1'; clear b1')
   all_goals (
    have B1 := bel_nx HK.out.1 b1
    clear HK b1 d09 e09 d19 e19 d29 e29 d39 e39 d49 e49 d59 e59 d69 e69 d79 e79
    go_wp2
    go_roundw
    case rel => exact ⟨k + 1, by omega, by go_num, B1⟩
    case measure => simp [intOf]; omega)
  have hi : ¬ (k : Int) < (n' : Int) := by omega
  go_wp2
  go_ret
  exact ⟨rfl, hbl⟩
theorem eqPend_t (X : VD) (a1 : Option Addr) (l1 c1 : Nat) (a2 : Option Addr) (l2 c2 : Nat) (a3 : Option Addr) (l3 c3 : Nat) (a4 : Option Addr) (l4 c4 : Nat) (a5 : Option Addr) (l5 c5 : Nat) (a1' : Option Addr) (c1' : Nat) (a2' : Option Addr) (c2' : Nat) (a3' : Option Addr) (c3' : Nat) (a4' : Option Addr) (c4' : Nat) (a5' : Option Addr) (c5' : Nat) (w : World) (r1 : Rd w 0 (intsT X.q.ws) (.slice a1 l1 c1)) (r2 : Rd w 0 (boolsT X.q.bs) (.slice a2 l2 c2)) (r3 : Rd w 0 (.list 8 X.np (fun i => trs (pT (X.pt i)))) (.slice a3 l3 c3)) (r4 : Rd w 0 (boolsT X.hs) (.slice a4 l4 c4)) (r5 : Rd w 0 (.list 6 X.nt (fun i => trs (aT (X.tl i)))) (.slice a5 l5 c5)) (r1' : Rd w 0 (intsT X.q.ws) (.slice a1' l1 c1')) (r2' : Rd w 0 (boolsT X.q.bs) (.slice a2' l2 c2')) (r3' : Rd w 0 (.list 8 X.np (fun i => trs (pT (X.pt i)))) (.slice a3' l3 c3')) (r4' : Rd w 0 (boolsT X.hs) (.slice a4' l4 c4')) (r5' : Rd w 0 (.list 6 X.nt (fun i => trs (aT (X.tl i)))) (.slice a5' l5 c5')) (hz : szT 13 (trs (dT X)) <= 1048576) :
 Calls Tryz.prog 179 #[.agg (dL X a1 l1 c1 a2 l2 c2 a3 l3 c3 a4 l4 c4 a5 l5 c5).toArray, .agg (dL X a1' l1 c1' a2' l2 c2' a3' l3 c3' a4' l4 c4' a5' l5 c5').toArray] w fun e w' => e = .returned (.bool true) /\ Below w.heap.size w w' := by
 obtain ⟨W, hW⟩ : ∃ W, W = (w.alloc (.cells (dL X a1 l1 c1 a2 l2 c2 a3 l3 c3 a4 l4 c4 a5 l5 c5).toArray 164)).alloc (.cells (dL X a1' l1 c1' a2' l2 c2' a3' l3 c3' a4' l4 c4' a5' l5 c5').toArray 164) := ⟨_, rfl⟩
 have HZ : Hid (szT 6 (trs (qT X.q)) <= 1048576 /\ (Tr.list 8 X.np (fun i => trs (pT (X.pt i)))).sz <= 1048576 /\ X.hs.length <= 1048576 /\ (Tr.list 6 X.nt (fun i => trs (aT (X.tl i)))).sz <= 1048576) := by
  rw [szT_d] at hz
  show szT 6 (trs (qT X.q)) <= 1048576 /\ (Tr.list 8 X.np (fun i => trs (pT (X.pt i)))).sz <= 1048576 /\ X.hs.length <= 1048576 /\ (Tr.list 6 X.nt (fun i => trs (aT (X.tl i)))).sz <= 1048576
  try simp only [szT_q, szT_a, szT_p, szT_d, szT_t, true_and]
  omega
 have HR : Hid (Rd w 0 (intsT X.q.ws) (.slice a1 l1 c1) /\ Rd w 0 (boolsT X.q.bs) (.slice a2 l2 c2) /\ Rd w 0 (.list 8 X.np (fun i => trs (pT (X.pt i)))) (.slice a3 l3 c3) /\ Rd w 0 (boolsT X.hs) (.slice a4 l4 c4) /\ Rd w 0 (.list 6 X.nt (fun i => trs (aT (X.tl i)))) (.slice a5 l5 c5) /\ Rd w 0 (intsT X.q.ws) (.slice a1' l1 c1') /\ Rd w 0 (boolsT X.q.bs) (.slice a2' l2 c2') /\ Rd w 0 (.list 8 X.np (fun i => trs (pT (X.pt i)))) (.slice a3' l3 c3') /\ Rd w 0 (boolsT X.hs) (.slice a4' l4 c4') /\ Rd w 0 (.list 6 X.nt (fun i => trs (aT (X.tl i)))) (.slice a5' l5 c5')) := ⟨r1, r2, r3, r4, r5, r1', r2', r3', r4', r5'⟩
 have G0 : Hid (Below w.heap.size w W /\ Blk W w.heap.size 164 (dL X a1 l1 c1 a2 l2 c2 a3 l3 c3 a4 l4 c4 a5 l5 c5).toArray /\ Blk W (w.heap.size + 1) 164 (dL X a1' l1 c1' a2' l2 c2' a3' l3 c3' a4' l4 c4' a5' l5 c5').toArray) := ⟨by rw [hW]; exact bel_nx (bel_alloc _ _) (bel_alloc _ _), by rw [hW]; exact (Blk.new w _ _).below (bel_alloc _ _), by rw [hW]; have := Blk.new (w.alloc (.cells (dL X a1 l1 c1 a2 l2 c2 a3 l3 c3 a4 l4 c4 a5 l5 c5).toArray 164)) (dL X a1' l1 c1' a2' l2 c2' a3' l3 c3' a4' l4 c4' a5' l5 c5').toArray 164; simpa using this⟩
 clear hz r1 r2 r3 r4 r5 r1' r2' r3' r4' r5'
 go_enter Tryz.func179, Tryz.ntmps179
 go_upto_region 1 with fail
 rw [<- hW]
 clear hW
 obtain ⟨⟨y0, y1, y2, y3, y4, y5, y6, y7, y8, y9, y10, y11, y12⟩, yf⟩ := G0.out.2.1.tc13
 obtain ⟨⟨z0, z1, z2, z3, z4, z5, z6, z7, z8, z9, z10, z11, z12⟩, zf⟩ := G0.out.2.2.tc13
 clear yf zf
 go_wp2_with fail
 refine (eqReq_t X.q a1 l1 c1 a2 l2 c2 a1' c1' a2' c2' _ (HR.out.1.below G0.out.1) (HR.out.2.1.below G0.out.1) (HR.out.2.2.2.2.2.1.below G0.out.1) (HR.out.2.2.2.2.2.2.1.below G0.out.1) HZ.out.1).mono ?_
 rintro e w1 ⟨rfl, hb1⟩
 have G1 : Hid (Below w.heap.size w w1 /\ Blk w1 w.heap.size 164 (dL X a1 l1 c1 a2 l2 c2 a3 l3 c3 a4 l4 c4 a5 l5 c5).toArray /\ Blk w1 (w.heap.size + 1) 164 (dL X a1' l1 c1' a2' l2 c2' a3' l3 c3' a4' l4 c4' a5' l5 c5').toArray) := ⟨bel_nx G0.out.1 hb1, G0.out.2.1.below hb1, G0.out.2.2.below hb1⟩
 clear hb1 y0 y1 y2 y3 y4 y5 y6 y7 y8 y9 y10 y11 y12 z0 z1 z2 z3 z4 z5 z6 z7 z8 z9 z10 z11 z12
 obtain ⟨⟨y0, y1, y2, y3, y4, y5, y6, y7, y8, y9, y10, y11, y12⟩, yf⟩ := G1.out.2.1.tc13
 obtain ⟨⟨z0, z1, z2, z3, z4, z5, z6, z7, z8, z9, z10, z11, z12⟩, zf⟩ := G1.out.2.2.tc13
 clear yf zf
 go_wp2_with fail
 refine (eqPartS_t X.np X.pt a3 l3 c3 a3' c3' _ (HR.out.2.2.1.below G1.out.1) (HR.out.2.2.2.2.2.2.2.1.below G1.out.1) HZ.out.2.1).mono ?_
 rintro e w2 ⟨rfl, hb2⟩
 have G2 : Hid (Below w.heap.size w w2 /\ Blk w2 w.heap.size 164 (dL X a1 l1 c1 a2 l2 c2 a3 l3 c3 a4 l4 c4 a5 l5 c5).toArray /\ Blk w2 (w.heap.size + 1) 164 (dL X a1' l1 c1' a2' l2 c2' a3' l3 c3' a4' l4 c4' a5' l5 c5').toArray) := ⟨bel_nx G1.out.1 hb2, G1.out.2.1.below hb2, G1.out.2.2.below hb2⟩
 clear hb2 y0 y1 y2 y3 y4 y5 y6 y7 y8 y9 y10 y11 y12 z0 z1 z2 z3 z4 z5 z6 z7 z8 z9 z10 z11 z12
 obtain ⟨⟨y0, y1, y2, y3, y4, y5, y6, y7, y8, y9, y10, y11, y12⟩, yf⟩ := G2.out.2.1.tc13
 obtain ⟨⟨z0, z1, z2, z3, z4, z5, z6, z7, z8, z9, z10, z11, z12⟩, zf⟩ := G2.out.2.2.tc13
 clear yf zf
 go_wp2_with fail
 refine (eqBoolS_t X.hs a4 l4 c4 a4' c4' _ (HR.out.2.2.2.1.below G2.out.1) (HR.out.2.2.2.2.2.2.2.2.1.below G2.out.1) HZ.out.2.2.1).mono ?_
 rintro e w3 ⟨rfl, hb3⟩
 have G3 : Hid (Below w.heap.size w w3 /\ Blk w3 w.heap.size 164 (dL X a1 l1 c1 a2 l2 c2 a3 l3 c3 a4 l4 c4 a5 l5 c5).toArray /\ Blk w3 (w.heap.size + 1) 164 (dL X a1' l1 c1' a2' l2 c2' a3' l3 c3' a4' l4 c4' a5' l5 c5').toArray) := ⟨bel_nx G2.out.1 hb3, G2.out.2.1.below hb3, G2.out.2.2.below hb3⟩
 clear hb3 y0 y1 y2 y3 y4 y5 y6 y7 y8 y9 y10 y11 y12 z0 z1 z2 z3 z4 z5 z6 z7 z8 z9 z10 z11 z12
 obtain ⟨⟨y0, y1, y2, y3, y4, y5, y6, y7, y8, y9, y10, y11, y12⟩, yf⟩ := G3.out.2.1.tc13
 obtain ⟨⟨z0, z1, z2, z3, z4, z5, z6, z7, z8, z9, z10, z11, z12⟩, zf⟩ := G3.out.2.2.tc13
 clear yf zf
 go_wp2_with fail
 refine (eqRespS_t X.nt X.tl a5 l5 c5 a5' c5' _ (HR.out.2.2.2.2.1.below G3.out.1) (HR.out.2.2.2.2.2.2.2.2.2.below G3.out.1) HZ.out.2.2.2).mono ?_
 rintro e w4 ⟨rfl, hb4⟩
 have G4 : Hid (Below w.heap.size w w4 /\ Blk w4 w.heap.size 164 (dL X a1 l1 c1 a2 l2 c2 a3 l3 c3 a4 l4 c4 a5 l5 c5).toArray /\ Blk w4 (w.heap.size + 1) 164 (dL X a1' l1 c1' a2' l2 c2' a3' l3 c3' a4' l4 c4' a5' l5 c5').toArray) := ⟨bel_nx G3.out.1 hb4, G3.out.2.1.below hb4, G3.out.2.2.below hb4⟩
 clear hb4 y0 y1 y2 y3 y4 y5 y6 y7 y8 y9 y10 y11 y12 z0 z1 z2 z3 z4 z5 z6 z7 z8 z9 z10 z11 z12
 go_wp2
 go_ret
 exact ⟨rfl, G4.out.1⟩
theorem eqPendS_t (n : Nat) (f : Nat -> VD) (a : Option Addr) (n' cap : Nat) (a' : Option Addr) (cap' : Nat) (w : World) (hs : Rd w 0 (.list 13 n (fun k => trs (dT (f k)))) (.slice a n' cap)) (hs' : Rd w 0 (.list 13 n (fun k => trs (dT (f k)))) (.slice a' n' cap')) (hz : (Tr.list 13 n (fun k => trs (dT (f k)))).sz <= 1048576) :
 Calls Tryz.prog 113 #[.slice a n' cap, .slice a' n' cap'] w fun e w' => e = .returned (.bool true) /\ Below w.heap.size w w' := by
 obtain ⟨a9, c9, h9, -, hn⟩ := hs.shape
 simp only [Value.slice.injEq] at h9
 obtain ⟨-, rfl, -⟩ := h9
 clear a9 c9 hn
 have hn1 : n' <= 1048576 := by rw [Tr.sz_list] at hz; omega
 have HZ : Hid (∀ k, k < n' -> szT 13 (trs (dT (f k))) <= 1048576) := by
  show ∀ k, k < n' -> szT 13 (trs (dT (f k))) <= 1048576
  intro k hk
  rw [Tr.sz_list] at hz
  have := sumN_at (fun k => szT 13 (trs (dT (f k)))) hk
  omega
 have HS : Hid (Rd w 0 (.list 13 n' (fun k => trs (dT (f k)))) (.slice a n' cap) /\ Rd w 0 (.list 13 n' (fun k => trs (dT (f k)))) (.slice a' n' cap')) := ⟨hs, hs'⟩
 clear hs hs' hz
 go_enter Tryz.func113, Tryz.ntmps113
 go_wp2
 go_loopw [5] (fun i wr => ∃ z : Nat, z <= n' /\ i = .int .i64 z /\ Below w.heap.size w wr) (fun i _ => n' - (intOf i).toNat)
 case atStart => exact ⟨0, Nat.zero_le _, rfl, Below.refl _ _⟩
 case round =>
  obtain ⟨k, hk, rfl, hbl⟩ := hrel
  by_cases hlt : k < n'
  ·have hi : (k : Int) < (n' : Int) := by omega
   obtain ⟨b, off, vs, rfl, _, hb0, hlen, hr, hrd⟩ := (HS.out.1.below hbl).at hlt
   obtain ⟨a1, c1, a2, c2, a3, c3, a4, c4, a5, c5, rfl, r1, r2, r3, r4, r5⟩ := VD.cells hrd hlen
   clear hlen hrd hb0
   obtain ⟨b', off', vs, rfl, _, hb0, hlen, hr', hrd⟩ := (HS.out.2.below hbl).at hlt
   obtain ⟨a1', c1', a2', c2', a3', c3', a4', c4', a5', c5', rfl, r1', r2', r3', r4', r5'⟩ := VD.cells hrd hlen
   clear hlen hrd hb0
   have d09 : wr.cell? ⟨b, off + k * 13, none⟩ = _ := hr 0 _ rfl
   have e09 : wr.cell? ⟨b', off' + k * 13, none⟩ = _ := hr' 0 _ rfl
   have d19 : wr.cell? ⟨b, off + k * 13 + 1, none⟩ = _ := hr 1 _ rfl
   have e19 : wr.cell? ⟨b', off' + k * 13 + 1, none⟩ = _ := hr' 1 _ rfl
   have d29 : wr.cell? ⟨b, off + k * 13 + 2, none⟩ = _ := hr 2 _ rfl
   have e29 : wr.cell? ⟨b', off' + k * 13 + 2, none⟩ = _ := hr' 2 _ rfl
   have d39 : wr.cell? ⟨b, off + k * 13 + 3, none⟩ = _ := hr 3 _ rfl
   have e39 : wr.cell? ⟨b', off' + k * 13 + 3, none⟩ = _ := hr' 3 _ rfl
   have d49 : wr.cell? ⟨b, off + k * 13 + 4, none⟩ = _ := hr 4 _ rfl
   have e49 : wr.cell? ⟨b', off' + k * 13 + 4, none⟩ = _ := hr' 4 _ rfl
   have d59 : wr.cell? ⟨b, off + k * 13 + 5, none⟩ = _ := hr 5 _ rfl
   have e59 : wr.cell? ⟨b', off' + k * 13 + 5, none⟩ = _ := hr' 5 _ rfl
   have d69 : wr.cell? ⟨b, off + k * 13 + 6, none⟩ = _ := hr 6 _ rfl
   have e69 : wr.cell? ⟨b', off' + k * 13 + 6, none⟩ = _ := hr' 6 _ rfl
   have d79 : wr.cell? ⟨b, off + k * 13 + 7, none⟩ = _ := hr 7 _ rfl
   have e79 : wr.cell? ⟨b', off' + k * 13 + 7, none⟩ = _ := hr' 7 _ rfl
   have d89 : wr.cell? ⟨b, off + k * 13 + 8, none⟩ = _ := hr 8 _ rfl
   have e89 : wr.cell? ⟨b', off' + k * 13 + 8, none⟩ = _ := hr' 8 _ rfl
   have d99 : wr.cell? ⟨b, off + k * 13 + 9, none⟩ = _ := hr 9 _ rfl
   have e99 : wr.cell? ⟨b', off' + k * 13 + 9, none⟩ = _ := hr' 9 _ rfl
   have d109 : wr.cell? ⟨b, off + k * 13 + 10, none⟩ = _ := hr 10 _ rfl
   have e109 : wr.cell? ⟨b', off' + k * 13 + 10, none⟩ = _ := hr' 10 _ rfl
   have d119 : wr.cell? ⟨b, off + k * 13 + 11, none⟩ = _ := hr 11 _ rfl
   have e119 : wr.cell? ⟨b', off' + k * 13 + 11, none⟩ = _ := hr' 11 _ rfl
   have d129 : wr.cell? ⟨b, off + k * 13 + 12, none⟩ = _ := hr 12 _ rfl
   have e129 : wr.cell? ⟨b', off' + k * 13 + 12, none⟩ = _ := hr' 12 _ rfl
   have HK : Hid (Below w.heap.size w wr /\ szT 13 (trs (dT (f k))) <= 1048576 /\ Rd wr 0 (intsT (f k).q.ws) (.slice a1 ((f k).q.ws.length) c1) /\ Rd wr 0 (boolsT (f k).q.bs) (.slice a2 ((f k).q.bs.length) c2) /\ Rd wr 0 (.list 8 (f k).np (fun i => trs (pT ((f k).pt i)))) (.slice a3 ((f k).np) c3) /\ Rd wr 0 (boolsT (f k).hs) (.slice a4 ((f k).hs.length) c4) /\ Rd wr 0 (.list 6 (f k).nt (fun i => trs (aT ((f k).tl i)))) (.slice a5 ((f k).nt) c5) /\ Rd wr 0 (intsT (f k).q.ws) (.slice a1' ((f k).q.ws.length) c1') /\ Rd wr 0 (boolsT (f k).q.bs) (.slice a2' ((f k).q.bs.length) c2') /\ Rd wr 0 (.list 8 (f k).np (fun i => trs (pT ((f k).pt i)))) (.slice a3' ((f k).np) c3') /\ Rd wr 0 (boolsT (f k).hs) (.slice a4' ((f k).hs.length) c4') /\ Rd wr 0 (.list 6 (f k).nt (fun i => trs (aT ((f k).tl i)))) (.slice a5' ((f k).nt) c5')) := ⟨hbl, HZ.out k hlt, r1, r2, r3, r4, r5, r1', r2', r3', r4', r5'⟩
   clear r1 r2 r3 r4 r5 r1' r2' r3' r4' r5' hr hr' hbl
   go_wp2_with fail
   go_region_with (go_at_call 179; refine (eqPend_t (f k) a1 ((f k).q.ws.length) c1 a2 ((f k).q.bs.length) c2 a3 ((f k).np) c3 a4 ((f k).hs.length) c4 a5 ((f k).nt) c5 a1' c1' a2' c2' a3' c3' a4' c4' a5' c5' _ (HK.out.2.2.1.below (by first | exact Below.refl _ _ | exact (Below.refl _ _).drew | exact (Below.refl _ _).drew.drew)) (HK.out.2.2.2.1.below (by first | exact Below.refl _ _ | exact (Below.refl _ _).drew | exact (Below.refl _ _).drew.drew)) (HK.out.2.2.2.2.1.below (by first | exact Below.refl _ _ | exact (Below.refl _ _).drew | exact (Below.refl _ _).drew.drew)) (HK.out.2.2.2.2.2.1.below (by first | exact Below.refl _ _ | exact (Below.refl _ _).drew | exact (Below.refl _ _).drew.drew)) (HK.out.2.2.2.2.2.2.1.below (by first | exact Below.refl _ _ | exact (Below.refl _ _).drew | exact (Below.refl _ _).drew.drew)) (HK.out.2.2.2.2.2.2.2.1.below (by first | exact Below.refl _ _ | exact (Below.refl _ _).drew | exact (Below.refl _ _).drew.drew)) (HK.out.2.2.2.2.2.2.2.2.1.below (by first | exact Below.refl _ _ | exact (Below.refl _ _).drew | exact (Below.refl _ _).drew.drew)) (HK.out.2.2.2.2.2.2.2.2.2.1.below (by first | exact Below.refl _ _ | exact (Below.refl _ _).drew | exact (Below.refl _ _).drew.drew)) (HK.out.2.2.2.2.2.2.2.2.2.2.1.below (by first | exact Below.refl _ _ | exact (Below.refl _ _).drew | exact (Below.refl _ _).drew.drew)) (HK.out.2.2.2.2.2.2.2.2.2.2.2.below (by first | exact Below.refl _ _ | exact (Below.refl _ _).drew | exact (Below.refl _ _).drew.drew)) HK.out.2.1).mono ?_; rintro e w1 ⟨rfl, b1'⟩; have b1 : Below wr.heap.size wr w1 := bel_nx (by first | exact Below.refl _ _ | exact (Below.refl _ _).drew | exact (Below.refl _ _).drew.drew) b1'; clear b1')
   all_goals (
    have B1 := bel_nx HK.out.1 b1
    clear HK b1 d09 e09 d19 e19 d29 e29 d39 e39 d49 e49 d59 e59 d69 e69 d79 e79 d89 e89 d99 e99 d109 e109 d119 e119 d129 e129
    go_wp2
    go_roundw
    case rel => exact ⟨k + 1, by omega, by go_num, B1⟩
    case measure => simp [intOf]; omega)
  have hi : ¬ (k : Int) < (n' : Int) := by omega
  go_wp2
  go_ret
  exact ⟨rfl, hbl⟩
theorem eqTable_t (X : VT) (a1 : Option Addr) (l1 c1 : Nat) (a1' : Option Addr) (c1' : Nat) (w : World) (r1 : Rd w 0 (.list 13 X.m (fun i => trs (dT (X.f i)))) (.slice a1 l1 c1)) (r1' : Rd w 0 (.list 13 X.m (fun i => trs (dT (X.f i)))) (.slice a1' l1 c1')) (hz : szT 2 (trs (tT X)) <= 1048576) :
 Calls Tryz.prog 53 #[.agg (tL X a1 l1 c1).toArray, .agg (tL X a1' l1 c1').toArray] w fun e w' => e = .returned (.bool true) /\ Below w.heap.size w w' := by
 obtain ⟨W, hW⟩ : ∃ W, W = (w.alloc (.cells (tL X a1 l1 c1).toArray 38)).alloc (.cells (tL X a1' l1 c1').toArray 38) := ⟨_, rfl⟩
 have HZ : Hid ((Tr.list 13 X.m (fun i => trs (dT (X.f i)))).sz <= 1048576) := by
  rw [szT_t] at hz
  show (Tr.list 13 X.m (fun i => trs (dT (X.f i)))).sz <= 1048576
  try simp only [szT_q, szT_a, szT_p, szT_d, szT_t, true_and]
  omega
 have HR : Hid (Rd w 0 (.list 13 X.m (fun i => trs (dT (X.f i)))) (.slice a1 l1 c1) /\ Rd w 0 (.list 13 X.m (fun i => trs (dT (X.f i)))) (.slice a1' l1 c1')) := ⟨r1, r1'⟩
 have G0 : Hid (Below w.heap.size w W /\ Blk W w.heap.size 38 (tL X a1 l1 c1).toArray /\ Blk W (w.heap.size + 1) 38 (tL X a1' l1 c1').toArray) := ⟨by rw [hW]; exact bel_nx (bel_alloc _ _) (bel_alloc _ _), by rw [hW]; exact (Blk.new w _ _).below (bel_alloc _ _), by rw [hW]; have := Blk.new (w.alloc (.cells (tL X a1 l1 c1).toArray 38)) (tL X a1' l1 c1').toArray 38; simpa using this⟩
 clear hz r1 r1'
 go_enter Tryz.func53, Tryz.ntmps53
 go_upto_region 1 with fail
 rw [<- hW]
 clear hW
 obtain ⟨⟨y0, y1⟩, yf⟩ := G0.out.2.1.tc2
 obtain ⟨⟨z0, z1⟩, zf⟩ := G0.out.2.2.tc2
 clear yf zf
 go_wp2_with fail
 refine (eqPendS_t X.m X.f a1 l1 c1 a1' c1' _ (HR.out.1.below G0.out.1) (HR.out.2.below G0.out.1) HZ.out).mono ?_
 rintro e w1 ⟨rfl, hb1⟩
 have G1 : Hid (Below w.heap.size w w1 /\ Blk w1 w.heap.size 38 (tL X a1 l1 c1).toArray /\ Blk w1 (w.heap.size + 1) 38 (tL X a1' l1 c1').toArray) := ⟨bel_nx G0.out.1 hb1, G0.out.2.1.below hb1, G0.out.2.2.below hb1⟩
 clear hb1 y0 y1 z0 z1
 go_wp2
 go_ret
 exact ⟨rfl, G1.out.1⟩
end Go.Proofs.YtkfgijkkffbpmaaGreat
namespace Go.Proofs.YtkfgijkkffbpmaaGreat
open Go.RowKit Go.Joins
inductive Sk where
 | leaf
 | row (g off s n : Nat) (K : Nat -> Nat -> Sk)
def Sk.bl : Sk -> Nat -> Prop
 | .leaf, _ => False
 | .row g _ s n K, b => b = g \/ ∃ k j, k < n /\ j < s /\ (K k j).bl b
def Sk.ok : Sk -> Prop
 | .leaf => True
 | .row g _ s n K => (∀ k j, k < n -> j < s -> (K k j).ok /\ ¬ (K k j).bl g) /\ ∀ k j k' j', k < n -> j < s -> k' < n -> j' < s -> (k ≠ k' \/ j ≠ j') -> ∀ b, (K k j).bl b -> ¬ (K k' j').bl b
def Fit (w : World) : Tr -> Sk -> Value -> Prop
 | .leaf u, K, v => K = .leaf /\ v = u
 | .list s n f, .leaf, v => n = 0 /\ ∃ a c, v = .slice a 0 c
 | .list s n f, .row g off s' n' K, v => s' = s /\ n' = n /\ ∃ c, v = .slice (some ⟨g, off, none⟩) n c /\ n <= c /\ n <= maxLen /\ g < w.heap.size /\ (∀ j, w.frozen? ⟨g, j, none⟩ = false) /\
  ∀ k j, k < n -> j < s -> ∃ u, w.cell? ⟨g, off + k * s + j, none⟩ = some u /\ Fit w (f k j) (K k j) u
theorem Fit.lt {w : World} {b : Nat} : ∀ {t : Tr} {K : Sk} {v : Value}, Fit w t K v -> K.bl b -> b < w.heap.size := by
 intro t
 induction t with
 | leaf u => intro K v h hb; obtain ⟨rfl, _⟩ := h; exact hb.elim
 | list s n f ih =>
  intro K v h hb
  cases K with
  | leaf => exact hb.elim
  | row g off s' n' K =>
   obtain ⟨rfl, rfl, c, _, _, _, hg, _, hc⟩ := h
   rcases hb with rfl | ⟨k, j, hk, hj, hb⟩
   ·exact hg
   obtain ⟨u, _, hf⟩ := hc k j hk hj
   exact ih k j hf hb
theorem Fit.same {w w' : World} (hs : w.heap.size <= w'.heap.size) : ∀ {t : Tr} {K : Sk} {v : Value}, Fit w t K v -> (∀ b, K.bl b -> w'.heap[b]? = w.heap[b]?) -> Fit w' t K v := by
 intro t
 induction t with
 | leaf u => intro K v h _; exact h
 | list s n f ih =>
  intro K v h hb
  cases K with
  | leaf => exact h
  | row g off s' n' K =>
   obtain ⟨rfl, rfl, c, h1, h2, h3, hg, hz, hc⟩ := h
   have e := hb g (.inl rfl)
   refine ⟨rfl, rfl, c, h1, h2, h3, Nat.lt_of_lt_of_le hg hs, fun j => (World.frozen?_of_block (a := ⟨g, j, none⟩) e).trans (hz j), fun k j hk hj => ?_⟩
   obtain ⟨u, hu, hf⟩ := hc k j hk hj
   exact ⟨u, (World.cell?_of_block (a := ⟨g, off + k * s' + j, none⟩) e).trans hu, ih k j hf (fun b hb' => hb b (.inr ⟨k, j, hk, hj, hb'⟩))⟩
theorem Fit.below {w w' : World} {t : Tr} {K : Sk} {v : Value} (h : Fit w t K v) (hb : Below w.heap.size w w') : Fit w' t K v := h.same hb.size (fun b hb' => hb.block b (h.lt hb'))
theorem Fit.rd {w : World} {lo : Nat} : ∀ {t : Tr} {K : Sk} {v : Value}, Fit w t K v -> (∀ b, K.bl b -> lo <= b) -> Rd w lo t v := by
 intro t
 induction t with
 | leaf u => intro K v h _; exact h.2
 | list s n f ih =>
  intro K v h hb
  cases K with
  | leaf =>
   obtain ⟨rfl, a, c, rfl⟩ := h
   exact ⟨a, c, rfl, Nat.zero_le _, Nat.zero_le _, .inl rfl⟩
  | row g off s' n' K =>
   obtain ⟨rfl, rfl, c, rfl, h2, h3, hg, hz, hc⟩ := h
   refine ⟨_, c, rfl, h2, h3, .inr ⟨g, off, fun k => (List.range s').map (fun j => (w.cell? ⟨g, off + k * s' + j, none⟩).getD undef), rfl, hb g (.inl rfl), hg, fun k hk => ⟨by simp, fun j v hv => ?_⟩⟩⟩
   have hj : j < s' := by have := (List.getElem?_eq_some_iff.1 hv).1; simpa using this
   obtain ⟨u, hu, hf⟩ := hc k j hk hj
   have e : v = u := by
    rw [List.getElem?_map, List.getElem?_range hj] at hv
    simp only [Option.map_some, Option.some.injEq] at hv
    rw [<- hv, hu]
    rfl
   subst e
   exact ⟨hu, ih k j hf (fun b hb' => hb b (.inr ⟨k, j, hk, hj, hb'⟩))⟩
structure Cg (w w' : World) (S : Nat -> Prop) : Prop where
 os : w'.os = w.os
 tape : w'.tape = w.tape
 output : w'.output = w.output
 size : w.heap.size <= w'.heap.size
 block : ∀ g, g < w.heap.size -> ¬ S g -> w'.heap[g]? = w.heap[g]?
theorem Cg.refl (w : World) (S : Nat -> Prop) : Cg w w S := ⟨rfl, rfl, rfl, Nat.le_refl _, fun _ _ _ => rfl⟩
theorem Cg.trans {a b c : World} {S : Nat -> Prop} (h : Cg a b S) (k : Cg b c S) : Cg a c S :=
 ⟨k.os.trans h.os, k.tape.trans h.tape, k.output.trans h.output, Nat.le_trans h.size k.size, fun g hg hn => (k.block g (Nat.lt_of_lt_of_le hg h.size) hn).trans (h.block g hg hn)⟩
theorem Cg.mono {w w' : World} {S S' : Nat -> Prop} (h : Cg w w' S) (hs : ∀ g, S g -> S' g) : Cg w w' S' := ⟨h.os, h.tape, h.output, h.size, fun g hg hn => h.block g hg (fun q => hn (hs g q))⟩
theorem Cg.ofBelow {w w' : World} {S : Nat -> Prop} (h : Below w.heap.size w w') : Cg w w' S := ⟨h.os, h.tape, h.output, h.size, fun g hg _ => h.block g hg⟩
theorem Cg.set {w w' : World} {S : Nat -> Prop} (h : Cg w w' S) {p : Addr} (hp : S p.block) (u : Value) : Cg w (w'.setCell p u) S :=
 h.trans ⟨rfl, rfl, rfl, by simp [World.setCell], fun g hg hn => Below.heap_setCell _ _ _ _ (fun e => hn (by rw [e]; exact hp))⟩
theorem Cg.below {B : Nat} {W w w' : World} {S : Nat -> Prop} (hb : Below B W w) (hc : Cg w w' S) (hs : ∀ g, S g -> B <= g) (hB : B <= w.heap.size) : Below B W w' :=
 hb.trans ⟨hc.os, hc.tape, hc.output, hc.size, fun k hk => hc.block k (by omega) (fun q => by have := hs k q; omega)⟩
theorem Fit.cg {w w' : World} {S : Nat -> Prop} {t : Tr} {K : Sk} {v : Value} (h : Fit w t K v) (hc : Cg w w' S) (hd : ∀ b, K.bl b -> ¬ S b) : Fit w' t K v := h.same hc.size (fun b hb => hc.block b (h.lt hb) (hd b hb))
theorem Fit.congr {w : World} {s n : Nat} {f f' : Nat -> Nat -> Tr} {K : Sk} {v : Value} (h : Fit w (.list s n f) K v) (he : ∀ k j, k < n -> j < s -> f k j = f' k j) : Fit w (.list s n f') K v := by
 cases K with
 | leaf => exact h
 | row g off s' n' K =>
  obtain ⟨rfl, rfl, c, h1, h2, h3, hg, hz, hc⟩ := h
  exact ⟨rfl, rfl, c, h1, h2, h3, hg, hz, fun k j hk hj => by rw [<- he k j hk hj]; exact hc k j hk hj⟩
theorem Fit.row {w : World} {s n m c : Nat} {a : Option Addr} {f : Nat -> Nat -> Tr} {K : Sk} (h : Fit w (.list s n f) K (.slice a m c)) (h0 : 0 < n) : ∃ g off K', K = .row g off s n K' /\ a = some ⟨g, off, none⟩ /\ m = n /\ n <= c /\ n <= maxLen /\ g < w.heap.size /\ ∀ j, w.frozen? ⟨g, j, none⟩ = false := by
 cases K with
 | leaf => obtain ⟨e, _⟩ := h; omega
 | row g off s' n' K =>
  obtain ⟨rfl, rfl, c', h1, h2, h3, hg, hz, hc⟩ := h
  simp only [Value.slice.injEq] at h1
  obtain ⟨rfl, rfl, rfl⟩ := h1
  exact ⟨g, off, K, rfl, rfl, rfl, h2, h3, hg, hz⟩
theorem Fit.len {w : World} {s n m c : Nat} {a : Option Addr} {f : Nat -> Nat -> Tr} {K : Sk} (h : Fit w (.list s n f) K (.slice a m c)) : m = n /\ n <= c /\ n <= maxLen := by
 cases K with
 | leaf =>
  obtain ⟨rfl, a', c', h1⟩ := h
  simp only [Value.slice.injEq] at h1
  exact ⟨h1.2.1, Nat.zero_le _, Nat.zero_le _⟩
 | row g off s' n' K =>
  obtain ⟨rfl, rfl, c', h1, h2, h3, _⟩ := h
  simp only [Value.slice.injEq] at h1
  obtain ⟨-, rfl, rfl⟩ := h1
  exact ⟨rfl, h2, h3⟩
theorem cell_neT {s k j k' j' : Nat} (hj : j < s) (hj' : j' < s) (h : k ≠ k' \/ j ≠ j') (off : Nat) : off + k * s + j ≠ off + k' * s + j' := by
 intro e
 have e' : k * s + j = k' * s + j' := by omega
 have h1 : (k * s + j) / s = k := by rw [Nat.mul_comm, Nat.mul_add_div (by omega), Nat.div_eq_of_lt hj, Nat.add_zero]
 have h2 : (k' * s + j') / s = k' := by rw [Nat.mul_comm, Nat.mul_add_div (by omega), Nat.div_eq_of_lt hj', Nat.add_zero]
 have e1 : k = k' := by rw [<- h1, <- h2, e']
 subst e1
 rcases h with h | h
 ·exact h rfl
 omega
def atZ (z : Nat) (L : List Tr) (T0 : Nat -> Nat -> Tr) : Nat -> Nat -> Tr := fun i => if i = z then trs L else T0 i
theorem atZ_eq (z : Nat) (L : List Tr) (T0 : Nat -> Nat -> Tr) : atZ z L T0 z = trs L := by simp [atZ]
theorem atZ_ne {z i : Nat} (L : List Tr) (T0 : Nat -> Nat -> Tr) (h : i ≠ z) : atZ z L T0 i = T0 i := by simp [atZ, h]
theorem trs_set {L : List Tr} {j j' : Nat} {t : Tr} (h : j < L.length) : trs (L.set j t) j' = if j' = j then t else trs L j' := by
 unfold trs
 rw [List.getD_eq_getElem?_getD, List.getElem?_set]
 by_cases e : j = j'
 ·subst e; simp [h]
 rw [if_neg e, if_neg (fun x => e x.symm), List.getD_eq_getElem?_getD]
theorem Fit.cellZ {w : World} {s n z g off : Nat} {L : List Tr} {T0 : Nat -> Nat -> Tr} {K : Nat -> Nat -> Sk} {v : Value} (h : Fit w (.list s n (atZ z L T0)) (.row g off s n K) v) (hz : z < n) (j : Nat) (hj : j < s) : ∃ u, w.cell? ⟨g, off + z * s + j, none⟩ = some u /\ Fit w (trs L j) (K z j) u := by
 obtain ⟨_, _, c, _, _, _, _, _, hc⟩ := h
 have := hc z j hz hj
 rw [atZ_eq] at this
 exact this
theorem Fit.setZ {w : World} {s n z g off : Nat} {L L' : List Tr} {T0 : Nat -> Nat -> Tr} {K : Nat -> Nat -> Sk} {v : Value} (h : Fit w (.list s n (atZ z L T0)) (.row g off s n K) v) (hok : (Sk.row g off s n K).ok) (hz : z < n) (j : Nat) (hj : j < s) (hl : j < L.length) (u0 u u' : Value) (hu0 : trs L j = .leaf u0) (hu : u = u') (hL : L' = L.set j (.leaf u')) :
 Fit (w.setCell ⟨g, off + z * s + j, none⟩ u) (.list s n (atZ z L' T0)) (.row g off s n K) v := by
 subst hu hL
 obtain ⟨_, _, c, h1, h2, h3, hg, hf, hc⟩ := h
 refine ⟨rfl, rfl, c, h1, h2, h3, by simpa using hg, fun i => by simpa using hf i, fun k i hk hi => ?_⟩
 obtain ⟨x, hx, hfx⟩ := hc k i hk hi
 have hblk : ∀ b, (K k i).bl b -> (w.setCell ⟨g, off + z * s + j, none⟩ u).heap[b]? = w.heap[b]? := fun b hb => Below.heap_setCell _ _ _ _ (fun e => (hok.1 k i hk hi).2 (by have e' : b = g := e; rw [<- e']; exact hb))
 have hsz : w.heap.size <= (w.setCell ⟨g, off + z * s + j, none⟩ u).heap.size := by simp [World.setCell]
 by_cases e : k = z /\ i = j
 ·obtain ⟨rfl, rfl⟩ := e
  refine ⟨u, World.cell?_setCell_same _ _ u hx, ?_⟩
  rw [atZ_eq, hu0] at hfx
  rw [atZ_eq, trs_set hl, if_pos rfl]
  exact ⟨hfx.1, rfl⟩
 refine ⟨x, ?_, ?_⟩
 ·rw [World.cell?_setCell_other (h := fun e' => cell_neT hj hi (show z ≠ k \/ j ≠ i by omega) off (congrArg Addr.off e'))]
  exact hx
 have hfx' : Fit w (atZ z (L.set j (.leaf u)) T0 k i) (K k i) x := by
  by_cases ek : k = z
  ·subst ek
   rw [atZ_eq] at hfx ⊢
   rw [trs_set hl, if_neg (by omega)]
   exact hfx
  rw [atZ_ne _ _ ek] at hfx ⊢
  exact hfx
 exact hfx'.same hsz hblk
theorem Fit.subZ {w w' : World} {s n z g off : Nat} {L L' : List Tr} {T0 : Nat -> Nat -> Tr} {K : Nat -> Nat -> Sk} {v : Value} (h : Fit w (.list s n (atZ z L T0)) (.row g off s n K) v) (hok : (Sk.row g off s n K).ok) (hz : z < n) (j : Nat) (hj : j < s) (hl : j < L.length) (u : Value) (hu : w.cell? ⟨g, off + z * s + j, none⟩ = some u) (t' : Tr) (hcg : Cg w w' (K z j).bl) (hf' : Fit w' t' (K z j) u) (hL : L' = L.set j t') :
 Fit w' (.list s n (atZ z L' T0)) (.row g off s n K) v := by
 subst hL
 obtain ⟨_, _, c, h1, h2, h3, hg, hf, hc⟩ := h
 have hgb := hcg.block g hg (hok.1 z j hz hj).2
 refine ⟨rfl, rfl, c, h1, h2, h3, Nat.lt_of_lt_of_le hg hcg.size, fun i => (World.frozen?_of_block (a := ⟨g, i, none⟩) hgb).trans (hf i), fun k i hk hi => ?_⟩
 obtain ⟨x, hx, hfx⟩ := hc k i hk hi
 have hcx : w'.cell? ⟨g, off + k * s + i, none⟩ = some x := (World.cell?_of_block (a := ⟨g, off + k * s + i, none⟩) hgb).trans hx
 refine ⟨x, hcx, ?_⟩
 by_cases e : k = z /\ i = j
 ·obtain ⟨rfl, rfl⟩ := e
  rw [atZ_eq, trs_set hl, if_pos rfl]
  have : x = u := by rw [hx] at hu; exact Option.some.inj hu
  rw [this]
  exact hf'
 have hfx' : Fit w (atZ z (L.set j t') T0 k i) (K k i) x := by
  by_cases ek : k = z
  ·subst ek
   rw [atZ_eq] at hfx ⊢
   rw [trs_set hl, if_neg (by omega)]
   exact hfx
  rw [atZ_ne _ _ ek] at hfx ⊢
  exact hfx
 exact hfx'.cg hcg (fun b hb => hok.2 k i z j hk hi hz hj (by omega) b hb)
theorem Sk.bl_in {g off s n : Nat} {K : Nat -> Nat -> Sk} {k j b : Nat} (hk : k < n) (hj : j < s) (h : (K k j).bl b) : (Sk.row g off s n K).bl b := .inr ⟨k, j, hk, hj, h⟩
theorem Fit.toZ {w : World} {s n z : Nat} {f : Nat -> Nat -> Tr} {L : List Tr} {K : Sk} {v : Value} (h : Fit w (.list s n f) K v) (hL : ∀ j, j < s -> f z j = trs L j) : Fit w (.list s n (atZ z L f)) K v :=
 h.congr (fun k j hk hj => by
  by_cases e : k = z
  ·subst e; rw [atZ_eq]; exact hL j hj
  rw [atZ_ne _ _ e])
theorem Fit.fro {w : World} {s n g off s' n' : Nat} {f : Nat -> Nat -> Tr} {K : Nat -> Nat -> Sk} {v : Value} (h : Fit w (.list s n f) (.row g off s' n' K) v) (j : Nat) : w.frozen? ⟨g, j, none⟩ = false := by
 obtain ⟨_, _, _, _, _, _, _, hz, _⟩ := h
 exact hz j
theorem Fit.shape {w : World} {s n : Nat} {f : Nat -> Nat -> Tr} {K : Sk} {v : Value} (h : Fit w (.list s n f) K v) : ∃ a c, v = .slice a n c := by
 cases K with
 | leaf => obtain ⟨rfl, a, c, rfl⟩ := h; exact ⟨a, c, rfl⟩
 | row g off s' n' K => obtain ⟨_, _, c, rfl, _⟩ := h; exact ⟨_, c, rfl⟩
theorem if_lt_succ {α : Type} {i z : Nat} (h : i ≠ z) (x y : α) : (if i < z then x else y) = (if i < z + 1 then x else y) := by
 by_cases e : i < z
 ·rw [if_pos e, if_pos (by omega)]
 rw [if_neg e, if_neg (by omega)]
theorem Fit.doneZ {w : World} {s n z : Nat} {L : List Tr} {T0 T1 : Nat -> Nat -> Tr} {K : Sk} {v : Value} (h : Fit w (.list s n (atZ z L T0)) K v) (hT : ∀ i, i ≠ z -> T0 i = T1 i) (hz : ∀ j, j < s -> trs L j = T1 z j) : Fit w (.list s n T1) K v :=
 h.congr (fun k j hk hj => by
  by_cases e : k = z
  ·subst e; rw [atZ_eq, hz j hj]
  rw [atZ_ne _ _ e, hT k e])
end Go.Proofs.YtkfgijkkffbpmaaGreat
namespace Go.Proofs.YtkfgijkkffbpmaaGreat
open Go.RowKit Go.Joins
theorem sumN_le {g : Nat -> Nat} {z n : Nat} (hz : z < n) : sumN z g + g z <= sumN n g := by
 have := sumN_mono g (show z + 1 <= n by omega)
 simpa [sumN] using this
theorem markIntS_f (ws : List Int) (a : Option Addr) (n c s : Nat) (x : Int) (K : Sk) (w : World) (hx : x = ((s : Nat) : Int)) (h : Fit w (intsT ws) K (.slice a n c)) (hok : K.ok) (hB : s + ws.length <= 1125899906842624) :
 Calls Tryz.prog 83 #[.slice a n c, .int .i64 x] w fun e w' => e = .returned (.int .i64 ((s + ws.length : Nat) : Int)) /\ Fit w' (intsT (marksI s ws.length)) K (.slice a n c) /\ Cg w w' K.bl := by
 subst hx
 obtain ⟨hn, hc1, hm⟩ := h.len
 unfold maxLen at hm
 have HN : Hid (n = ws.length) := hn
 rw [<- hn] at hB hm ⊢
 have h1 : Fit w (.list 1 n (fun i _ => if i < 0 then .leaf (.int .i64 ((s : Int) + (i : Int))) else .leaf (.int .i64 (ws.getD i 0)))) K (.slice a n c) := by
  have h9 : Fit w (.list 1 n (fun i _ => .leaf (.int .i64 (ws.getD i 0)))) K (.slice a n c) := by
   unfold intsT at h
   rw [<- hn] at h
   exact h
  exact h9.congr (fun k j hk hj => by simp)
 have HE : Hid (∀ w', Fit w' (.list 1 n (fun i _ => if i < n then .leaf (.int .i64 ((s : Int) + (i : Int))) else .leaf (.int .i64 (ws.getD i 0)))) K (.slice a n c) -> Fit w' (intsT (marksI s n)) K (.slice a n c)) := by
  show ∀ w', _
  intro w' h9
  have h8 : Fit w' (.list 1 n (fun k _ => .leaf (.int .i64 ((marksI s n).getD k 0)))) K (.slice a n c) := h9.congr (fun k j hk hj => by simp only [if_pos hk]; rw [marksI_get s n k hk])
  unfold intsT
  rw [marksI_length]
  exact h8
 clear h hn
 by_cases h0 : n = 0
 ·subst h0
  have h2 := HE.out w h1
  clear h1
  go_enter Tryz.func83, Tryz.ntmps83
  go_wp2
  refine wp_loop_rounds 1 ?_
  rw [rounds_succ]
  go_wp2
  go_ret
  exact ⟨rfl, h2, Cg.refl _ _⟩
 obtain ⟨g, off, K', rfl, rfl, -, -, -, hg, -⟩ := h1.row (by omega)
 have HH : Hid (Fit w (.list 1 n (fun i _ => if i < 0 then .leaf (.int .i64 ((s : Int) + (i : Int))) else .leaf (.int .i64 (ws.getD i 0)))) (.row g off 1 n K') (.slice (some ⟨g, off, none⟩) n c) /\ (Sk.row g off 1 n K').ok) := ⟨h1, hok⟩
 clear h1 hok
 go_enter Tryz.func83, Tryz.ntmps83
 go_wp2
 go_loopw [1, 5] (fun kv i wr => ∃ z : Nat, z <= n /\ i = .int .i64 z /\ kv = .int .i64 ((s : Int) + (z : Int)) /\ Fit wr (.list 1 n (fun i _ => if i < z then .leaf (.int .i64 ((s : Int) + (i : Int))) else .leaf (.int .i64 (ws.getD i 0)))) (.row g off 1 n K') (.slice (some ⟨g, off, none⟩) n c) /\ Cg w wr (Sk.row g off 1 n K').bl) (fun _ i _ => n - (intOf i).toNat)
 case atStart => exact ⟨0, Nat.zero_le _, rfl, by simp, HH.out.1, Cg.refl _ _⟩
 case round =>
  obtain ⟨z, hz, rfl, rfl, hF, hC⟩ := hrel
  by_cases hlt : z < n
  ·have hi : (z : Int) < (n : Int) := by omega
   have F0 := hF.toZ (z := z) (L := [.leaf (.int .i64 (ws.getD z 0))]) (fun j hj => by
    have e0 : j = 0 := by omega
    subst e0
    simp only [if_neg (Nat.lt_irrefl z)]
    rfl)
   obtain ⟨u, e0', t0⟩ := F0.cellZ hlt 0 (by decide)
   have eo : off + z * 1 + 0 = off + z := by omega
   rw [eo] at e0'
   have f0 := F0.fro (off + z)
   have F1 := F0.setZ HH.out.2 hlt 0 (by decide) (by simp) _ (.int .i64 ((s : Int) + (z : Int))) (.int .i64 ((s : Int) + (z : Int))) rfl rfl rfl
   rw [eo] at F1
   have F2 := F1.doneZ (T1 := fun i _ => if i < z + 1 then .leaf (.int .i64 ((s : Int) + (i : Int))) else .leaf (.int .i64 (ws.getD i 0))) (fun i hi => by funext j; exact if_lt_succ hi _ _) (fun j hj => by
    have e0 : j = 0 := by omega
    subst e0
    simp only [if_pos (Nat.lt_succ_self z)]
    rfl)
   have C1 := hC.set (p := ⟨g, off + z, none⟩) (.inl rfl) (.int .i64 ((s : Int) + (z : Int)))
   have H1 : Hid (_ /\ _) := ⟨F2, C1⟩
   clear hF hC F0 F1 F2 C1 t0 eo
   go_wp2
   go_roundw
   case rel => exact ⟨z + 1, by omega, by go_num, by go_num, H1.out.1, H1.out.2⟩
   case measure => simp [intOf]; omega
  have hi : ¬ (z : Int) < (n : Int) := by omega
  have e9 : z = n := by omega
  subst e9
  have H1 : Hid (_ /\ _) := ⟨HE.out _ hF, hC⟩
  clear hF hC
  go_wp2
  go_ret
  exact ⟨rfl, H1.out.1, H1.out.2⟩
theorem markBoolS_f (ws : List Bool) (a : Option Addr) (n c s : Nat) (x : Int) (K : Sk) (w : World) (hx : x = ((s : Nat) : Int)) (h : Fit w (boolsT ws) K (.slice a n c)) (hok : K.ok) (hB : s + ws.length <= 1125899906842624) :
 Calls Tryz.prog 82 #[.slice a n c, .int .i64 x] w fun e w' => e = .returned (.int .i64 ((s + ws.length : Nat) : Int)) /\ Fit w' (boolsT (marksB s ws.length)) K (.slice a n c) /\ Cg w w' K.bl := by
 subst hx
 obtain ⟨hn, hc1, hm⟩ := h.len
 unfold maxLen at hm
 have HN : Hid (n = ws.length) := hn
 rw [<- hn] at hB hm ⊢
 have h1 : Fit w (.list 1 n (fun i _ => if i < 0 then .leaf (.bool (((s : Int) + (i : Int)) % 3 == 0)) else .leaf (.bool (ws.getD i false)))) K (.slice a n c) := by
  have h9 : Fit w (.list 1 n (fun i _ => .leaf (.bool (ws.getD i false)))) K (.slice a n c) := by
   unfold boolsT at h
   rw [<- hn] at h
   exact h
  exact h9.congr (fun k j hk hj => by simp)
 have HE : Hid (∀ w', Fit w' (.list 1 n (fun i _ => if i < n then .leaf (.bool (((s : Int) + (i : Int)) % 3 == 0)) else .leaf (.bool (ws.getD i false)))) K (.slice a n c) -> Fit w' (boolsT (marksB s n)) K (.slice a n c)) := by
  show ∀ w', _
  intro w' h9
  have h8 : Fit w' (.list 1 n (fun k _ => .leaf (.bool ((marksB s n).getD k false)))) K (.slice a n c) := h9.congr (fun k j hk hj => by simp only [if_pos hk]; rw [marksB_get s n k hk])
  unfold boolsT
  rw [marksB_length]
  exact h8
 clear h hn
 by_cases h0 : n = 0
 ·subst h0
  have h2 := HE.out w h1
  clear h1
  go_enter Tryz.func82, Tryz.ntmps82
  go_wp2
  refine wp_loop_rounds 1 ?_
  rw [rounds_succ]
  go_wp2
  go_ret
  exact ⟨rfl, h2, Cg.refl _ _⟩
 obtain ⟨g, off, K', rfl, rfl, -, -, -, hg, -⟩ := h1.row (by omega)
 have HH : Hid (Fit w (.list 1 n (fun i _ => if i < 0 then .leaf (.bool (((s : Int) + (i : Int)) % 3 == 0)) else .leaf (.bool (ws.getD i false)))) (.row g off 1 n K') (.slice (some ⟨g, off, none⟩) n c) /\ (Sk.row g off 1 n K').ok) := ⟨h1, hok⟩
 clear h1 hok
 go_enter Tryz.func82, Tryz.ntmps82
 go_wp2
 go_loopw [1, 5] (fun kv i wr => ∃ z : Nat, z <= n /\ i = .int .i64 z /\ kv = .int .i64 ((s : Int) + (z : Int)) /\ Fit wr (.list 1 n (fun i _ => if i < z then .leaf (.bool (((s : Int) + (i : Int)) % 3 == 0)) else .leaf (.bool (ws.getD i false)))) (.row g off 1 n K') (.slice (some ⟨g, off, none⟩) n c) /\ Cg w wr (Sk.row g off 1 n K').bl) (fun _ i _ => n - (intOf i).toNat)
 case atStart => exact ⟨0, Nat.zero_le _, rfl, by simp, HH.out.1, Cg.refl _ _⟩
 case round =>
  obtain ⟨z, hz, rfl, rfl, hF, hC⟩ := hrel
  by_cases hlt : z < n
  ·have hi : (z : Int) < (n : Int) := by omega
   have F0 := hF.toZ (z := z) (L := [.leaf (.bool (ws.getD z false))]) (fun j hj => by
    have e0 : j = 0 := by omega
    subst e0
    simp only [if_neg (Nat.lt_irrefl z)]
    rfl)
   obtain ⟨u, e0', t0⟩ := F0.cellZ hlt 0 (by decide)
   have eo : off + z * 1 + 0 = off + z := by omega
   rw [eo] at e0'
   have f0 := F0.fro (off + z)
   have F1 := F0.setZ HH.out.2 hlt 0 (by decide) (by simp) _ (.bool (((s : Int) + (z : Int)) % 3 == 0)) (.bool (((s : Int) + (z : Int)) % 3 == 0)) rfl rfl rfl
   rw [eo] at F1
   have F2 := F1.doneZ (T1 := fun i _ => if i < z + 1 then .leaf (.bool (((s : Int) + (i : Int)) % 3 == 0)) else .leaf (.bool (ws.getD i false))) (fun i hi => by funext j; exact if_lt_succ hi _ _) (fun j hj => by
    have e0 : j = 0 := by omega
    subst e0
    simp only [if_pos (Nat.lt_succ_self z)]
    rfl)
   have C1 := hC.set (p := ⟨g, off + z, none⟩) (.inl rfl) (.bool (((s : Int) + (z : Int)) % 3 == 0))
   have H1 : Hid (_ /\ _) := ⟨F2, C1⟩
   clear hF hC F0 F1 F2 C1 t0 eo
   go_wp2
   go_roundw
   case rel => exact ⟨z + 1, by omega, by go_num, by go_num, H1.out.1, H1.out.2⟩
   case measure => simp [intOf]; omega
  have hi : ¬ (z : Int) < (n : Int) := by omega
  have e9 : z = n := by omega
  subst e9
  have H1 : Hid (_ /\ _) := ⟨HE.out _ hF, hC⟩
  clear hF hC
  go_wp2
  go_ret
  exact ⟨rfl, H1.out.1, H1.out.2⟩
theorem heldIntS_f (m : Nat) (a : Option Addr) (n c s : Nat) (x : Int) (w : World) (hx : x = ((s : Nat) : Int)) (h : Rd w 0 (intsT (marksI s m)) (.slice a n c)) (hB : s + m <= 1125899906842624) :
 Calls Tryz.prog 129 #[.slice a n c, .int .i64 x] w fun e w' => e = .returned (.int .i64 ((s + m : Nat) : Int)) /\ w' = w := by
 subst hx
 obtain ⟨a', c', h1, -, hm, hs⟩ := h.ints
 simp only [Value.slice.injEq] at h1
 obtain ⟨rfl, h2, rfl⟩ := h1
 rw [marksI_length] at h2 hm
 subst h2
 unfold maxLen at hm
 have HS : Hid (SlI w a (marksI s n)) := hs
 clear hs h
 go_enter Tryz.func129, Tryz.ntmps129
 go_wp2
 go_loopw [1, 5] (fun kv i wr => ∃ z : Nat, z <= n /\ i = .int .i64 z /\ kv = .int .i64 ((s : Int) + (z : Int)) /\ wr = w) (fun _ i _ => n - (intOf i).toNat)
 case atStart => exact ⟨0, Nat.zero_le _, rfl, by simp, rfl⟩
 case round =>
  obtain ⟨z, hz, rfl, rfl, hw⟩ := hrel
  subst hw
  by_cases hlt : z < n
  ·have hi : (z : Int) < (n : Int) := by omega
   rcases HS.out with h0 | ⟨b, off, rfl, hb, hc⟩
   ·have := congrArg List.length h0
    rw [marksI_length] at this
    simp at this
    omega
   have e0 : wr.cell? ⟨b, off + z, none⟩ = some (.int .i64 ((s : Int) + (z : Int))) := by
    have h9 := hc z (by rw [marksI_length]; exact hlt)
    rw [marksI_get s n z hlt] at h9
    exact h9
   clear hc
   go_wp2
   go_roundw
   case rel => exact ⟨z + 1, by omega, by go_num, by go_num, trivial⟩
   case measure => simp [intOf]; omega
  have hi : ¬ (z : Int) < (n : Int) := by omega
  have e9 : z = n := by omega
  subst e9
  go_wp2
  go_ret
  exact ⟨rfl, rfl⟩
theorem heldBoolS_f (m : Nat) (a : Option Addr) (n c s : Nat) (x : Int) (w : World) (hx : x = ((s : Nat) : Int)) (h : Rd w 0 (boolsT (marksB s m)) (.slice a n c)) (hB : s + m <= 1125899906842624) :
 Calls Tryz.prog 130 #[.slice a n c, .int .i64 x] w fun e w' => e = .returned (.int .i64 ((s + m : Nat) : Int)) /\ w' = w := by
 subst hx
 obtain ⟨a', c', h1, -, hm, hs⟩ := h.bools
 simp only [Value.slice.injEq] at h1
 obtain ⟨rfl, h2, rfl⟩ := h1
 rw [marksB_length] at h2 hm
 subst h2
 unfold maxLen at hm
 have HS : Hid (SlB w a (marksB s n)) := hs
 clear hs h
 go_enter Tryz.func130, Tryz.ntmps130
 go_wp2
 go_loopw [1, 5] (fun kv i wr => ∃ z : Nat, z <= n /\ i = .int .i64 z /\ kv = .int .i64 ((s : Int) + (z : Int)) /\ wr = w) (fun _ i _ => n - (intOf i).toNat)
 case atStart => exact ⟨0, Nat.zero_le _, rfl, by simp, rfl⟩
 case round =>
  obtain ⟨z, hz, rfl, rfl, hw⟩ := hrel
  subst hw
  by_cases hlt : z < n
  ·have hi : (z : Int) < (n : Int) := by omega
   rcases HS.out with h0 | ⟨b, off, rfl, hb, hc⟩
   ·have := congrArg List.length h0
    rw [marksB_length] at this
    simp at this
    omega
   have e0 : wr.cell? ⟨b, off + z, none⟩ = some (.bool (((s : Int) + (z : Int)) % 3 == 0)) := by
    have h9 := hc z (by rw [marksB_length]; exact hlt)
    rw [marksB_get s n z hlt] at h9
    exact h9
   clear hc
   go_wp2
   go_roundw
   case rel => exact ⟨z + 1, by omega, by go_num, by go_num, trivial⟩
   case measure => simp [intOf]; omega
  have hi : ¬ (z : Int) < (n : Int) := by omega
  have e9 : z = n := by omega
  subst e9
  go_wp2
  go_ret
  exact ⟨rfl, rfl⟩
def ctVQ (X : VQ) : Nat := 1 + 1 + 1 + X.ws.length + X.bs.length + 1
def nmVQ (k : Nat) (X : VQ) : VQ := ⟨((k : Nat) : Int), ((k + 1 : Nat) : Int), ((k + 1 + 1 : Nat) : Int), marksI (k + 1 + 1 + 1) X.ws.length, marksB (k + 1 + 1 + 1 + X.ws.length) X.bs.length, ((k + 1 + 1 + 1 + X.ws.length + X.bs.length : Nat) : Int)⟩
def ctVA (X : VA) : Nat := 1 + 1 + 1 + 1 + X.ws.length + X.bs.length
def nmVA (k : Nat) (X : VA) : VA := ⟨((k : Nat) : Int), ((k + 1 : Nat) : Int), ((k + 1 + 1 : Nat) : Int), ((k + 1 + 1 + 1 : Nat) : Int), marksI (k + 1 + 1 + 1 + 1) X.ws.length, marksB (k + 1 + 1 + 1 + 1 + X.ws.length) X.bs.length⟩
def ctVP (X : VP) : Nat := 1 + 1 + ctVQ X.q
def nmVP (k : Nat) (X : VP) : VP := ⟨((k : Nat) : Int), ((k + 1 : Nat) : Int), nmVQ (k + 1 + 1) X.q⟩
def ctVD (X : VD) : Nat := 1 + 1 + 1 + 1 + ctVQ X.q + sumN X.np (fun i => ctVP (X.pt i)) + X.hs.length + sumN X.nt (fun i => ctVA (X.tl i))
def nmVD (k : Nat) (X : VD) : VD := ⟨((k : Nat) : Int), ((k + 1 : Nat) : Int), ((k + 1 + 1 : Nat) : Int), ((k + 1 + 1 + 1 : Nat) : Int), nmVQ (k + 1 + 1 + 1 + 1) X.q, X.np, fun i => nmVP (k + 1 + 1 + 1 + 1 + ctVQ X.q + sumN i (fun i => ctVP (X.pt i))) (X.pt i), marksB (k + 1 + 1 + 1 + 1 + ctVQ X.q + sumN X.np (fun i => ctVP (X.pt i))) X.hs.length, X.nt, fun i => nmVA (k + 1 + 1 + 1 + 1 + ctVQ X.q + sumN X.np (fun i => ctVP (X.pt i)) + X.hs.length + sumN i (fun i => ctVA (X.tl i))) (X.tl i)⟩
def ctVT (X : VT) : Nat := 1 + sumN X.m (fun i => ctVD (X.f i))
def nmVT (k : Nat) (X : VT) : VT := ⟨((k : Nat) : Int), X.m, fun i => nmVD (k + 1 + sumN i (fun i => ctVD (X.f i))) (X.f i)⟩
end Go.Proofs.YtkfgijkkffbpmaaGreat
