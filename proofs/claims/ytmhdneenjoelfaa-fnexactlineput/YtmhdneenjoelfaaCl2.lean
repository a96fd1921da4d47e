/- Calls copied: toCall, toCallS. -/
import Derived.Test.YtmhdneenjoelfaaCl1
namespace Go.Proofs.Ytmhdneenjoelfaa
open Go.RowKit Go.Joins

set_option linter.unusedVariables false

set_option linter.unusedSimpArgs false

/-- vs written over cs from o on. -/
def wrA (cs : Array Value) : Nat → List Value → Array Value
  | _, [] => cs
  | o, v :: vs => wrA (cs.setIfInBounds o v) (o + 1) vs

theorem Blk.stL {g : Nat} {t : TypeId} : ∀ (vs : List Value) {w : World} {cs : Array Value} (o : Nat), Blk w g t cs → Blk (setL w g o vs) g t (wrA cs o vs)
  | [], w, cs, o, h => h
  | v :: vs, w, cs, o, h => Blk.stL vs (o + 1) (h.set o v)

theorem Blk.stNe {g g' : Nat} {t : TypeId} {cs : Array Value} (hne : g ≠ g') : ∀ (vs : List Value) {w : World} (o : Nat), Blk w g t cs → Blk (setL w g' o vs) g t cs
  | [], w, o, h => h
  | v :: vs, w, o, h => Blk.stNe hne vs (o + 1) (h.setNe hne)

theorem ExB.stL {w : World} {g g' o : Nat} {t : TypeId} {vs : List Value} (h : ExB w g t) : ExB (setL w g' o vs) g t := by
  obtain ⟨cs, h⟩ := h
  by_cases e : g = g'
  · subst e; exact ⟨_, h.stL vs o⟩
  · exact ⟨_, Blk.stNe e vs o h⟩

theorem wr36 (v0 v1 v2 v3 v4 v5 v6 v7 v8 x3 x4 x5 x6 x7 x8 : Value) : wrA #[v0, v1, v2, v3, v4, v5, v6, v7, v8] 3 [x3, x4, x5, x6, x7, x8] = #[v0, v1, v2, x3, x4, x5, x6, x7, x8] := by simp [wrA]

theorem wr09 (v0 v1 v2 v3 v4 v5 v6 v7 v8 x0 x1 x2 x3 x4 x5 x6 x7 x8 : Value) : wrA #[v0, v1, v2, v3, v4, v5, v6, v7, v8] 0 [x0, x1, x2, x3, x4, x5, x6, x7, x8] = #[x0, x1, x2, x3, x4, x5, x6, x7, x8] := by simp [wrA]

theorem RowS.ex {w : World} {g : Nat} {t : TypeId} {s n : Nat} {F : Nat → List Value} (h : RowS w g t s n F) {k j : Nat} (hk : k < n) (hj : j < s) : ∃ v, w.cell? ⟨g, k * s + j, none⟩ = some v := by
  obtain ⟨cs, h1, h2, h3⟩ := h
  have hin : k * s + j < cs.size := by
    have : (k + 1) * s ≤ n * s := Nat.mul_le_mul_right s hk
    rw [Nat.add_mul, Nat.one_mul] at this
    omega
  exact ⟨cs[k * s + j], by rw [cell_of_block h1]; simp⟩

abbrev calL (C : Ca) (a1 a2 : Option Addr) (l1 l2 c1 c2 : Nat) : List Value := [.int .i64 C.id, .int .i64 C.pa, .int .i64 C.un, .int .i64 C.kd, .int .i64 C.pl, .int .i64 C.n, .slice a1 l1 c1, .slice a2 l2 c2, .int .i64 C.wa]
abbrev ca0c : Array Value := #[.int .i64 0, .int .i64 0, .int .i64 0, .int .i64 0, .int .i64 0, .int .i64 0, .slice none 0 0, .slice none 0 0, .int .i64 0]

set_option maxRecDepth 20000 in
set_option maxHeartbeats 4000000 in
theorem toCall_any (C : Ca) (a1 a2 : Option Addr) (l1 l2 c1 c2 : Nat) (w : World) (h1 : l1 = C.ws.length) (h2 : l2 = C.bs.length) (s1 : SlI w a1 C.ws) (s2 : SlB w a2 C.bs) (hl1 : l1 ≤ 2000000) (hl2 : l2 ≤ 2000000) :
    Calls Try.prog 15 #[.agg (cac C a1 a2 l1 l2 c1 c2)] w fun e w' => ∃ g1 g2, e = .returned (.agg (cac C (some ⟨g1, 0, none⟩) (some ⟨g2, 0, none⟩) l1 l2 l1 l2)) ∧
      OwnI w' w.heap.size (.slice (some ⟨g1, 0, none⟩) l1 l1) C.ws ∧ OwnB w' w.heap.size (.slice (some ⟨g2, 0, none⟩) l2 l2) C.bs ∧ Below w.heap.size w w' := by
  obtain ⟨W, hW⟩ : ∃ W, W = ((w.alloc (.cells (cac C a1 a2 l1 l2 c1 c2) 48)).alloc (.cells ca0c 30)).alloc (.cells #[.int .i64 C.id, .int .i64 C.pa, .int .i64 C.un, .int .i64 0, .int .i64 0, .int .i64 0, .slice none 0 0, .slice none 0 0, .int .i64 0] 30) := ⟨_, rfl⟩
  have bW : Below w.heap.size w W := by rw [hW]; exact bel_nx (bel_nx (bel_alloc w _) (bel_alloc _ _)) (bel_alloc _ _)
  have A0 : Blk W w.heap.size 48 (cac C a1 a2 l1 l2 c1 c2) := by rw [hW]; exact ((Blk.new w _ _).below (bel_alloc _ _)).below (bel_alloc _ _)
  have R0 : Blk W (w.heap.size + 1) 30 ca0c := by
    rw [hW]; have := (Blk.new (w.alloc (.cells (cac C a1 a2 l1 l2 c1 c2) 48)) ca0c 30).below (bel_alloc _ (.cells #[.int .i64 C.id, .int .i64 C.pa, .int .i64 C.un, .int .i64 0, .int .i64 0, .int .i64 0, .slice none 0 0, .slice none 0 0, .int .i64 0] 30)); simpa using this
  have O0 : Blk W (w.heap.size + 1 + 1) 30 #[.int .i64 C.id, .int .i64 C.pa, .int .i64 C.un, .int .i64 0, .int .i64 0, .int .i64 0, .slice none 0 0, .slice none 0 0, .int .i64 0] := by
    rw [hW]; have := Blk.new ((w.alloc (.cells (cac C a1 a2 l1 l2 c1 c2) 48)).alloc (.cells ca0c 30)) #[.int .i64 C.id, .int .i64 C.pa, .int .i64 C.un, .int .i64 0, .int .i64 0, .int .i64 0, .slice none 0 0, .slice none 0 0, .int .i64 0] 30; simpa using this
  have H0 : Hid (l1 = C.ws.length ∧ l2 = C.bs.length ∧ SlI W a1 C.ws ∧ SlB W a2 C.bs ∧ Below w.heap.size w W ∧ Blk W (w.heap.size + 1) 30 ca0c ∧ Blk W (w.heap.size + 1 + 1) 30 #[.int .i64 C.id, .int .i64 C.pa, .int .i64 C.un, .int .i64 0, .int .i64 0, .int .i64 0, .slice none 0 0, .slice none 0 0, .int .i64 0]) := ⟨h1, h2, s1.below bW, s2.below bW, bW, R0, O0⟩
  obtain ⟨⟨y0, y1, y2, y3, y4, y5, y6, y7, y8⟩, _⟩ := A0.nine
  clear h1 h2 s1 s2 bW R0 O0 A0
  go_enter Try.func15, Try.ntmps15
  go_upto_region 5 with fail
  rw [← hW]
  clear hW
  go_wp2_with fail
  refine (toReq_any C.kd C.pl C.n C.wa a1 a2 l1 l2 c1 c2 C.ws C.bs _ H0.out.1 H0.out.2.1 H0.out.2.2.1 H0.out.2.2.2.1 hl1 hl2).mono ?_
  rintro e w1 ⟨g1, g2, rfl, i1, i2, b1⟩
  have O1 := H0.out.2.2.2.2.2.2.below b1
  obtain ⟨⟨z0, z1, z2, z3, z4, z5, z6, z7, z8⟩, zf⟩ := O1.nine
  have e3 := zf 3
  have e4 := zf 4
  have e5 := zf 5
  have e6 := zf 6
  have e7 := zf 7
  have e8 := zf 8
  obtain ⟨B2, hB2⟩ : ∃ B2, B2 = w.heap.size + 1 + 1 := ⟨_, rfl⟩
  obtain ⟨W2, hW2⟩ : ∃ W2, W2 = setL w1 (w.heap.size + 1 + 1) 3 [.int .i64 C.kd, .int .i64 C.pl, .int .i64 C.n, .slice (some ⟨g1, 0, none⟩) l1 l1, .slice (some ⟨g2, 0, none⟩) l2 l2, .int .i64 C.wa] := ⟨_, rfl⟩
  have H1 : Hid (OwnI W2 w.heap.size (.slice (some ⟨g1, 0, none⟩) l1 l1) C.ws ∧ OwnB W2 w.heap.size (.slice (some ⟨g2, 0, none⟩) l2 l2) C.bs ∧ Below w.heap.size w W2 ∧ Blk W2 (w.heap.size + 1) 30 ca0c ∧ Blk W2 (w.heap.size + 1 + 1) 30 (cac C (some ⟨g1, 0, none⟩) (some ⟨g2, 0, none⟩) l1 l2 l1 l2)) := by
    rw [hW2]
    have hz := H0.out.2.2.2.2.1.size
    exact ⟨OwnI.mono (show OwnI _ _ _ _ from row_stL i1 ⟨_, O1⟩ (by decide)) hz, OwnB.mono (show OwnB _ _ _ _ from row_stL i2 ⟨_, O1⟩ (by decide)) hz, setL_below (by omega) _ _ _ (bel_nx H0.out.2.2.2.2.1 b1), Blk.stNe (by omega) _ _ (H0.out.2.2.2.2.2.1.below b1), by rw [show cac C (some ⟨g1, 0, none⟩) (some ⟨g2, 0, none⟩) l1 l2 l1 l2 = wrA #[.int .i64 C.id, .int .i64 C.pa, .int .i64 C.un, .int .i64 0, .int .i64 0, .int .i64 0, .slice none 0 0, .slice none 0 0, .int .i64 0] 3 [.int .i64 C.kd, .int .i64 C.pl, .int .i64 C.n, .slice (some ⟨g1, 0, none⟩) l1 l1, .slice (some ⟨g2, 0, none⟩) l2 l2, .int .i64 C.wa] from (wr36 _ _ _ _ _ _ _ _ _ _ _ _ _ _ _).symm]; exact Blk.stL _ _ O1⟩
  have hW2' : W2 = ((((((w1.setCell ⟨w.heap.size + 1 + 1, 3, none⟩ (.int .i64 C.kd)).setCell ⟨w.heap.size + 1 + 1, 4, none⟩ (.int .i64 C.pl)).setCell ⟨w.heap.size + 1 + 1, 5, none⟩ (.int .i64 C.n)).setCell ⟨w.heap.size + 1 + 1, 6, none⟩ (.slice (some ⟨g1, 0, none⟩) l1 l1)).setCell ⟨w.heap.size + 1 + 1, 7, none⟩ (.slice (some ⟨g2, 0, none⟩) l2 l2)).setCell ⟨w.heap.size + 1 + 1, 8, none⟩ (.int .i64 C.wa)) := hW2
  clear i1 i2 b1 O1 hW2 hB2 B2 y0 y1 y2 y3 y4 y5 y6 y7 y8 H0
  go_upto_region 6 with fail
  rw [← hW2']
  clear hW2' z0 z1 z2 z3 z4 z5 z6 z7 z8 zf e3 e4 e5 e6 e7 e8
  obtain ⟨⟨y0, y1, y2, y3, y4, y5, y6, y7, y8⟩, _⟩ := H1.out.2.2.2.2.nine
  obtain ⟨⟨x0, x1, x2, x3, x4, x5, x6, x7, x8⟩, xf⟩ := H1.out.2.2.2.1.nine
  have e0 := xf 0
  have e1 := xf 1
  have e2 := xf 2
  have e3 := xf 3
  have e4 := xf 4
  have e5 := xf 5
  have e6 := xf 6
  have e7 := xf 7
  have e8 := xf 8
  obtain ⟨W3, hW3⟩ : ∃ W3, W3 = setL W2 (w.heap.size + 1) 0 (calL C (some ⟨g1, 0, none⟩) (some ⟨g2, 0, none⟩) l1 l2 l1 l2) := ⟨_, rfl⟩
  have H2 : Hid (OwnI W3 w.heap.size (.slice (some ⟨g1, 0, none⟩) l1 l1) C.ws ∧ OwnB W3 w.heap.size (.slice (some ⟨g2, 0, none⟩) l2 l2) C.bs ∧ Below w.heap.size w W3 ∧ Blk W3 (w.heap.size + 1) 30 (cac C (some ⟨g1, 0, none⟩) (some ⟨g2, 0, none⟩) l1 l2 l1 l2)) := by
    rw [hW3]
    exact ⟨row_stL H1.out.1 ⟨_, H1.out.2.2.2.1⟩ (by decide), row_stL H1.out.2.1 ⟨_, H1.out.2.2.2.1⟩ (by decide), setL_below (by omega) _ _ _ H1.out.2.2.1, by rw [show cac C (some ⟨g1, 0, none⟩) (some ⟨g2, 0, none⟩) l1 l2 l1 l2 = wrA ca0c 0 (calL C (some ⟨g1, 0, none⟩) (some ⟨g2, 0, none⟩) l1 l2 l1 l2) from (wr09 _ _ _ _ _ _ _ _ _ _ _ _ _ _ _ _ _ _).symm]; exact Blk.stL _ _ H1.out.2.2.2.1⟩
  have hW3' : W3 = (((((((((W2.setCell ⟨w.heap.size + 1, 0, none⟩ (.int .i64 C.id)).setCell ⟨w.heap.size + 1, 1, none⟩ (.int .i64 C.pa)).setCell ⟨w.heap.size + 1, 2, none⟩ (.int .i64 C.un)).setCell ⟨w.heap.size + 1, 3, none⟩ (.int .i64 C.kd)).setCell ⟨w.heap.size + 1, 4, none⟩ (.int .i64 C.pl)).setCell ⟨w.heap.size + 1, 5, none⟩ (.int .i64 C.n)).setCell ⟨w.heap.size + 1, 6, none⟩ (.slice (some ⟨g1, 0, none⟩) l1 l1)).setCell ⟨w.heap.size + 1, 7, none⟩ (.slice (some ⟨g2, 0, none⟩) l2 l2)).setCell ⟨w.heap.size + 1, 8, none⟩ (.int .i64 C.wa)) := hW3
  clear H1 hW3
  go_wp2
  rw [← hW3']
  obtain ⟨⟨v0, v1, v2, v3, v4, v5, v6, v7, v8⟩, _⟩ := H2.out.2.2.2.nine
  refine bodyPost_ret (v := .agg (cac C (some ⟨g1, 0, none⟩) (some ⟨g2, 0, none⟩) l1 l2 l1 l2)) (by simp [results, Try.results15, go_sem, v0, v1, v2, v3, v4, v5, v6, v7, v8]) rfl ⟨g1, g2, rfl, H2.out.1, H2.out.2.1, H2.out.2.2.1⟩

theorem Try.info30 : (Try.prog.info? 30).map (fun i => (i.zero, i.size, i.bytes)) = some (some (.agg ca0c), 9, 104) := by kernel_rfl

theorem cal_els (C : Ca) (a1 a2 : Option Addr) (l1 l2 c1 c2 : Nat) (h1 : l1 = C.ws.length) (h2 : l2 = C.bs.length) : calL C a1 a2 l1 l2 c1 c2 = els (caE C) a1 a2 c1 c2 := by subst h1; subst h2; rfl

/-- A list just made, all of it from the block B on. -/
def MadeL (w : World) (B : Nat) (t : TypeId) (s n : Nat) (G : Nat → El) : Prop := ∃ F β, RowS w B t s n F ∧ InE w B β F G n ∧ β n ≤ w.heap.size

theorem MadeL.own {w : World} {B : Nat} {t : TypeId} {s n : Nat} {G : Nat → El} (h : MadeL w B t s n G) : OwnL w B t s (.slice (some ⟨B, 0, none⟩) n n) n G := by
  obtain ⟨F, β, h1, h2, _⟩ := h
  exact ⟨F, β, .inr ⟨B, 0, n, rfl, Nat.le_refl _, h1.rowO⟩, h2⟩

set_option maxRecDepth 20000 in
set_option maxHeartbeats 4000000 in
theorem toCallS_any (a : Option Addr) (n cap : Nat) (f : Nat → Ca) (w : World) (hs : SlC w a n f) (hb : BdC n f) :
    Calls Try.prog 46 #[.slice a n cap] w fun e w' => e = .returned (.slice (some ⟨w.heap.size, 0, none⟩) n n) ∧
      MadeL w' w.heap.size 30 9 n (fun k => caE (f k)) ∧ Below w.heap.size w w' := by
  have hn := hb.1
  have hmk := run_make_st (P := Try.prog) 24 30 (.agg ca0c) 9 104 Try.underlying24 Try.info30 .i64 .i64 n (by omega) (by omega)
  have HH : Hid (SlC w a n f ∧ BdC n f) := ⟨hs, hb⟩
  obtain ⟨B, hB⟩ : ∃ B, B = w.heap.size := ⟨_, rfl⟩
  clear hs hb
  go_enter Try.func46, Try.ntmps46
  go_wp2
  clear hmk
  go_loopw [4] (fun i wr => ∃ (k : Nat) (F : Nat → List Value) (β : Nat → Nat), k ≤ n ∧ i = .int .i64 k ∧ RowS wr w.heap.size 30 9 n F ∧ InE wr w.heap.size β F (fun k => caE (f k)) k ∧ β k ≤ wr.heap.size ∧ Below w.heap.size w wr) (fun i _ => n - (intOf i).toNat)
  case atStart => exact ⟨0, fun _ => ca0c.toList, fun _ => w.heap.size, Nat.zero_le _, rfl, RowS.made w ca0c.toList n _ (by simp), InE.start _ _ _ _, by simp, (Below.refl _ _).alloc (Nat.le_refl _) _⟩
  case round =>
    obtain ⟨k, F, β, hk, rfl, hrow, hin, hbk, hb⟩ := hrel
    by_cases hlt : k < n
    · obtain ⟨b, off, a1, a2, l1, l2, c1, c2, rfl, hb0, hl1, hl2, ⟨d0, d1, d2, d3, d4, d5, d6, d7, d8⟩, s1, s2⟩ := SlC.nine (HH.out.1.below hb) hlt
      have hi : (k : Int) < (n : Int) := by omega
      have hbd := HH.out.2.2 k hlt
      obtain ⟨C, hC⟩ : ∃ C, C = f k := ⟨_, rfl⟩
      rw [← hC] at d0 d1 d2 d3 d4 d5 d8 hl1 hl2 s1 s2
      have HS : Hid (SlI wr a1 C.ws ∧ SlB wr a2 C.bs ∧ l1 = C.ws.length ∧ l2 = C.bs.length ∧ l1 ≤ 2000000 ∧ l2 ≤ 2000000 ∧ C = f k) := ⟨s1, s2, hl1, hl2, by rw [hl1, hC]; exact hbd.1, by rw [hl2, hC]; exact hbd.2, hC⟩
      have HR : Hid (RowS wr w.heap.size 30 9 n F ∧ InE wr w.heap.size β F (fun k => caE (f k)) k ∧ β k ≤ wr.heap.size ∧ Below w.heap.size w wr) := ⟨hrow, hin, hbk, hb⟩
      clear hrow hin hbk hb s1 s2 hl1 hl2 hC hbd hb0
      go_wp2_with fail
      refine (toCall_any C a1 a2 l1 l2 c1 c2 _ HS.out.2.2.1 HS.out.2.2.2.1 HS.out.1 HS.out.2.1 HS.out.2.2.2.2.1 HS.out.2.2.2.2.2.1).mono ?_
      rintro e w1 ⟨g1, g2, rfl, i1, i2, b1⟩
      have R1 := HR.out.1.below b1
      obtain ⟨r'0, r0⟩ : ∃ v, w1.cell? ⟨w.heap.size, k * 9, none⟩ = some v := R1.ex hlt (j := 0) (by decide)
      obtain ⟨r1x, r1⟩ : ∃ v, w1.cell? ⟨w.heap.size, k * 9 + 1, none⟩ = some v := R1.ex hlt (j := 1) (by decide)
      obtain ⟨r2x, r2⟩ : ∃ v, w1.cell? ⟨w.heap.size, k * 9 + 2, none⟩ = some v := R1.ex hlt (j := 2) (by decide)
      obtain ⟨r3x, r3⟩ : ∃ v, w1.cell? ⟨w.heap.size, k * 9 + 3, none⟩ = some v := R1.ex hlt (j := 3) (by decide)
      obtain ⟨r4x, r4⟩ : ∃ v, w1.cell? ⟨w.heap.size, k * 9 + 4, none⟩ = some v := R1.ex hlt (j := 4) (by decide)
      obtain ⟨r5x, r5⟩ : ∃ v, w1.cell? ⟨w.heap.size, k * 9 + 5, none⟩ = some v := R1.ex hlt (j := 5) (by decide)
      obtain ⟨r6x, r6⟩ : ∃ v, w1.cell? ⟨w.heap.size, k * 9 + 6, none⟩ = some v := R1.ex hlt (j := 6) (by decide)
      obtain ⟨r7x, r7⟩ : ∃ v, w1.cell? ⟨w.heap.size, k * 9 + 7, none⟩ = some v := R1.ex hlt (j := 7) (by decide)
      obtain ⟨r8x, r8⟩ : ∃ v, w1.cell? ⟨w.heap.size, k * 9 + 8, none⟩ = some v := R1.ex hlt (j := 8) (by decide)
      obtain ⟨W2, hW2⟩ : ∃ W2, W2 = setL w1 w.heap.size (k * 9) (calL C (some ⟨g1, 0, none⟩) (some ⟨g2, 0, none⟩) l1 l2 l1 l2) := ⟨_, rfl⟩
      have H2 : Hid (∃ F' β', RowS W2 w.heap.size 30 9 n F' ∧ InE W2 w.heap.size β' F' (fun k => caE (f k)) (k + 1) ∧ β' (k + 1) ≤ W2.heap.size ∧ Below w.heap.size w W2) := by
        have I1 := HR.out.2.1.below b1
        have hp := I1.push (lo := wr.heap.size) (vs := calL C (some ⟨g1, 0, none⟩) (some ⟨g2, 0, none⟩) l1 l2 l1 l2) (E := caE C) HR.out.2.2.1 b1.size ⟨some ⟨g1, 0, none⟩, some ⟨g2, 0, none⟩, l1, l2, cal_els _ _ _ _ _ _ _ HS.out.2.2.1 HS.out.2.2.2.1, by show OwnI _ _ (.slice _ C.ws.length _) C.ws; rw [← HS.out.2.2.1]; exact i1, by show OwnB _ _ (.slice _ C.bs.length _) C.bs; rw [← HS.out.2.2.2.1]; exact i2, fun x hx => by have hx' : (Value.slice (some ⟨g1, 0, none⟩) C.ws.length l1).ownBlock = some x := hx; rw [← HS.out.2.2.1] at hx'; exact (World.ownsRow.lt i1 x hx').2, fun x hx => by have hx' : (Value.slice (some ⟨g2, 0, none⟩) C.bs.length l2).ownBlock = some x := hx; rw [← HS.out.2.2.2.1] at hx'; exact (World.ownsRow.lt i2 x hx').2⟩
        have hg : w1.grownBy W2 (some w.heap.size) := by rw [hW2]; exact setL_gw _ _ _
        refine ⟨_, _, ?_, (hp.congr (fun _ _ => rfl) (H := fun k => caE (f k)) (fun i hi => by by_cases e : i = k; (subst e; simp [HS.out.2.2.2.2.2.2]); simp [e])).keptT hg R1.rowO.exB (by decide) (by decide), ?_, ?_⟩
        · rw [hW2]; exact R1.set hlt _ rfl
        · simp only [if_neg (show ¬ k + 1 ≤ k by omega)]; exact hg.size
        · rw [hW2]; exact setL_below (Nat.le_refl _) _ _ _ (bel_nx HR.out.2.2.2 b1)
      have hW2' : W2 = (((((((((w1.setCell ⟨w.heap.size, k * 9, none⟩ (.int .i64 C.id)).setCell ⟨w.heap.size, k * 9 + 1, none⟩ (.int .i64 C.pa)).setCell ⟨w.heap.size, k * 9 + 2, none⟩ (.int .i64 C.un)).setCell ⟨w.heap.size, k * 9 + 3, none⟩ (.int .i64 C.kd)).setCell ⟨w.heap.size, k * 9 + 4, none⟩ (.int .i64 C.pl)).setCell ⟨w.heap.size, k * 9 + 5, none⟩ (.int .i64 C.n)).setCell ⟨w.heap.size, k * 9 + 6, none⟩ (.slice (some ⟨g1, 0, none⟩) l1 l1)).setCell ⟨w.heap.size, k * 9 + 7, none⟩ (.slice (some ⟨g2, 0, none⟩) l2 l2)).setCell ⟨w.heap.size, k * 9 + 8, none⟩ (.int .i64 C.wa)) := hW2
      have HE : Hid (∀ j, w1.frozen? ⟨w.heap.size, j, none⟩ = false) := R1.fro
      have q0 := HE.out (k * 9)
      have q1 := HE.out (k * 9 + 1)
      have q2 := HE.out (k * 9 + 2)
      have q3 := HE.out (k * 9 + 3)
      have q4 := HE.out (k * 9 + 4)
      have q5 := HE.out (k * 9 + 5)
      have q6 := HE.out (k * 9 + 6)
      have q7 := HE.out (k * 9 + 7)
      have q8 := HE.out (k * 9 + 8)
      clear R1 b1 HR HS i1 i2 d0 d1 d2 d3 d4 d5 d6 d7 d8 hW2 HE
      go_wp2
      rw [← hW2']
      clear hW2'
      go_roundw
      case rel =>
        obtain ⟨F', β', x1, x2, x3, x4⟩ := H2.out
        exact ⟨k + 1, F', β', by omega, by go_num, x1, x2, x3, x4⟩
      case measure => simp [intOf]; omega
    · have hi : ¬ (k : Int) < (n : Int) := by omega
      have e9 : k = n := by omega
      subst e9
      have HR : Hid (RowS wr w.heap.size 30 9 k F ∧ InE wr w.heap.size β F (fun k => caE (f k)) k ∧ β k ≤ wr.heap.size ∧ Below w.heap.size w wr) := ⟨hrow, hin, hbk, hb⟩
      clear hrow hin hbk hb
      go_wp2
      go_ret
      exact ⟨rfl, ⟨F, β, HR.out.1, HR.out.2.1, HR.out.2.2.1⟩, HR.out.2.2.2⟩

end Go.Proofs.Ytmhdneenjoelfaa
