/- Questions and calls copied by the model: l10CopyReq; calls copied by both. -/
import Derived.Test.YtmhdneenjoelfaaCy1
import Derived.Test.YtmhdneenjoelfaaApd
import Derived.Test.YtmhdneenjoelfaaMid2
namespace Go.Proofs.Ytmhdneenjoelfaa
open Go.RowKit Go.Joins

set_option linter.unusedVariables false

set_option linter.unusedSimpArgs false

/-- A question of the call's own. -/
def ReqPst (w w' : World) (e : Ending) (kd pl nn wa : Int) (ws : List Int) (bs : List Bool) : Prop :=
  ∃ r1 r2 l1 l2 c1 c2, e = .returned (.agg (rqL kd pl nn wa r1 r2 l1 l2 c1 c2)) ∧ l1 = ws.length ∧ l2 = bs.length ∧ OwnI w' w.heap.size (.slice r1 l1 c1) ws ∧ OwnB w' w.heap.size (.slice r2 l2 c2) bs ∧ Below w.heap.size w w'

theorem Blk.six2 {w : World} {g : Nat} {t : TypeId} {v0 v1 v2 v3 v4 v5 : Value} (h : Blk w g t #[v0, v1, v2, v3, v4, v5]) : (w.cell? ⟨g, 0, none⟩ = some v0 ∧ w.cell? ⟨g, 1, none⟩ = some v1 ∧ w.cell? ⟨g, 2, none⟩ = some v2 ∧ w.cell? ⟨g, 3, none⟩ = some v3 ∧ w.cell? ⟨g, 4, none⟩ = some v4 ∧ w.cell? ⟨g, 5, none⟩ = some v5) ∧ (w.frozen? ⟨g, 0, none⟩ = false ∧ w.frozen? ⟨g, 1, none⟩ = false ∧ w.frozen? ⟨g, 2, none⟩ = false ∧ w.frozen? ⟨g, 3, none⟩ = false ∧ w.frozen? ⟨g, 4, none⟩ = false ∧ w.frozen? ⟨g, 5, none⟩ = false) :=
  ⟨⟨h.cell 0 rfl, h.cell 1 rfl, h.cell 2 rfl, h.cell 3 rfl, h.cell 4 rfl, h.cell 5 rfl⟩, ⟨h.fro 0, h.fro 1, h.fro 2, h.fro 3, h.fro 4, h.fro 5⟩⟩

theorem grown_below2 {B : Nat} {w0 w w' : World} {g : Nat} (hb : Below B w0 w) (hg : w.grownBy w' (some g)) (h1 : B ≤ g) (h2 : B ≤ w.heap.size) : Below B w0 w' :=
  hb.grown hg h2 (fun k hk => by have := Option.some.inj hk; omega)

set_option maxRecDepth 20000 in
set_option maxHeartbeats 1000000 in
theorem specCopyReq_q (kd pl nn wa : Int) (q1 q2 : Option Addr) (m1 m2 k1 k2 : Nat) (ws : List Int) (bs : List Bool) (w : World) (h1 : m1 = ws.length) (h2 : m2 = bs.length) (s1 : SlI w q1 ws) (s2 : SlB w q2 bs) (hl1 : ws.length ≤ 2000000) (hl2 : bs.length ≤ 2000000) :
    Calls Try.prog 72 #[.agg (rqL kd pl nn wa q1 q2 m1 m2 k1 k2)] w fun e w' => ReqPst w w' e kd pl nn wa ws bs := by
  obtain ⟨B, hB⟩ : ∃ B, B = w.heap.size := ⟨_, rfl⟩
  obtain ⟨W, hW⟩ : ∃ W, W = (w.alloc (.cells (rqL kd pl nn wa q1 q2 m1 m2 k1 k2) 28)).alloc (.cells #[.int .i64 0, .int .i64 0, .int .i64 0, .slice none 0 0, .slice none 0 0, .int .i64 0] 28) := ⟨_, rfl⟩
  have bW : Below w.heap.size w W := by rw [hW]; exact bel_nx (bel_alloc _ _) (bel_alloc _ _)
  have HW : Hid (Below w.heap.size w W ∧ Blk W B 28 (rqL kd pl nn wa q1 q2 m1 m2 k1 k2) ∧ Blk W (B + 1) 28 #[.int .i64 0, .int .i64 0, .int .i64 0, .slice none 0 0, .slice none 0 0, .int .i64 0] ∧ w.heap.size ≤ W.heap.size) := ⟨bW, by rw [hW, hB]; exact (Blk.new w _ _).below (bel_alloc _ _), by rw [hW, hB]; have := Blk.new (w.alloc (.cells (rqL kd pl nn wa q1 q2 m1 m2 k1 k2) 28)) #[.int .i64 0, .int .i64 0, .int .i64 0, .slice none 0 0, .slice none 0 0, .int .i64 0] 28; simpa using this, bW.size⟩
  have HS : Hid (m1 = ws.length ∧ m2 = bs.length ∧ SlI w q1 ws ∧ SlB w q2 bs ∧ w.heap.size = B) := ⟨h1, h2, s1, s2, hB.symm⟩
  clear bW h1 h2 s1 s2
  go_enter Try.func72, Try.ntmps72
  go_upto_region 1 with fail
  rw [← hW, ← hB]
  clear hW hB
  obtain ⟨⟨y0, y1, y2, y3, y4, y5⟩, _⟩ := (HW.out.2.1.below (bel_alloc W (.cells #[] 3))).six2
  go_upto_region 2 with (at_builtin; refine wpList_appIO rfl (.tmp 3) (.tmp 5) rfl w.heap.size (.slice (some ⟨W.heap.size, 0, none⟩) 0 0) [] rfl (newI W w.heap.size HW.out.2.2.2) q1 m1 k1 ws rfl HS.out.1 (HS.out.2.2.1.below (bel_nx HW.out.1 (bel_alloc _ _))) (by simp; omega) (by have := HW.out.2.2.2; simp; omega) ?_; intro v1 w1 O1 g1'; have g1 : (W.alloc (.cells #[] 3)).grownBy w1 (some W.heap.size) := g1'; clear g1'; have HU : Hid (OwnI w1 w.heap.size v1 ws ∧ Below w.heap.size w w1 ∧ Blk w1 B 28 (rqL kd pl nn wa q1 q2 m1 m2 k1 k2) ∧ Blk w1 (B + 1) 28 #[.int .i64 0, .int .i64 0, .int .i64 0, .slice none 0 0, .slice none 0 0, .int .i64 0]) := ⟨by simpa using O1, grown_below2 (bel_nx HW.out.1 (bel_alloc _ _)) g1 HW.out.2.2.2 (by have := HW.out.2.2.2; simp; omega), (HW.out.2.1.below (bel_alloc _ _)).grown g1 (by have := HW.out.2.1.lt; intro e9; have := Option.some.inj e9; omega), (HW.out.2.2.1.below (bel_alloc _ _)).grown g1 (by have := HW.out.2.2.1.lt; intro e9; have := Option.some.inj e9; omega)⟩; clear O1 g1; obtain ⟨a1, c1, n1, hv1, hn1⟩ := ownI_shape2 HU.out.1; subst hv1; have HN1 : Hid (n1 = ws.length) := hn1; clear hn1; obtain ⟨⟨x0, x1, x2, x3, x4, x5⟩, ⟨f0, f1, f2, f3, f4, f5⟩⟩ := HU.out.2.2.1.six2)
  obtain ⟨W2, hW2⟩ : ∃ W2, W2 = w1.setCell ⟨B, 3, none⟩ (.slice a1 n1 c1) := ⟨_, rfl⟩
  have HV : Hid (OwnI W2 w.heap.size (.slice a1 n1 c1) ws ∧ Below w.heap.size w W2 ∧ Blk W2 B 28 (rqL kd pl nn wa a1 q2 n1 m2 c1 k2) ∧ Blk W2 (B + 1) 28 #[.int .i64 0, .int .i64 0, .int .i64 0, .slice none 0 0, .slice none 0 0, .int .i64 0] ∧ w.heap.size ≤ W2.heap.size) := by
    have hb : Below w.heap.size w W2 := by rw [hW2]; exact HU.out.2.1.setCell (p := ⟨B, 3, none⟩) (by show w.heap.size ≤ B; rw [HS.out.2.2.2.2]; exact Nat.le_refl _) _
    exact ⟨by rw [hW2]; exact row_setE HU.out.1 ⟨_, HU.out.2.2.1⟩ (by decide), hb, by rw [hW2]; have h9 := HU.out.2.2.1.set 3 (.slice a1 n1 c1); simpa using h9, by rw [hW2]; exact HU.out.2.2.2.setNe (by omega), hb.size⟩
  rw [← hW2]
  clear hW2 HU x0 x1 x2 x3 x4 x5 f0 f1 f2 f3 f4 f5 y0 y1 y2 y3 y4 y5 HW
  obtain ⟨⟨y0, y1, y2, y3, y4, y5⟩, _⟩ := (HV.out.2.2.1.below (bel_alloc W2 (.cells #[] 4))).six2
  go_upto_region 3 with (at_builtin; refine wpList_appBO rfl (.tmp 8) (.tmp 10) rfl w.heap.size (.slice (some ⟨W2.heap.size, 0, none⟩) 0 0) [] rfl (newB W2 w.heap.size HV.out.2.2.2.2) q2 m2 k2 bs rfl HS.out.2.1 (HS.out.2.2.2.1.below (bel_nx HV.out.2.1 (bel_alloc _ _))) (by simp; omega) (by have := HV.out.2.2.2.2; simp; omega) ?_; intro v2 w2 O2 g2'; have g2 : (W2.alloc (.cells #[] 4)).grownBy w2 (some W2.heap.size) := g2'; clear g2'; have HU : Hid (OwnB w2 w.heap.size v2 bs ∧ Below w.heap.size w w2 ∧ Blk w2 B 28 (rqL kd pl nn wa a1 q2 n1 m2 c1 k2) ∧ Blk w2 (B + 1) 28 #[.int .i64 0, .int .i64 0, .int .i64 0, .slice none 0 0, .slice none 0 0, .int .i64 0] ∧ OwnI w2 w.heap.size (.slice a1 n1 c1) ws) := ⟨by simpa using O2, grown_below2 (bel_nx HV.out.2.1 (bel_alloc _ _)) g2 HV.out.2.2.2.2 (by have := HV.out.2.2.2.2; simp; omega), (HV.out.2.2.1.below (bel_alloc _ _)).grown g2 (by have := HV.out.2.2.1.lt; intro e9; have := Option.some.inj e9; omega), (HV.out.2.2.2.1.below (bel_alloc _ _)).grown g2 (by have := HV.out.2.2.2.1.lt; intro e9; have := Option.some.inj e9; omega), (OwnI.below HV.out.1 (bel_alloc _ _)).kept g2 (.inr (by intro e9; have := (World.ownsRow.lt HV.out.1 _ e9).2; simp at this))⟩; clear O2 g2; obtain ⟨a2, c2, n2, hv2, hn2⟩ := ownB_shape HU.out.1; subst hv2; have HN2 : Hid (n2 = bs.length) := hn2; clear hn2; obtain ⟨⟨x0, x1, x2, x3, x4, x5⟩, ⟨f0, f1, f2, f3, f4, f5⟩⟩ := HU.out.2.2.1.six2)
  obtain ⟨W3, hW3⟩ : ∃ W3, W3 = w2.setCell ⟨B, 4, none⟩ (.slice a2 n2 c2) := ⟨_, rfl⟩
  have HX : Hid (OwnI W3 w.heap.size (.slice a1 n1 c1) ws ∧ OwnB W3 w.heap.size (.slice a2 n2 c2) bs ∧ Below w.heap.size w W3 ∧ Blk W3 B 28 (rqL kd pl nn wa a1 a2 n1 n2 c1 c2) ∧ Blk W3 (B + 1) 28 #[.int .i64 0, .int .i64 0, .int .i64 0, .slice none 0 0, .slice none 0 0, .int .i64 0]) := by
    have hb : Below w.heap.size w W3 := by rw [hW3]; exact HU.out.2.1.setCell (p := ⟨B, 4, none⟩) (by show w.heap.size ≤ B; rw [HS.out.2.2.2.2]; exact Nat.le_refl _) _
    exact ⟨by rw [hW3]; exact row_setE HU.out.2.2.2.2 ⟨_, HU.out.2.2.1⟩ (by decide), by rw [hW3]; exact row_setE HU.out.1 ⟨_, HU.out.2.2.1⟩ (by decide), hb, by rw [hW3]; have h9 := HU.out.2.2.1.set 4 (.slice a2 n2 c2); simpa using h9, by rw [hW3]; exact HU.out.2.2.2.1.setNe (by omega)⟩
  rw [← hW3]
  clear hW3 HU HV x0 x1 x2 x3 x4 x5 f0 f1 f2 f3 f4 f5 y0 y1 y2 y3 y4 y5
  obtain ⟨⟨y0, y1, y2, y3, y4, y5⟩, _⟩ := HX.out.2.2.2.1.six2
  obtain ⟨⟨x0, x1, x2, x3, x4, x5⟩, ⟨f0, f1, f2, f3, f4, f5⟩⟩ := HX.out.2.2.2.2.six2
  have HY : Hid (OwnI (setL W3 (B + 1) 0 (rqL kd pl nn wa a1 a2 n1 n2 c1 c2).toList) w.heap.size (.slice a1 n1 c1) ws ∧ OwnB (setL W3 (B + 1) 0 (rqL kd pl nn wa a1 a2 n1 n2 c1 c2).toList) w.heap.size (.slice a2 n2 c2) bs ∧ Below w.heap.size w (setL W3 (B + 1) 0 (rqL kd pl nn wa a1 a2 n1 n2 c1 c2).toList)) := ⟨row_stL HX.out.1 ⟨_, HX.out.2.2.2.2⟩ (by decide), row_stL HX.out.2.1 ⟨_, HX.out.2.2.2.2⟩ (by decide), setL_below (by have := HS.out.2.2.2.2; omega) _ _ _ HX.out.2.2.1⟩
  clear HX
  go_wp2
  refine bodyPost_ret (v := .agg (rqL kd pl nn wa a1 a2 n1 n2 c1 c2)) (by simp [results, Try.results72, go_sem, x0, x1, x2, x3, x4, x5]) rfl ⟨a1, a2, n1, n2, c1, c2, rfl, HN1.out, HN2.out, HY.out.1, HY.out.2.1, HY.out.2.2⟩

theorem specCopyReq_any (kd pl nn wa : Int) (q1 q2 : Option Addr) (m1 m2 k1 k2 : Nat) (ws : List Int) (bs : List Bool) (w : World) (h1 : m1 = ws.length) (h2 : m2 = bs.length) (s1 : SlI w q1 ws) (s2 : SlB w q2 bs) (hl1 : m1 ≤ 2000000) (hl2 : m2 ≤ 2000000) :
    Calls Try.prog 72 #[.agg (rqL kd pl nn wa q1 q2 m1 m2 k1 k2)] w fun e w' => RqP w w' e kd pl nn wa m1 m2 ws bs := by
  refine (specCopyReq_q kd pl nn wa q1 q2 m1 m2 k1 k2 ws bs w h1 h2 s1 s2 (by omega) (by omega)).mono ?_
  rintro e w' ⟨r1, r2, l1, l2, c1, c2, he, e1, e2, o1, o2, hb⟩
  obtain rfl : l1 = m1 := by omega
  obtain rfl : l2 = m2 := by omega
  exact ⟨r1, r2, c1, c2, he, o1, o2, hb⟩

/-- A call of the call's own. -/
def CaP (w w' : World) (e : Ending) (C : Ca) (l1 l2 : Nat) : Prop :=
  ∃ a1 a2 c1 c2, e = .returned (.agg (cac C a1 a2 l1 l2 c1 c2)) ∧ OwnI w' w.heap.size (.slice a1 l1 c1) C.ws ∧ OwnB w' w.heap.size (.slice a2 l2 c2) C.bs ∧ Below w.heap.size w w'

set_option maxRecDepth 20000 in
set_option maxHeartbeats 4000000 in
theorem implCopyCall_any (C : Ca) (a1 a2 : Option Addr) (l1 l2 c1 c2 : Nat) (w : World) (h1 : l1 = C.ws.length) (h2 : l2 = C.bs.length) (s1 : SlI w a1 C.ws) (s2 : SlB w a2 C.bs) (hl1 : l1 ≤ 2000000) (hl2 : l2 ≤ 2000000) :
    Calls Try.prog 31 #[.agg (cac C a1 a2 l1 l2 c1 c2)] w fun e w' => CaP w w' e C l1 l2 := by
  obtain ⟨W, hW⟩ : ∃ W, W = (w.alloc (.cells (cac C a1 a2 l1 l2 c1 c2) 30)).alloc (.cells ca0c 30) := ⟨_, rfl⟩
  have bW : Below w.heap.size w W := by rw [hW]; exact bel_nx (bel_alloc w _) (bel_alloc _ _)
  have A0 : Blk W w.heap.size 30 (cac C a1 a2 l1 l2 c1 c2) := by rw [hW]; exact (Blk.new w _ _).below (bel_alloc _ _)
  have R0 : Blk W (w.heap.size + 1) 30 ca0c := by
    rw [hW]; have := Blk.new (w.alloc (.cells (cac C a1 a2 l1 l2 c1 c2) 30)) ca0c 30; simpa using this
  have H0 : Hid (l1 = C.ws.length ∧ l2 = C.bs.length ∧ SlI W a1 C.ws ∧ SlB W a2 C.bs ∧ Below w.heap.size w W ∧ Blk W w.heap.size 30 (cac C a1 a2 l1 l2 c1 c2) ∧ Blk W (w.heap.size + 1) 30 ca0c) := ⟨h1, h2, s1.below bW, s2.below bW, bW, A0, R0⟩
  obtain ⟨⟨y0, y1, y2, y3, y4, y5, y6, y7, y8⟩, _⟩ := A0.nine
  clear h1 h2 s1 s2 bW R0 A0
  go_enter Try.func31, Try.ntmps31
  go_upto_region 1 with fail
  rw [← hW]
  clear hW
  go_wp2_with fail
  refine (implCopyReq_any C.kd C.pl C.n C.wa a1 a2 l1 l2 c1 c2 C.ws C.bs _ H0.out.1 H0.out.2.1 H0.out.2.2.1 H0.out.2.2.2.1 hl1 hl2).mono ?_
  rintro e w1 ⟨r1, r2, d1, d2, rfl, i1, i2, b1⟩
  have O1 := H0.out.2.2.2.2.2.1.below b1
  clear y0 y1 y2 y3 y4 y5 y6 y7 y8
  obtain ⟨⟨z0, z1, z2, z3, z4, z5, z6, z7, z8⟩, zf⟩ := O1.nine
  have e3 := zf 3
  have e4 := zf 4
  have e5 := zf 5
  have e6 := zf 6
  have e7 := zf 7
  have e8 := zf 8
  obtain ⟨W2, hW2⟩ : ∃ W2, W2 = setL w1 w.heap.size 3 [.int .i64 C.kd, .int .i64 C.pl, .int .i64 C.n, .slice r1 l1 d1, .slice r2 l2 d2, .int .i64 C.wa] := ⟨_, rfl⟩
  have H1 : Hid (OwnI W2 w.heap.size (.slice r1 l1 d1) C.ws ∧ OwnB W2 w.heap.size (.slice r2 l2 d2) C.bs ∧ Below w.heap.size w W2 ∧ Blk W2 (w.heap.size + 1) 30 ca0c ∧ Blk W2 w.heap.size 30 (cac C r1 r2 l1 l2 d1 d2)) := by
    rw [hW2]
    have hz := H0.out.2.2.2.2.1.size
    exact ⟨OwnI.mono (show OwnI _ _ _ _ from row_stL i1 ⟨_, O1⟩ (by decide)) hz, OwnB.mono (show OwnB _ _ _ _ from row_stL i2 ⟨_, O1⟩ (by decide)) hz, setL_below (Nat.le_refl _) _ _ _ (bel_nx H0.out.2.2.2.2.1 b1), Blk.stNe (by omega) _ _ (H0.out.2.2.2.2.2.2.below b1), by rw [show cac C r1 r2 l1 l2 d1 d2 = wrA (cac C a1 a2 l1 l2 c1 c2) 3 [.int .i64 C.kd, .int .i64 C.pl, .int .i64 C.n, .slice r1 l1 d1, .slice r2 l2 d2, .int .i64 C.wa] from (wr36 _ _ _ _ _ _ _ _ _ _ _ _ _ _ _).symm]; exact Blk.stL _ _ O1⟩
  have hW2' : W2 = ((((((w1.setCell ⟨w.heap.size, 3, none⟩ (.int .i64 C.kd)).setCell ⟨w.heap.size, 4, none⟩ (.int .i64 C.pl)).setCell ⟨w.heap.size, 5, none⟩ (.int .i64 C.n)).setCell ⟨w.heap.size, 6, none⟩ (.slice r1 l1 d1)).setCell ⟨w.heap.size, 7, none⟩ (.slice r2 l2 d2)).setCell ⟨w.heap.size, 8, none⟩ (.int .i64 C.wa)) := hW2
  clear i1 i2 b1 O1 hW2 H0
  go_upto_region 2 with fail
  rw [← hW2']
  clear hW2' z0 z1 z2 z3 z4 z5 z6 z7 z8 zf e3 e4 e5 e6 e7 e8
  refine wp_region_lit ?_
  refine wpList_load_mid rfl 30 (.tmp 1) rfl w.heap.size 0 rfl (calL C r1 r2 l1 l2 d1 d2) _ H1.out.2.2.2.2.all Try.underlying30 rfl (by kernel_rfl) ?_
  refine wpList_store_mid rfl 30 (.tmp 2) (.tmp 7) rfl (w.heap.size + 1) 0 (cac C r1 r2 l1 l2 d1 d2) rfl rfl (H1.out.2.2.2.1.there 0 9 (by simp)) (by kernel_rfl) (by simp [Value.oneCell']) ?_
  rw [setCells_L]
  refine wpList_nil ?_
  have HB : Blk (setL W2 (w.heap.size + 1) 0 (calL C r1 r2 l1 l2 d1 d2)) (w.heap.size + 1) 30 (cac C r1 r2 l1 l2 d1 d2) := by rw [show cac C r1 r2 l1 l2 d1 d2 = wrA ca0c 0 (calL C r1 r2 l1 l2 d1 d2) from (wr09 _ _ _ _ _ _ _ _ _ _ _ _ _ _ _ _ _ _).symm]; exact Blk.stL _ _ H1.out.2.2.2.1
  go_wp2
  refine bodyPost_ret (v := .agg (cac C r1 r2 l1 l2 d1 d2)) (results_cell Try.results31 rfl (run_loadVar_mid _ _ _ 30 (calL C r1 r2 l1 l2 d1 d2) _ HB.all Try.underlying30 rfl (by kernel_rfl))) rfl ?_
  exact ⟨r1, r2, d1, d2, rfl, row_stL H1.out.1 ⟨_, H1.out.2.2.2.1⟩ (by decide), row_stL H1.out.2.1 ⟨_, H1.out.2.2.2.1⟩ (by decide), setL_below (by omega) _ _ _ H1.out.2.2.1⟩

set_option maxRecDepth 20000 in
set_option maxHeartbeats 4000000 in
theorem specCopyCall_any (C : Ca) (a1 a2 : Option Addr) (l1 l2 c1 c2 : Nat) (w : World) (h1 : l1 = C.ws.length) (h2 : l2 = C.bs.length) (s1 : SlI w a1 C.ws) (s2 : SlB w a2 C.bs) (hl1 : l1 ≤ 2000000) (hl2 : l2 ≤ 2000000) :
    Calls Try.prog 35 #[.agg (cac C a1 a2 l1 l2 c1 c2)] w fun e w' => CaP w w' e C l1 l2 := by
  obtain ⟨W, hW⟩ : ∃ W, W = (w.alloc (.cells (cac C a1 a2 l1 l2 c1 c2) 30)).alloc (.cells ca0c 30) := ⟨_, rfl⟩
  have bW : Below w.heap.size w W := by rw [hW]; exact bel_nx (bel_alloc w _) (bel_alloc _ _)
  have A0 : Blk W w.heap.size 30 (cac C a1 a2 l1 l2 c1 c2) := by rw [hW]; exact (Blk.new w _ _).below (bel_alloc _ _)
  have R0 : Blk W (w.heap.size + 1) 30 ca0c := by
    rw [hW]; have := Blk.new (w.alloc (.cells (cac C a1 a2 l1 l2 c1 c2) 30)) ca0c 30; simpa using this
  have H0 : Hid (l1 = C.ws.length ∧ l2 = C.bs.length ∧ SlI W a1 C.ws ∧ SlB W a2 C.bs ∧ Below w.heap.size w W ∧ Blk W w.heap.size 30 (cac C a1 a2 l1 l2 c1 c2) ∧ Blk W (w.heap.size + 1) 30 ca0c) := ⟨h1, h2, s1.below bW, s2.below bW, bW, A0, R0⟩
  obtain ⟨⟨y0, y1, y2, y3, y4, y5, y6, y7, y8⟩, _⟩ := A0.nine
  clear h1 h2 s1 s2 bW R0 A0
  go_enter Try.func35, Try.ntmps35
  go_upto_region 1 with fail
  rw [← hW]
  clear hW
  go_wp2_with fail
  refine (specCopyReq_any C.kd C.pl C.n C.wa a1 a2 l1 l2 c1 c2 C.ws C.bs _ H0.out.1 H0.out.2.1 H0.out.2.2.1 H0.out.2.2.2.1 hl1 hl2).mono ?_
  rintro e w1 ⟨r1, r2, d1, d2, rfl, i1, i2, b1⟩
  have O1 := H0.out.2.2.2.2.2.1.below b1
  clear y0 y1 y2 y3 y4 y5 y6 y7 y8
  obtain ⟨⟨z0, z1, z2, z3, z4, z5, z6, z7, z8⟩, zf⟩ := O1.nine
  have e3 := zf 3
  have e4 := zf 4
  have e5 := zf 5
  have e6 := zf 6
  have e7 := zf 7
  have e8 := zf 8
  obtain ⟨W2, hW2⟩ : ∃ W2, W2 = setL w1 w.heap.size 3 [.int .i64 C.kd, .int .i64 C.pl, .int .i64 C.n, .slice r1 l1 d1, .slice r2 l2 d2, .int .i64 C.wa] := ⟨_, rfl⟩
  have H1 : Hid (OwnI W2 w.heap.size (.slice r1 l1 d1) C.ws ∧ OwnB W2 w.heap.size (.slice r2 l2 d2) C.bs ∧ Below w.heap.size w W2 ∧ Blk W2 (w.heap.size + 1) 30 ca0c ∧ Blk W2 w.heap.size 30 (cac C r1 r2 l1 l2 d1 d2)) := by
    rw [hW2]
    have hz := H0.out.2.2.2.2.1.size
    exact ⟨OwnI.mono (show OwnI _ _ _ _ from row_stL i1 ⟨_, O1⟩ (by decide)) hz, OwnB.mono (show OwnB _ _ _ _ from row_stL i2 ⟨_, O1⟩ (by decide)) hz, setL_below (Nat.le_refl _) _ _ _ (bel_nx H0.out.2.2.2.2.1 b1), Blk.stNe (by omega) _ _ (H0.out.2.2.2.2.2.2.below b1), by rw [show cac C r1 r2 l1 l2 d1 d2 = wrA (cac C a1 a2 l1 l2 c1 c2) 3 [.int .i64 C.kd, .int .i64 C.pl, .int .i64 C.n, .slice r1 l1 d1, .slice r2 l2 d2, .int .i64 C.wa] from (wr36 _ _ _ _ _ _ _ _ _ _ _ _ _ _ _).symm]; exact Blk.stL _ _ O1⟩
  have hW2' : W2 = ((((((w1.setCell ⟨w.heap.size, 3, none⟩ (.int .i64 C.kd)).setCell ⟨w.heap.size, 4, none⟩ (.int .i64 C.pl)).setCell ⟨w.heap.size, 5, none⟩ (.int .i64 C.n)).setCell ⟨w.heap.size, 6, none⟩ (.slice r1 l1 d1)).setCell ⟨w.heap.size, 7, none⟩ (.slice r2 l2 d2)).setCell ⟨w.heap.size, 8, none⟩ (.int .i64 C.wa)) := hW2
  clear i1 i2 b1 O1 hW2 H0
  go_upto_region 2 with fail
  rw [← hW2']
  clear hW2' z0 z1 z2 z3 z4 z5 z6 z7 z8 zf e3 e4 e5 e6 e7 e8
  refine wp_region_lit ?_
  refine wpList_load_mid rfl 30 (.tmp 1) rfl w.heap.size 0 rfl (calL C r1 r2 l1 l2 d1 d2) _ H1.out.2.2.2.2.all Try.underlying30 rfl (by kernel_rfl) ?_
  refine wpList_store_mid rfl 30 (.tmp 2) (.tmp 7) rfl (w.heap.size + 1) 0 (cac C r1 r2 l1 l2 d1 d2) rfl rfl (H1.out.2.2.2.1.there 0 9 (by simp)) (by kernel_rfl) (by simp [Value.oneCell']) ?_
  rw [setCells_L]
  refine wpList_nil ?_
  have HB : Blk (setL W2 (w.heap.size + 1) 0 (calL C r1 r2 l1 l2 d1 d2)) (w.heap.size + 1) 30 (cac C r1 r2 l1 l2 d1 d2) := by rw [show cac C r1 r2 l1 l2 d1 d2 = wrA ca0c 0 (calL C r1 r2 l1 l2 d1 d2) from (wr09 _ _ _ _ _ _ _ _ _ _ _ _ _ _ _ _ _ _).symm]; exact Blk.stL _ _ H1.out.2.2.2.1
  go_wp2
  refine bodyPost_ret (v := .agg (cac C r1 r2 l1 l2 d1 d2)) (results_cell Try.results35 rfl (run_loadVar_mid _ _ _ 30 (calL C r1 r2 l1 l2 d1 d2) _ HB.all Try.underlying30 rfl (by kernel_rfl))) rfl ?_
  exact ⟨r1, r2, d1, d2, rfl, row_stL H1.out.1 ⟨_, H1.out.2.2.2.1⟩ (by decide), row_stL H1.out.2.1 ⟨_, H1.out.2.2.2.1⟩ (by decide), setL_below (by omega) _ _ _ H1.out.2.2.1⟩

end Go.Proofs.Ytmhdneenjoelfaa
