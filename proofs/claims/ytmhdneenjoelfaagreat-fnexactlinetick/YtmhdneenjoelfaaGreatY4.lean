/- Texts that the proof needs, joined: Mid Mid2 Cy2 Steps Ap1 RgI RgV RgW RgX RgY. -/
import Derived.Test.YtmhdneenjoelfaaGreatY2
import Derived.Deep.MidRow
import Derived.Test.YtmhdneenjoelfaaGreatY3
import Derived.WalkKit
import Derived.Deep.RegionLaw
import Derived.RegionTactic
import Derived.Below
namespace Go.Proofs.YtmhdneenjoelfaaGreat
open Go.RowKit Go.Joins
set_option linter.unusedVariables false
theorem setCells_L (g : Nat) : ∀ (vs : List Value) (w : World) (o : Nat), w.setCells g o vs = setL w g o vs
  | [], _, _ => rfl
  | v :: vs, w, o => by
    rw [World.setCells, setCells_L g vs]
    rfl
theorem Blk.range {w : World} {g : Nat} {t : TypeId} {cs : Array Value} (h : Blk w g t cs) (o : Nat) (vs : List Value) (hv : ∀ j, j < vs.length → cs[o + j]? = vs[j]?) : w.rangeAt g o vs := fun j v hj => by
  have hlt : j < vs.length := (List.getElem?_eq_some_iff.1 hj).1
  exact h.cell (o + j) (by rw [hv j hlt, hj])
theorem Blk.there {w : World} {g : Nat} {t : TypeId} {cs : Array Value} (h : Blk w g t cs) (o n : Nat) (hn : o + n ≤ cs.size) : w.there g o n := fun j hj => by
  refine ⟨?_, h.fro _⟩
  rw [h.cell (o + j) (Array.getElem?_eq_getElem (show o + j < cs.size by omega))]
  rfl
theorem Blk.all {w : World} {g : Nat} {t : TypeId} {vs : List Value} (h : Blk w g t vs.toArray) : w.rangeAt g 0 vs := h.range 0 vs (fun j hj => by simp)
theorem wpList_alloc_any {P : Program} {ops : Array Oper} {rest : List Oper} {op : Oper} {a : Act} {w : World} {Q : Exit → Act → World → Prop} (hgd : op.guard = none) (ty : TypeId) (ho : op.op = .alloc ty) (cs : Array Value) (n b : Nat) (hi : (P.info? ty).map (fun i => (i.zero, i.size, i.bytes)) = some (some (.agg cs), n, b))
    (h : wpList P ops Q rest (a.put op.dst (.pointer (some ⟨w.heap.size, 0, none⟩))) (w.alloc (.cells cs ty))) : wpList P ops Q (op :: rest) a w :=
  wpList_plain hgd fun K hK => by
    have hz : (zeroValue ty).run P w = .ok (.agg cs) w := by
      cases hq : P.info? ty with
      | none => simp [hq] at hi
      | some i => simp [hq] at hi; simp [zeroValue, typeInfo, hq, hi.1]
    have hr : (execOp a.eval op).run P w = .ok (.value (.pointer (some ⟨w.heap.size, 0, none⟩))) (w.alloc (.cells cs ty)) := by
      unfold execOp
      simp only [ho]
      rw [Sem.run_bind]
      have h9 : (Instr.alloc ty true (.tuple #[])).run P w = .ok (.pointer (some ⟨w.heap.size, 0, none⟩)) (w.alloc (.cells cs ty)) := by
        unfold Instr.alloc
        rw [Sem.run_bind, hz]
        rfl
      rw [h9]
      rfl
    unfold Oper.wp
    rw [hr]
    exact hK _ _ h
end Go.Proofs.YtmhdneenjoelfaaGreat
namespace Go.Proofs.YtmhdneenjoelfaaGreat
open Go.RowKit Go.Joins
set_option linter.unusedVariables false
set_option linter.unusedSimpArgs false
theorem wpList_move_any {P : Program} {ops : Array Oper} {rest : List Oper} {op : Oper} {a : Act} {w : World} {Q : Exit → Act → World → Prop} (hgd : op.guard = none) (x : Operand) (ho : op.op = .move x) (v : Value) (hv : a.eval x = v)
    (h : wpList P ops Q rest (a.put op.dst v) w) : wpList P ops Q (op :: rest) a w :=
  wpList_plain hgd fun K hK => by
    unfold Oper.wp execOp
    simp only [ho, hv]
    exact hK _ _ h
theorem results_cell {P : Program} {fn : Func} {tmps : Array Value} {w : World} {s : Nat} {t : TypeId} {g o : Nat} {v : Value} (hf : fn.results = #[.cell s t]) (ha : tmps.getD s undef = .pointer (some ⟨g, o, none⟩)) (hl : (loadVar t ⟨g, o, none⟩).run P w = .ok v w) : (results fn tmps).run P w = .ok v w := by
  rw [Array.getD_eq_getD_getElem?] at ha
  unfold results
  rw [hf]
  simp [ha, asAddr, hl, Sem.run_bind]
theorem results_cell2 {P : Program} {fn : Func} {tmps : Array Value} {w : World} {s s1 s2 : Nat} {t : TypeId} {g o : Nat} {v v1 v2 : Value} (hf : fn.results = #[.cell s t, .tmp s1, .tmp s2]) (ha : tmps.getD s undef = .pointer (some ⟨g, o, none⟩)) (h1 : tmps.getD s1 undef = v1) (h2 : tmps.getD s2 undef = v2) (hl : (loadVar t ⟨g, o, none⟩).run P w = .ok v w) : (results fn tmps).run P w = .ok (.tuple #[v, v1, v2]) w := by
  rw [Array.getD_eq_getD_getElem?] at ha h1 h2
  unfold results
  rw [hf]
  simp [ha, asAddr, hl, h1, h2, Sem.run_bind]
end Go.Proofs.YtmhdneenjoelfaaGreat
namespace Go.Proofs.YtmhdneenjoelfaaGreat
open Go.RowKit Go.Joins
set_option linter.unusedVariables false
set_option linter.unusedSimpArgs false
def ReqPst (w w' : World) (e : Ending) (kd pl nn wa : Int) (ws : List Int) (bs : List Bool) : Prop :=
  ∃ r1 r2 l1 l2 c1 c2, e = .returned (.agg (rqL kd pl nn wa r1 r2 l1 l2 c1 c2)) ∧ l1 = ws.length ∧ l2 = bs.length ∧ OwnI w' w.heap.size (.slice r1 l1 c1) ws ∧ OwnB w' w.heap.size (.slice r2 l2 c2) bs ∧ Below w.heap.size w w'
theorem Blk.six2 {w : World} {g : Nat} {t : TypeId} {v0 v1 v2 v3 v4 v5 : Value} (h : Blk w g t #[v0, v1, v2, v3, v4, v5]) : (w.cell? ⟨g, 0, none⟩ = some v0 ∧ w.cell? ⟨g, 1, none⟩ = some v1 ∧ w.cell? ⟨g, 2, none⟩ = some v2 ∧ w.cell? ⟨g, 3, none⟩ = some v3 ∧ w.cell? ⟨g, 4, none⟩ = some v4 ∧ w.cell? ⟨g, 5, none⟩ = some v5) ∧ (w.frozen? ⟨g, 0, none⟩ = false ∧ w.frozen? ⟨g, 1, none⟩ = false ∧ w.frozen? ⟨g, 2, none⟩ = false ∧ w.frozen? ⟨g, 3, none⟩ = false ∧ w.frozen? ⟨g, 4, none⟩ = false ∧ w.frozen? ⟨g, 5, none⟩ = false) :=
  ⟨⟨h.cell 0 rfl, h.cell 1 rfl, h.cell 2 rfl, h.cell 3 rfl, h.cell 4 rfl, h.cell 5 rfl⟩, ⟨h.fro 0, h.fro 1, h.fro 2, h.fro 3, h.fro 4, h.fro 5⟩⟩
theorem grown_below2 {B : Nat} {w0 w w' : World} {g : Nat} (hb : Below B w0 w) (hg : w.grownBy w' (some g)) (h1 : B ≤ g) (h2 : B ≤ w.heap.size) : Below B w0 w' :=
  hb.grown hg h2 (fun k hk => by have := Option.some.inj hk; omega)
set_option maxRecDepth 20000 in
set_option maxHeartbeats 1000000 in
theorem specCopyReq_q (kd pl nn wa : Int) (q1 q2 : Option Addr) (m1 m2 k1 k2 : Nat) (ws : List Int) (bs : List Bool) (w : World) (h1 : m1 = ws.length) (h2 : m2 = bs.length) (s1 : SlI w q1 ws) (s2 : SlB w q2 bs) (hl1 : ws.length ≤ 2000000) (hl2 : bs.length ≤ 2000000) :
    Calls Tryz.prog 106 #[.agg (rqL kd pl nn wa q1 q2 m1 m2 k1 k2)] w fun e w' => ReqPst w w' e kd pl nn wa ws bs := by
  obtain ⟨B, hB⟩ : ∃ B, B = w.heap.size := ⟨_, rfl⟩
  obtain ⟨W, hW⟩ : ∃ W, W = (w.alloc (.cells (rqL kd pl nn wa q1 q2 m1 m2 k1 k2) 28)).alloc (.cells #[.int .i64 0, .int .i64 0, .int .i64 0, .slice none 0 0, .slice none 0 0, .int .i64 0] 28) := ⟨_, rfl⟩
  have bW : Below w.heap.size w W := by rw [hW]; exact bel_nx (bel_alloc _ _) (bel_alloc _ _)
  have HW : Hid (Below w.heap.size w W ∧ Blk W B 28 (rqL kd pl nn wa q1 q2 m1 m2 k1 k2) ∧ Blk W (B + 1) 28 #[.int .i64 0, .int .i64 0, .int .i64 0, .slice none 0 0, .slice none 0 0, .int .i64 0] ∧ w.heap.size ≤ W.heap.size) := ⟨bW, by rw [hW, hB]; exact (Blk.new w _ _).below (bel_alloc _ _), by rw [hW, hB]; have := Blk.new (w.alloc (.cells (rqL kd pl nn wa q1 q2 m1 m2 k1 k2) 28)) #[.int .i64 0, .int .i64 0, .int .i64 0, .slice none 0 0, .slice none 0 0, .int .i64 0] 28; simpa using this, bW.size⟩
  have HS : Hid (m1 = ws.length ∧ m2 = bs.length ∧ SlI w q1 ws ∧ SlB w q2 bs ∧ w.heap.size = B) := ⟨h1, h2, s1, s2, hB.symm⟩
  clear bW h1 h2 s1 s2
  go_enter Tryz.func106, Tryz.ntmps106
  go_upto_region 1 with fail
  rw [← hW, ← hB]
  clear hW hB
  obtain ⟨⟨y0, y1, y2, y3, y4, y5⟩, _⟩ := (HW.out.2.1.below (bel_alloc W (.cells #[] 3))).six2
  go_upto_region 2 with (at_builtin; refine wpList_appIO rfl (.tmp 3) (.tmp 5) rfl w.heap.size (.slice (some ⟨W.heap.size, 0, none⟩) 0 0) [] rfl (newI W w.heap.size HW.out.2.2.2) q1 m1 k1 ws rfl HS.out.1 (HS.out.2.2.1.below (bel_nx HW.out.1 (bel_alloc _ _))) (by simp; omega) (by have := HW.out.2.2.2; simp; omega) ?_; intro v1 w1 O1 g1'; have g1 : (W.alloc (.cells #[] 3)).grownBy w1 (some W.heap.size) := g1'; clear g1'; have HU : Hid (OwnI w1 w.heap.size v1 ws ∧ Below w.heap.size w w1 ∧ Blk w1 B 28 (rqL kd pl nn wa q1 q2 m1 m2 k1 k2) ∧ Blk w1 (B + 1) 28 #[.int .i64 0, .int .i64 0, .int .i64 0, .slice none 0 0, .slice none 0 0, .int .i64 0]) := ⟨by simpa using O1, grown_below2 (bel_nx HW.out.1 (bel_alloc _ _)) g1 HW.out.2.2.2 (by have := HW.out.2.2.2; simp; omega), (HW.out.2.1.below (bel_alloc _ _)).grown g1 (by have := HW.out.2.1.lt; intro e9; have := Option.some.inj e9; omega), (HW.out.2.2.1.below (bel_alloc _ _)).grown g1 (by have := HW.out.2.2.1.lt; intro e9; have := Option.some.inj e9; omega)⟩; clear O1 g1; obtain ⟨a1, c1, n1, hv1, hn1⟩ := ownI_shape2 HU.out.1; subst hv1; have HN1 : Hid (n1 = ws.length) := hn1; clear hn1; obtain ⟨⟨x0, x1, x2, x3, x4, x5⟩, ⟨f0, f1, f2, f3, f4, f5⟩⟩ := HU.out.2.2.1.six2)
  obtain ⟨W2, hW2⟩ : ∃ W2, W2 = w1.setCell ⟨B, 3, none⟩ (.slice a1 n1 c1) := ⟨_, rfl⟩
  have HV : Hid (OwnI W2 w.heap.size (.slice a1 n1 c1) ws ∧ Below w.heap.size w W2 ∧ Blk W2 B 28 (rqL kd pl nn wa a1 q2 n1 m2 c1 k2) ∧ Blk W2 (B + 1) 28 #[.int .i64 0, .int .i64 0, .int .i64 0, .slice none 0 0, .slice none 0 0, .int .i64 0] ∧ w.heap.size ≤ W2.heap.size) := by
    have hb : Below w.heap.size w W2 := by rw [hW2]; exact HU.out.2.1.setCell (p := ⟨B, 3, none⟩) (by show w.heap.size ≤ B; rw [HS.out.2.2.2.2]; exact Nat.le_refl _) _
    exact ⟨by rw [hW2]; exact row_setE HU.out.1 ⟨_, HU.out.2.2.1⟩ (by decide), hb, by rw [hW2]; have h9 := HU.out.2.2.1.set 3 (.slice a1 n1 c1); simpa using h9, by rw [hW2]; exact HU.out.2.2.2.setNe (by omega), hb.size⟩
  rw [← hW2]
  clear hW2 HU x0 x1 x2 x3 x4 x5 f0 f1 f2 f3 f4 f5 y0 y1 y2 y3 y4 y5 HW
  obtain ⟨⟨y0, y1, y2, y3, y4, y5⟩, _⟩ := (HV.out.2.2.1.below (bel_alloc W2 (.cells #[] 4))).six2
  go_upto_region 3 with (at_builtin; refine wpList_appBO rfl (.tmp 8) (.tmp 10) rfl w.heap.size (.slice (some ⟨W2.heap.size, 0, none⟩) 0 0) [] rfl (newB W2 w.heap.size HV.out.2.2.2.2) q2 m2 k2 bs rfl HS.out.2.1 (HS.out.2.2.2.1.below (bel_nx HV.out.2.1 (bel_alloc _ _))) (by simp; omega) (by have := HV.out.2.2.2.2; simp; omega) ?_; intro v2 w2 O2 g2'; have g2 : (W2.alloc (.cells #[] 4)).grownBy w2 (some W2.heap.size) := g2'; clear g2'; have HU : Hid (OwnB w2 w.heap.size v2 bs ∧ Below w.heap.size w w2 ∧ Blk w2 B 28 (rqL kd pl nn wa a1 q2 n1 m2 c1 k2) ∧ Blk w2 (B + 1) 28 #[.int .i64 0, .int .i64 0, .int .i64 0, .slice none 0 0, .slice none 0 0, .int .i64 0] ∧ OwnI w2 w.heap.size (.slice a1 n1 c1) ws) := ⟨by simpa using O2, grown_below2 (bel_nx HV.out.2.1 (bel_alloc _ _)) g2 HV.out.2.2.2.2 (by have := HV.out.2.2.2.2; simp; omega), (HV.out.2.2.1.below (bel_alloc _ _)).grown g2 (by have := HV.out.2.2.1.lt; intro e9; have := Option.some.inj e9; omega), (HV.out.2.2.2.1.below (bel_alloc _ _)).grown g2 (by have := HV.out.2.2.2.1.lt; intro e9; have := Option.some.inj e9; omega), (OwnI.below HV.out.1 (bel_alloc _ _)).kept g2 (.inr (by intro e9; have := (World.ownsRow.lt HV.out.1 _ e9).2; simp at this))⟩; clear O2 g2; obtain ⟨a2, c2, n2, hv2, hn2⟩ := ownB_shape HU.out.1; subst hv2; have HN2 : Hid (n2 = bs.length) := hn2; clear hn2; obtain ⟨⟨x0, x1, x2, x3, x4, x5⟩, ⟨f0, f1, f2, f3, f4, f5⟩⟩ := HU.out.2.2.1.six2)
  obtain ⟨W3, hW3⟩ : ∃ W3, W3 = w2.setCell ⟨B, 4, none⟩ (.slice a2 n2 c2) := ⟨_, rfl⟩
  have HX : Hid (OwnI W3 w.heap.size (.slice a1 n1 c1) ws ∧ OwnB W3 w.heap.size (.slice a2 n2 c2) bs ∧ Below w.heap.size w W3 ∧ Blk W3 B 28 (rqL kd pl nn wa a1 a2 n1 n2 c1 c2) ∧ Blk W3 (B + 1) 28 #[.int .i64 0, .int .i64 0, .int .i64 0, .slice none 0 0, .slice none 0 0, .int .i64 0]) := by
    have hb : Below w.heap.size w W3 := by rw [hW3]; exact HU.out.2.1.setCell (p := ⟨B, 4, none⟩) (by show w.heap.size ≤ B; rw [HS.out.2.2.2.2]; exact Nat.le_refl _) _
    exact ⟨by rw [hW3]; exact row_setE HU.out.2.2.2.2 ⟨_, HU.out.2.2.1⟩ (by decide), by rw [hW3]; exact row_setE HU.out.1 ⟨_, HU.out.2.2.1⟩ (by decide), hb, by rw [hW3]; have h9 := HU.out.2.2.1.set 4 (.slice a2 n2 c2); simpa using h9, by rw [hW3]; exact HU.out.2.2.2.1.setNe (by omega)⟩
  rw [← hW3]
  clear hW3 HU HV x0 x1 x2 x3 x4 x5 f0 f1 f2 f3 f4 f5 y0 y1 y2 y3 y4 y5
  obtain ⟨⟨y0, y1, y2, y3, y4, y5⟩, _⟩ := HX.out.2.2.2.1.six2
  obtain ⟨⟨x0, x1, x2, x3, x4, x5⟩, ⟨f0, f1, f2, f3, f4, f5⟩⟩ := HX.out.2.2.2.2.six2
  have HY : Hid (OwnI (setL W3 (B + 1) 0 (rqL kd pl nn wa a1 a2 n1 n2 c1 c2).toList) w.heap.size (.slice a1 n1 c1) ws ∧ OwnB (setL W3 (B + 1) 0 (rqL kd pl nn wa a1 a2 n1 n2 c1 c2).toList) w.heap.size (.slice a2 n2 c2) bs ∧ Below w.heap.size w (setL W3 (B + 1) 0 (rqL kd pl nn wa a1 a2 n1 n2 c1 c2).toList)) := ⟨row_stL HX.out.1 ⟨_, HX.out.2.2.2.2⟩ (by decide), row_stL HX.out.2.1 ⟨_, HX.out.2.2.2.2⟩ (by decide), setL_below (by have := HS.out.2.2.2.2; omega) _ _ _ HX.out.2.2.1⟩
  clear HX
  go_wp2
  refine bodyPost_ret (v := .agg (rqL kd pl nn wa a1 a2 n1 n2 c1 c2)) (by simp [results, Tryz.results106, go_sem, x0, x1, x2, x3, x4, x5]) rfl ⟨a1, a2, n1, n2, c1, c2, rfl, HN1.out, HN2.out, HY.out.1, HY.out.2.1, HY.out.2.2⟩
theorem specCopyReq_any (kd pl nn wa : Int) (q1 q2 : Option Addr) (m1 m2 k1 k2 : Nat) (ws : List Int) (bs : List Bool) (w : World) (h1 : m1 = ws.length) (h2 : m2 = bs.length) (s1 : SlI w q1 ws) (s2 : SlB w q2 bs) (hl1 : m1 ≤ 2000000) (hl2 : m2 ≤ 2000000) :
    Calls Tryz.prog 106 #[.agg (rqL kd pl nn wa q1 q2 m1 m2 k1 k2)] w fun e w' => RqP w w' e kd pl nn wa m1 m2 ws bs := by
  refine (specCopyReq_q kd pl nn wa q1 q2 m1 m2 k1 k2 ws bs w h1 h2 s1 s2 (by omega) (by omega)).mono ?_
  rintro e w' ⟨r1, r2, l1, l2, c1, c2, he, e1, e2, o1, o2, hb⟩
  obtain rfl : l1 = m1 := by omega
  obtain rfl : l2 = m2 := by omega
  exact ⟨r1, r2, c1, c2, he, o1, o2, hb⟩
def CaP (w w' : World) (e : Ending) (C : Ca) (l1 l2 : Nat) : Prop :=
  ∃ a1 a2 c1 c2, e = .returned (.agg (cac C a1 a2 l1 l2 c1 c2)) ∧ OwnI w' w.heap.size (.slice a1 l1 c1) C.ws ∧ OwnB w' w.heap.size (.slice a2 l2 c2) C.bs ∧ Below w.heap.size w w'
set_option maxRecDepth 20000 in
set_option maxHeartbeats 4000000 in
theorem implCopyCall_any (C : Ca) (a1 a2 : Option Addr) (l1 l2 c1 c2 : Nat) (w : World) (h1 : l1 = C.ws.length) (h2 : l2 = C.bs.length) (s1 : SlI w a1 C.ws) (s2 : SlB w a2 C.bs) (hl1 : l1 ≤ 2000000) (hl2 : l2 ≤ 2000000) :
    Calls Tryz.prog 92 #[.agg (cac C a1 a2 l1 l2 c1 c2)] w fun e w' => CaP w w' e C l1 l2 := by
  obtain ⟨W, hW⟩ : ∃ W, W = (w.alloc (.cells (cac C a1 a2 l1 l2 c1 c2) 30)).alloc (.cells ca0c 30) := ⟨_, rfl⟩
  have bW : Below w.heap.size w W := by rw [hW]; exact bel_nx (bel_alloc w _) (bel_alloc _ _)
  have A0 : Blk W w.heap.size 30 (cac C a1 a2 l1 l2 c1 c2) := by rw [hW]; exact (Blk.new w _ _).below (bel_alloc _ _)
  have R0 : Blk W (w.heap.size + 1) 30 ca0c := by
    rw [hW]; have := Blk.new (w.alloc (.cells (cac C a1 a2 l1 l2 c1 c2) 30)) ca0c 30; simpa using this
  have H0 : Hid (l1 = C.ws.length ∧ l2 = C.bs.length ∧ SlI W a1 C.ws ∧ SlB W a2 C.bs ∧ Below w.heap.size w W ∧ Blk W w.heap.size 30 (cac C a1 a2 l1 l2 c1 c2) ∧ Blk W (w.heap.size + 1) 30 ca0c) := ⟨h1, h2, s1.below bW, s2.below bW, bW, A0, R0⟩
  obtain ⟨⟨y0, y1, y2, y3, y4, y5, y6, y7, y8⟩, _⟩ := A0.nine
  clear h1 h2 s1 s2 bW R0 A0
  go_enter Tryz.func92, Tryz.ntmps92
  go_upto_region 1 with fail
  rw [← hW]
  clear hW
  go_wp2_with fail
  refine (implCopyReq_any C.kd C.pl C.n C.wa a1 a2 l1 l2 c1 c2 C.ws C.bs _ H0.out.1 H0.out.2.1 H0.out.2.2.1 H0.out.2.2.2.1 hl1 hl2).mono ?_
  rintro e w1 ⟨r1, r2, d1, d2, rfl, i1, i2, b1⟩
  have O1 := H0.out.2.2.2.2.2.1.below b1
  clear y0 y1 y2 y3 y4 y5 y6 y7 y8
  obtain ⟨⟨z0, z1, z2, z3, z4, z5, z6, z7, z8⟩, zf⟩ := O1.nine
  have e3 := zf 3
  have e4 := zf 4
  have e5 := zf 5
  have e6 := zf 6
  have e7 := zf 7
  have e8 := zf 8
  obtain ⟨W2, hW2⟩ : ∃ W2, W2 = setL w1 w.heap.size 3 [.int .i64 C.kd, .int .i64 C.pl, .int .i64 C.n, .slice r1 l1 d1, .slice r2 l2 d2, .int .i64 C.wa] := ⟨_, rfl⟩
  have H1 : Hid (OwnI W2 w.heap.size (.slice r1 l1 d1) C.ws ∧ OwnB W2 w.heap.size (.slice r2 l2 d2) C.bs ∧ Below w.heap.size w W2 ∧ Blk W2 (w.heap.size + 1) 30 ca0c ∧ Blk W2 w.heap.size 30 (cac C r1 r2 l1 l2 d1 d2)) := by
    rw [hW2]
    have hz := H0.out.2.2.2.2.1.size
    exact ⟨OwnI.mono (show OwnI _ _ _ _ from row_stL i1 ⟨_, O1⟩ (by decide)) hz, OwnB.mono (show OwnB _ _ _ _ from row_stL i2 ⟨_, O1⟩ (by decide)) hz, setL_below (Nat.le_refl _) _ _ _ (bel_nx H0.out.2.2.2.2.1 b1), Blk.stNe (by omega) _ _ (H0.out.2.2.2.2.2.2.below b1), by rw [show cac C r1 r2 l1 l2 d1 d2 = wrA (cac C a1 a2 l1 l2 c1 c2) 3 [.int .i64 C.kd, .int .i64 C.pl, .int .i64 C.n, .slice r1 l1 d1, .slice r2 l2 d2, .int .i64 C.wa] from (wr36 _ _ _ _ _ _ _ _ _ _ _ _ _ _ _).symm]; exact Blk.stL _ _ O1⟩
  have hW2' : W2 = ((((((w1.setCell ⟨w.heap.size, 3, none⟩ (.int .i64 C.kd)).setCell ⟨w.heap.size, 4, none⟩ (.int .i64 C.pl)).setCell ⟨w.heap.size, 5, none⟩ (.int .i64 C.n)).setCell ⟨w.heap.size, 6, none⟩ (.slice r1 l1 d1)).setCell ⟨w.heap.size, 7, none⟩ (.slice r2 l2 d2)).setCell ⟨w.heap.size, 8, none⟩ (.int .i64 C.wa)) := hW2
  clear i1 i2 b1 O1 hW2 H0
  go_upto_region 2 with fail
  rw [← hW2']
  clear hW2' z0 z1 z2 z3 z4 z5 z6 z7 z8 zf e3 e4 e5 e6 e7 e8
  refine wp_region_lit ?_
  refine wpList_load_mid rfl 30 (.tmp 1) rfl w.heap.size 0 rfl (calL C r1 r2 l1 l2 d1 d2) _ H1.out.2.2.2.2.all Tryz.underlying30 rfl (by kernel_rfl) ?_
  refine wpList_store_mid rfl 30 (.tmp 2) (.tmp 7) rfl (w.heap.size + 1) 0 (cac C r1 r2 l1 l2 d1 d2) rfl rfl (H1.out.2.2.2.1.there 0 9 (by simp)) (by kernel_rfl) (by simp [Value.oneCell']) ?_
  rw [setCells_L]
  refine wpList_nil ?_
  have HB : Blk (setL W2 (w.heap.size + 1) 0 (calL C r1 r2 l1 l2 d1 d2)) (w.heap.size + 1) 30 (cac C r1 r2 l1 l2 d1 d2) := by rw [show cac C r1 r2 l1 l2 d1 d2 = wrA ca0c 0 (calL C r1 r2 l1 l2 d1 d2) from (wr09 _ _ _ _ _ _ _ _ _ _ _ _ _ _ _ _ _ _).symm]; exact Blk.stL _ _ H1.out.2.2.2.1
  go_wp2
  refine bodyPost_ret (v := .agg (cac C r1 r2 l1 l2 d1 d2)) (results_cell Tryz.results92 rfl (run_loadVar_mid _ _ _ 30 (calL C r1 r2 l1 l2 d1 d2) _ HB.all Tryz.underlying30 rfl (by kernel_rfl))) rfl ?_
  exact ⟨r1, r2, d1, d2, rfl, row_stL H1.out.1 ⟨_, H1.out.2.2.2.1⟩ (by decide), row_stL H1.out.2.1 ⟨_, H1.out.2.2.2.1⟩ (by decide), setL_below (by omega) _ _ _ H1.out.2.2.1⟩
set_option maxRecDepth 20000 in
set_option maxHeartbeats 4000000 in
theorem specCopyCall_any (C : Ca) (a1 a2 : Option Addr) (l1 l2 c1 c2 : Nat) (w : World) (h1 : l1 = C.ws.length) (h2 : l2 = C.bs.length) (s1 : SlI w a1 C.ws) (s2 : SlB w a2 C.bs) (hl1 : l1 ≤ 2000000) (hl2 : l2 ≤ 2000000) :
    Calls Tryz.prog 102 #[.agg (cac C a1 a2 l1 l2 c1 c2)] w fun e w' => CaP w w' e C l1 l2 := by
  obtain ⟨W, hW⟩ : ∃ W, W = (w.alloc (.cells (cac C a1 a2 l1 l2 c1 c2) 30)).alloc (.cells ca0c 30) := ⟨_, rfl⟩
  have bW : Below w.heap.size w W := by rw [hW]; exact bel_nx (bel_alloc w _) (bel_alloc _ _)
  have A0 : Blk W w.heap.size 30 (cac C a1 a2 l1 l2 c1 c2) := by rw [hW]; exact (Blk.new w _ _).below (bel_alloc _ _)
  have R0 : Blk W (w.heap.size + 1) 30 ca0c := by
    rw [hW]; have := Blk.new (w.alloc (.cells (cac C a1 a2 l1 l2 c1 c2) 30)) ca0c 30; simpa using this
  have H0 : Hid (l1 = C.ws.length ∧ l2 = C.bs.length ∧ SlI W a1 C.ws ∧ SlB W a2 C.bs ∧ Below w.heap.size w W ∧ Blk W w.heap.size 30 (cac C a1 a2 l1 l2 c1 c2) ∧ Blk W (w.heap.size + 1) 30 ca0c) := ⟨h1, h2, s1.below bW, s2.below bW, bW, A0, R0⟩
  obtain ⟨⟨y0, y1, y2, y3, y4, y5, y6, y7, y8⟩, _⟩ := A0.nine
  clear h1 h2 s1 s2 bW R0 A0
  go_enter Tryz.func102, Tryz.ntmps102
  go_upto_region 1 with fail
  rw [← hW]
  clear hW
  go_wp2_with fail
  refine (specCopyReq_any C.kd C.pl C.n C.wa a1 a2 l1 l2 c1 c2 C.ws C.bs _ H0.out.1 H0.out.2.1 H0.out.2.2.1 H0.out.2.2.2.1 hl1 hl2).mono ?_
  rintro e w1 ⟨r1, r2, d1, d2, rfl, i1, i2, b1⟩
  have O1 := H0.out.2.2.2.2.2.1.below b1
  clear y0 y1 y2 y3 y4 y5 y6 y7 y8
  obtain ⟨⟨z0, z1, z2, z3, z4, z5, z6, z7, z8⟩, zf⟩ := O1.nine
  have e3 := zf 3
  have e4 := zf 4
  have e5 := zf 5
  have e6 := zf 6
  have e7 := zf 7
  have e8 := zf 8
  obtain ⟨W2, hW2⟩ : ∃ W2, W2 = setL w1 w.heap.size 3 [.int .i64 C.kd, .int .i64 C.pl, .int .i64 C.n, .slice r1 l1 d1, .slice r2 l2 d2, .int .i64 C.wa] := ⟨_, rfl⟩
  have H1 : Hid (OwnI W2 w.heap.size (.slice r1 l1 d1) C.ws ∧ OwnB W2 w.heap.size (.slice r2 l2 d2) C.bs ∧ Below w.heap.size w W2 ∧ Blk W2 (w.heap.size + 1) 30 ca0c ∧ Blk W2 w.heap.size 30 (cac C r1 r2 l1 l2 d1 d2)) := by
    rw [hW2]
    have hz := H0.out.2.2.2.2.1.size
    exact ⟨OwnI.mono (show OwnI _ _ _ _ from row_stL i1 ⟨_, O1⟩ (by decide)) hz, OwnB.mono (show OwnB _ _ _ _ from row_stL i2 ⟨_, O1⟩ (by decide)) hz, setL_below (Nat.le_refl _) _ _ _ (bel_nx H0.out.2.2.2.2.1 b1), Blk.stNe (by omega) _ _ (H0.out.2.2.2.2.2.2.below b1), by rw [show cac C r1 r2 l1 l2 d1 d2 = wrA (cac C a1 a2 l1 l2 c1 c2) 3 [.int .i64 C.kd, .int .i64 C.pl, .int .i64 C.n, .slice r1 l1 d1, .slice r2 l2 d2, .int .i64 C.wa] from (wr36 _ _ _ _ _ _ _ _ _ _ _ _ _ _ _).symm]; exact Blk.stL _ _ O1⟩
  have hW2' : W2 = ((((((w1.setCell ⟨w.heap.size, 3, none⟩ (.int .i64 C.kd)).setCell ⟨w.heap.size, 4, none⟩ (.int .i64 C.pl)).setCell ⟨w.heap.size, 5, none⟩ (.int .i64 C.n)).setCell ⟨w.heap.size, 6, none⟩ (.slice r1 l1 d1)).setCell ⟨w.heap.size, 7, none⟩ (.slice r2 l2 d2)).setCell ⟨w.heap.size, 8, none⟩ (.int .i64 C.wa)) := hW2
  clear i1 i2 b1 O1 hW2 H0
  go_upto_region 2 with fail
  rw [← hW2']
  clear hW2' z0 z1 z2 z3 z4 z5 z6 z7 z8 zf e3 e4 e5 e6 e7 e8
  refine wp_region_lit ?_
  refine wpList_load_mid rfl 30 (.tmp 1) rfl w.heap.size 0 rfl (calL C r1 r2 l1 l2 d1 d2) _ H1.out.2.2.2.2.all Tryz.underlying30 rfl (by kernel_rfl) ?_
  refine wpList_store_mid rfl 30 (.tmp 2) (.tmp 7) rfl (w.heap.size + 1) 0 (cac C r1 r2 l1 l2 d1 d2) rfl rfl (H1.out.2.2.2.1.there 0 9 (by simp)) (by kernel_rfl) (by simp [Value.oneCell']) ?_
  rw [setCells_L]
  refine wpList_nil ?_
  have HB : Blk (setL W2 (w.heap.size + 1) 0 (calL C r1 r2 l1 l2 d1 d2)) (w.heap.size + 1) 30 (cac C r1 r2 l1 l2 d1 d2) := by rw [show cac C r1 r2 l1 l2 d1 d2 = wrA ca0c 0 (calL C r1 r2 l1 l2 d1 d2) from (wr09 _ _ _ _ _ _ _ _ _ _ _ _ _ _ _ _ _ _).symm]; exact Blk.stL _ _ H1.out.2.2.2.1
  go_wp2
  refine bodyPost_ret (v := .agg (cac C r1 r2 l1 l2 d1 d2)) (results_cell Tryz.results102 rfl (run_loadVar_mid _ _ _ 30 (calL C r1 r2 l1 l2 d1 d2) _ HB.all Tryz.underlying30 rfl (by kernel_rfl))) rfl ?_
  exact ⟨r1, r2, d1, d2, rfl, row_stL H1.out.1 ⟨_, H1.out.2.2.2.1⟩ (by decide), row_stL H1.out.2.1 ⟨_, H1.out.2.2.2.1⟩ (by decide), setL_below (by omega) _ _ _ H1.out.2.2.1⟩
end Go.Proofs.YtmhdneenjoelfaaGreat
namespace Go.Proofs.YtmhdneenjoelfaaGreat
open Go.RowKit
theorem step_append_own {P : Program} {ops : Array Oper} {o : Oper} {a : Act} {w : World} {K : Act → World → Prop} {Q : Exit → Act → World → Prop} {E : Prop}
    (hgd : o.guard = none) (s x : Operand) (t : TypeId) (ho : o.op = .call { callee := .builtin .append, args := #[s, x], argTypes := #[t, t] })
    (base : Nat) (e : TypeId) (i : TypeInfo) (z : Value) (size bytes : Nat) (ht : P.underlying t = some (.slice e)) (hi : P.info? e = some i) (hz : i.zero = some z)
    (hsize : i.size = size) (hby : i.bytes = bytes) (hzs : z.cells.size = size) (hsz : 0 < size)
    (v : Value) (n : Nat) (xs : List Value) (hs : a.eval s = v) (hown : w.ownsRow base e size v n xs)
    (ad : Addr) (m c : Nat) (news : List Value) (hx : a.eval x = .slice (some ad) m c) (hl : news.length = m * size) (hnews : ∀ j u, news[j]? = some u → w.cell? (ad.add j) = some u) (h1 : ∀ u ∈ news, u.oneCell' = true)
    (h63 : n + m ≤ maxLen) (hbytes : (n + m) * bytes ≤ 140737488355328) (hbase : base ≤ w.heap.size)
    (h : ∀ v' w', w'.ownsRow base e size v' (n + m) (xs ++ news) → w.grownBy w' v.ownBlock → K (a.put o.dst v') w') :
    if Region.wanted o (yielded ops a.tmps) = true then Oper.wp P o a w K Q else E := by
  have hw : Region.wanted o (yielded ops a.tmps) = true := by simp [Region.wanted, hgd]
  rw [if_pos hw]
  obtain ⟨v', w', hrun, r1, r2, _⟩ := run_append_own (P := P) w base t o.type e i z size bytes ht hi hz hsize hby hzs hsz v n xs hown ad m c news hl hnews h1 h63 hbytes hbase
  unfold Oper.wp
  simp [execOp, ho, resolve, invoke, builtin, hs, hx, hrun, Result.andThen]
  exact h v' w' r1 r2
end Go.Proofs.YtmhdneenjoelfaaGreat
namespace Go.Proofs.YtmhdneenjoelfaaGreat
open Go.RowKit Go.Joins
set_option linter.unusedVariables false
set_option linter.unusedSimpArgs false
theorem rfl_len (F : Nat → List Value) (s : Nat) : ∀ n, (∀ k, k < n → (F k).length = s) → ((List.range n).flatMap F).length = n * s
  | 0, _ => by simp
  | n + 1, h => by
    rw [List.range_succ, List.flatMap_append, List.length_append, rfl_len F s n (fun k hk => h k (by omega))]
    simp [h n (by omega), Nat.add_mul]
theorem rfl_at (F : Nat → List Value) (s : Nat) : ∀ n, (∀ k, k < n → (F k).length = s) → ∀ k j, k < n → j < s → ((List.range n).flatMap F)[k * s + j]? = (F k)[j]?
  | 0, _, k, j, hk, _ => by omega
  | n + 1, h, k, j, hk, hj => by
    have hl := rfl_len F s n (fun k hk => h k (by omega))
    rw [List.range_succ, List.flatMap_append]
    by_cases e : k = n
    · subst e
      rw [List.getElem?_append_right (by omega), hl, Nat.add_sub_cancel_left]
      simp
    · have hk' : k < n := by omega
      have : (k + 1) * s ≤ n * s := Nat.mul_le_mul_right s hk'
      rw [Nat.add_mul, Nat.one_mul] at this
      rw [List.getElem?_append_left (by omega)]
      exact rfl_at F s n (fun k hk => h k (by omega)) k j hk' hj
theorem rfl_push (F : Nat → List Value) (vs : List Value) (n : Nat) : (List.range (n + 1)).flatMap (fun k => if k = n then vs else F k) = (List.range n).flatMap F ++ vs := by
  rw [List.range_succ, List.flatMap_append]
  congr 1
  · have : ∀ l : List Nat, (∀ x ∈ l, x < n) → l.flatMap (fun k => if k = n then vs else F k) = l.flatMap F := by
      intro l
      induction l with
      | nil => intro _; rfl
      | cons x r ih =>
        intro h
        rw [List.flatMap_cons, List.flatMap_cons, ih (fun y hy => h y (by simp [hy]))]
        have := h x (by simp)
        rw [if_neg (by omega)]
    exact this _ (fun x hx => List.mem_range.1 hx)
  · simp
theorem RowS.own {w : World} {g : Nat} {t : TypeId} {s n base : Nat} {F : Nat → List Value} (h : RowS w g t s n F) (hl : ∀ k, k < n → (F k).length = s) (hs : 0 < s) (hb : base ≤ g) (hn : n ≤ maxLen) : w.ownsRow base t s (.slice (some ⟨g, 0, none⟩) n n) n ((List.range n).flatMap F) := by
  obtain ⟨cs, h1, h2, h3⟩ := h
  have hlen := rfl_len F s n hl
  refine ⟨hlen, .inr ⟨g, n, cs, rfl, hb, h1, Nat.le_refl _, hn, h2, ?_⟩⟩
  apply List.ext_getElem?
  intro i
  by_cases hi : i < n * s
  · obtain ⟨k, j, hj, rfl⟩ : ∃ k j, j < s ∧ i = k * s + j := ⟨i / s, i % s, Nat.mod_lt _ hs, by rw [Nat.mul_comm]; exact (Nat.div_add_mod i s).symm⟩
    have hk : k < n := by
      rcases Nat.lt_or_ge k n with h | h
      · exact h
      · have : n * s ≤ k * s := Nat.mul_le_mul_right s h
        omega
    rw [rfl_at F s n hl k j hk hj, List.getElem?_take, if_pos hi, Array.getElem?_toList]
    exact h3 k hk j hj
  · rw [List.getElem?_eq_none (by simp; omega), List.getElem?_eq_none (by omega)]
theorem row_bel {w w' : World} {base s n : Nat} {e : TypeId} {v : Value} {xs : List Value} (h : w.ownsRow base e s v n xs) (hb : Below w.heap.size w w') : w'.ownsRow base e s v n xs :=
  row_same h (fun g hg => hb.block g (World.ownsRow.lt h g hg).2)
theorem row_lift {w : World} {base n : Nat} {t : TypeId} {a : Option Addr} {m c : Nat} {F : Nat → List Value} (h : w.ownsRow base t 9 (.slice a m c) n ((List.range n).flatMap F)) (hl : ∀ k, k < n → (F k).length = 9) : OwnO w base t 9 (.slice a n c) n F ∧ m = n := by
  rcases h.2 with ⟨hv, h0⟩ | ⟨g, cap, cur, hv, hb, hh, hle, _, hs, ht⟩
  · simp only [Value.slice.injEq] at hv
    obtain ⟨rfl, rfl, rfl⟩ := hv
    subst h0
    exact ⟨.inl ⟨rfl, none, 0, rfl⟩, rfl⟩
  · simp only [Value.slice.injEq] at hv
    obtain ⟨rfl, rfl, rfl⟩ := hv
    refine ⟨.inr ⟨g, 0, c, rfl, hb, cur, hh, by rw [hs]; have := Nat.mul_le_mul_right 9 hle; omega, fun k hk j hj => ?_⟩, rfl⟩
    have hlt : k * 9 + j < m * 9 := by omega
    rw [Nat.zero_add, ← rfl_at F 9 m hl k j hk hj, ← ht, List.getElem?_take, if_pos hlt, Array.getElem?_toList]
theorem InE.len9 {w : World} {base n : Nat} {β : Nat → Nat} {F : Nat → List Value} {f : Nat → Ca} (h : InE w base β F (fun k => caE (f k)) n) : ∀ k, k < n → (F k).length = 9 := fun k hk => (h.2.2 k hk).len
theorem Tryz.infoC30 : (Tryz.prog.info? 30).map (fun i => (i.zero, i.size, i.bytes)) = some (some (.agg ca0c), 9, 104) := by kernel_rfl
theorem step_appC {ops : Array Oper} {o : Oper} {a : Act} {w : World} {K : Act → World → Prop} {Q : Exit → Act → World → Prop} {E : Prop} (hgd : o.guard = none) (s x : Operand)
    (ho : o.op = .call { callee := .builtin .append, args := #[s, x], argTypes := #[24, 24] }) (base : Nat) (v : Value) (n : Nat) (xs : List Value) (hs : a.eval s = v) (hown : w.ownsRow base 30 9 v n xs)
    (g c : Nat) (C : Ca) (a1 a2 : Option Addr) (l1 l2 c1 c2 : Nat) (hx : a.eval x = .slice (some ⟨g, 0, none⟩) 1 c) (hb : Blk w g 30 (cac C a1 a2 l1 l2 c1 c2)) (hn : n ≤ 2000000) (hbase : base ≤ w.heap.size)
    (h : ∀ v' w', w'.ownsRow base 30 9 v' (n + 1) (xs ++ calL C a1 a2 l1 l2 c1 c2) → w.grownBy w' v.ownBlock → K (a.put o.dst v') w') :
    if Region.wanted o (yielded ops a.tmps) = true then Oper.wp Tryz.prog o a w K Q else E := by
  obtain ⟨i0, hi, hzz⟩ := Option.map_eq_some_iff.1 Tryz.infoC30
  simp only [Prod.mk.injEq] at hzz
  obtain ⟨hz0, hz1, hz2⟩ := hzz
  refine step_append_own hgd s x 24 ho base 30 i0 _ 9 104 Tryz.underlying24 hi hz0 hz1 hz2 rfl (by decide) v n xs hs hown ⟨g, 0, none⟩ 1 c (calL C a1 a2 l1 l2 c1 c2) hx rfl ?_ (fun u hu => by simp at hu; rcases hu with rfl | rfl | rfl | rfl | rfl | rfl | rfl | rfl | rfl <;> rfl) (by unfold maxLen; omega) (by omega) hbase h
  intro j u hu
  have e1 : (⟨g, 0, none⟩ : Addr).add j = ⟨g, j, none⟩ := by unfold Addr.add; split <;> simp_all
  rw [e1]
  exact hb.cell j (by simpa using hu)
def LnO (w : World) (base n : Nat) (f : Nat → Ca) (L : La) (a : Option Addr) (cp : Nat) (a1 a2 : Option Addr) (l1 l2 c1 c2 : Nat) : Prop :=
  l1 = L.c.ws.length ∧ l2 = L.c.bs.length ∧ ∃ (F : Nat → List Value) (β : Nat → Nat), w.ownsRow base 30 9 (.slice a n cp) n ((List.range n).flatMap F) ∧ InE w base β F (fun k => caE (f k)) n ∧ β n ≤ w.heap.size ∧ OwnI w base (.slice a1 l1 c1) L.c.ws ∧ OwnB w base (.slice a2 l2 c2) L.c.bs ∧
    (∀ k, (Value.slice a1 l1 c1).ownBlock = some k → ∀ j, j < n → ¬ Ob (F j) k) ∧ (∀ k, (Value.slice a2 l2 c2).ownBlock = some k → ∀ j, j < n → ¬ Ob (F j) k)
theorem LnO.p {w : World} {base n cp l1 l2 c1 c2 : Nat} {f : Nat → Ca} {L : La} {a a1 a2 : Option Addr} (h : LnO w base n f L a cp a1 a2 l1 l2 c1 c2) : LnP w base n f L a cp a1 a2 l1 l2 c1 c2 := by
  obtain ⟨h1, h2, F, β, h3, h4, h5, h6⟩ := h
  exact ⟨h1, h2, F, β, (row_lift h3 h4.len9).1, h4, h6⟩
theorem LnO.below {w w' : World} {base n cp l1 l2 c1 c2 : Nat} {f : Nat → Ca} {L : La} {a a1 a2 : Option Addr} (h : LnO w base n f L a cp a1 a2 l1 l2 c1 c2) (hb : Below w.heap.size w w') : LnO w' base n f L a cp a1 a2 l1 l2 c1 c2 := by
  obtain ⟨h1, h2, F, β, h3, h4, h5, h6, h7, h8⟩ := h
  exact ⟨h1, h2, F, β, row_bel h3 hb, h4.below hb, Nat.le_trans h5 hb.size, h6.below hb, h7.below hb, h8⟩
theorem LnO.keptT {w w' : World} {base n cp l1 l2 c1 c2 gx : Nat} {f : Nat → Ca} {L : La} {a a1 a2 : Option Addr} {t' : TypeId} (h : LnO w base n f L a cp a1 a2 l1 l2 c1 c2) (hg : w.grownBy w' (some gx)) (hx : ExB w gx t') (h0 : t' ≠ 30) (k1 : t' ≠ 3) (k2 : t' ≠ 4) : LnO w' base n f L a cp a1 a2 l1 l2 c1 c2 := by
  obtain ⟨h1, h2, F, β, h3, h4, h5, h6, h7, h8⟩ := h
  have hx' := hx
  obtain ⟨cs, hb⟩ := hx'
  exact ⟨h1, h2, F, β, World.ownsRow.kept h3 hg (.inr (row_noBlk h3 hb h0)), h4.keptT hg hx k1 k2, Nat.le_trans h5 hg.size, h6.kept hg (.inr (row_noBlk h6 hb k1)), h7.kept hg (.inr (row_noBlk h7 hb k2)), h8⟩
theorem Ob_cal {C : Ca} {x1 x2 : Option Addr} {m1 m2 d1 d2 k : Nat} (h : Ob (calL C x1 x2 m1 m2 d1 d2) k) : (Value.slice x1 m1 d1).ownBlock = some k ∨ (Value.slice x2 m2 d2).ownBlock = some k := by
  obtain ⟨v, hv, hk⟩ := h
  simp at hv
  rcases hv with rfl | rfl | rfl | rfl | rfl | rfl | rfl | rfl | rfl <;> first | (exact .inl hk) | (exact .inr hk) | cases hk
theorem LnO.row {w : World} {base n cp l1 l2 c1 c2 : Nat} {f : Nat → Ca} {L : La} {a a1 a2 : Option Addr} (h : LnO w base n f L a cp a1 a2 l1 l2 c1 c2) : ∃ xs, w.ownsRow base 30 9 (.slice a n cp) n xs ∧
    ∀ (u w7 : World) (a' : Option Addr) (cp' : Nat) (C : Ca) (x1 x2 : Option Addr) (m1 m2 d1 d2 : Nat) (cs : Array Value) (f' : Nat → Ca), Below w.heap.size w u → m1 = C.ws.length → m2 = C.bs.length → OwnI u w.heap.size (.slice x1 m1 d1) C.ws → OwnB u w.heap.size (.slice x2 m2 d2) C.bs → (u.alloc (.cells cs 30)).grownBy w7 (Value.slice a n cp).ownBlock →
      (∀ k, k < n → f' k = f k) → f' n = C → w7.ownsRow base 30 9 (.slice a' (n + 1) cp') (n + 1) (xs ++ calL C x1 x2 m1 m2 d1 d2) → LnO w7 base (n + 1) f' L a' cp' a1 a2 l1 l2 c1 c2 := by
  obtain ⟨h1, h2, F, β, h3, h4, h5, h6, h7, h8, h9⟩ := h
  refine ⟨_, h3, ?_⟩
  intro u w7 a' cp' C x1 x2 m1 m2 d1 d2 cs f' hb e1 e2 o1 o2 hg hf hfn hrow
  have hp := (h4.below hb).push (lo := w.heap.size) (vs := calL C x1 x2 m1 m2 d1 d2) (E := caE C) h5 hb.size ⟨x1, x2, d1, d2, cal_els _ _ _ _ _ _ _ e1 e2, by show OwnI _ _ (.slice _ C.ws.length _) C.ws; rw [← e1]; exact o1, by show OwnB _ _ (.slice _ C.bs.length _) C.bs; rw [← e2]; exact o2, fun x hx => by have hx' : (Value.slice x1 C.ws.length d1).ownBlock = some x := hx; rw [← e1] at hx'; exact (World.ownsRow.lt o1 x hx').2, fun x hx => by have hx' : (Value.slice x2 C.bs.length d2).ownBlock = some x := hx; rw [← e2] at hx'; exact (World.ownsRow.lt o2 x hx').2⟩
  have hp2 := (hp.congr (fun _ _ => rfl) (H := fun k => caE (f' k)) (fun i hi => by by_cases e : i = n; (subst e; simp [hfn]); (simp only [if_neg e]; rw [hf i (by omega)]))).below (bel_alloc u (.cells cs 30))
  have hrow1 := row_bel (row_bel h3 hb) (bel_alloc u (.cells cs 30))
  have q6 := (h6.below hb).below (bel_alloc u (.cells cs 30))
  have q7 := (h7.below hb).below (bel_alloc u (.cells cs 30))
  have hp3 : InE w7 base (fun k => if k ≤ n then β k else u.heap.size) (fun k => if k = n then calL C x1 x2 m1 m2 d1 d2 else F k) (fun k => caE (f' k)) (n + 1) := by
    cases hv : (Value.slice a n cp).ownBlock with
    | none => rw [hv] at hg; exact hp2.below (grown_no hg)
    | some gx =>
      rw [hv] at hg
      exact hp2.keptT hg (row_ex hrow1 hv) (by decide) (by decide)
  have hnew : ∀ k, k < w.heap.size → ¬ Ob (calL C x1 x2 m1 m2 d1 d2) k := fun k hk ho => by
    rcases Ob_cal ho with q | q
    · have := (World.ownsRow.lt o1 k q).1; omega
    · have := (World.ownsRow.lt o2 k q).1; omega
  refine ⟨h1, h2, _, _, ?_, hp3, ?_, q6.kept hg (ne_typesE q6 hrow1 (by decide)), q7.kept hg (ne_typesE q7 hrow1 (by decide)), fun k hk j hj => ?_, fun k hk j hj => ?_⟩
  · rw [rfl_push]; exact hrow
  · simp only [if_neg (show ¬ n + 1 ≤ n by omega)]
    have := hg.size
    simp at this
    omega
  · by_cases e : j = n
    · simp only [if_pos e]; exact hnew k (World.ownsRow.lt h6 k hk).2
    · simp only [if_neg e]; exact h8 k hk j (by omega)
  · by_cases e : j = n
    · simp only [if_pos e]; exact hnew k (World.ownsRow.lt h7 k hk).2
    · simp only [if_neg e]; exact h9 k hk j (by omega)
def LnQ (w w' : World) (e : Ending) (n : Nat) (f : Nat → Ca) (L : La) (l1 l2 : Nat) : Prop :=
  ∃ a cp a1 a2 c1 c2, e = .returned (.agg (lac L a n cp a1 a2 l1 l2 c1 c2)) ∧ LnO w' w.heap.size n f L a cp a1 a2 l1 l2 c1 c2 ∧ Below w.heap.size w w'
theorem row_form {w : World} {base s n : Nat} {e : TypeId} {v : Value} {xs : List Value} (h : w.ownsRow base e s v n xs) : ∃ a c, v = .slice a n c := by
  rcases h.2 with ⟨rfl, rfl⟩ | ⟨g, cap, cur, rfl, _⟩
  · exact ⟨none, 0, rfl⟩
  · exact ⟨_, cap, rfl⟩
end Go.Proofs.YtmhdneenjoelfaaGreat
namespace Go.Proofs.YtmhdneenjoelfaaGreat
open Go.RowKit
theorem getD_eq {l : Array Bool} {i : Nat} (h : i < l.size) (x y : Bool) : l.getD i x = l.getD i y := by
  simp [Array.getD, h]
theorem count_set (l : List Bool) (i : Nat) (h : l[i]? = some false) : (l.set i true).count false + 1 = l.count false := by
  induction l generalizing i with
  | nil => simp at h
  | cons x r ih =>
    cases i with
    | zero => simp at h; subst h; simp
    | succ i => simp at h; have := ih i h; cases x <;> simp <;> omega
theorem ready_mem {md : Region.Mode} {ops : Array Oper} {l : Array Bool} {i : Nat} (h : i ∈ Region.ready md ops l) :
    i < ops.size ∧ l.getD i true = false ∧ ∀ o, ops[i]? = some o → ∀ e ∈ o.after, Region.binds md e = true → l.getD e.on false = true := by
  unfold Region.ready at h
  rw [List.mem_filter] at h
  obtain ⟨h1, h2⟩ := h
  simp only [Bool.and_eq_true, Bool.not_eq_true'] at h2
  refine ⟨List.mem_range.1 h1, h2.1, fun o ho e he hb => ?_⟩
  have h3 := h2.2
  rw [ho] at h3
  simp only [Option.map_some, Option.getD_some, Array.all_eq_true_iff_forall_mem] at h3
  have h4 := h3 e he
  simpa [hb] using h4
theorem ready_of {md : Region.Mode} {ops : Array Oper} {l : Array Bool} {i : Nat} {o : Oper} (hi : i < ops.size) (ho : ops[i]? = some o) (hl : l.getD i true = false) (hd : ∀ e ∈ o.after, Region.binds md e = true → l.getD e.on false = true) : i ∈ Region.ready md ops l := by
  unfold Region.ready
  rw [List.mem_filter]
  refine ⟨List.mem_range.2 hi, ?_⟩
  simp only [Bool.and_eq_true, Bool.not_eq_true']
  refine ⟨hl, ?_⟩
  rw [ho]
  simp only [Option.map_some, Option.getD_some, Array.all_eq_true_iff_forall_mem]
  intro e he
  cases hb : Region.binds md e
  · rfl
  · simpa using hd e he hb
def ordB (md : Region.Mode) (ops : Array Oper) : Bool := (List.range ops.size).all fun i => ((ops[i]?).map (·.after.all fun e => !Region.binds md e || decide (e.on < i))).getD true
theorem ordB_of {md : Region.Mode} {ops : Array Oper} (h : ordB md ops = true) : ∀ i o, ops[i]? = some o → ∀ e ∈ o.after, Region.binds md e = true → e.on < i := by
  intro i o ho e he hb
  unfold ordB at h
  rw [List.all_eq_true] at h
  have hi : i < ops.size := (Array.getElem?_eq_some_iff.1 ho).1
  have h1 := h i (List.mem_range.2 hi)
  rw [ho] at h1
  simp only [Option.map_some, Option.getD_some, Array.all_eq_true_iff_forall_mem] at h1
  have h2 := h1 e he
  simpa [hb] using h2
theorem wpAny_inv {P : Program} {ops : Array Oper} {Q : Exit → Act → World → Prop} {md : Region.Mode} (Inv : Array Bool → Act → World → Prop)
    (hordB : ordB md ops = true)
    (hend : ∀ l a w, Inv l a w → (∀ i, i < ops.size → l.getD i true = true) → Q .normal a w)
    (hstep : ∀ l a w i o, Inv l a w → ops[i]? = some o → l.getD i true = false → (∀ e ∈ o.after, Region.binds md e = true → l.getD e.on false = true) →
      ∀ K : Act → World → Prop, (∀ a w, Inv (l.setIfInBounds i true) a w → K a w) → if Region.wanted o (yielded ops a.tmps) = true then Oper.wp P o a w K Q else K (a.put o.dst undef) w) :
    ∀ (fuel : Nat) (l : Array Bool) (a : Act) (w : World), l.size = ops.size → l.toList.count false ≤ fuel → Inv l a w → wpAny P md ops Q fuel l a w := by
  have hord := ordB_of hordB
  have hall : ∀ l : Array Bool, l.size = ops.size → Region.ready md ops l = [] → ∀ i, i < ops.size → l.getD i true = true := by
    intro l hs hr i
    induction i using Nat.strongRecOn with
    | ind i ih =>
      intro hi
      cases hl : l.getD i true
      · obtain ⟨o, ho⟩ : ∃ o, ops[i]? = some o := ⟨ops[i], by simp [hi]⟩
        have : i ∈ Region.ready md ops l := ready_of hi ho hl (fun e he hb => by
          have h1 := hord i o ho e he hb
          rw [getD_eq (by omega) false true]
          exact ih e.on h1 (by omega))
        rw [hr] at this
        simp at this
      · rfl
  intro fuel
  induction fuel with
  | zero =>
    intro l a w hs hc hI
    have hr : Region.ready md ops l = [] := by
      apply List.eq_nil_iff_forall_not_mem.2
      intro i hi
      obtain ⟨h1, h2, _⟩ := ready_mem hi
      have h3 : l.toList[i]? = some false := by
        have h4 : i < l.size := by omega
        rw [Array.getElem?_toList]
        simp [Array.getD, h4] at h2
        simp [h4, h2]
      have := count_set l.toList i h3
      omega
    exact ⟨hr, hend l a w hI (hall l hs hr)⟩
  | succ fuel ih =>
    intro l a w hs hc hI
    refine ⟨fun hr => hend l a w hI (hall l hs hr), fun i hi => ?_⟩
    obtain ⟨h1, h2, h3⟩ := ready_mem hi
    obtain ⟨o, ho⟩ : ∃ o, ops[i]? = some o := ⟨ops[i], by simp [h1]⟩
    refine wpOp_step ho (fun K' hK' => hstep l a w i o hI ho h2 (h3 o ho) K' (fun a' w' hI' => hK' a' w' (ih _ a' w' (by simpa using hs) ?_ hI')))
    have h4 : l.toList[i]? = some false := by
      have h5 : i < l.size := by omega
      rw [Array.getElem?_toList]
      simp [Array.getD, h5] at h2
      simp [h5, h2]
    have := count_set l.toList i h4
    rw [Array.toList_setIfInBounds]
    omega
end Go.Proofs.YtmhdneenjoelfaaGreat
namespace Go.Proofs.YtmhdneenjoelfaaGreat
open Go.RowKit
def dstOf (ops : Array Oper) (i : Nat) : Option Tmp := (ops[i]?).bind (·.dst)
def dstB (ops : Array Oper) (n : Nat) : Bool :=
  (List.range ops.size).all fun i => match dstOf ops i with
    | some d => decide (d < n) && (List.range ops.size).all fun j => decide (j = i) || decide (dstOf ops j ≠ some d)
    | none => false
def isDst (ops : Array Oper) (s : Nat) : Bool := (List.range ops.size).any fun i => decide (dstOf ops i = some s)
def putsL (a : Act) : Nat → List Oper → (Nat → Value) → Act
  | _, [], _ => a
  | i, o :: os, vs => putsL (a.put o.dst (vs i)) (i + 1) os vs
def wantV (ops : Array Oper) (o : Oper) (ρ : Operand → Value) : Bool :=
  match o.guard with
  | none => true
  | some (j, want) => match dstOf ops j with
    | some d => (match ρ (.tmp d) with | .bool b => b == want | _ => false)
    | none => false
def StpV (P : Program) (ops : Array Oper) (Φ : Nat → Value → World → Prop) (R : World → Prop) (i : Nat) (o : Oper) (ρ : Operand → Value) (u : World) : Prop :=
  (wantV ops o ρ = true ∧ ((∃ v u', (execOp ρ o).run P u = .ok (.value v) u' ∧ Φ i v u' ∧ R u' ∧ Below u.heap.size u u') ∨ (∃ f args, (execOp ρ o).run P u = .ok (.enter f args) u ∧ Calls P f args u fun e u' => ∃ v, e = .returned v ∧ Φ i v u' ∧ R u' ∧ Below u.heap.size u u')))
  ∨ (wantV ops o ρ = false ∧ Φ i undef u)
structure InvV (ops : Array Oper) (Φ : Nat → Value → World → Prop) (R : World → Prop) (a0 : Act) (l : Array Bool) (a : Act) (u : World) : Prop where
  r : R u
  ls : l.size = ops.size
  df : a.defers = a0.defers
  sz : a.tmps.size = a0.tmps.size
  old : ∀ s, (∀ i d, dstOf ops i = some d → l.getD i false = true → d ≠ s) → a.tmps.getD s undef = a0.tmps.getD s undef
  val : ∀ i d, dstOf ops i = some d → l.getD i false = true → Φ i (a.tmps.getD d undef) u
theorem dstB_of {ops : Array Oper} {n : Nat} (h : dstB ops n = true) {i : Nat} (hi : i < ops.size) : ∃ d, dstOf ops i = some d ∧ d < n ∧ ∀ j, j < ops.size → dstOf ops j = some d → j = i := by
  unfold dstB at h
  rw [List.all_eq_true] at h
  have h1 := h i (List.mem_range.2 hi)
  cases hd : dstOf ops i with
  | none => rw [hd] at h1; cases h1
  | some d =>
    rw [hd] at h1
    simp only [Bool.and_eq_true, decide_eq_true_eq, List.all_eq_true, Bool.or_eq_true] at h1
    refine ⟨d, rfl, h1.1, fun j hj e => ?_⟩
    rcases h1.2 j (List.mem_range.2 hj) with h2 | h2
    · exact h2
    · exact absurd e h2
theorem getD_set {l : Array Bool} {i j : Nat} (hi : i < l.size) : (l.setIfInBounds i true).getD j false = if j = i then true else l.getD j false := by
  simp only [Array.getD_eq_getD_getElem?, Array.getElem?_setIfInBounds]
  by_cases e : j = i
  · subst e; simp [hi]
  · rw [if_neg (Ne.symm e), if_neg e]
theorem getD_put {a : Act} {d s : Nat} {v : Value} (hd : d < a.tmps.size) : (a.put (some d) v).tmps.getD s undef = if s = d then v else a.tmps.getD s undef := by
  show (a.tmps.setIfInBounds d v).getD s undef = _
  simp only [Array.getD_eq_getD_getElem?, Array.getElem?_setIfInBounds]
  by_cases e : s = d
  · subst e; simp [hd]
  · rw [if_neg (Ne.symm e), if_neg e]
theorem InvV.next {ops : Array Oper} {Φ : Nat → Value → World → Prop} {R : World → Prop} {a0 : Act} {l : Array Bool} {a : Act} {u u' : World} (h : InvV ops Φ R a0 l a u) (hB : dstB ops a0.tmps.size = true)
    (hmono : ∀ i v u u', Φ i v u → Below u.heap.size u u' → Φ i v u') {i : Nat} {o : Oper} (ho : ops[i]? = some o) {v : Value} (hv : Φ i v u') (hr : R u') (hb : Below u.heap.size u u') :
    InvV ops Φ R a0 (l.setIfInBounds i true) (a.put o.dst v) u' := by
  have hi : i < ops.size := (Array.getElem?_eq_some_iff.1 ho).1
  obtain ⟨d, hd, hlt, hun⟩ := dstB_of hB hi
  have hod : o.dst = some d := by simpa [dstOf, ho] using hd
  rw [hod]
  have hlt' : d < a.tmps.size := by rw [h.sz]; exact hlt
  have hil : i < l.size := by rw [h.ls]; exact hi
  refine ⟨hr, by simpa using h.ls, h.df, by simpa [Act.put] using h.sz, fun s hs => ?_, fun j e hj hl => ?_⟩
  · have hne : d ≠ s := hs i d hd (by rw [getD_set hil, if_pos rfl])
    rw [getD_put hlt', if_neg (Ne.symm hne)]
    exact h.old s (fun j e hj hl => hs j e hj (by rw [getD_set hil]; split; rfl; exact hl))
  · have hjs : j < ops.size := by
      cases hoj : ops[j]? with
      | none => rw [dstOf, hoj] at hj; cases hj
      | some o' => exact (Array.getElem?_eq_some_iff.1 hoj).1
    rw [getD_put hlt']
    by_cases e1 : e = d
    · subst e1
      obtain rfl := hun j hjs hj
      rw [if_pos rfl]
      exact hv
    · rw [if_neg e1]
      have e2 : j ≠ i := fun e2 => by subst e2; rw [hd] at hj; exact e1 (Option.some.inj hj).symm
      rw [getD_set hil, if_neg e2] at hl
      exact hmono _ _ _ _ (h.val j e hj hl) hb
theorem putsL_eq {a : Act} : ∀ (os : List Oper) (k : Nat) (a' : Act) (vs : Nat → Value), a'.defers = a.defers → a'.tmps.size = a.tmps.size → (∀ (j : Nat) (o : Oper) (d : Nat), os[j]? = some o → o.dst = some d → vs (k + j) = a.tmps.getD d undef) →
    (∀ s, a'.tmps.getD s undef = a.tmps.getD s undef ∨ ∃ (j : Nat) (o : Oper), os[j]? = some o ∧ o.dst = some s) → (∀ (j : Nat) (o : Oper), os[j]? = some o → ∃ d, o.dst = some d ∧ d < a.tmps.size) → putsL a' k os vs = a
  | [], k, a', vs, h1, h2, _, h4, _ => by
    have e : a'.tmps = a.tmps := by
      apply Array.ext h2
      intro i hi1 hi2
      rcases h4 i with h | ⟨j, o, h, _⟩
      · simpa [Array.getD, hi1, hi2] using h
      · simp at h
    cases a'; cases a
    simp only at e h1
    subst e h1
    rfl
  | o :: os, k, a', vs, h1, h2, h3, h4, h5 => by
    obtain ⟨d, hd, hlt⟩ := h5 0 o rfl
    show putsL (a'.put o.dst (vs k)) (k + 1) os vs = a
    rw [hd]
    refine putsL_eq os (k + 1) _ vs h1 (by simpa [Act.put] using h2) (fun j o' d' ho hd' => by rw [show k + 1 + j = k + (j + 1) by omega]; exact h3 (j + 1) o' d' (by simpa using ho) hd') (fun s => ?_) (fun j o' ho => h5 (j + 1) o' (by simpa using ho))
    rw [getD_put (by rw [h2]; exact hlt)]
    by_cases e : s = d
    · subst e
      rw [if_pos rfl]
      exact .inl (by simpa using h3 0 o s rfl hd)
    · rw [if_neg e]
      rcases h4 s with h | ⟨j, o', ho, hd'⟩
      · exact .inl h
      · cases j with
        | zero => simp at ho; subst ho; rw [hd] at hd'; exact absurd (Option.some.inj hd').symm e
        | succ j => exact .inr ⟨j, o', by simpa using ho, hd'⟩
theorem wanted_eq {ops : Array Oper} {a : Act} {o : Oper} (h : ∀ j d, dstOf ops j = some d → d < a.tmps.size) : Region.wanted o (yielded ops a.tmps) = wantV ops o a.eval := by
  unfold Region.wanted wantV
  cases o.guard with
  | none => rfl
  | some p =>
    obtain ⟨j, want⟩ := p
    have hy : yielded ops a.tmps j = match dstOf ops j with
        | some d => (match a.eval (.tmp d) with | .bool b => some b | _ => none)
        | none => none := by
      unfold yielded dstOf
      cases hd : (ops[j]?).bind (·.dst) with
      | none => rfl
      | some d =>
        have hlt := h j d hd
        have e : (some d).bind (fun t => a.tmps[t]?) = some (a.eval (.tmp d)) := by
          show a.tmps[d]? = some (a.tmps.getD d undef)
          simp [Array.getD, hlt]
        rw [e]
        simp only
        generalize a.eval (.tmp d) = x
        cases x <;> rfl
    show (yielded ops a.tmps j == some want) = (match dstOf ops j with
      | some d => (match a.eval (.tmp d) with | .bool b => b == want | _ => false)
      | none => false)
    rw [hy]
    cases dstOf ops j with
    | none => rfl
    | some d =>
      simp only
      generalize a.eval (.tmp d) = x
      cases x <;> simp
theorem wpAny_vals {P : Program} {ops : Array Oper} {Q : Exit → Act → World → Prop} {md : Region.Mode} {a0 : Act} {w0 : World} (R : World → Prop) (Φ : Nat → Value → World → Prop)
    (hordB : ordB md ops = true) (hB : dstB ops a0.tmps.size = true) (hmono : ∀ i v u u', Φ i v u → Below u.heap.size u u' → Φ i v u') (h0 : R w0)
    (hend : ∀ (vs : Nat → Value) u, R u → (∀ i, i < ops.size → Φ i (vs i) u) → Q .normal (putsL a0 0 ops.toList vs) u)
    (hstep : ∀ u i o (ρ : Operand → Value), R u → ops[i]? = some o → (∀ s, isDst ops s = false → ρ (.tmp s) = a0.eval (.tmp s)) → (∀ v, ρ (.const v) = v) → (∀ f, ρ (.func f) = .func (.func f) #[] #[]) →
      (∀ e ∈ o.after, Region.binds md e = true → ∀ d, dstOf ops e.on = some d → Φ e.on (ρ (.tmp d)) u) → StpV P ops Φ R i o ρ u)
    (fuel : Nat) (l : Array Bool) (hs : l.size = ops.size) (hc : l.toList.count false ≤ fuel) (hl : ∀ i, l.getD i false = false) : wpAny P md ops Q fuel l a0 w0 := by
  refine wpAny_inv (InvV ops Φ R a0) hordB ?_ ?_ fuel l a0 w0 hs hc ?_
  · intro l a u h hall
    have hall' : ∀ i, i < ops.size → l.getD i false = true := fun i hi => by rw [getD_eq (by rw [h.ls]; exact hi) false true]; exact hall i hi
    have e : putsL a0 0 ops.toList (fun i => a.tmps.getD ((dstOf ops i).getD 0) undef) = a := by
      refine putsL_eq ops.toList 0 a0 _ h.df.symm h.sz.symm (fun j o d ho hd => ?_) (fun s => ?_) (fun j o ho => ?_)
      · rw [Nat.zero_add]
        have : dstOf ops j = some d := by rw [Array.getElem?_toList] at ho; simp [dstOf, ho, hd]
        show a.tmps.getD ((dstOf ops j).getD 0) undef = _
        rw [this]; rfl
      · by_cases hx : ∃ j d, dstOf ops j = some d ∧ l.getD j false = true ∧ d = s
        · obtain ⟨j, d, hd, _, rfl⟩ := hx
          right
          unfold dstOf at hd
          cases ho : ops[j]? with
          | none => rw [ho] at hd; cases hd
          | some o => rw [ho] at hd; exact ⟨j, o, by rw [Array.getElem?_toList]; exact ho, hd⟩
        · left
          exact (h.old s (fun i d hd hl e => hx ⟨i, d, hd, hl, e⟩)).symm
      · rw [Array.getElem?_toList] at ho
        have hi : j < ops.size := (Array.getElem?_eq_some_iff.1 ho).1
        obtain ⟨d, hd, hlt, _⟩ := dstB_of hB hi
        exact ⟨d, by simpa [dstOf, ho] using hd, by rw [h.sz]; exact hlt⟩
    rw [← e]
    refine hend _ u h.r (fun i hi => ?_)
    obtain ⟨d, hd, _, _⟩ := dstB_of hB hi
    show Φ i (a.tmps.getD ((dstOf ops i).getD 0) undef) u
    rw [hd]
    exact h.val i d hd (hall' i hi)
  · intro l a u i o h ho hli hdep K hK
    have hi : i < ops.size := (Array.getElem?_eq_some_iff.1 ho).1
    have hin : ∀ j d, dstOf ops j = some d → j < ops.size := fun j d hj => by
      unfold dstOf at hj
      cases hoj : ops[j]? with
      | none => rw [hoj] at hj; cases hj
      | some o' => exact (Array.getElem?_eq_some_iff.1 hoj).1
    have hw : Region.wanted o (yielded ops a.tmps) = wantV ops o a.eval := wanted_eq (fun j d hj => by
      obtain ⟨d', hd', hlt, _⟩ := dstB_of hB (hin j d hj)
      rw [hj] at hd'
      rw [h.sz, Option.some.inj hd']; exact hlt)
    have hst := hstep u i o a.eval h.r ho (fun s hns => by
      refine h.old s (fun j d hj _ e => ?_)
      subst e
      have : isDst ops d = true := by
        unfold isDst
        rw [List.any_eq_true]
        exact ⟨j, List.mem_range.2 (hin j d hj), by simp [hj]⟩
      rw [this] at hns; cases hns) (fun _ => rfl) (fun _ => rfl) (fun e he hb d hd => h.val e.on d hd (hdep e he hb))
    rcases hst with ⟨hwt, ⟨v, u', hrun, hv, hr, hbl⟩ | ⟨f, args, hrun, hcall⟩⟩ | ⟨hwf, hv⟩
    · rw [if_pos (by rw [hw]; exact hwt)]
      unfold Oper.wp
      rw [hrun]
      exact hK _ _ (h.next hB hmono ho hv hr hbl)
    · rw [if_pos (by rw [hw]; exact hwt)]
      unfold Oper.wp
      rw [hrun, Oper.upon_enter]
      refine hcall.mono ?_
      rintro e u' ⟨v, rfl, hv, hr, hbl⟩
      exact hK _ _ (h.next hB hmono ho hv hr hbl)
    · rw [if_neg (by rw [hw, hwf]; decide)]
      exact hK _ _ (h.next hB hmono ho hv h.r (Below.refl _ _))
  · exact ⟨h0, hs, rfl, rfl, fun _ _ => rfl, fun i d _ hl' => by rw [hl i] at hl'; cases hl'⟩
end Go.Proofs.YtmhdneenjoelfaaGreat
namespace Go.Proofs.YtmhdneenjoelfaaGreat
open Go.RowKit
theorem run_load_op {P : Program} {ρ : Operand → Value} {o : Oper} {u : World} {t : TypeId} {p : Operand} {ptr v : Value} (ho : o.op = .load t p) (hp : ρ p = ptr) (hr : (Instr.loadAt t ptr).run P u = .ok v u) : (execOp ρ o).run P u = .ok (.value v) u := by
  unfold execOp
  simp only [ho, hp]
  rw [Sem.run_bind, hr]
  rfl
theorem run_call_op {P : Program} {ρ : Operand → Value} {o : Oper} {u : World} {f : FuncId} {xs : Array Operand} {ts : Array TypeId} {args : Array Value} (ho : o.op = .call ⟨.value (.func f), xs, ts⟩) (hf : ρ (.func f) = .func (.func f) #[] #[]) (hx : xs.map ρ = args)
    (hc : (callFunc f args).run P u = .ok (.enter f args) u) : (execOp ρ o).run P u = .ok (.enter f args) u := by
  unfold execOp
  simp only [ho, resolve, hf, hx]
  show (callFunc f ((#[] ++ args) ++ #[])).run P u = _
  simpa using hc
theorem run_pick_op {P : Program} {ρ : Operand → Value} {o : Oper} {u : World} {c x y : Operand} {b : Bool} (ho : o.op = .pick c x y) (hc : ρ c = .bool b) : (execOp ρ o).run P u = .ok (.value (if b = true then ρ x else ρ y)) u := by
  unfold execOp
  simp only [ho, hc]
  rfl
theorem run_bin_op {P : Program} {ρ : Operand → Value} {o : Oper} {u : World} {op : BinOp} {t t' : TypeId} {x y : Operand} {a b v : Value} (ho : o.op = .binOp op t x y t') (ha : ρ x = a) (hb : ρ y = b) (hr : (do eqGuard op t x y a b; binOp op t a b : Sem Value).run P u = .ok v u) : (execOp ρ o).run P u = .ok (.value v) u := by
  unfold execOp
  simp only [ho, ha, hb]
  rw [Sem.run_bind, hr]
  rfl
end Go.Proofs.YtmhdneenjoelfaaGreat
namespace Go.Proofs.YtmhdneenjoelfaaGreat
open Go.RowKit
def dstC (ops : Array Oper) (n : Nat) : Bool :=
  (List.range ops.size).all fun i => match dstOf ops i with
    | some d => decide (d < n) && (List.range ops.size).all fun j => decide (j = i) || decide (dstOf ops j ≠ some d)
    | none => true
def updB (l : Nat → Bool) (i : Nat) : Nat → Bool := fun j => if j = i then true else l j
def StpW (P : Program) (ops : Array Oper) (Φ : Nat → Value → World → Prop) (R : World → Prop) (M : World → World → Prop) (i : Nat) (o : Oper) (ρ : Operand → Value) (u : World) : Prop :=
  (wantV ops o ρ = true ∧ ((∃ v u', (execOp ρ o).run P u = .ok (.value v) u' ∧ Φ i v u' ∧ R u' ∧ M u u') ∨ (∃ f args, (execOp ρ o).run P u = .ok (.enter f args) u ∧ Calls P f args u fun e u' => ∃ v, e = .returned v ∧ Φ i v u' ∧ R u' ∧ M u u') ∨ (o.dst = none ∧ ∃ u', (execOp ρ o).run P u = .ok .skip u' ∧ R u' ∧ M u u')))
  ∨ (wantV ops o ρ = false ∧ Φ i undef u ∧ R u)
structure InvW (md : Region.Mode) (ops : Array Oper) (Φ : Nat → Value → World → Prop) (R : (Nat → Bool) → World → Prop) (a0 : Act) (l : Array Bool) (a : Act) (u : World) : Prop where
  r : R (fun i => l.getD i false) u
  ls : l.size = ops.size
  df : a.defers = a0.defers
  sz : a.tmps.size = a0.tmps.size
  old : ∀ s, (∀ i d, dstOf ops i = some d → l.getD i false = true → d ≠ s) → a.tmps.getD s undef = a0.tmps.getD s undef
  val : ∀ i d, dstOf ops i = some d → l.getD i false = true → Φ i (a.tmps.getD d undef) u
  cl : ∀ i o, ops[i]? = some o → l.getD i false = true → ∀ e ∈ o.after, Region.binds md e = true → l.getD e.on false = true
theorem dstC_of {ops : Array Oper} {n : Nat} (h : dstC ops n = true) {i : Nat} (hi : i < ops.size) {d : Nat} (hd : dstOf ops i = some d) : d < n ∧ ∀ j, j < ops.size → dstOf ops j = some d → j = i := by
  unfold dstC at h
  rw [List.all_eq_true] at h
  have h1 := h i (List.mem_range.2 hi)
  rw [hd] at h1
  simp only [Bool.and_eq_true, decide_eq_true_eq, List.all_eq_true, Bool.or_eq_true] at h1
  refine ⟨h1.1, fun j hj e => ?_⟩
  rcases h1.2 j (List.mem_range.2 hj) with h2 | h2
  · exact h2
  · exact absurd e h2
theorem dstOf_lt {ops : Array Oper} {j d : Nat} (hj : dstOf ops j = some d) : j < ops.size := by
  unfold dstOf at hj
  cases hoj : ops[j]? with
  | none => rw [hoj] at hj; cases hj
  | some o' => exact (Array.getElem?_eq_some_iff.1 hoj).1
theorem getD_upd {l : Array Bool} {i : Nat} (hi : i < l.size) : (fun j => (l.setIfInBounds i true).getD j false) = updB (fun j => l.getD j false) i := by
  funext j
  exact getD_set hi
theorem putsL_eqW {a : Act} : ∀ (os : List Oper) (k : Nat) (a' : Act) (vs : Nat → Value), a'.defers = a.defers → a'.tmps.size = a.tmps.size → (∀ (j : Nat) (o : Oper) (d : Nat), os[j]? = some o → o.dst = some d → vs (k + j) = a.tmps.getD d undef) →
    (∀ s, a'.tmps.getD s undef = a.tmps.getD s undef ∨ ∃ (j : Nat) (o : Oper), os[j]? = some o ∧ o.dst = some s) → (∀ (j : Nat) (o : Oper) (d : Nat), os[j]? = some o → o.dst = some d → d < a.tmps.size) → putsL a' k os vs = a
  | [], k, a', vs, h1, h2, _, h4, _ => by
    have e : a'.tmps = a.tmps := by
      apply Array.ext h2
      intro i hi1 hi2
      rcases h4 i with h | ⟨j, o, h, _⟩
      · simpa [Array.getD, hi1, hi2] using h
      · simp at h
    cases a'; cases a
    simp only at e h1
    subst e h1
    rfl
  | o :: os, k, a', vs, h1, h2, h3, h4, h5 => by
    show putsL (a'.put o.dst (vs k)) (k + 1) os vs = a
    have h3' : ∀ (j : Nat) (o : Oper) (d : Nat), os[j]? = some o → o.dst = some d → vs (k + 1 + j) = a.tmps.getD d undef := fun j o' d' ho hd' => by rw [show k + 1 + j = k + (j + 1) by omega]; exact h3 (j + 1) o' d' (by simpa using ho) hd'
    have h5' : ∀ (j : Nat) (o : Oper) (d : Nat), os[j]? = some o → o.dst = some d → d < a.tmps.size := fun j o' d' ho hd' => h5 (j + 1) o' d' (by simpa using ho) hd'
    cases hd : o.dst with
    | none =>
      refine putsL_eqW os (k + 1) _ vs h1 h2 h3' (fun s => ?_) h5'
      rcases h4 s with h | ⟨j, o', ho, hd'⟩
      · exact .inl h
      · cases j with
        | zero => simp at ho; subst ho; rw [hd] at hd'; cases hd'
        | succ j => exact .inr ⟨j, o', by simpa using ho, hd'⟩
    | some d =>
      have hlt := h5 0 o d rfl hd
      refine putsL_eqW os (k + 1) _ vs h1 (by simpa [Act.put] using h2) h3' (fun s => ?_) h5'
      rw [getD_put (by rw [h2]; exact hlt)]
      by_cases e : s = d
      · subst e
        rw [if_pos rfl]
        exact .inl (by simpa using h3 0 o s rfl hd)
      · rw [if_neg e]
        rcases h4 s with h | ⟨j, o', ho, hd'⟩
        · exact .inl h
        · cases j with
          | zero => simp at ho; subst ho; rw [hd] at hd'; exact absurd (Option.some.inj hd').symm e
          | succ j => exact .inr ⟨j, o', by simpa using ho, hd'⟩
theorem run_index_op {P : Program} {ρ : Operand → Value} {o : Oper} {u : World} {t : TypeId} {x y : Operand} {a b v : Value} (ho : o.op = .indexAddr t x y) (ha : ρ x = a) (hb : ρ y = b) (hr : (Instr.indexAt t a b).run P u = .ok v u) : (execOp ρ o).run P u = .ok (.value v) u := by
  unfold execOp
  simp only [ho, ha, hb]
  rw [Sem.run_bind, hr]
  rfl
theorem run_store_op {P : Program} {ρ : Operand → Value} {o : Oper} {u u' : World} {t : TypeId} {x y : Operand} {a b : Value} (ho : o.op = .store t x y) (ha : ρ x = a) (hb : ρ y = b) (hr : (Instr.storeAt t a b).run P u = .ok () u') : (execOp ρ o).run P u = .ok .skip u' := by
  unfold execOp
  simp only [ho, ha, hb]
  rw [Sem.run_bind, hr]
  rfl
theorem run_field_op {P : Program} {ρ : Operand → Value} {o : Oper} {u : World} {s : TypeId} {x : Operand} {f : Nat} {a v : Value} (ho : o.op = .fieldAddr s x f) (ha : ρ x = a) (hr : (Instr.fieldAt s a f).run P u = .ok v u) : (execOp ρ o).run P u = .ok (.value v) u := by
  unfold execOp
  simp only [ho, ha]
  rw [Sem.run_bind, hr]
  rfl
theorem run_un_op {P : Program} {ρ : Operand → Value} {o : Oper} {u : World} {op : UnOp} {t : TypeId} {x : Operand} {a v : Value} (ho : o.op = .unOp op t x) (ha : ρ x = a) (hr : (Op.unary op a).run P u = .ok v u) : (execOp ρ o).run P u = .ok (.value v) u := by
  unfold execOp
  simp only [ho, ha]
  rw [Sem.run_bind, hr]
  rfl
end Go.Proofs.YtmhdneenjoelfaaGreat
namespace Go.Proofs.YtmhdneenjoelfaaGreat
open Go.RowKit
def updS (σ : Nat → Value) (od : Option Nat) (v : Value) : Nat → Value := match od with
  | some d => fun s => if s = d then v else σ s
  | none => σ
def StpY (P : Program) (ops : Array Oper) (Φ : Nat → Value → World → Prop) (R : Value → World → Prop) (M : World → World → Prop) (i : Nat) (o : Oper) (ρ : Operand → Value) (u : World) : Prop :=
  (wantV ops o ρ = true ∧ ((∃ v u', (execOp ρ o).run P u = .ok (.value v) u' ∧ Φ i v u' ∧ R v u' ∧ M u u') ∨ (∃ f args, (execOp ρ o).run P u = .ok (.enter f args) u ∧ Calls P f args u fun e u' => ∃ v, e = .returned v ∧ Φ i v u' ∧ R v u' ∧ M u u') ∨ (o.dst = none ∧ ∃ u', (execOp ρ o).run P u = .ok .skip u' ∧ R undef u' ∧ M u u')))
  ∨ (wantV ops o ρ = false ∧ Φ i undef u ∧ R undef u)
structure InvY (md : Region.Mode) (ops : Array Oper) (Φ : Nat → Value → World → Prop) (R : (Nat → Bool) → (Nat → Value) → World → Prop) (a0 : Act) (l : Array Bool) (a : Act) (u : World) : Prop where
  r : R (fun i => l.getD i false) (fun s => a.tmps.getD s undef) u
  ls : l.size = ops.size
  df : a.defers = a0.defers
  sz : a.tmps.size = a0.tmps.size
  old : ∀ s, (∀ i d, dstOf ops i = some d → l.getD i false = true → d ≠ s) → a.tmps.getD s undef = a0.tmps.getD s undef
  val : ∀ i d, dstOf ops i = some d → l.getD i false = true → Φ i (a.tmps.getD d undef) u
  cl : ∀ i o, ops[i]? = some o → l.getD i false = true → ∀ e ∈ o.after, Region.binds md e = true → l.getD e.on false = true
theorem InvY.next {md : Region.Mode} {ops : Array Oper} {Φ : Nat → Value → World → Prop} {R : (Nat → Bool) → (Nat → Value) → World → Prop} {M : World → World → Prop} {a0 : Act} {l : Array Bool} {a : Act} {u u' : World} (h : InvY md ops Φ R a0 l a u) (hB : dstC ops a0.tmps.size = true)
    (hmono : ∀ i v u u', Φ i v u → M u u' → Φ i v u') {i : Nat} {o : Oper} (ho : ops[i]? = some o) (hdep : ∀ e ∈ o.after, Region.binds md e = true → l.getD e.on false = true) {v : Value} (hv : ∀ d, o.dst = some d → Φ i v u') (hr : R (updB (fun j => l.getD j false) i) (updS (fun s => a.tmps.getD s undef) o.dst v) u') (hb : M u u') :
    InvY md ops Φ R a0 (l.setIfInBounds i true) (a.put o.dst v) u' := by
  have hi : i < ops.size := (Array.getElem?_eq_some_iff.1 ho).1
  have hil : i < l.size := by rw [h.ls]; exact hi
  have hcl : ∀ j oj, ops[j]? = some oj → (l.setIfInBounds i true).getD j false = true → ∀ e ∈ oj.after, Region.binds md e = true → (l.setIfInBounds i true).getD e.on false = true := by
    intro j oj hoj hlj e he hbd
    rw [getD_set hil]
    split
    · rfl
    · rw [getD_set hil] at hlj
      by_cases e1 : j = i
      · subst e1
        rw [ho] at hoj
        cases hoj
        exact hdep e he hbd
      · rw [if_neg e1] at hlj
        exact h.cl j oj hoj hlj e he hbd
  rw [← getD_upd hil] at hr
  cases hod : o.dst with
  | none =>
    have hd : dstOf ops i = none := by simp [dstOf, ho, hod]
    rw [hod] at hr
    refine ⟨hr, by simpa using h.ls, h.df, h.sz, fun s hs => ?_, fun j e hj hl => ?_, hcl⟩
    · exact h.old s (fun j e hj hl => hs j e hj (by rw [getD_set hil]; split; rfl; exact hl))
    · have e2 : j ≠ i := fun e2 => by subst e2; rw [hd] at hj; cases hj
      rw [getD_set hil, if_neg e2] at hl
      exact hmono _ _ _ _ (h.val j e hj hl) hb
  | some d =>
    have hd : dstOf ops i = some d := by simp [dstOf, ho, hod]
    obtain ⟨hlt, hun⟩ := dstC_of hB hi hd
    have hlt' : d < a.tmps.size := by rw [h.sz]; exact hlt
    rw [hod] at hr
    have hr' : R (fun j => (l.setIfInBounds i true).getD j false) (fun s => (a.put (some d) v).tmps.getD s undef) u' := by
      have e9 : (fun s => (a.put (some d) v).tmps.getD s undef) = updS (fun s => a.tmps.getD s undef) (some d) v := by funext s; exact getD_put hlt'
      rw [e9]; exact hr
    refine ⟨hr', by simpa using h.ls, h.df, by simpa [Act.put] using h.sz, fun s hs => ?_, fun j e hj hl => ?_, hcl⟩
    · have hne : d ≠ s := hs i d hd (by rw [getD_set hil, if_pos rfl])
      rw [getD_put hlt', if_neg (Ne.symm hne)]
      exact h.old s (fun j e hj hl => hs j e hj (by rw [getD_set hil]; split; rfl; exact hl))
    · rw [getD_put hlt']
      by_cases e1 : e = d
      · subst e1
        obtain rfl := hun j (dstOf_lt hj) hj
        rw [if_pos rfl]
        exact hv _ hod
      · rw [if_neg e1]
        have e2 : j ≠ i := fun e2 => by subst e2; rw [hd] at hj; exact e1 (Option.some.inj hj).symm
        rw [getD_set hil, if_neg e2] at hl
        exact hmono _ _ _ _ (h.val j e hj hl) hb
theorem wpAny_valy {P : Program} {ops : Array Oper} {Q : Exit → Act → World → Prop} {md : Region.Mode} {a0 : Act} {w0 : World} (R : (Nat → Bool) → (Nat → Value) → World → Prop) (M : World → World → Prop) (Φ : Nat → Value → World → Prop)
    (hordB : ordB md ops = true) (hB : dstC ops a0.tmps.size = true) (hmono : ∀ i v u u', Φ i v u → M u u' → Φ i v u') (hM : ∀ u, M u u) (h0 : R (fun _ => false) (fun s => a0.tmps.getD s undef) w0)
    (hend : ∀ (vs : Nat → Value) (σ : Nat → Value) u, R (fun i => decide (i < ops.size)) σ u → (∀ i d, dstOf ops i = some d → vs i = σ d) → (∀ i d, dstOf ops i = some d → Φ i (vs i) u) → Q .normal (putsL a0 0 ops.toList vs) u)
    (hstep : ∀ u i o (ρ : Operand → Value) (l : Nat → Bool), R l (fun s => ρ (.tmp s)) u → ops[i]? = some o → l i = false → (∀ j oj, ops[j]? = some oj → l j = true → ∀ e ∈ oj.after, Region.binds md e = true → l e.on = true) →
      (∀ s, isDst ops s = false → ρ (.tmp s) = a0.eval (.tmp s)) → (∀ v, ρ (.const v) = v) → (∀ f, ρ (.func f) = .func (.func f) #[] #[]) →
      (∀ e ∈ o.after, Region.binds md e = true → l e.on = true) → (∀ j d, dstOf ops j = some d → l j = true → Φ j (ρ (.tmp d)) u) → StpY P ops Φ (fun v u' => R (updB l i) (updS (fun s => ρ (.tmp s)) o.dst v) u') M i o ρ u)
    (fuel : Nat) (l : Array Bool) (hs : l.size = ops.size) (hc : l.toList.count false ≤ fuel) (hl : ∀ i, l.getD i false = false) : wpAny P md ops Q fuel l a0 w0 := by
  refine wpAny_inv (InvY md ops Φ R a0) hordB ?_ ?_ fuel l a0 w0 hs hc ?_
  · intro l a u h hall
    have hall' : ∀ i, i < ops.size → l.getD i false = true := fun i hi => by rw [getD_eq (by rw [h.ls]; exact hi) false true]; exact hall i hi
    have e : putsL a0 0 ops.toList (fun i => a.tmps.getD ((dstOf ops i).getD 0) undef) = a := by
      refine putsL_eqW ops.toList 0 a0 _ h.df.symm h.sz.symm (fun j o d ho hd => ?_) (fun s => ?_) (fun j o d ho hd => ?_)
      · rw [Nat.zero_add]
        have : dstOf ops j = some d := by rw [Array.getElem?_toList] at ho; simp [dstOf, ho, hd]
        show a.tmps.getD ((dstOf ops j).getD 0) undef = _
        rw [this]; rfl
      · by_cases hx : ∃ j d, dstOf ops j = some d ∧ l.getD j false = true ∧ d = s
        · obtain ⟨j, d, hd, _, rfl⟩ := hx
          right
          unfold dstOf at hd
          cases ho : ops[j]? with
          | none => rw [ho] at hd; cases hd
          | some o => rw [ho] at hd; exact ⟨j, o, by rw [Array.getElem?_toList]; exact ho, hd⟩
        · left
          exact (h.old s (fun i d hd hl e => hx ⟨i, d, hd, hl, e⟩)).symm
      · rw [Array.getElem?_toList] at ho
        have hi : j < ops.size := (Array.getElem?_eq_some_iff.1 ho).1
        have hd' : dstOf ops j = some d := by simp [dstOf, ho, hd]
        rw [h.sz]
        exact (dstC_of hB hi hd').1
    rw [← e]
    refine hend _ (fun s => a.tmps.getD s undef) u ?_ (fun i d hd => by show a.tmps.getD ((dstOf ops i).getD 0) undef = _; rw [hd]; rfl) (fun i d hd => ?_)
    · have e2 : (fun i => l.getD i false) = (fun i => decide (i < ops.size)) := by
        funext i
        by_cases hi : i < ops.size
        · rw [hall' i hi]; simp [hi]
        · have : ¬ i < l.size := by rw [h.ls]; exact hi
          simp [Array.getD, hi, this]
      rw [← e2]
      exact h.r
    · show Φ i (a.tmps.getD ((dstOf ops i).getD 0) undef) u
      rw [hd]
      exact h.val i d hd (hall' i (dstOf_lt hd))
  · intro l a u i o h ho hli hdep K hK
    have hi : i < ops.size := (Array.getElem?_eq_some_iff.1 ho).1
    have hw : Region.wanted o (yielded ops a.tmps) = wantV ops o a.eval := wanted_eq (fun j d hj => by
      rw [h.sz]; exact (dstC_of hB (dstOf_lt hj) hj).1)
    have hst := hstep u i o a.eval (fun j => l.getD j false) h.r ho (by show l.getD i false = false; rw [getD_eq (by rw [h.ls]; exact hi) false true]; exact hli) (fun j oj hoj hlj e he hb => h.cl j oj hoj hlj e he hb) (fun s hns => by
      refine h.old s (fun j d hj _ e => ?_)
      subst e
      have : isDst ops d = true := by
        unfold isDst
        rw [List.any_eq_true]
        exact ⟨j, List.mem_range.2 (dstOf_lt hj), by simp [hj]⟩
      rw [this] at hns; cases hns) (fun _ => rfl) (fun _ => rfl) hdep (fun j d hd hlj => h.val j d hd hlj)
    rcases hst with ⟨hwt, ⟨v, u', hrun, hv, hr, hbl⟩ | ⟨f, args, hrun, hcall⟩ | ⟨hno, u', hrun, hr, hbl⟩⟩ | ⟨hwf, hv, hr⟩
    · rw [if_pos (by rw [hw]; exact hwt)]
      unfold Oper.wp
      rw [hrun]
      exact hK _ _ (h.next hB hmono ho hdep (fun _ _ => hv) hr hbl)
    · rw [if_pos (by rw [hw]; exact hwt)]
      unfold Oper.wp
      rw [hrun, Oper.upon_enter]
      refine hcall.mono ?_
      rintro e u' ⟨v, rfl, hv, hr, hbl⟩
      exact hK _ _ (h.next hB hmono ho hdep (fun _ _ => hv) hr hbl)
    · rw [if_pos (by rw [hw]; exact hwt)]
      unfold Oper.wp
      rw [hrun, Oper.upon_skip]
      exact hK _ _ (h.next hB hmono ho hdep (fun d hd => by rw [hno] at hd; cases hd) hr hbl)
    · rw [if_neg (by rw [hw, hwf]; decide)]
      exact hK _ _ (h.next hB hmono ho hdep (fun _ _ => hv) hr (hM u))
  · refine ⟨?_, hs, rfl, rfl, fun _ _ => rfl, fun i d _ hl' => (by rw [hl i] at hl'; cases hl'), fun i o _ hl' => (by rw [hl i] at hl'; cases hl')⟩
    rw [show (fun i => l.getD i false) = (fun _ => false) from funext hl]
    exact h0
end Go.Proofs.YtmhdneenjoelfaaGreat
