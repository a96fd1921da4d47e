/- Texts that the proof needs, joined: Pt12. -/
import Derived.Test.YtegckbfbmbiogaaV19
namespace Go.Proofs.Ytegckbfbmbiogaa
open Go.RowKit Go.Joins
set_option linter.unusedVariables false
set_option linter.unusedSimpArgs false
set_option maxRecDepth 20000 in
set_option maxHeartbeats 1000000 in
theorem piece_1 (pl nn wa sh : Int) (fr N : Nat) (q1 q2 : Option Addr) (m1 m2 k1 k2 : Nat) (ws : List Int) (bs : List Bool) (w : World) (h1 : m1 = ws.length) (h2 : m2 = bs.length) (s1 : SlI w q1 ws) (s2 : SlB w q2 bs) (hl1 : ws.length ≤ 2000000) (hl2 : bs.length ≤ 2000000) (hp : 0 ≤ pl ∧ pl ≤ 65535) (hf : fr ≤ 65536) (hN : N ≤ 65536) (hsh : -65535 ≤ sh ∧ sh ≤ 65535) :
    Calls Try.prog 42 #[.agg (rqc 1 pl nn wa q1 q2 m1 m2 k1 k2), .int .i64 (fr : Int), .int .i64 (N : Int), .int .i64 sh] w fun e w' => ReqPost w w' e 1 (pl + fr + sh) (N : Int) wa ws bs := by
  obtain ⟨B, hB⟩ : ∃ B, B = w.heap.size := ⟨_, rfl⟩
  obtain ⟨W, hW⟩ : ∃ W, W = (w.alloc (.cells (rqc 1 pl nn wa q1 q2 m1 m2 k1 k2) 28)).alloc (.cells #[.int .i64 0, .int .i64 0, .int .i64 0, .slice none 0 0, .slice none 0 0, .int .i64 0] 28) := ⟨_, rfl⟩
  have bW : Below w.heap.size w W := by rw [hW]; exact bel_next (bel_alloc _ _) (bel_alloc _ _)
  have HW : Hid (Below w.heap.size w W ∧ Blk W B 28 (rqc 1 pl nn wa q1 q2 m1 m2 k1 k2) ∧ Blk W (B + 1) 28 #[.int .i64 0, .int .i64 0, .int .i64 0, .slice none 0 0, .slice none 0 0, .int .i64 0] ∧ w.heap.size ≤ W.heap.size) := ⟨bW, by rw [hW, hB]; exact (Blk.new w _ _).below (bel_alloc _ _), by rw [hW, hB]; have := Blk.new (w.alloc (.cells (rqc 1 pl nn wa q1 q2 m1 m2 k1 k2) 28)) #[.int .i64 0, .int .i64 0, .int .i64 0, .slice none 0 0, .slice none 0 0, .int .i64 0] 28; simpa using this, bW.size⟩
  have HS : Hid (m1 = ws.length ∧ m2 = bs.length ∧ SlI w q1 ws ∧ SlB w q2 bs ∧ w.heap.size = B) := ⟨h1, h2, s1, s2, hB.symm⟩
  have e1 : IntKind.i64.wrap (pl + (fr : Int)) = pl + fr := by rw [IntKind.wrap_i64]; omega
  have e2 : IntKind.i64.wrap (pl + (fr : Int) + sh) = pl + fr + sh := by rw [IntKind.wrap_i64]; omega
  clear bW h1 h2 s1 s2 hp hsh
  go_enter Try.func42, Try.ntmps42
  go_upto_region 1 with fail
  rw [← hW, ← hB]
  clear hW hB
  obtain ⟨⟨y0, y1, y2, y3, y4, y5⟩, _⟩ := HW.out.2.1.six2
  go_wp2_with fail
  refine (copyReq_any 1 pl nn wa q1 q2 m1 m2 k1 k2 ws bs _ HS.out.1 HS.out.2.1 (HS.out.2.2.1.below HW.out.1) (HS.out.2.2.2.1.below HW.out.1) hl1 hl2).mono ?_
  rintro e w1 ⟨r1, r2, l1, l2, c1, c2, rfl, g1, g2, o1, o2, b1⟩
  obtain ⟨B2, hB2⟩ : ∃ B2, B2 = w1.heap.size := ⟨_, rfl⟩
  have HU : Hid (Below w.heap.size w w1 ∧ Blk w1 B 28 (rqc 1 pl nn wa q1 q2 m1 m2 k1 k2) ∧ Blk w1 (B + 1) 28 #[.int .i64 0, .int .i64 0, .int .i64 0, .slice none 0 0, .slice none 0 0, .int .i64 0] ∧ OwnI w1 w.heap.size (.slice r1 l1 c1) ws ∧ OwnB w1 w.heap.size (.slice r2 l2 c2) bs ∧ l1 = ws.length ∧ l2 = bs.length ∧ B2 = w1.heap.size) := ⟨bel_next HW.out.1 b1, HW.out.2.1.below b1, HW.out.2.2.1.below b1, OwnI.mono o1 HW.out.1.size, OwnB.mono o2 HW.out.1.size, g1, g2, hB2⟩
  clear b1 o1 o2 g1 g2 HW y0 y1 y2 y3 y4 y5
  obtain ⟨⟨y0, y1, y2, y3, y4, y5⟩, _⟩ := HU.out.2.1.six2
  have d1 : ¬ B = B2 := by have := HU.out.2.1.lt; omega
  have d2 : ¬ B + 1 = B2 := by have := HU.out.2.2.1.lt; omega
  have d3 : ¬ B2 = B := fun e => d1 e.symm
  have d4 : ¬ B2 = B + 1 := fun e => d2 e.symm
  go_upto_region 2 with fail
  obtain ⟨W2, hW2⟩ : ∃ W2, W2 = w1.alloc (.cells (rqc 1 pl nn wa r1 r2 l1 l2 c1 c2) 28) := ⟨_, rfl⟩
  have bW2 : Below w1.heap.size w1 W2 := by rw [hW2]; exact bel_alloc _ _
  have HV : Hid (Below w.heap.size w W2 ∧ Blk W2 B 28 (rqc 1 pl nn wa q1 q2 m1 m2 k1 k2) ∧ Blk W2 (B + 1) 28 #[.int .i64 0, .int .i64 0, .int .i64 0, .slice none 0 0, .slice none 0 0, .int .i64 0] ∧ OwnI W2 w.heap.size (.slice r1 l1 c1) ws ∧ OwnB W2 w.heap.size (.slice r2 l2 c2) bs ∧ Blk W2 B2 28 (rqc 1 pl nn wa r1 r2 l1 l2 c1 c2) ∧ l1 = ws.length ∧ l2 = bs.length ∧ w.heap.size ≤ B2) := ⟨bel_next HU.out.1 bW2, HU.out.2.1.below bW2, HU.out.2.2.1.below bW2, HU.out.2.2.2.1.below bW2, HU.out.2.2.2.2.1.below bW2, by rw [hW2, hB2]; exact Blk.new w1 _ _, HU.out.2.2.2.2.2.1, HU.out.2.2.2.2.2.2.1, by rw [hB2]; exact HU.out.1.size⟩
  rw [← hW2, ← hB2]
  clear hW2 hB2 HU bW2 y0 y1 y2 y3 y4 y5
  obtain ⟨⟨y0, y1, y2, y3, y4, y5⟩, _⟩ := HV.out.2.1.six2
  obtain ⟨⟨x0, x1, x2, x3, x4, x5⟩, ⟨f0, f1, f2, f3, f4, f5⟩⟩ := HV.out.2.2.2.2.2.1.six2
  go_upto_region 3 with fail
  obtain ⟨W3, hW3⟩ : ∃ W3, W3 = W2.setCell ⟨B2, 1, none⟩ (.int .i64 (pl + fr + sh)) := ⟨_, rfl⟩
  have HX : Hid (Below w.heap.size w W3 ∧ Blk W3 B 28 (rqc 1 pl nn wa q1 q2 m1 m2 k1 k2) ∧ Blk W3 (B + 1) 28 #[.int .i64 0, .int .i64 0, .int .i64 0, .slice none 0 0, .slice none 0 0, .int .i64 0] ∧ OwnI W3 w.heap.size (.slice r1 l1 c1) ws ∧ OwnB W3 w.heap.size (.slice r2 l2 c2) bs ∧ Blk W3 B2 28 (rqc 1 (pl + fr + sh) nn wa r1 r2 l1 l2 c1 c2) ∧ l1 = ws.length ∧ l2 = bs.length ∧ w.heap.size ≤ B2 ∧ w.heap.size ≤ W3.heap.size) := by
    have hb : Below w.heap.size w W3 := by rw [hW3]; exact HV.out.1.setCell (p := ⟨B2, 1, none⟩) HV.out.2.2.2.2.2.2.2.2 _
    refine ⟨hb, by rw [hW3]; exact HV.out.2.1.setNe d1, by rw [hW3]; exact HV.out.2.2.1.setNe d2, by rw [hW3]; exact row_setE HV.out.2.2.2.1 ⟨_, HV.out.2.2.2.2.2.1⟩ (by decide), by rw [hW3]; exact row_setE HV.out.2.2.2.2.1 ⟨_, HV.out.2.2.2.2.2.1⟩ (by decide), ?_, HV.out.2.2.2.2.2.2.1, HV.out.2.2.2.2.2.2.2.1, HV.out.2.2.2.2.2.2.2.2, hb.size⟩
    rw [hW3]; have h9 := HV.out.2.2.2.2.2.1.set 1 (.int .i64 (pl + fr + sh)); simpa using h9
  rw [← hW3]
  clear hW3 HV x0 x1 x2 x3 x4 x5 f0 f1 f2 f3 f4 f5 y0 y1 y2 y3 y4 y5
  obtain ⟨⟨y0, y1, y2, y3, y4, y5⟩, _⟩ := HX.out.2.1.six2
  obtain ⟨⟨x0, x1, x2, x3, x4, x5⟩, ⟨f0, f1, f2, f3, f4, f5⟩⟩ := HX.out.2.2.2.2.2.1.six2
  obtain ⟨⟨z0, z1, z2, z3, z4, z5⟩, ⟨g0, g1, g2, g3, g4, g5⟩⟩ := HX.out.2.2.1.six2
  have HY : Hid (OwnI (setL (W3.setCell ⟨B2, 2, none⟩ (.int .i64 (N : Int))) (B + 1) 0 (rqc 1 (pl + fr + sh) (N : Int) wa r1 r2 l1 l2 c1 c2).toList) w.heap.size (.slice r1 l1 c1) ws ∧ OwnB (setL (W3.setCell ⟨B2, 2, none⟩ (.int .i64 (N : Int))) (B + 1) 0 (rqc 1 (pl + fr + sh) (N : Int) wa r1 r2 l1 l2 c1 c2).toList) w.heap.size (.slice r2 l2 c2) bs ∧ Below w.heap.size w (setL (W3.setCell ⟨B2, 2, none⟩ (.int .i64 (N : Int))) (B + 1) 0 (rqc 1 (pl + fr + sh) (N : Int) wa r1 r2 l1 l2 c1 c2).toList) ∧ l1 = ws.length ∧ l2 = bs.length) := ⟨row_setL (row_setE HX.out.2.2.2.1 ⟨_, HX.out.2.2.2.2.2.1⟩ (by decide)) (ExB.set ⟨_, HX.out.2.2.1⟩) (by decide), row_setL (row_setE HX.out.2.2.2.2.1 ⟨_, HX.out.2.2.2.2.2.1⟩ (by decide)) (ExB.set ⟨_, HX.out.2.2.1⟩) (by decide), setL_below (by have := HS.out.2.2.2.2; omega) _ _ _ (HX.out.1.setCell (p := ⟨B2, 2, none⟩) HX.out.2.2.2.2.2.2.2.2.1 _), HX.out.2.2.2.2.2.2.1, HX.out.2.2.2.2.2.2.2.1⟩
  clear HX
  go_wp2
  refine bodyPost_ret (v := .agg (rqc 1 (pl + fr + sh) (N : Int) wa r1 r2 l1 l2 c1 c2)) (by simp [results, Try.results42, go_sem, x0, x1, x2, x3, x4, x5, z0, z1, z2, z3, z4, z5, d1, d2, d3, d4]) rfl ⟨r1, r2, l1, l2, c1, c2, rfl, HY.out.2.2.2.1, HY.out.2.2.2.2, HY.out.1, HY.out.2.1, HY.out.2.2.1⟩
set_option maxRecDepth 20000 in
set_option maxHeartbeats 1000000 in
theorem piece_2 (pl nn wa sh : Int) (fr N : Nat) (q1 q2 : Option Addr) (m1 m2 k1 k2 : Nat) (ws : List Int) (bs : List Bool) (w : World) (h1 : m1 = ws.length) (h2 : m2 = bs.length) (s1 : SlI w q1 ws) (s2 : SlB w q2 bs) (hl1 : ws.length ≤ 2000000) (hl2 : bs.length ≤ 2000000) (hp : 0 ≤ pl ∧ pl ≤ 65535) (hf : fr ≤ 65536) (hN : N ≤ 65536) (hsh : -65535 ≤ sh ∧ sh ≤ 65535) :
    Calls Try.prog 42 #[.agg (rqc 2 pl nn wa q1 q2 m1 m2 k1 k2), .int .i64 (fr : Int), .int .i64 (N : Int), .int .i64 sh] w fun e w' => ReqPost w w' e 2 (pl + fr + sh) (N : Int) wa ws bs := by
  obtain ⟨B, hB⟩ : ∃ B, B = w.heap.size := ⟨_, rfl⟩
  obtain ⟨W, hW⟩ : ∃ W, W = (w.alloc (.cells (rqc 2 pl nn wa q1 q2 m1 m2 k1 k2) 28)).alloc (.cells #[.int .i64 0, .int .i64 0, .int .i64 0, .slice none 0 0, .slice none 0 0, .int .i64 0] 28) := ⟨_, rfl⟩
  have bW : Below w.heap.size w W := by rw [hW]; exact bel_next (bel_alloc _ _) (bel_alloc _ _)
  have HW : Hid (Below w.heap.size w W ∧ Blk W B 28 (rqc 2 pl nn wa q1 q2 m1 m2 k1 k2) ∧ Blk W (B + 1) 28 #[.int .i64 0, .int .i64 0, .int .i64 0, .slice none 0 0, .slice none 0 0, .int .i64 0] ∧ w.heap.size ≤ W.heap.size) := ⟨bW, by rw [hW, hB]; exact (Blk.new w _ _).below (bel_alloc _ _), by rw [hW, hB]; have := Blk.new (w.alloc (.cells (rqc 2 pl nn wa q1 q2 m1 m2 k1 k2) 28)) #[.int .i64 0, .int .i64 0, .int .i64 0, .slice none 0 0, .slice none 0 0, .int .i64 0] 28; simpa using this, bW.size⟩
  have HS : Hid (m1 = ws.length ∧ m2 = bs.length ∧ SlI w q1 ws ∧ SlB w q2 bs ∧ w.heap.size = B) := ⟨h1, h2, s1, s2, hB.symm⟩
  have e1 : IntKind.i64.wrap (pl + (fr : Int)) = pl + fr := by rw [IntKind.wrap_i64]; omega
  have e2 : IntKind.i64.wrap (pl + (fr : Int) + sh) = pl + fr + sh := by rw [IntKind.wrap_i64]; omega
  clear bW h1 h2 s1 s2 hp hsh
  go_enter Try.func42, Try.ntmps42
  go_upto_region 1 with fail
  rw [← hW, ← hB]
  clear hW hB
  obtain ⟨⟨y0, y1, y2, y3, y4, y5⟩, _⟩ := HW.out.2.1.six2
  go_wp2_with fail
  refine (copyReq_any 2 pl nn wa q1 q2 m1 m2 k1 k2 ws bs _ HS.out.1 HS.out.2.1 (HS.out.2.2.1.below HW.out.1) (HS.out.2.2.2.1.below HW.out.1) hl1 hl2).mono ?_
  rintro e w1 ⟨r1, r2, l1, l2, c1, c2, rfl, g1, g2, o1, o2, b1⟩
  obtain ⟨B2, hB2⟩ : ∃ B2, B2 = w1.heap.size := ⟨_, rfl⟩
  have HU : Hid (Below w.heap.size w w1 ∧ Blk w1 B 28 (rqc 2 pl nn wa q1 q2 m1 m2 k1 k2) ∧ Blk w1 (B + 1) 28 #[.int .i64 0, .int .i64 0, .int .i64 0, .slice none 0 0, .slice none 0 0, .int .i64 0] ∧ OwnI w1 w.heap.size (.slice r1 l1 c1) ws ∧ OwnB w1 w.heap.size (.slice r2 l2 c2) bs ∧ l1 = ws.length ∧ l2 = bs.length ∧ B2 = w1.heap.size) := ⟨bel_next HW.out.1 b1, HW.out.2.1.below b1, HW.out.2.2.1.below b1, OwnI.mono o1 HW.out.1.size, OwnB.mono o2 HW.out.1.size, g1, g2, hB2⟩
  clear b1 o1 o2 g1 g2 HW y0 y1 y2 y3 y4 y5
  obtain ⟨⟨y0, y1, y2, y3, y4, y5⟩, _⟩ := HU.out.2.1.six2
  have d1 : ¬ B = B2 := by have := HU.out.2.1.lt; omega
  have d2 : ¬ B + 1 = B2 := by have := HU.out.2.2.1.lt; omega
  have d3 : ¬ B2 = B := fun e => d1 e.symm
  have d4 : ¬ B2 = B + 1 := fun e => d2 e.symm
  go_upto_region 2 with fail
  obtain ⟨W2, hW2⟩ : ∃ W2, W2 = w1.alloc (.cells (rqc 2 pl nn wa r1 r2 l1 l2 c1 c2) 28) := ⟨_, rfl⟩
  have bW2 : Below w1.heap.size w1 W2 := by rw [hW2]; exact bel_alloc _ _
  have HV : Hid (Below w.heap.size w W2 ∧ Blk W2 B 28 (rqc 2 pl nn wa q1 q2 m1 m2 k1 k2) ∧ Blk W2 (B + 1) 28 #[.int .i64 0, .int .i64 0, .int .i64 0, .slice none 0 0, .slice none 0 0, .int .i64 0] ∧ OwnI W2 w.heap.size (.slice r1 l1 c1) ws ∧ OwnB W2 w.heap.size (.slice r2 l2 c2) bs ∧ Blk W2 B2 28 (rqc 2 pl nn wa r1 r2 l1 l2 c1 c2) ∧ l1 = ws.length ∧ l2 = bs.length ∧ w.heap.size ≤ B2) := ⟨bel_next HU.out.1 bW2, HU.out.2.1.below bW2, HU.out.2.2.1.below bW2, HU.out.2.2.2.1.below bW2, HU.out.2.2.2.2.1.below bW2, by rw [hW2, hB2]; exact Blk.new w1 _ _, HU.out.2.2.2.2.2.1, HU.out.2.2.2.2.2.2.1, by rw [hB2]; exact HU.out.1.size⟩
  rw [← hW2, ← hB2]
  clear hW2 hB2 HU bW2 y0 y1 y2 y3 y4 y5
  obtain ⟨⟨y0, y1, y2, y3, y4, y5⟩, _⟩ := HV.out.2.1.six2
  obtain ⟨⟨x0, x1, x2, x3, x4, x5⟩, ⟨f0, f1, f2, f3, f4, f5⟩⟩ := HV.out.2.2.2.2.2.1.six2
  go_upto_region 3 with fail
  obtain ⟨W3, hW3⟩ : ∃ W3, W3 = W2.setCell ⟨B2, 1, none⟩ (.int .i64 (pl + fr + sh)) := ⟨_, rfl⟩
  have HX : Hid (Below w.heap.size w W3 ∧ Blk W3 B 28 (rqc 2 pl nn wa q1 q2 m1 m2 k1 k2) ∧ Blk W3 (B + 1) 28 #[.int .i64 0, .int .i64 0, .int .i64 0, .slice none 0 0, .slice none 0 0, .int .i64 0] ∧ OwnI W3 w.heap.size (.slice r1 l1 c1) ws ∧ OwnB W3 w.heap.size (.slice r2 l2 c2) bs ∧ Blk W3 B2 28 (rqc 2 (pl + fr + sh) nn wa r1 r2 l1 l2 c1 c2) ∧ l1 = ws.length ∧ l2 = bs.length ∧ w.heap.size ≤ B2 ∧ w.heap.size ≤ W3.heap.size) := by
    have hb : Below w.heap.size w W3 := by rw [hW3]; exact HV.out.1.setCell (p := ⟨B2, 1, none⟩) HV.out.2.2.2.2.2.2.2.2 _
    refine ⟨hb, by rw [hW3]; exact HV.out.2.1.setNe d1, by rw [hW3]; exact HV.out.2.2.1.setNe d2, by rw [hW3]; exact row_setE HV.out.2.2.2.1 ⟨_, HV.out.2.2.2.2.2.1⟩ (by decide), by rw [hW3]; exact row_setE HV.out.2.2.2.2.1 ⟨_, HV.out.2.2.2.2.2.1⟩ (by decide), ?_, HV.out.2.2.2.2.2.2.1, HV.out.2.2.2.2.2.2.2.1, HV.out.2.2.2.2.2.2.2.2, hb.size⟩
    rw [hW3]; have h9 := HV.out.2.2.2.2.2.1.set 1 (.int .i64 (pl + fr + sh)); simpa using h9
  rw [← hW3]
  clear hW3 HV x0 x1 x2 x3 x4 x5 f0 f1 f2 f3 f4 f5 y0 y1 y2 y3 y4 y5
  obtain ⟨⟨y0, y1, y2, y3, y4, y5⟩, _⟩ := HX.out.2.1.six2
  obtain ⟨⟨x0, x1, x2, x3, x4, x5⟩, ⟨f0, f1, f2, f3, f4, f5⟩⟩ := HX.out.2.2.2.2.2.1.six2
  obtain ⟨⟨z0, z1, z2, z3, z4, z5⟩, ⟨g0, g1, g2, g3, g4, g5⟩⟩ := HX.out.2.2.1.six2
  have HY : Hid (OwnI (setL (W3.setCell ⟨B2, 2, none⟩ (.int .i64 (N : Int))) (B + 1) 0 (rqc 2 (pl + fr + sh) (N : Int) wa r1 r2 l1 l2 c1 c2).toList) w.heap.size (.slice r1 l1 c1) ws ∧ OwnB (setL (W3.setCell ⟨B2, 2, none⟩ (.int .i64 (N : Int))) (B + 1) 0 (rqc 2 (pl + fr + sh) (N : Int) wa r1 r2 l1 l2 c1 c2).toList) w.heap.size (.slice r2 l2 c2) bs ∧ Below w.heap.size w (setL (W3.setCell ⟨B2, 2, none⟩ (.int .i64 (N : Int))) (B + 1) 0 (rqc 2 (pl + fr + sh) (N : Int) wa r1 r2 l1 l2 c1 c2).toList) ∧ l1 = ws.length ∧ l2 = bs.length) := ⟨row_setL (row_setE HX.out.2.2.2.1 ⟨_, HX.out.2.2.2.2.2.1⟩ (by decide)) (ExB.set ⟨_, HX.out.2.2.1⟩) (by decide), row_setL (row_setE HX.out.2.2.2.2.1 ⟨_, HX.out.2.2.2.2.2.1⟩ (by decide)) (ExB.set ⟨_, HX.out.2.2.1⟩) (by decide), setL_below (by have := HS.out.2.2.2.2; omega) _ _ _ (HX.out.1.setCell (p := ⟨B2, 2, none⟩) HX.out.2.2.2.2.2.2.2.2.1 _), HX.out.2.2.2.2.2.2.1, HX.out.2.2.2.2.2.2.2.1⟩
  clear HX
  go_wp2
  refine bodyPost_ret (v := .agg (rqc 2 (pl + fr + sh) (N : Int) wa r1 r2 l1 l2 c1 c2)) (by simp [results, Try.results42, go_sem, x0, x1, x2, x3, x4, x5, z0, z1, z2, z3, z4, z5, d1, d2, d3, d4]) rfl ⟨r1, r2, l1, l2, c1, c2, rfl, HY.out.2.2.2.1, HY.out.2.2.2.2, HY.out.1, HY.out.2.1, HY.out.2.2.1⟩
set_option maxRecDepth 20000 in
set_option maxHeartbeats 1000000 in
theorem piece_3 (pl nn wa sh : Int) (fr N : Nat) (q1 q2 : Option Addr) (m1 m2 k1 k2 : Nat) (ws : List Int) (bs : List Bool) (w : World) (h1 : m1 = ws.length) (h2 : m2 = bs.length) (s1 : SlI w q1 ws) (s2 : SlB w q2 bs) (hl1 : ws.length ≤ 2000000) (hl2 : bs.length ≤ 2000000) (hp : 0 ≤ pl ∧ pl ≤ 65535) (hf : fr ≤ 65536) (hN : N ≤ 65536) (hsh : -65535 ≤ sh ∧ sh ≤ 65535) :
    Calls Try.prog 42 #[.agg (rqc 3 pl nn wa q1 q2 m1 m2 k1 k2), .int .i64 (fr : Int), .int .i64 (N : Int), .int .i64 sh] w fun e w' => ReqPost w w' e 3 (pl + fr + sh) (N : Int) wa ws bs := by
  obtain ⟨B, hB⟩ : ∃ B, B = w.heap.size := ⟨_, rfl⟩
  obtain ⟨W, hW⟩ : ∃ W, W = (w.alloc (.cells (rqc 3 pl nn wa q1 q2 m1 m2 k1 k2) 28)).alloc (.cells #[.int .i64 0, .int .i64 0, .int .i64 0, .slice none 0 0, .slice none 0 0, .int .i64 0] 28) := ⟨_, rfl⟩
  have bW : Below w.heap.size w W := by rw [hW]; exact bel_next (bel_alloc _ _) (bel_alloc _ _)
  have HW : Hid (Below w.heap.size w W ∧ Blk W B 28 (rqc 3 pl nn wa q1 q2 m1 m2 k1 k2) ∧ Blk W (B + 1) 28 #[.int .i64 0, .int .i64 0, .int .i64 0, .slice none 0 0, .slice none 0 0, .int .i64 0] ∧ w.heap.size ≤ W.heap.size) := ⟨bW, by rw [hW, hB]; exact (Blk.new w _ _).below (bel_alloc _ _), by rw [hW, hB]; have := Blk.new (w.alloc (.cells (rqc 3 pl nn wa q1 q2 m1 m2 k1 k2) 28)) #[.int .i64 0, .int .i64 0, .int .i64 0, .slice none 0 0, .slice none 0 0, .int .i64 0] 28; simpa using this, bW.size⟩
  have HS : Hid (m1 = ws.length ∧ m2 = bs.length ∧ SlI w q1 ws ∧ SlB w q2 bs ∧ w.heap.size = B) := ⟨h1, h2, s1, s2, hB.symm⟩
  have e1 : IntKind.i64.wrap (pl + (fr : Int)) = pl + fr := by rw [IntKind.wrap_i64]; omega
  have e2 : IntKind.i64.wrap (pl + (fr : Int) + sh) = pl + fr + sh := by rw [IntKind.wrap_i64]; omega
  clear bW h1 h2 s1 s2 hp hsh
  go_enter Try.func42, Try.ntmps42
  go_upto_region 1 with fail
  rw [← hW, ← hB]
  clear hW hB
  obtain ⟨⟨y0, y1, y2, y3, y4, y5⟩, _⟩ := HW.out.2.1.six2
  go_wp2_with fail
  refine (copyReq_any 3 pl nn wa q1 q2 m1 m2 k1 k2 ws bs _ HS.out.1 HS.out.2.1 (HS.out.2.2.1.below HW.out.1) (HS.out.2.2.2.1.below HW.out.1) hl1 hl2).mono ?_
  rintro e w1 ⟨r1, r2, l1, l2, c1, c2, rfl, g1, g2, o1, o2, b1⟩
  obtain ⟨B2, hB2⟩ : ∃ B2, B2 = w1.heap.size := ⟨_, rfl⟩
  have HU : Hid (Below w.heap.size w w1 ∧ Blk w1 B 28 (rqc 3 pl nn wa q1 q2 m1 m2 k1 k2) ∧ Blk w1 (B + 1) 28 #[.int .i64 0, .int .i64 0, .int .i64 0, .slice none 0 0, .slice none 0 0, .int .i64 0] ∧ OwnI w1 w.heap.size (.slice r1 l1 c1) ws ∧ OwnB w1 w.heap.size (.slice r2 l2 c2) bs ∧ l1 = ws.length ∧ l2 = bs.length ∧ B2 = w1.heap.size) := ⟨bel_next HW.out.1 b1, HW.out.2.1.below b1, HW.out.2.2.1.below b1, OwnI.mono o1 HW.out.1.size, OwnB.mono o2 HW.out.1.size, g1, g2, hB2⟩
  clear b1 o1 o2 g1 g2 HW y0 y1 y2 y3 y4 y5
  obtain ⟨⟨y0, y1, y2, y3, y4, y5⟩, _⟩ := HU.out.2.1.six2
  have d1 : ¬ B = B2 := by have := HU.out.2.1.lt; omega
  have d2 : ¬ B + 1 = B2 := by have := HU.out.2.2.1.lt; omega
  have d3 : ¬ B2 = B := fun e => d1 e.symm
  have d4 : ¬ B2 = B + 1 := fun e => d2 e.symm
  go_upto_region 2 with fail
  obtain ⟨W2, hW2⟩ : ∃ W2, W2 = w1.alloc (.cells (rqc 3 pl nn wa r1 r2 l1 l2 c1 c2) 28) := ⟨_, rfl⟩
  have bW2 : Below w1.heap.size w1 W2 := by rw [hW2]; exact bel_alloc _ _
  have HV : Hid (Below w.heap.size w W2 ∧ Blk W2 B 28 (rqc 3 pl nn wa q1 q2 m1 m2 k1 k2) ∧ Blk W2 (B + 1) 28 #[.int .i64 0, .int .i64 0, .int .i64 0, .slice none 0 0, .slice none 0 0, .int .i64 0] ∧ OwnI W2 w.heap.size (.slice r1 l1 c1) ws ∧ OwnB W2 w.heap.size (.slice r2 l2 c2) bs ∧ Blk W2 B2 28 (rqc 3 pl nn wa r1 r2 l1 l2 c1 c2) ∧ l1 = ws.length ∧ l2 = bs.length ∧ w.heap.size ≤ B2) := ⟨bel_next HU.out.1 bW2, HU.out.2.1.below bW2, HU.out.2.2.1.below bW2, HU.out.2.2.2.1.below bW2, HU.out.2.2.2.2.1.below bW2, by rw [hW2, hB2]; exact Blk.new w1 _ _, HU.out.2.2.2.2.2.1, HU.out.2.2.2.2.2.2.1, by rw [hB2]; exact HU.out.1.size⟩
  rw [← hW2, ← hB2]
  clear hW2 hB2 HU bW2 y0 y1 y2 y3 y4 y5
  obtain ⟨⟨y0, y1, y2, y3, y4, y5⟩, _⟩ := HV.out.2.1.six2
  obtain ⟨⟨x0, x1, x2, x3, x4, x5⟩, ⟨f0, f1, f2, f3, f4, f5⟩⟩ := HV.out.2.2.2.2.2.1.six2
  go_upto_region 3 with fail
  obtain ⟨W3, hW3⟩ : ∃ W3, W3 = W2.setCell ⟨B2, 1, none⟩ (.int .i64 (pl + fr + sh)) := ⟨_, rfl⟩
  have HX : Hid (Below w.heap.size w W3 ∧ Blk W3 B 28 (rqc 3 pl nn wa q1 q2 m1 m2 k1 k2) ∧ Blk W3 (B + 1) 28 #[.int .i64 0, .int .i64 0, .int .i64 0, .slice none 0 0, .slice none 0 0, .int .i64 0] ∧ OwnI W3 w.heap.size (.slice r1 l1 c1) ws ∧ OwnB W3 w.heap.size (.slice r2 l2 c2) bs ∧ Blk W3 B2 28 (rqc 3 (pl + fr + sh) nn wa r1 r2 l1 l2 c1 c2) ∧ l1 = ws.length ∧ l2 = bs.length ∧ w.heap.size ≤ B2 ∧ w.heap.size ≤ W3.heap.size) := by
    have hb : Below w.heap.size w W3 := by rw [hW3]; exact HV.out.1.setCell (p := ⟨B2, 1, none⟩) HV.out.2.2.2.2.2.2.2.2 _
    refine ⟨hb, by rw [hW3]; exact HV.out.2.1.setNe d1, by rw [hW3]; exact HV.out.2.2.1.setNe d2, by rw [hW3]; exact row_setE HV.out.2.2.2.1 ⟨_, HV.out.2.2.2.2.2.1⟩ (by decide), by rw [hW3]; exact row_setE HV.out.2.2.2.2.1 ⟨_, HV.out.2.2.2.2.2.1⟩ (by decide), ?_, HV.out.2.2.2.2.2.2.1, HV.out.2.2.2.2.2.2.2.1, HV.out.2.2.2.2.2.2.2.2, hb.size⟩
    rw [hW3]; have h9 := HV.out.2.2.2.2.2.1.set 1 (.int .i64 (pl + fr + sh)); simpa using h9
  rw [← hW3]
  clear hW3 HV x0 x1 x2 x3 x4 x5 f0 f1 f2 f3 f4 f5 y0 y1 y2 y3 y4 y5
  obtain ⟨⟨y0, y1, y2, y3, y4, y5⟩, _⟩ := HX.out.2.1.six2
  obtain ⟨⟨x0, x1, x2, x3, x4, x5⟩, ⟨f0, f1, f2, f3, f4, f5⟩⟩ := HX.out.2.2.2.2.2.1.six2
  obtain ⟨⟨z0, z1, z2, z3, z4, z5⟩, ⟨g0, g1, g2, g3, g4, g5⟩⟩ := HX.out.2.2.1.six2
  have HY : Hid (OwnI (setL (W3.setCell ⟨B2, 2, none⟩ (.int .i64 (N : Int))) (B + 1) 0 (rqc 3 (pl + fr + sh) (N : Int) wa r1 r2 l1 l2 c1 c2).toList) w.heap.size (.slice r1 l1 c1) ws ∧ OwnB (setL (W3.setCell ⟨B2, 2, none⟩ (.int .i64 (N : Int))) (B + 1) 0 (rqc 3 (pl + fr + sh) (N : Int) wa r1 r2 l1 l2 c1 c2).toList) w.heap.size (.slice r2 l2 c2) bs ∧ Below w.heap.size w (setL (W3.setCell ⟨B2, 2, none⟩ (.int .i64 (N : Int))) (B + 1) 0 (rqc 3 (pl + fr + sh) (N : Int) wa r1 r2 l1 l2 c1 c2).toList) ∧ l1 = ws.length ∧ l2 = bs.length) := ⟨row_setL (row_setE HX.out.2.2.2.1 ⟨_, HX.out.2.2.2.2.2.1⟩ (by decide)) (ExB.set ⟨_, HX.out.2.2.1⟩) (by decide), row_setL (row_setE HX.out.2.2.2.2.1 ⟨_, HX.out.2.2.2.2.2.1⟩ (by decide)) (ExB.set ⟨_, HX.out.2.2.1⟩) (by decide), setL_below (by have := HS.out.2.2.2.2; omega) _ _ _ (HX.out.1.setCell (p := ⟨B2, 2, none⟩) HX.out.2.2.2.2.2.2.2.2.1 _), HX.out.2.2.2.2.2.2.1, HX.out.2.2.2.2.2.2.2.1⟩
  clear HX
  go_wp2
  refine bodyPost_ret (v := .agg (rqc 3 (pl + fr + sh) (N : Int) wa r1 r2 l1 l2 c1 c2)) (by simp [results, Try.results42, go_sem, x0, x1, x2, x3, x4, x5, z0, z1, z2, z3, z4, z5, d1, d2, d3, d4]) rfl ⟨r1, r2, l1, l2, c1, c2, rfl, HY.out.2.2.2.1, HY.out.2.2.2.2, HY.out.1, HY.out.2.1, HY.out.2.2.1⟩
set_option maxRecDepth 20000 in
set_option maxHeartbeats 1000000 in
theorem piece_4 (pl nn wa sh : Int) (fr N : Nat) (q1 q2 : Option Addr) (m1 m2 k1 k2 : Nat) (ws : List Int) (bs : List Bool) (w : World) (h1 : m1 = ws.length) (h2 : m2 = bs.length) (s1 : SlI w q1 ws) (s2 : SlB w q2 bs) (hl1 : ws.length ≤ 2000000) (hl2 : bs.length ≤ 2000000) (hp : 0 ≤ pl ∧ pl ≤ 65535) (hf : fr ≤ 65536) (hN : N ≤ 65536) (hsh : -65535 ≤ sh ∧ sh ≤ 65535) :
    Calls Try.prog 42 #[.agg (rqc 4 pl nn wa q1 q2 m1 m2 k1 k2), .int .i64 (fr : Int), .int .i64 (N : Int), .int .i64 sh] w fun e w' => ReqPost w w' e 4 (pl + fr + sh) (N : Int) wa ws bs := by
  obtain ⟨B, hB⟩ : ∃ B, B = w.heap.size := ⟨_, rfl⟩
  obtain ⟨W, hW⟩ : ∃ W, W = (w.alloc (.cells (rqc 4 pl nn wa q1 q2 m1 m2 k1 k2) 28)).alloc (.cells #[.int .i64 0, .int .i64 0, .int .i64 0, .slice none 0 0, .slice none 0 0, .int .i64 0] 28) := ⟨_, rfl⟩
  have bW : Below w.heap.size w W := by rw [hW]; exact bel_next (bel_alloc _ _) (bel_alloc _ _)
  have HW : Hid (Below w.heap.size w W ∧ Blk W B 28 (rqc 4 pl nn wa q1 q2 m1 m2 k1 k2) ∧ Blk W (B + 1) 28 #[.int .i64 0, .int .i64 0, .int .i64 0, .slice none 0 0, .slice none 0 0, .int .i64 0] ∧ w.heap.size ≤ W.heap.size) := ⟨bW, by rw [hW, hB]; exact (Blk.new w _ _).below (bel_alloc _ _), by rw [hW, hB]; have := Blk.new (w.alloc (.cells (rqc 4 pl nn wa q1 q2 m1 m2 k1 k2) 28)) #[.int .i64 0, .int .i64 0, .int .i64 0, .slice none 0 0, .slice none 0 0, .int .i64 0] 28; simpa using this, bW.size⟩
  have HS : Hid (m1 = ws.length ∧ m2 = bs.length ∧ SlI w q1 ws ∧ SlB w q2 bs ∧ w.heap.size = B) := ⟨h1, h2, s1, s2, hB.symm⟩
  have e1 : IntKind.i64.wrap (pl + (fr : Int)) = pl + fr := by rw [IntKind.wrap_i64]; omega
  have e2 : IntKind.i64.wrap (pl + (fr : Int) + sh) = pl + fr + sh := by rw [IntKind.wrap_i64]; omega
  clear bW h1 h2 s1 s2 hp hsh
  go_enter Try.func42, Try.ntmps42
  go_upto_region 1 with fail
  rw [← hW, ← hB]
  clear hW hB
  obtain ⟨⟨y0, y1, y2, y3, y4, y5⟩, _⟩ := HW.out.2.1.six2
  go_wp2_with fail
  refine (copyReq_any 4 pl nn wa q1 q2 m1 m2 k1 k2 ws bs _ HS.out.1 HS.out.2.1 (HS.out.2.2.1.below HW.out.1) (HS.out.2.2.2.1.below HW.out.1) hl1 hl2).mono ?_
  rintro e w1 ⟨r1, r2, l1, l2, c1, c2, rfl, g1, g2, o1, o2, b1⟩
  obtain ⟨B2, hB2⟩ : ∃ B2, B2 = w1.heap.size := ⟨_, rfl⟩
  have HU : Hid (Below w.heap.size w w1 ∧ Blk w1 B 28 (rqc 4 pl nn wa q1 q2 m1 m2 k1 k2) ∧ Blk w1 (B + 1) 28 #[.int .i64 0, .int .i64 0, .int .i64 0, .slice none 0 0, .slice none 0 0, .int .i64 0] ∧ OwnI w1 w.heap.size (.slice r1 l1 c1) ws ∧ OwnB w1 w.heap.size (.slice r2 l2 c2) bs ∧ l1 = ws.length ∧ l2 = bs.length ∧ B2 = w1.heap.size) := ⟨bel_next HW.out.1 b1, HW.out.2.1.below b1, HW.out.2.2.1.below b1, OwnI.mono o1 HW.out.1.size, OwnB.mono o2 HW.out.1.size, g1, g2, hB2⟩
  clear b1 o1 o2 g1 g2 HW y0 y1 y2 y3 y4 y5
  obtain ⟨⟨y0, y1, y2, y3, y4, y5⟩, _⟩ := HU.out.2.1.six2
  have d1 : ¬ B = B2 := by have := HU.out.2.1.lt; omega
  have d2 : ¬ B + 1 = B2 := by have := HU.out.2.2.1.lt; omega
  have d3 : ¬ B2 = B := fun e => d1 e.symm
  have d4 : ¬ B2 = B + 1 := fun e => d2 e.symm
  go_upto_region 2 with fail
  obtain ⟨W2, hW2⟩ : ∃ W2, W2 = w1.alloc (.cells (rqc 4 pl nn wa r1 r2 l1 l2 c1 c2) 28) := ⟨_, rfl⟩
  have bW2 : Below w1.heap.size w1 W2 := by rw [hW2]; exact bel_alloc _ _
  have HV : Hid (Below w.heap.size w W2 ∧ Blk W2 B 28 (rqc 4 pl nn wa q1 q2 m1 m2 k1 k2) ∧ Blk W2 (B + 1) 28 #[.int .i64 0, .int .i64 0, .int .i64 0, .slice none 0 0, .slice none 0 0, .int .i64 0] ∧ OwnI W2 w.heap.size (.slice r1 l1 c1) ws ∧ OwnB W2 w.heap.size (.slice r2 l2 c2) bs ∧ Blk W2 B2 28 (rqc 4 pl nn wa r1 r2 l1 l2 c1 c2) ∧ l1 = ws.length ∧ l2 = bs.length ∧ w.heap.size ≤ B2) := ⟨bel_next HU.out.1 bW2, HU.out.2.1.below bW2, HU.out.2.2.1.below bW2, HU.out.2.2.2.1.below bW2, HU.out.2.2.2.2.1.below bW2, by rw [hW2, hB2]; exact Blk.new w1 _ _, HU.out.2.2.2.2.2.1, HU.out.2.2.2.2.2.2.1, by rw [hB2]; exact HU.out.1.size⟩
  rw [← hW2, ← hB2]
  clear hW2 hB2 HU bW2 y0 y1 y2 y3 y4 y5
  obtain ⟨⟨y0, y1, y2, y3, y4, y5⟩, _⟩ := HV.out.2.1.six2
  obtain ⟨⟨x0, x1, x2, x3, x4, x5⟩, ⟨f0, f1, f2, f3, f4, f5⟩⟩ := HV.out.2.2.2.2.2.1.six2
  go_upto_region 3 with fail
  obtain ⟨W3, hW3⟩ : ∃ W3, W3 = W2.setCell ⟨B2, 1, none⟩ (.int .i64 (pl + fr + sh)) := ⟨_, rfl⟩
  have HX : Hid (Below w.heap.size w W3 ∧ Blk W3 B 28 (rqc 4 pl nn wa q1 q2 m1 m2 k1 k2) ∧ Blk W3 (B + 1) 28 #[.int .i64 0, .int .i64 0, .int .i64 0, .slice none 0 0, .slice none 0 0, .int .i64 0] ∧ OwnI W3 w.heap.size (.slice r1 l1 c1) ws ∧ OwnB W3 w.heap.size (.slice r2 l2 c2) bs ∧ Blk W3 B2 28 (rqc 4 (pl + fr + sh) nn wa r1 r2 l1 l2 c1 c2) ∧ l1 = ws.length ∧ l2 = bs.length ∧ w.heap.size ≤ B2 ∧ w.heap.size ≤ W3.heap.size) := by
    have hb : Below w.heap.size w W3 := by rw [hW3]; exact HV.out.1.setCell (p := ⟨B2, 1, none⟩) HV.out.2.2.2.2.2.2.2.2 _
    refine ⟨hb, by rw [hW3]; exact HV.out.2.1.setNe d1, by rw [hW3]; exact HV.out.2.2.1.setNe d2, by rw [hW3]; exact row_setE HV.out.2.2.2.1 ⟨_, HV.out.2.2.2.2.2.1⟩ (by decide), by rw [hW3]; exact row_setE HV.out.2.2.2.2.1 ⟨_, HV.out.2.2.2.2.2.1⟩ (by decide), ?_, HV.out.2.2.2.2.2.2.1, HV.out.2.2.2.2.2.2.2.1, HV.out.2.2.2.2.2.2.2.2, hb.size⟩
    rw [hW3]; have h9 := HV.out.2.2.2.2.2.1.set 1 (.int .i64 (pl + fr + sh)); simpa using h9
  rw [← hW3]
  clear hW3 HV x0 x1 x2 x3 x4 x5 f0 f1 f2 f3 f4 f5 y0 y1 y2 y3 y4 y5
  obtain ⟨⟨y0, y1, y2, y3, y4, y5⟩, _⟩ := HX.out.2.1.six2
  obtain ⟨⟨x0, x1, x2, x3, x4, x5⟩, ⟨f0, f1, f2, f3, f4, f5⟩⟩ := HX.out.2.2.2.2.2.1.six2
  obtain ⟨⟨z0, z1, z2, z3, z4, z5⟩, ⟨g0, g1, g2, g3, g4, g5⟩⟩ := HX.out.2.2.1.six2
  have HY : Hid (OwnI (setL (W3.setCell ⟨B2, 2, none⟩ (.int .i64 (N : Int))) (B + 1) 0 (rqc 4 (pl + fr + sh) (N : Int) wa r1 r2 l1 l2 c1 c2).toList) w.heap.size (.slice r1 l1 c1) ws ∧ OwnB (setL (W3.setCell ⟨B2, 2, none⟩ (.int .i64 (N : Int))) (B + 1) 0 (rqc 4 (pl + fr + sh) (N : Int) wa r1 r2 l1 l2 c1 c2).toList) w.heap.size (.slice r2 l2 c2) bs ∧ Below w.heap.size w (setL (W3.setCell ⟨B2, 2, none⟩ (.int .i64 (N : Int))) (B + 1) 0 (rqc 4 (pl + fr + sh) (N : Int) wa r1 r2 l1 l2 c1 c2).toList) ∧ l1 = ws.length ∧ l2 = bs.length) := ⟨row_setL (row_setE HX.out.2.2.2.1 ⟨_, HX.out.2.2.2.2.2.1⟩ (by decide)) (ExB.set ⟨_, HX.out.2.2.1⟩) (by decide), row_setL (row_setE HX.out.2.2.2.2.1 ⟨_, HX.out.2.2.2.2.2.1⟩ (by decide)) (ExB.set ⟨_, HX.out.2.2.1⟩) (by decide), setL_below (by have := HS.out.2.2.2.2; omega) _ _ _ (HX.out.1.setCell (p := ⟨B2, 2, none⟩) HX.out.2.2.2.2.2.2.2.2.1 _), HX.out.2.2.2.2.2.2.1, HX.out.2.2.2.2.2.2.2.1⟩
  clear HX
  go_wp2
  refine bodyPost_ret (v := .agg (rqc 4 (pl + fr + sh) (N : Int) wa r1 r2 l1 l2 c1 c2)) (by simp [results, Try.results42, go_sem, x0, x1, x2, x3, x4, x5, z0, z1, z2, z3, z4, z5, d1, d2, d3, d4]) rfl ⟨r1, r2, l1, l2, c1, c2, rfl, HY.out.2.2.2.1, HY.out.2.2.2.2, HY.out.1, HY.out.2.1, HY.out.2.2.1⟩
set_option maxRecDepth 20000 in
set_option maxHeartbeats 1000000 in
theorem piece_5 (pl nn wa sh : Int) (fr N : Nat) (q1 q2 : Option Addr) (m1 m2 k1 k2 : Nat) (ws : List Int) (bs : List Bool) (w : World) (h1 : m1 = ws.length) (h2 : m2 = bs.length) (s1 : SlI w q1 ws) (s2 : SlB w q2 bs) (hl1 : ws.length ≤ 2000000) (hl2 : bs.length ≤ 2000000) (hp : 0 ≤ pl ∧ pl ≤ 65535) (hf : fr ≤ 65536) (hN : N ≤ 65536) (hsh : -65535 ≤ sh ∧ sh ≤ 65535) (hin : fr + N ≤ bs.length) (hpos : 0 < N) (hk2 : m2 ≤ k2) :
    Calls Try.prog 42 #[.agg (rqc 5 pl nn wa q1 q2 m1 m2 k1 k2), .int .i64 (fr : Int), .int .i64 (N : Int), .int .i64 sh] w fun e w' => ReqPost w w' e 5 (pl + fr + sh) nn wa ws ((bs.drop fr).take N) := by
  obtain ⟨qb, qo, rfl⟩ := slB_some s2 (by omega)
  obtain ⟨B, hB⟩ : ∃ B, B = w.heap.size := ⟨_, rfl⟩
  obtain ⟨W, hW⟩ : ∃ W, W = (w.alloc (.cells (rqc 5 pl nn wa q1 (some ⟨qb, qo, none⟩) m1 m2 k1 k2) 28)).alloc (.cells #[.int .i64 0, .int .i64 0, .int .i64 0, .slice none 0 0, .slice none 0 0, .int .i64 0] 28) := ⟨_, rfl⟩
  have bW : Below w.heap.size w W := by rw [hW]; exact bel_next (bel_alloc _ _) (bel_alloc _ _)
  have HW : Hid (Below w.heap.size w W ∧ Blk W B 28 (rqc 5 pl nn wa q1 (some ⟨qb, qo, none⟩) m1 m2 k1 k2) ∧ Blk W (B + 1) 28 #[.int .i64 0, .int .i64 0, .int .i64 0, .slice none 0 0, .slice none 0 0, .int .i64 0] ∧ w.heap.size ≤ W.heap.size) := ⟨bW, by rw [hW, hB]; exact (Blk.new w _ _).below (bel_alloc _ _), by rw [hW, hB]; have := Blk.new (w.alloc (.cells (rqc 5 pl nn wa q1 (some ⟨qb, qo, none⟩) m1 m2 k1 k2) 28)) #[.int .i64 0, .int .i64 0, .int .i64 0, .slice none 0 0, .slice none 0 0, .int .i64 0] 28; simpa using this, bW.size⟩
  have HS : Hid (m1 = ws.length ∧ m2 = bs.length ∧ SlI w q1 ws ∧ SlB w (some ⟨qb, qo, none⟩) bs ∧ w.heap.size = B) := ⟨h1, h2, s1, s2, hB.symm⟩
  have e1 : IntKind.i64.wrap (pl + (fr : Int)) = pl + fr := by rw [IntKind.wrap_i64]; omega
  have e2 : IntKind.i64.wrap (pl + (fr : Int) + sh) = pl + fr + sh := by rw [IntKind.wrap_i64]; omega
  have hck : ¬ k2 = fr := by omega
  have i0 : (fr : Int) ≤ (fr : Int) + (N : Int) := by omega
  have i1 : (fr : Int) + (N : Int) ≤ (m2 : Int) := by omega
  have i2 : (fr : Int) + (N : Int) ≤ (k2 : Int) := by omega
  have i3' : (0 : Int) ≤ (fr : Int) := by omega
  have i4 : (0 : Int) ≤ (fr : Int) + (N : Int) := by omega
  have i5 : IntKind.i64.wrap ((fr : Int) + (N : Int)) = (fr : Int) + (N : Int) := by rw [IntKind.wrap_i64]; omega
  have i6 : (fr : Int) ≤ (k2 : Int) := by omega
  have HG : Hid (N = ((bs.drop fr).take N).length ∧ SlB w (some ⟨qb, qo + fr, none⟩) ((bs.drop fr).take N) ∧ ((bs.drop fr).take N).length ≤ 2000000) := ⟨by simp; omega, slB_off s2 hin, by simp; omega⟩
  clear hin
  clear bW h1 h2 s1 s2 hp hsh
  go_enter Try.func42, Try.ntmps42
  go_upto_region 1 with fail
  rw [← hW, ← hB]
  clear hW hB
  obtain ⟨⟨y0, y1, y2, y3, y4, y5⟩, _⟩ := HW.out.2.1.six2
  go_wp2_with fail
  refine (copyReq_any 5 pl nn wa q1 (some ⟨qb, qo, none⟩) m1 m2 k1 k2 ws bs _ HS.out.1 HS.out.2.1 (HS.out.2.2.1.below HW.out.1) (HS.out.2.2.2.1.below HW.out.1) hl1 hl2).mono ?_
  rintro e w1 ⟨r1, r2, l1, l2, c1, c2, rfl, g1, g2, o1, o2, b1⟩
  obtain ⟨B2, hB2⟩ : ∃ B2, B2 = w1.heap.size := ⟨_, rfl⟩
  have HU : Hid (Below w.heap.size w w1 ∧ Blk w1 B 28 (rqc 5 pl nn wa q1 (some ⟨qb, qo, none⟩) m1 m2 k1 k2) ∧ Blk w1 (B + 1) 28 #[.int .i64 0, .int .i64 0, .int .i64 0, .slice none 0 0, .slice none 0 0, .int .i64 0] ∧ OwnI w1 w.heap.size (.slice r1 l1 c1) ws ∧ OwnB w1 w.heap.size (.slice r2 l2 c2) bs ∧ l1 = ws.length ∧ l2 = bs.length ∧ B2 = w1.heap.size) := ⟨bel_next HW.out.1 b1, HW.out.2.1.below b1, HW.out.2.2.1.below b1, OwnI.mono o1 HW.out.1.size, OwnB.mono o2 HW.out.1.size, g1, g2, hB2⟩
  clear b1 o1 o2 g1 g2 HW y0 y1 y2 y3 y4 y5
  obtain ⟨⟨y0, y1, y2, y3, y4, y5⟩, _⟩ := HU.out.2.1.six2
  have d1 : ¬ B = B2 := by have := HU.out.2.1.lt; omega
  have d2 : ¬ B + 1 = B2 := by have := HU.out.2.2.1.lt; omega
  have d3 : ¬ B2 = B := fun e => d1 e.symm
  have d4 : ¬ B2 = B + 1 := fun e => d2 e.symm
  go_upto_region 2 with fail
  obtain ⟨W2, hW2⟩ : ∃ W2, W2 = w1.alloc (.cells (rqc 5 pl nn wa r1 r2 l1 l2 c1 c2) 28) := ⟨_, rfl⟩
  have bW2 : Below w1.heap.size w1 W2 := by rw [hW2]; exact bel_alloc _ _
  have HV : Hid (Below w.heap.size w W2 ∧ Blk W2 B 28 (rqc 5 pl nn wa q1 (some ⟨qb, qo, none⟩) m1 m2 k1 k2) ∧ Blk W2 (B + 1) 28 #[.int .i64 0, .int .i64 0, .int .i64 0, .slice none 0 0, .slice none 0 0, .int .i64 0] ∧ OwnI W2 w.heap.size (.slice r1 l1 c1) ws ∧ OwnB W2 w.heap.size (.slice r2 l2 c2) bs ∧ Blk W2 B2 28 (rqc 5 pl nn wa r1 r2 l1 l2 c1 c2) ∧ l1 = ws.length ∧ l2 = bs.length ∧ w.heap.size ≤ B2) := ⟨bel_next HU.out.1 bW2, HU.out.2.1.below bW2, HU.out.2.2.1.below bW2, HU.out.2.2.2.1.below bW2, HU.out.2.2.2.2.1.below bW2, by rw [hW2, hB2]; exact Blk.new w1 _ _, HU.out.2.2.2.2.2.1, HU.out.2.2.2.2.2.2.1, by rw [hB2]; exact HU.out.1.size⟩
  rw [← hW2, ← hB2]
  clear hW2 hB2 HU bW2 y0 y1 y2 y3 y4 y5
  obtain ⟨⟨y0, y1, y2, y3, y4, y5⟩, _⟩ := HV.out.2.1.six2
  obtain ⟨⟨x0, x1, x2, x3, x4, x5⟩, ⟨f0, f1, f2, f3, f4, f5⟩⟩ := HV.out.2.2.2.2.2.1.six2
  go_upto_region 3 with fail
  obtain ⟨W3, hW3⟩ : ∃ W3, W3 = W2.setCell ⟨B2, 1, none⟩ (.int .i64 (pl + fr + sh)) := ⟨_, rfl⟩
  have HX : Hid (Below w.heap.size w W3 ∧ Blk W3 B 28 (rqc 5 pl nn wa q1 (some ⟨qb, qo, none⟩) m1 m2 k1 k2) ∧ Blk W3 (B + 1) 28 #[.int .i64 0, .int .i64 0, .int .i64 0, .slice none 0 0, .slice none 0 0, .int .i64 0] ∧ OwnI W3 w.heap.size (.slice r1 l1 c1) ws ∧ OwnB W3 w.heap.size (.slice r2 l2 c2) bs ∧ Blk W3 B2 28 (rqc 5 (pl + fr + sh) nn wa r1 r2 l1 l2 c1 c2) ∧ l1 = ws.length ∧ l2 = bs.length ∧ w.heap.size ≤ B2 ∧ w.heap.size ≤ W3.heap.size) := by
    have hb : Below w.heap.size w W3 := by rw [hW3]; exact HV.out.1.setCell (p := ⟨B2, 1, none⟩) HV.out.2.2.2.2.2.2.2.2 _
    refine ⟨hb, by rw [hW3]; exact HV.out.2.1.setNe d1, by rw [hW3]; exact HV.out.2.2.1.setNe d2, by rw [hW3]; exact row_setE HV.out.2.2.2.1 ⟨_, HV.out.2.2.2.2.2.1⟩ (by decide), by rw [hW3]; exact row_setE HV.out.2.2.2.2.1 ⟨_, HV.out.2.2.2.2.2.1⟩ (by decide), ?_, HV.out.2.2.2.2.2.2.1, HV.out.2.2.2.2.2.2.2.1, HV.out.2.2.2.2.2.2.2.2, hb.size⟩
    rw [hW3]; have h9 := HV.out.2.2.2.2.2.1.set 1 (.int .i64 (pl + fr + sh)); simpa using h9
  rw [← hW3]
  clear hW3 HV x0 x1 x2 x3 x4 x5 f0 f1 f2 f3 f4 f5 y0 y1 y2 y3 y4 y5
  obtain ⟨⟨y0, y1, y2, y3, y4, y5⟩, _⟩ := (HX.out.2.1.below (bel_alloc W3 (.cells #[] 4))).six2
  obtain ⟨⟨x0, x1, x2, x3, x4, x5⟩, _⟩ := HX.out.2.1.six2
  go_upto_region 15 with (at_builtin; refine wpList_appBO rfl (.tmp 24) (.tmp 31) rfl w.heap.size (.slice (some ⟨W3.heap.size, 0, none⟩) 0 0) [] rfl (newB W3 w.heap.size HX.out.2.2.2.2.2.2.2.2.2) (some ⟨qb, qo + fr, none⟩) (fr + N - fr) (k2 - fr) ((bs.drop fr).take N) rfl (by have := HG.out.1; omega) (HG.out.2.1.below (bel_next HX.out.1 (bel_alloc _ _))) (by have := HG.out.2.2; simp only [List.length_nil]; omega) (by have := HX.out.2.2.2.2.2.2.2.2.2; simp; omega) ?_; intro v2 w2 O2 g2'; have g2 : (W3.alloc (.cells #[] 4)).grownBy w2 (some W3.heap.size) := g2'; clear g2'; have HU : Hid (OwnB w2 w.heap.size v2 ((bs.drop fr).take N) ∧ Below w.heap.size w w2 ∧ Blk w2 B2 28 (rqc 5 (pl + fr + sh) nn wa r1 r2 l1 l2 c1 c2) ∧ Blk w2 (B + 1) 28 #[.int .i64 0, .int .i64 0, .int .i64 0, .slice none 0 0, .slice none 0 0, .int .i64 0] ∧ OwnI w2 w.heap.size (.slice r1 l1 c1) ws ∧ l1 = ws.length ∧ l2 = bs.length ∧ w.heap.size ≤ B2) := ⟨by simpa using O2, grown_below2 (bel_next HX.out.1 (bel_alloc _ _)) g2 HX.out.2.2.2.2.2.2.2.2.2 (by have := HX.out.2.2.2.2.2.2.2.2.2; simp; omega), (HX.out.2.2.2.2.2.1.below (bel_alloc _ _)).grown g2 (by have := HX.out.2.2.2.2.2.1.lt; intro e9; have := Option.some.inj e9; omega), (HX.out.2.2.1.below (bel_alloc _ _)).grown g2 (by have := HX.out.2.2.1.lt; intro e9; have := Option.some.inj e9; omega), (OwnI.below HX.out.2.2.2.1 (bel_alloc _ _)).kept g2 (.inr (by intro e9; have := (World.ownsRow.lt HX.out.2.2.2.1 _ e9).2; simp at this)), HX.out.2.2.2.2.2.2.1, HX.out.2.2.2.2.2.2.2.1, HX.out.2.2.2.2.2.2.2.2.1⟩; clear O2 g2; obtain ⟨n0a, n0c, n0, hv2, hn2⟩ := ownB_shape HU.out.1; subst hv2; have HN2 : Hid (n0 = ((bs.drop fr).take N).length) := hn2; clear hn2; obtain ⟨⟨u0, u1, u2, u3, u4, u5⟩, ⟨f0, f1, f2, f3, f4, f5⟩⟩ := HU.out.2.2.1.six2)
  obtain ⟨W4, hW4⟩ : ∃ W4, W4 = w2.setCell ⟨B2, 4, none⟩ (.slice n0a n0 n0c) := ⟨_, rfl⟩
  have HZ : Hid (OwnB W4 w.heap.size (.slice n0a n0 n0c) ((bs.drop fr).take N) ∧ OwnI W4 w.heap.size (.slice r1 l1 c1) ws ∧ Below w.heap.size w W4 ∧ Blk W4 B2 28 (rqc 5 (pl + fr + sh) nn wa r1 n0a l1 n0 c1 n0c) ∧ Blk W4 (B + 1) 28 #[.int .i64 0, .int .i64 0, .int .i64 0, .slice none 0 0, .slice none 0 0, .int .i64 0] ∧ l1 = ws.length ∧ l2 = bs.length) := by
    have hb : Below w.heap.size w W4 := by rw [hW4]; exact HU.out.2.1.setCell (p := ⟨B2, 4, none⟩) HU.out.2.2.2.2.2.2.2 _
    refine ⟨by rw [hW4]; exact row_setE HU.out.1 ⟨_, HU.out.2.2.1⟩ (by decide), by rw [hW4]; exact row_setE HU.out.2.2.2.2.1 ⟨_, HU.out.2.2.1⟩ (by decide), hb, ?_, by rw [hW4]; exact HU.out.2.2.2.1.setNe d2, HU.out.2.2.2.2.2.1, HU.out.2.2.2.2.2.2.1⟩
    rw [hW4]; have h9 := HU.out.2.2.1.set 4 (.slice n0a n0 n0c); simpa using h9
  rw [← hW4]
  clear hW4 HU HX u0 u1 u2 u3 u4 u5 f0 f1 f2 f3 f4 f5 y0 y1 y2 y3 y4 y5 x0 x1 x2 x3 x4 x5
  obtain ⟨⟨x0, x1, x2, x3, x4, x5⟩, _⟩ := HZ.out.2.2.2.1.six2
  obtain ⟨⟨z0, z1, z2, z3, z4, z5⟩, ⟨g0, g1, g2, g3, g4, g5⟩⟩ := HZ.out.2.2.2.2.1.six2
  have HY : Hid (OwnB (setL W4 (B + 1) 0 (rqc 5 (pl + fr + sh) nn wa r1 n0a l1 n0 c1 n0c).toList) w.heap.size (.slice n0a n0 n0c) ((bs.drop fr).take N) ∧ OwnI (setL W4 (B + 1) 0 (rqc 5 (pl + fr + sh) nn wa r1 n0a l1 n0 c1 n0c).toList) w.heap.size (.slice r1 l1 c1) ws ∧ Below w.heap.size w (setL W4 (B + 1) 0 (rqc 5 (pl + fr + sh) nn wa r1 n0a l1 n0 c1 n0c).toList)) := ⟨row_setL HZ.out.1 ⟨_, HZ.out.2.2.2.2.1⟩ (by decide), row_setL HZ.out.2.1 ⟨_, HZ.out.2.2.2.2.1⟩ (by decide), setL_below (by have := HS.out.2.2.2.2; omega) _ _ _ HZ.out.2.2.1⟩
  have HL : Hid (l1 = ws.length ∧ l2 = bs.length) := HZ.out.2.2.2.2.2
  clear HZ
  go_wp2
  refine bodyPost_ret (v := .agg (rqc 5 (pl + fr + sh) nn wa r1 n0a l1 n0 c1 n0c)) (by simp [results, Try.results42, go_sem, x0, x1, x2, x3, x4, x5, z0, z1, z2, z3, z4, z5, d1, d2, d3, d4]) rfl ⟨r1, n0a, l1, n0, c1, n0c, rfl, HL.out.1, HN2.out, HY.out.2.1, HY.out.1, HY.out.2.2⟩
set_option maxRecDepth 20000 in
set_option maxHeartbeats 1000000 in
theorem piece_15 (pl nn wa sh : Int) (fr N : Nat) (q1 q2 : Option Addr) (m1 m2 k1 k2 : Nat) (ws : List Int) (bs : List Bool) (w : World) (h1 : m1 = ws.length) (h2 : m2 = bs.length) (s1 : SlI w q1 ws) (s2 : SlB w q2 bs) (hl1 : ws.length ≤ 2000000) (hl2 : bs.length ≤ 2000000) (hp : 0 ≤ pl ∧ pl ≤ 65535) (hf : fr ≤ 65536) (hN : N ≤ 65536) (hsh : -65535 ≤ sh ∧ sh ≤ 65535) (hin : fr + N ≤ bs.length) (hpos : 0 < N) (hk2 : m2 ≤ k2) :
    Calls Try.prog 42 #[.agg (rqc 15 pl nn wa q1 q2 m1 m2 k1 k2), .int .i64 (fr : Int), .int .i64 (N : Int), .int .i64 sh] w fun e w' => ReqPost w w' e 15 (pl + fr + sh) nn wa ws ((bs.drop fr).take N) := by
  obtain ⟨qb, qo, rfl⟩ := slB_some s2 (by omega)
  obtain ⟨B, hB⟩ : ∃ B, B = w.heap.size := ⟨_, rfl⟩
  obtain ⟨W, hW⟩ : ∃ W, W = (w.alloc (.cells (rqc 15 pl nn wa q1 (some ⟨qb, qo, none⟩) m1 m2 k1 k2) 28)).alloc (.cells #[.int .i64 0, .int .i64 0, .int .i64 0, .slice none 0 0, .slice none 0 0, .int .i64 0] 28) := ⟨_, rfl⟩
  have bW : Below w.heap.size w W := by rw [hW]; exact bel_next (bel_alloc _ _) (bel_alloc _ _)
  have HW : Hid (Below w.heap.size w W ∧ Blk W B 28 (rqc 15 pl nn wa q1 (some ⟨qb, qo, none⟩) m1 m2 k1 k2) ∧ Blk W (B + 1) 28 #[.int .i64 0, .int .i64 0, .int .i64 0, .slice none 0 0, .slice none 0 0, .int .i64 0] ∧ w.heap.size ≤ W.heap.size) := ⟨bW, by rw [hW, hB]; exact (Blk.new w _ _).below (bel_alloc _ _), by rw [hW, hB]; have := Blk.new (w.alloc (.cells (rqc 15 pl nn wa q1 (some ⟨qb, qo, none⟩) m1 m2 k1 k2) 28)) #[.int .i64 0, .int .i64 0, .int .i64 0, .slice none 0 0, .slice none 0 0, .int .i64 0] 28; simpa using this, bW.size⟩
  have HS : Hid (m1 = ws.length ∧ m2 = bs.length ∧ SlI w q1 ws ∧ SlB w (some ⟨qb, qo, none⟩) bs ∧ w.heap.size = B) := ⟨h1, h2, s1, s2, hB.symm⟩
  have e1 : IntKind.i64.wrap (pl + (fr : Int)) = pl + fr := by rw [IntKind.wrap_i64]; omega
  have e2 : IntKind.i64.wrap (pl + (fr : Int) + sh) = pl + fr + sh := by rw [IntKind.wrap_i64]; omega
  have hck : ¬ k2 = fr := by omega
  have i0 : (fr : Int) ≤ (fr : Int) + (N : Int) := by omega
  have i1 : (fr : Int) + (N : Int) ≤ (m2 : Int) := by omega
  have i2 : (fr : Int) + (N : Int) ≤ (k2 : Int) := by omega
  have i3' : (0 : Int) ≤ (fr : Int) := by omega
  have i4 : (0 : Int) ≤ (fr : Int) + (N : Int) := by omega
  have i5 : IntKind.i64.wrap ((fr : Int) + (N : Int)) = (fr : Int) + (N : Int) := by rw [IntKind.wrap_i64]; omega
  have i6 : (fr : Int) ≤ (k2 : Int) := by omega
  have HG : Hid (N = ((bs.drop fr).take N).length ∧ SlB w (some ⟨qb, qo + fr, none⟩) ((bs.drop fr).take N) ∧ ((bs.drop fr).take N).length ≤ 2000000) := ⟨by simp; omega, slB_off s2 hin, by simp; omega⟩
  clear hin
  clear bW h1 h2 s1 s2 hp hsh
  go_enter Try.func42, Try.ntmps42
  go_upto_region 1 with fail
  rw [← hW, ← hB]
  clear hW hB
  obtain ⟨⟨y0, y1, y2, y3, y4, y5⟩, _⟩ := HW.out.2.1.six2
  go_wp2_with fail
  refine (copyReq_any 15 pl nn wa q1 (some ⟨qb, qo, none⟩) m1 m2 k1 k2 ws bs _ HS.out.1 HS.out.2.1 (HS.out.2.2.1.below HW.out.1) (HS.out.2.2.2.1.below HW.out.1) hl1 hl2).mono ?_
  rintro e w1 ⟨r1, r2, l1, l2, c1, c2, rfl, g1, g2, o1, o2, b1⟩
  obtain ⟨B2, hB2⟩ : ∃ B2, B2 = w1.heap.size := ⟨_, rfl⟩
  have HU : Hid (Below w.heap.size w w1 ∧ Blk w1 B 28 (rqc 15 pl nn wa q1 (some ⟨qb, qo, none⟩) m1 m2 k1 k2) ∧ Blk w1 (B + 1) 28 #[.int .i64 0, .int .i64 0, .int .i64 0, .slice none 0 0, .slice none 0 0, .int .i64 0] ∧ OwnI w1 w.heap.size (.slice r1 l1 c1) ws ∧ OwnB w1 w.heap.size (.slice r2 l2 c2) bs ∧ l1 = ws.length ∧ l2 = bs.length ∧ B2 = w1.heap.size) := ⟨bel_next HW.out.1 b1, HW.out.2.1.below b1, HW.out.2.2.1.below b1, OwnI.mono o1 HW.out.1.size, OwnB.mono o2 HW.out.1.size, g1, g2, hB2⟩
  clear b1 o1 o2 g1 g2 HW y0 y1 y2 y3 y4 y5
  obtain ⟨⟨y0, y1, y2, y3, y4, y5⟩, _⟩ := HU.out.2.1.six2
  have d1 : ¬ B = B2 := by have := HU.out.2.1.lt; omega
  have d2 : ¬ B + 1 = B2 := by have := HU.out.2.2.1.lt; omega
  have d3 : ¬ B2 = B := fun e => d1 e.symm
  have d4 : ¬ B2 = B + 1 := fun e => d2 e.symm
  go_upto_region 2 with fail
  obtain ⟨W2, hW2⟩ : ∃ W2, W2 = w1.alloc (.cells (rqc 15 pl nn wa r1 r2 l1 l2 c1 c2) 28) := ⟨_, rfl⟩
  have bW2 : Below w1.heap.size w1 W2 := by rw [hW2]; exact bel_alloc _ _
  have HV : Hid (Below w.heap.size w W2 ∧ Blk W2 B 28 (rqc 15 pl nn wa q1 (some ⟨qb, qo, none⟩) m1 m2 k1 k2) ∧ Blk W2 (B + 1) 28 #[.int .i64 0, .int .i64 0, .int .i64 0, .slice none 0 0, .slice none 0 0, .int .i64 0] ∧ OwnI W2 w.heap.size (.slice r1 l1 c1) ws ∧ OwnB W2 w.heap.size (.slice r2 l2 c2) bs ∧ Blk W2 B2 28 (rqc 15 pl nn wa r1 r2 l1 l2 c1 c2) ∧ l1 = ws.length ∧ l2 = bs.length ∧ w.heap.size ≤ B2) := ⟨bel_next HU.out.1 bW2, HU.out.2.1.below bW2, HU.out.2.2.1.below bW2, HU.out.2.2.2.1.below bW2, HU.out.2.2.2.2.1.below bW2, by rw [hW2, hB2]; exact Blk.new w1 _ _, HU.out.2.2.2.2.2.1, HU.out.2.2.2.2.2.2.1, by rw [hB2]; exact HU.out.1.size⟩
  rw [← hW2, ← hB2]
  clear hW2 hB2 HU bW2 y0 y1 y2 y3 y4 y5
  obtain ⟨⟨y0, y1, y2, y3, y4, y5⟩, _⟩ := HV.out.2.1.six2
  obtain ⟨⟨x0, x1, x2, x3, x4, x5⟩, ⟨f0, f1, f2, f3, f4, f5⟩⟩ := HV.out.2.2.2.2.2.1.six2
  go_upto_region 3 with fail
  obtain ⟨W3, hW3⟩ : ∃ W3, W3 = W2.setCell ⟨B2, 1, none⟩ (.int .i64 (pl + fr + sh)) := ⟨_, rfl⟩
  have HX : Hid (Below w.heap.size w W3 ∧ Blk W3 B 28 (rqc 15 pl nn wa q1 (some ⟨qb, qo, none⟩) m1 m2 k1 k2) ∧ Blk W3 (B + 1) 28 #[.int .i64 0, .int .i64 0, .int .i64 0, .slice none 0 0, .slice none 0 0, .int .i64 0] ∧ OwnI W3 w.heap.size (.slice r1 l1 c1) ws ∧ OwnB W3 w.heap.size (.slice r2 l2 c2) bs ∧ Blk W3 B2 28 (rqc 15 (pl + fr + sh) nn wa r1 r2 l1 l2 c1 c2) ∧ l1 = ws.length ∧ l2 = bs.length ∧ w.heap.size ≤ B2 ∧ w.heap.size ≤ W3.heap.size) := by
    have hb : Below w.heap.size w W3 := by rw [hW3]; exact HV.out.1.setCell (p := ⟨B2, 1, none⟩) HV.out.2.2.2.2.2.2.2.2 _
    refine ⟨hb, by rw [hW3]; exact HV.out.2.1.setNe d1, by rw [hW3]; exact HV.out.2.2.1.setNe d2, by rw [hW3]; exact row_setE HV.out.2.2.2.1 ⟨_, HV.out.2.2.2.2.2.1⟩ (by decide), by rw [hW3]; exact row_setE HV.out.2.2.2.2.1 ⟨_, HV.out.2.2.2.2.2.1⟩ (by decide), ?_, HV.out.2.2.2.2.2.2.1, HV.out.2.2.2.2.2.2.2.1, HV.out.2.2.2.2.2.2.2.2, hb.size⟩
    rw [hW3]; have h9 := HV.out.2.2.2.2.2.1.set 1 (.int .i64 (pl + fr + sh)); simpa using h9
  rw [← hW3]
  clear hW3 HV x0 x1 x2 x3 x4 x5 f0 f1 f2 f3 f4 f5 y0 y1 y2 y3 y4 y5
  obtain ⟨⟨y0, y1, y2, y3, y4, y5⟩, _⟩ := (HX.out.2.1.below (bel_alloc W3 (.cells #[] 4))).six2
  obtain ⟨⟨x0, x1, x2, x3, x4, x5⟩, _⟩ := HX.out.2.1.six2
  go_upto_region 15 with (at_builtin; refine wpList_appBO rfl (.tmp 24) (.tmp 31) rfl w.heap.size (.slice (some ⟨W3.heap.size, 0, none⟩) 0 0) [] rfl (newB W3 w.heap.size HX.out.2.2.2.2.2.2.2.2.2) (some ⟨qb, qo + fr, none⟩) (fr + N - fr) (k2 - fr) ((bs.drop fr).take N) rfl (by have := HG.out.1; omega) (HG.out.2.1.below (bel_next HX.out.1 (bel_alloc _ _))) (by have := HG.out.2.2; simp only [List.length_nil]; omega) (by have := HX.out.2.2.2.2.2.2.2.2.2; simp; omega) ?_; intro v2 w2 O2 g2'; have g2 : (W3.alloc (.cells #[] 4)).grownBy w2 (some W3.heap.size) := g2'; clear g2'; have HU : Hid (OwnB w2 w.heap.size v2 ((bs.drop fr).take N) ∧ Below w.heap.size w w2 ∧ Blk w2 B2 28 (rqc 15 (pl + fr + sh) nn wa r1 r2 l1 l2 c1 c2) ∧ Blk w2 (B + 1) 28 #[.int .i64 0, .int .i64 0, .int .i64 0, .slice none 0 0, .slice none 0 0, .int .i64 0] ∧ OwnI w2 w.heap.size (.slice r1 l1 c1) ws ∧ l1 = ws.length ∧ l2 = bs.length ∧ w.heap.size ≤ B2) := ⟨by simpa using O2, grown_below2 (bel_next HX.out.1 (bel_alloc _ _)) g2 HX.out.2.2.2.2.2.2.2.2.2 (by have := HX.out.2.2.2.2.2.2.2.2.2; simp; omega), (HX.out.2.2.2.2.2.1.below (bel_alloc _ _)).grown g2 (by have := HX.out.2.2.2.2.2.1.lt; intro e9; have := Option.some.inj e9; omega), (HX.out.2.2.1.below (bel_alloc _ _)).grown g2 (by have := HX.out.2.2.1.lt; intro e9; have := Option.some.inj e9; omega), (OwnI.below HX.out.2.2.2.1 (bel_alloc _ _)).kept g2 (.inr (by intro e9; have := (World.ownsRow.lt HX.out.2.2.2.1 _ e9).2; simp at this)), HX.out.2.2.2.2.2.2.1, HX.out.2.2.2.2.2.2.2.1, HX.out.2.2.2.2.2.2.2.2.1⟩; clear O2 g2; obtain ⟨n0a, n0c, n0, hv2, hn2⟩ := ownB_shape HU.out.1; subst hv2; have HN2 : Hid (n0 = ((bs.drop fr).take N).length) := hn2; clear hn2; obtain ⟨⟨u0, u1, u2, u3, u4, u5⟩, ⟨f0, f1, f2, f3, f4, f5⟩⟩ := HU.out.2.2.1.six2)
  obtain ⟨W4, hW4⟩ : ∃ W4, W4 = w2.setCell ⟨B2, 4, none⟩ (.slice n0a n0 n0c) := ⟨_, rfl⟩
  have HZ : Hid (OwnB W4 w.heap.size (.slice n0a n0 n0c) ((bs.drop fr).take N) ∧ OwnI W4 w.heap.size (.slice r1 l1 c1) ws ∧ Below w.heap.size w W4 ∧ Blk W4 B2 28 (rqc 15 (pl + fr + sh) nn wa r1 n0a l1 n0 c1 n0c) ∧ Blk W4 (B + 1) 28 #[.int .i64 0, .int .i64 0, .int .i64 0, .slice none 0 0, .slice none 0 0, .int .i64 0] ∧ l1 = ws.length ∧ l2 = bs.length) := by
    have hb : Below w.heap.size w W4 := by rw [hW4]; exact HU.out.2.1.setCell (p := ⟨B2, 4, none⟩) HU.out.2.2.2.2.2.2.2 _
    refine ⟨by rw [hW4]; exact row_setE HU.out.1 ⟨_, HU.out.2.2.1⟩ (by decide), by rw [hW4]; exact row_setE HU.out.2.2.2.2.1 ⟨_, HU.out.2.2.1⟩ (by decide), hb, ?_, by rw [hW4]; exact HU.out.2.2.2.1.setNe d2, HU.out.2.2.2.2.2.1, HU.out.2.2.2.2.2.2.1⟩
    rw [hW4]; have h9 := HU.out.2.2.1.set 4 (.slice n0a n0 n0c); simpa using h9
  rw [← hW4]
  clear hW4 HU HX u0 u1 u2 u3 u4 u5 f0 f1 f2 f3 f4 f5 y0 y1 y2 y3 y4 y5 x0 x1 x2 x3 x4 x5
  obtain ⟨⟨x0, x1, x2, x3, x4, x5⟩, _⟩ := HZ.out.2.2.2.1.six2
  obtain ⟨⟨z0, z1, z2, z3, z4, z5⟩, ⟨g0, g1, g2, g3, g4, g5⟩⟩ := HZ.out.2.2.2.2.1.six2
  have HY : Hid (OwnB (setL W4 (B + 1) 0 (rqc 15 (pl + fr + sh) nn wa r1 n0a l1 n0 c1 n0c).toList) w.heap.size (.slice n0a n0 n0c) ((bs.drop fr).take N) ∧ OwnI (setL W4 (B + 1) 0 (rqc 15 (pl + fr + sh) nn wa r1 n0a l1 n0 c1 n0c).toList) w.heap.size (.slice r1 l1 c1) ws ∧ Below w.heap.size w (setL W4 (B + 1) 0 (rqc 15 (pl + fr + sh) nn wa r1 n0a l1 n0 c1 n0c).toList)) := ⟨row_setL HZ.out.1 ⟨_, HZ.out.2.2.2.2.1⟩ (by decide), row_setL HZ.out.2.1 ⟨_, HZ.out.2.2.2.2.1⟩ (by decide), setL_below (by have := HS.out.2.2.2.2; omega) _ _ _ HZ.out.2.2.1⟩
  have HL : Hid (l1 = ws.length ∧ l2 = bs.length) := HZ.out.2.2.2.2.2
  clear HZ
  go_wp2
  refine bodyPost_ret (v := .agg (rqc 15 (pl + fr + sh) nn wa r1 n0a l1 n0 c1 n0c)) (by simp [results, Try.results42, go_sem, x0, x1, x2, x3, x4, x5, z0, z1, z2, z3, z4, z5, d1, d2, d3, d4]) rfl ⟨r1, n0a, l1, n0, c1, n0c, rfl, HL.out.1, HN2.out, HY.out.2.1, HY.out.1, HY.out.2.2⟩
set_option maxRecDepth 20000 in
set_option maxHeartbeats 1000000 in
theorem piece_6 (pl nn wa sh : Int) (fr N : Nat) (q1 q2 : Option Addr) (m1 m2 k1 k2 : Nat) (ws : List Int) (bs : List Bool) (w : World) (h1 : m1 = ws.length) (h2 : m2 = bs.length) (s1 : SlI w q1 ws) (s2 : SlB w q2 bs) (hl1 : ws.length ≤ 2000000) (hl2 : bs.length ≤ 2000000) (hp : 0 ≤ pl ∧ pl ≤ 65535) (hf : fr ≤ 65536) (hN : N ≤ 65536) (hsh : -65535 ≤ sh ∧ sh ≤ 65535) (hin : fr + N ≤ ws.length) (hpos : 0 < N) (hk1 : m1 ≤ k1) :
    Calls Try.prog 42 #[.agg (rqc 6 pl nn wa q1 q2 m1 m2 k1 k2), .int .i64 (fr : Int), .int .i64 (N : Int), .int .i64 sh] w fun e w' => ReqPost w w' e 6 (pl + fr + sh) nn wa ((ws.drop fr).take N) bs := by
  obtain ⟨qb, qo, rfl⟩ := slI_some s1 (by omega)
  obtain ⟨B, hB⟩ : ∃ B, B = w.heap.size := ⟨_, rfl⟩
  obtain ⟨W, hW⟩ : ∃ W, W = (w.alloc (.cells (rqc 6 pl nn wa (some ⟨qb, qo, none⟩) q2 m1 m2 k1 k2) 28)).alloc (.cells #[.int .i64 0, .int .i64 0, .int .i64 0, .slice none 0 0, .slice none 0 0, .int .i64 0] 28) := ⟨_, rfl⟩
  have bW : Below w.heap.size w W := by rw [hW]; exact bel_next (bel_alloc _ _) (bel_alloc _ _)
  have HW : Hid (Below w.heap.size w W ∧ Blk W B 28 (rqc 6 pl nn wa (some ⟨qb, qo, none⟩) q2 m1 m2 k1 k2) ∧ Blk W (B + 1) 28 #[.int .i64 0, .int .i64 0, .int .i64 0, .slice none 0 0, .slice none 0 0, .int .i64 0] ∧ w.heap.size ≤ W.heap.size) := ⟨bW, by rw [hW, hB]; exact (Blk.new w _ _).below (bel_alloc _ _), by rw [hW, hB]; have := Blk.new (w.alloc (.cells (rqc 6 pl nn wa (some ⟨qb, qo, none⟩) q2 m1 m2 k1 k2) 28)) #[.int .i64 0, .int .i64 0, .int .i64 0, .slice none 0 0, .slice none 0 0, .int .i64 0] 28; simpa using this, bW.size⟩
  have HS : Hid (m1 = ws.length ∧ m2 = bs.length ∧ SlI w (some ⟨qb, qo, none⟩) ws ∧ SlB w q2 bs ∧ w.heap.size = B) := ⟨h1, h2, s1, s2, hB.symm⟩
  have e1 : IntKind.i64.wrap (pl + (fr : Int)) = pl + fr := by rw [IntKind.wrap_i64]; omega
  have e2 : IntKind.i64.wrap (pl + (fr : Int) + sh) = pl + fr + sh := by rw [IntKind.wrap_i64]; omega
  have hck : ¬ k1 = fr := by omega
  have i0 : (fr : Int) ≤ (fr : Int) + (N : Int) := by omega
  have i1 : (fr : Int) + (N : Int) ≤ (m1 : Int) := by omega
  have i2 : (fr : Int) + (N : Int) ≤ (k1 : Int) := by omega
  have i3' : (0 : Int) ≤ (fr : Int) := by omega
  have i4 : (0 : Int) ≤ (fr : Int) + (N : Int) := by omega
  have i5 : IntKind.i64.wrap ((fr : Int) + (N : Int)) = (fr : Int) + (N : Int) := by rw [IntKind.wrap_i64]; omega
  have i6 : (fr : Int) ≤ (k1 : Int) := by omega
  have HG : Hid (N = ((ws.drop fr).take N).length ∧ SlI w (some ⟨qb, qo + fr, none⟩) ((ws.drop fr).take N) ∧ ((ws.drop fr).take N).length ≤ 2000000) := ⟨by simp; omega, slI_off s1 hin, by simp; omega⟩
  clear hin
  clear bW h1 h2 s1 s2 hp hsh
  go_enter Try.func42, Try.ntmps42
  go_upto_region 1 with fail
  rw [← hW, ← hB]
  clear hW hB
  obtain ⟨⟨y0, y1, y2, y3, y4, y5⟩, _⟩ := HW.out.2.1.six2
  go_wp2_with fail
  refine (copyReq_any 6 pl nn wa (some ⟨qb, qo, none⟩) q2 m1 m2 k1 k2 ws bs _ HS.out.1 HS.out.2.1 (HS.out.2.2.1.below HW.out.1) (HS.out.2.2.2.1.below HW.out.1) hl1 hl2).mono ?_
  rintro e w1 ⟨r1, r2, l1, l2, c1, c2, rfl, g1, g2, o1, o2, b1⟩
  obtain ⟨B2, hB2⟩ : ∃ B2, B2 = w1.heap.size := ⟨_, rfl⟩
  have HU : Hid (Below w.heap.size w w1 ∧ Blk w1 B 28 (rqc 6 pl nn wa (some ⟨qb, qo, none⟩) q2 m1 m2 k1 k2) ∧ Blk w1 (B + 1) 28 #[.int .i64 0, .int .i64 0, .int .i64 0, .slice none 0 0, .slice none 0 0, .int .i64 0] ∧ OwnI w1 w.heap.size (.slice r1 l1 c1) ws ∧ OwnB w1 w.heap.size (.slice r2 l2 c2) bs ∧ l1 = ws.length ∧ l2 = bs.length ∧ B2 = w1.heap.size) := ⟨bel_next HW.out.1 b1, HW.out.2.1.below b1, HW.out.2.2.1.below b1, OwnI.mono o1 HW.out.1.size, OwnB.mono o2 HW.out.1.size, g1, g2, hB2⟩
  clear b1 o1 o2 g1 g2 HW y0 y1 y2 y3 y4 y5
  obtain ⟨⟨y0, y1, y2, y3, y4, y5⟩, _⟩ := HU.out.2.1.six2
  have d1 : ¬ B = B2 := by have := HU.out.2.1.lt; omega
  have d2 : ¬ B + 1 = B2 := by have := HU.out.2.2.1.lt; omega
  have d3 : ¬ B2 = B := fun e => d1 e.symm
  have d4 : ¬ B2 = B + 1 := fun e => d2 e.symm
  go_upto_region 2 with fail
  obtain ⟨W2, hW2⟩ : ∃ W2, W2 = w1.alloc (.cells (rqc 6 pl nn wa r1 r2 l1 l2 c1 c2) 28) := ⟨_, rfl⟩
  have bW2 : Below w1.heap.size w1 W2 := by rw [hW2]; exact bel_alloc _ _
  have HV : Hid (Below w.heap.size w W2 ∧ Blk W2 B 28 (rqc 6 pl nn wa (some ⟨qb, qo, none⟩) q2 m1 m2 k1 k2) ∧ Blk W2 (B + 1) 28 #[.int .i64 0, .int .i64 0, .int .i64 0, .slice none 0 0, .slice none 0 0, .int .i64 0] ∧ OwnI W2 w.heap.size (.slice r1 l1 c1) ws ∧ OwnB W2 w.heap.size (.slice r2 l2 c2) bs ∧ Blk W2 B2 28 (rqc 6 pl nn wa r1 r2 l1 l2 c1 c2) ∧ l1 = ws.length ∧ l2 = bs.length ∧ w.heap.size ≤ B2) := ⟨bel_next HU.out.1 bW2, HU.out.2.1.below bW2, HU.out.2.2.1.below bW2, HU.out.2.2.2.1.below bW2, HU.out.2.2.2.2.1.below bW2, by rw [hW2, hB2]; exact Blk.new w1 _ _, HU.out.2.2.2.2.2.1, HU.out.2.2.2.2.2.2.1, by rw [hB2]; exact HU.out.1.size⟩
  rw [← hW2, ← hB2]
  clear hW2 hB2 HU bW2 y0 y1 y2 y3 y4 y5
  obtain ⟨⟨y0, y1, y2, y3, y4, y5⟩, _⟩ := HV.out.2.1.six2
  obtain ⟨⟨x0, x1, x2, x3, x4, x5⟩, ⟨f0, f1, f2, f3, f4, f5⟩⟩ := HV.out.2.2.2.2.2.1.six2
  go_upto_region 3 with fail
  obtain ⟨W3, hW3⟩ : ∃ W3, W3 = W2.setCell ⟨B2, 1, none⟩ (.int .i64 (pl + fr + sh)) := ⟨_, rfl⟩
  have HX : Hid (Below w.heap.size w W3 ∧ Blk W3 B 28 (rqc 6 pl nn wa (some ⟨qb, qo, none⟩) q2 m1 m2 k1 k2) ∧ Blk W3 (B + 1) 28 #[.int .i64 0, .int .i64 0, .int .i64 0, .slice none 0 0, .slice none 0 0, .int .i64 0] ∧ OwnI W3 w.heap.size (.slice r1 l1 c1) ws ∧ OwnB W3 w.heap.size (.slice r2 l2 c2) bs ∧ Blk W3 B2 28 (rqc 6 (pl + fr + sh) nn wa r1 r2 l1 l2 c1 c2) ∧ l1 = ws.length ∧ l2 = bs.length ∧ w.heap.size ≤ B2 ∧ w.heap.size ≤ W3.heap.size) := by
    have hb : Below w.heap.size w W3 := by rw [hW3]; exact HV.out.1.setCell (p := ⟨B2, 1, none⟩) HV.out.2.2.2.2.2.2.2.2 _
    refine ⟨hb, by rw [hW3]; exact HV.out.2.1.setNe d1, by rw [hW3]; exact HV.out.2.2.1.setNe d2, by rw [hW3]; exact row_setE HV.out.2.2.2.1 ⟨_, HV.out.2.2.2.2.2.1⟩ (by decide), by rw [hW3]; exact row_setE HV.out.2.2.2.2.1 ⟨_, HV.out.2.2.2.2.2.1⟩ (by decide), ?_, HV.out.2.2.2.2.2.2.1, HV.out.2.2.2.2.2.2.2.1, HV.out.2.2.2.2.2.2.2.2, hb.size⟩
    rw [hW3]; have h9 := HV.out.2.2.2.2.2.1.set 1 (.int .i64 (pl + fr + sh)); simpa using h9
  rw [← hW3]
  clear hW3 HV x0 x1 x2 x3 x4 x5 f0 f1 f2 f3 f4 f5 y0 y1 y2 y3 y4 y5
  obtain ⟨⟨y0, y1, y2, y3, y4, y5⟩, _⟩ := (HX.out.2.1.below (bel_alloc W3 (.cells #[] 3))).six2
  obtain ⟨⟨x0, x1, x2, x3, x4, x5⟩, _⟩ := HX.out.2.1.six2
  go_upto_region 15 with (at_builtin; refine wpList_appIO rfl (.tmp 37) (.tmp 44) rfl w.heap.size (.slice (some ⟨W3.heap.size, 0, none⟩) 0 0) [] rfl (newI W3 w.heap.size HX.out.2.2.2.2.2.2.2.2.2) (some ⟨qb, qo + fr, none⟩) (fr + N - fr) (k1 - fr) ((ws.drop fr).take N) rfl (by have := HG.out.1; omega) (HG.out.2.1.below (bel_next HX.out.1 (bel_alloc _ _))) (by have := HG.out.2.2; simp only [List.length_nil]; omega) (by have := HX.out.2.2.2.2.2.2.2.2.2; simp; omega) ?_; intro v2 w2 O2 g2'; have g2 : (W3.alloc (.cells #[] 3)).grownBy w2 (some W3.heap.size) := g2'; clear g2'; have HU : Hid (OwnI w2 w.heap.size v2 ((ws.drop fr).take N) ∧ Below w.heap.size w w2 ∧ Blk w2 B2 28 (rqc 6 (pl + fr + sh) nn wa r1 r2 l1 l2 c1 c2) ∧ Blk w2 (B + 1) 28 #[.int .i64 0, .int .i64 0, .int .i64 0, .slice none 0 0, .slice none 0 0, .int .i64 0] ∧ OwnB w2 w.heap.size (.slice r2 l2 c2) bs ∧ l1 = ws.length ∧ l2 = bs.length ∧ w.heap.size ≤ B2) := ⟨by simpa using O2, grown_below2 (bel_next HX.out.1 (bel_alloc _ _)) g2 HX.out.2.2.2.2.2.2.2.2.2 (by have := HX.out.2.2.2.2.2.2.2.2.2; simp; omega), (HX.out.2.2.2.2.2.1.below (bel_alloc _ _)).grown g2 (by have := HX.out.2.2.2.2.2.1.lt; intro e9; have := Option.some.inj e9; omega), (HX.out.2.2.1.below (bel_alloc _ _)).grown g2 (by have := HX.out.2.2.1.lt; intro e9; have := Option.some.inj e9; omega), (OwnB.below HX.out.2.2.2.2.1 (bel_alloc _ _)).kept g2 (.inr (by intro e9; have := (World.ownsRow.lt HX.out.2.2.2.2.1 _ e9).2; simp at this)), HX.out.2.2.2.2.2.2.1, HX.out.2.2.2.2.2.2.2.1, HX.out.2.2.2.2.2.2.2.2.1⟩; clear O2 g2; obtain ⟨n0a, n0c, n0, hv2, hn2⟩ := ownI_shape2 HU.out.1; subst hv2; have HN2 : Hid (n0 = ((ws.drop fr).take N).length) := hn2; clear hn2; obtain ⟨⟨u0, u1, u2, u3, u4, u5⟩, ⟨f0, f1, f2, f3, f4, f5⟩⟩ := HU.out.2.2.1.six2)
  obtain ⟨W4, hW4⟩ : ∃ W4, W4 = w2.setCell ⟨B2, 3, none⟩ (.slice n0a n0 n0c) := ⟨_, rfl⟩
  have HZ : Hid (OwnI W4 w.heap.size (.slice n0a n0 n0c) ((ws.drop fr).take N) ∧ OwnB W4 w.heap.size (.slice r2 l2 c2) bs ∧ Below w.heap.size w W4 ∧ Blk W4 B2 28 (rqc 6 (pl + fr + sh) nn wa n0a r2 n0 l2 n0c c2) ∧ Blk W4 (B + 1) 28 #[.int .i64 0, .int .i64 0, .int .i64 0, .slice none 0 0, .slice none 0 0, .int .i64 0] ∧ l1 = ws.length ∧ l2 = bs.length) := by
    have hb : Below w.heap.size w W4 := by rw [hW4]; exact HU.out.2.1.setCell (p := ⟨B2, 3, none⟩) HU.out.2.2.2.2.2.2.2 _
    refine ⟨by rw [hW4]; exact row_setE HU.out.1 ⟨_, HU.out.2.2.1⟩ (by decide), by rw [hW4]; exact row_setE HU.out.2.2.2.2.1 ⟨_, HU.out.2.2.1⟩ (by decide), hb, ?_, by rw [hW4]; exact HU.out.2.2.2.1.setNe d2, HU.out.2.2.2.2.2.1, HU.out.2.2.2.2.2.2.1⟩
    rw [hW4]; have h9 := HU.out.2.2.1.set 3 (.slice n0a n0 n0c); simpa using h9
  rw [← hW4]
  clear hW4 HU HX u0 u1 u2 u3 u4 u5 f0 f1 f2 f3 f4 f5 y0 y1 y2 y3 y4 y5 x0 x1 x2 x3 x4 x5
  obtain ⟨⟨x0, x1, x2, x3, x4, x5⟩, _⟩ := HZ.out.2.2.2.1.six2
  obtain ⟨⟨z0, z1, z2, z3, z4, z5⟩, ⟨g0, g1, g2, g3, g4, g5⟩⟩ := HZ.out.2.2.2.2.1.six2
  have HY : Hid (OwnI (setL W4 (B + 1) 0 (rqc 6 (pl + fr + sh) nn wa n0a r2 n0 l2 n0c c2).toList) w.heap.size (.slice n0a n0 n0c) ((ws.drop fr).take N) ∧ OwnB (setL W4 (B + 1) 0 (rqc 6 (pl + fr + sh) nn wa n0a r2 n0 l2 n0c c2).toList) w.heap.size (.slice r2 l2 c2) bs ∧ Below w.heap.size w (setL W4 (B + 1) 0 (rqc 6 (pl + fr + sh) nn wa n0a r2 n0 l2 n0c c2).toList)) := ⟨row_setL HZ.out.1 ⟨_, HZ.out.2.2.2.2.1⟩ (by decide), row_setL HZ.out.2.1 ⟨_, HZ.out.2.2.2.2.1⟩ (by decide), setL_below (by have := HS.out.2.2.2.2; omega) _ _ _ HZ.out.2.2.1⟩
  have HL : Hid (l1 = ws.length ∧ l2 = bs.length) := HZ.out.2.2.2.2.2
  clear HZ
  go_wp2
  refine bodyPost_ret (v := .agg (rqc 6 (pl + fr + sh) nn wa n0a r2 n0 l2 n0c c2)) (by simp [results, Try.results42, go_sem, x0, x1, x2, x3, x4, x5, z0, z1, z2, z3, z4, z5, d1, d2, d3, d4]) rfl ⟨n0a, r2, n0, l2, n0c, c2, rfl, HN2.out, HL.out.2, HY.out.1, HY.out.2.1, HY.out.2.2⟩
set_option maxRecDepth 20000 in
set_option maxHeartbeats 1000000 in
theorem piece_16 (pl nn wa sh : Int) (fr N : Nat) (q1 q2 : Option Addr) (m1 m2 k1 k2 : Nat) (ws : List Int) (bs : List Bool) (w : World) (h1 : m1 = ws.length) (h2 : m2 = bs.length) (s1 : SlI w q1 ws) (s2 : SlB w q2 bs) (hl1 : ws.length ≤ 2000000) (hl2 : bs.length ≤ 2000000) (hp : 0 ≤ pl ∧ pl ≤ 65535) (hf : fr ≤ 65536) (hN : N ≤ 65536) (hsh : -65535 ≤ sh ∧ sh ≤ 65535) (hin : fr + N ≤ ws.length) (hpos : 0 < N) (hk1 : m1 ≤ k1) :
    Calls Try.prog 42 #[.agg (rqc 16 pl nn wa q1 q2 m1 m2 k1 k2), .int .i64 (fr : Int), .int .i64 (N : Int), .int .i64 sh] w fun e w' => ReqPost w w' e 16 (pl + fr + sh) nn wa ((ws.drop fr).take N) bs := by
  obtain ⟨qb, qo, rfl⟩ := slI_some s1 (by omega)
  obtain ⟨B, hB⟩ : ∃ B, B = w.heap.size := ⟨_, rfl⟩
  obtain ⟨W, hW⟩ : ∃ W, W = (w.alloc (.cells (rqc 16 pl nn wa (some ⟨qb, qo, none⟩) q2 m1 m2 k1 k2) 28)).alloc (.cells #[.int .i64 0, .int .i64 0, .int .i64 0, .slice none 0 0, .slice none 0 0, .int .i64 0] 28) := ⟨_, rfl⟩
  have bW : Below w.heap.size w W := by rw [hW]; exact bel_next (bel_alloc _ _) (bel_alloc _ _)
  have HW : Hid (Below w.heap.size w W ∧ Blk W B 28 (rqc 16 pl nn wa (some ⟨qb, qo, none⟩) q2 m1 m2 k1 k2) ∧ Blk W (B + 1) 28 #[.int .i64 0, .int .i64 0, .int .i64 0, .slice none 0 0, .slice none 0 0, .int .i64 0] ∧ w.heap.size ≤ W.heap.size) := ⟨bW, by rw [hW, hB]; exact (Blk.new w _ _).below (bel_alloc _ _), by rw [hW, hB]; have := Blk.new (w.alloc (.cells (rqc 16 pl nn wa (some ⟨qb, qo, none⟩) q2 m1 m2 k1 k2) 28)) #[.int .i64 0, .int .i64 0, .int .i64 0, .slice none 0 0, .slice none 0 0, .int .i64 0] 28; simpa using this, bW.size⟩
  have HS : Hid (m1 = ws.length ∧ m2 = bs.length ∧ SlI w (some ⟨qb, qo, none⟩) ws ∧ SlB w q2 bs ∧ w.heap.size = B) := ⟨h1, h2, s1, s2, hB.symm⟩
  have e1 : IntKind.i64.wrap (pl + (fr : Int)) = pl + fr := by rw [IntKind.wrap_i64]; omega
  have e2 : IntKind.i64.wrap (pl + (fr : Int) + sh) = pl + fr + sh := by rw [IntKind.wrap_i64]; omega
  have hck : ¬ k1 = fr := by omega
  have i0 : (fr : Int) ≤ (fr : Int) + (N : Int) := by omega
  have i1 : (fr : Int) + (N : Int) ≤ (m1 : Int) := by omega
  have i2 : (fr : Int) + (N : Int) ≤ (k1 : Int) := by omega
  have i3' : (0 : Int) ≤ (fr : Int) := by omega
  have i4 : (0 : Int) ≤ (fr : Int) + (N : Int) := by omega
  have i5 : IntKind.i64.wrap ((fr : Int) + (N : Int)) = (fr : Int) + (N : Int) := by rw [IntKind.wrap_i64]; omega
  have i6 : (fr : Int) ≤ (k1 : Int) := by omega
  have HG : Hid (N = ((ws.drop fr).take N).length ∧ SlI w (some ⟨qb, qo + fr, none⟩) ((ws.drop fr).take N) ∧ ((ws.drop fr).take N).length ≤ 2000000) := ⟨by simp; omega, slI_off s1 hin, by simp; omega⟩
  clear hin
  clear bW h1 h2 s1 s2 hp hsh
  go_enter Try.func42, Try.ntmps42
  go_upto_region 1 with fail
  rw [← hW, ← hB]
  clear hW hB
  obtain ⟨⟨y0, y1, y2, y3, y4, y5⟩, _⟩ := HW.out.2.1.six2
  go_wp2_with fail
  refine (copyReq_any 16 pl nn wa (some ⟨qb, qo, none⟩) q2 m1 m2 k1 k2 ws bs _ HS.out.1 HS.out.2.1 (HS.out.2.2.1.below HW.out.1) (HS.out.2.2.2.1.below HW.out.1) hl1 hl2).mono ?_
  rintro e w1 ⟨r1, r2, l1, l2, c1, c2, rfl, g1, g2, o1, o2, b1⟩
  obtain ⟨B2, hB2⟩ : ∃ B2, B2 = w1.heap.size := ⟨_, rfl⟩
  have HU : Hid (Below w.heap.size w w1 ∧ Blk w1 B 28 (rqc 16 pl nn wa (some ⟨qb, qo, none⟩) q2 m1 m2 k1 k2) ∧ Blk w1 (B + 1) 28 #[.int .i64 0, .int .i64 0, .int .i64 0, .slice none 0 0, .slice none 0 0, .int .i64 0] ∧ OwnI w1 w.heap.size (.slice r1 l1 c1) ws ∧ OwnB w1 w.heap.size (.slice r2 l2 c2) bs ∧ l1 = ws.length ∧ l2 = bs.length ∧ B2 = w1.heap.size) := ⟨bel_next HW.out.1 b1, HW.out.2.1.below b1, HW.out.2.2.1.below b1, OwnI.mono o1 HW.out.1.size, OwnB.mono o2 HW.out.1.size, g1, g2, hB2⟩
  clear b1 o1 o2 g1 g2 HW y0 y1 y2 y3 y4 y5
  obtain ⟨⟨y0, y1, y2, y3, y4, y5⟩, _⟩ := HU.out.2.1.six2
  have d1 : ¬ B = B2 := by have := HU.out.2.1.lt; omega
  have d2 : ¬ B + 1 = B2 := by have := HU.out.2.2.1.lt; omega
  have d3 : ¬ B2 = B := fun e => d1 e.symm
  have d4 : ¬ B2 = B + 1 := fun e => d2 e.symm
  go_upto_region 2 with fail
  obtain ⟨W2, hW2⟩ : ∃ W2, W2 = w1.alloc (.cells (rqc 16 pl nn wa r1 r2 l1 l2 c1 c2) 28) := ⟨_, rfl⟩
  have bW2 : Below w1.heap.size w1 W2 := by rw [hW2]; exact bel_alloc _ _
  have HV : Hid (Below w.heap.size w W2 ∧ Blk W2 B 28 (rqc 16 pl nn wa (some ⟨qb, qo, none⟩) q2 m1 m2 k1 k2) ∧ Blk W2 (B + 1) 28 #[.int .i64 0, .int .i64 0, .int .i64 0, .slice none 0 0, .slice none 0 0, .int .i64 0] ∧ OwnI W2 w.heap.size (.slice r1 l1 c1) ws ∧ OwnB W2 w.heap.size (.slice r2 l2 c2) bs ∧ Blk W2 B2 28 (rqc 16 pl nn wa r1 r2 l1 l2 c1 c2) ∧ l1 = ws.length ∧ l2 = bs.length ∧ w.heap.size ≤ B2) := ⟨bel_next HU.out.1 bW2, HU.out.2.1.below bW2, HU.out.2.2.1.below bW2, HU.out.2.2.2.1.below bW2, HU.out.2.2.2.2.1.below bW2, by rw [hW2, hB2]; exact Blk.new w1 _ _, HU.out.2.2.2.2.2.1, HU.out.2.2.2.2.2.2.1, by rw [hB2]; exact HU.out.1.size⟩
  rw [← hW2, ← hB2]
  clear hW2 hB2 HU bW2 y0 y1 y2 y3 y4 y5
  obtain ⟨⟨y0, y1, y2, y3, y4, y5⟩, _⟩ := HV.out.2.1.six2
  obtain ⟨⟨x0, x1, x2, x3, x4, x5⟩, ⟨f0, f1, f2, f3, f4, f5⟩⟩ := HV.out.2.2.2.2.2.1.six2
  go_upto_region 3 with fail
  obtain ⟨W3, hW3⟩ : ∃ W3, W3 = W2.setCell ⟨B2, 1, none⟩ (.int .i64 (pl + fr + sh)) := ⟨_, rfl⟩
  have HX : Hid (Below w.heap.size w W3 ∧ Blk W3 B 28 (rqc 16 pl nn wa (some ⟨qb, qo, none⟩) q2 m1 m2 k1 k2) ∧ Blk W3 (B + 1) 28 #[.int .i64 0, .int .i64 0, .int .i64 0, .slice none 0 0, .slice none 0 0, .int .i64 0] ∧ OwnI W3 w.heap.size (.slice r1 l1 c1) ws ∧ OwnB W3 w.heap.size (.slice r2 l2 c2) bs ∧ Blk W3 B2 28 (rqc 16 (pl + fr + sh) nn wa r1 r2 l1 l2 c1 c2) ∧ l1 = ws.length ∧ l2 = bs.length ∧ w.heap.size ≤ B2 ∧ w.heap.size ≤ W3.heap.size) := by
    have hb : Below w.heap.size w W3 := by rw [hW3]; exact HV.out.1.setCell (p := ⟨B2, 1, none⟩) HV.out.2.2.2.2.2.2.2.2 _
    refine ⟨hb, by rw [hW3]; exact HV.out.2.1.setNe d1, by rw [hW3]; exact HV.out.2.2.1.setNe d2, by rw [hW3]; exact row_setE HV.out.2.2.2.1 ⟨_, HV.out.2.2.2.2.2.1⟩ (by decide), by rw [hW3]; exact row_setE HV.out.2.2.2.2.1 ⟨_, HV.out.2.2.2.2.2.1⟩ (by decide), ?_, HV.out.2.2.2.2.2.2.1, HV.out.2.2.2.2.2.2.2.1, HV.out.2.2.2.2.2.2.2.2, hb.size⟩
    rw [hW3]; have h9 := HV.out.2.2.2.2.2.1.set 1 (.int .i64 (pl + fr + sh)); simpa using h9
  rw [← hW3]
  clear hW3 HV x0 x1 x2 x3 x4 x5 f0 f1 f2 f3 f4 f5 y0 y1 y2 y3 y4 y5
  obtain ⟨⟨y0, y1, y2, y3, y4, y5⟩, _⟩ := (HX.out.2.1.below (bel_alloc W3 (.cells #[] 3))).six2
  obtain ⟨⟨x0, x1, x2, x3, x4, x5⟩, _⟩ := HX.out.2.1.six2
  go_upto_region 15 with (at_builtin; refine wpList_appIO rfl (.tmp 37) (.tmp 44) rfl w.heap.size (.slice (some ⟨W3.heap.size, 0, none⟩) 0 0) [] rfl (newI W3 w.heap.size HX.out.2.2.2.2.2.2.2.2.2) (some ⟨qb, qo + fr, none⟩) (fr + N - fr) (k1 - fr) ((ws.drop fr).take N) rfl (by have := HG.out.1; omega) (HG.out.2.1.below (bel_next HX.out.1 (bel_alloc _ _))) (by have := HG.out.2.2; simp only [List.length_nil]; omega) (by have := HX.out.2.2.2.2.2.2.2.2.2; simp; omega) ?_; intro v2 w2 O2 g2'; have g2 : (W3.alloc (.cells #[] 3)).grownBy w2 (some W3.heap.size) := g2'; clear g2'; have HU : Hid (OwnI w2 w.heap.size v2 ((ws.drop fr).take N) ∧ Below w.heap.size w w2 ∧ Blk w2 B2 28 (rqc 16 (pl + fr + sh) nn wa r1 r2 l1 l2 c1 c2) ∧ Blk w2 (B + 1) 28 #[.int .i64 0, .int .i64 0, .int .i64 0, .slice none 0 0, .slice none 0 0, .int .i64 0] ∧ OwnB w2 w.heap.size (.slice r2 l2 c2) bs ∧ l1 = ws.length ∧ l2 = bs.length ∧ w.heap.size ≤ B2) := ⟨by simpa using O2, grown_below2 (bel_next HX.out.1 (bel_alloc _ _)) g2 HX.out.2.2.2.2.2.2.2.2.2 (by have := HX.out.2.2.2.2.2.2.2.2.2; simp; omega), (HX.out.2.2.2.2.2.1.below (bel_alloc _ _)).grown g2 (by have := HX.out.2.2.2.2.2.1.lt; intro e9; have := Option.some.inj e9; omega), (HX.out.2.2.1.below (bel_alloc _ _)).grown g2 (by have := HX.out.2.2.1.lt; intro e9; have := Option.some.inj e9; omega), (OwnB.below HX.out.2.2.2.2.1 (bel_alloc _ _)).kept g2 (.inr (by intro e9; have := (World.ownsRow.lt HX.out.2.2.2.2.1 _ e9).2; simp at this)), HX.out.2.2.2.2.2.2.1, HX.out.2.2.2.2.2.2.2.1, HX.out.2.2.2.2.2.2.2.2.1⟩; clear O2 g2; obtain ⟨n0a, n0c, n0, hv2, hn2⟩ := ownI_shape2 HU.out.1; subst hv2; have HN2 : Hid (n0 = ((ws.drop fr).take N).length) := hn2; clear hn2; obtain ⟨⟨u0, u1, u2, u3, u4, u5⟩, ⟨f0, f1, f2, f3, f4, f5⟩⟩ := HU.out.2.2.1.six2)
  obtain ⟨W4, hW4⟩ : ∃ W4, W4 = w2.setCell ⟨B2, 3, none⟩ (.slice n0a n0 n0c) := ⟨_, rfl⟩
  have HZ : Hid (OwnI W4 w.heap.size (.slice n0a n0 n0c) ((ws.drop fr).take N) ∧ OwnB W4 w.heap.size (.slice r2 l2 c2) bs ∧ Below w.heap.size w W4 ∧ Blk W4 B2 28 (rqc 16 (pl + fr + sh) nn wa n0a r2 n0 l2 n0c c2) ∧ Blk W4 (B + 1) 28 #[.int .i64 0, .int .i64 0, .int .i64 0, .slice none 0 0, .slice none 0 0, .int .i64 0] ∧ l1 = ws.length ∧ l2 = bs.length) := by
    have hb : Below w.heap.size w W4 := by rw [hW4]; exact HU.out.2.1.setCell (p := ⟨B2, 3, none⟩) HU.out.2.2.2.2.2.2.2 _
    refine ⟨by rw [hW4]; exact row_setE HU.out.1 ⟨_, HU.out.2.2.1⟩ (by decide), by rw [hW4]; exact row_setE HU.out.2.2.2.2.1 ⟨_, HU.out.2.2.1⟩ (by decide), hb, ?_, by rw [hW4]; exact HU.out.2.2.2.1.setNe d2, HU.out.2.2.2.2.2.1, HU.out.2.2.2.2.2.2.1⟩
    rw [hW4]; have h9 := HU.out.2.2.1.set 3 (.slice n0a n0 n0c); simpa using h9
  rw [← hW4]
  clear hW4 HU HX u0 u1 u2 u3 u4 u5 f0 f1 f2 f3 f4 f5 y0 y1 y2 y3 y4 y5 x0 x1 x2 x3 x4 x5
  obtain ⟨⟨x0, x1, x2, x3, x4, x5⟩, _⟩ := HZ.out.2.2.2.1.six2
  obtain ⟨⟨z0, z1, z2, z3, z4, z5⟩, ⟨g0, g1, g2, g3, g4, g5⟩⟩ := HZ.out.2.2.2.2.1.six2
  have HY : Hid (OwnI (setL W4 (B + 1) 0 (rqc 16 (pl + fr + sh) nn wa n0a r2 n0 l2 n0c c2).toList) w.heap.size (.slice n0a n0 n0c) ((ws.drop fr).take N) ∧ OwnB (setL W4 (B + 1) 0 (rqc 16 (pl + fr + sh) nn wa n0a r2 n0 l2 n0c c2).toList) w.heap.size (.slice r2 l2 c2) bs ∧ Below w.heap.size w (setL W4 (B + 1) 0 (rqc 16 (pl + fr + sh) nn wa n0a r2 n0 l2 n0c c2).toList)) := ⟨row_setL HZ.out.1 ⟨_, HZ.out.2.2.2.2.1⟩ (by decide), row_setL HZ.out.2.1 ⟨_, HZ.out.2.2.2.2.1⟩ (by decide), setL_below (by have := HS.out.2.2.2.2; omega) _ _ _ HZ.out.2.2.1⟩
  have HL : Hid (l1 = ws.length ∧ l2 = bs.length) := HZ.out.2.2.2.2.2
  clear HZ
  go_wp2
  refine bodyPost_ret (v := .agg (rqc 16 (pl + fr + sh) nn wa n0a r2 n0 l2 n0c c2)) (by simp [results, Try.results42, go_sem, x0, x1, x2, x3, x4, x5, z0, z1, z2, z3, z4, z5, d1, d2, d3, d4]) rfl ⟨n0a, r2, n0, l2, n0c, c2, rfl, HN2.out, HL.out.2, HY.out.1, HY.out.2.1, HY.out.2.2⟩
set_option maxRecDepth 20000 in
set_option maxHeartbeats 1000000 in
theorem piece_22 (pl nn wa sh : Int) (fr N : Nat) (q1 q2 : Option Addr) (m1 m2 k1 k2 : Nat) (ws : List Int) (bs : List Bool) (w : World) (h1 : m1 = ws.length) (h2 : m2 = bs.length) (s1 : SlI w q1 ws) (s2 : SlB w q2 bs) (hl1 : ws.length ≤ 2000000) (hl2 : bs.length ≤ 2000000) (hp : 0 ≤ pl ∧ pl ≤ 65535) (hf : fr ≤ 65536) (hN : N ≤ 65536) (hsh : -65535 ≤ sh ∧ sh ≤ 65535) :
    Calls Try.prog 42 #[.agg (rqc 22 pl nn wa q1 q2 m1 m2 k1 k2), .int .i64 (fr : Int), .int .i64 (N : Int), .int .i64 sh] w fun e w' => ReqPost w w' e 22 (pl + fr + sh) nn wa ws bs := by
  obtain ⟨B, hB⟩ : ∃ B, B = w.heap.size := ⟨_, rfl⟩
  obtain ⟨W, hW⟩ : ∃ W, W = (w.alloc (.cells (rqc 22 pl nn wa q1 q2 m1 m2 k1 k2) 28)).alloc (.cells #[.int .i64 0, .int .i64 0, .int .i64 0, .slice none 0 0, .slice none 0 0, .int .i64 0] 28) := ⟨_, rfl⟩
  have bW : Below w.heap.size w W := by rw [hW]; exact bel_next (bel_alloc _ _) (bel_alloc _ _)
  have HW : Hid (Below w.heap.size w W ∧ Blk W B 28 (rqc 22 pl nn wa q1 q2 m1 m2 k1 k2) ∧ Blk W (B + 1) 28 #[.int .i64 0, .int .i64 0, .int .i64 0, .slice none 0 0, .slice none 0 0, .int .i64 0] ∧ w.heap.size ≤ W.heap.size) := ⟨bW, by rw [hW, hB]; exact (Blk.new w _ _).below (bel_alloc _ _), by rw [hW, hB]; have := Blk.new (w.alloc (.cells (rqc 22 pl nn wa q1 q2 m1 m2 k1 k2) 28)) #[.int .i64 0, .int .i64 0, .int .i64 0, .slice none 0 0, .slice none 0 0, .int .i64 0] 28; simpa using this, bW.size⟩
  have HS : Hid (m1 = ws.length ∧ m2 = bs.length ∧ SlI w q1 ws ∧ SlB w q2 bs ∧ w.heap.size = B) := ⟨h1, h2, s1, s2, hB.symm⟩
  have e1 : IntKind.i64.wrap (pl + (fr : Int)) = pl + fr := by rw [IntKind.wrap_i64]; omega
  have e2 : IntKind.i64.wrap (pl + (fr : Int) + sh) = pl + fr + sh := by rw [IntKind.wrap_i64]; omega
  clear bW h1 h2 s1 s2 hp hsh
  go_enter Try.func42, Try.ntmps42
  go_upto_region 1 with fail
  rw [← hW, ← hB]
  clear hW hB
  obtain ⟨⟨y0, y1, y2, y3, y4, y5⟩, _⟩ := HW.out.2.1.six2
  go_wp2_with fail
  refine (copyReq_any 22 pl nn wa q1 q2 m1 m2 k1 k2 ws bs _ HS.out.1 HS.out.2.1 (HS.out.2.2.1.below HW.out.1) (HS.out.2.2.2.1.below HW.out.1) hl1 hl2).mono ?_
  rintro e w1 ⟨r1, r2, l1, l2, c1, c2, rfl, g1, g2, o1, o2, b1⟩
  obtain ⟨B2, hB2⟩ : ∃ B2, B2 = w1.heap.size := ⟨_, rfl⟩
  have HU : Hid (Below w.heap.size w w1 ∧ Blk w1 B 28 (rqc 22 pl nn wa q1 q2 m1 m2 k1 k2) ∧ Blk w1 (B + 1) 28 #[.int .i64 0, .int .i64 0, .int .i64 0, .slice none 0 0, .slice none 0 0, .int .i64 0] ∧ OwnI w1 w.heap.size (.slice r1 l1 c1) ws ∧ OwnB w1 w.heap.size (.slice r2 l2 c2) bs ∧ l1 = ws.length ∧ l2 = bs.length ∧ B2 = w1.heap.size) := ⟨bel_next HW.out.1 b1, HW.out.2.1.below b1, HW.out.2.2.1.below b1, OwnI.mono o1 HW.out.1.size, OwnB.mono o2 HW.out.1.size, g1, g2, hB2⟩
  clear b1 o1 o2 g1 g2 HW y0 y1 y2 y3 y4 y5
  obtain ⟨⟨y0, y1, y2, y3, y4, y5⟩, _⟩ := HU.out.2.1.six2
  have d1 : ¬ B = B2 := by have := HU.out.2.1.lt; omega
  have d2 : ¬ B + 1 = B2 := by have := HU.out.2.2.1.lt; omega
  have d3 : ¬ B2 = B := fun e => d1 e.symm
  have d4 : ¬ B2 = B + 1 := fun e => d2 e.symm
  go_upto_region 2 with fail
  obtain ⟨W2, hW2⟩ : ∃ W2, W2 = w1.alloc (.cells (rqc 22 pl nn wa r1 r2 l1 l2 c1 c2) 28) := ⟨_, rfl⟩
  have bW2 : Below w1.heap.size w1 W2 := by rw [hW2]; exact bel_alloc _ _
  have HV : Hid (Below w.heap.size w W2 ∧ Blk W2 B 28 (rqc 22 pl nn wa q1 q2 m1 m2 k1 k2) ∧ Blk W2 (B + 1) 28 #[.int .i64 0, .int .i64 0, .int .i64 0, .slice none 0 0, .slice none 0 0, .int .i64 0] ∧ OwnI W2 w.heap.size (.slice r1 l1 c1) ws ∧ OwnB W2 w.heap.size (.slice r2 l2 c2) bs ∧ Blk W2 B2 28 (rqc 22 pl nn wa r1 r2 l1 l2 c1 c2) ∧ l1 = ws.length ∧ l2 = bs.length ∧ w.heap.size ≤ B2) := ⟨bel_next HU.out.1 bW2, HU.out.2.1.below bW2, HU.out.2.2.1.below bW2, HU.out.2.2.2.1.below bW2, HU.out.2.2.2.2.1.below bW2, by rw [hW2, hB2]; exact Blk.new w1 _ _, HU.out.2.2.2.2.2.1, HU.out.2.2.2.2.2.2.1, by rw [hB2]; exact HU.out.1.size⟩
  rw [← hW2, ← hB2]
  clear hW2 hB2 HU bW2 y0 y1 y2 y3 y4 y5
  obtain ⟨⟨y0, y1, y2, y3, y4, y5⟩, _⟩ := HV.out.2.1.six2
  obtain ⟨⟨x0, x1, x2, x3, x4, x5⟩, ⟨f0, f1, f2, f3, f4, f5⟩⟩ := HV.out.2.2.2.2.2.1.six2
  go_upto_region 3 with fail
  obtain ⟨W3, hW3⟩ : ∃ W3, W3 = W2.setCell ⟨B2, 1, none⟩ (.int .i64 (pl + fr + sh)) := ⟨_, rfl⟩
  have HX : Hid (Below w.heap.size w W3 ∧ Blk W3 B 28 (rqc 22 pl nn wa q1 q2 m1 m2 k1 k2) ∧ Blk W3 (B + 1) 28 #[.int .i64 0, .int .i64 0, .int .i64 0, .slice none 0 0, .slice none 0 0, .int .i64 0] ∧ OwnI W3 w.heap.size (.slice r1 l1 c1) ws ∧ OwnB W3 w.heap.size (.slice r2 l2 c2) bs ∧ Blk W3 B2 28 (rqc 22 (pl + fr + sh) nn wa r1 r2 l1 l2 c1 c2) ∧ l1 = ws.length ∧ l2 = bs.length ∧ w.heap.size ≤ B2 ∧ w.heap.size ≤ W3.heap.size) := by
    have hb : Below w.heap.size w W3 := by rw [hW3]; exact HV.out.1.setCell (p := ⟨B2, 1, none⟩) HV.out.2.2.2.2.2.2.2.2 _
    refine ⟨hb, by rw [hW3]; exact HV.out.2.1.setNe d1, by rw [hW3]; exact HV.out.2.2.1.setNe d2, by rw [hW3]; exact row_setE HV.out.2.2.2.1 ⟨_, HV.out.2.2.2.2.2.1⟩ (by decide), by rw [hW3]; exact row_setE HV.out.2.2.2.2.1 ⟨_, HV.out.2.2.2.2.2.1⟩ (by decide), ?_, HV.out.2.2.2.2.2.2.1, HV.out.2.2.2.2.2.2.2.1, HV.out.2.2.2.2.2.2.2.2, hb.size⟩
    rw [hW3]; have h9 := HV.out.2.2.2.2.2.1.set 1 (.int .i64 (pl + fr + sh)); simpa using h9
  rw [← hW3]
  clear hW3 HV x0 x1 x2 x3 x4 x5 f0 f1 f2 f3 f4 f5 y0 y1 y2 y3 y4 y5
  obtain ⟨⟨y0, y1, y2, y3, y4, y5⟩, _⟩ := HX.out.2.1.six2
  obtain ⟨⟨x0, x1, x2, x3, x4, x5⟩, ⟨f0, f1, f2, f3, f4, f5⟩⟩ := HX.out.2.2.2.2.2.1.six2
  obtain ⟨⟨z0, z1, z2, z3, z4, z5⟩, ⟨g0, g1, g2, g3, g4, g5⟩⟩ := HX.out.2.2.1.six2
  have HY : Hid (OwnI (setL W3 (B + 1) 0 (rqc 22 (pl + fr + sh) nn wa r1 r2 l1 l2 c1 c2).toList) w.heap.size (.slice r1 l1 c1) ws ∧ OwnB (setL W3 (B + 1) 0 (rqc 22 (pl + fr + sh) nn wa r1 r2 l1 l2 c1 c2).toList) w.heap.size (.slice r2 l2 c2) bs ∧ Below w.heap.size w (setL W3 (B + 1) 0 (rqc 22 (pl + fr + sh) nn wa r1 r2 l1 l2 c1 c2).toList) ∧ l1 = ws.length ∧ l2 = bs.length) := ⟨row_setL (HX.out.2.2.2.1) (⟨_, HX.out.2.2.1⟩) (by decide), row_setL (HX.out.2.2.2.2.1) (⟨_, HX.out.2.2.1⟩) (by decide), setL_below (by have := HS.out.2.2.2.2; omega) _ _ _ HX.out.1, HX.out.2.2.2.2.2.2.1, HX.out.2.2.2.2.2.2.2.1⟩
  clear HX
  go_wp2
  refine bodyPost_ret (v := .agg (rqc 22 (pl + fr + sh) nn wa r1 r2 l1 l2 c1 c2)) (by simp [results, Try.results42, go_sem, x0, x1, x2, x3, x4, x5, z0, z1, z2, z3, z4, z5, d1, d2, d3, d4]) rfl ⟨r1, r2, l1, l2, c1, c2, rfl, HY.out.2.2.2.1, HY.out.2.2.2.2, HY.out.1, HY.out.2.1, HY.out.2.2.1⟩
end Go.Proofs.Ytegckbfbmbiogaa
