/- Texts that the proof needs, joined: Jn8. -/
import Derived.Test.YtegckbfbmbiogaaV20
namespace Go.Proofs.Ytegckbfbmbiogaa
open Go.RowKit Go.Joins
set_option linter.unusedVariables false
set_option linter.unusedSimpArgs false
set_option maxRecDepth 20000 in
set_option maxHeartbeats 2000000 in
theorem echo_15 (pl nn wa : Int) (q1 q2 : Option Addr) (m1 m2 k1 k2 : Nat) (w : World) :
    Calls Try.prog 61 #[.agg (rqc 15 pl nn wa q1 q2 m1 m2 k1 k2)] w fun e w' => AnPost w w' e ⟨15, 0, pl, (m2 : Int), [], []⟩ := by
  obtain ⟨B, hB⟩ : ∃ B, B = w.heap.size := ⟨_, rfl⟩
  obtain ⟨W, hW⟩ : ∃ W, W = ((w.alloc (.cells (rqc 15 pl nn wa q1 q2 m1 m2 k1 k2) 28)).alloc (.cells #[.int .i64 0, .int .i64 0, .int .i64 0, .int .i64 0, .slice none 0 0, .slice none 0 0] 49)).alloc (.cells #[.int .i64 15, .int .i64 0, .int .i64 pl, .int .i64 0, .slice none 0 0, .slice none 0 0] 49) := ⟨_, rfl⟩
  have bW : Below w.heap.size w W := by rw [hW]; exact bel_next (bel_next (bel_alloc _ _) (bel_alloc _ _)) (bel_alloc _ _)
  have HW : Hid (Below w.heap.size w W ∧ Blk W B 28 (rqc 15 pl nn wa q1 q2 m1 m2 k1 k2) ∧ Blk W (B + 1) 49 #[.int .i64 0, .int .i64 0, .int .i64 0, .int .i64 0, .slice none 0 0, .slice none 0 0] ∧ Blk W (B + 1 + 1) 49 #[.int .i64 15, .int .i64 0, .int .i64 pl, .int .i64 0, .slice none 0 0, .slice none 0 0] ∧ w.heap.size = B ∧ w.heap.size ≤ W.heap.size) := by
    refine ⟨bW, by rw [hW, hB]; exact ((Blk.new w _ _).below (bel_alloc _ _)).below (bel_alloc _ _), ?_, ?_, hB.symm, bW.size⟩
    · rw [hW, hB]
      have := (Blk.new (w.alloc (.cells (rqc 15 pl nn wa q1 q2 m1 m2 k1 k2) 28)) #[.int .i64 0, .int .i64 0, .int .i64 0, .int .i64 0, .slice none 0 0, .slice none 0 0] 49).below (bel_alloc _ (.cells #[.int .i64 15, .int .i64 0, .int .i64 pl, .int .i64 0, .slice none 0 0, .slice none 0 0] 49))
      simpa using this
    · rw [hW, hB]
      have := Blk.new ((w.alloc (.cells (rqc 15 pl nn wa q1 q2 m1 m2 k1 k2) 28)).alloc (.cells #[.int .i64 0, .int .i64 0, .int .i64 0, .int .i64 0, .slice none 0 0, .slice none 0 0] 49)) #[.int .i64 15, .int .i64 0, .int .i64 pl, .int .i64 0, .slice none 0 0, .slice none 0 0] 49
      simpa using this
  clear bW
  go_enter Try.func61, Try.ntmps61
  go_upto_region 2 with fail
  rw [← hW, ← hB]
  clear hW hB
  obtain ⟨⟨y0, y1, y2, y3, y4, y5⟩, _⟩ := HW.out.2.1.six2
  obtain ⟨⟨x0, x1, x2, x3, x4, x5⟩, ⟨f0, f1, f2, f3, f4, f5⟩⟩ := HW.out.2.2.2.1.six2
  go_upto_region 10 with fail
  obtain ⟨W2, hW2⟩ : ∃ W2, W2 = W.setCell ⟨B + 1 + 1, 3, none⟩ (.int .i64 (m2 : Int)) := ⟨_, rfl⟩
  have HX : Hid (OwnI W2 w.heap.size (.slice none 0 0) [] ∧ OwnB W2 w.heap.size (.slice none 0 0) [] ∧ Below w.heap.size w W2 ∧ Blk W2 (B + 1 + 1) 49 #[.int .i64 15, .int .i64 0, .int .i64 pl, .int .i64 (m2 : Int), .slice none 0 0, .slice none 0 0] ∧ Blk W2 (B + 1) 49 #[.int .i64 0, .int .i64 0, .int .i64 0, .int .i64 0, .slice none 0 0, .slice none 0 0]) := ⟨ownI_z _ _, ownB_z _ _, by rw [hW2]; exact HW.out.1.setCell (p := ⟨B + 1 + 1, 3, none⟩) (by show w.heap.size ≤ B + 1 + 1; have := HW.out.2.2.2.2.1; omega) _, by rw [hW2]; have h9 := HW.out.2.2.2.1.set 3 (.int .i64 (m2 : Int)); simpa using h9, by rw [hW2]; exact HW.out.2.2.1.setNe (by omega)⟩
  rw [← hW2]
  clear hW2 y0 y1 y2 y3 y4 y5 x0 x1 x2 x3 x4 x5 f0 f1 f2 f3 f4 f5
  have HY : Hid (OwnI (setL W2 (B + 1) 0 [.int .i64 15, .int .i64 0, .int .i64 pl, .int .i64 (m2 : Int), .slice none 0 0, .slice none 0 0]) w.heap.size (.slice none 0 0) [] ∧ OwnB (setL W2 (B + 1) 0 [.int .i64 15, .int .i64 0, .int .i64 pl, .int .i64 (m2 : Int), .slice none 0 0, .slice none 0 0]) w.heap.size (.slice none 0 0) [] ∧ Below w.heap.size w (setL W2 (B + 1) 0 [.int .i64 15, .int .i64 0, .int .i64 pl, .int .i64 (m2 : Int), .slice none 0 0, .slice none 0 0])) := ⟨row_setL HX.out.1 ⟨_, HX.out.2.2.2.2⟩ (by decide), row_setL HX.out.2.1 ⟨_, HX.out.2.2.2.2⟩ (by decide), setL_below (by have := HW.out.2.2.2.2.1; omega) _ _ _ HX.out.2.2.1⟩
  obtain ⟨⟨x0, x1, x2, x3, x4, x5⟩, _⟩ := HX.out.2.2.2.1.six2
  obtain ⟨⟨z0, z1, z2, z3, z4, z5⟩, ⟨g0, g1, g2, g3, g4, g5⟩⟩ := HX.out.2.2.2.2.six2
  clear HX
  go_wp2
  refine bodyPost_ret (v := .agg #[.int .i64 15, .int .i64 0, .int .i64 pl, .int .i64 (m2 : Int), .slice none 0 0, .slice none 0 0]) (by simp [results, Try.results61, go_sem, z0, z1, z2, z3, z4, z5]) rfl ⟨none, none, 0, 0, 0, 0, rfl, rfl, rfl, HY.out.1, HY.out.2.1, HY.out.2.2⟩
set_option maxRecDepth 20000 in
set_option maxHeartbeats 2000000 in
theorem echo_16 (pl nn wa : Int) (q1 q2 : Option Addr) (m1 m2 k1 k2 : Nat) (w : World) :
    Calls Try.prog 61 #[.agg (rqc 16 pl nn wa q1 q2 m1 m2 k1 k2)] w fun e w' => AnPost w w' e ⟨16, 0, pl, (m1 : Int), [], []⟩ := by
  obtain ⟨B, hB⟩ : ∃ B, B = w.heap.size := ⟨_, rfl⟩
  obtain ⟨W, hW⟩ : ∃ W, W = ((w.alloc (.cells (rqc 16 pl nn wa q1 q2 m1 m2 k1 k2) 28)).alloc (.cells #[.int .i64 0, .int .i64 0, .int .i64 0, .int .i64 0, .slice none 0 0, .slice none 0 0] 49)).alloc (.cells #[.int .i64 16, .int .i64 0, .int .i64 pl, .int .i64 0, .slice none 0 0, .slice none 0 0] 49) := ⟨_, rfl⟩
  have bW : Below w.heap.size w W := by rw [hW]; exact bel_next (bel_next (bel_alloc _ _) (bel_alloc _ _)) (bel_alloc _ _)
  have HW : Hid (Below w.heap.size w W ∧ Blk W B 28 (rqc 16 pl nn wa q1 q2 m1 m2 k1 k2) ∧ Blk W (B + 1) 49 #[.int .i64 0, .int .i64 0, .int .i64 0, .int .i64 0, .slice none 0 0, .slice none 0 0] ∧ Blk W (B + 1 + 1) 49 #[.int .i64 16, .int .i64 0, .int .i64 pl, .int .i64 0, .slice none 0 0, .slice none 0 0] ∧ w.heap.size = B ∧ w.heap.size ≤ W.heap.size) := by
    refine ⟨bW, by rw [hW, hB]; exact ((Blk.new w _ _).below (bel_alloc _ _)).below (bel_alloc _ _), ?_, ?_, hB.symm, bW.size⟩
    · rw [hW, hB]
      have := (Blk.new (w.alloc (.cells (rqc 16 pl nn wa q1 q2 m1 m2 k1 k2) 28)) #[.int .i64 0, .int .i64 0, .int .i64 0, .int .i64 0, .slice none 0 0, .slice none 0 0] 49).below (bel_alloc _ (.cells #[.int .i64 16, .int .i64 0, .int .i64 pl, .int .i64 0, .slice none 0 0, .slice none 0 0] 49))
      simpa using this
    · rw [hW, hB]
      have := Blk.new ((w.alloc (.cells (rqc 16 pl nn wa q1 q2 m1 m2 k1 k2) 28)).alloc (.cells #[.int .i64 0, .int .i64 0, .int .i64 0, .int .i64 0, .slice none 0 0, .slice none 0 0] 49)) #[.int .i64 16, .int .i64 0, .int .i64 pl, .int .i64 0, .slice none 0 0, .slice none 0 0] 49
      simpa using this
  clear bW
  go_enter Try.func61, Try.ntmps61
  go_upto_region 2 with fail
  rw [← hW, ← hB]
  clear hW hB
  obtain ⟨⟨y0, y1, y2, y3, y4, y5⟩, _⟩ := HW.out.2.1.six2
  obtain ⟨⟨x0, x1, x2, x3, x4, x5⟩, ⟨f0, f1, f2, f3, f4, f5⟩⟩ := HW.out.2.2.2.1.six2
  go_upto_region 10 with fail
  obtain ⟨W2, hW2⟩ : ∃ W2, W2 = W.setCell ⟨B + 1 + 1, 3, none⟩ (.int .i64 (m1 : Int)) := ⟨_, rfl⟩
  have HX : Hid (OwnI W2 w.heap.size (.slice none 0 0) [] ∧ OwnB W2 w.heap.size (.slice none 0 0) [] ∧ Below w.heap.size w W2 ∧ Blk W2 (B + 1 + 1) 49 #[.int .i64 16, .int .i64 0, .int .i64 pl, .int .i64 (m1 : Int), .slice none 0 0, .slice none 0 0] ∧ Blk W2 (B + 1) 49 #[.int .i64 0, .int .i64 0, .int .i64 0, .int .i64 0, .slice none 0 0, .slice none 0 0]) := ⟨ownI_z _ _, ownB_z _ _, by rw [hW2]; exact HW.out.1.setCell (p := ⟨B + 1 + 1, 3, none⟩) (by show w.heap.size ≤ B + 1 + 1; have := HW.out.2.2.2.2.1; omega) _, by rw [hW2]; have h9 := HW.out.2.2.2.1.set 3 (.int .i64 (m1 : Int)); simpa using h9, by rw [hW2]; exact HW.out.2.2.1.setNe (by omega)⟩
  rw [← hW2]
  clear hW2 y0 y1 y2 y3 y4 y5 x0 x1 x2 x3 x4 x5 f0 f1 f2 f3 f4 f5
  have HY : Hid (OwnI (setL W2 (B + 1) 0 [.int .i64 16, .int .i64 0, .int .i64 pl, .int .i64 (m1 : Int), .slice none 0 0, .slice none 0 0]) w.heap.size (.slice none 0 0) [] ∧ OwnB (setL W2 (B + 1) 0 [.int .i64 16, .int .i64 0, .int .i64 pl, .int .i64 (m1 : Int), .slice none 0 0, .slice none 0 0]) w.heap.size (.slice none 0 0) [] ∧ Below w.heap.size w (setL W2 (B + 1) 0 [.int .i64 16, .int .i64 0, .int .i64 pl, .int .i64 (m1 : Int), .slice none 0 0, .slice none 0 0])) := ⟨row_setL HX.out.1 ⟨_, HX.out.2.2.2.2⟩ (by decide), row_setL HX.out.2.1 ⟨_, HX.out.2.2.2.2⟩ (by decide), setL_below (by have := HW.out.2.2.2.2.1; omega) _ _ _ HX.out.2.2.1⟩
  obtain ⟨⟨x0, x1, x2, x3, x4, x5⟩, _⟩ := HX.out.2.2.2.1.six2
  obtain ⟨⟨z0, z1, z2, z3, z4, z5⟩, ⟨g0, g1, g2, g3, g4, g5⟩⟩ := HX.out.2.2.2.2.six2
  clear HX
  go_wp2
  refine bodyPost_ret (v := .agg #[.int .i64 16, .int .i64 0, .int .i64 pl, .int .i64 (m1 : Int), .slice none 0 0, .slice none 0 0]) (by simp [results, Try.results61, go_sem, z0, z1, z2, z3, z4, z5]) rfl ⟨none, none, 0, 0, 0, 0, rfl, rfl, rfl, HY.out.1, HY.out.2.1, HY.out.2.2⟩
set_option maxRecDepth 20000 in
set_option maxHeartbeats 2000000 in
theorem echo_5 (pl nn wa : Int) (q1 q2 : Option Addr) (m1 m2 k1 k2 : Nat) (w : World) (bs : List Bool) (h1 : m2 = bs.length) (s1 : SlB w q2 bs) (hl : bs.length ≤ 2000000) :
    Calls Try.prog 61 #[.agg (rqc 5 pl nn wa q1 q2 m1 m2 k1 k2)] w fun e w' => AnPost w w' e ⟨5, 0, pl, 0, [], bs⟩ := by
  obtain ⟨B, hB⟩ : ∃ B, B = w.heap.size := ⟨_, rfl⟩
  obtain ⟨W, hW⟩ : ∃ W, W = ((w.alloc (.cells (rqc 5 pl nn wa q1 q2 m1 m2 k1 k2) 28)).alloc (.cells #[.int .i64 0, .int .i64 0, .int .i64 0, .int .i64 0, .slice none 0 0, .slice none 0 0] 49)).alloc (.cells #[.int .i64 5, .int .i64 0, .int .i64 pl, .int .i64 0, .slice none 0 0, .slice none 0 0] 49) := ⟨_, rfl⟩
  have bW : Below w.heap.size w W := by rw [hW]; exact bel_next (bel_next (bel_alloc _ _) (bel_alloc _ _)) (bel_alloc _ _)
  have HW : Hid (Below w.heap.size w W ∧ Blk W B 28 (rqc 5 pl nn wa q1 q2 m1 m2 k1 k2) ∧ Blk W (B + 1) 49 #[.int .i64 0, .int .i64 0, .int .i64 0, .int .i64 0, .slice none 0 0, .slice none 0 0] ∧ Blk W (B + 1 + 1) 49 #[.int .i64 5, .int .i64 0, .int .i64 pl, .int .i64 0, .slice none 0 0, .slice none 0 0] ∧ w.heap.size = B ∧ w.heap.size ≤ W.heap.size) := by
    refine ⟨bW, by rw [hW, hB]; exact ((Blk.new w _ _).below (bel_alloc _ _)).below (bel_alloc _ _), ?_, ?_, hB.symm, bW.size⟩
    · rw [hW, hB]
      have := (Blk.new (w.alloc (.cells (rqc 5 pl nn wa q1 q2 m1 m2 k1 k2) 28)) #[.int .i64 0, .int .i64 0, .int .i64 0, .int .i64 0, .slice none 0 0, .slice none 0 0] 49).below (bel_alloc _ (.cells #[.int .i64 5, .int .i64 0, .int .i64 pl, .int .i64 0, .slice none 0 0, .slice none 0 0] 49))
      simpa using this
    · rw [hW, hB]
      have := Blk.new ((w.alloc (.cells (rqc 5 pl nn wa q1 q2 m1 m2 k1 k2) 28)).alloc (.cells #[.int .i64 0, .int .i64 0, .int .i64 0, .int .i64 0, .slice none 0 0, .slice none 0 0] 49)) #[.int .i64 5, .int .i64 0, .int .i64 pl, .int .i64 0, .slice none 0 0, .slice none 0 0] 49
      simpa using this
  clear bW
  have HS : Hid (m2 = bs.length ∧ SlB w q2 bs) := ⟨h1, s1⟩
  clear h1 s1
  go_enter Try.func61, Try.ntmps61
  go_upto_region 2 with fail
  rw [← hW, ← hB]
  clear hW hB
  obtain ⟨⟨y0, y1, y2, y3, y4, y5⟩, _⟩ := HW.out.2.1.six2
  obtain ⟨⟨v0, v1, v2, v3, v4, v5⟩, _⟩ := (HW.out.2.1.below (bel_alloc W (.cells #[] 4))).six2
  go_upto_region 10 with (at_builtin; refine wpList_appBO rfl (.tmp 18) (.tmp 20) rfl w.heap.size (.slice (some ⟨W.heap.size, 0, none⟩) 0 0) [] rfl (newB W w.heap.size HW.out.2.2.2.2.2) q2 m2 k2 bs rfl HS.out.1 (HS.out.2.below (bel_next HW.out.1 (bel_alloc _ _))) (by simp; omega) (by have := HW.out.2.2.2.2.2; simp; omega) ?_; intro vv w1 O1 g1'; have g1 : (W.alloc (.cells #[] 4)).grownBy w1 (some W.heap.size) := g1'; clear g1'; have HU : Hid (OwnB w1 w.heap.size vv bs ∧ Below w.heap.size w w1 ∧ Blk w1 (B + 1 + 1) 49 #[.int .i64 5, .int .i64 0, .int .i64 pl, .int .i64 0, .slice none 0 0, .slice none 0 0] ∧ Blk w1 (B + 1) 49 #[.int .i64 0, .int .i64 0, .int .i64 0, .int .i64 0, .slice none 0 0, .slice none 0 0]) := ⟨by simpa using O1, grown_below2 (bel_next HW.out.1 (bel_alloc _ _)) g1 HW.out.2.2.2.2.2 (by have := HW.out.2.2.2.2.2; simp; omega), (HW.out.2.2.2.1.below (bel_alloc _ _)).grown g1 (by have := HW.out.2.2.2.1.lt; intro e9; have := Option.some.inj e9; omega), (HW.out.2.2.1.below (bel_alloc _ _)).grown g1 (by have := HW.out.2.2.1.lt; intro e9; have := Option.some.inj e9; omega)⟩; clear O1 g1; obtain ⟨r, c, l, hv1, hn1⟩ := ownB_shape HU.out.1; subst hv1; have HN1 : Hid (l = bs.length) := hn1; clear hn1; obtain ⟨⟨x0, x1, x2, x3, x4, x5⟩, ⟨f0, f1, f2, f3, f4, f5⟩⟩ := HU.out.2.2.1.six2)
  obtain ⟨W2, hW2⟩ : ∃ W2, W2 = w1.setCell ⟨B + 1 + 1, 5, none⟩ (.slice r l c) := ⟨_, rfl⟩
  have HX : Hid (OwnI W2 w.heap.size (.slice none 0 0) [] ∧ OwnB W2 w.heap.size (.slice r l c) bs ∧ Below w.heap.size w W2 ∧ Blk W2 (B + 1 + 1) 49 #[.int .i64 5, .int .i64 0, .int .i64 pl, .int .i64 0, .slice none 0 0, .slice r l c] ∧ Blk W2 (B + 1) 49 #[.int .i64 0, .int .i64 0, .int .i64 0, .int .i64 0, .slice none 0 0, .slice none 0 0]) := ⟨ownI_z _ _, by rw [hW2]; exact row_setE HU.out.1 ⟨_, HU.out.2.2.1⟩ (by decide), by rw [hW2]; exact HU.out.2.1.setCell (p := ⟨B + 1 + 1, 5, none⟩) (by show w.heap.size ≤ B + 1 + 1; have := HW.out.2.2.2.2.1; omega) _, by rw [hW2]; have h9 := HU.out.2.2.1.set 5 (.slice r l c); simpa using h9, by rw [hW2]; exact HU.out.2.2.2.setNe (by omega)⟩
  rw [← hW2]
  clear hW2 HU y0 y1 y2 y3 y4 y5 x0 x1 x2 x3 x4 x5 f0 f1 f2 f3 f4 f5 v0 v1 v2 v3 v4 v5
  have HY : Hid (OwnI (setL W2 (B + 1) 0 [.int .i64 5, .int .i64 0, .int .i64 pl, .int .i64 0, .slice none 0 0, .slice r l c]) w.heap.size (.slice none 0 0) [] ∧ OwnB (setL W2 (B + 1) 0 [.int .i64 5, .int .i64 0, .int .i64 pl, .int .i64 0, .slice none 0 0, .slice r l c]) w.heap.size (.slice r l c) bs ∧ Below w.heap.size w (setL W2 (B + 1) 0 [.int .i64 5, .int .i64 0, .int .i64 pl, .int .i64 0, .slice none 0 0, .slice r l c])) := ⟨row_setL HX.out.1 ⟨_, HX.out.2.2.2.2⟩ (by decide), row_setL HX.out.2.1 ⟨_, HX.out.2.2.2.2⟩ (by decide), setL_below (by have := HW.out.2.2.2.2.1; omega) _ _ _ HX.out.2.2.1⟩
  obtain ⟨⟨x0, x1, x2, x3, x4, x5⟩, _⟩ := HX.out.2.2.2.1.six2
  obtain ⟨⟨z0, z1, z2, z3, z4, z5⟩, ⟨g0, g1, g2, g3, g4, g5⟩⟩ := HX.out.2.2.2.2.six2
  clear HX
  go_wp2
  refine bodyPost_ret (v := .agg #[.int .i64 5, .int .i64 0, .int .i64 pl, .int .i64 0, .slice none 0 0, .slice r l c]) (by simp [results, Try.results61, go_sem, z0, z1, z2, z3, z4, z5]) rfl ⟨none, r, 0, l, 0, c, rfl, rfl, HN1.out, HY.out.1, HY.out.2.1, HY.out.2.2⟩
set_option maxRecDepth 20000 in
set_option maxHeartbeats 2000000 in
theorem echo_6 (pl nn wa : Int) (q1 q2 : Option Addr) (m1 m2 k1 k2 : Nat) (w : World) (ws : List Int) (h1 : m1 = ws.length) (s1 : SlI w q1 ws) (hl : ws.length ≤ 2000000) :
    Calls Try.prog 61 #[.agg (rqc 6 pl nn wa q1 q2 m1 m2 k1 k2)] w fun e w' => AnPost w w' e ⟨6, 0, pl, 0, ws, []⟩ := by
  obtain ⟨B, hB⟩ : ∃ B, B = w.heap.size := ⟨_, rfl⟩
  obtain ⟨W, hW⟩ : ∃ W, W = ((w.alloc (.cells (rqc 6 pl nn wa q1 q2 m1 m2 k1 k2) 28)).alloc (.cells #[.int .i64 0, .int .i64 0, .int .i64 0, .int .i64 0, .slice none 0 0, .slice none 0 0] 49)).alloc (.cells #[.int .i64 6, .int .i64 0, .int .i64 pl, .int .i64 0, .slice none 0 0, .slice none 0 0] 49) := ⟨_, rfl⟩
  have bW : Below w.heap.size w W := by rw [hW]; exact bel_next (bel_next (bel_alloc _ _) (bel_alloc _ _)) (bel_alloc _ _)
  have HW : Hid (Below w.heap.size w W ∧ Blk W B 28 (rqc 6 pl nn wa q1 q2 m1 m2 k1 k2) ∧ Blk W (B + 1) 49 #[.int .i64 0, .int .i64 0, .int .i64 0, .int .i64 0, .slice none 0 0, .slice none 0 0] ∧ Blk W (B + 1 + 1) 49 #[.int .i64 6, .int .i64 0, .int .i64 pl, .int .i64 0, .slice none 0 0, .slice none 0 0] ∧ w.heap.size = B ∧ w.heap.size ≤ W.heap.size) := by
    refine ⟨bW, by rw [hW, hB]; exact ((Blk.new w _ _).below (bel_alloc _ _)).below (bel_alloc _ _), ?_, ?_, hB.symm, bW.size⟩
    · rw [hW, hB]
      have := (Blk.new (w.alloc (.cells (rqc 6 pl nn wa q1 q2 m1 m2 k1 k2) 28)) #[.int .i64 0, .int .i64 0, .int .i64 0, .int .i64 0, .slice none 0 0, .slice none 0 0] 49).below (bel_alloc _ (.cells #[.int .i64 6, .int .i64 0, .int .i64 pl, .int .i64 0, .slice none 0 0, .slice none 0 0] 49))
      simpa using this
    · rw [hW, hB]
      have := Blk.new ((w.alloc (.cells (rqc 6 pl nn wa q1 q2 m1 m2 k1 k2) 28)).alloc (.cells #[.int .i64 0, .int .i64 0, .int .i64 0, .int .i64 0, .slice none 0 0, .slice none 0 0] 49)) #[.int .i64 6, .int .i64 0, .int .i64 pl, .int .i64 0, .slice none 0 0, .slice none 0 0] 49
      simpa using this
  clear bW
  have HS : Hid (m1 = ws.length ∧ SlI w q1 ws) := ⟨h1, s1⟩
  clear h1 s1
  go_enter Try.func61, Try.ntmps61
  go_upto_region 2 with fail
  rw [← hW, ← hB]
  clear hW hB
  obtain ⟨⟨y0, y1, y2, y3, y4, y5⟩, _⟩ := HW.out.2.1.six2
  obtain ⟨⟨v0, v1, v2, v3, v4, v5⟩, _⟩ := (HW.out.2.1.below (bel_alloc W (.cells #[] 3))).six2
  go_upto_region 10 with (at_builtin; refine wpList_appIO rfl (.tmp 11) (.tmp 13) rfl w.heap.size (.slice (some ⟨W.heap.size, 0, none⟩) 0 0) [] rfl (newI W w.heap.size HW.out.2.2.2.2.2) q1 m1 k1 ws rfl HS.out.1 (HS.out.2.below (bel_next HW.out.1 (bel_alloc _ _))) (by simp; omega) (by have := HW.out.2.2.2.2.2; simp; omega) ?_; intro vv w1 O1 g1'; have g1 : (W.alloc (.cells #[] 3)).grownBy w1 (some W.heap.size) := g1'; clear g1'; have HU : Hid (OwnI w1 w.heap.size vv ws ∧ Below w.heap.size w w1 ∧ Blk w1 (B + 1 + 1) 49 #[.int .i64 6, .int .i64 0, .int .i64 pl, .int .i64 0, .slice none 0 0, .slice none 0 0] ∧ Blk w1 (B + 1) 49 #[.int .i64 0, .int .i64 0, .int .i64 0, .int .i64 0, .slice none 0 0, .slice none 0 0]) := ⟨by simpa using O1, grown_below2 (bel_next HW.out.1 (bel_alloc _ _)) g1 HW.out.2.2.2.2.2 (by have := HW.out.2.2.2.2.2; simp; omega), (HW.out.2.2.2.1.below (bel_alloc _ _)).grown g1 (by have := HW.out.2.2.2.1.lt; intro e9; have := Option.some.inj e9; omega), (HW.out.2.2.1.below (bel_alloc _ _)).grown g1 (by have := HW.out.2.2.1.lt; intro e9; have := Option.some.inj e9; omega)⟩; clear O1 g1; obtain ⟨r, c, l, hv1, hn1⟩ := ownI_shape2 HU.out.1; subst hv1; have HN1 : Hid (l = ws.length) := hn1; clear hn1; obtain ⟨⟨x0, x1, x2, x3, x4, x5⟩, ⟨f0, f1, f2, f3, f4, f5⟩⟩ := HU.out.2.2.1.six2)
  obtain ⟨W2, hW2⟩ : ∃ W2, W2 = w1.setCell ⟨B + 1 + 1, 4, none⟩ (.slice r l c) := ⟨_, rfl⟩
  have HX : Hid (OwnI W2 w.heap.size (.slice r l c) ws ∧ OwnB W2 w.heap.size (.slice none 0 0) [] ∧ Below w.heap.size w W2 ∧ Blk W2 (B + 1 + 1) 49 #[.int .i64 6, .int .i64 0, .int .i64 pl, .int .i64 0, .slice r l c, .slice none 0 0] ∧ Blk W2 (B + 1) 49 #[.int .i64 0, .int .i64 0, .int .i64 0, .int .i64 0, .slice none 0 0, .slice none 0 0]) := ⟨by rw [hW2]; exact row_setE HU.out.1 ⟨_, HU.out.2.2.1⟩ (by decide), ownB_z _ _, by rw [hW2]; exact HU.out.2.1.setCell (p := ⟨B + 1 + 1, 4, none⟩) (by show w.heap.size ≤ B + 1 + 1; have := HW.out.2.2.2.2.1; omega) _, by rw [hW2]; have h9 := HU.out.2.2.1.set 4 (.slice r l c); simpa using h9, by rw [hW2]; exact HU.out.2.2.2.setNe (by omega)⟩
  rw [← hW2]
  clear hW2 HU y0 y1 y2 y3 y4 y5 x0 x1 x2 x3 x4 x5 f0 f1 f2 f3 f4 f5 v0 v1 v2 v3 v4 v5
  have HY : Hid (OwnI (setL W2 (B + 1) 0 [.int .i64 6, .int .i64 0, .int .i64 pl, .int .i64 0, .slice r l c, .slice none 0 0]) w.heap.size (.slice r l c) ws ∧ OwnB (setL W2 (B + 1) 0 [.int .i64 6, .int .i64 0, .int .i64 pl, .int .i64 0, .slice r l c, .slice none 0 0]) w.heap.size (.slice none 0 0) [] ∧ Below w.heap.size w (setL W2 (B + 1) 0 [.int .i64 6, .int .i64 0, .int .i64 pl, .int .i64 0, .slice r l c, .slice none 0 0])) := ⟨row_setL HX.out.1 ⟨_, HX.out.2.2.2.2⟩ (by decide), row_setL HX.out.2.1 ⟨_, HX.out.2.2.2.2⟩ (by decide), setL_below (by have := HW.out.2.2.2.2.1; omega) _ _ _ HX.out.2.2.1⟩
  obtain ⟨⟨x0, x1, x2, x3, x4, x5⟩, _⟩ := HX.out.2.2.2.1.six2
  obtain ⟨⟨z0, z1, z2, z3, z4, z5⟩, ⟨g0, g1, g2, g3, g4, g5⟩⟩ := HX.out.2.2.2.2.six2
  clear HX
  go_wp2
  refine bodyPost_ret (v := .agg #[.int .i64 6, .int .i64 0, .int .i64 pl, .int .i64 0, .slice r l c, .slice none 0 0]) (by simp [results, Try.results61, go_sem, z0, z1, z2, z3, z4, z5]) rfl ⟨r, none, l, 0, c, 0, rfl, HN1.out, rfl, HY.out.1, HY.out.2.1, HY.out.2.2⟩
set_option maxRecDepth 20000 in
set_option maxHeartbeats 2000000 in
theorem echo_22 (pl nn wa : Int) (q1 q2 : Option Addr) (m1 m2 k1 k2 : Nat) (w : World) (ws : List Int) (h1 : m1 = ws.length) (s1 : SlI w q1 ws) (hl : ws.length ≤ 2000000) :
    Calls Try.prog 61 #[.agg (rqc 22 pl nn wa q1 q2 m1 m2 k1 k2)] w fun e w' => AnPost w w' e ⟨22, 0, pl, 0, ws, []⟩ := by
  obtain ⟨B, hB⟩ : ∃ B, B = w.heap.size := ⟨_, rfl⟩
  obtain ⟨W, hW⟩ : ∃ W, W = ((w.alloc (.cells (rqc 22 pl nn wa q1 q2 m1 m2 k1 k2) 28)).alloc (.cells #[.int .i64 0, .int .i64 0, .int .i64 0, .int .i64 0, .slice none 0 0, .slice none 0 0] 49)).alloc (.cells #[.int .i64 22, .int .i64 0, .int .i64 pl, .int .i64 0, .slice none 0 0, .slice none 0 0] 49) := ⟨_, rfl⟩
  have bW : Below w.heap.size w W := by rw [hW]; exact bel_next (bel_next (bel_alloc _ _) (bel_alloc _ _)) (bel_alloc _ _)
  have HW : Hid (Below w.heap.size w W ∧ Blk W B 28 (rqc 22 pl nn wa q1 q2 m1 m2 k1 k2) ∧ Blk W (B + 1) 49 #[.int .i64 0, .int .i64 0, .int .i64 0, .int .i64 0, .slice none 0 0, .slice none 0 0] ∧ Blk W (B + 1 + 1) 49 #[.int .i64 22, .int .i64 0, .int .i64 pl, .int .i64 0, .slice none 0 0, .slice none 0 0] ∧ w.heap.size = B ∧ w.heap.size ≤ W.heap.size) := by
    refine ⟨bW, by rw [hW, hB]; exact ((Blk.new w _ _).below (bel_alloc _ _)).below (bel_alloc _ _), ?_, ?_, hB.symm, bW.size⟩
    · rw [hW, hB]
      have := (Blk.new (w.alloc (.cells (rqc 22 pl nn wa q1 q2 m1 m2 k1 k2) 28)) #[.int .i64 0, .int .i64 0, .int .i64 0, .int .i64 0, .slice none 0 0, .slice none 0 0] 49).below (bel_alloc _ (.cells #[.int .i64 22, .int .i64 0, .int .i64 pl, .int .i64 0, .slice none 0 0, .slice none 0 0] 49))
      simpa using this
    · rw [hW, hB]
      have := Blk.new ((w.alloc (.cells (rqc 22 pl nn wa q1 q2 m1 m2 k1 k2) 28)).alloc (.cells #[.int .i64 0, .int .i64 0, .int .i64 0, .int .i64 0, .slice none 0 0, .slice none 0 0] 49)) #[.int .i64 22, .int .i64 0, .int .i64 pl, .int .i64 0, .slice none 0 0, .slice none 0 0] 49
      simpa using this
  clear bW
  have HS : Hid (m1 = ws.length ∧ SlI w q1 ws) := ⟨h1, s1⟩
  clear h1 s1
  go_enter Try.func61, Try.ntmps61
  go_upto_region 2 with fail
  rw [← hW, ← hB]
  clear hW hB
  obtain ⟨⟨y0, y1, y2, y3, y4, y5⟩, _⟩ := HW.out.2.1.six2
  obtain ⟨⟨v0, v1, v2, v3, v4, v5⟩, _⟩ := (HW.out.2.1.below (bel_alloc W (.cells #[] 3))).six2
  go_upto_region 10 with (at_builtin; refine wpList_appIO rfl (.tmp 11) (.tmp 13) rfl w.heap.size (.slice (some ⟨W.heap.size, 0, none⟩) 0 0) [] rfl (newI W w.heap.size HW.out.2.2.2.2.2) q1 m1 k1 ws rfl HS.out.1 (HS.out.2.below (bel_next HW.out.1 (bel_alloc _ _))) (by simp; omega) (by have := HW.out.2.2.2.2.2; simp; omega) ?_; intro vv w1 O1 g1'; have g1 : (W.alloc (.cells #[] 3)).grownBy w1 (some W.heap.size) := g1'; clear g1'; have HU : Hid (OwnI w1 w.heap.size vv ws ∧ Below w.heap.size w w1 ∧ Blk w1 (B + 1 + 1) 49 #[.int .i64 22, .int .i64 0, .int .i64 pl, .int .i64 0, .slice none 0 0, .slice none 0 0] ∧ Blk w1 (B + 1) 49 #[.int .i64 0, .int .i64 0, .int .i64 0, .int .i64 0, .slice none 0 0, .slice none 0 0]) := ⟨by simpa using O1, grown_below2 (bel_next HW.out.1 (bel_alloc _ _)) g1 HW.out.2.2.2.2.2 (by have := HW.out.2.2.2.2.2; simp; omega), (HW.out.2.2.2.1.below (bel_alloc _ _)).grown g1 (by have := HW.out.2.2.2.1.lt; intro e9; have := Option.some.inj e9; omega), (HW.out.2.2.1.below (bel_alloc _ _)).grown g1 (by have := HW.out.2.2.1.lt; intro e9; have := Option.some.inj e9; omega)⟩; clear O1 g1; obtain ⟨r, c, l, hv1, hn1⟩ := ownI_shape2 HU.out.1; subst hv1; have HN1 : Hid (l = ws.length) := hn1; clear hn1; obtain ⟨⟨x0, x1, x2, x3, x4, x5⟩, ⟨f0, f1, f2, f3, f4, f5⟩⟩ := HU.out.2.2.1.six2)
  obtain ⟨W2, hW2⟩ : ∃ W2, W2 = w1.setCell ⟨B + 1 + 1, 4, none⟩ (.slice r l c) := ⟨_, rfl⟩
  have HX : Hid (OwnI W2 w.heap.size (.slice r l c) ws ∧ OwnB W2 w.heap.size (.slice none 0 0) [] ∧ Below w.heap.size w W2 ∧ Blk W2 (B + 1 + 1) 49 #[.int .i64 22, .int .i64 0, .int .i64 pl, .int .i64 0, .slice r l c, .slice none 0 0] ∧ Blk W2 (B + 1) 49 #[.int .i64 0, .int .i64 0, .int .i64 0, .int .i64 0, .slice none 0 0, .slice none 0 0]) := ⟨by rw [hW2]; exact row_setE HU.out.1 ⟨_, HU.out.2.2.1⟩ (by decide), ownB_z _ _, by rw [hW2]; exact HU.out.2.1.setCell (p := ⟨B + 1 + 1, 4, none⟩) (by show w.heap.size ≤ B + 1 + 1; have := HW.out.2.2.2.2.1; omega) _, by rw [hW2]; have h9 := HU.out.2.2.1.set 4 (.slice r l c); simpa using h9, by rw [hW2]; exact HU.out.2.2.2.setNe (by omega)⟩
  rw [← hW2]
  clear hW2 HU y0 y1 y2 y3 y4 y5 x0 x1 x2 x3 x4 x5 f0 f1 f2 f3 f4 f5 v0 v1 v2 v3 v4 v5
  have HY : Hid (OwnI (setL W2 (B + 1) 0 [.int .i64 22, .int .i64 0, .int .i64 pl, .int .i64 0, .slice r l c, .slice none 0 0]) w.heap.size (.slice r l c) ws ∧ OwnB (setL W2 (B + 1) 0 [.int .i64 22, .int .i64 0, .int .i64 pl, .int .i64 0, .slice r l c, .slice none 0 0]) w.heap.size (.slice none 0 0) [] ∧ Below w.heap.size w (setL W2 (B + 1) 0 [.int .i64 22, .int .i64 0, .int .i64 pl, .int .i64 0, .slice r l c, .slice none 0 0])) := ⟨row_setL HX.out.1 ⟨_, HX.out.2.2.2.2⟩ (by decide), row_setL HX.out.2.1 ⟨_, HX.out.2.2.2.2⟩ (by decide), setL_below (by have := HW.out.2.2.2.2.1; omega) _ _ _ HX.out.2.2.1⟩
  obtain ⟨⟨x0, x1, x2, x3, x4, x5⟩, _⟩ := HX.out.2.2.2.1.six2
  obtain ⟨⟨z0, z1, z2, z3, z4, z5⟩, ⟨g0, g1, g2, g3, g4, g5⟩⟩ := HX.out.2.2.2.2.six2
  clear HX
  go_wp2
  refine bodyPost_ret (v := .agg #[.int .i64 22, .int .i64 0, .int .i64 pl, .int .i64 0, .slice r l c, .slice none 0 0]) (by simp [results, Try.results61, go_sem, z0, z1, z2, z3, z4, z5]) rfl ⟨r, none, l, 0, c, 0, rfl, HN1.out, rfl, HY.out.1, HY.out.2.1, HY.out.2.2⟩
end Go.Proofs.Ytegckbfbmbiogaa
