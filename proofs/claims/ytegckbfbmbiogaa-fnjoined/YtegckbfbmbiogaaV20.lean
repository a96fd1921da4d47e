/- Texts that the proof needs, joined: Jn6. -/
import Derived.Test.YtegckbfbmbiogaaV19
import Derived.Deep.RegionWith
namespace Go.Proofs.Ytegckbfbmbiogaa
open Go.RowKit Go.Joins
set_option linter.unusedVariables false
set_option linter.unusedSimpArgs false
def AnPost (w w' : World) (e : Ending) (x : An) : Prop :=
  ∃ r1 r2 l1 l2 c1 c2, e = .returned (.agg #[.int .i64 x.kd, .int .i64 x.fl, .int .i64 x.pl, .int .i64 x.nn, .slice r1 l1 c1, .slice r2 l2 c2]) ∧ l1 = x.ws.length ∧ l2 = x.bs.length ∧ OwnI w' w.heap.size (.slice r1 l1 c1) x.ws ∧ OwnB w' w.heap.size (.slice r2 l2 c2) x.bs ∧ Below w.heap.size w w'
set_option maxRecDepth 20000 in
set_option maxHeartbeats 2000000 in
theorem whole_1 (pl nn wa : Int) (q1 q2 : Option Addr) (m1 m2 k1 k2 : Nat) (a : Option Addr) (n cap : Nat) (at' : Option Addr) (n' cap' : Nat) (w : World) (base : Nat) (Ps : List Pa) (A : Nat → An) (hnn : n' = n) (hn : n = Ps.length) (h : OwnPs w base (.slice a n cap) Ps) (h' : SlA w at' n A) (hn8 : n ≤ 1000) (hP : ∀ k, k < n → 0 ≤ (Ps.getD k default).n ∧ (Ps.getD k default).n ≤ 2000) (hA : ∀ k, k < n → (A k).bs.length ≤ 2000) :
    Calls Try.prog 57 #[.agg (rqc 1 pl nn wa q1 q2 m1 m2 k1 k2), .slice a n cap, .slice at' n' cap'] w fun e w' => AnPost w w' e ⟨1, 0, 0, 0, [], jB Ps A n ++ List.replicate (8 * (((jB Ps A n).length + 7) / 8) - (jB Ps A n).length) false⟩ := by
  obtain ⟨B, hB⟩ : ∃ B, B = w.heap.size := ⟨_, rfl⟩
  obtain ⟨W, hW⟩ : ∃ W, W = ((w.alloc (.cells (rqc 1 pl nn wa q1 q2 m1 m2 k1 k2) 28)).alloc (.cells #[.int .i64 0, .int .i64 0, .int .i64 0, .int .i64 0, .slice none 0 0, .slice none 0 0] 49)).alloc (.cells #[.int .i64 1, .int .i64 0, .int .i64 0, .int .i64 0, .slice none 0 0, .slice none 0 0] 49) := ⟨_, rfl⟩
  have bW : Below w.heap.size w W := by rw [hW]; exact bel_next (bel_next (bel_alloc _ _) (bel_alloc _ _)) (bel_alloc _ _)
  have HW : Hid (Below w.heap.size w W ∧ Blk W B 28 (rqc 1 pl nn wa q1 q2 m1 m2 k1 k2) ∧ Blk W (B + 1) 49 #[.int .i64 0, .int .i64 0, .int .i64 0, .int .i64 0, .slice none 0 0, .slice none 0 0] ∧ Blk W (B + 1 + 1) 49 #[.int .i64 1, .int .i64 0, .int .i64 0, .int .i64 0, .slice none 0 0, .slice none 0 0] ∧ w.heap.size = B) := by
    refine ⟨bW, by rw [hW, hB]; exact ((Blk.new w _ _).below (bel_alloc _ _)).below (bel_alloc _ _), ?_, ?_, hB.symm⟩
    · rw [hW, hB]
      have := (Blk.new (w.alloc (.cells (rqc 1 pl nn wa q1 q2 m1 m2 k1 k2) 28)) #[.int .i64 0, .int .i64 0, .int .i64 0, .int .i64 0, .slice none 0 0, .slice none 0 0] 49).below (bel_alloc _ (.cells #[.int .i64 1, .int .i64 0, .int .i64 0, .int .i64 0, .slice none 0 0, .slice none 0 0] 49))
      simpa using this
    · rw [hW, hB]
      have := Blk.new ((w.alloc (.cells (rqc 1 pl nn wa q1 q2 m1 m2 k1 k2) 28)).alloc (.cells #[.int .i64 0, .int .i64 0, .int .i64 0, .int .i64 0, .slice none 0 0, .slice none 0 0] 49)) #[.int .i64 1, .int .i64 0, .int .i64 0, .int .i64 0, .slice none 0 0, .slice none 0 0] 49
      simpa using this
  clear bW
  subst hnn
  have HC : Hid (Calls Try.prog 104 #[.slice a n' cap, .slice at' n' cap'] W fun e w' => ∃ v, e = .returned v ∧ OwnB w' W.heap.size v (jB Ps A n' ++ List.replicate (8 * (((jB Ps A n').length + 7) / 8) - (jB Ps A n').length) false) ∧ Below W.heap.size W w') := joinedBits_any a n' cap base Ps at' cap' A W hn (h.below HW.out.1) (h'.below HW.out.1) hn8 hP hA
  obtain ⟨XB, hXB⟩ : ∃ XB, XB = jB Ps A n' ++ List.replicate (8 * (((jB Ps A n').length + 7) / 8) - (jB Ps A n').length) false := ⟨_, rfl⟩
  rw [← hXB] at HC ⊢
  clear h h' hP hA hn hXB
  go_enter Try.func57, Try.ntmps57
  go_upto_region 2 with fail
  rw [← hW, ← hB]
  clear hW hB
  obtain ⟨⟨y0, y1, y2, y3, y4, y5⟩, _⟩ := HW.out.2.1.six2
  obtain ⟨⟨x0, x1, x2, x3, x4, x5⟩, ⟨f0, f1, f2, f3, f4, f5⟩⟩ := HW.out.2.2.2.1.six2
  go_wp2_with fail
  refine HC.out.mono ?_
  rintro e w1 ⟨v, rfl, o1, b1⟩
  obtain ⟨r2, d2, l2, hv, hl2⟩ := ownB_shape o1
  subst hv
  have HN : Hid (0 = ([] : List Int).length ∧ l2 = XB.length) := ⟨rfl, hl2⟩
  clear hl2
  have K1 := HW.out.2.2.2.1.below b1
  obtain ⟨W2, hW2⟩ : ∃ W2, W2 = w1.setCell ⟨B + 1 + 1, 5, none⟩ (.slice r2 l2 d2) := ⟨_, rfl⟩
  have HX : Hid (OwnI W2 w.heap.size (.slice none 0 0) [] ∧ OwnB W2 w.heap.size (.slice r2 l2 d2) XB ∧ Below w.heap.size w W2 ∧ Blk W2 (B + 1 + 1) 49 #[.int .i64 1, .int .i64 0, .int .i64 0, .int .i64 0, .slice none 0 0, .slice r2 l2 d2] ∧ Blk W2 (B + 1) 49 #[.int .i64 0, .int .i64 0, .int .i64 0, .int .i64 0, .slice none 0 0, .slice none 0 0]) := ⟨ownI_z _ _, by rw [hW2]; exact row_setE (OwnB.mono o1 HW.out.1.size) ⟨_, K1⟩ (by decide), by rw [hW2]; exact (bel_next HW.out.1 b1).setCell (p := ⟨B + 1 + 1, 5, none⟩) (by show w.heap.size ≤ B + 1 + 1; have := HW.out.2.2.2.2; omega) _, by rw [hW2]; have h9 := K1.set 5 (.slice r2 l2 d2); simpa using h9, by rw [hW2]; exact (HW.out.2.2.1.below b1).setNe (by omega)⟩
  clear x0 x1 x2 x3 x4 x5 f0 f1 f2 f3 f4 f5
  obtain ⟨⟨x0, x1, x2, x3, x4, x5⟩, ⟨f0, f1, f2, f3, f4, f5⟩⟩ := K1.six2
  go_upto_region 18 with fail
  rw [← hW2]
  clear hW2 o1 b1 K1 y0 y1 y2 y3 y4 y5 x0 x1 x2 x3 x4 x5 f0 f1 f2 f3 f4 f5 HC
  have HY : Hid (OwnI (setL W2 (B + 1) 0 [.int .i64 1, .int .i64 0, .int .i64 0, .int .i64 0, .slice none 0 0, .slice r2 l2 d2]) w.heap.size (.slice none 0 0) [] ∧ OwnB (setL W2 (B + 1) 0 [.int .i64 1, .int .i64 0, .int .i64 0, .int .i64 0, .slice none 0 0, .slice r2 l2 d2]) w.heap.size (.slice r2 l2 d2) XB ∧ Below w.heap.size w (setL W2 (B + 1) 0 [.int .i64 1, .int .i64 0, .int .i64 0, .int .i64 0, .slice none 0 0, .slice r2 l2 d2])) := ⟨row_setL HX.out.1 ⟨_, HX.out.2.2.2.2⟩ (by decide), row_setL HX.out.2.1 ⟨_, HX.out.2.2.2.2⟩ (by decide), setL_below (by have := HW.out.2.2.2.2; omega) _ _ _ HX.out.2.2.1⟩
  obtain ⟨⟨x0, x1, x2, x3, x4, x5⟩, _⟩ := HX.out.2.2.2.1.six2
  obtain ⟨⟨z0, z1, z2, z3, z4, z5⟩, ⟨g0, g1, g2, g3, g4, g5⟩⟩ := HX.out.2.2.2.2.six2
  clear HX
  go_wp2
  refine bodyPost_ret (v := .agg #[.int .i64 1, .int .i64 0, .int .i64 0, .int .i64 0, .slice none 0 0, .slice r2 l2 d2]) (by simp [results, Try.results57, go_sem, z0, z1, z2, z3, z4, z5]) rfl ⟨none, r2, 0, l2, 0, d2, rfl, HN.out.1, HN.out.2, HY.out.1, HY.out.2.1, HY.out.2.2⟩
set_option maxRecDepth 20000 in
set_option maxHeartbeats 2000000 in
theorem whole_2 (pl nn wa : Int) (q1 q2 : Option Addr) (m1 m2 k1 k2 : Nat) (a : Option Addr) (n cap : Nat) (at' : Option Addr) (n' cap' : Nat) (w : World) (base : Nat) (Ps : List Pa) (A : Nat → An) (hnn : n' = n) (hn : n = Ps.length) (h : OwnPs w base (.slice a n cap) Ps) (h' : SlA w at' n A) (hn8 : n ≤ 1000) (hP : ∀ k, k < n → 0 ≤ (Ps.getD k default).n ∧ (Ps.getD k default).n ≤ 2000) (hA : ∀ k, k < n → (A k).bs.length ≤ 2000) :
    Calls Try.prog 57 #[.agg (rqc 2 pl nn wa q1 q2 m1 m2 k1 k2), .slice a n cap, .slice at' n' cap'] w fun e w' => AnPost w w' e ⟨2, 0, 0, 0, [], jB Ps A n ++ List.replicate (8 * (((jB Ps A n).length + 7) / 8) - (jB Ps A n).length) false⟩ := by
  obtain ⟨B, hB⟩ : ∃ B, B = w.heap.size := ⟨_, rfl⟩
  obtain ⟨W, hW⟩ : ∃ W, W = ((w.alloc (.cells (rqc 2 pl nn wa q1 q2 m1 m2 k1 k2) 28)).alloc (.cells #[.int .i64 0, .int .i64 0, .int .i64 0, .int .i64 0, .slice none 0 0, .slice none 0 0] 49)).alloc (.cells #[.int .i64 2, .int .i64 0, .int .i64 0, .int .i64 0, .slice none 0 0, .slice none 0 0] 49) := ⟨_, rfl⟩
  have bW : Below w.heap.size w W := by rw [hW]; exact bel_next (bel_next (bel_alloc _ _) (bel_alloc _ _)) (bel_alloc _ _)
  have HW : Hid (Below w.heap.size w W ∧ Blk W B 28 (rqc 2 pl nn wa q1 q2 m1 m2 k1 k2) ∧ Blk W (B + 1) 49 #[.int .i64 0, .int .i64 0, .int .i64 0, .int .i64 0, .slice none 0 0, .slice none 0 0] ∧ Blk W (B + 1 + 1) 49 #[.int .i64 2, .int .i64 0, .int .i64 0, .int .i64 0, .slice none 0 0, .slice none 0 0] ∧ w.heap.size = B) := by
    refine ⟨bW, by rw [hW, hB]; exact ((Blk.new w _ _).below (bel_alloc _ _)).below (bel_alloc _ _), ?_, ?_, hB.symm⟩
    · rw [hW, hB]
      have := (Blk.new (w.alloc (.cells (rqc 2 pl nn wa q1 q2 m1 m2 k1 k2) 28)) #[.int .i64 0, .int .i64 0, .int .i64 0, .int .i64 0, .slice none 0 0, .slice none 0 0] 49).below (bel_alloc _ (.cells #[.int .i64 2, .int .i64 0, .int .i64 0, .int .i64 0, .slice none 0 0, .slice none 0 0] 49))
      simpa using this
    · rw [hW, hB]
      have := Blk.new ((w.alloc (.cells (rqc 2 pl nn wa q1 q2 m1 m2 k1 k2) 28)).alloc (.cells #[.int .i64 0, .int .i64 0, .int .i64 0, .int .i64 0, .slice none 0 0, .slice none 0 0] 49)) #[.int .i64 2, .int .i64 0, .int .i64 0, .int .i64 0, .slice none 0 0, .slice none 0 0] 49
      simpa using this
  clear bW
  subst hnn
  have HC : Hid (Calls Try.prog 104 #[.slice a n' cap, .slice at' n' cap'] W fun e w' => ∃ v, e = .returned v ∧ OwnB w' W.heap.size v (jB Ps A n' ++ List.replicate (8 * (((jB Ps A n').length + 7) / 8) - (jB Ps A n').length) false) ∧ Below W.heap.size W w') := joinedBits_any a n' cap base Ps at' cap' A W hn (h.below HW.out.1) (h'.below HW.out.1) hn8 hP hA
  obtain ⟨XB, hXB⟩ : ∃ XB, XB = jB Ps A n' ++ List.replicate (8 * (((jB Ps A n').length + 7) / 8) - (jB Ps A n').length) false := ⟨_, rfl⟩
  rw [← hXB] at HC ⊢
  clear h h' hP hA hn hXB
  go_enter Try.func57, Try.ntmps57
  go_upto_region 2 with fail
  rw [← hW, ← hB]
  clear hW hB
  obtain ⟨⟨y0, y1, y2, y3, y4, y5⟩, _⟩ := HW.out.2.1.six2
  obtain ⟨⟨x0, x1, x2, x3, x4, x5⟩, ⟨f0, f1, f2, f3, f4, f5⟩⟩ := HW.out.2.2.2.1.six2
  go_wp2_with fail
  refine HC.out.mono ?_
  rintro e w1 ⟨v, rfl, o1, b1⟩
  obtain ⟨r2, d2, l2, hv, hl2⟩ := ownB_shape o1
  subst hv
  have HN : Hid (0 = ([] : List Int).length ∧ l2 = XB.length) := ⟨rfl, hl2⟩
  clear hl2
  have K1 := HW.out.2.2.2.1.below b1
  obtain ⟨W2, hW2⟩ : ∃ W2, W2 = w1.setCell ⟨B + 1 + 1, 5, none⟩ (.slice r2 l2 d2) := ⟨_, rfl⟩
  have HX : Hid (OwnI W2 w.heap.size (.slice none 0 0) [] ∧ OwnB W2 w.heap.size (.slice r2 l2 d2) XB ∧ Below w.heap.size w W2 ∧ Blk W2 (B + 1 + 1) 49 #[.int .i64 2, .int .i64 0, .int .i64 0, .int .i64 0, .slice none 0 0, .slice r2 l2 d2] ∧ Blk W2 (B + 1) 49 #[.int .i64 0, .int .i64 0, .int .i64 0, .int .i64 0, .slice none 0 0, .slice none 0 0]) := ⟨ownI_z _ _, by rw [hW2]; exact row_setE (OwnB.mono o1 HW.out.1.size) ⟨_, K1⟩ (by decide), by rw [hW2]; exact (bel_next HW.out.1 b1).setCell (p := ⟨B + 1 + 1, 5, none⟩) (by show w.heap.size ≤ B + 1 + 1; have := HW.out.2.2.2.2; omega) _, by rw [hW2]; have h9 := K1.set 5 (.slice r2 l2 d2); simpa using h9, by rw [hW2]; exact (HW.out.2.2.1.below b1).setNe (by omega)⟩
  clear x0 x1 x2 x3 x4 x5 f0 f1 f2 f3 f4 f5
  obtain ⟨⟨x0, x1, x2, x3, x4, x5⟩, ⟨f0, f1, f2, f3, f4, f5⟩⟩ := K1.six2
  go_upto_region 18 with fail
  rw [← hW2]
  clear hW2 o1 b1 K1 y0 y1 y2 y3 y4 y5 x0 x1 x2 x3 x4 x5 f0 f1 f2 f3 f4 f5 HC
  have HY : Hid (OwnI (setL W2 (B + 1) 0 [.int .i64 2, .int .i64 0, .int .i64 0, .int .i64 0, .slice none 0 0, .slice r2 l2 d2]) w.heap.size (.slice none 0 0) [] ∧ OwnB (setL W2 (B + 1) 0 [.int .i64 2, .int .i64 0, .int .i64 0, .int .i64 0, .slice none 0 0, .slice r2 l2 d2]) w.heap.size (.slice r2 l2 d2) XB ∧ Below w.heap.size w (setL W2 (B + 1) 0 [.int .i64 2, .int .i64 0, .int .i64 0, .int .i64 0, .slice none 0 0, .slice r2 l2 d2])) := ⟨row_setL HX.out.1 ⟨_, HX.out.2.2.2.2⟩ (by decide), row_setL HX.out.2.1 ⟨_, HX.out.2.2.2.2⟩ (by decide), setL_below (by have := HW.out.2.2.2.2; omega) _ _ _ HX.out.2.2.1⟩
  obtain ⟨⟨x0, x1, x2, x3, x4, x5⟩, _⟩ := HX.out.2.2.2.1.six2
  obtain ⟨⟨z0, z1, z2, z3, z4, z5⟩, ⟨g0, g1, g2, g3, g4, g5⟩⟩ := HX.out.2.2.2.2.six2
  clear HX
  go_wp2
  refine bodyPost_ret (v := .agg #[.int .i64 2, .int .i64 0, .int .i64 0, .int .i64 0, .slice none 0 0, .slice r2 l2 d2]) (by simp [results, Try.results57, go_sem, z0, z1, z2, z3, z4, z5]) rfl ⟨none, r2, 0, l2, 0, d2, rfl, HN.out.1, HN.out.2, HY.out.1, HY.out.2.1, HY.out.2.2⟩
set_option maxRecDepth 20000 in
set_option maxHeartbeats 2000000 in
theorem whole_3 (pl nn wa : Int) (q1 q2 : Option Addr) (m1 m2 k1 k2 : Nat) (a : Option Addr) (n cap : Nat) (at' : Option Addr) (n' cap' : Nat) (w : World) (A : Nat → An) (h' : SlA w at' n' A) (hn8 : n' ≤ 1000) (hA : ∀ k, k < n' → (A k).ws.length ≤ 2000) :
    Calls Try.prog 57 #[.agg (rqc 3 pl nn wa q1 q2 m1 m2 k1 k2), .slice a n cap, .slice at' n' cap'] w fun e w' => AnPost w w' e ⟨3, 0, 0, 0, jW A n', []⟩ := by
  obtain ⟨B, hB⟩ : ∃ B, B = w.heap.size := ⟨_, rfl⟩
  obtain ⟨W, hW⟩ : ∃ W, W = ((w.alloc (.cells (rqc 3 pl nn wa q1 q2 m1 m2 k1 k2) 28)).alloc (.cells #[.int .i64 0, .int .i64 0, .int .i64 0, .int .i64 0, .slice none 0 0, .slice none 0 0] 49)).alloc (.cells #[.int .i64 3, .int .i64 0, .int .i64 0, .int .i64 0, .slice none 0 0, .slice none 0 0] 49) := ⟨_, rfl⟩
  have bW : Below w.heap.size w W := by rw [hW]; exact bel_next (bel_next (bel_alloc _ _) (bel_alloc _ _)) (bel_alloc _ _)
  have HW : Hid (Below w.heap.size w W ∧ Blk W B 28 (rqc 3 pl nn wa q1 q2 m1 m2 k1 k2) ∧ Blk W (B + 1) 49 #[.int .i64 0, .int .i64 0, .int .i64 0, .int .i64 0, .slice none 0 0, .slice none 0 0] ∧ Blk W (B + 1 + 1) 49 #[.int .i64 3, .int .i64 0, .int .i64 0, .int .i64 0, .slice none 0 0, .slice none 0 0] ∧ w.heap.size = B) := by
    refine ⟨bW, by rw [hW, hB]; exact ((Blk.new w _ _).below (bel_alloc _ _)).below (bel_alloc _ _), ?_, ?_, hB.symm⟩
    · rw [hW, hB]
      have := (Blk.new (w.alloc (.cells (rqc 3 pl nn wa q1 q2 m1 m2 k1 k2) 28)) #[.int .i64 0, .int .i64 0, .int .i64 0, .int .i64 0, .slice none 0 0, .slice none 0 0] 49).below (bel_alloc _ (.cells #[.int .i64 3, .int .i64 0, .int .i64 0, .int .i64 0, .slice none 0 0, .slice none 0 0] 49))
      simpa using this
    · rw [hW, hB]
      have := Blk.new ((w.alloc (.cells (rqc 3 pl nn wa q1 q2 m1 m2 k1 k2) 28)).alloc (.cells #[.int .i64 0, .int .i64 0, .int .i64 0, .int .i64 0, .slice none 0 0, .slice none 0 0] 49)) #[.int .i64 3, .int .i64 0, .int .i64 0, .int .i64 0, .slice none 0 0, .slice none 0 0] 49
      simpa using this
  clear bW
  have HC : Hid (Calls Try.prog 105 #[.slice at' n' cap'] W fun e w' => ∃ v, e = .returned v ∧ OwnI w' W.heap.size v (jW A n') ∧ Below W.heap.size W w') := joinedWords_any at' n' cap' A W (h'.below HW.out.1) hn8 hA
  obtain ⟨XW, hXW⟩ : ∃ XW, XW = jW A n' := ⟨_, rfl⟩
  rw [← hXW] at HC ⊢
  clear h' hA hXW
  go_enter Try.func57, Try.ntmps57
  go_upto_region 2 with fail
  rw [← hW, ← hB]
  clear hW hB
  obtain ⟨⟨y0, y1, y2, y3, y4, y5⟩, _⟩ := HW.out.2.1.six2
  obtain ⟨⟨x0, x1, x2, x3, x4, x5⟩, ⟨f0, f1, f2, f3, f4, f5⟩⟩ := HW.out.2.2.2.1.six2
  go_wp2_with fail
  refine HC.out.mono ?_
  rintro e w1 ⟨v, rfl, o1, b1⟩
  obtain ⟨r1, d1, l1, hv, hl1⟩ := ownI_shape2 o1
  subst hv
  have HN : Hid (l1 = XW.length ∧ 0 = ([] : List Bool).length) := ⟨hl1, rfl⟩
  clear hl1
  have K1 := HW.out.2.2.2.1.below b1
  obtain ⟨W2, hW2⟩ : ∃ W2, W2 = w1.setCell ⟨B + 1 + 1, 4, none⟩ (.slice r1 l1 d1) := ⟨_, rfl⟩
  have HX : Hid (OwnI W2 w.heap.size (.slice r1 l1 d1) XW ∧ OwnB W2 w.heap.size (.slice none 0 0) [] ∧ Below w.heap.size w W2 ∧ Blk W2 (B + 1 + 1) 49 #[.int .i64 3, .int .i64 0, .int .i64 0, .int .i64 0, .slice r1 l1 d1, .slice none 0 0] ∧ Blk W2 (B + 1) 49 #[.int .i64 0, .int .i64 0, .int .i64 0, .int .i64 0, .slice none 0 0, .slice none 0 0]) := ⟨by rw [hW2]; exact row_setE (OwnI.mono o1 HW.out.1.size) ⟨_, K1⟩ (by decide), ownB_z _ _, by rw [hW2]; exact (bel_next HW.out.1 b1).setCell (p := ⟨B + 1 + 1, 4, none⟩) (by show w.heap.size ≤ B + 1 + 1; have := HW.out.2.2.2.2; omega) _, by rw [hW2]; have h9 := K1.set 4 (.slice r1 l1 d1); simpa using h9, by rw [hW2]; exact (HW.out.2.2.1.below b1).setNe (by omega)⟩
  clear x0 x1 x2 x3 x4 x5 f0 f1 f2 f3 f4 f5
  obtain ⟨⟨x0, x1, x2, x3, x4, x5⟩, ⟨f0, f1, f2, f3, f4, f5⟩⟩ := K1.six2
  go_upto_region 18 with fail
  rw [← hW2]
  clear hW2 o1 b1 K1 y0 y1 y2 y3 y4 y5 x0 x1 x2 x3 x4 x5 f0 f1 f2 f3 f4 f5 HC
  have HY : Hid (OwnI (setL W2 (B + 1) 0 [.int .i64 3, .int .i64 0, .int .i64 0, .int .i64 0, .slice r1 l1 d1, .slice none 0 0]) w.heap.size (.slice r1 l1 d1) XW ∧ OwnB (setL W2 (B + 1) 0 [.int .i64 3, .int .i64 0, .int .i64 0, .int .i64 0, .slice r1 l1 d1, .slice none 0 0]) w.heap.size (.slice none 0 0) [] ∧ Below w.heap.size w (setL W2 (B + 1) 0 [.int .i64 3, .int .i64 0, .int .i64 0, .int .i64 0, .slice r1 l1 d1, .slice none 0 0])) := ⟨row_setL HX.out.1 ⟨_, HX.out.2.2.2.2⟩ (by decide), row_setL HX.out.2.1 ⟨_, HX.out.2.2.2.2⟩ (by decide), setL_below (by have := HW.out.2.2.2.2; omega) _ _ _ HX.out.2.2.1⟩
  obtain ⟨⟨x0, x1, x2, x3, x4, x5⟩, _⟩ := HX.out.2.2.2.1.six2
  obtain ⟨⟨z0, z1, z2, z3, z4, z5⟩, ⟨g0, g1, g2, g3, g4, g5⟩⟩ := HX.out.2.2.2.2.six2
  clear HX
  go_wp2
  refine bodyPost_ret (v := .agg #[.int .i64 3, .int .i64 0, .int .i64 0, .int .i64 0, .slice r1 l1 d1, .slice none 0 0]) (by simp [results, Try.results57, go_sem, z0, z1, z2, z3, z4, z5]) rfl ⟨r1, none, l1, 0, d1, 0, rfl, HN.out.1, HN.out.2, HY.out.1, HY.out.2.1, HY.out.2.2⟩
set_option maxRecDepth 20000 in
set_option maxHeartbeats 2000000 in
theorem whole_4 (pl nn wa : Int) (q1 q2 : Option Addr) (m1 m2 k1 k2 : Nat) (a : Option Addr) (n cap : Nat) (at' : Option Addr) (n' cap' : Nat) (w : World) (A : Nat → An) (h' : SlA w at' n' A) (hn8 : n' ≤ 1000) (hA : ∀ k, k < n' → (A k).ws.length ≤ 2000) :
    Calls Try.prog 57 #[.agg (rqc 4 pl nn wa q1 q2 m1 m2 k1 k2), .slice a n cap, .slice at' n' cap'] w fun e w' => AnPost w w' e ⟨4, 0, 0, 0, jW A n', []⟩ := by
  obtain ⟨B, hB⟩ : ∃ B, B = w.heap.size := ⟨_, rfl⟩
  obtain ⟨W, hW⟩ : ∃ W, W = ((w.alloc (.cells (rqc 4 pl nn wa q1 q2 m1 m2 k1 k2) 28)).alloc (.cells #[.int .i64 0, .int .i64 0, .int .i64 0, .int .i64 0, .slice none 0 0, .slice none 0 0] 49)).alloc (.cells #[.int .i64 4, .int .i64 0, .int .i64 0, .int .i64 0, .slice none 0 0, .slice none 0 0] 49) := ⟨_, rfl⟩
  have bW : Below w.heap.size w W := by rw [hW]; exact bel_next (bel_next (bel_alloc _ _) (bel_alloc _ _)) (bel_alloc _ _)
  have HW : Hid (Below w.heap.size w W ∧ Blk W B 28 (rqc 4 pl nn wa q1 q2 m1 m2 k1 k2) ∧ Blk W (B + 1) 49 #[.int .i64 0, .int .i64 0, .int .i64 0, .int .i64 0, .slice none 0 0, .slice none 0 0] ∧ Blk W (B + 1 + 1) 49 #[.int .i64 4, .int .i64 0, .int .i64 0, .int .i64 0, .slice none 0 0, .slice none 0 0] ∧ w.heap.size = B) := by
    refine ⟨bW, by rw [hW, hB]; exact ((Blk.new w _ _).below (bel_alloc _ _)).below (bel_alloc _ _), ?_, ?_, hB.symm⟩
    · rw [hW, hB]
      have := (Blk.new (w.alloc (.cells (rqc 4 pl nn wa q1 q2 m1 m2 k1 k2) 28)) #[.int .i64 0, .int .i64 0, .int .i64 0, .int .i64 0, .slice none 0 0, .slice none 0 0] 49).below (bel_alloc _ (.cells #[.int .i64 4, .int .i64 0, .int .i64 0, .int .i64 0, .slice none 0 0, .slice none 0 0] 49))
      simpa using this
    · rw [hW, hB]
      have := Blk.new ((w.alloc (.cells (rqc 4 pl nn wa q1 q2 m1 m2 k1 k2) 28)).alloc (.cells #[.int .i64 0, .int .i64 0, .int .i64 0, .int .i64 0, .slice none 0 0, .slice none 0 0] 49)) #[.int .i64 4, .int .i64 0, .int .i64 0, .int .i64 0, .slice none 0 0, .slice none 0 0] 49
      simpa using this
  clear bW
  have HC : Hid (Calls Try.prog 105 #[.slice at' n' cap'] W fun e w' => ∃ v, e = .returned v ∧ OwnI w' W.heap.size v (jW A n') ∧ Below W.heap.size W w') := joinedWords_any at' n' cap' A W (h'.below HW.out.1) hn8 hA
  obtain ⟨XW, hXW⟩ : ∃ XW, XW = jW A n' := ⟨_, rfl⟩
  rw [← hXW] at HC ⊢
  clear h' hA hXW
  go_enter Try.func57, Try.ntmps57
  go_upto_region 2 with fail
  rw [← hW, ← hB]
  clear hW hB
  obtain ⟨⟨y0, y1, y2, y3, y4, y5⟩, _⟩ := HW.out.2.1.six2
  obtain ⟨⟨x0, x1, x2, x3, x4, x5⟩, ⟨f0, f1, f2, f3, f4, f5⟩⟩ := HW.out.2.2.2.1.six2
  go_wp2_with fail
  refine HC.out.mono ?_
  rintro e w1 ⟨v, rfl, o1, b1⟩
  obtain ⟨r1, d1, l1, hv, hl1⟩ := ownI_shape2 o1
  subst hv
  have HN : Hid (l1 = XW.length ∧ 0 = ([] : List Bool).length) := ⟨hl1, rfl⟩
  clear hl1
  have K1 := HW.out.2.2.2.1.below b1
  obtain ⟨W2, hW2⟩ : ∃ W2, W2 = w1.setCell ⟨B + 1 + 1, 4, none⟩ (.slice r1 l1 d1) := ⟨_, rfl⟩
  have HX : Hid (OwnI W2 w.heap.size (.slice r1 l1 d1) XW ∧ OwnB W2 w.heap.size (.slice none 0 0) [] ∧ Below w.heap.size w W2 ∧ Blk W2 (B + 1 + 1) 49 #[.int .i64 4, .int .i64 0, .int .i64 0, .int .i64 0, .slice r1 l1 d1, .slice none 0 0] ∧ Blk W2 (B + 1) 49 #[.int .i64 0, .int .i64 0, .int .i64 0, .int .i64 0, .slice none 0 0, .slice none 0 0]) := ⟨by rw [hW2]; exact row_setE (OwnI.mono o1 HW.out.1.size) ⟨_, K1⟩ (by decide), ownB_z _ _, by rw [hW2]; exact (bel_next HW.out.1 b1).setCell (p := ⟨B + 1 + 1, 4, none⟩) (by show w.heap.size ≤ B + 1 + 1; have := HW.out.2.2.2.2; omega) _, by rw [hW2]; have h9 := K1.set 4 (.slice r1 l1 d1); simpa using h9, by rw [hW2]; exact (HW.out.2.2.1.below b1).setNe (by omega)⟩
  clear x0 x1 x2 x3 x4 x5 f0 f1 f2 f3 f4 f5
  obtain ⟨⟨x0, x1, x2, x3, x4, x5⟩, ⟨f0, f1, f2, f3, f4, f5⟩⟩ := K1.six2
  go_upto_region 18 with fail
  rw [← hW2]
  clear hW2 o1 b1 K1 y0 y1 y2 y3 y4 y5 x0 x1 x2 x3 x4 x5 f0 f1 f2 f3 f4 f5 HC
  have HY : Hid (OwnI (setL W2 (B + 1) 0 [.int .i64 4, .int .i64 0, .int .i64 0, .int .i64 0, .slice r1 l1 d1, .slice none 0 0]) w.heap.size (.slice r1 l1 d1) XW ∧ OwnB (setL W2 (B + 1) 0 [.int .i64 4, .int .i64 0, .int .i64 0, .int .i64 0, .slice r1 l1 d1, .slice none 0 0]) w.heap.size (.slice none 0 0) [] ∧ Below w.heap.size w (setL W2 (B + 1) 0 [.int .i64 4, .int .i64 0, .int .i64 0, .int .i64 0, .slice r1 l1 d1, .slice none 0 0])) := ⟨row_setL HX.out.1 ⟨_, HX.out.2.2.2.2⟩ (by decide), row_setL HX.out.2.1 ⟨_, HX.out.2.2.2.2⟩ (by decide), setL_below (by have := HW.out.2.2.2.2; omega) _ _ _ HX.out.2.2.1⟩
  obtain ⟨⟨x0, x1, x2, x3, x4, x5⟩, _⟩ := HX.out.2.2.2.1.six2
  obtain ⟨⟨z0, z1, z2, z3, z4, z5⟩, ⟨g0, g1, g2, g3, g4, g5⟩⟩ := HX.out.2.2.2.2.six2
  clear HX
  go_wp2
  refine bodyPost_ret (v := .agg #[.int .i64 4, .int .i64 0, .int .i64 0, .int .i64 0, .slice r1 l1 d1, .slice none 0 0]) (by simp [results, Try.results57, go_sem, z0, z1, z2, z3, z4, z5]) rfl ⟨r1, none, l1, 0, d1, 0, rfl, HN.out.1, HN.out.2, HY.out.1, HY.out.2.1, HY.out.2.2⟩
set_option maxRecDepth 20000 in
set_option maxHeartbeats 2000000 in
theorem whole_23 (pl nn wa : Int) (q1 q2 : Option Addr) (m1 m2 k1 k2 : Nat) (a : Option Addr) (n cap : Nat) (at' : Option Addr) (n' cap' : Nat) (w : World) (A : Nat → An) (h' : SlA w at' n' A) (hn8 : n' ≤ 1000) (hA : ∀ k, k < n' → (A k).ws.length ≤ 2000) :
    Calls Try.prog 57 #[.agg (rqc 23 pl nn wa q1 q2 m1 m2 k1 k2), .slice a n cap, .slice at' n' cap'] w fun e w' => AnPost w w' e ⟨23, 0, 0, 0, jW A n', []⟩ := by
  obtain ⟨B, hB⟩ : ∃ B, B = w.heap.size := ⟨_, rfl⟩
  obtain ⟨W, hW⟩ : ∃ W, W = ((w.alloc (.cells (rqc 23 pl nn wa q1 q2 m1 m2 k1 k2) 28)).alloc (.cells #[.int .i64 0, .int .i64 0, .int .i64 0, .int .i64 0, .slice none 0 0, .slice none 0 0] 49)).alloc (.cells #[.int .i64 23, .int .i64 0, .int .i64 0, .int .i64 0, .slice none 0 0, .slice none 0 0] 49) := ⟨_, rfl⟩
  have bW : Below w.heap.size w W := by rw [hW]; exact bel_next (bel_next (bel_alloc _ _) (bel_alloc _ _)) (bel_alloc _ _)
  have HW : Hid (Below w.heap.size w W ∧ Blk W B 28 (rqc 23 pl nn wa q1 q2 m1 m2 k1 k2) ∧ Blk W (B + 1) 49 #[.int .i64 0, .int .i64 0, .int .i64 0, .int .i64 0, .slice none 0 0, .slice none 0 0] ∧ Blk W (B + 1 + 1) 49 #[.int .i64 23, .int .i64 0, .int .i64 0, .int .i64 0, .slice none 0 0, .slice none 0 0] ∧ w.heap.size = B) := by
    refine ⟨bW, by rw [hW, hB]; exact ((Blk.new w _ _).below (bel_alloc _ _)).below (bel_alloc _ _), ?_, ?_, hB.symm⟩
    · rw [hW, hB]
      have := (Blk.new (w.alloc (.cells (rqc 23 pl nn wa q1 q2 m1 m2 k1 k2) 28)) #[.int .i64 0, .int .i64 0, .int .i64 0, .int .i64 0, .slice none 0 0, .slice none 0 0] 49).below (bel_alloc _ (.cells #[.int .i64 23, .int .i64 0, .int .i64 0, .int .i64 0, .slice none 0 0, .slice none 0 0] 49))
      simpa using this
    · rw [hW, hB]
      have := Blk.new ((w.alloc (.cells (rqc 23 pl nn wa q1 q2 m1 m2 k1 k2) 28)).alloc (.cells #[.int .i64 0, .int .i64 0, .int .i64 0, .int .i64 0, .slice none 0 0, .slice none 0 0] 49)) #[.int .i64 23, .int .i64 0, .int .i64 0, .int .i64 0, .slice none 0 0, .slice none 0 0] 49
      simpa using this
  clear bW
  have HC : Hid (Calls Try.prog 105 #[.slice at' n' cap'] W fun e w' => ∃ v, e = .returned v ∧ OwnI w' W.heap.size v (jW A n') ∧ Below W.heap.size W w') := joinedWords_any at' n' cap' A W (h'.below HW.out.1) hn8 hA
  obtain ⟨XW, hXW⟩ : ∃ XW, XW = jW A n' := ⟨_, rfl⟩
  rw [← hXW] at HC ⊢
  clear h' hA hXW
  go_enter Try.func57, Try.ntmps57
  go_upto_region 2 with fail
  rw [← hW, ← hB]
  clear hW hB
  obtain ⟨⟨y0, y1, y2, y3, y4, y5⟩, _⟩ := HW.out.2.1.six2
  obtain ⟨⟨x0, x1, x2, x3, x4, x5⟩, ⟨f0, f1, f2, f3, f4, f5⟩⟩ := HW.out.2.2.2.1.six2
  go_wp2_with fail
  refine HC.out.mono ?_
  rintro e w1 ⟨v, rfl, o1, b1⟩
  obtain ⟨r1, d1, l1, hv, hl1⟩ := ownI_shape2 o1
  subst hv
  have HN : Hid (l1 = XW.length ∧ 0 = ([] : List Bool).length) := ⟨hl1, rfl⟩
  clear hl1
  have K1 := HW.out.2.2.2.1.below b1
  obtain ⟨W2, hW2⟩ : ∃ W2, W2 = w1.setCell ⟨B + 1 + 1, 4, none⟩ (.slice r1 l1 d1) := ⟨_, rfl⟩
  have HX : Hid (OwnI W2 w.heap.size (.slice r1 l1 d1) XW ∧ OwnB W2 w.heap.size (.slice none 0 0) [] ∧ Below w.heap.size w W2 ∧ Blk W2 (B + 1 + 1) 49 #[.int .i64 23, .int .i64 0, .int .i64 0, .int .i64 0, .slice r1 l1 d1, .slice none 0 0] ∧ Blk W2 (B + 1) 49 #[.int .i64 0, .int .i64 0, .int .i64 0, .int .i64 0, .slice none 0 0, .slice none 0 0]) := ⟨by rw [hW2]; exact row_setE (OwnI.mono o1 HW.out.1.size) ⟨_, K1⟩ (by decide), ownB_z _ _, by rw [hW2]; exact (bel_next HW.out.1 b1).setCell (p := ⟨B + 1 + 1, 4, none⟩) (by show w.heap.size ≤ B + 1 + 1; have := HW.out.2.2.2.2; omega) _, by rw [hW2]; have h9 := K1.set 4 (.slice r1 l1 d1); simpa using h9, by rw [hW2]; exact (HW.out.2.2.1.below b1).setNe (by omega)⟩
  clear x0 x1 x2 x3 x4 x5 f0 f1 f2 f3 f4 f5
  obtain ⟨⟨x0, x1, x2, x3, x4, x5⟩, ⟨f0, f1, f2, f3, f4, f5⟩⟩ := K1.six2
  go_upto_region 18 with fail
  rw [← hW2]
  clear hW2 o1 b1 K1 y0 y1 y2 y3 y4 y5 x0 x1 x2 x3 x4 x5 f0 f1 f2 f3 f4 f5 HC
  have HY : Hid (OwnI (setL W2 (B + 1) 0 [.int .i64 23, .int .i64 0, .int .i64 0, .int .i64 0, .slice r1 l1 d1, .slice none 0 0]) w.heap.size (.slice r1 l1 d1) XW ∧ OwnB (setL W2 (B + 1) 0 [.int .i64 23, .int .i64 0, .int .i64 0, .int .i64 0, .slice r1 l1 d1, .slice none 0 0]) w.heap.size (.slice none 0 0) [] ∧ Below w.heap.size w (setL W2 (B + 1) 0 [.int .i64 23, .int .i64 0, .int .i64 0, .int .i64 0, .slice r1 l1 d1, .slice none 0 0])) := ⟨row_setL HX.out.1 ⟨_, HX.out.2.2.2.2⟩ (by decide), row_setL HX.out.2.1 ⟨_, HX.out.2.2.2.2⟩ (by decide), setL_below (by have := HW.out.2.2.2.2; omega) _ _ _ HX.out.2.2.1⟩
  obtain ⟨⟨x0, x1, x2, x3, x4, x5⟩, _⟩ := HX.out.2.2.2.1.six2
  obtain ⟨⟨z0, z1, z2, z3, z4, z5⟩, ⟨g0, g1, g2, g3, g4, g5⟩⟩ := HX.out.2.2.2.2.six2
  clear HX
  go_wp2
  refine bodyPost_ret (v := .agg #[.int .i64 23, .int .i64 0, .int .i64 0, .int .i64 0, .slice r1 l1 d1, .slice none 0 0]) (by simp [results, Try.results57, go_sem, z0, z1, z2, z3, z4, z5]) rfl ⟨r1, none, l1, 0, d1, 0, rfl, HN.out.1, HN.out.2, HY.out.1, HY.out.2.1, HY.out.2.2⟩
set_option maxRecDepth 20000 in
set_option maxHeartbeats 2000000 in
theorem whole_15 (pl nn wa : Int) (q1 q2 : Option Addr) (m1 m2 k1 k2 : Nat) (a : Option Addr) (n cap : Nat) (at' : Option Addr) (n' cap' : Nat) (w : World) :
    Calls Try.prog 57 #[.agg (rqc 15 pl nn wa q1 q2 m1 m2 k1 k2), .slice a n cap, .slice at' n' cap'] w fun e w' => AnPost w w' e ⟨15, 0, pl, (m2 : Int), [], []⟩ := by
  obtain ⟨B, hB⟩ : ∃ B, B = w.heap.size := ⟨_, rfl⟩
  obtain ⟨W, hW⟩ : ∃ W, W = ((w.alloc (.cells (rqc 15 pl nn wa q1 q2 m1 m2 k1 k2) 28)).alloc (.cells #[.int .i64 0, .int .i64 0, .int .i64 0, .int .i64 0, .slice none 0 0, .slice none 0 0] 49)).alloc (.cells #[.int .i64 15, .int .i64 0, .int .i64 0, .int .i64 0, .slice none 0 0, .slice none 0 0] 49) := ⟨_, rfl⟩
  have bW : Below w.heap.size w W := by rw [hW]; exact bel_next (bel_next (bel_alloc _ _) (bel_alloc _ _)) (bel_alloc _ _)
  have HW : Hid (Below w.heap.size w W ∧ Blk W B 28 (rqc 15 pl nn wa q1 q2 m1 m2 k1 k2) ∧ Blk W (B + 1) 49 #[.int .i64 0, .int .i64 0, .int .i64 0, .int .i64 0, .slice none 0 0, .slice none 0 0] ∧ Blk W (B + 1 + 1) 49 #[.int .i64 15, .int .i64 0, .int .i64 0, .int .i64 0, .slice none 0 0, .slice none 0 0] ∧ w.heap.size = B) := by
    refine ⟨bW, by rw [hW, hB]; exact ((Blk.new w _ _).below (bel_alloc _ _)).below (bel_alloc _ _), ?_, ?_, hB.symm⟩
    · rw [hW, hB]
      have := (Blk.new (w.alloc (.cells (rqc 15 pl nn wa q1 q2 m1 m2 k1 k2) 28)) #[.int .i64 0, .int .i64 0, .int .i64 0, .int .i64 0, .slice none 0 0, .slice none 0 0] 49).below (bel_alloc _ (.cells #[.int .i64 15, .int .i64 0, .int .i64 0, .int .i64 0, .slice none 0 0, .slice none 0 0] 49))
      simpa using this
    · rw [hW, hB]
      have := Blk.new ((w.alloc (.cells (rqc 15 pl nn wa q1 q2 m1 m2 k1 k2) 28)).alloc (.cells #[.int .i64 0, .int .i64 0, .int .i64 0, .int .i64 0, .slice none 0 0, .slice none 0 0] 49)) #[.int .i64 15, .int .i64 0, .int .i64 0, .int .i64 0, .slice none 0 0, .slice none 0 0] 49
      simpa using this
  clear bW
  go_enter Try.func57, Try.ntmps57
  go_upto_region 2 with fail
  rw [← hW, ← hB]
  clear hW hB
  obtain ⟨⟨y0, y1, y2, y3, y4, y5⟩, _⟩ := HW.out.2.1.six2
  obtain ⟨⟨x0, x1, x2, x3, x4, x5⟩, ⟨f0, f1, f2, f3, f4, f5⟩⟩ := HW.out.2.2.2.1.six2
  have q1' : ¬ B = B + 1 + 1 := by omega
  have q2' : ¬ B + 1 + 1 = B := by omega
  go_upto_region 15 with fail
  go_region
  obtain ⟨W2, hW2⟩ : ∃ W2, W2 = ((W.setCell ⟨B + 1 + 1, 2, none⟩ (.int .i64 pl)).setCell ⟨B + 1 + 1, 3, none⟩ (.int .i64 (m2 : Int))).drew := ⟨_, rfl⟩
  have dW2 : Below ((W.setCell ⟨B + 1 + 1, 2, none⟩ (.int .i64 pl)).setCell ⟨B + 1 + 1, 3, none⟩ (.int .i64 (m2 : Int))).heap.size ((W.setCell ⟨B + 1 + 1, 2, none⟩ (.int .i64 pl)).setCell ⟨B + 1 + 1, 3, none⟩ (.int .i64 (m2 : Int))) W2 := by rw [hW2]; exact (Below.refl _ _).drew
  have HN : Hid (0 = ([] : List Int).length ∧ 0 = ([] : List Bool).length) := ⟨rfl, rfl⟩
  have HX : Hid (OwnI W2 w.heap.size (.slice none 0 0) [] ∧ OwnB W2 w.heap.size (.slice none 0 0) [] ∧ Below w.heap.size w W2 ∧ Blk W2 (B + 1 + 1) 49 #[.int .i64 15, .int .i64 0, .int .i64 pl, .int .i64 (m2 : Int), .slice none 0 0, .slice none 0 0] ∧ Blk W2 (B + 1) 49 #[.int .i64 0, .int .i64 0, .int .i64 0, .int .i64 0, .slice none 0 0, .slice none 0 0]) := ⟨ownI_z _ _, ownB_z _ _, by rw [hW2]; exact ((HW.out.1.setCell (p := ⟨B + 1 + 1, 2, none⟩) (by show w.heap.size ≤ B + 1 + 1; have := HW.out.2.2.2.2; omega) _).setCell (p := ⟨B + 1 + 1, 3, none⟩) (by show w.heap.size ≤ B + 1 + 1; have := HW.out.2.2.2.2; omega) _).drew, Blk.below (by have h9 := (HW.out.2.2.2.1.set 2 (.int .i64 pl)).set 3 (.int .i64 (m2 : Int)); simpa using h9) dW2, Blk.below ((HW.out.2.2.1.setNe (by omega)).setNe (by omega)) dW2⟩
  rw [← hW2]
  clear hW2 dW2 y0 y1 y2 y3 y4 y5 x0 x1 x2 x3 x4 x5 f0 f1 f2 f3 f4 f5 q1' q2'
  go_upto_region 18 with fail
  have HY : Hid (OwnI (setL W2 (B + 1) 0 [.int .i64 15, .int .i64 0, .int .i64 pl, .int .i64 (m2 : Int), .slice none 0 0, .slice none 0 0]) w.heap.size (.slice none 0 0) [] ∧ OwnB (setL W2 (B + 1) 0 [.int .i64 15, .int .i64 0, .int .i64 pl, .int .i64 (m2 : Int), .slice none 0 0, .slice none 0 0]) w.heap.size (.slice none 0 0) [] ∧ Below w.heap.size w (setL W2 (B + 1) 0 [.int .i64 15, .int .i64 0, .int .i64 pl, .int .i64 (m2 : Int), .slice none 0 0, .slice none 0 0])) := ⟨row_setL HX.out.1 ⟨_, HX.out.2.2.2.2⟩ (by decide), row_setL HX.out.2.1 ⟨_, HX.out.2.2.2.2⟩ (by decide), setL_below (by have := HW.out.2.2.2.2; omega) _ _ _ HX.out.2.2.1⟩
  obtain ⟨⟨x0, x1, x2, x3, x4, x5⟩, _⟩ := HX.out.2.2.2.1.six2
  obtain ⟨⟨z0, z1, z2, z3, z4, z5⟩, ⟨g0, g1, g2, g3, g4, g5⟩⟩ := HX.out.2.2.2.2.six2
  clear HX
  go_wp2
  refine bodyPost_ret (v := .agg #[.int .i64 15, .int .i64 0, .int .i64 pl, .int .i64 (m2 : Int), .slice none 0 0, .slice none 0 0]) (by simp [results, Try.results57, go_sem, z0, z1, z2, z3, z4, z5]) rfl ⟨none, none, 0, 0, 0, 0, rfl, HN.out.1, HN.out.2, HY.out.1, HY.out.2.1, HY.out.2.2⟩
set_option maxRecDepth 20000 in
set_option maxHeartbeats 2000000 in
theorem whole_16 (pl nn wa : Int) (q1 q2 : Option Addr) (m1 m2 k1 k2 : Nat) (a : Option Addr) (n cap : Nat) (at' : Option Addr) (n' cap' : Nat) (w : World) :
    Calls Try.prog 57 #[.agg (rqc 16 pl nn wa q1 q2 m1 m2 k1 k2), .slice a n cap, .slice at' n' cap'] w fun e w' => AnPost w w' e ⟨16, 0, pl, (m1 : Int), [], []⟩ := by
  obtain ⟨B, hB⟩ : ∃ B, B = w.heap.size := ⟨_, rfl⟩
  obtain ⟨W, hW⟩ : ∃ W, W = ((w.alloc (.cells (rqc 16 pl nn wa q1 q2 m1 m2 k1 k2) 28)).alloc (.cells #[.int .i64 0, .int .i64 0, .int .i64 0, .int .i64 0, .slice none 0 0, .slice none 0 0] 49)).alloc (.cells #[.int .i64 16, .int .i64 0, .int .i64 0, .int .i64 0, .slice none 0 0, .slice none 0 0] 49) := ⟨_, rfl⟩
  have bW : Below w.heap.size w W := by rw [hW]; exact bel_next (bel_next (bel_alloc _ _) (bel_alloc _ _)) (bel_alloc _ _)
  have HW : Hid (Below w.heap.size w W ∧ Blk W B 28 (rqc 16 pl nn wa q1 q2 m1 m2 k1 k2) ∧ Blk W (B + 1) 49 #[.int .i64 0, .int .i64 0, .int .i64 0, .int .i64 0, .slice none 0 0, .slice none 0 0] ∧ Blk W (B + 1 + 1) 49 #[.int .i64 16, .int .i64 0, .int .i64 0, .int .i64 0, .slice none 0 0, .slice none 0 0] ∧ w.heap.size = B) := by
    refine ⟨bW, by rw [hW, hB]; exact ((Blk.new w _ _).below (bel_alloc _ _)).below (bel_alloc _ _), ?_, ?_, hB.symm⟩
    · rw [hW, hB]
      have := (Blk.new (w.alloc (.cells (rqc 16 pl nn wa q1 q2 m1 m2 k1 k2) 28)) #[.int .i64 0, .int .i64 0, .int .i64 0, .int .i64 0, .slice none 0 0, .slice none 0 0] 49).below (bel_alloc _ (.cells #[.int .i64 16, .int .i64 0, .int .i64 0, .int .i64 0, .slice none 0 0, .slice none 0 0] 49))
      simpa using this
    · rw [hW, hB]
      have := Blk.new ((w.alloc (.cells (rqc 16 pl nn wa q1 q2 m1 m2 k1 k2) 28)).alloc (.cells #[.int .i64 0, .int .i64 0, .int .i64 0, .int .i64 0, .slice none 0 0, .slice none 0 0] 49)) #[.int .i64 16, .int .i64 0, .int .i64 0, .int .i64 0, .slice none 0 0, .slice none 0 0] 49
      simpa using this
  clear bW
  go_enter Try.func57, Try.ntmps57
  go_upto_region 2 with fail
  rw [← hW, ← hB]
  clear hW hB
  obtain ⟨⟨y0, y1, y2, y3, y4, y5⟩, _⟩ := HW.out.2.1.six2
  obtain ⟨⟨x0, x1, x2, x3, x4, x5⟩, ⟨f0, f1, f2, f3, f4, f5⟩⟩ := HW.out.2.2.2.1.six2
  have q1' : ¬ B = B + 1 + 1 := by omega
  have q2' : ¬ B + 1 + 1 = B := by omega
  go_upto_region 17 with fail
  go_region
  obtain ⟨W2, hW2⟩ : ∃ W2, W2 = ((W.setCell ⟨B + 1 + 1, 2, none⟩ (.int .i64 pl)).setCell ⟨B + 1 + 1, 3, none⟩ (.int .i64 (m1 : Int))).drew := ⟨_, rfl⟩
  have dW2 : Below ((W.setCell ⟨B + 1 + 1, 2, none⟩ (.int .i64 pl)).setCell ⟨B + 1 + 1, 3, none⟩ (.int .i64 (m1 : Int))).heap.size ((W.setCell ⟨B + 1 + 1, 2, none⟩ (.int .i64 pl)).setCell ⟨B + 1 + 1, 3, none⟩ (.int .i64 (m1 : Int))) W2 := by rw [hW2]; exact (Below.refl _ _).drew
  have HN : Hid (0 = ([] : List Int).length ∧ 0 = ([] : List Bool).length) := ⟨rfl, rfl⟩
  have HX : Hid (OwnI W2 w.heap.size (.slice none 0 0) [] ∧ OwnB W2 w.heap.size (.slice none 0 0) [] ∧ Below w.heap.size w W2 ∧ Blk W2 (B + 1 + 1) 49 #[.int .i64 16, .int .i64 0, .int .i64 pl, .int .i64 (m1 : Int), .slice none 0 0, .slice none 0 0] ∧ Blk W2 (B + 1) 49 #[.int .i64 0, .int .i64 0, .int .i64 0, .int .i64 0, .slice none 0 0, .slice none 0 0]) := ⟨ownI_z _ _, ownB_z _ _, by rw [hW2]; exact ((HW.out.1.setCell (p := ⟨B + 1 + 1, 2, none⟩) (by show w.heap.size ≤ B + 1 + 1; have := HW.out.2.2.2.2; omega) _).setCell (p := ⟨B + 1 + 1, 3, none⟩) (by show w.heap.size ≤ B + 1 + 1; have := HW.out.2.2.2.2; omega) _).drew, Blk.below (by have h9 := (HW.out.2.2.2.1.set 2 (.int .i64 pl)).set 3 (.int .i64 (m1 : Int)); simpa using h9) dW2, Blk.below ((HW.out.2.2.1.setNe (by omega)).setNe (by omega)) dW2⟩
  rw [← hW2]
  clear hW2 dW2 y0 y1 y2 y3 y4 y5 x0 x1 x2 x3 x4 x5 f0 f1 f2 f3 f4 f5 q1' q2'
  go_upto_region 18 with fail
  have HY : Hid (OwnI (setL W2 (B + 1) 0 [.int .i64 16, .int .i64 0, .int .i64 pl, .int .i64 (m1 : Int), .slice none 0 0, .slice none 0 0]) w.heap.size (.slice none 0 0) [] ∧ OwnB (setL W2 (B + 1) 0 [.int .i64 16, .int .i64 0, .int .i64 pl, .int .i64 (m1 : Int), .slice none 0 0, .slice none 0 0]) w.heap.size (.slice none 0 0) [] ∧ Below w.heap.size w (setL W2 (B + 1) 0 [.int .i64 16, .int .i64 0, .int .i64 pl, .int .i64 (m1 : Int), .slice none 0 0, .slice none 0 0])) := ⟨row_setL HX.out.1 ⟨_, HX.out.2.2.2.2⟩ (by decide), row_setL HX.out.2.1 ⟨_, HX.out.2.2.2.2⟩ (by decide), setL_below (by have := HW.out.2.2.2.2; omega) _ _ _ HX.out.2.2.1⟩
  obtain ⟨⟨x0, x1, x2, x3, x4, x5⟩, _⟩ := HX.out.2.2.2.1.six2
  obtain ⟨⟨z0, z1, z2, z3, z4, z5⟩, ⟨g0, g1, g2, g3, g4, g5⟩⟩ := HX.out.2.2.2.2.six2
  clear HX
  go_wp2
  refine bodyPost_ret (v := .agg #[.int .i64 16, .int .i64 0, .int .i64 pl, .int .i64 (m1 : Int), .slice none 0 0, .slice none 0 0]) (by simp [results, Try.results57, go_sem, z0, z1, z2, z3, z4, z5]) rfl ⟨none, none, 0, 0, 0, 0, rfl, HN.out.1, HN.out.2, HY.out.1, HY.out.2.1, HY.out.2.2⟩
set_option maxRecDepth 20000 in
set_option maxHeartbeats 2000000 in
theorem whole_5 (pl nn wa : Int) (q1 q2 : Option Addr) (m1 m2 k1 k2 : Nat) (a : Option Addr) (n cap : Nat) (at' : Option Addr) (n' cap' : Nat) (w : World) (ws : List Int) (bs : List Bool) (h1 : m1 = ws.length) (h2 : m2 = bs.length) (s1 : SlI w q1 ws) (s2 : SlB w q2 bs) (hl1 : ws.length ≤ 2000000) (hl2 : bs.length ≤ 2000000) :
    Calls Try.prog 57 #[.agg (rqc 5 pl nn wa q1 q2 m1 m2 k1 k2), .slice a n cap, .slice at' n' cap'] w fun e w' => AnPost w w' e ⟨5, 0, pl, 0, ws, bs⟩ := by
  obtain ⟨B, hB⟩ : ∃ B, B = w.heap.size := ⟨_, rfl⟩
  obtain ⟨W, hW⟩ : ∃ W, W = ((w.alloc (.cells (rqc 5 pl nn wa q1 q2 m1 m2 k1 k2) 28)).alloc (.cells #[.int .i64 0, .int .i64 0, .int .i64 0, .int .i64 0, .slice none 0 0, .slice none 0 0] 49)).alloc (.cells #[.int .i64 5, .int .i64 0, .int .i64 0, .int .i64 0, .slice none 0 0, .slice none 0 0] 49) := ⟨_, rfl⟩
  have bW : Below w.heap.size w W := by rw [hW]; exact bel_next (bel_next (bel_alloc _ _) (bel_alloc _ _)) (bel_alloc _ _)
  have HW : Hid (Below w.heap.size w W ∧ Blk W B 28 (rqc 5 pl nn wa q1 q2 m1 m2 k1 k2) ∧ Blk W (B + 1) 49 #[.int .i64 0, .int .i64 0, .int .i64 0, .int .i64 0, .slice none 0 0, .slice none 0 0] ∧ Blk W (B + 1 + 1) 49 #[.int .i64 5, .int .i64 0, .int .i64 0, .int .i64 0, .slice none 0 0, .slice none 0 0] ∧ w.heap.size = B) := by
    refine ⟨bW, by rw [hW, hB]; exact ((Blk.new w _ _).below (bel_alloc _ _)).below (bel_alloc _ _), ?_, ?_, hB.symm⟩
    · rw [hW, hB]
      have := (Blk.new (w.alloc (.cells (rqc 5 pl nn wa q1 q2 m1 m2 k1 k2) 28)) #[.int .i64 0, .int .i64 0, .int .i64 0, .int .i64 0, .slice none 0 0, .slice none 0 0] 49).below (bel_alloc _ (.cells #[.int .i64 5, .int .i64 0, .int .i64 0, .int .i64 0, .slice none 0 0, .slice none 0 0] 49))
      simpa using this
    · rw [hW, hB]
      have := Blk.new ((w.alloc (.cells (rqc 5 pl nn wa q1 q2 m1 m2 k1 k2) 28)).alloc (.cells #[.int .i64 0, .int .i64 0, .int .i64 0, .int .i64 0, .slice none 0 0, .slice none 0 0] 49)) #[.int .i64 5, .int .i64 0, .int .i64 0, .int .i64 0, .slice none 0 0, .slice none 0 0] 49
      simpa using this
  clear bW
  have HS : Hid (m1 = ws.length ∧ m2 = bs.length ∧ SlI w q1 ws ∧ SlB w q2 bs) := ⟨h1, h2, s1, s2⟩
  clear h1 h2 s1 s2
  go_enter Try.func57, Try.ntmps57
  go_upto_region 2 with fail
  rw [← hW, ← hB]
  clear hW hB
  obtain ⟨⟨y0, y1, y2, y3, y4, y5⟩, _⟩ := HW.out.2.1.six2
  obtain ⟨⟨x0, x1, x2, x3, x4, x5⟩, ⟨f0, f1, f2, f3, f4, f5⟩⟩ := HW.out.2.2.2.1.six2
  have q1' : ¬ B = B + 1 + 1 := by omega
  have q2' : ¬ B + 1 + 1 = B := by omega
  have dz : Below W.heap.size W W.drew := (Below.refl _ _).drew
  go_upto_region 13 with fail
  go_region_held3 (fun w' => w'.cell? ⟨B, 1, none⟩ = some (.int .i64 pl) ∧ w'.cell? ⟨B, 3, none⟩ = some (.slice q1 m1 k1) ∧ w'.cell? ⟨B, 4, none⟩ = some (.slice q2 m2 k2)) (go_keep)
    (first
      | (go_at_call 106; refine (copyOfB q2 m2 k2 bs _ HS.out.2.1 (HS.out.2.2.2.below (by first | exact HW.out.1 | exact bel_next HW.out.1 dz | exact bel_next HW.out.1 HI.out.1)) hl2).mono ?_; rintro e u2 ⟨r2, rfl, o2, b2⟩; have HB : Hid (Below W.heap.size W u2 ∧ OwnB u2 W.heap.size (.slice (some ⟨r2, 0, none⟩) m2 m2) bs) := ⟨(by first | exact b2 | exact bel_next dz b2 | exact bel_next HI.out.1 b2), OwnB.mono o2 (by first | exact Nat.le_refl _ | exact dz.size | exact HI.out.1.size)⟩; clear o2; obtain ⟨⟨y0, y1, y2, y3, y4, y5⟩, _⟩ := (HW.out.2.1.below HB.out.1).six2; obtain ⟨⟨x0, x1, x2, x3, x4, x5⟩, ⟨f0, f1, f2, f3, f4, f5⟩⟩ := (HW.out.2.2.2.1.below HB.out.1).six2)
      | (go_at_call 107; refine (copyOfI q1 m1 k1 ws _ HS.out.1 (HS.out.2.2.1.below (by first | exact HW.out.1 | exact bel_next HW.out.1 dz | exact bel_next HW.out.1 HB.out.1)) hl1).mono ?_; rintro e u1 ⟨r1, rfl, o1, b1⟩; have HI : Hid (Below W.heap.size W u1 ∧ OwnI u1 W.heap.size (.slice (some ⟨r1, 0, none⟩) m1 m1) ws) := ⟨(by first | exact b1 | exact bel_next dz b1 | exact bel_next HB.out.1 b1), OwnI.mono o1 (by first | exact Nat.le_refl _ | exact dz.size | exact HB.out.1.size)⟩; clear o1; obtain ⟨⟨y0, y1, y2, y3, y4, y5⟩, _⟩ := (HW.out.2.1.below HI.out.1).six2; obtain ⟨⟨x0, x1, x2, x3, x4, x5⟩, ⟨f0, f1, f2, f3, f4, f5⟩⟩ := (HW.out.2.2.2.1.below HI.out.1).six2))
  obtain ⟨W2, hW2⟩ : ∃ W2, W2 = ((u1.setCell ⟨B + 1 + 1, 2, none⟩ (.int .i64 pl)).setCell ⟨B + 1 + 1, 5, none⟩ (.slice (some ⟨r2, 0, none⟩) m2 m2)).setCell ⟨B + 1 + 1, 4, none⟩ (.slice (some ⟨r1, 0, none⟩) m1 m1) := ⟨_, rfl⟩
  have HN : Hid (m1 = ws.length ∧ m2 = bs.length) := ⟨HS.out.1, HS.out.2.1⟩
  have hsz : w.heap.size ≤ B + 1 + 1 := by have := HW.out.2.2.2.2; omega
  have K1 := HW.out.2.2.2.1.below HI.out.1
  have oB : OwnB u1 w.heap.size (.slice (some ⟨r2, 0, none⟩) m2 m2) bs := OwnB.mono (HB.out.2.below b1) HW.out.1.size
  have oI : OwnI u1 w.heap.size (.slice (some ⟨r1, 0, none⟩) m1 m1) ws := OwnI.mono HI.out.2 HW.out.1.size
  have HX : Hid (OwnI W2 w.heap.size (.slice (some ⟨r1, 0, none⟩) m1 m1) ws ∧ OwnB W2 w.heap.size (.slice (some ⟨r2, 0, none⟩) m2 m2) bs ∧ Below w.heap.size w W2 ∧ Blk W2 (B + 1 + 1) 49 #[.int .i64 5, .int .i64 0, .int .i64 pl, .int .i64 0, .slice (some ⟨r1, 0, none⟩) m1 m1, .slice (some ⟨r2, 0, none⟩) m2 m2] ∧ Blk W2 (B + 1) 49 #[.int .i64 0, .int .i64 0, .int .i64 0, .int .i64 0, .slice none 0 0, .slice none 0 0]) := ⟨by rw [hW2]; exact row_setE (row_setE (row_setE oI ⟨_, K1⟩ (by decide)) (ExB.set ⟨_, K1⟩) (by decide)) (ExB.set (ExB.set ⟨_, K1⟩)) (by decide), by rw [hW2]; exact row_setE (row_setE (row_setE oB ⟨_, K1⟩ (by decide)) (ExB.set ⟨_, K1⟩) (by decide)) (ExB.set (ExB.set ⟨_, K1⟩)) (by decide), by rw [hW2]; exact (((bel_next HW.out.1 HI.out.1).setCell (p := ⟨B + 1 + 1, 2, none⟩) hsz _).setCell (p := ⟨B + 1 + 1, 5, none⟩) hsz _).setCell (p := ⟨B + 1 + 1, 4, none⟩) hsz _, by rw [hW2]; have h9 := ((K1.set 2 (.int .i64 pl)).set 5 (.slice (some ⟨r2, 0, none⟩) m2 m2)).set 4 (.slice (some ⟨r1, 0, none⟩) m1 m1); simpa using h9, by rw [hW2]; exact (((HW.out.2.2.1.below HI.out.1).setNe (by omega)).setNe (by omega)).setNe (by omega)⟩
  rw [← hW2]
  clear hW2 hsz K1 oB oI b1 b2 HB HI HS y0 y1 y2 y3 y4 y5 x0 x1 x2 x3 x4 x5 f0 f1 f2 f3 f4 f5 q1' q2' dz
  go_upto_region 18 with fail
  have HY : Hid (OwnI (setL W2 (B + 1) 0 [.int .i64 5, .int .i64 0, .int .i64 pl, .int .i64 0, .slice (some ⟨r1, 0, none⟩) m1 m1, .slice (some ⟨r2, 0, none⟩) m2 m2]) w.heap.size (.slice (some ⟨r1, 0, none⟩) m1 m1) ws ∧ OwnB (setL W2 (B + 1) 0 [.int .i64 5, .int .i64 0, .int .i64 pl, .int .i64 0, .slice (some ⟨r1, 0, none⟩) m1 m1, .slice (some ⟨r2, 0, none⟩) m2 m2]) w.heap.size (.slice (some ⟨r2, 0, none⟩) m2 m2) bs ∧ Below w.heap.size w (setL W2 (B + 1) 0 [.int .i64 5, .int .i64 0, .int .i64 pl, .int .i64 0, .slice (some ⟨r1, 0, none⟩) m1 m1, .slice (some ⟨r2, 0, none⟩) m2 m2])) := ⟨row_setL HX.out.1 ⟨_, HX.out.2.2.2.2⟩ (by decide), row_setL HX.out.2.1 ⟨_, HX.out.2.2.2.2⟩ (by decide), setL_below (by have := HW.out.2.2.2.2; omega) _ _ _ HX.out.2.2.1⟩
  obtain ⟨⟨x0, x1, x2, x3, x4, x5⟩, _⟩ := HX.out.2.2.2.1.six2
  obtain ⟨⟨z0, z1, z2, z3, z4, z5⟩, ⟨g0, g1, g2, g3, g4, g5⟩⟩ := HX.out.2.2.2.2.six2
  clear HX
  go_wp2
  refine bodyPost_ret (v := .agg #[.int .i64 5, .int .i64 0, .int .i64 pl, .int .i64 0, .slice (some ⟨r1, 0, none⟩) m1 m1, .slice (some ⟨r2, 0, none⟩) m2 m2]) (by simp [results, Try.results57, go_sem, z0, z1, z2, z3, z4, z5]) rfl ⟨some ⟨r1, 0, none⟩, some ⟨r2, 0, none⟩, m1, m2, m1, m2, rfl, HN.out.1, HN.out.2, HY.out.1, HY.out.2.1, HY.out.2.2⟩
set_option maxRecDepth 20000 in
set_option maxHeartbeats 2000000 in
theorem whole_6 (pl nn wa : Int) (q1 q2 : Option Addr) (m1 m2 k1 k2 : Nat) (a : Option Addr) (n cap : Nat) (at' : Option Addr) (n' cap' : Nat) (w : World) (ws : List Int) (bs : List Bool) (h1 : m1 = ws.length) (h2 : m2 = bs.length) (s1 : SlI w q1 ws) (s2 : SlB w q2 bs) (hl1 : ws.length ≤ 2000000) (hl2 : bs.length ≤ 2000000) :
    Calls Try.prog 57 #[.agg (rqc 6 pl nn wa q1 q2 m1 m2 k1 k2), .slice a n cap, .slice at' n' cap'] w fun e w' => AnPost w w' e ⟨6, 0, pl, 0, ws, bs⟩ := by
  obtain ⟨B, hB⟩ : ∃ B, B = w.heap.size := ⟨_, rfl⟩
  obtain ⟨W, hW⟩ : ∃ W, W = ((w.alloc (.cells (rqc 6 pl nn wa q1 q2 m1 m2 k1 k2) 28)).alloc (.cells #[.int .i64 0, .int .i64 0, .int .i64 0, .int .i64 0, .slice none 0 0, .slice none 0 0] 49)).alloc (.cells #[.int .i64 6, .int .i64 0, .int .i64 0, .int .i64 0, .slice none 0 0, .slice none 0 0] 49) := ⟨_, rfl⟩
  have bW : Below w.heap.size w W := by rw [hW]; exact bel_next (bel_next (bel_alloc _ _) (bel_alloc _ _)) (bel_alloc _ _)
  have HW : Hid (Below w.heap.size w W ∧ Blk W B 28 (rqc 6 pl nn wa q1 q2 m1 m2 k1 k2) ∧ Blk W (B + 1) 49 #[.int .i64 0, .int .i64 0, .int .i64 0, .int .i64 0, .slice none 0 0, .slice none 0 0] ∧ Blk W (B + 1 + 1) 49 #[.int .i64 6, .int .i64 0, .int .i64 0, .int .i64 0, .slice none 0 0, .slice none 0 0] ∧ w.heap.size = B) := by
    refine ⟨bW, by rw [hW, hB]; exact ((Blk.new w _ _).below (bel_alloc _ _)).below (bel_alloc _ _), ?_, ?_, hB.symm⟩
    · rw [hW, hB]
      have := (Blk.new (w.alloc (.cells (rqc 6 pl nn wa q1 q2 m1 m2 k1 k2) 28)) #[.int .i64 0, .int .i64 0, .int .i64 0, .int .i64 0, .slice none 0 0, .slice none 0 0] 49).below (bel_alloc _ (.cells #[.int .i64 6, .int .i64 0, .int .i64 0, .int .i64 0, .slice none 0 0, .slice none 0 0] 49))
      simpa using this
    · rw [hW, hB]
      have := Blk.new ((w.alloc (.cells (rqc 6 pl nn wa q1 q2 m1 m2 k1 k2) 28)).alloc (.cells #[.int .i64 0, .int .i64 0, .int .i64 0, .int .i64 0, .slice none 0 0, .slice none 0 0] 49)) #[.int .i64 6, .int .i64 0, .int .i64 0, .int .i64 0, .slice none 0 0, .slice none 0 0] 49
      simpa using this
  clear bW
  have HS : Hid (m1 = ws.length ∧ m2 = bs.length ∧ SlI w q1 ws ∧ SlB w q2 bs) := ⟨h1, h2, s1, s2⟩
  clear h1 h2 s1 s2
  go_enter Try.func57, Try.ntmps57
  go_upto_region 2 with fail
  rw [← hW, ← hB]
  clear hW hB
  obtain ⟨⟨y0, y1, y2, y3, y4, y5⟩, _⟩ := HW.out.2.1.six2
  obtain ⟨⟨x0, x1, x2, x3, x4, x5⟩, ⟨f0, f1, f2, f3, f4, f5⟩⟩ := HW.out.2.2.2.1.six2
  have q1' : ¬ B = B + 1 + 1 := by omega
  have q2' : ¬ B + 1 + 1 = B := by omega
  have dz : Below W.heap.size W W.drew := (Below.refl _ _).drew
  go_upto_region 13 with fail
  go_region_held3 (fun w' => w'.cell? ⟨B, 1, none⟩ = some (.int .i64 pl) ∧ w'.cell? ⟨B, 3, none⟩ = some (.slice q1 m1 k1) ∧ w'.cell? ⟨B, 4, none⟩ = some (.slice q2 m2 k2)) (go_keep)
    (first
      | (go_at_call 106; refine (copyOfB q2 m2 k2 bs _ HS.out.2.1 (HS.out.2.2.2.below (by first | exact HW.out.1 | exact bel_next HW.out.1 dz | exact bel_next HW.out.1 HI.out.1)) hl2).mono ?_; rintro e u2 ⟨r2, rfl, o2, b2⟩; have HB : Hid (Below W.heap.size W u2 ∧ OwnB u2 W.heap.size (.slice (some ⟨r2, 0, none⟩) m2 m2) bs) := ⟨(by first | exact b2 | exact bel_next dz b2 | exact bel_next HI.out.1 b2), OwnB.mono o2 (by first | exact Nat.le_refl _ | exact dz.size | exact HI.out.1.size)⟩; clear o2; obtain ⟨⟨y0, y1, y2, y3, y4, y5⟩, _⟩ := (HW.out.2.1.below HB.out.1).six2; obtain ⟨⟨x0, x1, x2, x3, x4, x5⟩, ⟨f0, f1, f2, f3, f4, f5⟩⟩ := (HW.out.2.2.2.1.below HB.out.1).six2)
      | (go_at_call 107; refine (copyOfI q1 m1 k1 ws _ HS.out.1 (HS.out.2.2.1.below (by first | exact HW.out.1 | exact bel_next HW.out.1 dz | exact bel_next HW.out.1 HB.out.1)) hl1).mono ?_; rintro e u1 ⟨r1, rfl, o1, b1⟩; have HI : Hid (Below W.heap.size W u1 ∧ OwnI u1 W.heap.size (.slice (some ⟨r1, 0, none⟩) m1 m1) ws) := ⟨(by first | exact b1 | exact bel_next dz b1 | exact bel_next HB.out.1 b1), OwnI.mono o1 (by first | exact Nat.le_refl _ | exact dz.size | exact HB.out.1.size)⟩; clear o1; obtain ⟨⟨y0, y1, y2, y3, y4, y5⟩, _⟩ := (HW.out.2.1.below HI.out.1).six2; obtain ⟨⟨x0, x1, x2, x3, x4, x5⟩, ⟨f0, f1, f2, f3, f4, f5⟩⟩ := (HW.out.2.2.2.1.below HI.out.1).six2))
  obtain ⟨W2, hW2⟩ : ∃ W2, W2 = ((u1.setCell ⟨B + 1 + 1, 2, none⟩ (.int .i64 pl)).setCell ⟨B + 1 + 1, 5, none⟩ (.slice (some ⟨r2, 0, none⟩) m2 m2)).setCell ⟨B + 1 + 1, 4, none⟩ (.slice (some ⟨r1, 0, none⟩) m1 m1) := ⟨_, rfl⟩
  have HN : Hid (m1 = ws.length ∧ m2 = bs.length) := ⟨HS.out.1, HS.out.2.1⟩
  have hsz : w.heap.size ≤ B + 1 + 1 := by have := HW.out.2.2.2.2; omega
  have K1 := HW.out.2.2.2.1.below HI.out.1
  have oB : OwnB u1 w.heap.size (.slice (some ⟨r2, 0, none⟩) m2 m2) bs := OwnB.mono (HB.out.2.below b1) HW.out.1.size
  have oI : OwnI u1 w.heap.size (.slice (some ⟨r1, 0, none⟩) m1 m1) ws := OwnI.mono HI.out.2 HW.out.1.size
  have HX : Hid (OwnI W2 w.heap.size (.slice (some ⟨r1, 0, none⟩) m1 m1) ws ∧ OwnB W2 w.heap.size (.slice (some ⟨r2, 0, none⟩) m2 m2) bs ∧ Below w.heap.size w W2 ∧ Blk W2 (B + 1 + 1) 49 #[.int .i64 6, .int .i64 0, .int .i64 pl, .int .i64 0, .slice (some ⟨r1, 0, none⟩) m1 m1, .slice (some ⟨r2, 0, none⟩) m2 m2] ∧ Blk W2 (B + 1) 49 #[.int .i64 0, .int .i64 0, .int .i64 0, .int .i64 0, .slice none 0 0, .slice none 0 0]) := ⟨by rw [hW2]; exact row_setE (row_setE (row_setE oI ⟨_, K1⟩ (by decide)) (ExB.set ⟨_, K1⟩) (by decide)) (ExB.set (ExB.set ⟨_, K1⟩)) (by decide), by rw [hW2]; exact row_setE (row_setE (row_setE oB ⟨_, K1⟩ (by decide)) (ExB.set ⟨_, K1⟩) (by decide)) (ExB.set (ExB.set ⟨_, K1⟩)) (by decide), by rw [hW2]; exact (((bel_next HW.out.1 HI.out.1).setCell (p := ⟨B + 1 + 1, 2, none⟩) hsz _).setCell (p := ⟨B + 1 + 1, 5, none⟩) hsz _).setCell (p := ⟨B + 1 + 1, 4, none⟩) hsz _, by rw [hW2]; have h9 := ((K1.set 2 (.int .i64 pl)).set 5 (.slice (some ⟨r2, 0, none⟩) m2 m2)).set 4 (.slice (some ⟨r1, 0, none⟩) m1 m1); simpa using h9, by rw [hW2]; exact (((HW.out.2.2.1.below HI.out.1).setNe (by omega)).setNe (by omega)).setNe (by omega)⟩
  rw [← hW2]
  clear hW2 hsz K1 oB oI b1 b2 HB HI HS y0 y1 y2 y3 y4 y5 x0 x1 x2 x3 x4 x5 f0 f1 f2 f3 f4 f5 q1' q2' dz
  go_upto_region 18 with fail
  have HY : Hid (OwnI (setL W2 (B + 1) 0 [.int .i64 6, .int .i64 0, .int .i64 pl, .int .i64 0, .slice (some ⟨r1, 0, none⟩) m1 m1, .slice (some ⟨r2, 0, none⟩) m2 m2]) w.heap.size (.slice (some ⟨r1, 0, none⟩) m1 m1) ws ∧ OwnB (setL W2 (B + 1) 0 [.int .i64 6, .int .i64 0, .int .i64 pl, .int .i64 0, .slice (some ⟨r1, 0, none⟩) m1 m1, .slice (some ⟨r2, 0, none⟩) m2 m2]) w.heap.size (.slice (some ⟨r2, 0, none⟩) m2 m2) bs ∧ Below w.heap.size w (setL W2 (B + 1) 0 [.int .i64 6, .int .i64 0, .int .i64 pl, .int .i64 0, .slice (some ⟨r1, 0, none⟩) m1 m1, .slice (some ⟨r2, 0, none⟩) m2 m2])) := ⟨row_setL HX.out.1 ⟨_, HX.out.2.2.2.2⟩ (by decide), row_setL HX.out.2.1 ⟨_, HX.out.2.2.2.2⟩ (by decide), setL_below (by have := HW.out.2.2.2.2; omega) _ _ _ HX.out.2.2.1⟩
  obtain ⟨⟨x0, x1, x2, x3, x4, x5⟩, _⟩ := HX.out.2.2.2.1.six2
  obtain ⟨⟨z0, z1, z2, z3, z4, z5⟩, ⟨g0, g1, g2, g3, g4, g5⟩⟩ := HX.out.2.2.2.2.six2
  clear HX
  go_wp2
  refine bodyPost_ret (v := .agg #[.int .i64 6, .int .i64 0, .int .i64 pl, .int .i64 0, .slice (some ⟨r1, 0, none⟩) m1 m1, .slice (some ⟨r2, 0, none⟩) m2 m2]) (by simp [results, Try.results57, go_sem, z0, z1, z2, z3, z4, z5]) rfl ⟨some ⟨r1, 0, none⟩, some ⟨r2, 0, none⟩, m1, m2, m1, m2, rfl, HN.out.1, HN.out.2, HY.out.1, HY.out.2.1, HY.out.2.2⟩
set_option maxRecDepth 20000 in
set_option maxHeartbeats 2000000 in
theorem whole_22 (pl nn wa : Int) (q1 q2 : Option Addr) (m1 m2 k1 k2 : Nat) (a : Option Addr) (n cap : Nat) (at' : Option Addr) (n' cap' : Nat) (w : World) (ws : List Int) (bs : List Bool) (h1 : m1 = ws.length) (h2 : m2 = bs.length) (s1 : SlI w q1 ws) (s2 : SlB w q2 bs) (hl1 : ws.length ≤ 2000000) (hl2 : bs.length ≤ 2000000) :
    Calls Try.prog 57 #[.agg (rqc 22 pl nn wa q1 q2 m1 m2 k1 k2), .slice a n cap, .slice at' n' cap'] w fun e w' => AnPost w w' e ⟨22, 0, pl, 0, ws, bs⟩ := by
  obtain ⟨B, hB⟩ : ∃ B, B = w.heap.size := ⟨_, rfl⟩
  obtain ⟨W, hW⟩ : ∃ W, W = ((w.alloc (.cells (rqc 22 pl nn wa q1 q2 m1 m2 k1 k2) 28)).alloc (.cells #[.int .i64 0, .int .i64 0, .int .i64 0, .int .i64 0, .slice none 0 0, .slice none 0 0] 49)).alloc (.cells #[.int .i64 22, .int .i64 0, .int .i64 0, .int .i64 0, .slice none 0 0, .slice none 0 0] 49) := ⟨_, rfl⟩
  have bW : Below w.heap.size w W := by rw [hW]; exact bel_next (bel_next (bel_alloc _ _) (bel_alloc _ _)) (bel_alloc _ _)
  have HW : Hid (Below w.heap.size w W ∧ Blk W B 28 (rqc 22 pl nn wa q1 q2 m1 m2 k1 k2) ∧ Blk W (B + 1) 49 #[.int .i64 0, .int .i64 0, .int .i64 0, .int .i64 0, .slice none 0 0, .slice none 0 0] ∧ Blk W (B + 1 + 1) 49 #[.int .i64 22, .int .i64 0, .int .i64 0, .int .i64 0, .slice none 0 0, .slice none 0 0] ∧ w.heap.size = B) := by
    refine ⟨bW, by rw [hW, hB]; exact ((Blk.new w _ _).below (bel_alloc _ _)).below (bel_alloc _ _), ?_, ?_, hB.symm⟩
    · rw [hW, hB]
      have := (Blk.new (w.alloc (.cells (rqc 22 pl nn wa q1 q2 m1 m2 k1 k2) 28)) #[.int .i64 0, .int .i64 0, .int .i64 0, .int .i64 0, .slice none 0 0, .slice none 0 0] 49).below (bel_alloc _ (.cells #[.int .i64 22, .int .i64 0, .int .i64 0, .int .i64 0, .slice none 0 0, .slice none 0 0] 49))
      simpa using this
    · rw [hW, hB]
      have := Blk.new ((w.alloc (.cells (rqc 22 pl nn wa q1 q2 m1 m2 k1 k2) 28)).alloc (.cells #[.int .i64 0, .int .i64 0, .int .i64 0, .int .i64 0, .slice none 0 0, .slice none 0 0] 49)) #[.int .i64 22, .int .i64 0, .int .i64 0, .int .i64 0, .slice none 0 0, .slice none 0 0] 49
      simpa using this
  clear bW
  have HS : Hid (m1 = ws.length ∧ m2 = bs.length ∧ SlI w q1 ws ∧ SlB w q2 bs) := ⟨h1, h2, s1, s2⟩
  clear h1 h2 s1 s2
  go_enter Try.func57, Try.ntmps57
  go_upto_region 2 with fail
  rw [← hW, ← hB]
  clear hW hB
  obtain ⟨⟨y0, y1, y2, y3, y4, y5⟩, _⟩ := HW.out.2.1.six2
  obtain ⟨⟨x0, x1, x2, x3, x4, x5⟩, ⟨f0, f1, f2, f3, f4, f5⟩⟩ := HW.out.2.2.2.1.six2
  have q1' : ¬ B = B + 1 + 1 := by omega
  have q2' : ¬ B + 1 + 1 = B := by omega
  have dz : Below W.heap.size W W.drew := (Below.refl _ _).drew
  go_upto_region 13 with fail
  go_region_held3 (fun w' => w'.cell? ⟨B, 1, none⟩ = some (.int .i64 pl) ∧ w'.cell? ⟨B, 3, none⟩ = some (.slice q1 m1 k1) ∧ w'.cell? ⟨B, 4, none⟩ = some (.slice q2 m2 k2)) (go_keep)
    (first
      | (go_at_call 106; refine (copyOfB q2 m2 k2 bs _ HS.out.2.1 (HS.out.2.2.2.below (by first | exact HW.out.1 | exact bel_next HW.out.1 dz | exact bel_next HW.out.1 HI.out.1)) hl2).mono ?_; rintro e u2 ⟨r2, rfl, o2, b2⟩; have HB : Hid (Below W.heap.size W u2 ∧ OwnB u2 W.heap.size (.slice (some ⟨r2, 0, none⟩) m2 m2) bs) := ⟨(by first | exact b2 | exact bel_next dz b2 | exact bel_next HI.out.1 b2), OwnB.mono o2 (by first | exact Nat.le_refl _ | exact dz.size | exact HI.out.1.size)⟩; clear o2; obtain ⟨⟨y0, y1, y2, y3, y4, y5⟩, _⟩ := (HW.out.2.1.below HB.out.1).six2; obtain ⟨⟨x0, x1, x2, x3, x4, x5⟩, ⟨f0, f1, f2, f3, f4, f5⟩⟩ := (HW.out.2.2.2.1.below HB.out.1).six2)
      | (go_at_call 107; refine (copyOfI q1 m1 k1 ws _ HS.out.1 (HS.out.2.2.1.below (by first | exact HW.out.1 | exact bel_next HW.out.1 dz | exact bel_next HW.out.1 HB.out.1)) hl1).mono ?_; rintro e u1 ⟨r1, rfl, o1, b1⟩; have HI : Hid (Below W.heap.size W u1 ∧ OwnI u1 W.heap.size (.slice (some ⟨r1, 0, none⟩) m1 m1) ws) := ⟨(by first | exact b1 | exact bel_next dz b1 | exact bel_next HB.out.1 b1), OwnI.mono o1 (by first | exact Nat.le_refl _ | exact dz.size | exact HB.out.1.size)⟩; clear o1; obtain ⟨⟨y0, y1, y2, y3, y4, y5⟩, _⟩ := (HW.out.2.1.below HI.out.1).six2; obtain ⟨⟨x0, x1, x2, x3, x4, x5⟩, ⟨f0, f1, f2, f3, f4, f5⟩⟩ := (HW.out.2.2.2.1.below HI.out.1).six2))
  obtain ⟨W2, hW2⟩ : ∃ W2, W2 = ((u1.setCell ⟨B + 1 + 1, 2, none⟩ (.int .i64 pl)).setCell ⟨B + 1 + 1, 5, none⟩ (.slice (some ⟨r2, 0, none⟩) m2 m2)).setCell ⟨B + 1 + 1, 4, none⟩ (.slice (some ⟨r1, 0, none⟩) m1 m1) := ⟨_, rfl⟩
  have HN : Hid (m1 = ws.length ∧ m2 = bs.length) := ⟨HS.out.1, HS.out.2.1⟩
  have hsz : w.heap.size ≤ B + 1 + 1 := by have := HW.out.2.2.2.2; omega
  have K1 := HW.out.2.2.2.1.below HI.out.1
  have oB : OwnB u1 w.heap.size (.slice (some ⟨r2, 0, none⟩) m2 m2) bs := OwnB.mono (HB.out.2.below b1) HW.out.1.size
  have oI : OwnI u1 w.heap.size (.slice (some ⟨r1, 0, none⟩) m1 m1) ws := OwnI.mono HI.out.2 HW.out.1.size
  have HX : Hid (OwnI W2 w.heap.size (.slice (some ⟨r1, 0, none⟩) m1 m1) ws ∧ OwnB W2 w.heap.size (.slice (some ⟨r2, 0, none⟩) m2 m2) bs ∧ Below w.heap.size w W2 ∧ Blk W2 (B + 1 + 1) 49 #[.int .i64 22, .int .i64 0, .int .i64 pl, .int .i64 0, .slice (some ⟨r1, 0, none⟩) m1 m1, .slice (some ⟨r2, 0, none⟩) m2 m2] ∧ Blk W2 (B + 1) 49 #[.int .i64 0, .int .i64 0, .int .i64 0, .int .i64 0, .slice none 0 0, .slice none 0 0]) := ⟨by rw [hW2]; exact row_setE (row_setE (row_setE oI ⟨_, K1⟩ (by decide)) (ExB.set ⟨_, K1⟩) (by decide)) (ExB.set (ExB.set ⟨_, K1⟩)) (by decide), by rw [hW2]; exact row_setE (row_setE (row_setE oB ⟨_, K1⟩ (by decide)) (ExB.set ⟨_, K1⟩) (by decide)) (ExB.set (ExB.set ⟨_, K1⟩)) (by decide), by rw [hW2]; exact (((bel_next HW.out.1 HI.out.1).setCell (p := ⟨B + 1 + 1, 2, none⟩) hsz _).setCell (p := ⟨B + 1 + 1, 5, none⟩) hsz _).setCell (p := ⟨B + 1 + 1, 4, none⟩) hsz _, by rw [hW2]; have h9 := ((K1.set 2 (.int .i64 pl)).set 5 (.slice (some ⟨r2, 0, none⟩) m2 m2)).set 4 (.slice (some ⟨r1, 0, none⟩) m1 m1); simpa using h9, by rw [hW2]; exact (((HW.out.2.2.1.below HI.out.1).setNe (by omega)).setNe (by omega)).setNe (by omega)⟩
  rw [← hW2]
  clear hW2 hsz K1 oB oI b1 b2 HB HI HS y0 y1 y2 y3 y4 y5 x0 x1 x2 x3 x4 x5 f0 f1 f2 f3 f4 f5 q1' q2' dz
  go_upto_region 18 with fail
  have HY : Hid (OwnI (setL W2 (B + 1) 0 [.int .i64 22, .int .i64 0, .int .i64 pl, .int .i64 0, .slice (some ⟨r1, 0, none⟩) m1 m1, .slice (some ⟨r2, 0, none⟩) m2 m2]) w.heap.size (.slice (some ⟨r1, 0, none⟩) m1 m1) ws ∧ OwnB (setL W2 (B + 1) 0 [.int .i64 22, .int .i64 0, .int .i64 pl, .int .i64 0, .slice (some ⟨r1, 0, none⟩) m1 m1, .slice (some ⟨r2, 0, none⟩) m2 m2]) w.heap.size (.slice (some ⟨r2, 0, none⟩) m2 m2) bs ∧ Below w.heap.size w (setL W2 (B + 1) 0 [.int .i64 22, .int .i64 0, .int .i64 pl, .int .i64 0, .slice (some ⟨r1, 0, none⟩) m1 m1, .slice (some ⟨r2, 0, none⟩) m2 m2])) := ⟨row_setL HX.out.1 ⟨_, HX.out.2.2.2.2⟩ (by decide), row_setL HX.out.2.1 ⟨_, HX.out.2.2.2.2⟩ (by decide), setL_below (by have := HW.out.2.2.2.2; omega) _ _ _ HX.out.2.2.1⟩
  obtain ⟨⟨x0, x1, x2, x3, x4, x5⟩, _⟩ := HX.out.2.2.2.1.six2
  obtain ⟨⟨z0, z1, z2, z3, z4, z5⟩, ⟨g0, g1, g2, g3, g4, g5⟩⟩ := HX.out.2.2.2.2.six2
  clear HX
  go_wp2
  refine bodyPost_ret (v := .agg #[.int .i64 22, .int .i64 0, .int .i64 pl, .int .i64 0, .slice (some ⟨r1, 0, none⟩) m1 m1, .slice (some ⟨r2, 0, none⟩) m2 m2]) (by simp [results, Try.results57, go_sem, z0, z1, z2, z3, z4, z5]) rfl ⟨some ⟨r1, 0, none⟩, some ⟨r2, 0, none⟩, m1, m2, m1, m2, rfl, HN.out.1, HN.out.2, HY.out.1, HY.out.2.1, HY.out.2.2⟩
end Go.Proofs.Ytegckbfbmbiogaa
