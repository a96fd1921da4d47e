/- Texts that the proof needs, joined: P4 P5. -/
import Derived.Test.YtmhdneenjoelfaaGreatV11
import Derived.Test.YtmhdneenjoelfaaGreatV7
import Derived.Deep.RegionHeld3
namespace Go.Proofs.YtmhdneenjoelfaaGreat
open Go.RowKit
set_option linter.unusedVariables false
set_option linter.unusedSimpArgs false
set_option maxHeartbeats 4000000 in
theorem namedOf_1 (pl nn : Int) (a1 a2 : Option Addr) (l1 l2 c1 c2 : Nat) (w : World) :
    Calls Tryz.prog 141 #[rp 1 0 pl nn a1 a2 l1 l2 c1 c2] w fun e w' => e = .returned (rp 1 0 0 0 none a2 0 l2 0 c2) ∧ Below w.heap.size w w' := by
  obtain ⟨W0, hW0⟩ : ∃ W0, W0 = (w.alloc (.cells #[.int .i64 1, .int .i64 0, .int .i64 pl, .int .i64 nn, .slice a1 l1 c1, .slice a2 l2 c2] 37)).alloc (.cells #[.int .i64 0, .int .i64 0, .int .i64 0, .int .i64 0, .slice none 0 0, .slice none 0 0] 37) := ⟨_, rfl⟩
  have HW : Hid (W0 = _) := hW0
  have B0 : Below w.heap.size w W0 := by rw [hW0]; exact bel_next (bel_alloc w _) (bel_alloc _ _)
  have X0 : Blk W0 w.heap.size 37 #[.int .i64 1, .int .i64 0, .int .i64 pl, .int .i64 nn, .slice a1 l1 c1, .slice a2 l2 c2] := by rw [hW0]; exact (Blk.new w _ _).below (bel_alloc _ _)
  have R0 : Blk W0 (w.heap.size + 1) 37 #[.int .i64 0, .int .i64 0, .int .i64 0, .int .i64 0, .slice none 0 0, .slice none 0 0] := by
    rw [hW0]; have := Blk.new (w.alloc (.cells #[.int .i64 1, .int .i64 0, .int .i64 pl, .int .i64 nn, .slice a1 l1 c1, .slice a2 l2 c2] 37)) #[.int .i64 0, .int .i64 0, .int .i64 0, .int .i64 0, .slice none 0 0, .slice none 0 0] 37; simpa using this
  obtain ⟨x0, x1, x2, x3, x4, x5⟩ := X0.six
  obtain ⟨y0, y1, y2, y3, y4, y5⟩ := R0.six
  have fy := R0.fro
  clear hW0 X0 R0
  go_enter Tryz.func141, Tryz.ntmps141
  go_upto_region 1 with fail
  rw [← HW.out]
  go_wp2
  refine bodyPost_ret (v := rp 1 0 0 0 none a2 0 l2 0 c2) (by simp [results, Tryz.results141, go_sem, y0, y1, y2, y3, y4, y5]) rfl ?_
  exact ⟨rfl, belp_set6 B0 (Nat.le_succ _)⟩
set_option maxHeartbeats 4000000 in
theorem namedOf_2 (pl nn : Int) (a1 a2 : Option Addr) (l1 l2 c1 c2 : Nat) (w : World) :
    Calls Tryz.prog 141 #[rp 2 0 pl nn a1 a2 l1 l2 c1 c2] w fun e w' => e = .returned (rp 2 0 0 0 none a2 0 l2 0 c2) ∧ Below w.heap.size w w' := by
  obtain ⟨W0, hW0⟩ : ∃ W0, W0 = (w.alloc (.cells #[.int .i64 2, .int .i64 0, .int .i64 pl, .int .i64 nn, .slice a1 l1 c1, .slice a2 l2 c2] 37)).alloc (.cells #[.int .i64 0, .int .i64 0, .int .i64 0, .int .i64 0, .slice none 0 0, .slice none 0 0] 37) := ⟨_, rfl⟩
  have HW : Hid (W0 = _) := hW0
  have B0 : Below w.heap.size w W0 := by rw [hW0]; exact bel_next (bel_alloc w _) (bel_alloc _ _)
  have X0 : Blk W0 w.heap.size 37 #[.int .i64 2, .int .i64 0, .int .i64 pl, .int .i64 nn, .slice a1 l1 c1, .slice a2 l2 c2] := by rw [hW0]; exact (Blk.new w _ _).below (bel_alloc _ _)
  have R0 : Blk W0 (w.heap.size + 1) 37 #[.int .i64 0, .int .i64 0, .int .i64 0, .int .i64 0, .slice none 0 0, .slice none 0 0] := by
    rw [hW0]; have := Blk.new (w.alloc (.cells #[.int .i64 2, .int .i64 0, .int .i64 pl, .int .i64 nn, .slice a1 l1 c1, .slice a2 l2 c2] 37)) #[.int .i64 0, .int .i64 0, .int .i64 0, .int .i64 0, .slice none 0 0, .slice none 0 0] 37; simpa using this
  obtain ⟨x0, x1, x2, x3, x4, x5⟩ := X0.six
  obtain ⟨y0, y1, y2, y3, y4, y5⟩ := R0.six
  have fy := R0.fro
  clear hW0 X0 R0
  go_enter Tryz.func141, Tryz.ntmps141
  go_upto_region 1 with fail
  rw [← HW.out]
  go_wp2
  refine bodyPost_ret (v := rp 2 0 0 0 none a2 0 l2 0 c2) (by simp [results, Tryz.results141, go_sem, y0, y1, y2, y3, y4, y5]) rfl ?_
  exact ⟨rfl, belp_set6 B0 (Nat.le_succ _)⟩
set_option maxHeartbeats 4000000 in
theorem namedOf_3 (pl nn : Int) (a1 a2 : Option Addr) (l1 l2 c1 c2 : Nat) (w : World) :
    Calls Tryz.prog 141 #[rp 3 0 pl nn a1 a2 l1 l2 c1 c2] w fun e w' => e = .returned (rp 3 0 0 0 a1 none l1 0 c1 0) ∧ Below w.heap.size w w' := by
  obtain ⟨W0, hW0⟩ : ∃ W0, W0 = (w.alloc (.cells #[.int .i64 3, .int .i64 0, .int .i64 pl, .int .i64 nn, .slice a1 l1 c1, .slice a2 l2 c2] 37)).alloc (.cells #[.int .i64 0, .int .i64 0, .int .i64 0, .int .i64 0, .slice none 0 0, .slice none 0 0] 37) := ⟨_, rfl⟩
  have HW : Hid (W0 = _) := hW0
  have B0 : Below w.heap.size w W0 := by rw [hW0]; exact bel_next (bel_alloc w _) (bel_alloc _ _)
  have X0 : Blk W0 w.heap.size 37 #[.int .i64 3, .int .i64 0, .int .i64 pl, .int .i64 nn, .slice a1 l1 c1, .slice a2 l2 c2] := by rw [hW0]; exact (Blk.new w _ _).below (bel_alloc _ _)
  have R0 : Blk W0 (w.heap.size + 1) 37 #[.int .i64 0, .int .i64 0, .int .i64 0, .int .i64 0, .slice none 0 0, .slice none 0 0] := by
    rw [hW0]; have := Blk.new (w.alloc (.cells #[.int .i64 3, .int .i64 0, .int .i64 pl, .int .i64 nn, .slice a1 l1 c1, .slice a2 l2 c2] 37)) #[.int .i64 0, .int .i64 0, .int .i64 0, .int .i64 0, .slice none 0 0, .slice none 0 0] 37; simpa using this
  obtain ⟨x0, x1, x2, x3, x4, x5⟩ := X0.six
  obtain ⟨y0, y1, y2, y3, y4, y5⟩ := R0.six
  have fy := R0.fro
  clear hW0 X0 R0
  go_enter Tryz.func141, Tryz.ntmps141
  go_upto_region 1 with fail
  rw [← HW.out]
  go_wp2
  refine bodyPost_ret (v := rp 3 0 0 0 a1 none l1 0 c1 0) (by simp [results, Tryz.results141, go_sem, y0, y1, y2, y3, y4, y5]) rfl ?_
  exact ⟨rfl, belp_set6 B0 (Nat.le_succ _)⟩
set_option maxHeartbeats 4000000 in
theorem namedOf_4 (pl nn : Int) (a1 a2 : Option Addr) (l1 l2 c1 c2 : Nat) (w : World) :
    Calls Tryz.prog 141 #[rp 4 0 pl nn a1 a2 l1 l2 c1 c2] w fun e w' => e = .returned (rp 4 0 0 0 a1 none l1 0 c1 0) ∧ Below w.heap.size w w' := by
  obtain ⟨W0, hW0⟩ : ∃ W0, W0 = (w.alloc (.cells #[.int .i64 4, .int .i64 0, .int .i64 pl, .int .i64 nn, .slice a1 l1 c1, .slice a2 l2 c2] 37)).alloc (.cells #[.int .i64 0, .int .i64 0, .int .i64 0, .int .i64 0, .slice none 0 0, .slice none 0 0] 37) := ⟨_, rfl⟩
  have HW : Hid (W0 = _) := hW0
  have B0 : Below w.heap.size w W0 := by rw [hW0]; exact bel_next (bel_alloc w _) (bel_alloc _ _)
  have X0 : Blk W0 w.heap.size 37 #[.int .i64 4, .int .i64 0, .int .i64 pl, .int .i64 nn, .slice a1 l1 c1, .slice a2 l2 c2] := by rw [hW0]; exact (Blk.new w _ _).below (bel_alloc _ _)
  have R0 : Blk W0 (w.heap.size + 1) 37 #[.int .i64 0, .int .i64 0, .int .i64 0, .int .i64 0, .slice none 0 0, .slice none 0 0] := by
    rw [hW0]; have := Blk.new (w.alloc (.cells #[.int .i64 4, .int .i64 0, .int .i64 pl, .int .i64 nn, .slice a1 l1 c1, .slice a2 l2 c2] 37)) #[.int .i64 0, .int .i64 0, .int .i64 0, .int .i64 0, .slice none 0 0, .slice none 0 0] 37; simpa using this
  obtain ⟨x0, x1, x2, x3, x4, x5⟩ := X0.six
  obtain ⟨y0, y1, y2, y3, y4, y5⟩ := R0.six
  have fy := R0.fro
  clear hW0 X0 R0
  go_enter Tryz.func141, Tryz.ntmps141
  go_upto_region 1 with fail
  rw [← HW.out]
  go_wp2
  refine bodyPost_ret (v := rp 4 0 0 0 a1 none l1 0 c1 0) (by simp [results, Tryz.results141, go_sem, y0, y1, y2, y3, y4, y5]) rfl ?_
  exact ⟨rfl, belp_set6 B0 (Nat.le_succ _)⟩
set_option maxHeartbeats 4000000 in
theorem namedOf_23 (pl nn : Int) (a1 a2 : Option Addr) (l1 l2 c1 c2 : Nat) (w : World) :
    Calls Tryz.prog 141 #[rp 23 0 pl nn a1 a2 l1 l2 c1 c2] w fun e w' => e = .returned (rp 23 0 0 0 a1 none l1 0 c1 0) ∧ Below w.heap.size w w' := by
  obtain ⟨W0, hW0⟩ : ∃ W0, W0 = (w.alloc (.cells #[.int .i64 23, .int .i64 0, .int .i64 pl, .int .i64 nn, .slice a1 l1 c1, .slice a2 l2 c2] 37)).alloc (.cells #[.int .i64 0, .int .i64 0, .int .i64 0, .int .i64 0, .slice none 0 0, .slice none 0 0] 37) := ⟨_, rfl⟩
  have HW : Hid (W0 = _) := hW0
  have B0 : Below w.heap.size w W0 := by rw [hW0]; exact bel_next (bel_alloc w _) (bel_alloc _ _)
  have X0 : Blk W0 w.heap.size 37 #[.int .i64 23, .int .i64 0, .int .i64 pl, .int .i64 nn, .slice a1 l1 c1, .slice a2 l2 c2] := by rw [hW0]; exact (Blk.new w _ _).below (bel_alloc _ _)
  have R0 : Blk W0 (w.heap.size + 1) 37 #[.int .i64 0, .int .i64 0, .int .i64 0, .int .i64 0, .slice none 0 0, .slice none 0 0] := by
    rw [hW0]; have := Blk.new (w.alloc (.cells #[.int .i64 23, .int .i64 0, .int .i64 pl, .int .i64 nn, .slice a1 l1 c1, .slice a2 l2 c2] 37)) #[.int .i64 0, .int .i64 0, .int .i64 0, .int .i64 0, .slice none 0 0, .slice none 0 0] 37; simpa using this
  obtain ⟨x0, x1, x2, x3, x4, x5⟩ := X0.six
  obtain ⟨y0, y1, y2, y3, y4, y5⟩ := R0.six
  have fy := R0.fro
  clear hW0 X0 R0
  go_enter Tryz.func141, Tryz.ntmps141
  go_upto_region 1 with fail
  rw [← HW.out]
  go_wp2
  refine bodyPost_ret (v := rp 23 0 0 0 a1 none l1 0 c1 0) (by simp [results, Tryz.results141, go_sem, y0, y1, y2, y3, y4, y5]) rfl ?_
  exact ⟨rfl, belp_set6 B0 (Nat.le_succ _)⟩
set_option maxHeartbeats 4000000 in
theorem namedOf_5 (pl nn : Int) (a1 a2 : Option Addr) (l1 l2 c1 c2 : Nat) (w : World) :
    Calls Tryz.prog 141 #[rp 5 0 pl nn a1 a2 l1 l2 c1 c2] w fun e w' => e = .returned (rp 5 0 pl 0 none a2 0 l2 0 c2) ∧ Below w.heap.size w w' := by
  obtain ⟨W0, hW0⟩ : ∃ W0, W0 = (w.alloc (.cells #[.int .i64 5, .int .i64 0, .int .i64 pl, .int .i64 nn, .slice a1 l1 c1, .slice a2 l2 c2] 37)).alloc (.cells #[.int .i64 0, .int .i64 0, .int .i64 0, .int .i64 0, .slice none 0 0, .slice none 0 0] 37) := ⟨_, rfl⟩
  have HW : Hid (W0 = _) := hW0
  have B0 : Below w.heap.size w W0 := by rw [hW0]; exact bel_next (bel_alloc w _) (bel_alloc _ _)
  have X0 : Blk W0 w.heap.size 37 #[.int .i64 5, .int .i64 0, .int .i64 pl, .int .i64 nn, .slice a1 l1 c1, .slice a2 l2 c2] := by rw [hW0]; exact (Blk.new w _ _).below (bel_alloc _ _)
  have R0 : Blk W0 (w.heap.size + 1) 37 #[.int .i64 0, .int .i64 0, .int .i64 0, .int .i64 0, .slice none 0 0, .slice none 0 0] := by
    rw [hW0]; have := Blk.new (w.alloc (.cells #[.int .i64 5, .int .i64 0, .int .i64 pl, .int .i64 nn, .slice a1 l1 c1, .slice a2 l2 c2] 37)) #[.int .i64 0, .int .i64 0, .int .i64 0, .int .i64 0, .slice none 0 0, .slice none 0 0] 37; simpa using this
  obtain ⟨x0, x1, x2, x3, x4, x5⟩ := X0.six
  obtain ⟨y0, y1, y2, y3, y4, y5⟩ := R0.six
  have fy := R0.fro
  clear hW0 X0 R0
  go_enter Tryz.func141, Tryz.ntmps141
  go_upto_region 1 with fail
  rw [← HW.out]
  go_wp2
  refine bodyPost_ret (v := rp 5 0 pl 0 none a2 0 l2 0 c2) (by simp [results, Tryz.results141, go_sem, y0, y1, y2, y3, y4, y5]) rfl ?_
  exact ⟨rfl, belp_set6 B0 (Nat.le_succ _)⟩
set_option maxHeartbeats 4000000 in
theorem namedOf_6 (pl nn : Int) (a1 a2 : Option Addr) (l1 l2 c1 c2 : Nat) (w : World) :
    Calls Tryz.prog 141 #[rp 6 0 pl nn a1 a2 l1 l2 c1 c2] w fun e w' => e = .returned (rp 6 0 pl 0 a1 none l1 0 c1 0) ∧ Below w.heap.size w w' := by
  obtain ⟨W0, hW0⟩ : ∃ W0, W0 = (w.alloc (.cells #[.int .i64 6, .int .i64 0, .int .i64 pl, .int .i64 nn, .slice a1 l1 c1, .slice a2 l2 c2] 37)).alloc (.cells #[.int .i64 0, .int .i64 0, .int .i64 0, .int .i64 0, .slice none 0 0, .slice none 0 0] 37) := ⟨_, rfl⟩
  have HW : Hid (W0 = _) := hW0
  have B0 : Below w.heap.size w W0 := by rw [hW0]; exact bel_next (bel_alloc w _) (bel_alloc _ _)
  have X0 : Blk W0 w.heap.size 37 #[.int .i64 6, .int .i64 0, .int .i64 pl, .int .i64 nn, .slice a1 l1 c1, .slice a2 l2 c2] := by rw [hW0]; exact (Blk.new w _ _).below (bel_alloc _ _)
  have R0 : Blk W0 (w.heap.size + 1) 37 #[.int .i64 0, .int .i64 0, .int .i64 0, .int .i64 0, .slice none 0 0, .slice none 0 0] := by
    rw [hW0]; have := Blk.new (w.alloc (.cells #[.int .i64 6, .int .i64 0, .int .i64 pl, .int .i64 nn, .slice a1 l1 c1, .slice a2 l2 c2] 37)) #[.int .i64 0, .int .i64 0, .int .i64 0, .int .i64 0, .slice none 0 0, .slice none 0 0] 37; simpa using this
  obtain ⟨x0, x1, x2, x3, x4, x5⟩ := X0.six
  obtain ⟨y0, y1, y2, y3, y4, y5⟩ := R0.six
  have fy := R0.fro
  clear hW0 X0 R0
  go_enter Tryz.func141, Tryz.ntmps141
  go_upto_region 1 with fail
  rw [← HW.out]
  go_wp2
  refine bodyPost_ret (v := rp 6 0 pl 0 a1 none l1 0 c1 0) (by simp [results, Tryz.results141, go_sem, y0, y1, y2, y3, y4, y5]) rfl ?_
  exact ⟨rfl, belp_set6 B0 (Nat.le_succ _)⟩
set_option maxHeartbeats 4000000 in
theorem namedOf_22 (pl nn : Int) (a1 a2 : Option Addr) (l1 l2 c1 c2 : Nat) (w : World) :
    Calls Tryz.prog 141 #[rp 22 0 pl nn a1 a2 l1 l2 c1 c2] w fun e w' => e = .returned (rp 22 0 pl 0 a1 none l1 0 c1 0) ∧ Below w.heap.size w w' := by
  obtain ⟨W0, hW0⟩ : ∃ W0, W0 = (w.alloc (.cells #[.int .i64 22, .int .i64 0, .int .i64 pl, .int .i64 nn, .slice a1 l1 c1, .slice a2 l2 c2] 37)).alloc (.cells #[.int .i64 0, .int .i64 0, .int .i64 0, .int .i64 0, .slice none 0 0, .slice none 0 0] 37) := ⟨_, rfl⟩
  have HW : Hid (W0 = _) := hW0
  have B0 : Below w.heap.size w W0 := by rw [hW0]; exact bel_next (bel_alloc w _) (bel_alloc _ _)
  have X0 : Blk W0 w.heap.size 37 #[.int .i64 22, .int .i64 0, .int .i64 pl, .int .i64 nn, .slice a1 l1 c1, .slice a2 l2 c2] := by rw [hW0]; exact (Blk.new w _ _).below (bel_alloc _ _)
  have R0 : Blk W0 (w.heap.size + 1) 37 #[.int .i64 0, .int .i64 0, .int .i64 0, .int .i64 0, .slice none 0 0, .slice none 0 0] := by
    rw [hW0]; have := Blk.new (w.alloc (.cells #[.int .i64 22, .int .i64 0, .int .i64 pl, .int .i64 nn, .slice a1 l1 c1, .slice a2 l2 c2] 37)) #[.int .i64 0, .int .i64 0, .int .i64 0, .int .i64 0, .slice none 0 0, .slice none 0 0] 37; simpa using this
  obtain ⟨x0, x1, x2, x3, x4, x5⟩ := X0.six
  obtain ⟨y0, y1, y2, y3, y4, y5⟩ := R0.six
  have fy := R0.fro
  clear hW0 X0 R0
  go_enter Tryz.func141, Tryz.ntmps141
  go_upto_region 1 with fail
  rw [← HW.out]
  go_wp2
  refine bodyPost_ret (v := rp 22 0 pl 0 a1 none l1 0 c1 0) (by simp [results, Tryz.results141, go_sem, y0, y1, y2, y3, y4, y5]) rfl ?_
  exact ⟨rfl, belp_set6 B0 (Nat.le_succ _)⟩
set_option maxHeartbeats 4000000 in
theorem namedOf_15 (pl nn : Int) (a1 a2 : Option Addr) (l1 l2 c1 c2 : Nat) (w : World) :
    Calls Tryz.prog 141 #[rp 15 0 pl nn a1 a2 l1 l2 c1 c2] w fun e w' => e = .returned (rp 15 0 pl nn none none 0 0 0 0) ∧ Below w.heap.size w w' := by
  obtain ⟨W0, hW0⟩ : ∃ W0, W0 = (w.alloc (.cells #[.int .i64 15, .int .i64 0, .int .i64 pl, .int .i64 nn, .slice a1 l1 c1, .slice a2 l2 c2] 37)).alloc (.cells #[.int .i64 0, .int .i64 0, .int .i64 0, .int .i64 0, .slice none 0 0, .slice none 0 0] 37) := ⟨_, rfl⟩
  have HW : Hid (W0 = _) := hW0
  have B0 : Below w.heap.size w W0 := by rw [hW0]; exact bel_next (bel_alloc w _) (bel_alloc _ _)
  have X0 : Blk W0 w.heap.size 37 #[.int .i64 15, .int .i64 0, .int .i64 pl, .int .i64 nn, .slice a1 l1 c1, .slice a2 l2 c2] := by rw [hW0]; exact (Blk.new w _ _).below (bel_alloc _ _)
  have R0 : Blk W0 (w.heap.size + 1) 37 #[.int .i64 0, .int .i64 0, .int .i64 0, .int .i64 0, .slice none 0 0, .slice none 0 0] := by
    rw [hW0]; have := Blk.new (w.alloc (.cells #[.int .i64 15, .int .i64 0, .int .i64 pl, .int .i64 nn, .slice a1 l1 c1, .slice a2 l2 c2] 37)) #[.int .i64 0, .int .i64 0, .int .i64 0, .int .i64 0, .slice none 0 0, .slice none 0 0] 37; simpa using this
  obtain ⟨x0, x1, x2, x3, x4, x5⟩ := X0.six
  obtain ⟨y0, y1, y2, y3, y4, y5⟩ := R0.six
  have fy := R0.fro
  clear hW0 X0 R0
  go_enter Tryz.func141, Tryz.ntmps141
  go_upto_region 1 with fail
  rw [← HW.out]
  go_wp2
  refine bodyPost_ret (v := rp 15 0 pl nn none none 0 0 0 0) (by simp [results, Tryz.results141, go_sem, y0, y1, y2, y3, y4, y5]) rfl ?_
  exact ⟨rfl, belp_set6 B0 (Nat.le_succ _)⟩
set_option maxHeartbeats 4000000 in
theorem namedOf_16 (pl nn : Int) (a1 a2 : Option Addr) (l1 l2 c1 c2 : Nat) (w : World) :
    Calls Tryz.prog 141 #[rp 16 0 pl nn a1 a2 l1 l2 c1 c2] w fun e w' => e = .returned (rp 16 0 pl nn none none 0 0 0 0) ∧ Below w.heap.size w w' := by
  obtain ⟨W0, hW0⟩ : ∃ W0, W0 = (w.alloc (.cells #[.int .i64 16, .int .i64 0, .int .i64 pl, .int .i64 nn, .slice a1 l1 c1, .slice a2 l2 c2] 37)).alloc (.cells #[.int .i64 0, .int .i64 0, .int .i64 0, .int .i64 0, .slice none 0 0, .slice none 0 0] 37) := ⟨_, rfl⟩
  have HW : Hid (W0 = _) := hW0
  have B0 : Below w.heap.size w W0 := by rw [hW0]; exact bel_next (bel_alloc w _) (bel_alloc _ _)
  have X0 : Blk W0 w.heap.size 37 #[.int .i64 16, .int .i64 0, .int .i64 pl, .int .i64 nn, .slice a1 l1 c1, .slice a2 l2 c2] := by rw [hW0]; exact (Blk.new w _ _).below (bel_alloc _ _)
  have R0 : Blk W0 (w.heap.size + 1) 37 #[.int .i64 0, .int .i64 0, .int .i64 0, .int .i64 0, .slice none 0 0, .slice none 0 0] := by
    rw [hW0]; have := Blk.new (w.alloc (.cells #[.int .i64 16, .int .i64 0, .int .i64 pl, .int .i64 nn, .slice a1 l1 c1, .slice a2 l2 c2] 37)) #[.int .i64 0, .int .i64 0, .int .i64 0, .int .i64 0, .slice none 0 0, .slice none 0 0] 37; simpa using this
  obtain ⟨x0, x1, x2, x3, x4, x5⟩ := X0.six
  obtain ⟨y0, y1, y2, y3, y4, y5⟩ := R0.six
  have fy := R0.fro
  clear hW0 X0 R0
  go_enter Tryz.func141, Tryz.ntmps141
  go_upto_region 1 with fail
  rw [← HW.out]
  go_wp2
  refine bodyPost_ret (v := rp 16 0 pl nn none none 0 0 0 0) (by simp [results, Tryz.results141, go_sem, y0, y1, y2, y3, y4, y5]) rfl ?_
  exact ⟨rfl, belp_set6 B0 (Nat.le_succ _)⟩
set_option maxHeartbeats 4000000 in
theorem namedOf_f (kd fl pl nn : Int) (a1 a2 : Option Addr) (l1 l2 c1 c2 : Nat) (w : World) (h0 : ¬ fl = 0) :
    Calls Tryz.prog 141 #[rp kd fl pl nn a1 a2 l1 l2 c1 c2] w fun e w' => e = .returned (rp kd fl 0 0 none none 0 0 0 0) ∧ Below w.heap.size w w' := by
  obtain ⟨W0, hW0⟩ : ∃ W0, W0 = (w.alloc (.cells #[.int .i64 kd, .int .i64 fl, .int .i64 pl, .int .i64 nn, .slice a1 l1 c1, .slice a2 l2 c2] 37)).alloc (.cells #[.int .i64 0, .int .i64 0, .int .i64 0, .int .i64 0, .slice none 0 0, .slice none 0 0] 37) := ⟨_, rfl⟩
  have HW : Hid (W0 = _) := hW0
  have B0 : Below w.heap.size w W0 := by rw [hW0]; exact bel_next (bel_alloc w _) (bel_alloc _ _)
  have X0 : Blk W0 w.heap.size 37 #[.int .i64 kd, .int .i64 fl, .int .i64 pl, .int .i64 nn, .slice a1 l1 c1, .slice a2 l2 c2] := by rw [hW0]; exact (Blk.new w _ _).below (bel_alloc _ _)
  have R0 : Blk W0 (w.heap.size + 1) 37 #[.int .i64 0, .int .i64 0, .int .i64 0, .int .i64 0, .slice none 0 0, .slice none 0 0] := by
    rw [hW0]; have := Blk.new (w.alloc (.cells #[.int .i64 kd, .int .i64 fl, .int .i64 pl, .int .i64 nn, .slice a1 l1 c1, .slice a2 l2 c2] 37)) #[.int .i64 0, .int .i64 0, .int .i64 0, .int .i64 0, .slice none 0 0, .slice none 0 0] 37; simpa using this
  obtain ⟨x0, x1, x2, x3, x4, x5⟩ := X0.six
  obtain ⟨y0, y1, y2, y3, y4, y5⟩ := R0.six
  have fy := R0.fro
  clear hW0 X0 R0
  go_enter Tryz.func141, Tryz.ntmps141
  go_upto_region 1 with fail
  rw [← HW.out]
  go_wp2
  refine bodyPost_ret (v := rp kd fl 0 0 none none 0 0 0 0) (by simp [results, Tryz.results141, go_sem, y0, y1, y2, y3, y4, y5]) rfl ?_
  exact ⟨rfl, belp_set6 B0 (Nat.le_succ _)⟩
set_option maxHeartbeats 4000000 in
theorem sameResp_any (kd fl pl nn pl' nn' : Int) (a1 a2 a1' a2' : Option Addr) (l1 l2 c1 c2 l1' l2' c1' c2' : Nat) (ws : List Int) (bs : List Bool) (w : World) (h1 : l1 = ws.length) (h2 : l2 = bs.length) (s1 : SlI w a1 ws) (s2 : SlB w a2 bs) (hl1 : ws.length ≤ 2000000) (hl2 : bs.length ≤ 2000000) (hm1 : l1' ≤ 2000000) (hm2 : l2' ≤ 2000000)
    (s1' : l1' = l1 → SlI w a1' ws) (s2' : l2' = l2 → SlB w a2' bs) (b : Bool) (hb : (decide (pl' = pl) && (decide (nn' = nn) && (decide (l1' = l1) && decide (l2' = l2)))) = b) :
    Calls Tryz.prog 140 #[rp kd fl pl' nn' a1' a2' l1' l2' c1' c2', rp kd fl pl nn a1 a2 l1 l2 c1 c2] w fun e w' => e = .returned (.bool b) ∧ Below w.heap.size w w' := by
  obtain ⟨W0, hW0'⟩ : ∃ W0, W0 = (w.alloc (.cells #[.int .i64 kd, .int .i64 fl, .int .i64 pl', .int .i64 nn', .slice a1' l1' c1', .slice a2' l2' c2'] 37)).alloc (.cells #[.int .i64 kd, .int .i64 fl, .int .i64 pl, .int .i64 nn, .slice a1 l1 c1, .slice a2 l2 c2] 37) := ⟨_, rfl⟩
  have hW0 : Hid (W0 = _) := hW0'
  have B0 : Below w.heap.size w W0 := by rw [hW0']; exact bel_next (bel_alloc w _) (bel_alloc _ _)
  have X0 : Blk W0 w.heap.size 37 #[.int .i64 kd, .int .i64 fl, .int .i64 pl', .int .i64 nn', .slice a1' l1' c1', .slice a2' l2' c2'] := by rw [hW0']; exact (Blk.new w _ _).below (bel_alloc _ _)
  have Y0 : Blk W0 (w.heap.size + 1) 37 #[.int .i64 kd, .int .i64 fl, .int .i64 pl, .int .i64 nn, .slice a1 l1 c1, .slice a2 l2 c2] := by
    rw [hW0']; have := Blk.new (w.alloc (.cells #[.int .i64 kd, .int .i64 fl, .int .i64 pl', .int .i64 nn', .slice a1' l1' c1', .slice a2' l2' c2'] 37)) #[.int .i64 kd, .int .i64 fl, .int .i64 pl, .int .i64 nn, .slice a1 l1 c1, .slice a2 l2 c2] 37; simpa using this
  have HL : Hid (l1 = ws.length ∧ l2 = bs.length) := ⟨h1, h2⟩
  have HS : Hid (SlI W0 a1 ws ∧ SlB W0 a2 bs) := ⟨s1.below B0, s2.below B0⟩
  have HS' : Hid ((l1' = l1 → SlI W0 a1' ws) ∧ (l2' = l2 → SlB W0 a2' bs)) := ⟨fun h => (s1' h).below B0, fun h => (s2' h).below B0⟩
  have HM : Hid (l1 ≤ 20000000 ∧ l2 ≤ 20000000) := by show _ ∧ _; omega
  obtain ⟨x0, x1, x2, x3, x4, x5⟩ := X0.six
  obtain ⟨y0, y1, y2, y3, y4, y5⟩ := Y0.six
  clear hW0' h1 h2 s1 s2 s1' s2'
  by_cases hA : pl' = pl
  · by_cases hN : nn' = nn
    · subst hA hN
      by_cases hw : l1' = l1
      · by_cases hq : l2' = l2
        · have e : b = true := by rw [← hb]; simp [hw, hq]
          subst e
          clear hb
          subst hw hq
          have T1 : Hid (SlI W0 a1' ws ∧ SlB W0 a2' bs) := ⟨HS'.out.1 rfl, HS'.out.2 rfl⟩
          go_enter Tryz.func140, Tryz.ntmps140
          go_upto_region 1 with fail
          rw [← hW0.out]
          go_wp2_with fail
          refine (equal_int _ _ _ _ _ _ ws _ HL.out.1 HL.out.1 T1.out.1 HS.out.1 hl1).mono ?_
          rintro e w1 ⟨rfl, b'⟩
          have b1 := bel_next B0 b'
          obtain ⟨x0, x1, x2, x3, x4, x5⟩ := (X0.below b').six
          obtain ⟨y0, y1, y2, y3, y4, y5⟩ := (Y0.below b').six
          go_wp2_with fail
          refine (equal_bool _ _ _ _ _ _ bs _ HL.out.2 HL.out.2 (T1.out.2.below b') (HS.out.2.below b') hl2).mono ?_
          rintro e w2 ⟨rfl, b2'⟩
          go_wp2
          go_ret
          exact ⟨rfl, bel_next b1 b2'⟩
        · have e : b = false := by rw [← hb]; simp [hq]
          subst e
          have hqi : ¬ (l2' : Int) = (l2 : Int) := by omega
          clear hb
          subst hw
          have T1 : Hid (SlI W0 a1' ws) := HS'.out.1 rfl
          go_enter Tryz.func140, Tryz.ntmps140
          go_upto_region 1 with fail
          rw [← hW0.out]
          go_wp2_with fail
          refine (equal_int _ _ _ _ _ _ ws _ HL.out.1 HL.out.1 T1.out HS.out.1 hl1).mono ?_
          rintro e w1 ⟨rfl, b'⟩
          have b1 := bel_next B0 b'
          obtain ⟨x0, x1, x2, x3, x4, x5⟩ := (X0.below b').six
          obtain ⟨y0, y1, y2, y3, y4, y5⟩ := (Y0.below b').six
          go_wp2_with fail
          refine (equal_bool_len _ _ _ _ _ _ _ hqi (by omega) HM.out.2).mono ?_
          rintro e w2 ⟨rfl, b2'⟩
          go_wp2
          go_ret
          exact ⟨rfl, bel_next b1 b2'⟩
      · have e : b = false := by rw [← hb]; simp [hw]
        subst e
        have hwi : ¬ (l1' : Int) = (l1 : Int) := by omega
        clear hb
        go_enter Tryz.func140, Tryz.ntmps140
        go_upto_region 1 with fail
        rw [← hW0.out]
        go_wp2_with fail
        refine (equal_int_len _ _ _ _ _ _ _ hwi (by omega) HM.out.1).mono ?_
        rintro e w1 ⟨rfl, b'⟩
        go_wp2
        go_ret
        exact ⟨rfl, bel_next B0 b'⟩
    · have e : b = false := by rw [← hb]; simp [hN]
      subst e
      subst hA
      clear hb
      go_enter Tryz.func140, Tryz.ntmps140
      go_upto_region 1 with fail
      rw [← hW0.out]
      go_wp2
      go_ret
      exact ⟨rfl, B0⟩
  · have e : b = false := by rw [← hb]; simp [hA]
    subst e
    clear hb
    go_enter Tryz.func140, Tryz.ntmps140
    go_upto_region 1 with fail
    rw [← hW0.out]
    go_wp2
    go_ret
    exact ⟨rfl, B0⟩
end Go.Proofs.YtmhdneenjoelfaaGreat
namespace Go.Proofs.YtmhdneenjoelfaaGreat
open Go.RowKit
set_option linter.unusedVariables false
set_option linter.unusedSimpArgs false
abbrev ansE (c : Int) : Value := .iface 142 (.agg #[.int .i64 c])
theorem slI_none {w : World} {a : Option Addr} {ws : List Int} (h : ws.length = 0) : SlI w a ws := .inl (List.eq_nil_of_length_eq_zero h)
theorem slB_none {w : World} {a : Option Addr} {bs : List Bool} (h : bs.length = 0) : SlB w a bs := .inl (List.eq_nil_of_length_eq_zero h)
def chk (kd : Int) (b : Bool) : Value := bif b then .nilIface else bif kindB kd then ansE 3 else ansE 1
set_option maxHeartbeats 4000000 in
theorem checkAnswer_no (kd fl pl nn : Int) (a1 a2 : Option Addr) (l1 l2 c1 c2 : Nat) (w : World) (hk : kindB kd = false) :
    Calls Tryz.prog 123 #[rp kd fl pl nn a1 a2 l1 l2 c1 c2] w fun e w' => e = .returned (ansE 1) ∧ Below w.heap.size w w' := by
  have B0 := bel_alloc w (.cells #[.int .i64 kd, .int .i64 fl, .int .i64 pl, .int .i64 nn, .slice a1 l1 c1, .slice a2 l2 c2] 37)
  go_enter Tryz.func123, Tryz.ntmps123
  go_wp2_with (go_at_call 138; refine (isKind_any _ _ _ hk).mono ?_; rintro e wx ⟨rfl, rfl⟩)
  go_ret
  exact ⟨rfl, B0⟩
set_option maxRecDepth 20000 in
set_option maxHeartbeats 8000000 in
theorem checkAnswer_f (kd fl pl nn : Int) (a1 a2 : Option Addr) (l1 l2 c1 c2 : Nat) (ws : List Int) (w : World) (h1 : l1 = ws.length) (s1 : SlI w a1 ws) (hl1 : ws.length ≤ 2000000) (hl2 : l2 ≤ 20000000) (hk : kindB kd = true) (hT : tB kd fl pl nn ws l1 l2 = false) :
    Calls Tryz.prog 123 #[rp kd fl pl nn a1 a2 l1 l2 c1 c2] w fun e w' => e = .returned (ansE 3) ∧ Below w.heap.size w w' := by
  have B0 := bel_alloc w (.cells #[.int .i64 kd, .int .i64 fl, .int .i64 pl, .int .i64 nn, .slice a1 l1 c1, .slice a2 l2 c2] 37)
  have X0 := Blk.new w #[.int .i64 kd, .int .i64 fl, .int .i64 pl, .int .i64 nn, .slice a1 l1 c1, .slice a2 l2 c2] 37
  have HS : Hid (SlI (w.alloc (.cells #[.int .i64 kd, .int .i64 fl, .int .i64 pl, .int .i64 nn, .slice a1 l1 c1, .slice a2 l2 c2] 37)) a1 ws) := s1.below B0
  have HL : Hid (l1 = ws.length) := h1
  have HT : Hid (tB kd fl pl nn ws l1 l2 = false) := hT
  obtain ⟨W0, hW0⟩ : ∃ W0, W0 = w.alloc (.cells #[.int .i64 kd, .int .i64 fl, .int .i64 pl, .int .i64 nn, .slice a1 l1 c1, .slice a2 l2 c2] 37) := ⟨_, rfl⟩
  rw [← hW0] at B0 X0 HS
  have HW : Hid (W0 = _) := hW0
  have d0 : Below W0.heap.size W0 W0.drew := (Below.refl _ _).drew
  obtain ⟨x0, x1, x2, x3, x4, x5⟩ := X0.six
  clear hW0 h1 s1 hT
  go_enter Tryz.func123, Tryz.ntmps123
  go_upto_region 1 with fail
  rw [← HW.out]
  go_upto_region 3 with (go_at_call 138; refine (isKind_any _ _ _ hk).mono ?_; rintro e wx ⟨rfl, rfl⟩)
  go_region_with (first
      | (go_at_call 139; refine (isTold_any kd fl pl nn a1 a2 l1 l2 c1 c2 ws _ HL.out (by first | exact HS.out | exact HS.out.below d0) hl1 hl2 hk _ HT.out).mono ?_; rintro e wA ⟨rfl, bA⟩; have BA := bel_next (w0 := w) (by first | exact B0 | exact B0.drew) bA; have XA := Blk.below (by first | exact X0 | exact X0.below d0) bA; obtain ⟨xa0, xa1, xa2, xa3, xa4, xa5⟩ := XA.six; clear bA))
  all_goals (go_wp2; go_ret; exact ⟨rfl, BA⟩)
set_option maxRecDepth 20000 in
set_option maxHeartbeats 8000000 in
theorem checkAnswer_if (kd fl pl nn : Int) (a1 a2 : Option Addr) (l1 l2 c1 c2 : Nat) (ws : List Int) (bs : List Bool) (w : World) (h1 : l1 = ws.length) (h2 : l2 = bs.length) (s1 : SlI w a1 ws) (s2 : SlB w a2 bs) (hl1 : ws.length ≤ 2000000) (hl2 : bs.length ≤ 2000000) (hk : kindB kd = true) (hT : tB kd fl pl nn ws l1 l2 = true)
    (pl' nn' : Int) (a1' a2' : Option Addr) (l1' l2' c1' c2' : Nat) (hm1 : l1' ≤ 2000000) (hm2 : l2' ≤ 2000000) (s1' : l1' = l1 → SlI w a1' ws) (s2' : l2' = l2 → SlB w a2' bs)
    (hnm : ∀ u, Calls Tryz.prog 141 #[rp kd fl pl nn a1 a2 l1 l2 c1 c2] u fun e u' => e = .returned (rp kd fl pl' nn' a1' a2' l1' l2' c1' c2') ∧ Below u.heap.size u u')
    (b : Bool) (hb : (decide (pl' = pl) && (decide (nn' = nn) && (decide (l1' = l1) && decide (l2' = l2)))) = b) :
    Calls Tryz.prog 123 #[rp kd fl pl nn a1 a2 l1 l2 c1 c2] w fun e w' => e = .returned (bif b then .nilIface else ansE 3) ∧ Below w.heap.size w w' := by
  have B0 := bel_alloc w (.cells #[.int .i64 kd, .int .i64 fl, .int .i64 pl, .int .i64 nn, .slice a1 l1 c1, .slice a2 l2 c2] 37)
  have X0 := Blk.new w #[.int .i64 kd, .int .i64 fl, .int .i64 pl, .int .i64 nn, .slice a1 l1 c1, .slice a2 l2 c2] 37
  have HS : Hid (SlI w a1 ws ∧ SlB w a2 bs) := ⟨s1, s2⟩
  have HS' : Hid ((l1' = l1 → SlI w a1' ws) ∧ (l2' = l2 → SlB w a2' bs)) := ⟨s1', s2'⟩
  have HL : Hid (l1 = ws.length ∧ l2 = bs.length) := ⟨h1, h2⟩
  have HT : Hid (tB kd fl pl nn ws l1 l2 = true) := hT
  have HNM : Hid (∀ u, Calls Tryz.prog 141 #[rp kd fl pl nn a1 a2 l1 l2 c1 c2] u fun e u' => e = .returned (rp kd fl pl' nn' a1' a2' l1' l2' c1' c2') ∧ Below u.heap.size u u') := hnm
  have HB : Hid ((decide (pl' = pl) && (decide (nn' = nn) && (decide (l1' = l1) && decide (l2' = l2)))) = b) := hb
  obtain ⟨W0, hW0⟩ : ∃ W0, W0 = w.alloc (.cells #[.int .i64 kd, .int .i64 fl, .int .i64 pl, .int .i64 nn, .slice a1 l1 c1, .slice a2 l2 c2] 37) := ⟨_, rfl⟩
  rw [← hW0] at B0 X0
  have HW : Hid (W0 = _) := hW0
  have d0 : Below W0.heap.size W0 W0.drew := (Below.refl _ _).drew
  have B0d : Below w.heap.size w W0.drew := B0.drew
  obtain ⟨x0, x1, x2, x3, x4, x5⟩ := X0.six
  clear hW0 h1 h2 s1 s2 s1' s2' hT hnm hb
  go_enter Tryz.func123, Tryz.ntmps123
  go_upto_region 1 with fail
  rw [← HW.out]
  go_upto_region 3 with (go_at_call 138; refine (isKind_any _ _ _ hk).mono ?_; rintro e wx ⟨rfl, rfl⟩)
  cases b
  all_goals (
    go_region_held3 (fun w' => w'.cell? ⟨w.heap.size, 0, none⟩ = some (.int .i64 kd) ∧ w'.cell? ⟨w.heap.size, 1, none⟩ = some (.int .i64 fl) ∧ w'.cell? ⟨w.heap.size, 2, none⟩ = some (.int .i64 pl) ∧ w'.cell? ⟨w.heap.size, 3, none⟩ = some (.int .i64 nn) ∧ w'.cell? ⟨w.heap.size, 4, none⟩ = some (.slice a1 l1 c1) ∧ w'.cell? ⟨w.heap.size, 5, none⟩ = some (.slice a2 l2 c2)) (go_keep)
      (first
        | (go_at_call 139; refine (isTold_any kd fl pl nn a1 a2 l1 l2 c1 c2 ws _ HL.out.1 (HS.out.1.below (by first | exact B0 | exact B0d)) hl1 (by have := HL.out; omega) hk _ HT.out).mono ?_; rintro e wA ⟨rfl, bA⟩; have BA := bel_next (w0 := w) (by first | exact B0 | exact B0d) bA; have XA := Blk.below (by first | exact X0 | exact X0.below d0) bA; obtain ⟨xa0, xa1, xa2, xa3, xa4, xa5⟩ := XA.six; clear bA)
        | (go_at_call 141; refine (HNM.out _).mono ?_; rintro e wB ⟨rfl, bB⟩; have BB := bel_next BA bB; have XB := XA.below bB; obtain ⟨xb0, xb1, xb2, xb3, xb4, xb5⟩ := XB.six; clear bB)
        | (go_at_call 140; refine (sameResp_any kd fl pl nn pl' nn' a1 a2 a1' a2' l1 l2 c1 c2 l1' l2' c1' c2' ws bs _ HL.out.1 HL.out.2 (HS.out.1.below BB) (HS.out.2.below BB) hl1 hl2 hm1 hm2 (fun h => (HS'.out.1 h).below BB) (fun h => (HS'.out.2 h).below BB) _ HB.out).mono ?_; rintro e wC ⟨rfl, bC⟩; have BC := bel_next BB bC; obtain ⟨xc0, xc1, xc2, xc3, xc4, xc5⟩ := (XB.below bC).six; clear bC))
    all_goals (go_wp2; go_ret; exact ⟨rfl, BC⟩))
theorem checkAnswer_q (kd fl pl nn : Int) (a1 a2 : Option Addr) (l1 l2 c1 c2 : Nat) (ws : List Int) (bs : List Bool) (w : World) (h1 : l1 = ws.length) (h2 : l2 = bs.length) (s1 : SlI w a1 ws) (s2 : SlB w a2 bs) (hl1 : ws.length ≤ 2000000) (hl2 : bs.length ≤ 2000000) :
    Calls Tryz.prog 123 #[rp kd fl pl nn a1 a2 l1 l2 c1 c2] w fun e w' => e = .returned (chk kd (okA kd fl pl nn ws l1 l2)) ∧ Below w.heap.size w w' := by
  cases hk : kindB kd
  · have e : chk kd (okA kd fl pl nn ws l1 l2) = ansE 1 := by simp [chk, okA, hk]
    rw [e]
    exact checkAnswer_no kd fl pl nn a1 a2 l1 l2 c1 c2 w hk
  · have e : chk kd (okA kd fl pl nn ws l1 l2) = (bif okA kd fl pl nn ws l1 l2 then .nilIface else ansE 3) := by simp [chk, hk]
    rw [e, okA_told kd fl pl nn ws l1 l2 h1 hk]
    clear e
    cases hT : tB kd fl pl nn ws l1 l2
    · exact checkAnswer_f kd fl pl nn a1 a2 l1 l2 c1 c2 ws w h1 s1 hl1 (by omega) hk hT
    · rw [Bool.true_and]
      by_cases h0 : fl = 0
      · subst h0
        obtain rfl | rfl | rfl | rfl | rfl | rfl | rfl | rfl | rfl | rfl := of_decide_eq_true hk
        · exact checkAnswer_if 1 0 pl nn a1 a2 l1 l2 c1 c2 ws bs w h1 h2 s1 s2 hl1 hl2 hk hT 0 0 none a2 0 l2 0 c2 (by omega) (by omega) (fun h => slI_none (h1.symm.trans h.symm)) (fun h => s2) (fun u => namedOf_1 pl nn a1 a2 l1 l2 c1 c2 u) _ (by simp [zrA, zr4, eq_comm])
        · exact checkAnswer_if 2 0 pl nn a1 a2 l1 l2 c1 c2 ws bs w h1 h2 s1 s2 hl1 hl2 hk hT 0 0 none a2 0 l2 0 c2 (by omega) (by omega) (fun h => slI_none (h1.symm.trans h.symm)) (fun h => s2) (fun u => namedOf_2 pl nn a1 a2 l1 l2 c1 c2 u) _ (by simp [zrA, zr4, eq_comm])
        · exact checkAnswer_if 3 0 pl nn a1 a2 l1 l2 c1 c2 ws bs w h1 h2 s1 s2 hl1 hl2 hk hT 0 0 a1 none l1 0 c1 0 (by omega) (by omega) (fun h => s1) (fun h => slB_none (h2.symm.trans h.symm)) (fun u => namedOf_3 pl nn a1 a2 l1 l2 c1 c2 u) _ (by simp [zrA, zr4, eq_comm])
        · exact checkAnswer_if 4 0 pl nn a1 a2 l1 l2 c1 c2 ws bs w h1 h2 s1 s2 hl1 hl2 hk hT 0 0 a1 none l1 0 c1 0 (by omega) (by omega) (fun h => s1) (fun h => slB_none (h2.symm.trans h.symm)) (fun u => namedOf_4 pl nn a1 a2 l1 l2 c1 c2 u) _ (by simp [zrA, zr4, eq_comm])
        · exact checkAnswer_if 5 0 pl nn a1 a2 l1 l2 c1 c2 ws bs w h1 h2 s1 s2 hl1 hl2 hk hT pl 0 none a2 0 l2 0 c2 (by omega) (by omega) (fun h => slI_none (h1.symm.trans h.symm)) (fun h => s2) (fun u => namedOf_5 pl nn a1 a2 l1 l2 c1 c2 u) _ (by simp [zrA, zr4, eq_comm])
        · exact checkAnswer_if 6 0 pl nn a1 a2 l1 l2 c1 c2 ws bs w h1 h2 s1 s2 hl1 hl2 hk hT pl 0 a1 none l1 0 c1 0 (by omega) (by omega) (fun h => s1) (fun h => slB_none (h2.symm.trans h.symm)) (fun u => namedOf_6 pl nn a1 a2 l1 l2 c1 c2 u) _ (by simp [zrA, zr4, eq_comm])
        · exact checkAnswer_if 15 0 pl nn a1 a2 l1 l2 c1 c2 ws bs w h1 h2 s1 s2 hl1 hl2 hk hT pl nn none none 0 0 0 0 (by omega) (by omega) (fun h => slI_none (h1.symm.trans h.symm)) (fun h => slB_none (h2.symm.trans h.symm)) (fun u => namedOf_15 pl nn a1 a2 l1 l2 c1 c2 u) _ (by simp [zrA, zr4, eq_comm])
        · exact checkAnswer_if 16 0 pl nn a1 a2 l1 l2 c1 c2 ws bs w h1 h2 s1 s2 hl1 hl2 hk hT pl nn none none 0 0 0 0 (by omega) (by omega) (fun h => slI_none (h1.symm.trans h.symm)) (fun h => slB_none (h2.symm.trans h.symm)) (fun u => namedOf_16 pl nn a1 a2 l1 l2 c1 c2 u) _ (by simp [zrA, zr4, eq_comm])
        · exact checkAnswer_if 22 0 pl nn a1 a2 l1 l2 c1 c2 ws bs w h1 h2 s1 s2 hl1 hl2 hk hT pl 0 a1 none l1 0 c1 0 (by omega) (by omega) (fun h => s1) (fun h => slB_none (h2.symm.trans h.symm)) (fun u => namedOf_22 pl nn a1 a2 l1 l2 c1 c2 u) _ (by simp [zrA, zr4, eq_comm])
        · exact checkAnswer_if 23 0 pl nn a1 a2 l1 l2 c1 c2 ws bs w h1 h2 s1 s2 hl1 hl2 hk hT 0 0 a1 none l1 0 c1 0 (by omega) (by omega) (fun h => s1) (fun h => slB_none (h2.symm.trans h.symm)) (fun u => namedOf_23 pl nn a1 a2 l1 l2 c1 c2 u) _ (by simp [zrA, zr4, eq_comm])
      · exact checkAnswer_if kd fl pl nn a1 a2 l1 l2 c1 c2 ws bs w h1 h2 s1 s2 hl1 hl2 hk hT 0 0 none none 0 0 0 0 (by omega) (by omega) (fun h => slI_none (h1.symm.trans h.symm)) (fun h => slB_none (h2.symm.trans h.symm)) (fun u => namedOf_f kd fl pl nn a1 a2 l1 l2 c1 c2 u h0) _ (by simp [zrA, zr4, eq_comm, h0])
theorem eql_if (T : TypeId) (v : Value) (w : World) : (binOp .eql 132 (.iface T v) .nilIface).run Tryz.prog w = .ok (.bool false) w := by kernel_rfl
theorem eql_nil (w : World) : (binOp .eql 132 .nilIface .nilIface).run Tryz.prog w = .ok (.bool true) w := by kernel_rfl
set_option maxHeartbeats 4000000 in
theorem implRespOk_q (kd fl pl nn : Int) (a1 a2 : Option Addr) (l1 l2 c1 c2 : Nat) (ws : List Int) (bs : List Bool) (w : World) (h1 : l1 = ws.length) (h2 : l2 = bs.length) (s1 : SlI w a1 ws) (s2 : SlB w a2 bs) (hl1 : ws.length ≤ 2000000) (hl2 : bs.length ≤ 2000000) :
    Calls Tryz.prog 94 #[rp kd fl pl nn a1 a2 l1 l2 c1 c2] w fun e w' => e = .returned (.bool (okA kd fl pl nn ws l1 l2)) ∧ Below w.heap.size w w' := by
  have B0 := bel_alloc w (.cells #[.int .i64 kd, .int .i64 fl, .int .i64 pl, .int .i64 nn, .slice a1 l1 c1, .slice a2 l2 c2] 37)
  have X0 := Blk.new w #[.int .i64 kd, .int .i64 fl, .int .i64 pl, .int .i64 nn, .slice a1 l1 c1, .slice a2 l2 c2] 37
  have HS : Hid (SlI w a1 ws ∧ SlB w a2 bs) := ⟨s1, s2⟩
  have HL : Hid (l1 = ws.length ∧ l2 = bs.length) := ⟨h1, h2⟩
  obtain ⟨x0, x1, x2, x3, x4, x5⟩ := X0.six
  clear h1 h2 s1 s2 X0
  have q1 := eql_if
  have q2 := eql_nil
  go_enter Tryz.func94, Tryz.ntmps94
  go_wp2_with fail
  refine (checkAnswer_q kd fl pl nn a1 a2 l1 l2 c1 c2 ws bs _ HL.out.1 HL.out.2 (HS.out.1.below B0) (HS.out.2.below B0) hl1 hl2).mono ?_
  rintro e w1 ⟨rfl, b'⟩
  have B1 := bel_next B0 b'
  clear b' B0
  cases hok : okA kd fl pl nn ws l1 l2
  · cases hk : kindB kd
    · simp only [chk, hk, cond_false, cond_true]
      go_wp2
      go_ret
      exact ⟨by rw [hok]; rfl, B1⟩
    · simp only [chk, hk, cond_false, cond_true]
      go_wp2
      go_ret
      exact ⟨by rw [hok]; rfl, B1⟩
  · simp only [chk, cond_true]
    go_wp2
    go_ret
    exact ⟨by rw [hok]; rfl, B1⟩
end Go.Proofs.YtmhdneenjoelfaaGreat
