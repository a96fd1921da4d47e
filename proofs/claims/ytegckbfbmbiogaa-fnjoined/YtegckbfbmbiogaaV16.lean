/- Texts that the proof needs, joined: P4. -/
import Derived.Test.YtegckbfbmbiogaaV15
import Derived.Test.YtegckbfbmbiogaaV8
namespace Go.Proofs.Ytegckbfbmbiogaa
open Go.RowKit
set_option linter.unusedVariables false
set_option linter.unusedSimpArgs false
set_option maxHeartbeats 4000000 in
theorem namedOf_1 (pl nn : Int) (a1 a2 : Option Addr) (l1 l2 c1 c2 : Nat) (w : World) :
    Calls Try.prog 128 #[rp 1 0 pl nn a1 a2 l1 l2 c1 c2] w fun e w' => e = .returned (rp 1 0 0 0 none a2 0 l2 0 c2) ∧ Below w.heap.size w w' := by
  obtain ⟨W0, hW0⟩ : ∃ W0, W0 = (w.alloc (.cells #[.int .i64 1, .int .i64 0, .int .i64 pl, .int .i64 nn, .slice a1 l1 c1, .slice a2 l2 c2] 49)).alloc (.cells #[.int .i64 0, .int .i64 0, .int .i64 0, .int .i64 0, .slice none 0 0, .slice none 0 0] 49) := ⟨_, rfl⟩
  have HW : Hid (W0 = _) := hW0
  have B0 : Below w.heap.size w W0 := by rw [hW0]; exact bel_next (bel_alloc w _) (bel_alloc _ _)
  have X0 : Blk W0 w.heap.size 49 #[.int .i64 1, .int .i64 0, .int .i64 pl, .int .i64 nn, .slice a1 l1 c1, .slice a2 l2 c2] := by rw [hW0]; exact (Blk.new w _ _).below (bel_alloc _ _)
  have R0 : Blk W0 (w.heap.size + 1) 49 #[.int .i64 0, .int .i64 0, .int .i64 0, .int .i64 0, .slice none 0 0, .slice none 0 0] := by
    rw [hW0]; have := Blk.new (w.alloc (.cells #[.int .i64 1, .int .i64 0, .int .i64 pl, .int .i64 nn, .slice a1 l1 c1, .slice a2 l2 c2] 49)) #[.int .i64 0, .int .i64 0, .int .i64 0, .int .i64 0, .slice none 0 0, .slice none 0 0] 49; simpa using this
  obtain ⟨x0, x1, x2, x3, x4, x5⟩ := X0.six
  obtain ⟨y0, y1, y2, y3, y4, y5⟩ := R0.six
  have fy := R0.fro
  clear hW0 X0 R0
  go_enter Try.func128, Try.ntmps128
  go_upto_region 1 with fail
  rw [← HW.out]
  go_wp2
  refine bodyPost_ret (v := rp 1 0 0 0 none a2 0 l2 0 c2) (by simp [results, Try.results128, go_sem, y0, y1, y2, y3, y4, y5]) rfl ?_
  exact ⟨rfl, belp_set6 B0 (Nat.le_succ _)⟩
set_option maxHeartbeats 4000000 in
theorem namedOf_2 (pl nn : Int) (a1 a2 : Option Addr) (l1 l2 c1 c2 : Nat) (w : World) :
    Calls Try.prog 128 #[rp 2 0 pl nn a1 a2 l1 l2 c1 c2] w fun e w' => e = .returned (rp 2 0 0 0 none a2 0 l2 0 c2) ∧ Below w.heap.size w w' := by
  obtain ⟨W0, hW0⟩ : ∃ W0, W0 = (w.alloc (.cells #[.int .i64 2, .int .i64 0, .int .i64 pl, .int .i64 nn, .slice a1 l1 c1, .slice a2 l2 c2] 49)).alloc (.cells #[.int .i64 0, .int .i64 0, .int .i64 0, .int .i64 0, .slice none 0 0, .slice none 0 0] 49) := ⟨_, rfl⟩
  have HW : Hid (W0 = _) := hW0
  have B0 : Below w.heap.size w W0 := by rw [hW0]; exact bel_next (bel_alloc w _) (bel_alloc _ _)
  have X0 : Blk W0 w.heap.size 49 #[.int .i64 2, .int .i64 0, .int .i64 pl, .int .i64 nn, .slice a1 l1 c1, .slice a2 l2 c2] := by rw [hW0]; exact (Blk.new w _ _).below (bel_alloc _ _)
  have R0 : Blk W0 (w.heap.size + 1) 49 #[.int .i64 0, .int .i64 0, .int .i64 0, .int .i64 0, .slice none 0 0, .slice none 0 0] := by
    rw [hW0]; have := Blk.new (w.alloc (.cells #[.int .i64 2, .int .i64 0, .int .i64 pl, .int .i64 nn, .slice a1 l1 c1, .slice a2 l2 c2] 49)) #[.int .i64 0, .int .i64 0, .int .i64 0, .int .i64 0, .slice none 0 0, .slice none 0 0] 49; simpa using this
  obtain ⟨x0, x1, x2, x3, x4, x5⟩ := X0.six
  obtain ⟨y0, y1, y2, y3, y4, y5⟩ := R0.six
  have fy := R0.fro
  clear hW0 X0 R0
  go_enter Try.func128, Try.ntmps128
  go_upto_region 1 with fail
  rw [← HW.out]
  go_wp2
  refine bodyPost_ret (v := rp 2 0 0 0 none a2 0 l2 0 c2) (by simp [results, Try.results128, go_sem, y0, y1, y2, y3, y4, y5]) rfl ?_
  exact ⟨rfl, belp_set6 B0 (Nat.le_succ _)⟩
set_option maxHeartbeats 4000000 in
theorem namedOf_3 (pl nn : Int) (a1 a2 : Option Addr) (l1 l2 c1 c2 : Nat) (w : World) :
    Calls Try.prog 128 #[rp 3 0 pl nn a1 a2 l1 l2 c1 c2] w fun e w' => e = .returned (rp 3 0 0 0 a1 none l1 0 c1 0) ∧ Below w.heap.size w w' := by
  obtain ⟨W0, hW0⟩ : ∃ W0, W0 = (w.alloc (.cells #[.int .i64 3, .int .i64 0, .int .i64 pl, .int .i64 nn, .slice a1 l1 c1, .slice a2 l2 c2] 49)).alloc (.cells #[.int .i64 0, .int .i64 0, .int .i64 0, .int .i64 0, .slice none 0 0, .slice none 0 0] 49) := ⟨_, rfl⟩
  have HW : Hid (W0 = _) := hW0
  have B0 : Below w.heap.size w W0 := by rw [hW0]; exact bel_next (bel_alloc w _) (bel_alloc _ _)
  have X0 : Blk W0 w.heap.size 49 #[.int .i64 3, .int .i64 0, .int .i64 pl, .int .i64 nn, .slice a1 l1 c1, .slice a2 l2 c2] := by rw [hW0]; exact (Blk.new w _ _).below (bel_alloc _ _)
  have R0 : Blk W0 (w.heap.size + 1) 49 #[.int .i64 0, .int .i64 0, .int .i64 0, .int .i64 0, .slice none 0 0, .slice none 0 0] := by
    rw [hW0]; have := Blk.new (w.alloc (.cells #[.int .i64 3, .int .i64 0, .int .i64 pl, .int .i64 nn, .slice a1 l1 c1, .slice a2 l2 c2] 49)) #[.int .i64 0, .int .i64 0, .int .i64 0, .int .i64 0, .slice none 0 0, .slice none 0 0] 49; simpa using this
  obtain ⟨x0, x1, x2, x3, x4, x5⟩ := X0.six
  obtain ⟨y0, y1, y2, y3, y4, y5⟩ := R0.six
  have fy := R0.fro
  clear hW0 X0 R0
  go_enter Try.func128, Try.ntmps128
  go_upto_region 1 with fail
  rw [← HW.out]
  go_wp2
  refine bodyPost_ret (v := rp 3 0 0 0 a1 none l1 0 c1 0) (by simp [results, Try.results128, go_sem, y0, y1, y2, y3, y4, y5]) rfl ?_
  exact ⟨rfl, belp_set6 B0 (Nat.le_succ _)⟩
set_option maxHeartbeats 4000000 in
theorem namedOf_4 (pl nn : Int) (a1 a2 : Option Addr) (l1 l2 c1 c2 : Nat) (w : World) :
    Calls Try.prog 128 #[rp 4 0 pl nn a1 a2 l1 l2 c1 c2] w fun e w' => e = .returned (rp 4 0 0 0 a1 none l1 0 c1 0) ∧ Below w.heap.size w w' := by
  obtain ⟨W0, hW0⟩ : ∃ W0, W0 = (w.alloc (.cells #[.int .i64 4, .int .i64 0, .int .i64 pl, .int .i64 nn, .slice a1 l1 c1, .slice a2 l2 c2] 49)).alloc (.cells #[.int .i64 0, .int .i64 0, .int .i64 0, .int .i64 0, .slice none 0 0, .slice none 0 0] 49) := ⟨_, rfl⟩
  have HW : Hid (W0 = _) := hW0
  have B0 : Below w.heap.size w W0 := by rw [hW0]; exact bel_next (bel_alloc w _) (bel_alloc _ _)
  have X0 : Blk W0 w.heap.size 49 #[.int .i64 4, .int .i64 0, .int .i64 pl, .int .i64 nn, .slice a1 l1 c1, .slice a2 l2 c2] := by rw [hW0]; exact (Blk.new w _ _).below (bel_alloc _ _)
  have R0 : Blk W0 (w.heap.size + 1) 49 #[.int .i64 0, .int .i64 0, .int .i64 0, .int .i64 0, .slice none 0 0, .slice none 0 0] := by
    rw [hW0]; have := Blk.new (w.alloc (.cells #[.int .i64 4, .int .i64 0, .int .i64 pl, .int .i64 nn, .slice a1 l1 c1, .slice a2 l2 c2] 49)) #[.int .i64 0, .int .i64 0, .int .i64 0, .int .i64 0, .slice none 0 0, .slice none 0 0] 49; simpa using this
  obtain ⟨x0, x1, x2, x3, x4, x5⟩ := X0.six
  obtain ⟨y0, y1, y2, y3, y4, y5⟩ := R0.six
  have fy := R0.fro
  clear hW0 X0 R0
  go_enter Try.func128, Try.ntmps128
  go_upto_region 1 with fail
  rw [← HW.out]
  go_wp2
  refine bodyPost_ret (v := rp 4 0 0 0 a1 none l1 0 c1 0) (by simp [results, Try.results128, go_sem, y0, y1, y2, y3, y4, y5]) rfl ?_
  exact ⟨rfl, belp_set6 B0 (Nat.le_succ _)⟩
set_option maxHeartbeats 4000000 in
theorem namedOf_23 (pl nn : Int) (a1 a2 : Option Addr) (l1 l2 c1 c2 : Nat) (w : World) :
    Calls Try.prog 128 #[rp 23 0 pl nn a1 a2 l1 l2 c1 c2] w fun e w' => e = .returned (rp 23 0 0 0 a1 none l1 0 c1 0) ∧ Below w.heap.size w w' := by
  obtain ⟨W0, hW0⟩ : ∃ W0, W0 = (w.alloc (.cells #[.int .i64 23, .int .i64 0, .int .i64 pl, .int .i64 nn, .slice a1 l1 c1, .slice a2 l2 c2] 49)).alloc (.cells #[.int .i64 0, .int .i64 0, .int .i64 0, .int .i64 0, .slice none 0 0, .slice none 0 0] 49) := ⟨_, rfl⟩
  have HW : Hid (W0 = _) := hW0
  have B0 : Below w.heap.size w W0 := by rw [hW0]; exact bel_next (bel_alloc w _) (bel_alloc _ _)
  have X0 : Blk W0 w.heap.size 49 #[.int .i64 23, .int .i64 0, .int .i64 pl, .int .i64 nn, .slice a1 l1 c1, .slice a2 l2 c2] := by rw [hW0]; exact (Blk.new w _ _).below (bel_alloc _ _)
  have R0 : Blk W0 (w.heap.size + 1) 49 #[.int .i64 0, .int .i64 0, .int .i64 0, .int .i64 0, .slice none 0 0, .slice none 0 0] := by
    rw [hW0]; have := Blk.new (w.alloc (.cells #[.int .i64 23, .int .i64 0, .int .i64 pl, .int .i64 nn, .slice a1 l1 c1, .slice a2 l2 c2] 49)) #[.int .i64 0, .int .i64 0, .int .i64 0, .int .i64 0, .slice none 0 0, .slice none 0 0] 49; simpa using this
  obtain ⟨x0, x1, x2, x3, x4, x5⟩ := X0.six
  obtain ⟨y0, y1, y2, y3, y4, y5⟩ := R0.six
  have fy := R0.fro
  clear hW0 X0 R0
  go_enter Try.func128, Try.ntmps128
  go_upto_region 1 with fail
  rw [← HW.out]
  go_wp2
  refine bodyPost_ret (v := rp 23 0 0 0 a1 none l1 0 c1 0) (by simp [results, Try.results128, go_sem, y0, y1, y2, y3, y4, y5]) rfl ?_
  exact ⟨rfl, belp_set6 B0 (Nat.le_succ _)⟩
set_option maxHeartbeats 4000000 in
theorem namedOf_5 (pl nn : Int) (a1 a2 : Option Addr) (l1 l2 c1 c2 : Nat) (w : World) :
    Calls Try.prog 128 #[rp 5 0 pl nn a1 a2 l1 l2 c1 c2] w fun e w' => e = .returned (rp 5 0 pl 0 none a2 0 l2 0 c2) ∧ Below w.heap.size w w' := by
  obtain ⟨W0, hW0⟩ : ∃ W0, W0 = (w.alloc (.cells #[.int .i64 5, .int .i64 0, .int .i64 pl, .int .i64 nn, .slice a1 l1 c1, .slice a2 l2 c2] 49)).alloc (.cells #[.int .i64 0, .int .i64 0, .int .i64 0, .int .i64 0, .slice none 0 0, .slice none 0 0] 49) := ⟨_, rfl⟩
  have HW : Hid (W0 = _) := hW0
  have B0 : Below w.heap.size w W0 := by rw [hW0]; exact bel_next (bel_alloc w _) (bel_alloc _ _)
  have X0 : Blk W0 w.heap.size 49 #[.int .i64 5, .int .i64 0, .int .i64 pl, .int .i64 nn, .slice a1 l1 c1, .slice a2 l2 c2] := by rw [hW0]; exact (Blk.new w _ _).below (bel_alloc _ _)
  have R0 : Blk W0 (w.heap.size + 1) 49 #[.int .i64 0, .int .i64 0, .int .i64 0, .int .i64 0, .slice none 0 0, .slice none 0 0] := by
    rw [hW0]; have := Blk.new (w.alloc (.cells #[.int .i64 5, .int .i64 0, .int .i64 pl, .int .i64 nn, .slice a1 l1 c1, .slice a2 l2 c2] 49)) #[.int .i64 0, .int .i64 0, .int .i64 0, .int .i64 0, .slice none 0 0, .slice none 0 0] 49; simpa using this
  obtain ⟨x0, x1, x2, x3, x4, x5⟩ := X0.six
  obtain ⟨y0, y1, y2, y3, y4, y5⟩ := R0.six
  have fy := R0.fro
  clear hW0 X0 R0
  go_enter Try.func128, Try.ntmps128
  go_upto_region 1 with fail
  rw [← HW.out]
  go_wp2
  refine bodyPost_ret (v := rp 5 0 pl 0 none a2 0 l2 0 c2) (by simp [results, Try.results128, go_sem, y0, y1, y2, y3, y4, y5]) rfl ?_
  exact ⟨rfl, belp_set6 B0 (Nat.le_succ _)⟩
set_option maxHeartbeats 4000000 in
theorem namedOf_6 (pl nn : Int) (a1 a2 : Option Addr) (l1 l2 c1 c2 : Nat) (w : World) :
    Calls Try.prog 128 #[rp 6 0 pl nn a1 a2 l1 l2 c1 c2] w fun e w' => e = .returned (rp 6 0 pl 0 a1 none l1 0 c1 0) ∧ Below w.heap.size w w' := by
  obtain ⟨W0, hW0⟩ : ∃ W0, W0 = (w.alloc (.cells #[.int .i64 6, .int .i64 0, .int .i64 pl, .int .i64 nn, .slice a1 l1 c1, .slice a2 l2 c2] 49)).alloc (.cells #[.int .i64 0, .int .i64 0, .int .i64 0, .int .i64 0, .slice none 0 0, .slice none 0 0] 49) := ⟨_, rfl⟩
  have HW : Hid (W0 = _) := hW0
  have B0 : Below w.heap.size w W0 := by rw [hW0]; exact bel_next (bel_alloc w _) (bel_alloc _ _)
  have X0 : Blk W0 w.heap.size 49 #[.int .i64 6, .int .i64 0, .int .i64 pl, .int .i64 nn, .slice a1 l1 c1, .slice a2 l2 c2] := by rw [hW0]; exact (Blk.new w _ _).below (bel_alloc _ _)
  have R0 : Blk W0 (w.heap.size + 1) 49 #[.int .i64 0, .int .i64 0, .int .i64 0, .int .i64 0, .slice none 0 0, .slice none 0 0] := by
    rw [hW0]; have := Blk.new (w.alloc (.cells #[.int .i64 6, .int .i64 0, .int .i64 pl, .int .i64 nn, .slice a1 l1 c1, .slice a2 l2 c2] 49)) #[.int .i64 0, .int .i64 0, .int .i64 0, .int .i64 0, .slice none 0 0, .slice none 0 0] 49; simpa using this
  obtain ⟨x0, x1, x2, x3, x4, x5⟩ := X0.six
  obtain ⟨y0, y1, y2, y3, y4, y5⟩ := R0.six
  have fy := R0.fro
  clear hW0 X0 R0
  go_enter Try.func128, Try.ntmps128
  go_upto_region 1 with fail
  rw [← HW.out]
  go_wp2
  refine bodyPost_ret (v := rp 6 0 pl 0 a1 none l1 0 c1 0) (by simp [results, Try.results128, go_sem, y0, y1, y2, y3, y4, y5]) rfl ?_
  exact ⟨rfl, belp_set6 B0 (Nat.le_succ _)⟩
set_option maxHeartbeats 4000000 in
theorem namedOf_22 (pl nn : Int) (a1 a2 : Option Addr) (l1 l2 c1 c2 : Nat) (w : World) :
    Calls Try.prog 128 #[rp 22 0 pl nn a1 a2 l1 l2 c1 c2] w fun e w' => e = .returned (rp 22 0 pl 0 a1 none l1 0 c1 0) ∧ Below w.heap.size w w' := by
  obtain ⟨W0, hW0⟩ : ∃ W0, W0 = (w.alloc (.cells #[.int .i64 22, .int .i64 0, .int .i64 pl, .int .i64 nn, .slice a1 l1 c1, .slice a2 l2 c2] 49)).alloc (.cells #[.int .i64 0, .int .i64 0, .int .i64 0, .int .i64 0, .slice none 0 0, .slice none 0 0] 49) := ⟨_, rfl⟩
  have HW : Hid (W0 = _) := hW0
  have B0 : Below w.heap.size w W0 := by rw [hW0]; exact bel_next (bel_alloc w _) (bel_alloc _ _)
  have X0 : Blk W0 w.heap.size 49 #[.int .i64 22, .int .i64 0, .int .i64 pl, .int .i64 nn, .slice a1 l1 c1, .slice a2 l2 c2] := by rw [hW0]; exact (Blk.new w _ _).below (bel_alloc _ _)
  have R0 : Blk W0 (w.heap.size + 1) 49 #[.int .i64 0, .int .i64 0, .int .i64 0, .int .i64 0, .slice none 0 0, .slice none 0 0] := by
    rw [hW0]; have := Blk.new (w.alloc (.cells #[.int .i64 22, .int .i64 0, .int .i64 pl, .int .i64 nn, .slice a1 l1 c1, .slice a2 l2 c2] 49)) #[.int .i64 0, .int .i64 0, .int .i64 0, .int .i64 0, .slice none 0 0, .slice none 0 0] 49; simpa using this
  obtain ⟨x0, x1, x2, x3, x4, x5⟩ := X0.six
  obtain ⟨y0, y1, y2, y3, y4, y5⟩ := R0.six
  have fy := R0.fro
  clear hW0 X0 R0
  go_enter Try.func128, Try.ntmps128
  go_upto_region 1 with fail
  rw [← HW.out]
  go_wp2
  refine bodyPost_ret (v := rp 22 0 pl 0 a1 none l1 0 c1 0) (by simp [results, Try.results128, go_sem, y0, y1, y2, y3, y4, y5]) rfl ?_
  exact ⟨rfl, belp_set6 B0 (Nat.le_succ _)⟩
set_option maxHeartbeats 4000000 in
theorem namedOf_15 (pl nn : Int) (a1 a2 : Option Addr) (l1 l2 c1 c2 : Nat) (w : World) :
    Calls Try.prog 128 #[rp 15 0 pl nn a1 a2 l1 l2 c1 c2] w fun e w' => e = .returned (rp 15 0 pl nn none none 0 0 0 0) ∧ Below w.heap.size w w' := by
  obtain ⟨W0, hW0⟩ : ∃ W0, W0 = (w.alloc (.cells #[.int .i64 15, .int .i64 0, .int .i64 pl, .int .i64 nn, .slice a1 l1 c1, .slice a2 l2 c2] 49)).alloc (.cells #[.int .i64 0, .int .i64 0, .int .i64 0, .int .i64 0, .slice none 0 0, .slice none 0 0] 49) := ⟨_, rfl⟩
  have HW : Hid (W0 = _) := hW0
  have B0 : Below w.heap.size w W0 := by rw [hW0]; exact bel_next (bel_alloc w _) (bel_alloc _ _)
  have X0 : Blk W0 w.heap.size 49 #[.int .i64 15, .int .i64 0, .int .i64 pl, .int .i64 nn, .slice a1 l1 c1, .slice a2 l2 c2] := by rw [hW0]; exact (Blk.new w _ _).below (bel_alloc _ _)
  have R0 : Blk W0 (w.heap.size + 1) 49 #[.int .i64 0, .int .i64 0, .int .i64 0, .int .i64 0, .slice none 0 0, .slice none 0 0] := by
    rw [hW0]; have := Blk.new (w.alloc (.cells #[.int .i64 15, .int .i64 0, .int .i64 pl, .int .i64 nn, .slice a1 l1 c1, .slice a2 l2 c2] 49)) #[.int .i64 0, .int .i64 0, .int .i64 0, .int .i64 0, .slice none 0 0, .slice none 0 0] 49; simpa using this
  obtain ⟨x0, x1, x2, x3, x4, x5⟩ := X0.six
  obtain ⟨y0, y1, y2, y3, y4, y5⟩ := R0.six
  have fy := R0.fro
  clear hW0 X0 R0
  go_enter Try.func128, Try.ntmps128
  go_upto_region 1 with fail
  rw [← HW.out]
  go_wp2
  refine bodyPost_ret (v := rp 15 0 pl nn none none 0 0 0 0) (by simp [results, Try.results128, go_sem, y0, y1, y2, y3, y4, y5]) rfl ?_
  exact ⟨rfl, belp_set6 B0 (Nat.le_succ _)⟩
set_option maxHeartbeats 4000000 in
theorem namedOf_16 (pl nn : Int) (a1 a2 : Option Addr) (l1 l2 c1 c2 : Nat) (w : World) :
    Calls Try.prog 128 #[rp 16 0 pl nn a1 a2 l1 l2 c1 c2] w fun e w' => e = .returned (rp 16 0 pl nn none none 0 0 0 0) ∧ Below w.heap.size w w' := by
  obtain ⟨W0, hW0⟩ : ∃ W0, W0 = (w.alloc (.cells #[.int .i64 16, .int .i64 0, .int .i64 pl, .int .i64 nn, .slice a1 l1 c1, .slice a2 l2 c2] 49)).alloc (.cells #[.int .i64 0, .int .i64 0, .int .i64 0, .int .i64 0, .slice none 0 0, .slice none 0 0] 49) := ⟨_, rfl⟩
  have HW : Hid (W0 = _) := hW0
  have B0 : Below w.heap.size w W0 := by rw [hW0]; exact bel_next (bel_alloc w _) (bel_alloc _ _)
  have X0 : Blk W0 w.heap.size 49 #[.int .i64 16, .int .i64 0, .int .i64 pl, .int .i64 nn, .slice a1 l1 c1, .slice a2 l2 c2] := by rw [hW0]; exact (Blk.new w _ _).below (bel_alloc _ _)
  have R0 : Blk W0 (w.heap.size + 1) 49 #[.int .i64 0, .int .i64 0, .int .i64 0, .int .i64 0, .slice none 0 0, .slice none 0 0] := by
    rw [hW0]; have := Blk.new (w.alloc (.cells #[.int .i64 16, .int .i64 0, .int .i64 pl, .int .i64 nn, .slice a1 l1 c1, .slice a2 l2 c2] 49)) #[.int .i64 0, .int .i64 0, .int .i64 0, .int .i64 0, .slice none 0 0, .slice none 0 0] 49; simpa using this
  obtain ⟨x0, x1, x2, x3, x4, x5⟩ := X0.six
  obtain ⟨y0, y1, y2, y3, y4, y5⟩ := R0.six
  have fy := R0.fro
  clear hW0 X0 R0
  go_enter Try.func128, Try.ntmps128
  go_upto_region 1 with fail
  rw [← HW.out]
  go_wp2
  refine bodyPost_ret (v := rp 16 0 pl nn none none 0 0 0 0) (by simp [results, Try.results128, go_sem, y0, y1, y2, y3, y4, y5]) rfl ?_
  exact ⟨rfl, belp_set6 B0 (Nat.le_succ _)⟩
set_option maxHeartbeats 4000000 in
theorem namedOf_f (kd fl pl nn : Int) (a1 a2 : Option Addr) (l1 l2 c1 c2 : Nat) (w : World) (h0 : ¬ fl = 0) :
    Calls Try.prog 128 #[rp kd fl pl nn a1 a2 l1 l2 c1 c2] w fun e w' => e = .returned (rp kd fl 0 0 none none 0 0 0 0) ∧ Below w.heap.size w w' := by
  obtain ⟨W0, hW0⟩ : ∃ W0, W0 = (w.alloc (.cells #[.int .i64 kd, .int .i64 fl, .int .i64 pl, .int .i64 nn, .slice a1 l1 c1, .slice a2 l2 c2] 49)).alloc (.cells #[.int .i64 0, .int .i64 0, .int .i64 0, .int .i64 0, .slice none 0 0, .slice none 0 0] 49) := ⟨_, rfl⟩
  have HW : Hid (W0 = _) := hW0
  have B0 : Below w.heap.size w W0 := by rw [hW0]; exact bel_next (bel_alloc w _) (bel_alloc _ _)
  have X0 : Blk W0 w.heap.size 49 #[.int .i64 kd, .int .i64 fl, .int .i64 pl, .int .i64 nn, .slice a1 l1 c1, .slice a2 l2 c2] := by rw [hW0]; exact (Blk.new w _ _).below (bel_alloc _ _)
  have R0 : Blk W0 (w.heap.size + 1) 49 #[.int .i64 0, .int .i64 0, .int .i64 0, .int .i64 0, .slice none 0 0, .slice none 0 0] := by
    rw [hW0]; have := Blk.new (w.alloc (.cells #[.int .i64 kd, .int .i64 fl, .int .i64 pl, .int .i64 nn, .slice a1 l1 c1, .slice a2 l2 c2] 49)) #[.int .i64 0, .int .i64 0, .int .i64 0, .int .i64 0, .slice none 0 0, .slice none 0 0] 49; simpa using this
  obtain ⟨x0, x1, x2, x3, x4, x5⟩ := X0.six
  obtain ⟨y0, y1, y2, y3, y4, y5⟩ := R0.six
  have fy := R0.fro
  clear hW0 X0 R0
  go_enter Try.func128, Try.ntmps128
  go_upto_region 1 with fail
  rw [← HW.out]
  go_wp2
  refine bodyPost_ret (v := rp kd fl 0 0 none none 0 0 0 0) (by simp [results, Try.results128, go_sem, y0, y1, y2, y3, y4, y5]) rfl ?_
  exact ⟨rfl, belp_set6 B0 (Nat.le_succ _)⟩
set_option maxHeartbeats 4000000 in
theorem sameResp_any (kd fl pl nn pl' nn' : Int) (a1 a2 a1' a2' : Option Addr) (l1 l2 c1 c2 l1' l2' c1' c2' : Nat) (ws : List Int) (bs : List Bool) (w : World) (h1 : l1 = ws.length) (h2 : l2 = bs.length) (s1 : SlI w a1 ws) (s2 : SlB w a2 bs) (hl1 : ws.length ≤ 2000000) (hl2 : bs.length ≤ 2000000) (hm1 : l1' ≤ 2000000) (hm2 : l2' ≤ 2000000)
    (s1' : l1' = l1 → SlI w a1' ws) (s2' : l2' = l2 → SlB w a2' bs) (b : Bool) (hb : (decide (pl' = pl) && (decide (nn' = nn) && (decide (l1' = l1) && decide (l2' = l2)))) = b) :
    Calls Try.prog 127 #[rp kd fl pl' nn' a1' a2' l1' l2' c1' c2', rp kd fl pl nn a1 a2 l1 l2 c1 c2] w fun e w' => e = .returned (.bool b) ∧ Below w.heap.size w w' := by
  obtain ⟨W0, hW0'⟩ : ∃ W0, W0 = (w.alloc (.cells #[.int .i64 kd, .int .i64 fl, .int .i64 pl', .int .i64 nn', .slice a1' l1' c1', .slice a2' l2' c2'] 49)).alloc (.cells #[.int .i64 kd, .int .i64 fl, .int .i64 pl, .int .i64 nn, .slice a1 l1 c1, .slice a2 l2 c2] 49) := ⟨_, rfl⟩
  have hW0 : Hid (W0 = _) := hW0'
  have B0 : Below w.heap.size w W0 := by rw [hW0']; exact bel_next (bel_alloc w _) (bel_alloc _ _)
  have X0 : Blk W0 w.heap.size 49 #[.int .i64 kd, .int .i64 fl, .int .i64 pl', .int .i64 nn', .slice a1' l1' c1', .slice a2' l2' c2'] := by rw [hW0']; exact (Blk.new w _ _).below (bel_alloc _ _)
  have Y0 : Blk W0 (w.heap.size + 1) 49 #[.int .i64 kd, .int .i64 fl, .int .i64 pl, .int .i64 nn, .slice a1 l1 c1, .slice a2 l2 c2] := by
    rw [hW0']; have := Blk.new (w.alloc (.cells #[.int .i64 kd, .int .i64 fl, .int .i64 pl', .int .i64 nn', .slice a1' l1' c1', .slice a2' l2' c2'] 49)) #[.int .i64 kd, .int .i64 fl, .int .i64 pl, .int .i64 nn, .slice a1 l1 c1, .slice a2 l2 c2] 49; simpa using this
  have HL : Hid (l1 = ws.length ∧ l2 = bs.length) := ⟨h1, h2⟩
  have HS : Hid (SlI W0 a1 ws ∧ SlB W0 a2 bs) := ⟨s1.below B0, s2.below B0⟩
  have HS' : Hid ((l1' = l1 → SlI W0 a1' ws) ∧ (l2' = l2 → SlB W0 a2' bs)) := ⟨fun h => (s1' h).below B0, fun h => (s2' h).below B0⟩
  have HM : Hid (l1 ≤ 20000000 ∧ l2 ≤ 20000000) := by show _ ∧ _; omega
  obtain ⟨x0, x1, x2, x3, x4, x5⟩ := X0.six
  obtain ⟨y0, y1, y2, y3, y4, y5⟩ := Y0.six
  clear hW0' h1 h2 s1 s2 s1' s2'
  by_cases hA : pl' = pl
  · by_cases hN : nn' = nn
    · subst hA hN
      by_cases hw : l1' = l1
      · by_cases hq : l2' = l2
        · have e : b = true := by rw [← hb]; simp [hw, hq]
          subst e
          clear hb
          subst hw hq
          have T1 : Hid (SlI W0 a1' ws ∧ SlB W0 a2' bs) := ⟨HS'.out.1 rfl, HS'.out.2 rfl⟩
          go_enter Try.func127, Try.ntmps127
          go_upto_region 1 with fail
          rw [← hW0.out]
          go_wp2_with fail
          refine (equal_int _ _ _ _ _ _ ws _ HL.out.1 HL.out.1 T1.out.1 HS.out.1 hl1).mono ?_
          rintro e w1 ⟨rfl, b'⟩
          have b1 := bel_next B0 b'
          obtain ⟨x0, x1, x2, x3, x4, x5⟩ := (X0.below b').six
          obtain ⟨y0, y1, y2, y3, y4, y5⟩ := (Y0.below b').six
          go_wp2_with fail
          refine (equal_bool _ _ _ _ _ _ bs _ HL.out.2 HL.out.2 (T1.out.2.below b') (HS.out.2.below b') hl2).mono ?_
          rintro e w2 ⟨rfl, b2'⟩
          go_wp2
          go_ret
          exact ⟨rfl, bel_next b1 b2'⟩
        · have e : b = false := by rw [← hb]; simp [hq]
          subst e
          have hqi : ¬ (l2' : Int) = (l2 : Int) := by omega
          clear hb
          subst hw
          have T1 : Hid (SlI W0 a1' ws) := HS'.out.1 rfl
          go_enter Try.func127, Try.ntmps127
          go_upto_region 1 with fail
          rw [← hW0.out]
          go_wp2_with fail
          refine (equal_int _ _ _ _ _ _ ws _ HL.out.1 HL.out.1 T1.out HS.out.1 hl1).mono ?_
          rintro e w1 ⟨rfl, b'⟩
          have b1 := bel_next B0 b'
          obtain ⟨x0, x1, x2, x3, x4, x5⟩ := (X0.below b').six
          obtain ⟨y0, y1, y2, y3, y4, y5⟩ := (Y0.below b').six
          go_wp2_with fail
          refine (equal_bool_len _ _ _ _ _ _ _ hqi (by omega) HM.out.2).mono ?_
          rintro e w2 ⟨rfl, b2'⟩
          go_wp2
          go_ret
          exact ⟨rfl, bel_next b1 b2'⟩
      · have e : b = false := by rw [← hb]; simp [hw]
        subst e
        have hwi : ¬ (l1' : Int) = (l1 : Int) := by omega
        clear hb
        go_enter Try.func127, Try.ntmps127
        go_upto_region 1 with fail
        rw [← hW0.out]
        go_wp2_with fail
        refine (equal_int_len _ _ _ _ _ _ _ hwi (by omega) HM.out.1).mono ?_
        rintro e w1 ⟨rfl, b'⟩
        go_wp2
        go_ret
        exact ⟨rfl, bel_next B0 b'⟩
    · have e : b = false := by rw [← hb]; simp [hN]
      subst e
      subst hA
      clear hb
      go_enter Try.func127, Try.ntmps127
      go_upto_region 1 with fail
      rw [← hW0.out]
      go_wp2
      go_ret
      exact ⟨rfl, B0⟩
  · have e : b = false := by rw [← hb]; simp [hA]
    subst e
    clear hb
    go_enter Try.func127, Try.ntmps127
    go_upto_region 1 with fail
    rw [← hW0.out]
    go_wp2
    go_ret
    exact ⟨rfl, B0⟩
end Go.Proofs.Ytegckbfbmbiogaa
