/- LineNew of the program and of the model. -/
import Derived.Test.YtgdnfibogkjdoaaLn2
import Derived.Test.YtgdnfibogkjdoaaLn1
import Derived.Test.YtgdnfibogkjdoaaMid2
namespace Go.Proofs.Ytgdnfibogkjdoaa
open Go.RowKit Go.Joins

set_option linter.unusedVariables false

set_option linter.unusedSimpArgs false

/-- A line that asks nothing. -/
def laN (wt tr : Int) : La := ⟨false, ca0, 0, 0, 0, 0, wt, tr⟩

/-- What LineNew tells. -/
def nwL (wt tr : Int) : La := if (inB wt 1 100 && inB tr 0 5) = true then laN wt tr else laN 0 0

theorem nwL_c (wt tr : Int) : (nwL wt tr).c = ca0 := by unfold nwL; split <;> rfl

set_option maxRecDepth 20000 in
set_option maxHeartbeats 2000000 in
theorem specLineNew_any (wt tr : Int) (w : World) :
    Calls Try.prog 14 #[.int .i64 wt, .int .i64 tr] w fun e w' => e = .returned (.agg (lac (nwL wt tr) none 0 0 none none 0 0 0 0)) ∧ Below w.heap.size w w' := by
  obtain ⟨W, hW⟩ : ∃ W, W = w.alloc (.cells lzc 32) := ⟨_, rfl⟩
  have HW : Hid (Below w.heap.size w W ∧ Blk W w.heap.size 32 lzc) := ⟨by rw [hW]; exact bel_alloc _ _, by rw [hW]; exact Blk.new _ _ _⟩
  obtain ⟨x0, hx0⟩ : ∃ x, inB wt 1 100 = x := ⟨_, rfl⟩
  obtain ⟨x1, hx1⟩ : ∃ x, inB tr 0 5 = x := ⟨_, rfl⟩
  have HX : Hid (inB wt 1 100 = x0 ∧ inB tr 0 5 = x1) := ⟨hx0, hx1⟩
  rw [show nwL wt tr = if (x0 && x1) = true then laN wt tr else laN 0 0 by unfold nwL; rw [hx0, hx1]]
  clear hx0 hx1
  go_enter Try.func14, Try.ntmps14
  go_upto_region 1 with fail
  rw [← hW]
  clear hW
  go_wp2_with fail
  refine (l1In_any _ _ _ _ _ HX.out.1).mono ?_
  rintro e w1 ⟨rfl, hw⟩
  have hw := hw.symm
  subst hw
  cases x0 with
  | false =>
    go_upto_region 2 with fail
    refine wp_region_lit ?_
    refine wpList_build_any rfl 32 #[] rfl #[] (by simp) (.agg lzc) (by kernel_rfl) ?_
    refine wpList_store_mid rfl 32 (.tmp 4) (.tmp 13) rfl w.heap.size 0 lzc rfl rfl (HW.out.2.there 0 17 (by simp)) (by kernel_rfl) (by simp [Value.oneCell']) ?_
    rw [setCells_L]
    refine wpList_nil ?_
    go_wp2
    have HB : Blk (setL W w.heap.size 0 (lacL (laN 0 0) none 0 0 none none 0 0 0 0)) w.heap.size 32 (lac (laN 0 0) none 0 0 none none 0 0 0 0) := by rw [show lac (laN 0 0) none 0 0 none none 0 0 0 0 = wrA lzc 0 (lacL (laN 0 0) none 0 0 none none 0 0 0 0) from (lwr0_17 _ _ _ _ _ _ _ _ _ _ _ _ _ _ _ _ _ _ _ _ _ _ _ _ _ _ _ _ _ _ _ _ _ _).symm]; exact Blk.stL _ _ HW.out.2
    refine bodyPost_ret (v := .agg (lac (laN 0 0) none 0 0 none none 0 0 0 0)) (results_cell Try.results14 rfl (run_loadVar_mid _ _ _ 32 (lacL (laN 0 0) none 0 0 none none 0 0 0 0) _ HB.all Try.underlying32 rfl (by kernel_rfl))) rfl ⟨?_, setL_below (Nat.le_refl _) _ _ _ HW.out.1⟩
    rfl
  | true =>
    go_wp2_with fail
    refine (l1In_any _ _ _ _ _ HX.out.2).mono ?_
    rintro e w1 ⟨rfl, hw⟩
    have hw := hw.symm
    subst hw
    cases x1 with
    | false =>
      go_upto_region 2 with fail
      refine wp_region_lit ?_
      refine wpList_build_any rfl 32 #[] rfl #[] (by simp) (.agg lzc) (by kernel_rfl) ?_
      refine wpList_store_mid rfl 32 (.tmp 4) (.tmp 13) rfl w.heap.size 0 lzc rfl rfl (HW.out.2.there 0 17 (by simp)) (by kernel_rfl) (by simp [Value.oneCell']) ?_
      rw [setCells_L]
      refine wpList_nil ?_
      go_wp2
      have HB : Blk (setL W w.heap.size 0 (lacL (laN 0 0) none 0 0 none none 0 0 0 0)) w.heap.size 32 (lac (laN 0 0) none 0 0 none none 0 0 0 0) := by rw [show lac (laN 0 0) none 0 0 none none 0 0 0 0 = wrA lzc 0 (lacL (laN 0 0) none 0 0 none none 0 0 0 0) from (lwr0_17 _ _ _ _ _ _ _ _ _ _ _ _ _ _ _ _ _ _ _ _ _ _ _ _ _ _ _ _ _ _ _ _ _ _).symm]; exact Blk.stL _ _ HW.out.2
      refine bodyPost_ret (v := .agg (lac (laN 0 0) none 0 0 none none 0 0 0 0)) (results_cell Try.results14 rfl (run_loadVar_mid _ _ _ 32 (lacL (laN 0 0) none 0 0 none none 0 0 0 0) _ HB.all Try.underlying32 rfl (by kernel_rfl))) rfl ⟨?_, setL_below (Nat.le_refl _) _ _ _ HW.out.1⟩
      rfl
    | true =>
      go_upto_region 3 with fail
      refine wp_region_lit ?_
      refine wpList_move_any rfl (.tmp 0) rfl (.int .i64 wt) rfl ?_
      refine wpList_move_any rfl (.tmp 1) rfl (.int .i64 tr) rfl ?_
      refine wpList_build_any rfl 32 #[(7, .tmp 14), (8, .tmp 15)] rfl #[(7, .int .i64 wt), (8, .int .i64 tr)] (by simp only [List.map_toArray, List.map_cons, List.map_nil]; rfl) (.agg (lac (laN wt tr) none 0 0 none none 0 0 0 0)) (by kernel_rfl) ?_
      refine wpList_store_mid rfl 32 (.tmp 4) (.tmp 16) rfl w.heap.size 0 (lac (laN wt tr) none 0 0 none none 0 0 0 0) rfl rfl (HW.out.2.there 0 17 (by simp)) (by kernel_rfl) (by simp [Value.oneCell']) ?_
      rw [setCells_L]
      refine wpList_nil ?_
      go_wp2
      have HB : Blk (setL W w.heap.size 0 (lacL (laN wt tr) none 0 0 none none 0 0 0 0)) w.heap.size 32 (lac (laN wt tr) none 0 0 none none 0 0 0 0) := by rw [show lac (laN wt tr) none 0 0 none none 0 0 0 0 = wrA lzc 0 (lacL (laN wt tr) none 0 0 none none 0 0 0 0) from (lwr0_17 _ _ _ _ _ _ _ _ _ _ _ _ _ _ _ _ _ _ _ _ _ _ _ _ _ _ _ _ _ _ _ _ _ _).symm]; exact Blk.stL _ _ HW.out.2
      refine bodyPost_ret (v := .agg (lac (laN wt tr) none 0 0 none none 0 0 0 0)) (results_cell Try.results14 rfl (run_loadVar_mid _ _ _ 32 (lacL (laN wt tr) none 0 0 none none 0 0 0 0) _ HB.all Try.underlying32 rfl (by kernel_rfl))) rfl ⟨?_, setL_below (Nat.le_refl _) _ _ _ HW.out.1⟩
      rfl

set_option maxRecDepth 20000 in
set_option maxHeartbeats 2000000 in
theorem implLineNew_any (wt tr : Int) (w : World) :
    Calls Try.prog 15 #[.int .i64 wt, .int .i64 tr] w fun e w' => e = .returned (.agg (lac (nwL wt tr) none 0 0 none none 0 0 0 0)) ∧ Below w.heap.size w w' := by
  obtain ⟨W, hW⟩ : ∃ W, W = w.alloc (.cells lzc 32) := ⟨_, rfl⟩
  have HW : Hid (Below w.heap.size w W ∧ Blk W w.heap.size 32 lzc) := ⟨by rw [hW]; exact bel_alloc _ _, by rw [hW]; exact Blk.new _ _ _⟩
  obtain ⟨x0, hx0⟩ : ∃ x, inB wt 1 100 = x := ⟨_, rfl⟩
  obtain ⟨x1, hx1⟩ : ∃ x, inB tr 0 5 = x := ⟨_, rfl⟩
  have HX : Hid (inB wt 1 100 = x0 ∧ inB tr 0 5 = x1) := ⟨hx0, hx1⟩
  rw [show nwL wt tr = if (x0 && x1) = true then laN wt tr else laN 0 0 by unfold nwL; rw [hx0, hx1]]
  clear hx0 hx1
  go_enter Try.func15, Try.ntmps15
  go_upto_region 1 with fail
  rw [← hW]
  clear hW
  go_wp2_with fail
  refine (isAnsWL _ _ _ HX.out.1).mono ?_
  rintro e w1 ⟨rfl, hw⟩
  have hw := hw.symm
  subst hw
  cases x0 with
  | false =>
    go_upto_region 2 with fail
    refine wp_region_lit ?_
    refine wpList_build_any rfl 32 #[] rfl #[] (by simp) (.agg lzc) (by kernel_rfl) ?_
    refine wpList_store_mid rfl 32 (.tmp 4) (.tmp 13) rfl w.heap.size 0 lzc rfl rfl (HW.out.2.there 0 17 (by simp)) (by kernel_rfl) (by simp [Value.oneCell']) ?_
    rw [setCells_L]
    refine wpList_nil ?_
    go_wp2
    have HB : Blk (setL W w.heap.size 0 (lacL (laN 0 0) none 0 0 none none 0 0 0 0)) w.heap.size 32 (lac (laN 0 0) none 0 0 none none 0 0 0 0) := by rw [show lac (laN 0 0) none 0 0 none none 0 0 0 0 = wrA lzc 0 (lacL (laN 0 0) none 0 0 none none 0 0 0 0) from (lwr0_17 _ _ _ _ _ _ _ _ _ _ _ _ _ _ _ _ _ _ _ _ _ _ _ _ _ _ _ _ _ _ _ _ _ _).symm]; exact Blk.stL _ _ HW.out.2
    refine bodyPost_ret (v := .agg (lac (laN 0 0) none 0 0 none none 0 0 0 0)) (results_cell Try.results15 rfl (run_loadVar_mid _ _ _ 32 (lacL (laN 0 0) none 0 0 none none 0 0 0 0) _ HB.all Try.underlying32 rfl (by kernel_rfl))) rfl ⟨?_, setL_below (Nat.le_refl _) _ _ _ HW.out.1⟩
    rfl
  | true =>
    go_wp2_with fail
    refine (isTriesL _ _ _ HX.out.2).mono ?_
    rintro e w1 ⟨rfl, hw⟩
    have hw := hw.symm
    subst hw
    cases x1 with
    | false =>
      go_upto_region 2 with fail
      refine wp_region_lit ?_
      refine wpList_build_any rfl 32 #[] rfl #[] (by simp) (.agg lzc) (by kernel_rfl) ?_
      refine wpList_store_mid rfl 32 (.tmp 4) (.tmp 13) rfl w.heap.size 0 lzc rfl rfl (HW.out.2.there 0 17 (by simp)) (by kernel_rfl) (by simp [Value.oneCell']) ?_
      rw [setCells_L]
      refine wpList_nil ?_
      go_wp2
      have HB : Blk (setL W w.heap.size 0 (lacL (laN 0 0) none 0 0 none none 0 0 0 0)) w.heap.size 32 (lac (laN 0 0) none 0 0 none none 0 0 0 0) := by rw [show lac (laN 0 0) none 0 0 none none 0 0 0 0 = wrA lzc 0 (lacL (laN 0 0) none 0 0 none none 0 0 0 0) from (lwr0_17 _ _ _ _ _ _ _ _ _ _ _ _ _ _ _ _ _ _ _ _ _ _ _ _ _ _ _ _ _ _ _ _ _ _).symm]; exact Blk.stL _ _ HW.out.2
      refine bodyPost_ret (v := .agg (lac (laN 0 0) none 0 0 none none 0 0 0 0)) (results_cell Try.results15 rfl (run_loadVar_mid _ _ _ 32 (lacL (laN 0 0) none 0 0 none none 0 0 0 0) _ HB.all Try.underlying32 rfl (by kernel_rfl))) rfl ⟨?_, setL_below (Nat.le_refl _) _ _ _ HW.out.1⟩
      rfl
    | true =>
      go_upto_region 3 with fail
      refine wp_region_lit ?_
      refine wpList_move_any rfl (.tmp 0) rfl (.int .i64 wt) rfl ?_
      refine wpList_move_any rfl (.tmp 1) rfl (.int .i64 tr) rfl ?_
      refine wpList_build_any rfl 32 #[(7, .tmp 14), (8, .tmp 15)] rfl #[(7, .int .i64 wt), (8, .int .i64 tr)] (by simp only [List.map_toArray, List.map_cons, List.map_nil]; rfl) (.agg (lac (laN wt tr) none 0 0 none none 0 0 0 0)) (by kernel_rfl) ?_
      refine wpList_store_mid rfl 32 (.tmp 4) (.tmp 16) rfl w.heap.size 0 (lac (laN wt tr) none 0 0 none none 0 0 0 0) rfl rfl (HW.out.2.there 0 17 (by simp)) (by kernel_rfl) (by simp [Value.oneCell']) ?_
      rw [setCells_L]
      refine wpList_nil ?_
      go_wp2
      have HB : Blk (setL W w.heap.size 0 (lacL (laN wt tr) none 0 0 none none 0 0 0 0)) w.heap.size 32 (lac (laN wt tr) none 0 0 none none 0 0 0 0) := by rw [show lac (laN wt tr) none 0 0 none none 0 0 0 0 = wrA lzc 0 (lacL (laN wt tr) none 0 0 none none 0 0 0 0) from (lwr0_17 _ _ _ _ _ _ _ _ _ _ _ _ _ _ _ _ _ _ _ _ _ _ _ _ _ _ _ _ _ _ _ _ _ _).symm]; exact Blk.stL _ _ HW.out.2
      refine bodyPost_ret (v := .agg (lac (laN wt tr) none 0 0 none none 0 0 0 0)) (results_cell Try.results15 rfl (run_loadVar_mid _ _ _ 32 (lacL (laN wt tr) none 0 0 none none 0 0 0 0) _ HB.all Try.underlying32 rfl (by kernel_rfl))) rfl ⟨?_, setL_below (Nat.le_refl _) _ _ _ HW.out.1⟩
      rfl

end Go.Proofs.Ytgdnfibogkjdoaa
