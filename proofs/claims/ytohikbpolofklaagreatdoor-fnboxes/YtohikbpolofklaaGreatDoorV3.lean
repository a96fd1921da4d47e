/- Texts that the proof needs, joined: Q4 Q5 Q6 Bits PutWord1 Pack1 Marks2 R1. -/
import Derived.Test.YtohikbpolofklaaGreatDoorV1
import Derived.Test.YtohikbpolofklaaGreatDoorV2
import Derived.Deep.RegionWith
import Derived.WalkKit
import Derived.LoopN
import Derived.Lib.AppendZerosOnto
namespace Go.Proofs.YtohikbpolofklaaGreatDoor
open Go.RowKit
set_option linter.unusedVariables false
theorem lit_slB1 (w : World) (x : Bool) {g : Nat} (hg : g = w.heap.size) : SlB (w.alloc (.cells #[.bool x] 4)) (some ⟨g, 0, none⟩) [x] := hg ▸
  .inr ⟨_, 0, rfl, by simp, fun i hi => by
    have : i = 0 := by simp at hi; omega
    subst this; simp⟩
theorem lit_slI1 (w : World) (x : Int) {g : Nat} (hg : g = w.heap.size) : SlI (w.alloc (.cells #[.int .i64 x] 3)) (some ⟨g, 0, none⟩) [x] := hg ▸
  .inr ⟨_, 0, rfl, by simp, fun i hi => by
    have : i = 0 := by simp at hi; omega
    subst this; simp⟩
theorem lit_slI2 (w : World) (x y : Int) {g : Nat} (hg : g = w.heap.size) : SlI (w.alloc (.cells #[.int .i64 x, .int .i64 y] 3)) (some ⟨g, 0, none⟩) [x, y] := hg ▸
  .inr ⟨_, 0, rfl, by simp, fun i hi => by
    have : i = 0 ∨ i = 1 := by simp at hi; omega
    rcases this with rfl | rfl <;> simp⟩
set_option maxHeartbeats 2000000 in
theorem req_1 (pl nn : Int) (w : World) :
    Calls Tryz.prog 101 #[.agg #[.int .i64 pl, .int .i64 nn]] w fun e w' => e = .returned (rq 1 pl nn 0 none none 0 0 0 0) ∧ Below w.heap.size w w' := by
  go_enter Tryz.func101, Tryz.ntmps101
  go_wp2
  refine bodyPost_ret (v := rq 1 pl nn 0 none none 0 0 0 0) (by simp [results, Tryz.results101, go_sem]) rfl ?_
  exact ⟨rfl, bel_next (bel_alloc _ _) (bel_alloc _ _)⟩
set_option maxHeartbeats 2000000 in
theorem req_2 (pl nn : Int) (w : World) :
    Calls Tryz.prog 102 #[.agg #[.int .i64 pl, .int .i64 nn]] w fun e w' => e = .returned (rq 2 pl nn 0 none none 0 0 0 0) ∧ Below w.heap.size w w' := by
  go_enter Tryz.func102, Tryz.ntmps102
  go_wp2
  refine bodyPost_ret (v := rq 2 pl nn 0 none none 0 0 0 0) (by simp [results, Tryz.results102, go_sem]) rfl ?_
  exact ⟨rfl, bel_next (bel_alloc _ _) (bel_alloc _ _)⟩
set_option maxHeartbeats 2000000 in
theorem req_3 (pl nn : Int) (w : World) :
    Calls Tryz.prog 103 #[.agg #[.int .i64 pl, .int .i64 nn]] w fun e w' => e = .returned (rq 3 pl nn 0 none none 0 0 0 0) ∧ Below w.heap.size w w' := by
  go_enter Tryz.func103, Tryz.ntmps103
  go_wp2
  refine bodyPost_ret (v := rq 3 pl nn 0 none none 0 0 0 0) (by simp [results, Tryz.results103, go_sem]) rfl ?_
  exact ⟨rfl, bel_next (bel_alloc _ _) (bel_alloc _ _)⟩
set_option maxHeartbeats 2000000 in
theorem req_4 (pl nn : Int) (w : World) :
    Calls Tryz.prog 104 #[.agg #[.int .i64 pl, .int .i64 nn]] w fun e w' => e = .returned (rq 4 pl nn 0 none none 0 0 0 0) ∧ Below w.heap.size w w' := by
  go_enter Tryz.func104, Tryz.ntmps104
  go_wp2
  refine bodyPost_ret (v := rq 4 pl nn 0 none none 0 0 0 0) (by simp [results, Tryz.results104, go_sem]) rfl ?_
  exact ⟨rfl, bel_next (bel_alloc _ _) (bel_alloc _ _)⟩
set_option maxHeartbeats 2000000 in
theorem req_5 (pl : Int) (x : Bool) (w : World) :
    Calls Tryz.prog 105 #[.agg #[.int .i64 pl, .bool x]] w fun e w' => e = .returned (rq 5 pl 0 0 none (some ⟨w.heap.size + 1 + 1, 0, none⟩) 0 1 0 1) ∧ SlB w' (some ⟨w.heap.size + 1 + 1, 0, none⟩) [x] ∧ Below w.heap.size w w' := by
  go_enter Tryz.func105, Tryz.ntmps105
  go_wp2
  refine bodyPost_ret (v := rq 5 pl 0 0 none (some ⟨w.heap.size + 1 + 1, 0, none⟩) 0 1 0 1) (by simp [results, Tryz.results105, go_sem]) rfl ?_
  exact ⟨rfl, lit_slB1 _ x (by simp), bel_next (bel_next (bel_alloc _ _) (bel_alloc _ _)) (bel_alloc _ _)⟩
set_option maxHeartbeats 2000000 in
theorem req_6 (pl x : Int) (w : World) :
    Calls Tryz.prog 106 #[.agg #[.int .i64 pl, .int .i64 x]] w fun e w' => e = .returned (rq 6 pl 0 0 (some ⟨w.heap.size + 1 + 1, 0, none⟩) none 1 0 1 0) ∧ SlI w' (some ⟨w.heap.size + 1 + 1, 0, none⟩) [x] ∧ Below w.heap.size w w' := by
  go_enter Tryz.func106, Tryz.ntmps106
  go_wp2
  refine bodyPost_ret (v := rq 6 pl 0 0 (some ⟨w.heap.size + 1 + 1, 0, none⟩) none 1 0 1 0) (by simp [results, Tryz.results106, go_sem]) rfl ?_
  exact ⟨rfl, lit_slI1 _ x (by simp), bel_next (bel_next (bel_alloc _ _) (bel_alloc _ _)) (bel_alloc _ _)⟩
set_option maxHeartbeats 2000000 in
theorem req_15 (pl : Int) (a2 : Option Addr) (l2 c2 : Nat) (w : World) :
    Calls Tryz.prog 107 #[.agg #[.int .i64 pl, .slice a2 l2 c2]] w fun e w' => e = .returned (rq 15 pl 0 0 none a2 0 l2 0 c2) ∧ Below w.heap.size w w' := by
  go_enter Tryz.func107, Tryz.ntmps107
  go_wp2
  refine bodyPost_ret (v := rq 15 pl 0 0 none a2 0 l2 0 c2) (by simp [results, Tryz.results107, go_sem]) rfl ?_
  exact ⟨rfl, bel_next (bel_alloc _ _) (bel_alloc _ _)⟩
set_option maxHeartbeats 2000000 in
theorem req_16 (pl : Int) (a1 : Option Addr) (l1 c1 : Nat) (w : World) :
    Calls Tryz.prog 108 #[.agg #[.int .i64 pl, .slice a1 l1 c1]] w fun e w' => e = .returned (rq 16 pl 0 0 a1 none l1 0 c1 0) ∧ Below w.heap.size w w' := by
  go_enter Tryz.func108, Tryz.ntmps108
  go_wp2
  refine bodyPost_ret (v := rq 16 pl 0 0 a1 none l1 0 c1 0) (by simp [results, Tryz.results108, go_sem]) rfl ?_
  exact ⟨rfl, bel_next (bel_alloc _ _) (bel_alloc _ _)⟩
set_option maxHeartbeats 2000000 in
theorem req_22 (pl x y : Int) (w : World) :
    Calls Tryz.prog 109 #[.agg #[.int .i64 pl, .int .i64 x, .int .i64 y]] w fun e w' => e = .returned (rq 22 pl 0 0 (some ⟨w.heap.size + 1 + 1, 0, none⟩) none 2 0 2 0) ∧ SlI w' (some ⟨w.heap.size + 1 + 1, 0, none⟩) [x, y] ∧ Below w.heap.size w w' := by
  go_enter Tryz.func109, Tryz.ntmps109
  go_wp2
  refine bodyPost_ret (v := rq 22 pl 0 0 (some ⟨w.heap.size + 1 + 1, 0, none⟩) none 2 0 2 0) (by simp [results, Tryz.results109, go_sem]) rfl ?_
  exact ⟨rfl, lit_slI2 _ x y (by simp), bel_next (bel_next (bel_alloc _ _) (bel_alloc _ _)) (bel_alloc _ _)⟩
set_option maxHeartbeats 2000000 in
theorem req_23 (pl nn wa : Int) (a1 : Option Addr) (l1 c1 : Nat) (w : World) :
    Calls Tryz.prog 110 #[.agg #[.int .i64 pl, .int .i64 nn, .int .i64 wa, .slice a1 l1 c1]] w fun e w' => e = .returned (rq 23 pl nn wa a1 none l1 0 c1 0) ∧ Below w.heap.size w w' := by
  go_enter Tryz.func110, Tryz.ntmps110
  go_wp2
  refine bodyPost_ret (v := rq 23 pl nn wa a1 none l1 0 c1 0) (by simp [results, Tryz.results110, go_sem]) rfl ?_
  exact ⟨rfl, bel_next (bel_alloc _ _) (bel_alloc _ _)⟩
set_option maxHeartbeats 4000000 in
theorem sameReq_n (kd pl nn wa nn' wa' : Int) (a1 a2 a1' a2' : Option Addr) (l1 l2 c1 c2 l1' l2' c1' c2' : Nat) (w : World) (hne : ¬ nn = nn') :
    Calls Tryz.prog 56 #[rq kd pl nn wa a1 a2 l1 l2 c1 c2, rq kd pl nn' wa' a1' a2' l1' l2' c1' c2'] w fun e w' => e = .returned (.bool false) ∧ Below w.heap.size w w' := by
  obtain ⟨W0, hW0'⟩ : ∃ W0, W0 = (w.alloc (.cells #[.int .i64 kd, .int .i64 pl, .int .i64 nn, .slice a1 l1 c1, .slice a2 l2 c2, .int .i64 wa] 30)).alloc (.cells #[.int .i64 kd, .int .i64 pl, .int .i64 nn', .slice a1' l1' c1', .slice a2' l2' c2', .int .i64 wa'] 30) := ⟨_, rfl⟩
  have hW0 : Hid (W0 = _) := hW0'
  have B0 : Below w.heap.size w W0 := by rw [hW0']; exact bel_next (bel_alloc w _) (bel_alloc _ _)
  have X0 : Blk W0 w.heap.size 30 #[.int .i64 kd, .int .i64 pl, .int .i64 nn, .slice a1 l1 c1, .slice a2 l2 c2, .int .i64 wa] := by rw [hW0']; exact (Blk.new w _ _).below (bel_alloc _ _)
  have Y0 : Blk W0 (w.heap.size + 1) 30 #[.int .i64 kd, .int .i64 pl, .int .i64 nn', .slice a1' l1' c1', .slice a2' l2' c2', .int .i64 wa'] := by
    rw [hW0']; have := Blk.new (w.alloc (.cells #[.int .i64 kd, .int .i64 pl, .int .i64 nn, .slice a1 l1 c1, .slice a2 l2 c2, .int .i64 wa] 30)) #[.int .i64 kd, .int .i64 pl, .int .i64 nn', .slice a1' l1' c1', .slice a2' l2' c2', .int .i64 wa'] 30; simpa using this
  obtain ⟨x0, x1, x2, x3, x4, x5⟩ := X0.six
  obtain ⟨y0, y1, y2, y3, y4, y5⟩ := Y0.six
  clear hW0'
  go_enter Tryz.func56, Tryz.ntmps56
  go_upto_region 1 with fail
  rw [← hW0.out]
  go_wp2
  go_ret
  exact ⟨rfl, B0⟩
set_option maxHeartbeats 4000000 in
theorem sameReq_w (kd pl nn wa nn' wa' : Int) (a1 a2 a1' a2' : Option Addr) (l1 l2 c1 c2 l1' l2' c1' c2' : Nat) (w : World) (hn : nn' = nn) (hne : ¬ wa = wa') :
    Calls Tryz.prog 56 #[rq kd pl nn wa a1 a2 l1 l2 c1 c2, rq kd pl nn' wa' a1' a2' l1' l2' c1' c2'] w fun e w' => e = .returned (.bool false) ∧ Below w.heap.size w w' := by
  obtain ⟨W0, hW0'⟩ : ∃ W0, W0 = (w.alloc (.cells #[.int .i64 kd, .int .i64 pl, .int .i64 nn, .slice a1 l1 c1, .slice a2 l2 c2, .int .i64 wa] 30)).alloc (.cells #[.int .i64 kd, .int .i64 pl, .int .i64 nn', .slice a1' l1' c1', .slice a2' l2' c2', .int .i64 wa'] 30) := ⟨_, rfl⟩
  have hW0 : Hid (W0 = _) := hW0'
  have B0 : Below w.heap.size w W0 := by rw [hW0']; exact bel_next (bel_alloc w _) (bel_alloc _ _)
  have X0 : Blk W0 w.heap.size 30 #[.int .i64 kd, .int .i64 pl, .int .i64 nn, .slice a1 l1 c1, .slice a2 l2 c2, .int .i64 wa] := by rw [hW0']; exact (Blk.new w _ _).below (bel_alloc _ _)
  have Y0 : Blk W0 (w.heap.size + 1) 30 #[.int .i64 kd, .int .i64 pl, .int .i64 nn', .slice a1' l1' c1', .slice a2' l2' c2', .int .i64 wa'] := by
    rw [hW0']; have := Blk.new (w.alloc (.cells #[.int .i64 kd, .int .i64 pl, .int .i64 nn, .slice a1 l1 c1, .slice a2 l2 c2, .int .i64 wa] 30)) #[.int .i64 kd, .int .i64 pl, .int .i64 nn', .slice a1' l1' c1', .slice a2' l2' c2', .int .i64 wa'] 30; simpa using this
  obtain ⟨x0, x1, x2, x3, x4, x5⟩ := X0.six
  obtain ⟨y0, y1, y2, y3, y4, y5⟩ := Y0.six
  subst hn
  clear hW0'
  go_enter Tryz.func56, Tryz.ntmps56
  go_upto_region 1 with fail
  rw [← hW0.out]
  go_wp2
  go_ret
  exact ⟨rfl, B0⟩
set_option maxHeartbeats 4000000 in
theorem sameReq_1 (kd pl nn wa nn' wa' : Int) (a1 a2 a1' a2' : Option Addr) (l1 l2 c1 c2 l1' l2' c1' c2' : Nat) (w : World) (hn : nn' = nn) (hw : wa' = wa) (hne : ¬ (l1 : Int) = (l1' : Int)) (h1 : l1 ≤ 20000000) (h1' : l1' ≤ 20000000) :
    Calls Tryz.prog 56 #[rq kd pl nn wa a1 a2 l1 l2 c1 c2, rq kd pl nn' wa' a1' a2' l1' l2' c1' c2'] w fun e w' => e = .returned (.bool false) ∧ Below w.heap.size w w' := by
  obtain ⟨W0, hW0'⟩ : ∃ W0, W0 = (w.alloc (.cells #[.int .i64 kd, .int .i64 pl, .int .i64 nn, .slice a1 l1 c1, .slice a2 l2 c2, .int .i64 wa] 30)).alloc (.cells #[.int .i64 kd, .int .i64 pl, .int .i64 nn', .slice a1' l1' c1', .slice a2' l2' c2', .int .i64 wa'] 30) := ⟨_, rfl⟩
  have hW0 : Hid (W0 = _) := hW0'
  have B0 : Below w.heap.size w W0 := by rw [hW0']; exact bel_next (bel_alloc w _) (bel_alloc _ _)
  have X0 : Blk W0 w.heap.size 30 #[.int .i64 kd, .int .i64 pl, .int .i64 nn, .slice a1 l1 c1, .slice a2 l2 c2, .int .i64 wa] := by rw [hW0']; exact (Blk.new w _ _).below (bel_alloc _ _)
  have Y0 : Blk W0 (w.heap.size + 1) 30 #[.int .i64 kd, .int .i64 pl, .int .i64 nn', .slice a1' l1' c1', .slice a2' l2' c2', .int .i64 wa'] := by
    rw [hW0']; have := Blk.new (w.alloc (.cells #[.int .i64 kd, .int .i64 pl, .int .i64 nn, .slice a1 l1 c1, .slice a2 l2 c2, .int .i64 wa] 30)) #[.int .i64 kd, .int .i64 pl, .int .i64 nn', .slice a1' l1' c1', .slice a2' l2' c2', .int .i64 wa'] 30; simpa using this
  obtain ⟨x0, x1, x2, x3, x4, x5⟩ := X0.six
  obtain ⟨y0, y1, y2, y3, y4, y5⟩ := Y0.six
  subst hn hw
  clear hW0'
  go_enter Tryz.func56, Tryz.ntmps56
  go_upto_region 1 with fail
  rw [← hW0.out]
  go_wp2_with fail
  refine (equal_int_len _ _ _ _ _ _ _ hne h1 h1').mono ?_
  rintro e w1 ⟨rfl, b'⟩
  go_wp2
  go_ret
  exact ⟨rfl, bel_next B0 b'⟩
set_option maxHeartbeats 4000000 in
theorem sameReq_2 (kd pl nn wa nn' wa' : Int) (a1 a2 a1' a2' : Option Addr) (l1 l2 c1 c2 l1' l2' c1' c2' : Nat) (w : World) (hn : nn' = nn) (hw : wa' = wa) (ws : List Int) (h1 : l1 = ws.length) (h1' : l1' = ws.length) (s1 : SlI w a1 ws) (s1' : SlI w a1' ws) (hl1 : ws.length ≤ 2000000) (hne : ¬ (l2 : Int) = (l2' : Int)) (h2 : l2 ≤ 20000000) (h2' : l2' ≤ 20000000) :
    Calls Tryz.prog 56 #[rq kd pl nn wa a1 a2 l1 l2 c1 c2, rq kd pl nn' wa' a1' a2' l1' l2' c1' c2'] w fun e w' => e = .returned (.bool false) ∧ Below w.heap.size w w' := by
  obtain ⟨W0, hW0'⟩ : ∃ W0, W0 = (w.alloc (.cells #[.int .i64 kd, .int .i64 pl, .int .i64 nn, .slice a1 l1 c1, .slice a2 l2 c2, .int .i64 wa] 30)).alloc (.cells #[.int .i64 kd, .int .i64 pl, .int .i64 nn', .slice a1' l1' c1', .slice a2' l2' c2', .int .i64 wa'] 30) := ⟨_, rfl⟩
  have hW0 : Hid (W0 = _) := hW0'
  have B0 : Below w.heap.size w W0 := by rw [hW0']; exact bel_next (bel_alloc w _) (bel_alloc _ _)
  have X0 : Blk W0 w.heap.size 30 #[.int .i64 kd, .int .i64 pl, .int .i64 nn, .slice a1 l1 c1, .slice a2 l2 c2, .int .i64 wa] := by rw [hW0']; exact (Blk.new w _ _).below (bel_alloc _ _)
  have Y0 : Blk W0 (w.heap.size + 1) 30 #[.int .i64 kd, .int .i64 pl, .int .i64 nn', .slice a1' l1' c1', .slice a2' l2' c2', .int .i64 wa'] := by
    rw [hW0']; have := Blk.new (w.alloc (.cells #[.int .i64 kd, .int .i64 pl, .int .i64 nn, .slice a1 l1 c1, .slice a2 l2 c2, .int .i64 wa] 30)) #[.int .i64 kd, .int .i64 pl, .int .i64 nn', .slice a1' l1' c1', .slice a2' l2' c2', .int .i64 wa'] 30; simpa using this
  obtain ⟨x0, x1, x2, x3, x4, x5⟩ := X0.six
  obtain ⟨y0, y1, y2, y3, y4, y5⟩ := Y0.six
  subst hn hw
  have HH : Hid (l1 = ws.length ∧ l1' = ws.length ∧ SlI W0 a1 ws ∧ SlI W0 a1' ws) := ⟨h1, h1', s1.below B0, s1'.below B0⟩
  clear h1 h1' s1 s1'
  clear hW0'
  go_enter Tryz.func56, Tryz.ntmps56
  go_upto_region 1 with fail
  rw [← hW0.out]
  go_wp2_with fail
  refine (equal_int _ _ _ _ _ _ ws _ HH.out.1 HH.out.2.1 HH.out.2.2.1 HH.out.2.2.2 hl1).mono ?_
  rintro e w1 ⟨rfl, b'⟩
  have b1 := bel_next B0 b'
  obtain ⟨x0, x1, x2, x3, x4, x5⟩ := (X0.below b').six
  obtain ⟨y0, y1, y2, y3, y4, y5⟩ := (Y0.below b').six
  go_wp2_with fail
  refine (equal_bool_len _ _ _ _ _ _ _ hne h2 h2').mono ?_
  rintro e w2 ⟨rfl, b2'⟩
  go_wp2
  go_ret
  exact ⟨rfl, bel_next b1 b2'⟩
set_option maxHeartbeats 4000000 in
theorem sameReq_t (kd pl nn wa nn' wa' : Int) (a1 a2 a1' a2' : Option Addr) (l1 l2 c1 c2 l1' l2' c1' c2' : Nat) (w : World) (hn : nn' = nn) (hw : wa' = wa) (ws : List Int) (h1 : l1 = ws.length) (h1' : l1' = ws.length) (s1 : SlI w a1 ws) (s1' : SlI w a1' ws) (hl1 : ws.length ≤ 2000000) (bs : List Bool) (h2 : l2 = bs.length) (h2' : l2' = bs.length) (s2 : SlB w a2 bs) (s2' : SlB w a2' bs) (hl2 : bs.length ≤ 2000000) :
    Calls Tryz.prog 56 #[rq kd pl nn wa a1 a2 l1 l2 c1 c2, rq kd pl nn' wa' a1' a2' l1' l2' c1' c2'] w fun e w' => e = .returned (.bool true) ∧ Below w.heap.size w w' := by
  obtain ⟨W0, hW0'⟩ : ∃ W0, W0 = (w.alloc (.cells #[.int .i64 kd, .int .i64 pl, .int .i64 nn, .slice a1 l1 c1, .slice a2 l2 c2, .int .i64 wa] 30)).alloc (.cells #[.int .i64 kd, .int .i64 pl, .int .i64 nn', .slice a1' l1' c1', .slice a2' l2' c2', .int .i64 wa'] 30) := ⟨_, rfl⟩
  have hW0 : Hid (W0 = _) := hW0'
  have B0 : Below w.heap.size w W0 := by rw [hW0']; exact bel_next (bel_alloc w _) (bel_alloc _ _)
  have X0 : Blk W0 w.heap.size 30 #[.int .i64 kd, .int .i64 pl, .int .i64 nn, .slice a1 l1 c1, .slice a2 l2 c2, .int .i64 wa] := by rw [hW0']; exact (Blk.new w _ _).below (bel_alloc _ _)
  have Y0 : Blk W0 (w.heap.size + 1) 30 #[.int .i64 kd, .int .i64 pl, .int .i64 nn', .slice a1' l1' c1', .slice a2' l2' c2', .int .i64 wa'] := by
    rw [hW0']; have := Blk.new (w.alloc (.cells #[.int .i64 kd, .int .i64 pl, .int .i64 nn, .slice a1 l1 c1, .slice a2 l2 c2, .int .i64 wa] 30)) #[.int .i64 kd, .int .i64 pl, .int .i64 nn', .slice a1' l1' c1', .slice a2' l2' c2', .int .i64 wa'] 30; simpa using this
  obtain ⟨x0, x1, x2, x3, x4, x5⟩ := X0.six
  obtain ⟨y0, y1, y2, y3, y4, y5⟩ := Y0.six
  subst hn hw
  have HH : Hid (l1 = ws.length ∧ l1' = ws.length ∧ SlI W0 a1 ws ∧ SlI W0 a1' ws) := ⟨h1, h1', s1.below B0, s1'.below B0⟩
  clear h1 h1' s1 s1'
  have HB : Hid (l2 = bs.length ∧ l2' = bs.length ∧ SlB W0 a2 bs ∧ SlB W0 a2' bs) := ⟨h2, h2', s2.below B0, s2'.below B0⟩
  clear h2 h2' s2 s2'
  clear hW0'
  go_enter Tryz.func56, Tryz.ntmps56
  go_upto_region 1 with fail
  rw [← hW0.out]
  go_wp2_with fail
  refine (equal_int _ _ _ _ _ _ ws _ HH.out.1 HH.out.2.1 HH.out.2.2.1 HH.out.2.2.2 hl1).mono ?_
  rintro e w1 ⟨rfl, b'⟩
  have b1 := bel_next B0 b'
  obtain ⟨x0, x1, x2, x3, x4, x5⟩ := (X0.below b').six
  obtain ⟨y0, y1, y2, y3, y4, y5⟩ := (Y0.below b').six
  go_wp2_with fail
  refine (equal_bool _ _ _ _ _ _ bs _ HB.out.1 HB.out.2.1 (HB.out.2.2.1.below b') (HB.out.2.2.2.below b') hl2).mono ?_
  rintro e w2 ⟨rfl, b2'⟩
  go_wp2
  go_ret
  exact ⟨rfl, bel_next b1 b2'⟩
end Go.Proofs.YtohikbpolofklaaGreatDoor
namespace Go.Proofs.YtohikbpolofklaaGreatDoor
open Go.RowKit
set_option linter.unusedVariables false
set_option linter.unusedSimpArgs false
theorem meth_1 (v : Value) (w : World) : (method 280 87 v "loop.example/g00129/impl.req").run Tryz.prog w = .ok (101, v) w := by kernel_rfl
theorem callf_1 (v : Value) (w : World) : (callFunc 101 #[v]).run Tryz.prog w = .ok (.enter 101 #[v]) w := by kernel_rfl
theorem meth_2 (v : Value) (w : World) : (method 280 89 v "loop.example/g00129/impl.req").run Tryz.prog w = .ok (102, v) w := by kernel_rfl
theorem callf_2 (v : Value) (w : World) : (callFunc 102 #[v]).run Tryz.prog w = .ok (.enter 102 #[v]) w := by kernel_rfl
theorem meth_3 (v : Value) (w : World) : (method 280 90 v "loop.example/g00129/impl.req").run Tryz.prog w = .ok (103, v) w := by kernel_rfl
theorem callf_3 (v : Value) (w : World) : (callFunc 103 #[v]).run Tryz.prog w = .ok (.enter 103 #[v]) w := by kernel_rfl
theorem meth_4 (v : Value) (w : World) : (method 280 91 v "loop.example/g00129/impl.req").run Tryz.prog w = .ok (104, v) w := by kernel_rfl
theorem callf_4 (v : Value) (w : World) : (callFunc 104 #[v]).run Tryz.prog w = .ok (.enter 104 #[v]) w := by kernel_rfl
theorem meth_5 (v : Value) (w : World) : (method 280 93 v "loop.example/g00129/impl.req").run Tryz.prog w = .ok (105, v) w := by kernel_rfl
theorem callf_5 (v : Value) (w : World) : (callFunc 105 #[v]).run Tryz.prog w = .ok (.enter 105 #[v]) w := by kernel_rfl
theorem meth_6 (v : Value) (w : World) : (method 280 96 v "loop.example/g00129/impl.req").run Tryz.prog w = .ok (106, v) w := by kernel_rfl
theorem callf_6 (v : Value) (w : World) : (callFunc 106 #[v]).run Tryz.prog w = .ok (.enter 106 #[v]) w := by kernel_rfl
theorem meth_15 (v : Value) (w : World) : (method 280 98 v "loop.example/g00129/impl.req").run Tryz.prog w = .ok (107, v) w := by kernel_rfl
theorem callf_15 (v : Value) (w : World) : (callFunc 107 #[v]).run Tryz.prog w = .ok (.enter 107 #[v]) w := by kernel_rfl
theorem meth_16 (v : Value) (w : World) : (method 280 101 v "loop.example/g00129/impl.req").run Tryz.prog w = .ok (108, v) w := by kernel_rfl
theorem callf_16 (v : Value) (w : World) : (callFunc 108 #[v]).run Tryz.prog w = .ok (.enter 108 #[v]) w := by kernel_rfl
theorem meth_22 (v : Value) (w : World) : (method 280 104 v "loop.example/g00129/impl.req").run Tryz.prog w = .ok (109, v) w := by kernel_rfl
theorem callf_22 (v : Value) (w : World) : (callFunc 109 #[v]).run Tryz.prog w = .ok (.enter 109 #[v]) w := by kernel_rfl
theorem meth_23 (v : Value) (w : World) : (method 280 106 v "loop.example/g00129/impl.req").run Tryz.prog w = .ok (110, v) w := by kernel_rfl
theorem callf_23 (v : Value) (w : World) : (callFunc 110 #[v]).run Tryz.prog w = .ok (.enter 110 #[v]) w := by kernel_rfl
theorem allW_one {ws : List Int} (h : ws.length = 1) : allW ws = inB (ws.getD 0 0) 0 65535 := by
  unfold allW inB
  rw [Bool.eq_iff_iff]
  simp only [decide_eq_true_eq]
  constructor
  · intro hh; exact hh 0 (by omega)
  · intro hh k hk
    obtain rfl : k = 0 := by omega
    exact hh
theorem allW_two {ws : List Int} (h : ws.length = 2) : allW ws = (inB (ws.getD 0 0) 0 65535 && inB (ws.getD 1 0) 0 65535) := by
  unfold allW inB
  rw [Bool.eq_iff_iff]
  simp only [decide_eq_true_eq, Bool.and_eq_true]
  constructor
  · intro hh; exact ⟨hh 0 (by omega), hh 1 (by omega)⟩
  · intro hh k hk
    obtain rfl | rfl : k = 0 ∨ k = 1 := by omega
    · exact hh.1
    · exact hh.2
theorem list_one {bs : List Bool} (h : bs.length = 1) : bs = [bs.getD 0 false] := by
  match bs, h with
  | [x], _ => rfl
theorem ints_one {ws : List Int} (h : ws.length = 1) : ws = [ws.getD 0 0] := by
  match ws, h with
  | [x], _ => rfl
theorem ints_two {ws : List Int} (h : ws.length = 2) : ws = [ws.getD 0 0, ws.getD 1 0] := by
  match ws, h with
  | [x, y], _ => rfl
theorem okI_1 (pl nn wa : Int) (ws : List Int) (l1 l2 : Nat) (h1 : l1 = ws.length) : okR 1 pl nn wa ws l1 l2 = (rnB pl nn 2000 && (decide (wa = 0) && (decide (l1 = 0) && (decide (l2 = 0))))) := by
  by_cases hl : l1 = 0
  · have hW : allW ws = true := allW_good (fun k hk => by omega)
    rw [Bool.eq_iff_iff]; simp [okR, okK, zrB, inB, fitB, rnB, hW, hl]; omega
  · rw [Bool.eq_iff_iff]; simp [okR, okK, zrB, hl]
theorem okI_2 (pl nn wa : Int) (ws : List Int) (l1 l2 : Nat) (h1 : l1 = ws.length) : okR 2 pl nn wa ws l1 l2 = (rnB pl nn 2000 && (decide (wa = 0) && (decide (l1 = 0) && (decide (l2 = 0))))) := by
  by_cases hl : l1 = 0
  · have hW : allW ws = true := allW_good (fun k hk => by omega)
    rw [Bool.eq_iff_iff]; simp [okR, okK, zrB, inB, fitB, rnB, hW, hl]; omega
  · rw [Bool.eq_iff_iff]; simp [okR, okK, zrB, hl]
theorem okI_3 (pl nn wa : Int) (ws : List Int) (l1 l2 : Nat) (h1 : l1 = ws.length) : okR 3 pl nn wa ws l1 l2 = (rnB pl nn 125 && (decide (wa = 0) && (decide (l1 = 0) && (decide (l2 = 0))))) := by
  by_cases hl : l1 = 0
  · have hW : allW ws = true := allW_good (fun k hk => by omega)
    rw [Bool.eq_iff_iff]; simp [okR, okK, zrB, inB, fitB, rnB, hW, hl]; omega
  · rw [Bool.eq_iff_iff]; simp [okR, okK, zrB, hl]
theorem okI_4 (pl nn wa : Int) (ws : List Int) (l1 l2 : Nat) (h1 : l1 = ws.length) : okR 4 pl nn wa ws l1 l2 = (rnB pl nn 125 && (decide (wa = 0) && (decide (l1 = 0) && (decide (l2 = 0))))) := by
  by_cases hl : l1 = 0
  · have hW : allW ws = true := allW_good (fun k hk => by omega)
    rw [Bool.eq_iff_iff]; simp [okR, okK, zrB, inB, fitB, rnB, hW, hl]; omega
  · rw [Bool.eq_iff_iff]; simp [okR, okK, zrB, hl]
theorem okI_5 (pl nn wa : Int) (ws : List Int) (l1 l2 : Nat) (h1 : l1 = ws.length) : okR 5 pl nn wa ws l1 l2 = (decide (l2 = 1) && (inB pl 0 65535 && (decide (nn = 0) && (decide (wa = 0) && (decide (l1 = 0)))))) := by
  by_cases hl : l1 = 0
  · have hW : allW ws = true := allW_good (fun k hk => by omega)
    rw [Bool.eq_iff_iff]; simp [okR, okK, zrB, inB, fitB, rnB, hW, hl]; omega
  · rw [Bool.eq_iff_iff]; simp [okR, okK, zrB, hl]
theorem okI_6 (pl nn wa : Int) (ws : List Int) (l1 l2 : Nat) (h1 : l1 = ws.length) : okR 6 pl nn wa ws l1 l2 = (decide (l1 = 1) && (inB pl 0 65535 && (inB (ws.getD 0 0) 0 65535 && (decide (nn = 0) && (decide (wa = 0) && (decide (l2 = 0))))))) := by
  by_cases hl : l1 = 1
  · rw [Bool.eq_iff_iff, okR, allW_one (by omega)]; simp [okR, okK, zrB, inB, fitB, rnB, hl]; omega
  · rw [Bool.eq_iff_iff]; simp [okR, okK, zrB, hl]
theorem okI_15 (pl nn wa : Int) (ws : List Int) (l1 l2 : Nat) (h1 : l1 = ws.length) : okR 15 pl nn wa ws l1 l2 = (rnB pl (l2 : Int) 1968 && (decide (nn = 0) && (decide (wa = 0) && (decide (l1 = 0))))) := by
  by_cases hl : l1 = 0
  · have hW : allW ws = true := allW_good (fun k hk => by omega)
    rw [Bool.eq_iff_iff]; simp [okR, okK, zrB, inB, fitB, rnB, hW, hl]; omega
  · rw [Bool.eq_iff_iff]; simp [okR, okK, zrB, hl]
theorem okI_16 (pl nn wa : Int) (ws : List Int) (l1 l2 : Nat) (h1 : l1 = ws.length) : okR 16 pl nn wa ws l1 l2 = (rnB pl (l1 : Int) 123 && (allW ws && (decide (nn = 0) && (decide (wa = 0) && (decide (l2 = 0)))))) := by
  cases hW : allW ws
  · simp [okR, hW]
  · rw [Bool.eq_iff_iff]; simp [okR, okK, zrB, inB, fitB, rnB, hW]; omega
theorem okI_22 (pl nn wa : Int) (ws : List Int) (l1 l2 : Nat) (h1 : l1 = ws.length) : okR 22 pl nn wa ws l1 l2 = (decide (l1 = 2) && (inB pl 0 65535 && (inB (ws.getD 0 0) 0 65535 && (inB (ws.getD 1 0) 0 65535 && (decide (nn = 0) && (decide (wa = 0) && (decide (l2 = 0)))))))) := by
  by_cases hl : l1 = 2
  · rw [Bool.eq_iff_iff, okR, allW_two (by omega)]; simp [okR, okK, zrB, inB, fitB, rnB, hl]; omega
  · rw [Bool.eq_iff_iff]; simp [okR, okK, zrB, hl]
theorem okI_23 (pl nn wa : Int) (ws : List Int) (l1 l2 : Nat) (h1 : l1 = ws.length) : okR 23 pl nn wa ws l1 l2 = (rnB pl nn 125 && (rnB wa (l1 : Int) 121 && (allW ws && (decide (l2 = 0))))) := by
  cases hW : allW ws
  · simp [okR, hW]
  · rw [Bool.eq_iff_iff]; simp [okR, okK, zrB, inB, fitB, rnB, hW]; omega
set_option maxRecDepth 20000 in
set_option maxHeartbeats 8000000 in
theorem rq_false (kd pl nn wa : Int) (a1 a2 : Option Addr) (l1 l2 c1 c2 : Nat) (w : World) (q : Value)
    (hq : ∀ u, Below w.heap.size w u → Calls Tryz.prog 54 #[rq kd pl nn wa a1 a2 l1 l2 c1 c2] u fun e u' => e = .returned q ∧ Below u.heap.size u u')
    (hi : ∀ u, Below w.heap.size w u → Calls Tryz.prog 55 #[q] u fun e u' => e = .returned (.bool false) ∧ Below u.heap.size u u')
    : Calls Tryz.prog 33 #[rq kd pl nn wa a1 a2 l1 l2 c1 c2] w fun e w' => e = .returned .nilIface ∧ Below w.heap.size w w' := by
  have B0 := bel_alloc w (.cells #[.int .i64 kd, .int .i64 pl, .int .i64 nn, .slice a1 l1 c1, .slice a2 l2 c2, .int .i64 wa] 30)
  have X0 := Blk.new w #[.int .i64 kd, .int .i64 pl, .int .i64 nn, .slice a1 l1 c1, .slice a2 l2 c2, .int .i64 wa] 30
  obtain ⟨x0, x1, x2, x3, x4, x5⟩ := X0.six
  go_enter Tryz.func33, Tryz.ntmps33
  go_wp2_with fail
  refine (hq _ B0).mono ?_
  rintro e w1 ⟨rfl, b'⟩
  have B1 := bel_next B0 b'
  have Y := X0.below b'
  clear X0 x0 x1 x2 x3 x4 x5 hq
  go_upto_region 2 with fail
  refine wp_region_any (by kernel_rfl) ?_
  (try (change wpAny _ _ _ _ _ _ _ (World.drew _)))
  refine wpAny_ready (rs := [0]) (by kernel_rfl) (by simp) ?_
  refine AllReady.cons rfl (fun K hK => ?_) AllReady.nil
  go_simp
  refine hK _ _ ?_
  clear hK K
  refine wpAny_ready (rs := [1]) (by kernel_rfl) (by simp) ?_
  refine AllReady.cons rfl (fun K hK => ?_) AllReady.nil
  go_simp
  go_wp2_with (go_at_call 55; refine (hi _ (by first | exact B1 | exact B1.drew)).mono ?_; rintro e w2 ⟨rfl, b2'⟩; have B2 := bel_next (by first | exact B1 | exact B1.drew) b2'; have Y2 := (Y.below (Below.refl _ _).drew).below b2'; clear b2' Y hi)
  try (refine hK _ _ ?_; clear hK K)
  obtain ⟨y0, y1, y2, y3, y4, y5⟩ := Y2.six
  refine wpAny_ready (rs := [2]) (by kernel_rfl) (by simp) ?_
  refine AllReady.cons rfl (fun K hK => ?_) AllReady.nil
  go_simp
  refine hK _ _ ?_
  clear hK K
  refine wpAny_ready (rs := [3, 5]) (by kernel_rfl) (by simp) ?_
  refine AllReady.cons rfl (fun K hK => ?_) ?_
  · skip
    go_simp
    refine hK _ _ ?_
    clear hK K
    refine wpAny_ready (rs := [4, 5]) (by kernel_rfl) (by simp) ?_
    refine AllReady.cons rfl (fun K hK => ?_) ?_
    · skip
      go_simp
      refine hK _ _ ?_
      clear hK K
      refine wpAny_ready (rs := [5]) (by kernel_rfl) (by simp) ?_
      refine AllReady.cons rfl (fun K hK => ?_) AllReady.nil
      go_simp
      refine hK _ _ ?_
      clear hK K
      refine wpAny_ready (rs := [6]) (by kernel_rfl) (by simp) ?_
      refine AllReady.cons rfl (fun K hK => ?_) AllReady.nil
      go_simp
      refine hK _ _ ?_
      clear hK K
      refine wpAny_ready (rs := [7]) (by kernel_rfl) (by simp) ?_
      refine AllReady.cons rfl (fun K hK => ?_) AllReady.nil
      go_simp
      refine hK _ _ ?_
      clear hK K
      refine wpAny_done (by kernel_rfl) ?_ _
      go_wp2
      go_ret
      exact ⟨rfl, B2⟩
    · refine AllReady.cons rfl (fun K hK => ?_) AllReady.nil
      go_simp
      refine hK _ _ ?_
      clear hK K
      refine wpAny_ready (rs := [4]) (by kernel_rfl) (by simp) ?_
      refine AllReady.cons rfl (fun K hK => ?_) AllReady.nil
      go_simp
      refine hK _ _ ?_
      clear hK K
      refine wpAny_ready (rs := [6]) (by kernel_rfl) (by simp) ?_
      refine AllReady.cons rfl (fun K hK => ?_) AllReady.nil
      go_simp
      refine hK _ _ ?_
      clear hK K
      refine wpAny_ready (rs := [7]) (by kernel_rfl) (by simp) ?_
      refine AllReady.cons rfl (fun K hK => ?_) AllReady.nil
      go_simp
      refine hK _ _ ?_
      clear hK K
      refine wpAny_done (by kernel_rfl) ?_ _
      go_wp2
      go_ret
      exact ⟨rfl, B2⟩
  · refine AllReady.cons rfl (fun K hK => ?_) AllReady.nil
    go_simp
    refine hK _ _ ?_
    clear hK K
    refine wpAny_ready (rs := [3]) (by kernel_rfl) (by simp) ?_
    refine AllReady.cons rfl (fun K hK => ?_) AllReady.nil
    go_simp
    refine hK _ _ ?_
    clear hK K
    refine wpAny_ready (rs := [4]) (by kernel_rfl) (by simp) ?_
    refine AllReady.cons rfl (fun K hK => ?_) AllReady.nil
    go_simp
    refine hK _ _ ?_
    clear hK K
    refine wpAny_ready (rs := [6]) (by kernel_rfl) (by simp) ?_
    refine AllReady.cons rfl (fun K hK => ?_) AllReady.nil
    go_simp
    refine hK _ _ ?_
    clear hK K
    refine wpAny_ready (rs := [7]) (by kernel_rfl) (by simp) ?_
    refine AllReady.cons rfl (fun K hK => ?_) AllReady.nil
    go_simp
    refine hK _ _ ?_
    clear hK K
    refine wpAny_done (by kernel_rfl) ?_ _
    go_wp2
    go_ret
    exact ⟨rfl, B2⟩
set_option maxRecDepth 20000 in
set_option maxHeartbeats 8000000 in
theorem rq_true (kd pl nn wa : Int) (a1 a2 : Option Addr) (l1 l2 c1 c2 : Nat) (w : World) (T : TypeId) (v : Value) (F : Nat) (bsm : Bool)
    (hq : ∀ u, Below w.heap.size w u → Calls Tryz.prog 54 #[rq kd pl nn wa a1 a2 l1 l2 c1 c2] u fun e u' => e = .returned (.iface T v) ∧ Below u.heap.size u u')
    (hi : ∀ u, Below w.heap.size w u → Calls Tryz.prog 55 #[(.iface T v)] u fun e u' => e = .returned (.bool true) ∧ Below u.heap.size u u')
    (hc : ∀ u, (callFunc F #[v]).run Tryz.prog u = .ok (.enter F #[v]) u)
    (hm : ∀ u, (method 280 T v "loop.example/g00129/impl.req").run Tryz.prog u = .ok (F, v) u)
    (hr : ∀ u, Below w.heap.size w u → Calls Tryz.prog F #[v] u fun e u' => ∃ x, e = .returned x ∧ Below u.heap.size u u' ∧ Calls Tryz.prog 56 #[x, rq kd pl nn wa a1 a2 l1 l2 c1 c2] u' fun e u3 => e = .returned (.bool bsm) ∧ Below u'.heap.size u' u3) :
    Calls Tryz.prog 33 #[rq kd pl nn wa a1 a2 l1 l2 c1 c2] w fun e w' => e = .returned (bif bsm then .iface T v else .nilIface) ∧ Below w.heap.size w w' := by
  have B0 := bel_alloc w (.cells #[.int .i64 kd, .int .i64 pl, .int .i64 nn, .slice a1 l1 c1, .slice a2 l2 c2, .int .i64 wa] 30)
  have X0 := Blk.new w #[.int .i64 kd, .int .i64 pl, .int .i64 nn, .slice a1 l1 c1, .slice a2 l2 c2, .int .i64 wa] 30
  obtain ⟨x0, x1, x2, x3, x4, x5⟩ := X0.six
  go_enter Tryz.func33, Tryz.ntmps33
  go_wp2_with fail
  refine (hq _ B0).mono ?_
  rintro e w1 ⟨rfl, b'⟩
  have B1 := bel_next B0 b'
  have Y := X0.below b'
  clear X0 x0 x1 x2 x3 x4 x5 hq
  go_upto_region 2 with fail
  refine wp_region_any (by kernel_rfl) ?_
  (try (change wpAny _ _ _ _ _ _ _ (World.drew _)))
  refine wpAny_ready (rs := [0]) (by kernel_rfl) (by simp) ?_
  refine AllReady.cons rfl (fun K hK => ?_) AllReady.nil
  go_simp
  refine hK _ _ ?_
  clear hK K
  refine wpAny_ready (rs := [1]) (by kernel_rfl) (by simp) ?_
  refine AllReady.cons rfl (fun K hK => ?_) AllReady.nil
  go_simp
  go_wp2_with (go_at_call 55; refine (hi _ (by first | exact B1 | exact B1.drew)).mono ?_; rintro e w2 ⟨rfl, b2'⟩; have B2 := bel_next (by first | exact B1 | exact B1.drew) b2'; have Y2 := (Y.below (Below.refl _ _).drew).below b2'; clear b2' Y hi)
  try (refine hK _ _ ?_; clear hK K)
  obtain ⟨y0, y1, y2, y3, y4, y5⟩ := Y2.six
  refine wpAny_ready (rs := [2]) (by kernel_rfl) (by simp) ?_
  refine AllReady.cons rfl (fun K hK => ?_) AllReady.nil
  go_simp
  refine hK _ _ ?_
  clear hK K
  refine wpAny_ready (rs := [3, 5]) (by kernel_rfl) (by simp) ?_
  refine AllReady.cons rfl (fun K hK => ?_) ?_
  · skip
    go_simp
    refine hK _ _ ?_
    clear hK K
    refine wpAny_ready (rs := [4, 5]) (by kernel_rfl) (by simp) ?_
    refine AllReady.cons rfl (fun K hK => ?_) ?_
    · skip
      go_simp
      go_wp2_with (refine (hr _ B2).mono ?_; rintro e w3 ⟨x, rfl, b3', hs⟩; have B3 := bel_next B2 b3'; have Y3 := Y2.below b3'; clear b3' Y2 y0 y1 y2 y3 y4 y5)
      try (refine hK _ _ ?_; clear hK K)
      obtain ⟨y0, y1, y2, y3, y4, y5⟩ := Y3.six
      refine wpAny_ready (rs := [5]) (by kernel_rfl) (by simp) ?_
      refine AllReady.cons rfl (fun K hK => ?_) AllReady.nil
      go_simp
      refine hK _ _ ?_
      clear hK K
      refine wpAny_ready (rs := [6]) (by kernel_rfl) (by simp) ?_
      refine AllReady.cons rfl (fun K hK => ?_) AllReady.nil
      go_simp
      go_wp2_with (go_at_call 56; refine hs.mono ?_; rintro e w4 ⟨rfl, b4'⟩; have B4 := bel_next B3 b4'; clear b4' hs)
      try (refine hK _ _ ?_; clear hK K)
      refine wpAny_ready (rs := [7]) (by kernel_rfl) (by simp) ?_
      refine AllReady.cons rfl (fun K hK => ?_) AllReady.nil
      go_simp
      refine hK _ _ ?_
      clear hK K
      refine wpAny_done (by kernel_rfl) ?_ _
      cases bsm
      · go_wp2
        go_ret
        exact ⟨rfl, B4⟩
      · go_wp2
        go_ret
        exact ⟨rfl, B4⟩
    · refine AllReady.cons rfl (fun K hK => ?_) AllReady.nil
      go_simp
      refine hK _ _ ?_
      clear hK K
      refine wpAny_ready (rs := [4]) (by kernel_rfl) (by simp) ?_
      refine AllReady.cons rfl (fun K hK => ?_) AllReady.nil
      go_simp
      go_wp2_with (refine (hr _ B2).mono ?_; rintro e w3 ⟨x, rfl, b3', hs⟩; have B3 := bel_next B2 b3'; have Y3 := Y2.below b3'; clear b3' Y2 y0 y1 y2 y3 y4 y5)
      try (refine hK _ _ ?_; clear hK K)
      obtain ⟨y0, y1, y2, y3, y4, y5⟩ := Y3.six
      refine wpAny_ready (rs := [6]) (by kernel_rfl) (by simp) ?_
      refine AllReady.cons rfl (fun K hK => ?_) AllReady.nil
      go_simp
      go_wp2_with (go_at_call 56; refine hs.mono ?_; rintro e w4 ⟨rfl, b4'⟩; have B4 := bel_next B3 b4'; clear b4' hs)
      try (refine hK _ _ ?_; clear hK K)
      refine wpAny_ready (rs := [7]) (by kernel_rfl) (by simp) ?_
      refine AllReady.cons rfl (fun K hK => ?_) AllReady.nil
      go_simp
      refine hK _ _ ?_
      clear hK K
      refine wpAny_done (by kernel_rfl) ?_ _
      cases bsm
      · go_wp2
        go_ret
        exact ⟨rfl, B4⟩
      · go_wp2
        go_ret
        exact ⟨rfl, B4⟩
  · refine AllReady.cons rfl (fun K hK => ?_) AllReady.nil
    go_simp
    refine hK _ _ ?_
    clear hK K
    refine wpAny_ready (rs := [3]) (by kernel_rfl) (by simp) ?_
    refine AllReady.cons rfl (fun K hK => ?_) AllReady.nil
    go_simp
    refine hK _ _ ?_
    clear hK K
    refine wpAny_ready (rs := [4]) (by kernel_rfl) (by simp) ?_
    refine AllReady.cons rfl (fun K hK => ?_) AllReady.nil
    go_simp
    go_wp2_with (refine (hr _ B2).mono ?_; rintro e w3 ⟨x, rfl, b3', hs⟩; have B3 := bel_next B2 b3'; have Y3 := Y2.below b3'; clear b3' Y2 y0 y1 y2 y3 y4 y5)
    try (refine hK _ _ ?_; clear hK K)
    obtain ⟨y0, y1, y2, y3, y4, y5⟩ := Y3.six
    refine wpAny_ready (rs := [6]) (by kernel_rfl) (by simp) ?_
    refine AllReady.cons rfl (fun K hK => ?_) AllReady.nil
    go_simp
    go_wp2_with (go_at_call 56; refine hs.mono ?_; rintro e w4 ⟨rfl, b4'⟩; have B4 := bel_next B3 b4'; clear b4' hs)
    try (refine hK _ _ ?_; clear hK K)
    refine wpAny_ready (rs := [7]) (by kernel_rfl) (by simp) ?_
    refine AllReady.cons rfl (fun K hK => ?_) AllReady.nil
    go_simp
    refine hK _ _ ?_
    clear hK K
    refine wpAny_done (by kernel_rfl) ?_ _
    cases bsm
    · go_wp2
      go_ret
      exact ⟨rfl, B4⟩
    · go_wp2
      go_ret
      exact ⟨rfl, B4⟩
set_option maxRecDepth 20000 in
set_option maxHeartbeats 2000000 in
theorem rightQuestion_1 (pl nn wa : Int) (a1 a2 : Option Addr) (l1 l2 c1 c2 : Nat) (ws : List Int) (bs : List Bool) (w : World) (h1 : l1 = ws.length) (h2 : l2 = bs.length) (s1 : SlI w a1 ws) (s2 : SlB w a2 bs) (hl1 : ws.length ≤ 2000000) (hl2 : bs.length ≤ 2000000) (b : Bool) (hb : okR 1 pl nn wa ws l1 l2 = b) :
    Calls Tryz.prog 33 #[rq 1 pl nn wa a1 a2 l1 l2 c1 c2] w fun e w' => e = .returned (bif b then .iface 87 (.agg #[.int .i64 pl, .int .i64 nn]) else .nilIface) ∧ Below w.heap.size w w' := by
  subst hb
  rw [okI_1 _ _ _ _ _ _ h1]
  rw [show (rnB pl nn 2000 && (decide (wa = 0) && (decide (l1 = 0) && (decide (l2 = 0))))) = ((rnB pl nn 2000) && (decide (wa = 0) && (decide (l1 = 0) && (decide (l2 = 0))))) from by simp only [Bool.and_assoc]]
  cases hI : (rnB pl nn 2000)
  · rw [Bool.false_and]
    exact rq_false 1 pl nn wa a1 a2 l1 l2 c1 c2 w _ (fun u hu => questionOf_1 pl nn wa a1 a2 l1 l2 c1 c2 u) (fun u hu => isRight_1 _ _ u _ hI)
  · rw [Bool.true_and]
    refine rq_true 1 pl nn wa a1 a2 l1 l2 c1 c2 w _ _ 101 _ (fun u hu => questionOf_1 pl nn wa a1 a2 l1 l2 c1 c2 u) (fun u hu => isRight_1 _ _ u _ hI) (callf_1 _) (meth_1 _) (fun u hu => (req_1 _ _ u).mono ?_)
    rintro e u' ⟨rfl, bu⟩
    refine ⟨_, rfl, bu, ?_⟩
    have hu2 := bel_next hu bu
    by_cases hww : wa = 0
    rotate_left
    · rw [decide_eq_false hww]
      exact sameReq_w _ _ _ _ _ _ _ _ _ _ _ _ _ _ _ _ _ _ _ rfl (fun h => hww h.symm)
    rw [decide_eq_true hww, Bool.true_and]
    by_cases hll1 : l1 = 0
    rotate_left
    · rw [decide_eq_false hll1]
      exact sameReq_1 _ _ _ _ _ _ _ _ _ _ _ _ _ _ _ _ _ _ _ rfl hww (by omega) (by omega) (by omega)
    rw [decide_eq_true hll1, Bool.true_and]
    by_cases hll2 : l2 = 0
    rotate_left
    · rw [decide_eq_false hll2]
      exact sameReq_2 _ _ _ _ _ _ _ _ _ _ _ _ _ _ _ _ _ _ _ rfl hww [] rfl hll1 (.inl rfl) (.inl rfl) (by simp) (by omega) (by omega) (by omega)
    rw [decide_eq_true hll2]
    exact sameReq_t _ _ _ _ _ _ _ _ _ _ _ _ _ _ _ _ _ _ _ rfl hww [] rfl hll1 (.inl rfl) (.inl rfl) (by simp) [] rfl hll2 (.inl rfl) (.inl rfl) (by simp)
set_option maxRecDepth 20000 in
set_option maxHeartbeats 2000000 in
theorem rightQuestion_2 (pl nn wa : Int) (a1 a2 : Option Addr) (l1 l2 c1 c2 : Nat) (ws : List Int) (bs : List Bool) (w : World) (h1 : l1 = ws.length) (h2 : l2 = bs.length) (s1 : SlI w a1 ws) (s2 : SlB w a2 bs) (hl1 : ws.length ≤ 2000000) (hl2 : bs.length ≤ 2000000) (b : Bool) (hb : okR 2 pl nn wa ws l1 l2 = b) :
    Calls Tryz.prog 33 #[rq 2 pl nn wa a1 a2 l1 l2 c1 c2] w fun e w' => e = .returned (bif b then .iface 89 (.agg #[.int .i64 pl, .int .i64 nn]) else .nilIface) ∧ Below w.heap.size w w' := by
  subst hb
  rw [okI_2 _ _ _ _ _ _ h1]
  rw [show (rnB pl nn 2000 && (decide (wa = 0) && (decide (l1 = 0) && (decide (l2 = 0))))) = ((rnB pl nn 2000) && (decide (wa = 0) && (decide (l1 = 0) && (decide (l2 = 0))))) from by simp only [Bool.and_assoc]]
  cases hI : (rnB pl nn 2000)
  · rw [Bool.false_and]
    exact rq_false 2 pl nn wa a1 a2 l1 l2 c1 c2 w _ (fun u hu => questionOf_2 pl nn wa a1 a2 l1 l2 c1 c2 u) (fun u hu => isRight_2 _ _ u _ hI)
  · rw [Bool.true_and]
    refine rq_true 2 pl nn wa a1 a2 l1 l2 c1 c2 w _ _ 102 _ (fun u hu => questionOf_2 pl nn wa a1 a2 l1 l2 c1 c2 u) (fun u hu => isRight_2 _ _ u _ hI) (callf_2 _) (meth_2 _) (fun u hu => (req_2 _ _ u).mono ?_)
    rintro e u' ⟨rfl, bu⟩
    refine ⟨_, rfl, bu, ?_⟩
    have hu2 := bel_next hu bu
    by_cases hww : wa = 0
    rotate_left
    · rw [decide_eq_false hww]
      exact sameReq_w _ _ _ _ _ _ _ _ _ _ _ _ _ _ _ _ _ _ _ rfl (fun h => hww h.symm)
    rw [decide_eq_true hww, Bool.true_and]
    by_cases hll1 : l1 = 0
    rotate_left
    · rw [decide_eq_false hll1]
      exact sameReq_1 _ _ _ _ _ _ _ _ _ _ _ _ _ _ _ _ _ _ _ rfl hww (by omega) (by omega) (by omega)
    rw [decide_eq_true hll1, Bool.true_and]
    by_cases hll2 : l2 = 0
    rotate_left
    · rw [decide_eq_false hll2]
      exact sameReq_2 _ _ _ _ _ _ _ _ _ _ _ _ _ _ _ _ _ _ _ rfl hww [] rfl hll1 (.inl rfl) (.inl rfl) (by simp) (by omega) (by omega) (by omega)
    rw [decide_eq_true hll2]
    exact sameReq_t _ _ _ _ _ _ _ _ _ _ _ _ _ _ _ _ _ _ _ rfl hww [] rfl hll1 (.inl rfl) (.inl rfl) (by simp) [] rfl hll2 (.inl rfl) (.inl rfl) (by simp)
set_option maxRecDepth 20000 in
set_option maxHeartbeats 2000000 in
theorem rightQuestion_3 (pl nn wa : Int) (a1 a2 : Option Addr) (l1 l2 c1 c2 : Nat) (ws : List Int) (bs : List Bool) (w : World) (h1 : l1 = ws.length) (h2 : l2 = bs.length) (s1 : SlI w a1 ws) (s2 : SlB w a2 bs) (hl1 : ws.length ≤ 2000000) (hl2 : bs.length ≤ 2000000) (b : Bool) (hb : okR 3 pl nn wa ws l1 l2 = b) :
    Calls Tryz.prog 33 #[rq 3 pl nn wa a1 a2 l1 l2 c1 c2] w fun e w' => e = .returned (bif b then .iface 90 (.agg #[.int .i64 pl, .int .i64 nn]) else .nilIface) ∧ Below w.heap.size w w' := by
  subst hb
  rw [okI_3 _ _ _ _ _ _ h1]
  rw [show (rnB pl nn 125 && (decide (wa = 0) && (decide (l1 = 0) && (decide (l2 = 0))))) = ((rnB pl nn 125) && (decide (wa = 0) && (decide (l1 = 0) && (decide (l2 = 0))))) from by simp only [Bool.and_assoc]]
  cases hI : (rnB pl nn 125)
  · rw [Bool.false_and]
    exact rq_false 3 pl nn wa a1 a2 l1 l2 c1 c2 w _ (fun u hu => questionOf_3 pl nn wa a1 a2 l1 l2 c1 c2 u) (fun u hu => isRight_3 _ _ u _ hI)
  · rw [Bool.true_and]
    refine rq_true 3 pl nn wa a1 a2 l1 l2 c1 c2 w _ _ 103 _ (fun u hu => questionOf_3 pl nn wa a1 a2 l1 l2 c1 c2 u) (fun u hu => isRight_3 _ _ u _ hI) (callf_3 _) (meth_3 _) (fun u hu => (req_3 _ _ u).mono ?_)
    rintro e u' ⟨rfl, bu⟩
    refine ⟨_, rfl, bu, ?_⟩
    have hu2 := bel_next hu bu
    by_cases hww : wa = 0
    rotate_left
    · rw [decide_eq_false hww]
      exact sameReq_w _ _ _ _ _ _ _ _ _ _ _ _ _ _ _ _ _ _ _ rfl (fun h => hww h.symm)
    rw [decide_eq_true hww, Bool.true_and]
    by_cases hll1 : l1 = 0
    rotate_left
    · rw [decide_eq_false hll1]
      exact sameReq_1 _ _ _ _ _ _ _ _ _ _ _ _ _ _ _ _ _ _ _ rfl hww (by omega) (by omega) (by omega)
    rw [decide_eq_true hll1, Bool.true_and]
    by_cases hll2 : l2 = 0
    rotate_left
    · rw [decide_eq_false hll2]
      exact sameReq_2 _ _ _ _ _ _ _ _ _ _ _ _ _ _ _ _ _ _ _ rfl hww [] rfl hll1 (.inl rfl) (.inl rfl) (by simp) (by omega) (by omega) (by omega)
    rw [decide_eq_true hll2]
    exact sameReq_t _ _ _ _ _ _ _ _ _ _ _ _ _ _ _ _ _ _ _ rfl hww [] rfl hll1 (.inl rfl) (.inl rfl) (by simp) [] rfl hll2 (.inl rfl) (.inl rfl) (by simp)
set_option maxRecDepth 20000 in
set_option maxHeartbeats 2000000 in
theorem rightQuestion_4 (pl nn wa : Int) (a1 a2 : Option Addr) (l1 l2 c1 c2 : Nat) (ws : List Int) (bs : List Bool) (w : World) (h1 : l1 = ws.length) (h2 : l2 = bs.length) (s1 : SlI w a1 ws) (s2 : SlB w a2 bs) (hl1 : ws.length ≤ 2000000) (hl2 : bs.length ≤ 2000000) (b : Bool) (hb : okR 4 pl nn wa ws l1 l2 = b) :
    Calls Tryz.prog 33 #[rq 4 pl nn wa a1 a2 l1 l2 c1 c2] w fun e w' => e = .returned (bif b then .iface 91 (.agg #[.int .i64 pl, .int .i64 nn]) else .nilIface) ∧ Below w.heap.size w w' := by
  subst hb
  rw [okI_4 _ _ _ _ _ _ h1]
  rw [show (rnB pl nn 125 && (decide (wa = 0) && (decide (l1 = 0) && (decide (l2 = 0))))) = ((rnB pl nn 125) && (decide (wa = 0) && (decide (l1 = 0) && (decide (l2 = 0))))) from by simp only [Bool.and_assoc]]
  cases hI : (rnB pl nn 125)
  · rw [Bool.false_and]
    exact rq_false 4 pl nn wa a1 a2 l1 l2 c1 c2 w _ (fun u hu => questionOf_4 pl nn wa a1 a2 l1 l2 c1 c2 u) (fun u hu => isRight_4 _ _ u _ hI)
  · rw [Bool.true_and]
    refine rq_true 4 pl nn wa a1 a2 l1 l2 c1 c2 w _ _ 104 _ (fun u hu => questionOf_4 pl nn wa a1 a2 l1 l2 c1 c2 u) (fun u hu => isRight_4 _ _ u _ hI) (callf_4 _) (meth_4 _) (fun u hu => (req_4 _ _ u).mono ?_)
    rintro e u' ⟨rfl, bu⟩
    refine ⟨_, rfl, bu, ?_⟩
    have hu2 := bel_next hu bu
    by_cases hww : wa = 0
    rotate_left
    · rw [decide_eq_false hww]
      exact sameReq_w _ _ _ _ _ _ _ _ _ _ _ _ _ _ _ _ _ _ _ rfl (fun h => hww h.symm)
    rw [decide_eq_true hww, Bool.true_and]
    by_cases hll1 : l1 = 0
    rotate_left
    · rw [decide_eq_false hll1]
      exact sameReq_1 _ _ _ _ _ _ _ _ _ _ _ _ _ _ _ _ _ _ _ rfl hww (by omega) (by omega) (by omega)
    rw [decide_eq_true hll1, Bool.true_and]
    by_cases hll2 : l2 = 0
    rotate_left
    · rw [decide_eq_false hll2]
      exact sameReq_2 _ _ _ _ _ _ _ _ _ _ _ _ _ _ _ _ _ _ _ rfl hww [] rfl hll1 (.inl rfl) (.inl rfl) (by simp) (by omega) (by omega) (by omega)
    rw [decide_eq_true hll2]
    exact sameReq_t _ _ _ _ _ _ _ _ _ _ _ _ _ _ _ _ _ _ _ rfl hww [] rfl hll1 (.inl rfl) (.inl rfl) (by simp) [] rfl hll2 (.inl rfl) (.inl rfl) (by simp)
set_option maxRecDepth 20000 in
set_option maxHeartbeats 2000000 in
theorem rightQuestion_5 (pl nn wa : Int) (a1 a2 : Option Addr) (l1 l2 c1 c2 : Nat) (ws : List Int) (bs : List Bool) (w : World) (h1 : l1 = ws.length) (h2 : l2 = bs.length) (s1 : SlI w a1 ws) (s2 : SlB w a2 bs) (hl1 : ws.length ≤ 2000000) (hl2 : bs.length ≤ 2000000) (b : Bool) (hb : okR 5 pl nn wa ws l1 l2 = b) :
    Calls Tryz.prog 33 #[rq 5 pl nn wa a1 a2 l1 l2 c1 c2] w fun e w' => e = .returned (bif b then .iface 93 (.agg #[.int .i64 pl, .bool (bs.getD 0 false)]) else .nilIface) ∧ Below w.heap.size w w' := by
  subst hb
  rw [okI_5 _ _ _ _ _ _ h1]
  by_cases hL : l2 = 1
  rotate_left
  · rw [decide_eq_false hL]
    exact rq_false 5 pl nn wa a1 a2 l1 l2 c1 c2 w .nilIface (fun u hu => questionOf_5n pl nn wa a1 a2 l1 l2 c1 c2 u (by simp; omega)) (fun u hu => isRight_n u)
  rw [decide_eq_true hL, Bool.true_and]
  rw [show (inB pl 0 65535 && (decide (nn = 0) && (decide (wa = 0) && (decide (l1 = 0))))) = ((inB pl 0 65535) && (decide (nn = 0) && (decide (wa = 0) && (decide (l1 = 0))))) from by simp only [Bool.and_assoc]]
  cases hI : (inB pl 0 65535)
  · rw [Bool.false_and]
    exact rq_false 5 pl nn wa a1 a2 l1 l2 c1 c2 w _ (fun u hu => questionOf_5 pl nn wa a1 a2 l1 l2 c1 c2 u bs h2 (by omega) (s2.below hu)) (fun u hu => isRight_5 _ _ u _ hI)
  · rw [Bool.true_and]
    refine rq_true 5 pl nn wa a1 a2 l1 l2 c1 c2 w _ _ 105 _ (fun u hu => questionOf_5 pl nn wa a1 a2 l1 l2 c1 c2 u bs h2 (by omega) (s2.below hu)) (fun u hu => isRight_5 _ _ u _ hI) (callf_5 _) (meth_5 _) (fun u hu => (req_5 _ _ u).mono ?_)
    rintro e u' ⟨rfl, n3, bu⟩
    refine ⟨_, rfl, bu, ?_⟩
    have hu2 := bel_next hu bu
    by_cases hnn : nn = 0
    rotate_left
    · rw [decide_eq_false hnn]
      exact sameReq_n _ _ _ _ _ _ _ _ _ _ _ _ _ _ _ _ _ _ _ (fun h => hnn h.symm)
    rw [decide_eq_true hnn, Bool.true_and]
    by_cases hww : wa = 0
    rotate_left
    · rw [decide_eq_false hww]
      exact sameReq_w _ _ _ _ _ _ _ _ _ _ _ _ _ _ _ _ _ _ _ hnn (fun h => hww h.symm)
    rw [decide_eq_true hww, Bool.true_and]
    by_cases hll1 : l1 = 0
    rotate_left
    · rw [decide_eq_false hll1]
      exact sameReq_1 _ _ _ _ _ _ _ _ _ _ _ _ _ _ _ _ _ _ _ hnn hww (by omega) (by omega) (by omega)
    rw [decide_eq_true hll1]
    exact sameReq_t _ _ _ _ _ _ _ _ _ _ _ _ _ _ _ _ _ _ _ hnn hww [] rfl hll1 (.inl rfl) (.inl rfl) (by simp) [bs.getD 0 false] rfl hL n3 (by have := s2.below hu2; rw [list_one (bs := bs) (by omega)] at this; exact this) (by simp)
set_option maxRecDepth 20000 in
set_option maxHeartbeats 2000000 in
theorem rightQuestion_6 (pl nn wa : Int) (a1 a2 : Option Addr) (l1 l2 c1 c2 : Nat) (ws : List Int) (bs : List Bool) (w : World) (h1 : l1 = ws.length) (h2 : l2 = bs.length) (s1 : SlI w a1 ws) (s2 : SlB w a2 bs) (hl1 : ws.length ≤ 2000000) (hl2 : bs.length ≤ 2000000) (b : Bool) (hb : okR 6 pl nn wa ws l1 l2 = b) :
    Calls Tryz.prog 33 #[rq 6 pl nn wa a1 a2 l1 l2 c1 c2] w fun e w' => e = .returned (bif b then .iface 96 (.agg #[.int .i64 pl, .int .i64 (ws.getD 0 0)]) else .nilIface) ∧ Below w.heap.size w w' := by
  subst hb
  rw [okI_6 _ _ _ _ _ _ h1]
  by_cases hL : l1 = 1
  rotate_left
  · rw [decide_eq_false hL]
    exact rq_false 6 pl nn wa a1 a2 l1 l2 c1 c2 w .nilIface (fun u hu => questionOf_6n pl nn wa a1 a2 l1 l2 c1 c2 u (by simp; omega)) (fun u hu => isRight_n u)
  rw [decide_eq_true hL, Bool.true_and]
  rw [show (inB pl 0 65535 && (inB (ws.getD 0 0) 0 65535 && (decide (nn = 0) && (decide (wa = 0) && (decide (l2 = 0)))))) = ((inB pl 0 65535 && inB (ws.getD 0 0) 0 65535) && (decide (nn = 0) && (decide (wa = 0) && (decide (l2 = 0))))) from by simp only [Bool.and_assoc]]
  cases hI : (inB pl 0 65535 && inB (ws.getD 0 0) 0 65535)
  · rw [Bool.false_and]
    exact rq_false 6 pl nn wa a1 a2 l1 l2 c1 c2 w _ (fun u hu => questionOf_6 pl nn wa a1 a2 l1 l2 c1 c2 u ws h1 (by omega) (s1.below hu)) (fun u hu => isRight_6 _ _ u _ hI)
  · rw [Bool.true_and]
    refine rq_true 6 pl nn wa a1 a2 l1 l2 c1 c2 w _ _ 106 _ (fun u hu => questionOf_6 pl nn wa a1 a2 l1 l2 c1 c2 u ws h1 (by omega) (s1.below hu)) (fun u hu => isRight_6 _ _ u _ hI) (callf_6 _) (meth_6 _) (fun u hu => (req_6 _ _ u).mono ?_)
    rintro e u' ⟨rfl, n3, bu⟩
    refine ⟨_, rfl, bu, ?_⟩
    have hu2 := bel_next hu bu
    by_cases hnn : nn = 0
    rotate_left
    · rw [decide_eq_false hnn]
      exact sameReq_n _ _ _ _ _ _ _ _ _ _ _ _ _ _ _ _ _ _ _ (fun h => hnn h.symm)
    rw [decide_eq_true hnn, Bool.true_and]
    by_cases hww : wa = 0
    rotate_left
    · rw [decide_eq_false hww]
      exact sameReq_w _ _ _ _ _ _ _ _ _ _ _ _ _ _ _ _ _ _ _ hnn (fun h => hww h.symm)
    rw [decide_eq_true hww, Bool.true_and]
    by_cases hll2 : l2 = 0
    rotate_left
    · rw [decide_eq_false hll2]
      exact sameReq_2 _ _ _ _ _ _ _ _ _ _ _ _ _ _ _ _ _ _ _ hnn hww [ws.getD 0 0] rfl hL n3 (by have := s1.below hu2; rw [ints_one (ws := ws) (by omega)] at this; exact this) (by simp) (by omega) (by omega) (by omega)
    rw [decide_eq_true hll2]
    exact sameReq_t _ _ _ _ _ _ _ _ _ _ _ _ _ _ _ _ _ _ _ hnn hww [ws.getD 0 0] rfl hL n3 (by have := s1.below hu2; rw [ints_one (ws := ws) (by omega)] at this; exact this) (by simp) [] rfl hll2 (.inl rfl) (.inl rfl) (by simp)
set_option maxRecDepth 20000 in
set_option maxHeartbeats 2000000 in
theorem rightQuestion_15 (pl nn wa : Int) (a1 a2 : Option Addr) (l1 l2 c1 c2 : Nat) (ws : List Int) (bs : List Bool) (w : World) (h1 : l1 = ws.length) (h2 : l2 = bs.length) (s1 : SlI w a1 ws) (s2 : SlB w a2 bs) (hl1 : ws.length ≤ 2000000) (hl2 : bs.length ≤ 2000000) (b : Bool) (hb : okR 15 pl nn wa ws l1 l2 = b) :
    Calls Tryz.prog 33 #[rq 15 pl nn wa a1 a2 l1 l2 c1 c2] w fun e w' => e = .returned (bif b then .iface 98 (.agg #[.int .i64 pl, .slice a2 l2 c2]) else .nilIface) ∧ Below w.heap.size w w' := by
  subst hb
  rw [okI_15 _ _ _ _ _ _ h1]
  rw [show (rnB pl (l2 : Int) 1968 && (decide (nn = 0) && (decide (wa = 0) && (decide (l1 = 0))))) = ((rnB pl (l2 : Int) 1968) && (decide (nn = 0) && (decide (wa = 0) && (decide (l1 = 0))))) from by simp only [Bool.and_assoc]]
  cases hI : (rnB pl (l2 : Int) 1968)
  · rw [Bool.false_and]
    exact rq_false 15 pl nn wa a1 a2 l1 l2 c1 c2 w _ (fun u hu => questionOf_15 pl nn wa a1 a2 l1 l2 c1 c2 u) (fun u hu => isRight_15 _ _ _ _ u _ hI)
  · rw [Bool.true_and]
    refine rq_true 15 pl nn wa a1 a2 l1 l2 c1 c2 w _ _ 107 _ (fun u hu => questionOf_15 pl nn wa a1 a2 l1 l2 c1 c2 u) (fun u hu => isRight_15 _ _ _ _ u _ hI) (callf_15 _) (meth_15 _) (fun u hu => (req_15 _ _ _ _ u).mono ?_)
    rintro e u' ⟨rfl, bu⟩
    refine ⟨_, rfl, bu, ?_⟩
    have hu2 := bel_next hu bu
    by_cases hnn : nn = 0
    rotate_left
    · rw [decide_eq_false hnn]
      exact sameReq_n _ _ _ _ _ _ _ _ _ _ _ _ _ _ _ _ _ _ _ (fun h => hnn h.symm)
    rw [decide_eq_true hnn, Bool.true_and]
    by_cases hww : wa = 0
    rotate_left
    · rw [decide_eq_false hww]
      exact sameReq_w _ _ _ _ _ _ _ _ _ _ _ _ _ _ _ _ _ _ _ hnn (fun h => hww h.symm)
    rw [decide_eq_true hww, Bool.true_and]
    by_cases hll1 : l1 = 0
    rotate_left
    · rw [decide_eq_false hll1]
      exact sameReq_1 _ _ _ _ _ _ _ _ _ _ _ _ _ _ _ _ _ _ _ hnn hww (by omega) (by omega) (by omega)
    rw [decide_eq_true hll1]
    exact sameReq_t _ _ _ _ _ _ _ _ _ _ _ _ _ _ _ _ _ _ _ hnn hww [] rfl hll1 (.inl rfl) (.inl rfl) (by simp) bs h2 h2 (s2.below hu2) (s2.below hu2) hl2
set_option maxRecDepth 20000 in
set_option maxHeartbeats 2000000 in
theorem rightQuestion_16 (pl nn wa : Int) (a1 a2 : Option Addr) (l1 l2 c1 c2 : Nat) (ws : List Int) (bs : List Bool) (w : World) (h1 : l1 = ws.length) (h2 : l2 = bs.length) (s1 : SlI w a1 ws) (s2 : SlB w a2 bs) (hl1 : ws.length ≤ 2000000) (hl2 : bs.length ≤ 2000000) (b : Bool) (hb : okR 16 pl nn wa ws l1 l2 = b) :
    Calls Tryz.prog 33 #[rq 16 pl nn wa a1 a2 l1 l2 c1 c2] w fun e w' => e = .returned (bif b then .iface 101 (.agg #[.int .i64 pl, .slice a1 l1 c1]) else .nilIface) ∧ Below w.heap.size w w' := by
  subst hb
  rw [okI_16 _ _ _ _ _ _ h1]
  rw [show (rnB pl (l1 : Int) 123 && (allW ws && (decide (nn = 0) && (decide (wa = 0) && (decide (l2 = 0)))))) = ((rnB pl (l1 : Int) 123 && allW ws) && (decide (nn = 0) && (decide (wa = 0) && (decide (l2 = 0))))) from by simp only [Bool.and_assoc]]
  cases hI : (rnB pl (l1 : Int) 123 && allW ws)
  · rw [Bool.false_and]
    exact rq_false 16 pl nn wa a1 a2 l1 l2 c1 c2 w _ (fun u hu => questionOf_16 pl nn wa a1 a2 l1 l2 c1 c2 u) (fun u hu => isRight_16 _ _ _ _ ws u h1 (s1.below hu) hl1 _ hI)
  · rw [Bool.true_and]
    refine rq_true 16 pl nn wa a1 a2 l1 l2 c1 c2 w _ _ 108 _ (fun u hu => questionOf_16 pl nn wa a1 a2 l1 l2 c1 c2 u) (fun u hu => isRight_16 _ _ _ _ ws u h1 (s1.below hu) hl1 _ hI) (callf_16 _) (meth_16 _) (fun u hu => (req_16 _ _ _ _ u).mono ?_)
    rintro e u' ⟨rfl, bu⟩
    refine ⟨_, rfl, bu, ?_⟩
    have hu2 := bel_next hu bu
    by_cases hnn : nn = 0
    rotate_left
    · rw [decide_eq_false hnn]
      exact sameReq_n _ _ _ _ _ _ _ _ _ _ _ _ _ _ _ _ _ _ _ (fun h => hnn h.symm)
    rw [decide_eq_true hnn, Bool.true_and]
    by_cases hww : wa = 0
    rotate_left
    · rw [decide_eq_false hww]
      exact sameReq_w _ _ _ _ _ _ _ _ _ _ _ _ _ _ _ _ _ _ _ hnn (fun h => hww h.symm)
    rw [decide_eq_true hww, Bool.true_and]
    by_cases hll2 : l2 = 0
    rotate_left
    · rw [decide_eq_false hll2]
      exact sameReq_2 _ _ _ _ _ _ _ _ _ _ _ _ _ _ _ _ _ _ _ hnn hww ws h1 h1 (s1.below hu2) (s1.below hu2) hl1 (by omega) (by omega) (by omega)
    rw [decide_eq_true hll2]
    exact sameReq_t _ _ _ _ _ _ _ _ _ _ _ _ _ _ _ _ _ _ _ hnn hww ws h1 h1 (s1.below hu2) (s1.below hu2) hl1 [] rfl hll2 (.inl rfl) (.inl rfl) (by simp)
set_option maxRecDepth 20000 in
set_option maxHeartbeats 2000000 in
theorem rightQuestion_22 (pl nn wa : Int) (a1 a2 : Option Addr) (l1 l2 c1 c2 : Nat) (ws : List Int) (bs : List Bool) (w : World) (h1 : l1 = ws.length) (h2 : l2 = bs.length) (s1 : SlI w a1 ws) (s2 : SlB w a2 bs) (hl1 : ws.length ≤ 2000000) (hl2 : bs.length ≤ 2000000) (b : Bool) (hb : okR 22 pl nn wa ws l1 l2 = b) :
    Calls Tryz.prog 33 #[rq 22 pl nn wa a1 a2 l1 l2 c1 c2] w fun e w' => e = .returned (bif b then .iface 104 (.agg #[.int .i64 pl, .int .i64 (ws.getD 0 0), .int .i64 (ws.getD 1 0)]) else .nilIface) ∧ Below w.heap.size w w' := by
  subst hb
  rw [okI_22 _ _ _ _ _ _ h1]
  by_cases hL : l1 = 2
  rotate_left
  · rw [decide_eq_false hL]
    exact rq_false 22 pl nn wa a1 a2 l1 l2 c1 c2 w .nilIface (fun u hu => questionOf_22n pl nn wa a1 a2 l1 l2 c1 c2 u (by simp; omega)) (fun u hu => isRight_n u)
  rw [decide_eq_true hL, Bool.true_and]
  rw [show (inB pl 0 65535 && (inB (ws.getD 0 0) 0 65535 && (inB (ws.getD 1 0) 0 65535 && (decide (nn = 0) && (decide (wa = 0) && (decide (l2 = 0))))))) = ((inB pl 0 65535 && (inB (ws.getD 0 0) 0 65535 && inB (ws.getD 1 0) 0 65535)) && (decide (nn = 0) && (decide (wa = 0) && (decide (l2 = 0))))) from by simp only [Bool.and_assoc]]
  cases hI : (inB pl 0 65535 && (inB (ws.getD 0 0) 0 65535 && inB (ws.getD 1 0) 0 65535))
  · rw [Bool.false_and]
    exact rq_false 22 pl nn wa a1 a2 l1 l2 c1 c2 w _ (fun u hu => questionOf_22 pl nn wa a1 a2 l1 l2 c1 c2 u ws h1 (by omega) (s1.below hu)) (fun u hu => isRight_22 _ _ _ u _ hI)
  · rw [Bool.true_and]
    refine rq_true 22 pl nn wa a1 a2 l1 l2 c1 c2 w _ _ 109 _ (fun u hu => questionOf_22 pl nn wa a1 a2 l1 l2 c1 c2 u ws h1 (by omega) (s1.below hu)) (fun u hu => isRight_22 _ _ _ u _ hI) (callf_22 _) (meth_22 _) (fun u hu => (req_22 _ _ _ u).mono ?_)
    rintro e u' ⟨rfl, n3, bu⟩
    refine ⟨_, rfl, bu, ?_⟩
    have hu2 := bel_next hu bu
    by_cases hnn : nn = 0
    rotate_left
    · rw [decide_eq_false hnn]
      exact sameReq_n _ _ _ _ _ _ _ _ _ _ _ _ _ _ _ _ _ _ _ (fun h => hnn h.symm)
    rw [decide_eq_true hnn, Bool.true_and]
    by_cases hww : wa = 0
    rotate_left
    · rw [decide_eq_false hww]
      exact sameReq_w _ _ _ _ _ _ _ _ _ _ _ _ _ _ _ _ _ _ _ hnn (fun h => hww h.symm)
    rw [decide_eq_true hww, Bool.true_and]
    by_cases hll2 : l2 = 0
    rotate_left
    · rw [decide_eq_false hll2]
      exact sameReq_2 _ _ _ _ _ _ _ _ _ _ _ _ _ _ _ _ _ _ _ hnn hww [ws.getD 0 0, ws.getD 1 0] rfl hL n3 (by have := s1.below hu2; rw [ints_two (ws := ws) (by omega)] at this; exact this) (by simp) (by omega) (by omega) (by omega)
    rw [decide_eq_true hll2]
    exact sameReq_t _ _ _ _ _ _ _ _ _ _ _ _ _ _ _ _ _ _ _ hnn hww [ws.getD 0 0, ws.getD 1 0] rfl hL n3 (by have := s1.below hu2; rw [ints_two (ws := ws) (by omega)] at this; exact this) (by simp) [] rfl hll2 (.inl rfl) (.inl rfl) (by simp)
set_option maxRecDepth 20000 in
set_option maxHeartbeats 2000000 in
theorem rightQuestion_23 (pl nn wa : Int) (a1 a2 : Option Addr) (l1 l2 c1 c2 : Nat) (ws : List Int) (bs : List Bool) (w : World) (h1 : l1 = ws.length) (h2 : l2 = bs.length) (s1 : SlI w a1 ws) (s2 : SlB w a2 bs) (hl1 : ws.length ≤ 2000000) (hl2 : bs.length ≤ 2000000) (b : Bool) (hb : okR 23 pl nn wa ws l1 l2 = b) :
    Calls Tryz.prog 33 #[rq 23 pl nn wa a1 a2 l1 l2 c1 c2] w fun e w' => e = .returned (bif b then .iface 106 (.agg #[.int .i64 pl, .int .i64 nn, .int .i64 wa, .slice a1 l1 c1]) else .nilIface) ∧ Below w.heap.size w w' := by
  subst hb
  rw [okI_23 _ _ _ _ _ _ h1]
  rw [show (rnB pl nn 125 && (rnB wa (l1 : Int) 121 && (allW ws && (decide (l2 = 0))))) = ((rnB pl nn 125 && (rnB wa (l1 : Int) 121 && allW ws)) && (decide (l2 = 0))) from by simp only [Bool.and_assoc]]
  cases hI : (rnB pl nn 125 && (rnB wa (l1 : Int) 121 && allW ws))
  · rw [Bool.false_and]
    exact rq_false 23 pl nn wa a1 a2 l1 l2 c1 c2 w _ (fun u hu => questionOf_23 pl nn wa a1 a2 l1 l2 c1 c2 u) (fun u hu => isRight_23 _ _ _ _ _ _ ws u h1 (s1.below hu) hl1 _ hI)
  · rw [Bool.true_and]
    refine rq_true 23 pl nn wa a1 a2 l1 l2 c1 c2 w _ _ 110 _ (fun u hu => questionOf_23 pl nn wa a1 a2 l1 l2 c1 c2 u) (fun u hu => isRight_23 _ _ _ _ _ _ ws u h1 (s1.below hu) hl1 _ hI) (callf_23 _) (meth_23 _) (fun u hu => (req_23 _ _ _ _ _ _ u).mono ?_)
    rintro e u' ⟨rfl, bu⟩
    refine ⟨_, rfl, bu, ?_⟩
    have hu2 := bel_next hu bu
    by_cases hll2 : l2 = 0
    rotate_left
    · rw [decide_eq_false hll2]
      exact sameReq_2 _ _ _ _ _ _ _ _ _ _ _ _ _ _ _ _ _ _ _ rfl rfl ws h1 h1 (s1.below hu2) (s1.below hu2) hl1 (by omega) (by omega) (by omega)
    rw [decide_eq_true hll2]
    exact sameReq_t _ _ _ _ _ _ _ _ _ _ _ _ _ _ _ _ _ _ _ rfl rfl ws h1 h1 (s1.below hu2) (s1.below hu2) hl1 [] rfl hll2 (.inl rfl) (.inl rfl) (by simp)
theorem rightQuestion_none (kd : Int) (pl nn wa : Int) (a1 a2 : Option Addr) (l1 l2 c1 c2 : Nat) (ws : List Int) (bs : List Bool) (w : World) (h1 : l1 = ws.length) (h2 : l2 = bs.length) (s1 : SlI w a1 ws) (s2 : SlB w a2 bs) (hl1 : ws.length ≤ 2000000) (hl2 : bs.length ≤ 2000000) (k1 : ¬ kd = 1) (k2 : ¬ kd = 2) (k3 : ¬ kd = 3) (k4 : ¬ kd = 4) (k5 : ¬ kd = 5) (k6 : ¬ kd = 6) (k15 : ¬ kd = 15) (k16 : ¬ kd = 16) (k22 : ¬ kd = 22) (k23 : ¬ kd = 23) :
    Calls Tryz.prog 33 #[rq kd pl nn wa a1 a2 l1 l2 c1 c2] w fun e w' => e = .returned .nilIface ∧ Below w.heap.size w w' :=
  rq_false kd pl nn wa a1 a2 l1 l2 c1 c2 w .nilIface (fun u hu => questionOf_none kd pl nn wa a1 a2 l1 l2 c1 c2 u k1 k2 k3 k4 k5 k6 k15 k16 k22 k23) (fun u hu => isRight_n u)
end Go.Proofs.YtohikbpolofklaaGreatDoor
namespace Go.Proofs.YtohikbpolofklaaGreatDoor
open Go.RowKit
set_option linter.unusedVariables false
set_option linter.unusedSimpArgs false
abbrev WfQ (kd pl nn wa : Int) (ws : List Int) : Prop := (∀ n ∈ ws, -9223372036854775808 ≤ n ∧ n ≤ 9223372036854775807) ∧ (Lit.int .i64 kd).wf = true ∧ (Lit.int .i64 pl).wf = true ∧ (Lit.int .i64 nn).wf = true ∧ (Lit.int .i64 wa).wf = true
theorem specReqOk_q (kd pl nn wa : Int) (a1 a2 : Option Addr) (l1 l2 c1 c2 : Nat) (ws : List Int) (bs : List Bool) (w : World) (h1 : l1 = ws.length) (h2 : l2 = bs.length) (s1 : SlI w a1 ws) (s2 : SlB w a2 bs) (hl1 : ws.length ≤ 2000000) (hl2 : bs.length ≤ 2000000) :
    Calls Tryz.prog 22 #[rq kd pl nn wa a1 a2 l1 l2 c1 c2] w fun e w' => e = .returned (.bool (okR kd pl nn wa ws l1 l2)) ∧ Below w.heap.size w w' :=
  specReqOk_any kd pl nn wa a1 a2 l1 l2 c1 c2 ws w h1 s1 hl1 (by omega) _ rfl
theorem okR_kind {kd pl nn wa : Int} {ws : List Int} {l1 l2 : Nat} (h : okR kd pl nn wa ws l1 l2 = true) : kd = 1 ∨ kd = 2 ∨ kd = 3 ∨ kd = 4 ∨ kd = 5 ∨ kd = 6 ∨ kd = 15 ∨ kd = 16 ∨ kd = 22 ∨ kd = 23 := by
  by_cases hk : kd = 1 ∨ kd = 2 ∨ kd = 3 ∨ kd = 4 ∨ kd = 5 ∨ kd = 6 ∨ kd = 15 ∨ kd = 16 ∨ kd = 22 ∨ kd = 23
  · exact hk
  · have e : okR kd pl nn wa ws l1 l2 = false := by
      have k1 : ¬ kd = 1 := by omega
      have k2 : ¬ kd = 2 := by omega
      have k3 : ¬ kd = 3 := by omega
      have k4 : ¬ kd = 4 := by omega
      have k5 : ¬ kd = 5 := by omega
      have k6 : ¬ kd = 6 := by omega
      have k7 : ¬ kd = 15 := by omega
      have k8 : ¬ kd = 16 := by omega
      have k9 : ¬ kd = 22 := by omega
      have k10 : ¬ kd = 23 := by omega
      simp [okR, okK, k1, k2, k3, k4, k5, k6, k7, k8, k9, k10]
    rw [e] at h
    cases h
def spcN (kd nn : Int) (l1 l2 : Nat) : Int := if kd = 5 ∨ kd = 15 then l2 else if kd = 6 ∨ kd = 22 then 1 else if kd = 16 then l1 else nn
def spc0 (kd : Int) : Int := if kd = 1 ∨ kd = 5 ∨ kd = 15 then 0 else if kd = 2 then 1 else if kd = 4 then 3 else 2
def spcV (b : Bool) (kd pl nn : Int) (l1 l2 : Nat) : Value := bif b then .tuple #[.int .i64 (spc0 kd), .int .i64 pl, .int .i64 (spcN kd nn l1 l2)] else .tuple #[.int .i64 (-1), .int .i64 0, .int .i64 0]
end Go.Proofs.YtohikbpolofklaaGreatDoor
namespace Go.Proofs.YtohikbpolofklaaGreatDoor
theorem i64_and_mask (n : Int) (k : Nat) (m : Int) (hm : (BitVec.ofInt 64 m).toNat = 2 ^ k - 1) (hk : k ≤ 62) : bits .and .i64 n m = n % ((2 ^ k : Nat) : Int) := by
  have key : (BitVec.ofInt 64 n &&& BitVec.ofInt 64 m).toNat = (n % ((2 ^ 64 : Nat) : Int)).toNat % 2 ^ k := by
    rw [BitVec.toNat_and, BitVec.toNat_ofInt, hm, Nat.and_two_pow_sub_one_eq_mod]
  show IntKind.i64.wrap ((BitVec.ofInt 64 n &&& BitVec.ofInt 64 m).toNat : Nat) = n % ((2 ^ k : Nat) : Int)
  have hlt : 2 ^ k ≤ 2 ^ 62 := Nat.pow_le_pow_right (by decide) hk
  have hpos : 0 < 2 ^ k := Nat.two_pow_pos k
  have e1 : (((n % ((2 ^ 64 : Nat) : Int)).toNat % 2 ^ k : Nat) : Int) = n % ((2 ^ k : Nat) : Int) := by
    have h0 : 0 ≤ n % ((2 ^ 64 : Nat) : Int) := Int.emod_nonneg _ (by decide)
    rw [Int.natCast_emod, Int.toNat_of_nonneg h0]
    refine Int.emod_emod_of_dvd n ?_
    exact Int.natCast_dvd_natCast.2 (Nat.pow_dvd_pow 2 (by omega))
  rw [key, e1, IntKind.wrap_i64]
  have h1 : 0 ≤ n % ((2 ^ k : Nat) : Int) := Int.emod_nonneg _ (by omega)
  have h2 : n % ((2 ^ k : Nat) : Int) < ((2 ^ k : Nat) : Int) := Int.emod_lt_of_pos _ (by omega)
  omega
theorem and16 (n : Int) : bits .and .i64 n 65535 = n % 65536 := i64_and_mask n 16 65535 (by decide) (by decide)
theorem and8 (n : Int) : bits .and .i64 n 255 = n % 256 := i64_and_mask n 8 255 (by decide) (by decide)
theorem wraps_i64' (n : Int) (h₀ : 0 ≤ n) (h₁ : n < 2 ^ 32) : IntKind.i64.wrap n = n := by rw [IntKind.wrap_i64]; omega
theorem or8 (x y : Int) (h0 : 0 ≤ x) (h1 : x ≤ 255) (h2 : 0 ≤ y) (h3 : y ≤ 255) : bits .or .i64 (x * 256) y = x * 256 + y :=
  bits_join .i64 32 (by decide) wraps_i64' 8 (x * 256) y (by omega) (by omega) (by omega) h2 (by omega) (by omega)
end Go.Proofs.YtohikbpolofklaaGreatDoor
namespace Go.Proofs.YtohikbpolofklaaGreatDoor
open Go.RowKit
theorem Sl.cellsAt {w : World} {ad : Addr} {zs : List Int} (h : Sl w (some ad) zs) : ∀ j u, (zs.map (Value.int .u8))[j]? = some u → w.cell? (ad.add j) = some u := by
  intro j u hu
  rcases h with h | ⟨b, off, ha, _, hc⟩
  · subst h; simp at hu
  · obtain rfl : ad = ⟨b, off, none⟩ := by simpa using ha
    have hj : j < zs.length := by
      have := (List.getElem?_eq_some_iff.1 hu).1
      simpa using this
    have e : Addr.add ⟨b, off, none⟩ j = ⟨b, off + j, none⟩ := by
      by_cases h0 : j = 0
      · subst h0; simp [Addr.add]
      · simp [Addr.add, h0]
    rw [e, hc j hj]
    rw [← hu]
    simp [hj]
theorem ones (zs : List Int) : ∀ u ∈ zs.map (Value.int .u8), u.oneCell' = true := ints_oneCell _ _
theorem two_cells {w1 : World} {x y : Int} : ∀ j u, ([Value.int .u8 x, Value.int .u8 y])[j]? = some u → (w1.alloc (.cells #[.int .u8 x, .int .u8 y] 5)).cell? ((⟨w1.heap.size, 0, none⟩ : Addr).add j) = some u := by
  intro j u hu
  match j, hu with
  | 0, hu => simp at hu; subst hu; simp [Addr.add]
  | 1, hu => simp at hu; subst hu; simp [Addr.add]
  | k + 2, hu => simp at hu
theorem two_ones (x y : Int) : ∀ u ∈ [Value.int .u8 x, Value.int .u8 y], u.oneCell' = true := by
  intro u hu; simp at hu; rcases hu with rfl | rfl <;> rfl
theorem own_end {W w1 w2 : World} {o1 : Obj} {v1 v2 : Value} {zs : List Int} {x y x' y' : Int} (hb : Below W.heap.size W w1) (hv1 : ∀ k, v1.ownBlock = some k → W.heap.size ≤ k)
    (h2 : w2.ownsRow W.heap.size 5 1 v2 (zs.length + 2) (zs.map (Value.int .u8) ++ [Value.int .u8 x, Value.int .u8 y])) (g2 : (w1.alloc o1).grownBy w2 v1.ownBlock) (ex : x = x') (ey : y = y') :
    Own w2 W.heap.size v2 (zs ++ [x', y']) ∧ Below W.heap.size W w2 := by
  subst ex ey
  refine ⟨by simpa [Own] using h2, ?_⟩
  exact (hb.alloc hb.size o1).grown g2 (by have := hb.size; simp; omega) hv1
set_option maxHeartbeats 1000000 in
theorem specPutWord_any (ad : Addr) (n cap : Nat) (zs : List Int) (x : Int) (w : World) (hn : n = zs.length) (hs : Sl w (some ad) zs) (hl : zs.length ≤ 2000000) :
    Calls Tryz.prog 31 #[.slice (some ad) n cap, .int .i64 x] w fun e w' => ∃ v, e = .returned v ∧ Own w' w.heap.size v (zs ++ [x / 256 % 256, x % 256]) ∧ Below w.heap.size w w' := by
  subst hn
  obtain ⟨i0, hi, hz0, hz1, hz2⟩ := info_parts Tryz.info5
  have hml : zs.length + 2 ≤ maxLen := by unfold maxLen; omega
  have o0 := World.ownsRow_lit (base := w.heap.size) (e := 5) (size := 1) w #[] 0 (Nat.le_refl _) (by omega) rfl
  have c0 := (hs.below ((Below.refl _ w).alloc (Nat.le_refl _) (.cells #[] 5))).cellsAt
  have ex : Hid (bits BinOp.and IntKind.i64 x 65535 / 256 % 256 = x / 256 % 256) := by rw [and16]; exact (by omega : x % 65536 / 256 % 256 = x / 256 % 256)
  have ey : Hid (bits BinOp.and IntKind.i64 x 65535 % 256 = x % 256) := by rw [and16]; exact (by omega : x % 65536 % 256 = x % 256)
  clear hs
  go_enter Tryz.func31, Tryz.ntmps31
  go_wp2_with (first | (at_builtin; refine wpList_append_own _ rfl (.tmp 7) (.tmp 8) 22 rfl w.heap.size 5 i0 (.int .u8 0) 1 1 Tryz.underlying22 hi hz0 hz1 hz2 rfl (by decide) (.slice (some ⟨w.heap.size, 0, none⟩) 0 0) 0 [] rfl o0 ad zs.length cap (zs.map (Value.int .u8)) rfl (by simp) c0 (ones zs) (by omega) (by omega) (by simp) ?_; intro v1 w1 o1 g1 _; simp only [Nat.zero_add, List.nil_append] at o1; have hb1 : Below w.heap.size w w1 := ((Below.refl _ w).alloc (Nat.le_refl _) (.cells #[] 5)).grown g1 (by simp) (fun k hk => by simp [Value.ownBlock] at hk; omega)) | (at_builtin; refine wpList_append_own _ rfl (.tmp 9) (.tmp 15) 22 rfl w.heap.size 5 i0 (.int .u8 0) 1 1 Tryz.underlying22 hi hz0 hz1 hz2 rfl (by decide) v1 zs.length (zs.map (Value.int .u8)) rfl (o1.alloc _) ⟨w1.heap.size, 0, none⟩ 2 2 [.int .u8 (bits BinOp.and IntKind.i64 x 65535 / 256 % 256), .int .u8 (bits BinOp.and IntKind.i64 x 65535 % 256)] rfl (by simp) two_cells (two_ones _ _) (by omega) (by omega) (by have := hb1.size; simp; omega) ?_; intro v2 w2 o2 g2 _))
  go_ret
  exact ⟨_, rfl, own_end hb1 (fun k hk => (o1.lt k hk).1) o2 g2 ex.out ey.out⟩
end Go.Proofs.YtohikbpolofklaaGreatDoor
namespace Go.Proofs.YtohikbpolofklaaGreatDoor
open Go.RowKit
def pv (bits : List Bool) : Nat → Nat → Int
  | 0, _ => 0
  | k + 1, j => if k / 8 = j ∧ bits.getD k false = true then pv bits k j + (2 ^ (k % 8) : Nat) else pv bits k j
theorem pv_bound (bs : List Bool) : ∀ k j, 0 ≤ pv bs k j ∧ (j < k / 8 → pv bs k j < 256) ∧ (j = k / 8 → pv bs k j < (2 ^ (k % 8) : Nat)) ∧ (k / 8 < j → pv bs k j = 0)
  | 0, j => by simp [pv]
  | k + 1, j => by
    obtain ⟨h0, h1, h2, h3⟩ := pv_bound bs k j
    have hp : (2 ^ (k % 8) : Nat) ≤ 128 ∧ 1 ≤ (2 ^ (k % 8) : Nat) := by
      have : k % 8 < 8 := Nat.mod_lt _ (by decide)
      generalize k % 8 = r at *
      match r, this with
      | 0, _ => decide
      | 1, _ => decide
      | 2, _ => decide
      | 3, _ => decide
      | 4, _ => decide
      | 5, _ => decide
      | 6, _ => decide
      | 7, _ => decide
    have key : pv bs (k + 1) j = pv bs k j ∨ (k / 8 = j ∧ pv bs (k + 1) j = pv bs k j + (2 ^ (k % 8) : Nat)) := by
      rw [pv]
      by_cases h : k / 8 = j ∧ bs.getD k false = true
      · right; rw [if_pos h]; exact ⟨h.1, rfl⟩
      · left; rw [if_neg h]
    by_cases hm : k % 8 = 7
    · have e1 : (k + 1) / 8 = k / 8 + 1 := by omega
      have e2 : (k + 1) % 8 = 0 := by omega
      have e3 : (2 ^ (k % 8) : Nat) = 128 := by rw [hm]
      rw [e1, e2]
      rcases key with hk | ⟨hj, hk⟩
      · rw [hk]; refine ⟨h0, fun h => ?_, fun h => ?_, fun h => h3 (by omega)⟩
        · by_cases hh : j = k / 8
          · have := h2 hh; omega
          · exact h1 (by omega)
        · rw [h3 (by omega)]; decide
      · rw [hk]; refine ⟨by omega, fun _ => by have := h2 hj.symm; omega, fun h => by omega, fun h => by omega⟩
    · have e1 : (k + 1) / 8 = k / 8 := by omega
      have e2 : (k + 1) % 8 = k % 8 + 1 := by omega
      have e3 : (2 ^ (k % 8 + 1) : Nat) = 2 * 2 ^ (k % 8) := by rw [Nat.pow_succ]; omega
      rw [e1, e2, e3]
      rcases key with hk | ⟨hj, hk⟩
      · rw [hk]; exact ⟨h0, h1, fun h => by have := h2 h; omega, h3⟩
      · rw [hk]; exact ⟨by omega, fun h => by omega, fun h => by have := h2 h; omega, fun h => by omega⟩
theorem or_bit : ∀ r : Nat, r < 8 → ∀ x : Nat, x < 2 ^ r → bits .or .u8 (x : Int) ((2 ^ r : Nat) : Int) = (x : Int) + ((2 ^ r : Nat) : Int) := by decide
theorem or_pv (bs : List Bool) (k : Nat) : bits .or .u8 (pv bs k (k / 8)) ((2 ^ (k % 8) : Nat) : Int) = pv bs k (k / 8) + ((2 ^ (k % 8) : Nat) : Int) := by
  obtain ⟨h0, _, h2, _⟩ := pv_bound bs k (k / 8)
  obtain ⟨x, hx⟩ := Int.eq_ofNat_of_zero_le h0
  have := h2 rfl
  rw [hx] at this ⊢
  exact or_bit (k % 8) (Nat.mod_lt _ (by decide)) x (by omega)
theorem two_pow8 (k : Nat) : (2 : Int) ^ (k % 8) % 256 = ((2 ^ (k % 8) : Nat) : Int) := by
  have : k % 8 < 8 := Nat.mod_lt _ (by decide)
  generalize k % 8 = r at *
  match r, this with
  | 0, _ => decide
  | 1, _ => decide
  | 2, _ => decide
  | 3, _ => decide
  | 4, _ => decide
  | 5, _ => decide
  | 6, _ => decide
  | 7, _ => decide
theorem pack_set {wr : World} {g m k : Nat} {t : TypeId} {bs : List Bool} (hrow : wr.rowIs g t m (fun i => .int .u8 (pv bs k i))) (hbit : bs.getD k false = true) :
    (wr.setCell ⟨g, k / 8, none⟩ (.int .u8 (bits BinOp.or IntKind.u8 (pv bs k (k / 8)) (2 ^ (k % 8) % 256)))).rowIs g t m (fun i => .int .u8 (pv bs (k + 1) i)) := by
  rw [two_pow8, or_pv]
  refine (hrow.set (k / 8) _).congr (fun i _ => ?_)
  by_cases e : i = k / 8
  · subst e; rw [if_pos rfl, pv, if_pos ⟨rfl, hbit⟩]
  · rw [if_neg e, pv, if_neg (fun h => e h.1.symm)]
set_option maxHeartbeats 2000000 in
theorem specPackBits_any (a : Option Addr) (n cap m : Nat) (bs : List Bool) (w : World) (hn : n = bs.length) (hm : m = (n + 7) / 8) (hs : SlB w a bs) (hl : n ≤ 2000000) :
    Calls Tryz.prog 28 #[.slice a n cap] w fun e w' => e = .returned (.slice (some ⟨w.heap.size, 0, none⟩) m m) ∧ w'.rowIs w.heap.size 5 m (fun i => .int .u8 (pv bs n i)) ∧ Below w.heap.size w w' := by
  have hmk := run_make_row' (P := Tryz.prog) 22 5 (.int .u8 0) 1 Tryz.underlying22 Tryz.info5 rfl .i64 .i64 m (by omega) (by omega)
  have hmi : ((n : Int) + 7) / 8 = (m : Int) := by omega
  have HN : Hid (n = bs.length) := hn
  have HMM : Hid (m = (n + 7) / 8) := hm
  clear hn hm
  go_enter Tryz.func28, Tryz.ntmps28
  go_wp2
  clear hmk
  go_loopw [4] (fun i wr => ∃ k : Nat, k ≤ n ∧ i = .int .i64 k ∧ wr.rowIs w.heap.size 5 m (fun i => .int .u8 (pv bs k i)) ∧ Below w.heap.size w wr) (fun i _ => n - (intOf i).toNat)
  case atStart => exact ⟨0, Nat.zero_le _, rfl, (World.rowIs_made w _ _ _).congr (fun i _ => by simp [pv]), (Below.refl _ _).alloc (Nat.le_refl _) _⟩
  case round =>
    obtain ⟨k, hk, rfl, hrow, hb⟩ := hrel
    by_cases hlt : k < n
    · obtain ⟨b, off, rfl, hb0, hc0⟩ := cell_atB hs (k := k) (by have := HN.out; omega)
      have hc : wr.cell? ⟨b, off + k, none⟩ = some (.bool (bs.getD k false)) := by rw [hb.cell (p := ⟨b, off + k, none⟩) hb0]; exact hc0
      have hi : (k : Int) < (n : Int) := by omega
      have hd : k / 8 < m := by have := HMM.out; omega
      have hst := hrow.cell hd
      have hfz := hrow.frozen (k / 8)
      by_cases hbit : bs.getD k false = true
      · rw [hbit] at hc
        have R : Hid ((wr.setCell ⟨w.heap.size, k / 8, none⟩ (.int .u8 (bits BinOp.or IntKind.u8 (pv bs k (k / 8)) (2 ^ (k % 8) % 256)))).rowIs w.heap.size 5 m (fun i => .int .u8 (pv bs (k + 1) i))) := pack_set hrow hbit
        have B1 : Hid (Below w.heap.size w (wr.setCell ⟨w.heap.size, k / 8, none⟩ (.int .u8 (bits BinOp.or IntKind.u8 (pv bs k (k / 8)) (2 ^ (k % 8) % 256))))) := hb.setCell (Nat.le_refl _) _
        clear hc0 hs hrow hb
        go_wp2
        go_roundw
        case rel => exact ⟨k + 1, by omega, by go_num, R.out, B1.out⟩
        case measure => simp [intOf]; omega
      · have hbit' : bs.getD k false = false := by simpa using hbit
        rw [hbit'] at hc
        have R : Hid (wr.rowIs w.heap.size 5 m (fun i => .int .u8 (pv bs (k + 1) i))) := hrow.congr (fun i _ => by rw [pv, if_neg (fun h => hbit h.2)])
        clear hrow hc0 hs hst hfz
        go_wp2
        go_roundw
        case rel => exact ⟨k + 1, by omega, by go_num, R.out, hb⟩
        case measure => simp [intOf]; omega
    · obtain rfl : k = n := by omega
      have R : Hid (wr.rowIs w.heap.size 5 m (fun i => .int .u8 (pv bs k i))) := hrow
      clear hrow hs
      go_wp2
      go_ret
      exact ⟨rfl, R.out, hb⟩
set_option maxHeartbeats 1000000 in
theorem bytesFor_any (x : Int) (w : World) (h0 : 0 ≤ x) (h1 : x ≤ 9223372036854775807) :
    Calls Tryz.prog 68 #[.int .i64 x] w fun e w' => e = .returned (.int .i64 ((x + 7) / 8)) ∧ w' = w := by
  by_cases h : x % 8 = 0
  · have e : (x + 7) / 8 = x / 8 := by omega
    rw [e]
    have h' : (x % 8 == 0) = true := by simp [h]
    clear e
    go_enter Tryz.func68, Tryz.ntmps68
    go_wp2
    go_ret
    exact ⟨rfl, rfl⟩
  · have e : (x + 7) / 8 = x / 8 + 1 := by omega
    rw [e]
    have h' : (x % 8 == 0) = false := by simp [h]
    clear e
    go_enter Tryz.func68, Tryz.ntmps68
    go_wp2
    go_ret
    exact ⟨rfl, rfl⟩
set_option maxHeartbeats 2000000 in
theorem implPackBits_any (a : Option Addr) (n cap m : Nat) (bs : List Bool) (w : World) (hn : n = bs.length) (hm : m = (n + 7) / 8) (hs : SlB w a bs) (hl : n ≤ 2000000) :
    Calls Tryz.prog 52 #[.slice a n cap] w fun e w' => e = .returned (.slice (some ⟨w.heap.size, 0, none⟩) m m) ∧ w'.rowIs w.heap.size 5 m (fun i => .int .u8 (pv bs n i)) ∧ Below w.heap.size w w' := by
  have hmk := run_make_row' (P := Tryz.prog) 22 5 (.int .u8 0) 1 Tryz.underlying22 Tryz.info5 rfl .i64 .i64 m (by omega) (by omega)
  have hmi : ((n : Int) + 7) / 8 = (m : Int) := by omega
  have HN : Hid (n = bs.length) := hn
  have HMM : Hid (m = (n + 7) / 8) := hm
  clear hn hm
  go_enter Tryz.func52, Tryz.ntmps52
  go_wp2_with fail
  refine (bytesFor_any _ _ (by omega) (by omega)).mono ?_
  rintro e w1 ⟨rfl, e1⟩
  subst e1
  rw [hmi]
  go_wp2
  clear hmk
  go_loopw [12] (fun i wr => ∃ k : Nat, k ≤ n ∧ i = .int .i64 k ∧ wr.rowIs w1.heap.size 5 m (fun i => .int .u8 (pv bs k i)) ∧ Below w1.heap.size w1 wr) (fun i _ => n - (intOf i).toNat)
  case atStart => exact ⟨0, Nat.zero_le _, rfl, (World.rowIs_made w1 _ _ _).congr (fun i _ => by simp [pv]), (Below.refl _ _).alloc (Nat.le_refl _) _⟩
  case round =>
    obtain ⟨k, hk, rfl, hrow, hb⟩ := hrel
    by_cases hlt : k < n
    · obtain ⟨b, off, rfl, hb0, hc0⟩ := cell_atB hs (k := k) (by have := HN.out; omega)
      have hc : wr.cell? ⟨b, off + k, none⟩ = some (.bool (bs.getD k false)) := by rw [hb.cell (p := ⟨b, off + k, none⟩) hb0]; exact hc0
      have hi : (k : Int) < (n : Int) := by omega
      have hd : k / 8 < m := by have := HMM.out; omega
      have hst := hrow.cell hd
      have hfz := hrow.frozen (k / 8)
      by_cases hbit : bs.getD k false = true
      · rw [hbit] at hc
        have R : Hid ((wr.setCell ⟨w1.heap.size, k / 8, none⟩ (.int .u8 (bits BinOp.or IntKind.u8 (pv bs k (k / 8)) (2 ^ (k % 8) % 256)))).rowIs w1.heap.size 5 m (fun i => .int .u8 (pv bs (k + 1) i))) := pack_set hrow hbit
        have B1 : Hid (Below w1.heap.size w1 (wr.setCell ⟨w1.heap.size, k / 8, none⟩ (.int .u8 (bits BinOp.or IntKind.u8 (pv bs k (k / 8)) (2 ^ (k % 8) % 256))))) := hb.setCell (Nat.le_refl _) _
        clear hc0 hs hrow hb
        go_wp2_with fail
        go_region
        go_wp2
        go_roundw
        case rel => exact ⟨k + 1, by omega, by go_num, R.out, B1.out.drew⟩
        case measure => simp [intOf]; omega
      · have hbit' : bs.getD k false = false := by simpa using hbit
        rw [hbit'] at hc
        have R : Hid (wr.rowIs w1.heap.size 5 m (fun i => .int .u8 (pv bs (k + 1) i))) := hrow.congr (fun i _ => by rw [pv, if_neg (fun h => hbit h.2)])
        clear hrow hc0 hs hst hfz
        go_wp2
        go_roundw
        case rel => exact ⟨k + 1, by omega, by go_num, R.out, hb⟩
        case measure => simp [intOf]; omega
    · obtain rfl : k = n := by omega
      have R : Hid (wr.rowIs w1.heap.size 5 m (fun i => .int .u8 (pv bs k i))) := hrow
      clear hrow hs
      go_wp2
      go_ret
      exact ⟨rfl, R.out, hb⟩
end Go.Proofs.YtohikbpolofklaaGreatDoor
namespace Go.Proofs.YtohikbpolofklaaGreatDoor
open Go.RowKit
def marksF (s n : Nat) : List Int := (List.range n).map (fun i : Nat => ((s : Int) + (i : Int)) % 256)
def MarkedF (s : Nat) (w wr : World) (g cap k : Nat) : Prop :=
  w.grownBy wr (some g) ∧ ∃ cur, wr.heap[g]? = some (.cells cur 5 (0, 0)) ∧ cur.size = cap ∧ ∀ i, i < k → cur[i]? = some (.int .u8 (((s : Int) + (i : Int)) % 256))
end Go.Proofs.YtohikbpolofklaaGreatDoor
namespace Go.Proofs.YtohikbpolofklaaGreatDoor
open Go.RowKit
set_option linter.unusedVariables false
set_option linter.unusedSimpArgs false
def wb (x : Int) : List Int := [x / 256 % 256, x % 256]
def wbs : List Int → List Int
  | [] => []
  | x :: r => x / 256 % 256 :: x % 256 :: wbs r
theorem wbs_length (ws : List Int) : (wbs ws).length = 2 * ws.length := by
  induction ws with
  | nil => rfl
  | cons x r ih => simp [wbs, ih]; omega
theorem wbs_snoc (ws : List Int) (x : Int) : wbs (ws ++ [x]) = wbs ws ++ [x / 256 % 256, x % 256] := by
  induction ws with
  | nil => rfl
  | cons y r ih => simp [wbs, ih]
theorem take_snoc {ws : List Int} {k : Nat} (h : k < ws.length) : ws.take (k + 1) = ws.take k ++ [ws.getD k 0] := by
  rw [List.take_add_one]; simp [h]
theorem wbs_step (ws : List Int) (k : Nat) (h : k < ws.length) : wbs (ws.take (k + 1)) = wbs (ws.take k) ++ [ws.getD k 0 / 256 % 256, ws.getD k 0 % 256] := by
  rw [take_snoc h, wbs_snoc]
def Nw (w w' : World) (e : Ending) (zs : List Int) : Prop :=
  ∃ g c n, e = .returned (.slice (some ⟨g, 0, none⟩) n c) ∧ n = zs.length ∧ Own w' w.heap.size (.slice (some ⟨g, 0, none⟩) n c) zs ∧ Below w.heap.size w w'
theorem own_some {w : World} {base : Nat} {v : Value} {zs : List Int} (h : Own w base v zs) (hp : 0 < zs.length) : ∃ g c, v = .slice (some ⟨g, 0, none⟩) zs.length c ∧ base ≤ g ∧ g < w.heap.size := by
  have hl := fun k e => World.ownsRow.lt h k e
  obtain ⟨_, h2⟩ := h
  rcases h2 with ⟨hv, h3⟩ | ⟨g, cap, cur, hv, hg, hh, _⟩
  · simp at h3; subst h3; simp at hp
  · exact ⟨g, cap, hv, hg, (hl g (by rw [hv]; rfl)).2⟩
theorem wpList_app {w : World} {ops : Array Oper} {rest : List Oper} {o : Oper} {a : Act} {Q : Exit → Act → World → Prop} (hgd : o.guard = none) (s x : Operand)
    (ho : o.op = .call { callee := .builtin .append, args := #[s, x], argTypes := #[22, 22] }) (base : Nat) (v : Value) (zs : List Int) (hs : a.eval s = v) (hown : Own w base v zs)
    (ad : Addr) (m c : Nat) (ys : List Int) (hx : a.eval x = .slice (some ad) m c) (hm : m = ys.length) (hsl : Sl w (some ad) ys) (hlen : zs.length + ys.length ≤ 4000000) (hbase : base ≤ w.heap.size)
    (h : ∀ v' w', Own w' base v' (zs ++ ys) → w.grownBy w' v.ownBlock → wpList Tryz.prog ops Q rest (a.put o.dst v') w') : wpList Tryz.prog ops Q (o :: rest) a w := by
  obtain ⟨i0, hi, hz0, hz1, hz2⟩ := info_parts Tryz.info5
  subst hm
  refine wpList_append_own w hgd s x 22 ho base 5 i0 (.int .u8 0) 1 1 Tryz.underlying22 hi hz0 hz1 hz2 rfl (by decide) v zs.length (zs.map (Value.int .u8)) hs hown ad ys.length c (ys.map (Value.int .u8)) hx (by simp) hsl.cellsAt (ones ys) (by unfold maxLen; omega) (by omega) hbase ?_
  intro v' w' h1 h2 _
  exact h v' w' (by simpa [Own] using h1) h2
theorem sl_lit1 (w : World) (x : Int) {g : Nat} (hg : g = w.heap.size) : Sl (w.alloc (.cells #[.int .u8 x] 5)) (some ⟨g, 0, none⟩) [x] := hg ▸
  .inr ⟨_, 0, rfl, by simp, fun i hi => by
    have : i = 0 := by simp at hi; omega
    subst this; simp⟩
theorem sl_lit2 (w : World) (x y : Int) {g : Nat} (hg : g = w.heap.size) : Sl (w.alloc (.cells #[.int .u8 x, .int .u8 y] 5)) (some ⟨g, 0, none⟩) [x, y] := hg ▸
  .inr ⟨_, 0, rfl, by simp, fun i hi => by
    have : i = 0 ∨ i = 1 := by simp at hi; omega
    rcases this with rfl | rfl <;> simp⟩
theorem own_lit1 (w : World) (x : Int) (B : Nat) (hB : B ≤ w.heap.size) : Own (w.alloc (.cells #[.int .u8 x] 5)) B (.slice (some ⟨w.heap.size, 0, none⟩) 1 1) [x] := by
  refine ⟨by simp, .inr ⟨w.heap.size, 1, #[.int .u8 x], rfl, hB, ?_, by simp, by unfold maxLen; omega, by simp, by simp⟩⟩
  show (w.heap.push (.cells #[.int .u8 x] 5 (0, 0)))[w.heap.size]? = _
  simp
theorem own_zero {w : World} {g cap : Nat} {cur : Array Value} {B : Nat} (hB : B ≤ g) (hh : w.heap[g]? = some (.cells cur 5 (0, 0))) (hc : cur.size = cap) (hm : cap ≤ maxLen) : Own w B (.slice (some ⟨g, 0, none⟩) 0 cap) [] :=
  ⟨by simp, .inr ⟨g, cap, cur, rfl, hB, hh, by simp, hm, by simp [hc], by simp⟩⟩
theorem bel_grown {B : Nat} {w0 w w' : World} {base : Nat} {v : Value} {zs : List Int} (hb : Below B w0 w) (h : Own w base v zs) (hg : w.grownBy w' v.ownBlock) (h1 : B ≤ base) (h2 : B ≤ w.heap.size) : Below B w0 w' := below_own hb h hg h1 h2
set_option maxHeartbeats 2000000 in
theorem wordBytes_any (a : Option Addr) (n cap : Nat) (ws : List Int) (w : World) (hn : n = ws.length) (hs : SlI w a ws) (hl : ws.length ≤ 1000000) (hp : 0 < ws.length) :
    Calls Tryz.prog 53 #[.slice a n cap] w fun e w' => Nw w w' e (wbs ws) := by
  subst hn
  obtain ⟨i0, hi, hz0, hz1, hz2⟩ := info_parts Tryz.info5
  have hml : 2 * ws.length + 2 ≤ maxLen := by unfold maxLen; omega
  have HP : Hid (0 < ws.length) := hp
  clear hp
  go_enter Tryz.func53, Tryz.ntmps53
  go_wp2_with (at_make; refine wpList_make_own _ rfl (.const (.int .i64 0)) (.tmp 8) 22 rfl w.heap.size 5 i0 (.int .u8 0) 1 Tryz.underlying22 hi hz0 hz1 .i64 .i64 (2 * (ws.length : Int)) (2 * ws.length) rfl rfl (by omega) (by rw [hz2]; omega) (by omega) (Nat.le_refl _) ?_; intro w0 o0 g0)
  have hb0 : Below w.heap.size w w0 := (Below.refl _ w).grown g0 (Nat.le_refl _) (fun k hk => by cases hk)
  go_loopw [3, 12] (fun v i wr => ∃ k : Nat, k ≤ ws.length ∧ i = .int .i64 k ∧ Own wr w.heap.size v (wbs (ws.take k)) ∧ Below w.heap.size w wr) (fun _ i _ => ws.length - (intOf i).toNat)
  case atStart => exact ⟨0, Nat.zero_le _, rfl, o0, hb0⟩
  case round =>
    obtain ⟨k, hk, rfl, ho, hb⟩ := hrel
    by_cases hlt : k < ws.length
    · obtain ⟨b, off, rfl, hbl, hc0⟩ := cell_atI hs hlt
      have hc : wr.cell? ⟨b, off + k, none⟩ = some (.int .i64 (ws.getD k 0)) := by rw [hb.cell (p := ⟨b, off + k, none⟩) hbl]; exact hc0
      have HS : Hid (wbs (ws.take (k + 1)) = wbs (ws.take k) ++ [ws.getD k 0 / 256 % 256, ws.getD k 0 % 256]) := wbs_step ws k hlt
      have HLn : Hid ((wbs (ws.take k)).length + 2 ≤ 4000000) := by show (wbs (ws.take k)).length + 2 ≤ 4000000; rw [wbs_length, List.length_take]; omega
      generalize ws.getD k 0 = z at *
      have hi' : (k : Int) < (ws.length : Int) := by omega
      clear hc0 hs hb0 g0 o0
      go_wp2_with (at_builtin; refine wpList_app rfl (.tmp 16) (.tmp 22) rfl w.heap.size u3 (wbs (ws.take k)) rfl (ho.below (bel_alloc _ _)) ⟨wr.heap.size, 0, none⟩ 2 2 [z / 256 % 256, z % 256] rfl rfl (sl_lit2 _ _ _ rfl) HLn.out (by have := hb.size; simp; omega) ?_; intro v' w1 o1 g1; have hb1 : Below w.heap.size w w1 := bel_grown (bel_next hb (bel_alloc _ _)) (ho.below (bel_alloc _ _)) g1 (Nat.le_refl _) (by have := hb.size; simp; omega); rw [← HS.out] at o1; clear ho hb g1)
      go_roundw
      case rel => first | exact ⟨k + 1, by omega, by go_num, o1, hb1⟩ | exact ⟨_, _, _, ⟨k + 1, by omega, by go_num, o1, hb1⟩, rfl, rfl, rfl⟩
      case measure => simp [intOf]; omega
    · have e : ws.take k = ws := List.take_of_length_le (by omega)
      rw [e] at ho
      obtain ⟨g, c, hv, hg, hgl⟩ := own_some ho (by rw [wbs_length]; have := HP.out; omega)
      subst hv
      have R : Nw w wr (.returned (.slice (some ⟨g, 0, none⟩) (wbs ws).length c)) (wbs ws) := ⟨g, c, _, rfl, rfl, ho, hb⟩
      clear hs hb0 g0 o0 ho hb e
      go_wp2
      go_ret
      exact R
set_option maxHeartbeats 2000000 in
theorem putKind_any (kd : Int) (a : Option Addr) (n cap : Nat) (ws : List Int) (w : World) (hn : n = ws.length) (hs : SlI w a ws) (hl : ws.length ≤ 1000000) (hp : 0 < ws.length) :
    Calls Tryz.prog 49 #[.int .i64 kd, .slice a n cap] w fun e w' => Nw w w' e (kd % 256 :: wbs ws) := by
  have B0 := bel_alloc w (.cells #[.int .u8 (kd % 256)] 5)
  have o0 := own_lit1 w (kd % 256) w.heap.size (Nat.le_refl _)
  have H : Hid (n = ws.length ∧ SlI (w.alloc (.cells #[.int .u8 (kd % 256)] 5)) a ws ∧ ws.length ≤ 1000000 ∧ 0 < ws.length) := ⟨hn, hs.below B0, hl, hp⟩
  clear hn hs hl hp
  go_enter Tryz.func49, Tryz.ntmps49
  go_wp2_with fail
  refine (wordBytes_any _ _ _ ws _ H.out.1 H.out.2.1 H.out.2.2.1 H.out.2.2.2).mono ?_
  rintro e w1 ⟨g, c, m, rfl, hm, o1, b1'⟩
  have B1 := bel_next B0 b1'
  have o0' := o0.below b1'
  have HM : Hid (m = (wbs ws).length) := hm
  have hs1 := o1.sl.2
  have HLn : Hid ([kd % 256].length + (wbs ws).length ≤ 4000000) := by show [kd % 256].length + (wbs ws).length ≤ 4000000; rw [wbs_length]; have := H.out.2.2.1; simp; omega
  clear hm o0 b1' o1 B0
  go_wp2_with (at_builtin; refine wpList_app rfl (.tmp 7) (.tmp 9) rfl w.heap.size (.slice (some ⟨w.heap.size, 0, none⟩) 1 1) [kd % 256] rfl o0' ⟨g, 0, none⟩ m c (wbs ws) rfl HM.out hs1 HLn.out B1.size ?_; intro v' w2 o2 g2; have B2 : Below w.heap.size w w2 := bel_grown B1 o0' g2 (Nat.le_refl _) B1.size; obtain ⟨g', c', hv, _, _⟩ := own_some o2 (by simp); subst hv; have R : Nw w w2 (.returned (.slice (some ⟨g', 0, none⟩) ([kd % 256] ++ wbs ws).length c')) (kd % 256 :: wbs ws) := ⟨g', c', _, rfl, rfl, o2, B2⟩; clear o2 g2 o0' hs1)
  go_ret
  exact R
set_option maxHeartbeats 1000000 in
theorem coilWord_any (x : Bool) (w : World) : Calls Tryz.prog 50 #[.bool x] w fun e w' => e = .returned (.int .i64 (bif x then 65280 else 0)) ∧ w' = w := by
  cases x
  · go_enter Tryz.func50, Tryz.ntmps50
    go_wp2
    go_ret
    exact ⟨rfl, rfl⟩
  · go_enter Tryz.func50, Tryz.ntmps50
    go_wp2
    go_ret
    exact ⟨rfl, rfl⟩
end Go.Proofs.YtohikbpolofklaaGreatDoor
