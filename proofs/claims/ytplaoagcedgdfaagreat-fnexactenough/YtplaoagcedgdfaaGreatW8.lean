/- Texts that the proof needs, joined: Q4 Q5 Q6 Ln2. -/
import Derived.Test.YtplaoagcedgdfaaGreatW7
import Derived.Deep.RegionWith
import Derived.Test.YtplaoagcedgdfaaGreatW1
set_option linter.unusedSectionVars false
set_option linter.unusedVariables false
set_option linter.unusedSimpArgs false
set_option maxHeartbeats 8000000
set_option maxRecDepth 20000
namespace Go.Proofs.YtplaoagcedgdfaaGreat
open Go.RowKit Go.Proofs.Tryz
abbrev z80 : Array Value := #[.int .i64 0, .int .i64 0, .int .i64 0, .slice none 0 0, .slice none 0 0, .int .i64 0]
theorem lit_slB1 (w : World) (x : Bool) {g : Nat} (hg : g = w.heap.size) : SlB (w.alloc (.cells #[.bool x] 4)) (some ⟨g, 0, none⟩) [x] := hg ▸
 .inr ⟨_, 0, rfl, by simp, fun i hi => by
  have : i = 0 := by simp at hi; omega
  subst this; simp⟩
theorem lit_slI1 (w : World) (x : Int) {g : Nat} (hg : g = w.heap.size) : SlI (w.alloc (.cells #[.int .i64 x] 3)) (some ⟨g, 0, none⟩) [x] := hg ▸
 .inr ⟨_, 0, rfl, by simp, fun i hi => by
  have : i = 0 := by simp at hi; omega
  subst this; simp⟩
theorem lit_slI2 (w : World) (x y : Int) {g : Nat} (hg : g = w.heap.size) : SlI (w.alloc (.cells #[.int .i64 x, .int .i64 y] 3)) (some ⟨g, 0, none⟩) [x, y] := hg ▸
 .inr ⟨_, 0, rfl, by simp, fun i hi => by
  have : i = 0 \/ i = 1 := by simp at hi; omega
  rcases this with rfl | rfl <;> simp⟩
theorem req_1 (pl nn : Int) (w : World) :
 Calls prog 282 #[.agg #[.int .i64 pl, .int .i64 nn]] w fun e w' => e = .returned (rq 1 pl nn 0 none none 0 0 0 0) /\ Below w.heap.size w w' := by
 go_enter func282, ntmps282
 go_wp2
 refine bodyPost_ret (v := rq 1 pl nn 0 none none 0 0 0 0) (by simp [results, results282, go_sem]) rfl ?_
 exact ⟨rfl, bel_next (bel_alloc _ _) (bel_alloc _ _)⟩
theorem req_2 (pl nn : Int) (w : World) :
 Calls prog 283 #[.agg #[.int .i64 pl, .int .i64 nn]] w fun e w' => e = .returned (rq 2 pl nn 0 none none 0 0 0 0) /\ Below w.heap.size w w' := by
 go_enter func283, ntmps283
 go_wp2
 refine bodyPost_ret (v := rq 2 pl nn 0 none none 0 0 0 0) (by simp [results, results283, go_sem]) rfl ?_
 exact ⟨rfl, bel_next (bel_alloc _ _) (bel_alloc _ _)⟩
theorem req_3 (pl nn : Int) (w : World) :
 Calls prog 284 #[.agg #[.int .i64 pl, .int .i64 nn]] w fun e w' => e = .returned (rq 3 pl nn 0 none none 0 0 0 0) /\ Below w.heap.size w w' := by
 go_enter func284, ntmps284
 go_wp2
 refine bodyPost_ret (v := rq 3 pl nn 0 none none 0 0 0 0) (by simp [results, results284, go_sem]) rfl ?_
 exact ⟨rfl, bel_next (bel_alloc _ _) (bel_alloc _ _)⟩
theorem req_4 (pl nn : Int) (w : World) :
 Calls prog 285 #[.agg #[.int .i64 pl, .int .i64 nn]] w fun e w' => e = .returned (rq 4 pl nn 0 none none 0 0 0 0) /\ Below w.heap.size w w' := by
 go_enter func285, ntmps285
 go_wp2
 refine bodyPost_ret (v := rq 4 pl nn 0 none none 0 0 0 0) (by simp [results, results285, go_sem]) rfl ?_
 exact ⟨rfl, bel_next (bel_alloc _ _) (bel_alloc _ _)⟩
theorem req_5 (pl : Int) (x : Bool) (w : World) :
 Calls prog 286 #[.agg #[.int .i64 pl, .bool x]] w fun e w' => e = .returned (rq 5 pl 0 0 none (some ⟨w.heap.size + 1 + 1, 0, none⟩) 0 1 0 1) /\ SlB w' (some ⟨w.heap.size + 1 + 1, 0, none⟩) [x] /\ Below w.heap.size w w' := by
 go_enter func286, ntmps286
 go_wp2
 refine bodyPost_ret (v := rq 5 pl 0 0 none (some ⟨w.heap.size + 1 + 1, 0, none⟩) 0 1 0 1) (by simp [results, results286, go_sem]) rfl ?_
 exact ⟨rfl, lit_slB1 _ x (by simp), bel_next (bel_next (bel_alloc _ _) (bel_alloc _ _)) (bel_alloc _ _)⟩
theorem req_6 (pl x : Int) (w : World) :
 Calls prog 287 #[.agg #[.int .i64 pl, .int .i64 x]] w fun e w' => e = .returned (rq 6 pl 0 0 (some ⟨w.heap.size + 1 + 1, 0, none⟩) none 1 0 1 0) /\ SlI w' (some ⟨w.heap.size + 1 + 1, 0, none⟩) [x] /\ Below w.heap.size w w' := by
 go_enter func287, ntmps287
 go_wp2
 refine bodyPost_ret (v := rq 6 pl 0 0 (some ⟨w.heap.size + 1 + 1, 0, none⟩) none 1 0 1 0) (by simp [results, results287, go_sem]) rfl ?_
 exact ⟨rfl, lit_slI1 _ x (by simp), bel_next (bel_next (bel_alloc _ _) (bel_alloc _ _)) (bel_alloc _ _)⟩
theorem req_15 (pl : Int) (a2 : Option Addr) (l2 c2 : Nat) (w : World) :
 Calls prog 288 #[.agg #[.int .i64 pl, .slice a2 l2 c2]] w fun e w' => e = .returned (rq 15 pl 0 0 none a2 0 l2 0 c2) /\ Below w.heap.size w w' := by
 go_enter func288, ntmps288
 go_wp2
 refine bodyPost_ret (v := rq 15 pl 0 0 none a2 0 l2 0 c2) (by simp [results, results288, go_sem]) rfl ?_
 exact ⟨rfl, bel_next (bel_alloc _ _) (bel_alloc _ _)⟩
theorem req_16 (pl : Int) (a1 : Option Addr) (l1 c1 : Nat) (w : World) :
 Calls prog 289 #[.agg #[.int .i64 pl, .slice a1 l1 c1]] w fun e w' => e = .returned (rq 16 pl 0 0 a1 none l1 0 c1 0) /\ Below w.heap.size w w' := by
 go_enter func289, ntmps289
 go_wp2
 refine bodyPost_ret (v := rq 16 pl 0 0 a1 none l1 0 c1 0) (by simp [results, results289, go_sem]) rfl ?_
 exact ⟨rfl, bel_next (bel_alloc _ _) (bel_alloc _ _)⟩
theorem req_22 (pl x y : Int) (w : World) :
 Calls prog 290 #[.agg #[.int .i64 pl, .int .i64 x, .int .i64 y]] w fun e w' => e = .returned (rq 22 pl 0 0 (some ⟨w.heap.size + 1 + 1, 0, none⟩) none 2 0 2 0) /\ SlI w' (some ⟨w.heap.size + 1 + 1, 0, none⟩) [x, y] /\ Below w.heap.size w w' := by
 go_enter func290, ntmps290
 go_wp2
 refine bodyPost_ret (v := rq 22 pl 0 0 (some ⟨w.heap.size + 1 + 1, 0, none⟩) none 2 0 2 0) (by simp [results, results290, go_sem]) rfl ?_
 exact ⟨rfl, lit_slI2 _ x y (by simp), bel_next (bel_next (bel_alloc _ _) (bel_alloc _ _)) (bel_alloc _ _)⟩
theorem req_23 (pl nn wa : Int) (a1 : Option Addr) (l1 c1 : Nat) (w : World) :
 Calls prog 291 #[.agg #[.int .i64 pl, .int .i64 nn, .int .i64 wa, .slice a1 l1 c1]] w fun e w' => e = .returned (rq 23 pl nn wa a1 none l1 0 c1 0) /\ Below w.heap.size w w' := by
 go_enter func291, ntmps291
 go_wp2
 refine bodyPost_ret (v := rq 23 pl nn wa a1 none l1 0 c1 0) (by simp [results, results291, go_sem]) rfl ?_
 exact ⟨rfl, bel_next (bel_alloc _ _) (bel_alloc _ _)⟩
theorem sameReq_n (kd pl nn wa nn' wa' : Int) (a1 a2 a1' a2' : Option Addr) (l1 l2 c1 c2 l1' l2' c1' c2' : Nat) (w : World) (hne : ¬ nn = nn') :
 Calls prog 206 #[rq kd pl nn wa a1 a2 l1 l2 c1 c2, rq kd pl nn' wa' a1' a2' l1' l2' c1' c2'] w fun e w' => e = .returned (.bool false) /\ Below w.heap.size w w' := by
 obtain ⟨W0, hW0'⟩ : ∃ W0, W0 = (w.alloc (.cells #[.int .i64 kd, .int .i64 pl, .int .i64 nn, .slice a1 l1 c1, .slice a2 l2 c2, .int .i64 wa] 84)).alloc (.cells #[.int .i64 kd, .int .i64 pl, .int .i64 nn', .slice a1' l1' c1', .slice a2' l2' c2', .int .i64 wa'] 84) := ⟨_, rfl⟩
 have hW0 : Hid (W0 = _) := hW0'
 have B0 : Below w.heap.size w W0 := by rw [hW0']; exact bel_next (bel_alloc w _) (bel_alloc _ _)
 have X0 : Blk W0 w.heap.size 84 #[.int .i64 kd, .int .i64 pl, .int .i64 nn, .slice a1 l1 c1, .slice a2 l2 c2, .int .i64 wa] := by rw [hW0']; exact (Blk.new w _ _).below (bel_alloc _ _)
 have Y0 : Blk W0 (w.heap.size + 1) 84 #[.int .i64 kd, .int .i64 pl, .int .i64 nn', .slice a1' l1' c1', .slice a2' l2' c2', .int .i64 wa'] := by
  rw [hW0']; have := Blk.new (w.alloc (.cells #[.int .i64 kd, .int .i64 pl, .int .i64 nn, .slice a1 l1 c1, .slice a2 l2 c2, .int .i64 wa] 84)) #[.int .i64 kd, .int .i64 pl, .int .i64 nn', .slice a1' l1' c1', .slice a2' l2' c2', .int .i64 wa'] 84; simpa using this
 obtain ⟨x0, x1, x2, x3, x4, x5⟩ := X0.six
 obtain ⟨y0, y1, y2, y3, y4, y5⟩ := Y0.six
 clear hW0'
 go_enter func206, ntmps206
 go_upto_region 1 with fail
 rw [<- hW0.out]
 go_wp2
 go_ret
 exact ⟨rfl, B0⟩
theorem sameReq_w (kd pl nn wa nn' wa' : Int) (a1 a2 a1' a2' : Option Addr) (l1 l2 c1 c2 l1' l2' c1' c2' : Nat) (w : World) (hn : nn' = nn) (hne : ¬ wa = wa') :
 Calls prog 206 #[rq kd pl nn wa a1 a2 l1 l2 c1 c2, rq kd pl nn' wa' a1' a2' l1' l2' c1' c2'] w fun e w' => e = .returned (.bool false) /\ Below w.heap.size w w' := by
 obtain ⟨W0, hW0'⟩ : ∃ W0, W0 = (w.alloc (.cells #[.int .i64 kd, .int .i64 pl, .int .i64 nn, .slice a1 l1 c1, .slice a2 l2 c2, .int .i64 wa] 84)).alloc (.cells #[.int .i64 kd, .int .i64 pl, .int .i64 nn', .slice a1' l1' c1', .slice a2' l2' c2', .int .i64 wa'] 84) := ⟨_, rfl⟩
 have hW0 : Hid (W0 = _) := hW0'
 have B0 : Below w.heap.size w W0 := by rw [hW0']; exact bel_next (bel_alloc w _) (bel_alloc _ _)
 have X0 : Blk W0 w.heap.size 84 #[.int .i64 kd, .int .i64 pl, .int .i64 nn, .slice a1 l1 c1, .slice a2 l2 c2, .int .i64 wa] := by rw [hW0']; exact (Blk.new w _ _).below (bel_alloc _ _)
 have Y0 : Blk W0 (w.heap.size + 1) 84 #[.int .i64 kd, .int .i64 pl, .int .i64 nn', .slice a1' l1' c1', .slice a2' l2' c2', .int .i64 wa'] := by
  rw [hW0']; have := Blk.new (w.alloc (.cells #[.int .i64 kd, .int .i64 pl, .int .i64 nn, .slice a1 l1 c1, .slice a2 l2 c2, .int .i64 wa] 84)) #[.int .i64 kd, .int .i64 pl, .int .i64 nn', .slice a1' l1' c1', .slice a2' l2' c2', .int .i64 wa'] 84; simpa using this
 obtain ⟨x0, x1, x2, x3, x4, x5⟩ := X0.six
 obtain ⟨y0, y1, y2, y3, y4, y5⟩ := Y0.six
 subst hn
 clear hW0'
 go_enter func206, ntmps206
 go_upto_region 1 with fail
 rw [<- hW0.out]
 go_wp2
 go_ret
 exact ⟨rfl, B0⟩
theorem sameReq_1 (kd pl nn wa nn' wa' : Int) (a1 a2 a1' a2' : Option Addr) (l1 l2 c1 c2 l1' l2' c1' c2' : Nat) (w : World) (hn : nn' = nn) (hw : wa' = wa) (hne : ¬ (l1 : Int) = (l1' : Int)) (h1 : l1 <= 20000000) (h1' : l1' <= 20000000) :
 Calls prog 206 #[rq kd pl nn wa a1 a2 l1 l2 c1 c2, rq kd pl nn' wa' a1' a2' l1' l2' c1' c2'] w fun e w' => e = .returned (.bool false) /\ Below w.heap.size w w' := by
 obtain ⟨W0, hW0'⟩ : ∃ W0, W0 = (w.alloc (.cells #[.int .i64 kd, .int .i64 pl, .int .i64 nn, .slice a1 l1 c1, .slice a2 l2 c2, .int .i64 wa] 84)).alloc (.cells #[.int .i64 kd, .int .i64 pl, .int .i64 nn', .slice a1' l1' c1', .slice a2' l2' c2', .int .i64 wa'] 84) := ⟨_, rfl⟩
 have hW0 : Hid (W0 = _) := hW0'
 have B0 : Below w.heap.size w W0 := by rw [hW0']; exact bel_next (bel_alloc w _) (bel_alloc _ _)
 have X0 : Blk W0 w.heap.size 84 #[.int .i64 kd, .int .i64 pl, .int .i64 nn, .slice a1 l1 c1, .slice a2 l2 c2, .int .i64 wa] := by rw [hW0']; exact (Blk.new w _ _).below (bel_alloc _ _)
 have Y0 : Blk W0 (w.heap.size + 1) 84 #[.int .i64 kd, .int .i64 pl, .int .i64 nn', .slice a1' l1' c1', .slice a2' l2' c2', .int .i64 wa'] := by
  rw [hW0']; have := Blk.new (w.alloc (.cells #[.int .i64 kd, .int .i64 pl, .int .i64 nn, .slice a1 l1 c1, .slice a2 l2 c2, .int .i64 wa] 84)) #[.int .i64 kd, .int .i64 pl, .int .i64 nn', .slice a1' l1' c1', .slice a2' l2' c2', .int .i64 wa'] 84; simpa using this
 obtain ⟨x0, x1, x2, x3, x4, x5⟩ := X0.six
 obtain ⟨y0, y1, y2, y3, y4, y5⟩ := Y0.six
 subst hn hw
 clear hW0'
 go_enter func206, ntmps206
 go_upto_region 1 with fail
 rw [<- hW0.out]
 go_wp2_with fail
 refine (equal_int_len _ _ _ _ _ _ _ hne h1 h1').mono ?_
 rintro e w1 ⟨rfl, b'⟩
 go_wp2
 go_ret
 exact ⟨rfl, bel_next B0 b'⟩
theorem sameReq_2 (kd pl nn wa nn' wa' : Int) (a1 a2 a1' a2' : Option Addr) (l1 l2 c1 c2 l1' l2' c1' c2' : Nat) (w : World) (hn : nn' = nn) (hw : wa' = wa) (ws : List Int) (h1 : l1 = ws.length) (h1' : l1' = ws.length) (s1 : SlI w a1 ws) (s1' : SlI w a1' ws) (hl1 : ws.length <= 2000000) (hne : ¬ (l2 : Int) = (l2' : Int)) (h2 : l2 <= 20000000) (h2' : l2' <= 20000000) :
 Calls prog 206 #[rq kd pl nn wa a1 a2 l1 l2 c1 c2, rq kd pl nn' wa' a1' a2' l1' l2' c1' c2'] w fun e w' => e = .returned (.bool false) /\ Below w.heap.size w w' := by
 obtain ⟨W0, hW0'⟩ : ∃ W0, W0 = (w.alloc (.cells #[.int .i64 kd, .int .i64 pl, .int .i64 nn, .slice a1 l1 c1, .slice a2 l2 c2, .int .i64 wa] 84)).alloc (.cells #[.int .i64 kd, .int .i64 pl, .int .i64 nn', .slice a1' l1' c1', .slice a2' l2' c2', .int .i64 wa'] 84) := ⟨_, rfl⟩
 have hW0 : Hid (W0 = _) := hW0'
 have B0 : Below w.heap.size w W0 := by rw [hW0']; exact bel_next (bel_alloc w _) (bel_alloc _ _)
 have X0 : Blk W0 w.heap.size 84 #[.int .i64 kd, .int .i64 pl, .int .i64 nn, .slice a1 l1 c1, .slice a2 l2 c2, .int .i64 wa] := by rw [hW0']; exact (Blk.new w _ _).below (bel_alloc _ _)
 have Y0 : Blk W0 (w.heap.size + 1) 84 #[.int .i64 kd, .int .i64 pl, .int .i64 nn', .slice a1' l1' c1', .slice a2' l2' c2', .int .i64 wa'] := by
  rw [hW0']; have := Blk.new (w.alloc (.cells #[.int .i64 kd, .int .i64 pl, .int .i64 nn, .slice a1 l1 c1, .slice a2 l2 c2, .int .i64 wa] 84)) #[.int .i64 kd, .int .i64 pl, .int .i64 nn', .slice a1' l1' c1', .slice a2' l2' c2', .int .i64 wa'] 84; simpa using this
 obtain ⟨x0, x1, x2, x3, x4, x5⟩ := X0.six
 obtain ⟨y0, y1, y2, y3, y4, y5⟩ := Y0.six
 subst hn hw
 have HH : Hid (l1 = ws.length /\ l1' = ws.length /\ SlI W0 a1 ws /\ SlI W0 a1' ws) := ⟨h1, h1', s1.below B0, s1'.below B0⟩
 clear h1 h1' s1 s1'
 clear hW0'
 go_enter func206, ntmps206
 go_upto_region 1 with fail
 rw [<- hW0.out]
 go_wp2_with fail
 refine (equal_int _ _ _ _ _ _ ws _ HH.out.1 HH.out.2.1 HH.out.2.2.1 HH.out.2.2.2 hl1).mono ?_
 rintro e w1 ⟨rfl, b'⟩
 have b1 := bel_next B0 b'
 obtain ⟨x0, x1, x2, x3, x4, x5⟩ := (X0.below b').six
 obtain ⟨y0, y1, y2, y3, y4, y5⟩ := (Y0.below b').six
 go_wp2_with fail
 refine (equal_bool_len _ _ _ _ _ _ _ hne h2 h2').mono ?_
 rintro e w2 ⟨rfl, b2'⟩
 go_wp2
 go_ret
 exact ⟨rfl, bel_next b1 b2'⟩
theorem sameReq_t (kd pl nn wa nn' wa' : Int) (a1 a2 a1' a2' : Option Addr) (l1 l2 c1 c2 l1' l2' c1' c2' : Nat) (w : World) (hn : nn' = nn) (hw : wa' = wa) (ws : List Int) (h1 : l1 = ws.length) (h1' : l1' = ws.length) (s1 : SlI w a1 ws) (s1' : SlI w a1' ws) (hl1 : ws.length <= 2000000) (bs : List Bool) (h2 : l2 = bs.length) (h2' : l2' = bs.length) (s2 : SlB w a2 bs) (s2' : SlB w a2' bs) (hl2 : bs.length <= 2000000) :
 Calls prog 206 #[rq kd pl nn wa a1 a2 l1 l2 c1 c2, rq kd pl nn' wa' a1' a2' l1' l2' c1' c2'] w fun e w' => e = .returned (.bool true) /\ Below w.heap.size w w' := by
 obtain ⟨W0, hW0'⟩ : ∃ W0, W0 = (w.alloc (.cells #[.int .i64 kd, .int .i64 pl, .int .i64 nn, .slice a1 l1 c1, .slice a2 l2 c2, .int .i64 wa] 84)).alloc (.cells #[.int .i64 kd, .int .i64 pl, .int .i64 nn', .slice a1' l1' c1', .slice a2' l2' c2', .int .i64 wa'] 84) := ⟨_, rfl⟩
 have hW0 : Hid (W0 = _) := hW0'
 have B0 : Below w.heap.size w W0 := by rw [hW0']; exact bel_next (bel_alloc w _) (bel_alloc _ _)
 have X0 : Blk W0 w.heap.size 84 #[.int .i64 kd, .int .i64 pl, .int .i64 nn, .slice a1 l1 c1, .slice a2 l2 c2, .int .i64 wa] := by rw [hW0']; exact (Blk.new w _ _).below (bel_alloc _ _)
 have Y0 : Blk W0 (w.heap.size + 1) 84 #[.int .i64 kd, .int .i64 pl, .int .i64 nn', .slice a1' l1' c1', .slice a2' l2' c2', .int .i64 wa'] := by
  rw [hW0']; have := Blk.new (w.alloc (.cells #[.int .i64 kd, .int .i64 pl, .int .i64 nn, .slice a1 l1 c1, .slice a2 l2 c2, .int .i64 wa] 84)) #[.int .i64 kd, .int .i64 pl, .int .i64 nn', .slice a1' l1' c1', .slice a2' l2' c2', .int .i64 wa'] 84; simpa using this
 obtain ⟨x0, x1, x2, x3, x4, x5⟩ := X0.six
 obtain ⟨y0, y1, y2, y3, y4, y5⟩ := Y0.six
 subst hn hw
 have HH : Hid (l1 = ws.length /\ l1' = ws.length /\ SlI W0 a1 ws /\ SlI W0 a1' ws) := ⟨h1, h1', s1.below B0, s1'.below B0⟩
 clear h1 h1' s1 s1'
 have HB : Hid (l2 = bs.length /\ l2' = bs.length /\ SlB W0 a2 bs /\ SlB W0 a2' bs) := ⟨h2, h2', s2.below B0, s2'.below B0⟩
 clear h2 h2' s2 s2'
 clear hW0'
 go_enter func206, ntmps206
 go_upto_region 1 with fail
 rw [<- hW0.out]
 go_wp2_with fail
 refine (equal_int _ _ _ _ _ _ ws _ HH.out.1 HH.out.2.1 HH.out.2.2.1 HH.out.2.2.2 hl1).mono ?_
 rintro e w1 ⟨rfl, b'⟩
 have b1 := bel_next B0 b'
 obtain ⟨x0, x1, x2, x3, x4, x5⟩ := (X0.below b').six
 obtain ⟨y0, y1, y2, y3, y4, y5⟩ := (Y0.below b').six
 go_wp2_with fail
 refine (equal_bool _ _ _ _ _ _ bs _ HB.out.1 HB.out.2.1 (HB.out.2.2.1.below b') (HB.out.2.2.2.below b') hl2).mono ?_
 rintro e w2 ⟨rfl, b2'⟩
 go_wp2
 go_ret
 exact ⟨rfl, bel_next b1 b2'⟩
theorem meth_1 (v : Value) (w : World) : (method 429 291 v "loop.example/g00129/impl.req").run prog w = .ok (282, v) w := by kernel_rfl
theorem callf_1 (v : Value) (w : World) : (callFunc 282 #[v]).run prog w = .ok (.enter 282 #[v]) w := by kernel_rfl
theorem meth_2 (v : Value) (w : World) : (method 429 292 v "loop.example/g00129/impl.req").run prog w = .ok (283, v) w := by kernel_rfl
theorem callf_2 (v : Value) (w : World) : (callFunc 283 #[v]).run prog w = .ok (.enter 283 #[v]) w := by kernel_rfl
theorem meth_3 (v : Value) (w : World) : (method 429 293 v "loop.example/g00129/impl.req").run prog w = .ok (284, v) w := by kernel_rfl
theorem callf_3 (v : Value) (w : World) : (callFunc 284 #[v]).run prog w = .ok (.enter 284 #[v]) w := by kernel_rfl
theorem meth_4 (v : Value) (w : World) : (method 429 294 v "loop.example/g00129/impl.req").run prog w = .ok (285, v) w := by kernel_rfl
theorem callf_4 (v : Value) (w : World) : (callFunc 285 #[v]).run prog w = .ok (.enter 285 #[v]) w := by kernel_rfl
theorem meth_5 (v : Value) (w : World) : (method 429 296 v "loop.example/g00129/impl.req").run prog w = .ok (286, v) w := by kernel_rfl
theorem callf_5 (v : Value) (w : World) : (callFunc 286 #[v]).run prog w = .ok (.enter 286 #[v]) w := by kernel_rfl
theorem meth_6 (v : Value) (w : World) : (method 429 298 v "loop.example/g00129/impl.req").run prog w = .ok (287, v) w := by kernel_rfl
theorem callf_6 (v : Value) (w : World) : (callFunc 287 #[v]).run prog w = .ok (.enter 287 #[v]) w := by kernel_rfl
theorem meth_15 (v : Value) (w : World) : (method 429 300 v "loop.example/g00129/impl.req").run prog w = .ok (288, v) w := by kernel_rfl
theorem callf_15 (v : Value) (w : World) : (callFunc 288 #[v]).run prog w = .ok (.enter 288 #[v]) w := by kernel_rfl
theorem meth_16 (v : Value) (w : World) : (method 429 302 v "loop.example/g00129/impl.req").run prog w = .ok (289, v) w := by kernel_rfl
theorem callf_16 (v : Value) (w : World) : (callFunc 289 #[v]).run prog w = .ok (.enter 289 #[v]) w := by kernel_rfl
theorem meth_22 (v : Value) (w : World) : (method 429 304 v "loop.example/g00129/impl.req").run prog w = .ok (290, v) w := by kernel_rfl
theorem callf_22 (v : Value) (w : World) : (callFunc 290 #[v]).run prog w = .ok (.enter 290 #[v]) w := by kernel_rfl
theorem meth_23 (v : Value) (w : World) : (method 429 306 v "loop.example/g00129/impl.req").run prog w = .ok (291, v) w := by kernel_rfl
theorem callf_23 (v : Value) (w : World) : (callFunc 291 #[v]).run prog w = .ok (.enter 291 #[v]) w := by kernel_rfl
theorem allW_one {ws : List Int} (h : ws.length = 1) : allW ws = inB (ws.getD 0 0) 0 65535 := by
 unfold allW inB
 rw [Bool.eq_iff_iff]
 simp only [decide_eq_true_eq]
 constructor
 ·intro hh; exact hh 0 (by omega)
 intro hh k hk
 obtain rfl : k = 0 := by omega
 exact hh
theorem allW_two {ws : List Int} (h : ws.length = 2) : allW ws = (inB (ws.getD 0 0) 0 65535 && inB (ws.getD 1 0) 0 65535) := by
 unfold allW inB
 rw [Bool.eq_iff_iff]
 simp only [decide_eq_true_eq, Bool.and_eq_true]
 constructor
 ·intro hh; exact ⟨hh 0 (by omega), hh 1 (by omega)⟩
 intro hh k hk
 obtain rfl | rfl : k = 0 \/ k = 1 := by omega
 ·exact hh.1
 exact hh.2
theorem list_one {bs : List Bool} (h : bs.length = 1) : bs = [bs.getD 0 false] := by
 match bs, h with
 | [x], _ => rfl
theorem ints_one {ws : List Int} (h : ws.length = 1) : ws = [ws.getD 0 0] := by
 match ws, h with
 | [x], _ => rfl
theorem ints_two {ws : List Int} (h : ws.length = 2) : ws = [ws.getD 0 0, ws.getD 1 0] := by
 match ws, h with
 | [x, y], _ => rfl
section
variable (pl nn wa : Int) (ws : List Int) (l1 l2 : Nat) (h1 : l1 = ws.length)
include pl nn wa ws l1 l2 h1
theorem okI_1 : okR 1 pl nn wa ws l1 l2 = (rnB pl nn 2000 && (decide (wa = 0) && (decide (l1 = 0) && (decide (l2 = 0))))) := by
 by_cases hl : l1 = 0
 ·have hW : allW ws = true := allW_good (fun k hk => by omega)
  rw [Bool.eq_iff_iff]; simp [okR, okK, zrB, inB, fitB, rnB, hW, hl]; omega
 rw [Bool.eq_iff_iff]; simp [okR, okK, zrB, hl]
theorem okI_2 : okR 2 pl nn wa ws l1 l2 = (rnB pl nn 2000 && (decide (wa = 0) && (decide (l1 = 0) && (decide (l2 = 0))))) := by
 by_cases hl : l1 = 0
 ·have hW : allW ws = true := allW_good (fun k hk => by omega)
  rw [Bool.eq_iff_iff]; simp [okR, okK, zrB, inB, fitB, rnB, hW, hl]; omega
 rw [Bool.eq_iff_iff]; simp [okR, okK, zrB, hl]
theorem okI_3 : okR 3 pl nn wa ws l1 l2 = (rnB pl nn 125 && (decide (wa = 0) && (decide (l1 = 0) && (decide (l2 = 0))))) := by
 by_cases hl : l1 = 0
 ·have hW : allW ws = true := allW_good (fun k hk => by omega)
  rw [Bool.eq_iff_iff]; simp [okR, okK, zrB, inB, fitB, rnB, hW, hl]; omega
 rw [Bool.eq_iff_iff]; simp [okR, okK, zrB, hl]
theorem okI_4 : okR 4 pl nn wa ws l1 l2 = (rnB pl nn 125 && (decide (wa = 0) && (decide (l1 = 0) && (decide (l2 = 0))))) := by
 by_cases hl : l1 = 0
 ·have hW : allW ws = true := allW_good (fun k hk => by omega)
  rw [Bool.eq_iff_iff]; simp [okR, okK, zrB, inB, fitB, rnB, hW, hl]; omega
 rw [Bool.eq_iff_iff]; simp [okR, okK, zrB, hl]
theorem okI_5 : okR 5 pl nn wa ws l1 l2 = (decide (l2 = 1) && (inB pl 0 65535 && (decide (nn = 0) && (decide (wa = 0) && (decide (l1 = 0)))))) := by
 by_cases hl : l1 = 0
 ·have hW : allW ws = true := allW_good (fun k hk => by omega)
  rw [Bool.eq_iff_iff]; simp [okR, okK, zrB, inB, fitB, rnB, hW, hl]; omega
 rw [Bool.eq_iff_iff]; simp [okR, okK, zrB, hl]
theorem okI_6 : okR 6 pl nn wa ws l1 l2 = (decide (l1 = 1) && (inB pl 0 65535 && (inB (ws.getD 0 0) 0 65535 && (decide (nn = 0) && (decide (wa = 0) && (decide (l2 = 0))))))) := by
 by_cases hl : l1 = 1
 ·rw [Bool.eq_iff_iff, okR, allW_one (by omega)]; simp [okR, okK, zrB, inB, fitB, rnB, hl]; omega
 rw [Bool.eq_iff_iff]; simp [okR, okK, zrB, hl]
theorem okI_15 : okR 15 pl nn wa ws l1 l2 = (rnB pl (l2 : Int) 1968 && (decide (nn = 0) && (decide (wa = 0) && (decide (l1 = 0))))) := by
 by_cases hl : l1 = 0
 ·have hW : allW ws = true := allW_good (fun k hk => by omega)
  rw [Bool.eq_iff_iff]; simp [okR, okK, zrB, inB, fitB, rnB, hW, hl]; omega
 rw [Bool.eq_iff_iff]; simp [okR, okK, zrB, hl]
theorem okI_16 : okR 16 pl nn wa ws l1 l2 = (rnB pl (l1 : Int) 123 && (allW ws && (decide (nn = 0) && (decide (wa = 0) && (decide (l2 = 0)))))) := by
 cases hW : allW ws
 ·simp [okR, hW]
 rw [Bool.eq_iff_iff]; simp [okR, okK, zrB, inB, fitB, rnB, hW]; omega
theorem okI_22 : okR 22 pl nn wa ws l1 l2 = (decide (l1 = 2) && (inB pl 0 65535 && (inB (ws.getD 0 0) 0 65535 && (inB (ws.getD 1 0) 0 65535 && (decide (nn = 0) && (decide (wa = 0) && (decide (l2 = 0)))))))) := by
 by_cases hl : l1 = 2
 ·rw [Bool.eq_iff_iff, okR, allW_two (by omega)]; simp [okR, okK, zrB, inB, fitB, rnB, hl]; omega
 rw [Bool.eq_iff_iff]; simp [okR, okK, zrB, hl]
theorem okI_23 : okR 23 pl nn wa ws l1 l2 = (rnB pl nn 125 && (rnB wa (l1 : Int) 121 && (allW ws && (decide (l2 = 0))))) := by
 cases hW : allW ws
 ·simp [okR, hW]
 rw [Bool.eq_iff_iff]; simp [okR, okK, zrB, inB, fitB, rnB, hW]; omega
end
theorem rq_false (kd pl nn wa : Int) (a1 a2 : Option Addr) (l1 l2 c1 c2 : Nat) (w : World) (q : Value)
 (hq : ∀ u, Below w.heap.size w u -> Calls prog 248 #[rq kd pl nn wa a1 a2 l1 l2 c1 c2] u fun e u' => e = .returned q /\ Below u.heap.size u u')
 (hi : ∀ u, Below w.heap.size w u -> Calls prog 249 #[q] u fun e u' => e = .returned (.bool false) /\ Below u.heap.size u u')
 : Calls prog 233 #[rq kd pl nn wa a1 a2 l1 l2 c1 c2] w fun e w' => e = .returned .nilIface /\ Below w.heap.size w w' := by
 obtain ⟨B0, X0⟩ := bx w #[.int .i64 kd, .int .i64 pl, .int .i64 nn, .slice a1 l1 c1, .slice a2 l2 c2, .int .i64 wa] 84
 obtain ⟨x0, x1, x2, x3, x4, x5⟩ := X0.six
 go_enter func233, ntmps233
 go_wp2_with fail
 refine (hq _ B0).mono ?_
 rintro e w1 ⟨rfl, b'⟩
 have B1 := bel_next B0 b'
 have Y := X0.below b'
 clear X0 x0 x1 x2 x3 x4 x5 hq
 go_upto_region 2 with fail
 refine wp_region_any (by kernel_rfl) ?_
 (try (change wpAny _ _ _ _ _ _ _ (World.drew _)))
 refine wpAny_ready (rs := [0]) (by kernel_rfl) (by simp) ?_
 refine AllReady.cons rfl (fun K hK => ?_) AllReady.nil
 go_simp
 refine hK _ _ ?_
 clear hK K
 refine wpAny_ready (rs := [1]) (by kernel_rfl) (by simp) ?_
 refine AllReady.cons rfl (fun K hK => ?_) AllReady.nil
 go_simp
 go_wp2_with (go_at_call 249; refine (hi _ (by first | exact B1 | exact B1.drew)).mono ?_; rintro e w2 ⟨rfl, b2'⟩; have B2 := bel_next (by first | exact B1 | exact B1.drew) b2'; have Y2 := (Y.below (Below.refl _ _).drew).below b2'; clear b2' Y hi)
 try (refine hK _ _ ?_; clear hK K)
 obtain ⟨y0, y1, y2, y3, y4, y5⟩ := Y2.six
 refine wpAny_ready (rs := [2]) (by kernel_rfl) (by simp) ?_
 refine AllReady.cons rfl (fun K hK => ?_) AllReady.nil
 go_simp
 refine hK _ _ ?_
 clear hK K
 refine wpAny_ready (rs := [3, 5]) (by kernel_rfl) (by simp) ?_
 refine AllReady.cons rfl (fun K hK => ?_) ?_
 ·skip
  go_simp
  refine hK _ _ ?_
  clear hK K
  refine wpAny_ready (rs := [4, 5]) (by kernel_rfl) (by simp) ?_
  refine AllReady.cons rfl (fun K hK => ?_) ?_
  ·skip
   go_simp
   refine hK _ _ ?_
   clear hK K
   refine wpAny_ready (rs := [5]) (by kernel_rfl) (by simp) ?_
   refine AllReady.cons rfl (fun K hK => ?_) AllReady.nil
   go_simp
   refine hK _ _ ?_
   clear hK K
   refine wpAny_ready (rs := [6]) (by kernel_rfl) (by simp) ?_
   refine AllReady.cons rfl (fun K hK => ?_) AllReady.nil
   go_simp
   refine hK _ _ ?_
   clear hK K
   refine wpAny_ready (rs := [7]) (by kernel_rfl) (by simp) ?_
   refine AllReady.cons rfl (fun K hK => ?_) AllReady.nil
   go_simp
   refine hK _ _ ?_
   clear hK K
   refine wpAny_done (by kernel_rfl) ?_ _
   go_wp2
   go_ret
   exact ⟨rfl, B2⟩
  refine AllReady.cons rfl (fun K hK => ?_) AllReady.nil
  go_simp
  refine hK _ _ ?_
  clear hK K
  refine wpAny_ready (rs := [4]) (by kernel_rfl) (by simp) ?_
  refine AllReady.cons rfl (fun K hK => ?_) AllReady.nil
  go_simp
  refine hK _ _ ?_
  clear hK K
  refine wpAny_ready (rs := [6]) (by kernel_rfl) (by simp) ?_
  refine AllReady.cons rfl (fun K hK => ?_) AllReady.nil
  go_simp
  refine hK _ _ ?_
  clear hK K
  refine wpAny_ready (rs := [7]) (by kernel_rfl) (by simp) ?_
  refine AllReady.cons rfl (fun K hK => ?_) AllReady.nil
  go_simp
  refine hK _ _ ?_
  clear hK K
  refine wpAny_done (by kernel_rfl) ?_ _
  go_wp2
  go_ret
  exact ⟨rfl, B2⟩
 refine AllReady.cons rfl (fun K hK => ?_) AllReady.nil
 go_simp
 refine hK _ _ ?_
 clear hK K
 refine wpAny_ready (rs := [3]) (by kernel_rfl) (by simp) ?_
 refine AllReady.cons rfl (fun K hK => ?_) AllReady.nil
 go_simp
 refine hK _ _ ?_
 clear hK K
 refine wpAny_ready (rs := [4]) (by kernel_rfl) (by simp) ?_
 refine AllReady.cons rfl (fun K hK => ?_) AllReady.nil
 go_simp
 refine hK _ _ ?_
 clear hK K
 refine wpAny_ready (rs := [6]) (by kernel_rfl) (by simp) ?_
 refine AllReady.cons rfl (fun K hK => ?_) AllReady.nil
 go_simp
 refine hK _ _ ?_
 clear hK K
 refine wpAny_ready (rs := [7]) (by kernel_rfl) (by simp) ?_
 refine AllReady.cons rfl (fun K hK => ?_) AllReady.nil
 go_simp
 refine hK _ _ ?_
 clear hK K
 refine wpAny_done (by kernel_rfl) ?_ _
 go_wp2
 go_ret
 exact ⟨rfl, B2⟩
theorem rq_true (kd pl nn wa : Int) (a1 a2 : Option Addr) (l1 l2 c1 c2 : Nat) (w : World) (T : TypeId) (v : Value) (F : Nat) (bsm : Bool)
 (hq : ∀ u, Below w.heap.size w u -> Calls prog 248 #[rq kd pl nn wa a1 a2 l1 l2 c1 c2] u fun e u' => e = .returned (.iface T v) /\ Below u.heap.size u u')
 (hi : ∀ u, Below w.heap.size w u -> Calls prog 249 #[(.iface T v)] u fun e u' => e = .returned (.bool true) /\ Below u.heap.size u u')
 (hc : ∀ u, (callFunc F #[v]).run prog u = .ok (.enter F #[v]) u)
 (hm : ∀ u, (method 429 T v "loop.example/g00129/impl.req").run prog u = .ok (F, v) u)
 (hr : ∀ u, Below w.heap.size w u -> Calls prog F #[v] u fun e u' => ∃ x, e = .returned x /\ Below u.heap.size u u' /\ Calls prog 206 #[x, rq kd pl nn wa a1 a2 l1 l2 c1 c2] u' fun e u3 => e = .returned (.bool bsm) /\ Below u'.heap.size u' u3) :
 Calls prog 233 #[rq kd pl nn wa a1 a2 l1 l2 c1 c2] w fun e w' => e = .returned (bif bsm then .iface T v else .nilIface) /\ Below w.heap.size w w' := by
 obtain ⟨B0, X0⟩ := bx w #[.int .i64 kd, .int .i64 pl, .int .i64 nn, .slice a1 l1 c1, .slice a2 l2 c2, .int .i64 wa] 84
 obtain ⟨x0, x1, x2, x3, x4, x5⟩ := X0.six
 go_enter func233, ntmps233
 go_wp2_with fail
 refine (hq _ B0).mono ?_
 rintro e w1 ⟨rfl, b'⟩
 have B1 := bel_next B0 b'
 have Y := X0.below b'
 clear X0 x0 x1 x2 x3 x4 x5 hq
 go_upto_region 2 with fail
 refine wp_region_any (by kernel_rfl) ?_
 (try (change wpAny _ _ _ _ _ _ _ (World.drew _)))
 refine wpAny_ready (rs := [0]) (by kernel_rfl) (by simp) ?_
 refine AllReady.cons rfl (fun K hK => ?_) AllReady.nil
 go_simp
 refine hK _ _ ?_
 clear hK K
 refine wpAny_ready (rs := [1]) (by kernel_rfl) (by simp) ?_
 refine AllReady.cons rfl (fun K hK => ?_) AllReady.nil
 go_simp
 go_wp2_with (go_at_call 249; refine (hi _ (by first | exact B1 | exact B1.drew)).mono ?_; rintro e w2 ⟨rfl, b2'⟩; have B2 := bel_next (by first | exact B1 | exact B1.drew) b2'; have Y2 := (Y.below (Below.refl _ _).drew).below b2'; clear b2' Y hi)
 try (refine hK _ _ ?_; clear hK K)
 obtain ⟨y0, y1, y2, y3, y4, y5⟩ := Y2.six
 refine wpAny_ready (rs := [2]) (by kernel_rfl) (by simp) ?_
 refine AllReady.cons rfl (fun K hK => ?_) AllReady.nil
 go_simp
 refine hK _ _ ?_
 clear hK K
 refine wpAny_ready (rs := [3, 5]) (by kernel_rfl) (by simp) ?_
 refine AllReady.cons rfl (fun K hK => ?_) ?_
 ·skip
  go_simp
  refine hK _ _ ?_
  clear hK K
  refine wpAny_ready (rs := [4, 5]) (by kernel_rfl) (by simp) ?_
  refine AllReady.cons rfl (fun K hK => ?_) ?_
  ·skip
   go_simp
   go_wp2_with (refine (hr _ B2).mono ?_; rintro e w3 ⟨x, rfl, b3', hs⟩; have B3 := bel_next B2 b3'; have Y3 := Y2.below b3'; clear b3' Y2 y0 y1 y2 y3 y4 y5)
   try (refine hK _ _ ?_; clear hK K)
   obtain ⟨y0, y1, y2, y3, y4, y5⟩ := Y3.six
   refine wpAny_ready (rs := [5]) (by kernel_rfl) (by simp) ?_
   refine AllReady.cons rfl (fun K hK => ?_) AllReady.nil
   go_simp
   refine hK _ _ ?_
   clear hK K
   refine wpAny_ready (rs := [6]) (by kernel_rfl) (by simp) ?_
   refine AllReady.cons rfl (fun K hK => ?_) AllReady.nil
   go_simp
   go_wp2_with (go_at_call 206; refine hs.mono ?_; rintro e w4 ⟨rfl, b4'⟩; have B4 := bel_next B3 b4'; clear b4' hs)
   try (refine hK _ _ ?_; clear hK K)
   refine wpAny_ready (rs := [7]) (by kernel_rfl) (by simp) ?_
   refine AllReady.cons rfl (fun K hK => ?_) AllReady.nil
   go_simp
   refine hK _ _ ?_
   clear hK K
   refine wpAny_done (by kernel_rfl) ?_ _
   cases bsm
   ·go_wp2
    go_ret
    exact ⟨rfl, B4⟩
   go_wp2
   go_ret
   exact ⟨rfl, B4⟩
  refine AllReady.cons rfl (fun K hK => ?_) AllReady.nil
  go_simp
  refine hK _ _ ?_
  clear hK K
  refine wpAny_ready (rs := [4]) (by kernel_rfl) (by simp) ?_
  refine AllReady.cons rfl (fun K hK => ?_) AllReady.nil
  go_simp
  go_wp2_with (refine (hr _ B2).mono ?_; rintro e w3 ⟨x, rfl, b3', hs⟩; have B3 := bel_next B2 b3'; have Y3 := Y2.below b3'; clear b3' Y2 y0 y1 y2 y3 y4 y5)
  try (refine hK _ _ ?_; clear hK K)
  obtain ⟨y0, y1, y2, y3, y4, y5⟩ := Y3.six
  refine wpAny_ready (rs := [6]) (by kernel_rfl) (by simp) ?_
  refine AllReady.cons rfl (fun K hK => ?_) AllReady.nil
  go_simp
  go_wp2_with (go_at_call 206; refine hs.mono ?_; rintro e w4 ⟨rfl, b4'⟩; have B4 := bel_next B3 b4'; clear b4' hs)
  try (refine hK _ _ ?_; clear hK K)
  refine wpAny_ready (rs := [7]) (by kernel_rfl) (by simp) ?_
  refine AllReady.cons rfl (fun K hK => ?_) AllReady.nil
  go_simp
  refine hK _ _ ?_
  clear hK K
  refine wpAny_done (by kernel_rfl) ?_ _
  cases bsm
  ·go_wp2
   go_ret
   exact ⟨rfl, B4⟩
  go_wp2
  go_ret
  exact ⟨rfl, B4⟩
 refine AllReady.cons rfl (fun K hK => ?_) AllReady.nil
 go_simp
 refine hK _ _ ?_
 clear hK K
 refine wpAny_ready (rs := [3]) (by kernel_rfl) (by simp) ?_
 refine AllReady.cons rfl (fun K hK => ?_) AllReady.nil
 go_simp
 refine hK _ _ ?_
 clear hK K
 refine wpAny_ready (rs := [4]) (by kernel_rfl) (by simp) ?_
 refine AllReady.cons rfl (fun K hK => ?_) AllReady.nil
 go_simp
 go_wp2_with (refine (hr _ B2).mono ?_; rintro e w3 ⟨x, rfl, b3', hs⟩; have B3 := bel_next B2 b3'; have Y3 := Y2.below b3'; clear b3' Y2 y0 y1 y2 y3 y4 y5)
 try (refine hK _ _ ?_; clear hK K)
 obtain ⟨y0, y1, y2, y3, y4, y5⟩ := Y3.six
 refine wpAny_ready (rs := [6]) (by kernel_rfl) (by simp) ?_
 refine AllReady.cons rfl (fun K hK => ?_) AllReady.nil
 go_simp
 go_wp2_with (go_at_call 206; refine hs.mono ?_; rintro e w4 ⟨rfl, b4'⟩; have B4 := bel_next B3 b4'; clear b4' hs)
 try (refine hK _ _ ?_; clear hK K)
 refine wpAny_ready (rs := [7]) (by kernel_rfl) (by simp) ?_
 refine AllReady.cons rfl (fun K hK => ?_) AllReady.nil
 go_simp
 refine hK _ _ ?_
 clear hK K
 refine wpAny_done (by kernel_rfl) ?_ _
 cases bsm
 ·go_wp2
  go_ret
  exact ⟨rfl, B4⟩
 go_wp2
 go_ret
 exact ⟨rfl, B4⟩
section
variable (pl nn wa : Int) (a1 a2 : Option Addr) (l1 l2 c1 c2 : Nat) (ws : List Int) (bs : List Bool) (w : World) (h1 : l1 = ws.length) (h2 : l2 = bs.length) (s1 : SlI w a1 ws) (s2 : SlB w a2 bs) (hl1 : ws.length <= 2000000) (hl2 : bs.length <= 2000000) (b : Bool)
include pl nn wa a1 a2 l1 l2 c1 c2 ws bs w h1 h2 s1 s2 hl1 hl2 b
theorem rightQuestion_1 (hb : okR 1 pl nn wa ws l1 l2 = b) :
 Calls prog 233 #[rq 1 pl nn wa a1 a2 l1 l2 c1 c2] w fun e w' => e = .returned (bif b then .iface 291 (.agg #[.int .i64 pl, .int .i64 nn]) else .nilIface) /\ Below w.heap.size w w' := by
 subst hb
 rw [okI_1 _ _ _ _ _ _ h1]
 rw [show (rnB pl nn 2000 && (decide (wa = 0) && (decide (l1 = 0) && (decide (l2 = 0))))) = ((rnB pl nn 2000) && (decide (wa = 0) && (decide (l1 = 0) && (decide (l2 = 0))))) from by simp only [Bool.and_assoc]]
 cases hI : (rnB pl nn 2000)
 ·rw [Bool.false_and]
  exact rq_false 1 pl nn wa a1 a2 l1 l2 c1 c2 w _ (fun u hu => questionOf_1 pl nn wa a1 a2 l1 l2 c1 c2 u) (fun u hu => isRight_1 _ _ u _ hI)
 rw [Bool.true_and]
 refine rq_true 1 pl nn wa a1 a2 l1 l2 c1 c2 w _ _ 282 _ (fun u hu => questionOf_1 pl nn wa a1 a2 l1 l2 c1 c2 u) (fun u hu => isRight_1 _ _ u _ hI) (callf_1 _) (meth_1 _) (fun u hu => (req_1 _ _ u).mono ?_)
 rintro e u' ⟨rfl, bu⟩
 refine ⟨_, rfl, bu, ?_⟩
 have hu2 := bel_next hu bu
 by_cases hww : wa = 0
 rotate_left
 ·rw [decide_eq_false hww]
  exact sameReq_w _ _ _ _ _ _ _ _ _ _ _ _ _ _ _ _ _ _ _ rfl (fun h => hww h.symm)
 rw [decide_eq_true hww, Bool.true_and]
 by_cases hll1 : l1 = 0
 rotate_left
 ·rw [decide_eq_false hll1]
  exact sameReq_1 _ _ _ _ _ _ _ _ _ _ _ _ _ _ _ _ _ _ _ rfl hww (by omega) (by omega) (by omega)
 rw [decide_eq_true hll1, Bool.true_and]
 by_cases hll2 : l2 = 0
 rotate_left
 ·rw [decide_eq_false hll2]
  exact sameReq_2 _ _ _ _ _ _ _ _ _ _ _ _ _ _ _ _ _ _ _ rfl hww [] rfl hll1 (.inl rfl) (.inl rfl) (by simp) (by omega) (by omega) (by omega)
 rw [decide_eq_true hll2]
 exact sameReq_t _ _ _ _ _ _ _ _ _ _ _ _ _ _ _ _ _ _ _ rfl hww [] rfl hll1 (.inl rfl) (.inl rfl) (by simp) [] rfl hll2 (.inl rfl) (.inl rfl) (by simp)
theorem rightQuestion_2 (hb : okR 2 pl nn wa ws l1 l2 = b) :
 Calls prog 233 #[rq 2 pl nn wa a1 a2 l1 l2 c1 c2] w fun e w' => e = .returned (bif b then .iface 292 (.agg #[.int .i64 pl, .int .i64 nn]) else .nilIface) /\ Below w.heap.size w w' := by
 subst hb
 rw [okI_2 _ _ _ _ _ _ h1]
 rw [show (rnB pl nn 2000 && (decide (wa = 0) && (decide (l1 = 0) && (decide (l2 = 0))))) = ((rnB pl nn 2000) && (decide (wa = 0) && (decide (l1 = 0) && (decide (l2 = 0))))) from by simp only [Bool.and_assoc]]
 cases hI : (rnB pl nn 2000)
 ·rw [Bool.false_and]
  exact rq_false 2 pl nn wa a1 a2 l1 l2 c1 c2 w _ (fun u hu => questionOf_2 pl nn wa a1 a2 l1 l2 c1 c2 u) (fun u hu => isRight_2 _ _ u _ hI)
 rw [Bool.true_and]
 refine rq_true 2 pl nn wa a1 a2 l1 l2 c1 c2 w _ _ 283 _ (fun u hu => questionOf_2 pl nn wa a1 a2 l1 l2 c1 c2 u) (fun u hu => isRight_2 _ _ u _ hI) (callf_2 _) (meth_2 _) (fun u hu => (req_2 _ _ u).mono ?_)
 rintro e u' ⟨rfl, bu⟩
 refine ⟨_, rfl, bu, ?_⟩
 have hu2 := bel_next hu bu
 by_cases hww : wa = 0
 rotate_left
 ·rw [decide_eq_false hww]
  exact sameReq_w _ _ _ _ _ _ _ _ _ _ _ _ _ _ _ _ _ _ _ rfl (fun h => hww h.symm)
 rw [decide_eq_true hww, Bool.true_and]
 by_cases hll1 : l1 = 0
 rotate_left
 ·rw [decide_eq_false hll1]
  exact sameReq_1 _ _ _ _ _ _ _ _ _ _ _ _ _ _ _ _ _ _ _ rfl hww (by omega) (by omega) (by omega)
 rw [decide_eq_true hll1, Bool.true_and]
 by_cases hll2 : l2 = 0
 rotate_left
 ·rw [decide_eq_false hll2]
  exact sameReq_2 _ _ _ _ _ _ _ _ _ _ _ _ _ _ _ _ _ _ _ rfl hww [] rfl hll1 (.inl rfl) (.inl rfl) (by simp) (by omega) (by omega) (by omega)
 rw [decide_eq_true hll2]
 exact sameReq_t _ _ _ _ _ _ _ _ _ _ _ _ _ _ _ _ _ _ _ rfl hww [] rfl hll1 (.inl rfl) (.inl rfl) (by simp) [] rfl hll2 (.inl rfl) (.inl rfl) (by simp)
theorem rightQuestion_3 (hb : okR 3 pl nn wa ws l1 l2 = b) :
 Calls prog 233 #[rq 3 pl nn wa a1 a2 l1 l2 c1 c2] w fun e w' => e = .returned (bif b then .iface 293 (.agg #[.int .i64 pl, .int .i64 nn]) else .nilIface) /\ Below w.heap.size w w' := by
 subst hb
 rw [okI_3 _ _ _ _ _ _ h1]
 rw [show (rnB pl nn 125 && (decide (wa = 0) && (decide (l1 = 0) && (decide (l2 = 0))))) = ((rnB pl nn 125) && (decide (wa = 0) && (decide (l1 = 0) && (decide (l2 = 0))))) from by simp only [Bool.and_assoc]]
 cases hI : (rnB pl nn 125)
 ·rw [Bool.false_and]
  exact rq_false 3 pl nn wa a1 a2 l1 l2 c1 c2 w _ (fun u hu => questionOf_3 pl nn wa a1 a2 l1 l2 c1 c2 u) (fun u hu => isRight_3 _ _ u _ hI)
 rw [Bool.true_and]
 refine rq_true 3 pl nn wa a1 a2 l1 l2 c1 c2 w _ _ 284 _ (fun u hu => questionOf_3 pl nn wa a1 a2 l1 l2 c1 c2 u) (fun u hu => isRight_3 _ _ u _ hI) (callf_3 _) (meth_3 _) (fun u hu => (req_3 _ _ u).mono ?_)
 rintro e u' ⟨rfl, bu⟩
 refine ⟨_, rfl, bu, ?_⟩
 have hu2 := bel_next hu bu
 by_cases hww : wa = 0
 rotate_left
 ·rw [decide_eq_false hww]
  exact sameReq_w _ _ _ _ _ _ _ _ _ _ _ _ _ _ _ _ _ _ _ rfl (fun h => hww h.symm)
 rw [decide_eq_true hww, Bool.true_and]
 by_cases hll1 : l1 = 0
 rotate_left
 ·rw [decide_eq_false hll1]
  exact sameReq_1 _ _ _ _ _ _ _ _ _ _ _ _ _ _ _ _ _ _ _ rfl hww (by omega) (by omega) (by omega)
 rw [decide_eq_true hll1, Bool.true_and]
 by_cases hll2 : l2 = 0
 rotate_left
 ·rw [decide_eq_false hll2]
  exact sameReq_2 _ _ _ _ _ _ _ _ _ _ _ _ _ _ _ _ _ _ _ rfl hww [] rfl hll1 (.inl rfl) (.inl rfl) (by simp) (by omega) (by omega) (by omega)
 rw [decide_eq_true hll2]
 exact sameReq_t _ _ _ _ _ _ _ _ _ _ _ _ _ _ _ _ _ _ _ rfl hww [] rfl hll1 (.inl rfl) (.inl rfl) (by simp) [] rfl hll2 (.inl rfl) (.inl rfl) (by simp)
theorem rightQuestion_4 (hb : okR 4 pl nn wa ws l1 l2 = b) :
 Calls prog 233 #[rq 4 pl nn wa a1 a2 l1 l2 c1 c2] w fun e w' => e = .returned (bif b then .iface 294 (.agg #[.int .i64 pl, .int .i64 nn]) else .nilIface) /\ Below w.heap.size w w' := by
 subst hb
 rw [okI_4 _ _ _ _ _ _ h1]
 rw [show (rnB pl nn 125 && (decide (wa = 0) && (decide (l1 = 0) && (decide (l2 = 0))))) = ((rnB pl nn 125) && (decide (wa = 0) && (decide (l1 = 0) && (decide (l2 = 0))))) from by simp only [Bool.and_assoc]]
 cases hI : (rnB pl nn 125)
 ·rw [Bool.false_and]
  exact rq_false 4 pl nn wa a1 a2 l1 l2 c1 c2 w _ (fun u hu => questionOf_4 pl nn wa a1 a2 l1 l2 c1 c2 u) (fun u hu => isRight_4 _ _ u _ hI)
 rw [Bool.true_and]
 refine rq_true 4 pl nn wa a1 a2 l1 l2 c1 c2 w _ _ 285 _ (fun u hu => questionOf_4 pl nn wa a1 a2 l1 l2 c1 c2 u) (fun u hu => isRight_4 _ _ u _ hI) (callf_4 _) (meth_4 _) (fun u hu => (req_4 _ _ u).mono ?_)
 rintro e u' ⟨rfl, bu⟩
 refine ⟨_, rfl, bu, ?_⟩
 have hu2 := bel_next hu bu
 by_cases hww : wa = 0
 rotate_left
 ·rw [decide_eq_false hww]
  exact sameReq_w _ _ _ _ _ _ _ _ _ _ _ _ _ _ _ _ _ _ _ rfl (fun h => hww h.symm)
 rw [decide_eq_true hww, Bool.true_and]
 by_cases hll1 : l1 = 0
 rotate_left
 ·rw [decide_eq_false hll1]
  exact sameReq_1 _ _ _ _ _ _ _ _ _ _ _ _ _ _ _ _ _ _ _ rfl hww (by omega) (by omega) (by omega)
 rw [decide_eq_true hll1, Bool.true_and]
 by_cases hll2 : l2 = 0
 rotate_left
 ·rw [decide_eq_false hll2]
  exact sameReq_2 _ _ _ _ _ _ _ _ _ _ _ _ _ _ _ _ _ _ _ rfl hww [] rfl hll1 (.inl rfl) (.inl rfl) (by simp) (by omega) (by omega) (by omega)
 rw [decide_eq_true hll2]
 exact sameReq_t _ _ _ _ _ _ _ _ _ _ _ _ _ _ _ _ _ _ _ rfl hww [] rfl hll1 (.inl rfl) (.inl rfl) (by simp) [] rfl hll2 (.inl rfl) (.inl rfl) (by simp)
theorem rightQuestion_5 (hb : okR 5 pl nn wa ws l1 l2 = b) :
 Calls prog 233 #[rq 5 pl nn wa a1 a2 l1 l2 c1 c2] w fun e w' => e = .returned (bif b then .iface 296 (.agg #[.int .i64 pl, .bool (bs.getD 0 false)]) else .nilIface) /\ Below w.heap.size w w' := by
 subst hb
 rw [okI_5 _ _ _ _ _ _ h1]
 by_cases hL : l2 = 1
 rotate_left
 ·rw [decide_eq_false hL]
  exact rq_false 5 pl nn wa a1 a2 l1 l2 c1 c2 w .nilIface (fun u hu => questionOf_5n pl nn wa a1 a2 l1 l2 c1 c2 u (by simp; omega)) (fun u hu => isRight_n u)
 rw [decide_eq_true hL, Bool.true_and]
 rw [show (inB pl 0 65535 && (decide (nn = 0) && (decide (wa = 0) && (decide (l1 = 0))))) = ((inB pl 0 65535) && (decide (nn = 0) && (decide (wa = 0) && (decide (l1 = 0))))) from by simp only [Bool.and_assoc]]
 cases hI : (inB pl 0 65535)
 ·rw [Bool.false_and]
  exact rq_false 5 pl nn wa a1 a2 l1 l2 c1 c2 w _ (fun u hu => questionOf_5 pl nn wa a1 a2 l1 l2 c1 c2 u bs h2 (by omega) (s2.below hu)) (fun u hu => isRight_5 _ _ u _ hI)
 rw [Bool.true_and]
 refine rq_true 5 pl nn wa a1 a2 l1 l2 c1 c2 w _ _ 286 _ (fun u hu => questionOf_5 pl nn wa a1 a2 l1 l2 c1 c2 u bs h2 (by omega) (s2.below hu)) (fun u hu => isRight_5 _ _ u _ hI) (callf_5 _) (meth_5 _) (fun u hu => (req_5 _ _ u).mono ?_)
 rintro e u' ⟨rfl, n3, bu⟩
 refine ⟨_, rfl, bu, ?_⟩
 have hu2 := bel_next hu bu
 by_cases hnn : nn = 0
 rotate_left
 ·rw [decide_eq_false hnn]
  exact sameReq_n _ _ _ _ _ _ _ _ _ _ _ _ _ _ _ _ _ _ _ (fun h => hnn h.symm)
 rw [decide_eq_true hnn, Bool.true_and]
 by_cases hww : wa = 0
 rotate_left
 ·rw [decide_eq_false hww]
  exact sameReq_w _ _ _ _ _ _ _ _ _ _ _ _ _ _ _ _ _ _ _ hnn (fun h => hww h.symm)
 rw [decide_eq_true hww, Bool.true_and]
 by_cases hll1 : l1 = 0
 rotate_left
 ·rw [decide_eq_false hll1]
  exact sameReq_1 _ _ _ _ _ _ _ _ _ _ _ _ _ _ _ _ _ _ _ hnn hww (by omega) (by omega) (by omega)
 rw [decide_eq_true hll1]
 exact sameReq_t _ _ _ _ _ _ _ _ _ _ _ _ _ _ _ _ _ _ _ hnn hww [] rfl hll1 (.inl rfl) (.inl rfl) (by simp) [bs.getD 0 false] rfl hL n3 (by have := s2.below hu2; rw [list_one (bs := bs) (by omega)] at this; exact this) (by simp)
theorem rightQuestion_6 (hb : okR 6 pl nn wa ws l1 l2 = b) :
 Calls prog 233 #[rq 6 pl nn wa a1 a2 l1 l2 c1 c2] w fun e w' => e = .returned (bif b then .iface 298 (.agg #[.int .i64 pl, .int .i64 (ws.getD 0 0)]) else .nilIface) /\ Below w.heap.size w w' := by
 subst hb
 rw [okI_6 _ _ _ _ _ _ h1]
 by_cases hL : l1 = 1
 rotate_left
 ·rw [decide_eq_false hL]
  exact rq_false 6 pl nn wa a1 a2 l1 l2 c1 c2 w .nilIface (fun u hu => questionOf_6n pl nn wa a1 a2 l1 l2 c1 c2 u (by simp; omega)) (fun u hu => isRight_n u)
 rw [decide_eq_true hL, Bool.true_and]
 rw [show (inB pl 0 65535 && (inB (ws.getD 0 0) 0 65535 && (decide (nn = 0) && (decide (wa = 0) && (decide (l2 = 0)))))) = ((inB pl 0 65535 && inB (ws.getD 0 0) 0 65535) && (decide (nn = 0) && (decide (wa = 0) && (decide (l2 = 0))))) from by simp only [Bool.and_assoc]]
 cases hI : (inB pl 0 65535 && inB (ws.getD 0 0) 0 65535)
 ·rw [Bool.false_and]
  exact rq_false 6 pl nn wa a1 a2 l1 l2 c1 c2 w _ (fun u hu => questionOf_6 pl nn wa a1 a2 l1 l2 c1 c2 u ws h1 (by omega) (s1.below hu)) (fun u hu => isRight_6 _ _ u _ hI)
 rw [Bool.true_and]
 refine rq_true 6 pl nn wa a1 a2 l1 l2 c1 c2 w _ _ 287 _ (fun u hu => questionOf_6 pl nn wa a1 a2 l1 l2 c1 c2 u ws h1 (by omega) (s1.below hu)) (fun u hu => isRight_6 _ _ u _ hI) (callf_6 _) (meth_6 _) (fun u hu => (req_6 _ _ u).mono ?_)
 rintro e u' ⟨rfl, n3, bu⟩
 refine ⟨_, rfl, bu, ?_⟩
 have hu2 := bel_next hu bu
 by_cases hnn : nn = 0
 rotate_left
 ·rw [decide_eq_false hnn]
  exact sameReq_n _ _ _ _ _ _ _ _ _ _ _ _ _ _ _ _ _ _ _ (fun h => hnn h.symm)
 rw [decide_eq_true hnn, Bool.true_and]
 by_cases hww : wa = 0
 rotate_left
 ·rw [decide_eq_false hww]
  exact sameReq_w _ _ _ _ _ _ _ _ _ _ _ _ _ _ _ _ _ _ _ hnn (fun h => hww h.symm)
 rw [decide_eq_true hww, Bool.true_and]
 by_cases hll2 : l2 = 0
 rotate_left
 ·rw [decide_eq_false hll2]
  exact sameReq_2 _ _ _ _ _ _ _ _ _ _ _ _ _ _ _ _ _ _ _ hnn hww [ws.getD 0 0] rfl hL n3 (by have := s1.below hu2; rw [ints_one (ws := ws) (by omega)] at this; exact this) (by simp) (by omega) (by omega) (by omega)
 rw [decide_eq_true hll2]
 exact sameReq_t _ _ _ _ _ _ _ _ _ _ _ _ _ _ _ _ _ _ _ hnn hww [ws.getD 0 0] rfl hL n3 (by have := s1.below hu2; rw [ints_one (ws := ws) (by omega)] at this; exact this) (by simp) [] rfl hll2 (.inl rfl) (.inl rfl) (by simp)
theorem rightQuestion_15 (hb : okR 15 pl nn wa ws l1 l2 = b) :
 Calls prog 233 #[rq 15 pl nn wa a1 a2 l1 l2 c1 c2] w fun e w' => e = .returned (bif b then .iface 300 (.agg #[.int .i64 pl, .slice a2 l2 c2]) else .nilIface) /\ Below w.heap.size w w' := by
 subst hb
 rw [okI_15 _ _ _ _ _ _ h1]
 rw [show (rnB pl (l2 : Int) 1968 && (decide (nn = 0) && (decide (wa = 0) && (decide (l1 = 0))))) = ((rnB pl (l2 : Int) 1968) && (decide (nn = 0) && (decide (wa = 0) && (decide (l1 = 0))))) from by simp only [Bool.and_assoc]]
 cases hI : (rnB pl (l2 : Int) 1968)
 ·rw [Bool.false_and]
  exact rq_false 15 pl nn wa a1 a2 l1 l2 c1 c2 w _ (fun u hu => questionOf_15 pl nn wa a1 a2 l1 l2 c1 c2 u) (fun u hu => isRight_15 _ _ _ _ u _ hI)
 rw [Bool.true_and]
 refine rq_true 15 pl nn wa a1 a2 l1 l2 c1 c2 w _ _ 288 _ (fun u hu => questionOf_15 pl nn wa a1 a2 l1 l2 c1 c2 u) (fun u hu => isRight_15 _ _ _ _ u _ hI) (callf_15 _) (meth_15 _) (fun u hu => (req_15 _ _ _ _ u).mono ?_)
 rintro e u' ⟨rfl, bu⟩
 refine ⟨_, rfl, bu, ?_⟩
 have hu2 := bel_next hu bu
 by_cases hnn : nn = 0
 rotate_left
 ·rw [decide_eq_false hnn]
  exact sameReq_n _ _ _ _ _ _ _ _ _ _ _ _ _ _ _ _ _ _ _ (fun h => hnn h.symm)
 rw [decide_eq_true hnn, Bool.true_and]
 by_cases hww : wa = 0
 rotate_left
 ·rw [decide_eq_false hww]
  exact sameReq_w _ _ _ _ _ _ _ _ _ _ _ _ _ _ _ _ _ _ _ hnn (fun h => hww h.symm)
 rw [decide_eq_true hww, Bool.true_and]
 by_cases hll1 : l1 = 0
 rotate_left
 ·rw [decide_eq_false hll1]
  exact sameReq_1 _ _ _ _ _ _ _ _ _ _ _ _ _ _ _ _ _ _ _ hnn hww (by omega) (by omega) (by omega)
 rw [decide_eq_true hll1]
 exact sameReq_t _ _ _ _ _ _ _ _ _ _ _ _ _ _ _ _ _ _ _ hnn hww [] rfl hll1 (.inl rfl) (.inl rfl) (by simp) bs h2 h2 (s2.below hu2) (s2.below hu2) hl2
theorem rightQuestion_16 (hb : okR 16 pl nn wa ws l1 l2 = b) :
 Calls prog 233 #[rq 16 pl nn wa a1 a2 l1 l2 c1 c2] w fun e w' => e = .returned (bif b then .iface 302 (.agg #[.int .i64 pl, .slice a1 l1 c1]) else .nilIface) /\ Below w.heap.size w w' := by
 subst hb
 rw [okI_16 _ _ _ _ _ _ h1]
 rw [show (rnB pl (l1 : Int) 123 && (allW ws && (decide (nn = 0) && (decide (wa = 0) && (decide (l2 = 0)))))) = ((rnB pl (l1 : Int) 123 && allW ws) && (decide (nn = 0) && (decide (wa = 0) && (decide (l2 = 0))))) from by simp only [Bool.and_assoc]]
 cases hI : (rnB pl (l1 : Int) 123 && allW ws)
 ·rw [Bool.false_and]
  exact rq_false 16 pl nn wa a1 a2 l1 l2 c1 c2 w _ (fun u hu => questionOf_16 pl nn wa a1 a2 l1 l2 c1 c2 u) (fun u hu => isRight_16 _ _ _ _ ws u h1 (s1.below hu) hl1 _ hI)
 rw [Bool.true_and]
 refine rq_true 16 pl nn wa a1 a2 l1 l2 c1 c2 w _ _ 289 _ (fun u hu => questionOf_16 pl nn wa a1 a2 l1 l2 c1 c2 u) (fun u hu => isRight_16 _ _ _ _ ws u h1 (s1.below hu) hl1 _ hI) (callf_16 _) (meth_16 _) (fun u hu => (req_16 _ _ _ _ u).mono ?_)
 rintro e u' ⟨rfl, bu⟩
 refine ⟨_, rfl, bu, ?_⟩
 have hu2 := bel_next hu bu
 by_cases hnn : nn = 0
 rotate_left
 ·rw [decide_eq_false hnn]
  exact sameReq_n _ _ _ _ _ _ _ _ _ _ _ _ _ _ _ _ _ _ _ (fun h => hnn h.symm)
 rw [decide_eq_true hnn, Bool.true_and]
 by_cases hww : wa = 0
 rotate_left
 ·rw [decide_eq_false hww]
  exact sameReq_w _ _ _ _ _ _ _ _ _ _ _ _ _ _ _ _ _ _ _ hnn (fun h => hww h.symm)
 rw [decide_eq_true hww, Bool.true_and]
 by_cases hll2 : l2 = 0
 rotate_left
 ·rw [decide_eq_false hll2]
  exact sameReq_2 _ _ _ _ _ _ _ _ _ _ _ _ _ _ _ _ _ _ _ hnn hww ws h1 h1 (s1.below hu2) (s1.below hu2) hl1 (by omega) (by omega) (by omega)
 rw [decide_eq_true hll2]
 exact sameReq_t _ _ _ _ _ _ _ _ _ _ _ _ _ _ _ _ _ _ _ hnn hww ws h1 h1 (s1.below hu2) (s1.below hu2) hl1 [] rfl hll2 (.inl rfl) (.inl rfl) (by simp)
theorem rightQuestion_22 (hb : okR 22 pl nn wa ws l1 l2 = b) :
 Calls prog 233 #[rq 22 pl nn wa a1 a2 l1 l2 c1 c2] w fun e w' => e = .returned (bif b then .iface 304 (.agg #[.int .i64 pl, .int .i64 (ws.getD 0 0), .int .i64 (ws.getD 1 0)]) else .nilIface) /\ Below w.heap.size w w' := by
 subst hb
 rw [okI_22 _ _ _ _ _ _ h1]
 by_cases hL : l1 = 2
 rotate_left
 ·rw [decide_eq_false hL]
  exact rq_false 22 pl nn wa a1 a2 l1 l2 c1 c2 w .nilIface (fun u hu => questionOf_22n pl nn wa a1 a2 l1 l2 c1 c2 u (by simp; omega)) (fun u hu => isRight_n u)
 rw [decide_eq_true hL, Bool.true_and]
 rw [show (inB pl 0 65535 && (inB (ws.getD 0 0) 0 65535 && (inB (ws.getD 1 0) 0 65535 && (decide (nn = 0) && (decide (wa = 0) && (decide (l2 = 0))))))) = ((inB pl 0 65535 && (inB (ws.getD 0 0) 0 65535 && inB (ws.getD 1 0) 0 65535)) && (decide (nn = 0) && (decide (wa = 0) && (decide (l2 = 0))))) from by simp only [Bool.and_assoc]]
 cases hI : (inB pl 0 65535 && (inB (ws.getD 0 0) 0 65535 && inB (ws.getD 1 0) 0 65535))
 ·rw [Bool.false_and]
  exact rq_false 22 pl nn wa a1 a2 l1 l2 c1 c2 w _ (fun u hu => questionOf_22 pl nn wa a1 a2 l1 l2 c1 c2 u ws h1 (by omega) (s1.below hu)) (fun u hu => isRight_22 _ _ _ u _ hI)
 rw [Bool.true_and]
 refine rq_true 22 pl nn wa a1 a2 l1 l2 c1 c2 w _ _ 290 _ (fun u hu => questionOf_22 pl nn wa a1 a2 l1 l2 c1 c2 u ws h1 (by omega) (s1.below hu)) (fun u hu => isRight_22 _ _ _ u _ hI) (callf_22 _) (meth_22 _) (fun u hu => (req_22 _ _ _ u).mono ?_)
 rintro e u' ⟨rfl, n3, bu⟩
 refine ⟨_, rfl, bu, ?_⟩
 have hu2 := bel_next hu bu
 by_cases hnn : nn = 0
 rotate_left
 ·rw [decide_eq_false hnn]
  exact sameReq_n _ _ _ _ _ _ _ _ _ _ _ _ _ _ _ _ _ _ _ (fun h => hnn h.symm)
 rw [decide_eq_true hnn, Bool.true_and]
 by_cases hww : wa = 0
 rotate_left
 ·rw [decide_eq_false hww]
  exact sameReq_w _ _ _ _ _ _ _ _ _ _ _ _ _ _ _ _ _ _ _ hnn (fun h => hww h.symm)
 rw [decide_eq_true hww, Bool.true_and]
 by_cases hll2 : l2 = 0
 rotate_left
 ·rw [decide_eq_false hll2]
  exact sameReq_2 _ _ _ _ _ _ _ _ _ _ _ _ _ _ _ _ _ _ _ hnn hww [ws.getD 0 0, ws.getD 1 0] rfl hL n3 (by have := s1.below hu2; rw [ints_two (ws := ws) (by omega)] at this; exact this) (by simp) (by omega) (by omega) (by omega)
 rw [decide_eq_true hll2]
 exact sameReq_t _ _ _ _ _ _ _ _ _ _ _ _ _ _ _ _ _ _ _ hnn hww [ws.getD 0 0, ws.getD 1 0] rfl hL n3 (by have := s1.below hu2; rw [ints_two (ws := ws) (by omega)] at this; exact this) (by simp) [] rfl hll2 (.inl rfl) (.inl rfl) (by simp)
theorem rightQuestion_23 (hb : okR 23 pl nn wa ws l1 l2 = b) :
 Calls prog 233 #[rq 23 pl nn wa a1 a2 l1 l2 c1 c2] w fun e w' => e = .returned (bif b then .iface 306 (.agg #[.int .i64 pl, .int .i64 nn, .int .i64 wa, .slice a1 l1 c1]) else .nilIface) /\ Below w.heap.size w w' := by
 subst hb
 rw [okI_23 _ _ _ _ _ _ h1]
 rw [show (rnB pl nn 125 && (rnB wa (l1 : Int) 121 && (allW ws && (decide (l2 = 0))))) = ((rnB pl nn 125 && (rnB wa (l1 : Int) 121 && allW ws)) && (decide (l2 = 0))) from by simp only [Bool.and_assoc]]
 cases hI : (rnB pl nn 125 && (rnB wa (l1 : Int) 121 && allW ws))
 ·rw [Bool.false_and]
  exact rq_false 23 pl nn wa a1 a2 l1 l2 c1 c2 w _ (fun u hu => questionOf_23 pl nn wa a1 a2 l1 l2 c1 c2 u) (fun u hu => isRight_23 _ _ _ _ _ _ ws u h1 (s1.below hu) hl1 _ hI)
 rw [Bool.true_and]
 refine rq_true 23 pl nn wa a1 a2 l1 l2 c1 c2 w _ _ 291 _ (fun u hu => questionOf_23 pl nn wa a1 a2 l1 l2 c1 c2 u) (fun u hu => isRight_23 _ _ _ _ _ _ ws u h1 (s1.below hu) hl1 _ hI) (callf_23 _) (meth_23 _) (fun u hu => (req_23 _ _ _ _ _ _ u).mono ?_)
 rintro e u' ⟨rfl, bu⟩
 refine ⟨_, rfl, bu, ?_⟩
 have hu2 := bel_next hu bu
 by_cases hll2 : l2 = 0
 rotate_left
 ·rw [decide_eq_false hll2]
  exact sameReq_2 _ _ _ _ _ _ _ _ _ _ _ _ _ _ _ _ _ _ _ rfl rfl ws h1 h1 (s1.below hu2) (s1.below hu2) hl1 (by omega) (by omega) (by omega)
 rw [decide_eq_true hll2]
 exact sameReq_t _ _ _ _ _ _ _ _ _ _ _ _ _ _ _ _ _ _ _ rfl rfl ws h1 h1 (s1.below hu2) (s1.below hu2) hl1 [] rfl hll2 (.inl rfl) (.inl rfl) (by simp)
end
theorem rightQuestion_none (kd : Int) (pl nn wa : Int) (a1 a2 : Option Addr) (l1 l2 c1 c2 : Nat) (ws : List Int) (bs : List Bool) (w : World) (h1 : l1 = ws.length) (h2 : l2 = bs.length) (s1 : SlI w a1 ws) (s2 : SlB w a2 bs) (hl1 : ws.length <= 2000000) (hl2 : bs.length <= 2000000) (k1 : ¬ kd = 1) (k2 : ¬ kd = 2) (k3 : ¬ kd = 3) (k4 : ¬ kd = 4) (k5 : ¬ kd = 5) (k6 : ¬ kd = 6) (k15 : ¬ kd = 15) (k16 : ¬ kd = 16) (k22 : ¬ kd = 22) (k23 : ¬ kd = 23) :
 Calls prog 233 #[rq kd pl nn wa a1 a2 l1 l2 c1 c2] w fun e w' => e = .returned .nilIface /\ Below w.heap.size w w' :=
 rq_false kd pl nn wa a1 a2 l1 l2 c1 c2 w .nilIface (fun u hu => questionOf_none kd pl nn wa a1 a2 l1 l2 c1 c2 u k1 k2 k3 k4 k5 k6 k15 k16 k22 k23) (fun u hu => isRight_n u)
abbrev WfQ (kd pl nn wa : Int) (ws : List Int) : Prop := (∀ n ∈ ws, -9223372036854775808 <= n /\ n <= 9223372036854775807) /\ (Lit.int .i64 kd).wf = true /\ (Lit.int .i64 pl).wf = true /\ (Lit.int .i64 nn).wf = true /\ (Lit.int .i64 wa).wf = true
theorem specReqOk_q (kd pl nn wa : Int) (a1 a2 : Option Addr) (l1 l2 c1 c2 : Nat) (ws : List Int) (bs : List Bool) (w : World) (h1 : l1 = ws.length) (h2 : l2 = bs.length) (s1 : SlI w a1 ws) (s2 : SlB w a2 bs) (hl1 : ws.length <= 2000000) (hl2 : bs.length <= 2000000) :
 Calls prog 119 #[rq kd pl nn wa a1 a2 l1 l2 c1 c2] w fun e w' => e = .returned (.bool (okR kd pl nn wa ws l1 l2)) /\ Below w.heap.size w w' :=
 specReqOk_any kd pl nn wa a1 a2 l1 l2 c1 c2 ws w h1 s1 hl1 (by omega) _ rfl
theorem neq_if (T : TypeId) (v : Value) (w : World) : (binOp .neq 278 (.iface T v) .nilIface).run prog w = .ok (.bool true) w := by kernel_rfl
theorem neq_nil (w : World) : (binOp .neq 278 .nilIface .nilIface).run prog w = .ok (.bool false) w := by kernel_rfl
theorem implReqOk_if (kd pl nn wa : Int) (a1 a2 : Option Addr) (l1 l2 c1 c2 : Nat) (w : World) (b : Bool) (T : TypeId) (v : Value)
 (hq : ∀ u, Below w.heap.size w u -> Calls prog 233 #[rq kd pl nn wa a1 a2 l1 l2 c1 c2] u fun e u' => e = .returned (bif b then .iface T v else .nilIface) /\ Below u.heap.size u u') :
 Calls prog 200 #[rq kd pl nn wa a1 a2 l1 l2 c1 c2] w fun e w' => e = .returned (.bool b) /\ Below w.heap.size w w' := by
 have B0 := bel_alloc w (.cells #[.int .i64 kd, .int .i64 pl, .int .i64 nn, .slice a1 l1 c1, .slice a2 l2 c2, .int .i64 wa] 84)
 have q1 := neq_if T v
 have q2 := neq_nil
 go_enter func200, ntmps200
 go_wp2_with fail
 refine (hq _ B0).mono ?_
 rintro e w1 ⟨rfl, b'⟩
 have B1 := bel_next B0 b'
 clear hq
 cases b
 ·simp only [cond_false]
  go_wp2
  go_ret
  exact ⟨rfl, B1⟩
 simp only [cond_true]
 go_wp2
 go_ret
 exact ⟨rfl, B1⟩
theorem okR_kind {kd pl nn wa : Int} {ws : List Int} {l1 l2 : Nat} (h : okR kd pl nn wa ws l1 l2 = true) : kd = 1 \/ kd = 2 \/ kd = 3 \/ kd = 4 \/ kd = 5 \/ kd = 6 \/ kd = 15 \/ kd = 16 \/ kd = 22 \/ kd = 23 := by
 by_cases hk : kd = 1 \/ kd = 2 \/ kd = 3 \/ kd = 4 \/ kd = 5 \/ kd = 6 \/ kd = 15 \/ kd = 16 \/ kd = 22 \/ kd = 23
 ·exact hk
 have e : okR kd pl nn wa ws l1 l2 = false := by
  have k1 : ¬ kd = 1 := by omega
  have k2 : ¬ kd = 2 := by omega
  have k3 : ¬ kd = 3 := by omega
  have k4 : ¬ kd = 4 := by omega
  have k5 : ¬ kd = 5 := by omega
  have k6 : ¬ kd = 6 := by omega
  have k7 : ¬ kd = 15 := by omega
  have k8 : ¬ kd = 16 := by omega
  have k9 : ¬ kd = 22 := by omega
  have k10 : ¬ kd = 23 := by omega
  simp [okR, okK, k1, k2, k3, k4, k5, k6, k7, k8, k9, k10]
 rw [e] at h
 cases h
theorem implReqOk_q (kd pl nn wa : Int) (a1 a2 : Option Addr) (l1 l2 c1 c2 : Nat) (ws : List Int) (bs : List Bool) (w : World) (h1 : l1 = ws.length) (h2 : l2 = bs.length) (s1 : SlI w a1 ws) (s2 : SlB w a2 bs) (hl1 : ws.length <= 2000000) (hl2 : bs.length <= 2000000) :
 Calls prog 200 #[rq kd pl nn wa a1 a2 l1 l2 c1 c2] w fun e w' => e = .returned (.bool (okR kd pl nn wa ws l1 l2)) /\ Below w.heap.size w w' := by
 by_cases hk : kd = 1 \/ kd = 2 \/ kd = 3 \/ kd = 4 \/ kd = 5 \/ kd = 6 \/ kd = 15 \/ kd = 16 \/ kd = 22 \/ kd = 23
 ·obtain rfl | rfl | rfl | rfl | rfl | rfl | rfl | rfl | rfl | rfl := hk
  ·exact implReqOk_if 1 pl nn wa a1 a2 l1 l2 c1 c2 w _ _ _ (fun u hu => rightQuestion_1 pl nn wa a1 a2 l1 l2 c1 c2 ws bs u h1 h2 (s1.below hu) (s2.below hu) hl1 hl2 _ rfl)
  ·exact implReqOk_if 2 pl nn wa a1 a2 l1 l2 c1 c2 w _ _ _ (fun u hu => rightQuestion_2 pl nn wa a1 a2 l1 l2 c1 c2 ws bs u h1 h2 (s1.below hu) (s2.below hu) hl1 hl2 _ rfl)
  ·exact implReqOk_if 3 pl nn wa a1 a2 l1 l2 c1 c2 w _ _ _ (fun u hu => rightQuestion_3 pl nn wa a1 a2 l1 l2 c1 c2 ws bs u h1 h2 (s1.below hu) (s2.below hu) hl1 hl2 _ rfl)
  ·exact implReqOk_if 4 pl nn wa a1 a2 l1 l2 c1 c2 w _ _ _ (fun u hu => rightQuestion_4 pl nn wa a1 a2 l1 l2 c1 c2 ws bs u h1 h2 (s1.below hu) (s2.below hu) hl1 hl2 _ rfl)
  ·exact implReqOk_if 5 pl nn wa a1 a2 l1 l2 c1 c2 w _ _ _ (fun u hu => rightQuestion_5 pl nn wa a1 a2 l1 l2 c1 c2 ws bs u h1 h2 (s1.below hu) (s2.below hu) hl1 hl2 _ rfl)
  ·exact implReqOk_if 6 pl nn wa a1 a2 l1 l2 c1 c2 w _ _ _ (fun u hu => rightQuestion_6 pl nn wa a1 a2 l1 l2 c1 c2 ws bs u h1 h2 (s1.below hu) (s2.below hu) hl1 hl2 _ rfl)
  ·exact implReqOk_if 15 pl nn wa a1 a2 l1 l2 c1 c2 w _ _ _ (fun u hu => rightQuestion_15 pl nn wa a1 a2 l1 l2 c1 c2 ws bs u h1 h2 (s1.below hu) (s2.below hu) hl1 hl2 _ rfl)
  ·exact implReqOk_if 16 pl nn wa a1 a2 l1 l2 c1 c2 w _ _ _ (fun u hu => rightQuestion_16 pl nn wa a1 a2 l1 l2 c1 c2 ws bs u h1 h2 (s1.below hu) (s2.below hu) hl1 hl2 _ rfl)
  ·exact implReqOk_if 22 pl nn wa a1 a2 l1 l2 c1 c2 w _ _ _ (fun u hu => rightQuestion_22 pl nn wa a1 a2 l1 l2 c1 c2 ws bs u h1 h2 (s1.below hu) (s2.below hu) hl1 hl2 _ rfl)
  exact implReqOk_if 23 pl nn wa a1 a2 l1 l2 c1 c2 w _ _ _ (fun u hu => rightQuestion_23 pl nn wa a1 a2 l1 l2 c1 c2 ws bs u h1 h2 (s1.below hu) (s2.below hu) hl1 hl2 _ rfl)
 have e : okR kd pl nn wa ws l1 l2 = false := by
  cases e : okR kd pl nn wa ws l1 l2
  ·rfl
  exact absurd (okR_kind e) hk
 rw [e]
 exact implReqOk_if kd pl nn wa a1 a2 l1 l2 c1 c2 w false 0 .nilIface (fun u hu => rightQuestion_none kd pl nn wa a1 a2 l1 l2 c1 c2 ws bs u h1 h2 (s1.below hu) (s2.below hu) hl1 hl2 (by omega) (by omega) (by omega) (by omega) (by omega) (by omega) (by omega) (by omega) (by omega) (by omega))
def spcN (kd nn : Int) (l1 l2 : Nat) : Int := if kd = 5 \/ kd = 15 then l2 else if kd = 6 \/ kd = 22 then 1 else if kd = 16 then l1 else nn
def spc0 (kd : Int) : Int := if kd = 1 \/ kd = 5 \/ kd = 15 then 0 else if kd = 2 then 1 else if kd = 4 then 3 else 2
def spcV (b : Bool) (kd pl nn : Int) (l1 l2 : Nat) : Value := bif b then .tuple #[.int .i64 (spc0 kd), .int .i64 pl, .int .i64 (spcN kd nn l1 l2)] else .tuple #[.int .i64 (-1), .int .i64 0, .int .i64 0]
end Go.Proofs.YtplaoagcedgdfaaGreat
namespace Go.Proofs.YtplaoagcedgdfaaGreat
open Go.RowKit Go.Joins Go.Proofs.Tryz
theorem isCntL (x hi : Int) (w : World) (b : Bool) (hb : inB x 1 hi = b) : Calls prog 199 #[.int .i64 x, .int .i64 hi] w fun e w' => e = .returned (.bool b) /\ w' = w := by
 subst hb
 unfold inB
 by_cases h1 : 1 <= x
 ·by_cases h2 : x <= hi
  ·rw [decide_eq_true (show 1 <= x /\ x <= hi from ⟨h1, h2⟩)]
   go_enter func199, ntmps199
   go_wp2
   go_ret
   exact ⟨rfl, rfl⟩
  rw [decide_eq_false (show ¬ (1 <= x /\ x <= hi) from fun h => h2 h.2)]
  go_enter func199, ntmps199
  go_wp2
  go_ret
  exact ⟨rfl, rfl⟩
 rw [decide_eq_false (show ¬ (1 <= x /\ x <= hi) from fun h => h1 h.1)]
 go_enter func199, ntmps199
 go_wp2
 go_ret
 exact ⟨rfl, rfl⟩
theorem isIdL (x : Int) (w : World) (b : Bool) (hb : inB x 0 1000000000 = b) : Calls prog 144 #[.int .i64 x] w fun e w' => e = .returned (.bool b) /\ w' = w := by
 subst hb
 unfold inB
 by_cases h1 : 0 <= x
 ·by_cases h2 : x <= 1000000000
  ·rw [decide_eq_true ⟨h1, h2⟩]
   go_enter func144, ntmps144
   go_wp2
   go_ret
   exact ⟨rfl, rfl⟩
  rw [decide_eq_false (fun h => h2 h.2)]
  go_enter func144, ntmps144
  go_wp2
  go_ret
  exact ⟨rfl, rfl⟩
 rw [decide_eq_false (fun h => h1 h.1)]
 go_enter func144, ntmps144
 go_wp2
 go_ret
 exact ⟨rfl, rfl⟩
theorem isPartL (x : Int) (w : World) (b : Bool) (hb : inB x 0 7 = b) : Calls prog 252 #[.int .i64 x] w fun e w' => e = .returned (.bool b) /\ w' = w := by
 subst hb
 unfold inB
 by_cases h1 : 0 <= x
 ·by_cases h2 : x <= 7
  ·rw [decide_eq_true ⟨h1, h2⟩]
   have h3 : x < 8 := by omega
   go_enter func252, ntmps252
   go_wp2
   go_ret
   exact ⟨rfl, rfl⟩
  rw [decide_eq_false (fun h => h2 h.2)]
  have h3 : ¬ x < 8 := by omega
  go_enter func252, ntmps252
  go_wp2
  go_ret
  exact ⟨rfl, rfl⟩
 rw [decide_eq_false (fun h => h1 h.1)]
 go_enter func252, ntmps252
 go_wp2
 go_ret
 exact ⟨rfl, rfl⟩
theorem isTickL (x : Int) (w : World) (b : Bool) (hb : inB x 0 4294967295 = b) : Calls prog 86 #[.int .i64 x] w fun e w' => e = .returned (.bool b) /\ w' = w := by
 subst hb
 unfold inB
 by_cases h1 : 0 <= x
 ·by_cases h2 : x <= 4294967295
  ·rw [decide_eq_true ⟨h1, h2⟩]
   go_enter func86, ntmps86
   go_wp2
   go_ret
   exact ⟨rfl, rfl⟩
  rw [decide_eq_false (fun h => h2 h.2)]
  go_enter func86, ntmps86
  go_wp2
  go_ret
  exact ⟨rfl, rfl⟩
 rw [decide_eq_false (fun h => h1 h.1)]
 go_enter func86, ntmps86
 go_wp2
 go_ret
 exact ⟨rfl, rfl⟩
theorem isTriesL (x : Int) (w : World) (b : Bool) (hb : inB x 0 5 = b) : Calls prog 143 #[.int .i64 x] w fun e w' => e = .returned (.bool b) /\ w' = w := by
 subst hb
 unfold inB
 by_cases h1 : 0 <= x
 ·by_cases h2 : x <= 5
  ·rw [decide_eq_true ⟨h1, h2⟩]
   go_enter func143, ntmps143
   go_wp2
   go_ret
   exact ⟨rfl, rfl⟩
  rw [decide_eq_false (fun h => h2 h.2)]
  go_enter func143, ntmps143
  go_wp2
  go_ret
  exact ⟨rfl, rfl⟩
 rw [decide_eq_false (fun h => h1 h.1)]
 go_enter func143, ntmps143
 go_wp2
 go_ret
 exact ⟨rfl, rfl⟩
theorem isUnitL (x : Int) (w : World) (b : Bool) (hb : inB x 1 247 = b) : Calls prog 158 #[.int .i64 x] w fun e w' => e = .returned (.bool b) /\ w' = w := by
 go_enter func158, ntmps158
 go_wp2_with fail
 refine (isCntL _ _ _ _ hb).mono ?_
 rintro e wx ⟨rfl, rfl⟩
 go_wp2
 go_ret
 exact ⟨rfl, rfl⟩
theorem isAnsWL (x : Int) (w : World) (b : Bool) (hb : inB x 1 100 = b) : Calls prog 142 #[.int .i64 x] w fun e w' => e = .returned (.bool b) /\ w' = w := by
 go_enter func142, ntmps142
 go_wp2_with fail
 refine (isCntL _ _ _ _ hb).mono ?_
 rintro e wx ⟨rfl, rfl⟩
 go_wp2
 go_ret
 exact ⟨rfl, rfl⟩
theorem l1TickL (x : Int) (w : World) (b : Bool) (hb : inB x 0 4294967295 = b) : Calls prog 33 #[.int .i64 x] w fun e w' => e = .returned (.bool b) /\ w' = w := by
 go_enter func33, ntmps33
 go_wp2_with fail
 refine (l1In_any _ _ _ _ _ hb).mono ?_
 rintro e wx ⟨rfl, rfl⟩
 go_wp2
 go_ret
 exact ⟨rfl, rfl⟩
def okCa (C : Ca) : Bool := inB C.id 0 1000000000 && (inB C.pa 0 7 && (inB C.un 1 247 && okR C.kd C.pl C.n C.wa C.ws C.ws.length C.bs.length))
def noR (kd pl nn wa : Int) (l1 l2 : Nat) : Bool := (kd == 0) && ((pl == 0) && ((nn == 0) && ((wa == 0) && (((l1 : Int) == 0) && ((l2 : Int) == 0)))))
def noCa (C : Ca) (l1 l2 : Nat) : Bool := (C.id == 0) && ((C.pa == 0) && ((C.un == 0) && noR C.kd C.pl C.n C.wa l1 l2))
theorem callRight_any (C : Ca) (g o : Nat) (a1 a2 : Option Addr) (l1 l2 c1 c2 : Nat) (w : World) (d0 : w.cell? ⟨g, o, none⟩ = some (.int .i64 C.id)) (d1 : w.cell? ⟨g, o + 1, none⟩ = some (.int .i64 C.pa)) (d2 : w.cell? ⟨g, o + 2, none⟩ = some (.int .i64 C.un)) (d3 : w.cell? ⟨g, o + 3, none⟩ = some (.int .i64 C.kd)) (d4 : w.cell? ⟨g, o + 4, none⟩ = some (.int .i64 C.pl)) (d5 : w.cell? ⟨g, o + 5, none⟩ = some (.int .i64 C.n)) (d6 : w.cell? ⟨g, o + 6, none⟩ = some (.slice a1 l1 c1)) (d7 : w.cell? ⟨g, o + 7, none⟩ = some (.slice a2 l2 c2)) (d8 : w.cell? ⟨g, o + 8, none⟩ = some (.int .i64 C.wa)) (h1 : l1 = C.ws.length) (h2 : l2 = C.bs.length) (s1 : SlI w a1 C.ws) (s2 : SlB w a2 C.bs) (hl1 : l1 <= 2000000) (hl2 : l2 <= 2000000) :
 Calls prog 240 #[.pointer (some ⟨g, o, none⟩)] w fun e w' => e = .returned (.bool (okCa C)) /\ Below w.heap.size w w' := by
 obtain ⟨x0, hx0⟩ : ∃ x, inB C.id 0 1000000000 = x := ⟨_, rfl⟩
 obtain ⟨x1, hx1⟩ : ∃ x, inB C.pa 0 7 = x := ⟨_, rfl⟩
 obtain ⟨x2, hx2⟩ : ∃ x, inB C.un 1 247 = x := ⟨_, rfl⟩
 obtain ⟨x3, hx3⟩ : ∃ x, okR C.kd C.pl C.n C.wa C.ws l1 l2 = x := ⟨_, rfl⟩
 have HE : Hid (okCa C = (x0 && (x1 && (x2 && x3))) /\ inB C.id 0 1000000000 = x0 /\ inB C.pa 0 7 = x1 /\ inB C.un 1 247 = x2 /\ okR C.kd C.pl C.n C.wa C.ws l1 l2 = x3 /\ l1 = C.ws.length /\ l2 = C.bs.length /\ SlI w a1 C.ws /\ SlB w a2 C.bs) := ⟨by unfold okCa; rw [hx0, hx1, hx2, <- h1, <- h2, hx3], hx0, hx1, hx2, hx3, h1, h2, s1, s2⟩
 rw [HE.out.1]
 clear hx0 hx1 hx2 hx3 h1 h2 s1 s2
 go_enter func240, ntmps240
 go_wp2_with fail
 refine (isIdL _ _ _ HE.out.2.1).mono ?_
 rintro e w1 ⟨rfl, rfl⟩
 cases x0
 case false =>
  go_wp2
  go_ret
  exact ⟨rfl, Below.refl _ _⟩
 go_wp2_with fail
 refine (isPartL _ _ _ HE.out.2.2.1).mono ?_
 rintro e w1 ⟨rfl, rfl⟩
 cases x1
 case false =>
  go_wp2
  go_ret
  exact ⟨rfl, Below.refl _ _⟩
 go_wp2_with fail
 refine (isUnitL _ _ _ HE.out.2.2.2.1).mono ?_
 rintro e w1 ⟨rfl, rfl⟩
 cases x2
 case false =>
  go_wp2
  go_ret
  exact ⟨rfl, Below.refl _ _⟩
 go_wp2_with fail
 refine (implReqOk_q C.kd C.pl C.n C.wa a1 a2 l1 l2 c1 c2 C.ws C.bs _ HE.out.2.2.2.2.2.1 HE.out.2.2.2.2.2.2.1 HE.out.2.2.2.2.2.2.2.1 HE.out.2.2.2.2.2.2.2.2 (by have := HE.out.2.2.2.2.2.1; omega) (by have := HE.out.2.2.2.2.2.2.1; omega)).mono ?_
 rintro e w1 ⟨rfl, b1⟩
 rw [HE.out.2.2.2.2.1]
 clear d0 d1 d2 d3 d4 d5 d6 d7 d8
 go_wp2
 go_ret
 exact ⟨rfl, b1⟩
theorem l12Call_any (C : Ca) (a1 a2 : Option Addr) (l1 l2 c1 c2 : Nat) (w : World) (h1 : l1 = C.ws.length) (h2 : l2 = C.bs.length) (s1 : SlI w a1 C.ws) (s2 : SlB w a2 C.bs) (hl1 : l1 <= 2000000) (hl2 : l2 <= 2000000) :
 Calls prog 80 #[.agg (cac C a1 a2 l1 l2 c1 c2)] w fun e w' => e = .returned (.bool (okCa C)) /\ Below w.heap.size w w' := by
 obtain ⟨W, hW⟩ : ∃ W, W = w.alloc (.cells (cac C a1 a2 l1 l2 c1 c2) 86) := ⟨_, rfl⟩
 have bW : Below w.heap.size w W := by rw [hW]; exact bel_alloc _ _
 have A0 : Blk W w.heap.size 86 (cac C a1 a2 l1 l2 c1 c2) := by rw [hW]; exact Blk.new _ _ _
 obtain ⟨⟨y0, y1, y2, y3, y4, y5, y6, y7, y8⟩, _⟩ := A0.nine
 obtain ⟨x0, hx0⟩ : ∃ x, inB C.id 0 1000000000 = x := ⟨_, rfl⟩
 obtain ⟨x1, hx1⟩ : ∃ x, inB C.pa 0 7 = x := ⟨_, rfl⟩
 obtain ⟨x2, hx2⟩ : ∃ x, inB C.un 1 247 = x := ⟨_, rfl⟩
 obtain ⟨x3, hx3⟩ : ∃ x, okR C.kd C.pl C.n C.wa C.ws l1 l2 = x := ⟨_, rfl⟩
 have HE : Hid (okCa C = (x0 && (x1 && (x2 && x3))) /\ inB C.id 0 1000000000 = x0 /\ inB C.pa 0 7 = x1 /\ inB C.un 1 247 = x2 /\ okR C.kd C.pl C.n C.wa C.ws l1 l2 = x3 /\ l1 = C.ws.length /\ l2 = C.bs.length /\ SlI W a1 C.ws /\ SlB W a2 C.bs /\ Below w.heap.size w W) := ⟨by unfold okCa; rw [hx0, hx1, hx2, <- h1, <- h2, hx3], hx0, hx1, hx2, hx3, h1, h2, s1.below bW, s2.below bW, bW⟩
 rw [HE.out.1]
 clear hx0 hx1 hx2 hx3 h1 h2 s1 s2 bW A0
 go_enter func80, ntmps80
 go_upto_region 1 with fail
 rw [<- hW]
 clear hW
 go_wp2_with fail
 refine (l1In_any _ _ _ _ _ HE.out.2.1).mono ?_
 rintro e w1 ⟨rfl, rfl⟩
 cases x0
 case false =>
  go_wp2
  go_ret
  exact ⟨rfl, HE.out.2.2.2.2.2.2.2.2.2⟩
 go_wp2_with fail
 refine (l1In_any _ _ _ _ _ HE.out.2.2.1).mono ?_
 rintro e w1 ⟨rfl, rfl⟩
 cases x1
 case false =>
  go_wp2
  go_ret
  exact ⟨rfl, HE.out.2.2.2.2.2.2.2.2.2⟩
 go_wp2_with fail
 refine (l1In_any _ _ _ _ _ HE.out.2.2.2.1).mono ?_
 rintro e w1 ⟨rfl, rfl⟩
 cases x2
 case false =>
  go_wp2
  go_ret
  exact ⟨rfl, HE.out.2.2.2.2.2.2.2.2.2⟩
 go_wp2_with fail
 refine (specReqOk_q C.kd C.pl C.n C.wa a1 a2 l1 l2 c1 c2 C.ws C.bs _ HE.out.2.2.2.2.2.1 HE.out.2.2.2.2.2.2.1 HE.out.2.2.2.2.2.2.2.1 HE.out.2.2.2.2.2.2.2.2.1 (by have := HE.out.2.2.2.2.2.1; omega) (by have := HE.out.2.2.2.2.2.2.1; omega)).mono ?_
 rintro e w1 ⟨rfl, b1⟩
 rw [HE.out.2.2.2.2.1]
 have HB : Hid (Below w.heap.size w w1) := bel_nx HE.out.2.2.2.2.2.2.2.2.2 b1
 clear y0 y1 y2 y3 y4 y5 y6 y7 y8 b1
 go_wp2
 go_ret
 exact ⟨rfl, HB.out⟩
theorem sameReq0_k (kd pl nn wa : Int) (a1 a2 : Option Addr) (l1 l2 c1 c2 : Nat) (w : World) (hne : ¬ kd = 0) :
 Calls prog 206 #[rq kd pl nn wa a1 a2 l1 l2 c1 c2, rq 0 0 0 0 none none 0 0 0 0] w fun e w' => e = .returned (.bool false) /\ Below w.heap.size w w' := by
 obtain ⟨W0, hW0'⟩ : ∃ W0, W0 = (w.alloc (.cells #[.int .i64 kd, .int .i64 pl, .int .i64 nn, .slice a1 l1 c1, .slice a2 l2 c2, .int .i64 wa] 84)).alloc (.cells z80 84) := ⟨_, rfl⟩
 have hW0 : Hid (W0 = _) := hW0'
 have B0 : Below w.heap.size w W0 := by rw [hW0']; exact bel_next (bel_alloc w _) (bel_alloc _ _)
 have X0 : Blk W0 w.heap.size 84 #[.int .i64 kd, .int .i64 pl, .int .i64 nn, .slice a1 l1 c1, .slice a2 l2 c2, .int .i64 wa] := by rw [hW0']; exact (Blk.new w _ _).below (bel_alloc _ _)
 have Y0 : Blk W0 (w.heap.size + 1) 84 z80 := by
  rw [hW0']; have := Blk.new (w.alloc (.cells #[.int .i64 kd, .int .i64 pl, .int .i64 nn, .slice a1 l1 c1, .slice a2 l2 c2, .int .i64 wa] 84)) z80 84; simpa using this
 obtain ⟨x0, x1, x2, x3, x4, x5⟩ := X0.six
 obtain ⟨y0, y1, y2, y3, y4, y5⟩ := Y0.six
 clear hW0'
 go_enter func206, ntmps206
 go_upto_region 1 with fail
 rw [<- hW0.out]
 go_wp2
 go_ret
 exact ⟨rfl, B0⟩
theorem sameReq0_p (kd pl nn wa : Int) (a1 a2 : Option Addr) (l1 l2 c1 c2 : Nat) (w : World) (hk : kd = 0) (hne : ¬ pl = 0) :
 Calls prog 206 #[rq kd pl nn wa a1 a2 l1 l2 c1 c2, rq 0 0 0 0 none none 0 0 0 0] w fun e w' => e = .returned (.bool false) /\ Below w.heap.size w w' := by
 obtain ⟨W0, hW0'⟩ : ∃ W0, W0 = (w.alloc (.cells #[.int .i64 kd, .int .i64 pl, .int .i64 nn, .slice a1 l1 c1, .slice a2 l2 c2, .int .i64 wa] 84)).alloc (.cells z80 84) := ⟨_, rfl⟩
 have hW0 : Hid (W0 = _) := hW0'
 have B0 : Below w.heap.size w W0 := by rw [hW0']; exact bel_next (bel_alloc w _) (bel_alloc _ _)
 have X0 : Blk W0 w.heap.size 84 #[.int .i64 kd, .int .i64 pl, .int .i64 nn, .slice a1 l1 c1, .slice a2 l2 c2, .int .i64 wa] := by rw [hW0']; exact (Blk.new w _ _).below (bel_alloc _ _)
 have Y0 : Blk W0 (w.heap.size + 1) 84 z80 := by
  rw [hW0']; have := Blk.new (w.alloc (.cells #[.int .i64 kd, .int .i64 pl, .int .i64 nn, .slice a1 l1 c1, .slice a2 l2 c2, .int .i64 wa] 84)) z80 84; simpa using this
 obtain ⟨x0, x1, x2, x3, x4, x5⟩ := X0.six
 obtain ⟨y0, y1, y2, y3, y4, y5⟩ := Y0.six
 subst hk
 clear hW0'
 go_enter func206, ntmps206
 go_upto_region 1 with fail
 rw [<- hW0.out]
 go_wp2
 go_ret
 exact ⟨rfl, B0⟩
theorem sameReq0_any (kd pl nn wa : Int) (a1 a2 : Option Addr) (l1 l2 c1 c2 : Nat) (ws : List Int) (bs : List Bool) (w : World) (h1 : l1 = ws.length) (h2 : l2 = bs.length) (hl1 : l1 <= 2000000) (hl2 : l2 <= 2000000) :
 Calls prog 206 #[rq kd pl nn wa a1 a2 l1 l2 c1 c2, rq 0 0 0 0 none none 0 0 0 0] w fun e w' => e = .returned (.bool (noR kd pl nn wa l1 l2)) /\ Below w.heap.size w w' := by
 by_cases q0 : kd = 0
 ·by_cases q1 : pl = 0
  ·subst q0 q1
   by_cases q2 : nn = 0
   ·by_cases q3 : wa = 0
    ·by_cases q4 : l1 = 0
     ·by_cases q5 : l2 = 0
      ·subst q2 q3 q4 q5
       have e1 : ws = [] := List.eq_nil_of_length_eq_zero h1.symm
       have e2 : bs = [] := List.eq_nil_of_length_eq_zero h2.symm
       exact sameReq_t 0 0 0 0 0 0 a1 a2 none none 0 0 c1 c2 0 0 0 0 w rfl rfl [] rfl rfl (.inl rfl) (.inl rfl) (by simp) [] rfl rfl (.inl rfl) (.inl rfl) (by simp)
      subst q2 q3 q4
      have e1 : ws = [] := List.eq_nil_of_length_eq_zero h1.symm
      have e9 : noR 0 0 0 0 0 l2 = false := by unfold noR; simp; omega
      rw [e9]
      exact sameReq_2 0 0 0 0 0 0 a1 a2 none none 0 l2 c1 c2 0 0 0 0 w rfl rfl [] rfl rfl (.inl rfl) (.inl rfl) (by simp) (by omega) (by omega) (by omega)
     subst q2 q3
     have e9 : noR 0 0 0 0 l1 l2 = false := by unfold noR; simp; omega
     rw [e9]
     exact sameReq_1 0 0 0 0 0 0 a1 a2 none none l1 l2 c1 c2 0 0 0 0 w rfl rfl (by omega) (by omega) (by omega)
    subst q2
    have e9 : noR 0 0 0 wa l1 l2 = false := by unfold noR; simp [q3]
    rw [e9]
    exact sameReq_w 0 0 0 wa 0 0 a1 a2 none none l1 l2 c1 c2 0 0 0 0 w rfl q3
   have e9 : noR 0 0 nn wa l1 l2 = false := by unfold noR; simp [q2]
   rw [e9]
   exact sameReq_n 0 0 nn wa 0 0 a1 a2 none none l1 l2 c1 c2 0 0 0 0 w q2
  have e9 : noR kd pl nn wa l1 l2 = false := by unfold noR; simp [q1]
  rw [e9]
  exact sameReq0_p kd pl nn wa a1 a2 l1 l2 c1 c2 w q0 q1
 have e9 : noR kd pl nn wa l1 l2 = false := by unfold noR; simp [q0]
 rw [e9]
 exact sameReq0_k kd pl nn wa a1 a2 l1 l2 c1 c2 w q0
theorem callZero_any (C : Ca) (g o : Nat) (a1 a2 : Option Addr) (l1 l2 c1 c2 : Nat) (w : World) (d0 : w.cell? ⟨g, o, none⟩ = some (.int .i64 C.id)) (d1 : w.cell? ⟨g, o + 1, none⟩ = some (.int .i64 C.pa)) (d2 : w.cell? ⟨g, o + 2, none⟩ = some (.int .i64 C.un)) (d3 : w.cell? ⟨g, o + 3, none⟩ = some (.int .i64 C.kd)) (d4 : w.cell? ⟨g, o + 4, none⟩ = some (.int .i64 C.pl)) (d5 : w.cell? ⟨g, o + 5, none⟩ = some (.int .i64 C.n)) (d6 : w.cell? ⟨g, o + 6, none⟩ = some (.slice a1 l1 c1)) (d7 : w.cell? ⟨g, o + 7, none⟩ = some (.slice a2 l2 c2)) (d8 : w.cell? ⟨g, o + 8, none⟩ = some (.int .i64 C.wa)) (h1 : l1 = C.ws.length) (h2 : l2 = C.bs.length) (hl1 : l1 <= 2000000) (hl2 : l2 <= 2000000) :
 Calls prog 239 #[.pointer (some ⟨g, o, none⟩)] w fun e w' => e = .returned (.bool (noCa C l1 l2)) /\ Below w.heap.size w w' := by
 have HL : Hid (l1 = C.ws.length /\ l2 = C.bs.length) := ⟨h1, h2⟩
 clear h1 h2
 cases q0 : (C.id == 0) with
 | false =>
  rw [show noCa C l1 l2 = false by unfold noCa; simp [q0]]
  go_enter func239, ntmps239
  go_wp2
  go_ret
  exact ⟨rfl, Below.refl _ _⟩
 | true =>
  cases q1 : (C.pa == 0) with
  | false =>
   rw [show noCa C l1 l2 = false by unfold noCa; simp [q0, q1]]
   go_enter func239, ntmps239
   go_wp2
   go_ret
   exact ⟨rfl, Below.refl _ _⟩
  | true =>
   cases q2 : (C.un == 0) with
   | false =>
    rw [show noCa C l1 l2 = false by unfold noCa; simp [q0, q1, q2]]
    go_enter func239, ntmps239
    go_wp2
    go_ret
    exact ⟨rfl, Below.refl _ _⟩
   | true =>
    obtain ⟨bb, hbb⟩ : ∃ b, noR C.kd C.pl C.n C.wa l1 l2 = b := ⟨_, rfl⟩
    have HBB : Hid (noR C.kd C.pl C.n C.wa l1 l2 = bb) := hbb
    rw [show noCa C l1 l2 = bb by unfold noCa; simp [q0, q1, q2, hbb]]
    clear hbb
    go_enter func239, ntmps239
    go_wp2_with fail
    refine (sameReq0_any C.kd C.pl C.n C.wa a1 a2 l1 l2 c1 c2 C.ws C.bs _ HL.out.1 HL.out.2 hl1 hl2).mono ?_
    rintro e w1 ⟨rfl, b1⟩
    rw [HBB.out]
    clear d0 d1 d2 d3 d4 d5 d6 d7 d8
    go_wp2
    go_ret
    exact ⟨rfl, b1⟩
theorem l12NoReq_any (kd pl nn wa : Int) (a1 a2 : Option Addr) (l1 l2 c1 c2 : Nat) (w : World) :
 Calls prog 118 #[rq kd pl nn wa a1 a2 l1 l2 c1 c2] w fun e w' => e = .returned (.bool (noR kd pl nn wa l1 l2)) /\ Below w.heap.size w w' := by
 cases q0 : (kd == 0) with
 | false =>
  rw [show noR kd pl nn wa l1 l2 = false by unfold noR; simp [q0]]
  go_enter func118, ntmps118
  go_wp2
  go_ret
  exact ⟨rfl, bel_alloc _ _⟩
 | true =>
  cases q1 : (pl == 0) with
  | false =>
   rw [show noR kd pl nn wa l1 l2 = false by unfold noR; simp [q0, q1]]
   go_enter func118, ntmps118
   go_wp2
   go_ret
   exact ⟨rfl, bel_alloc _ _⟩
  | true =>
   cases q2 : (nn == 0) with
   | false =>
    rw [show noR kd pl nn wa l1 l2 = false by unfold noR; simp [q0, q1, q2]]
    go_enter func118, ntmps118
    go_wp2
    go_ret
    exact ⟨rfl, bel_alloc _ _⟩
   | true =>
    cases q3 : ((l1 : Int) == 0) with
    | false =>
     rw [show noR kd pl nn wa l1 l2 = false by unfold noR; simp [q0, q1, q2, q3]]
     go_enter func118, ntmps118
     go_wp2
     go_ret
     exact ⟨rfl, bel_alloc _ _⟩
    | true =>
     cases q4 : ((l2 : Int) == 0) with
     | false =>
      rw [show noR kd pl nn wa l1 l2 = false by unfold noR; simp [q0, q1, q2, q3, q4]]
      go_enter func118, ntmps118
      go_wp2
      go_ret
      exact ⟨rfl, bel_alloc _ _⟩
     | true =>
      cases q5 : (wa == 0) with
      | false =>
       rw [show noR kd pl nn wa l1 l2 = false by unfold noR; simp [q0, q1, q2, q3, q4, q5]]
       go_enter func118, ntmps118
       go_wp2
       go_ret
       exact ⟨rfl, bel_alloc _ _⟩
      | true =>
       rw [show noR kd pl nn wa l1 l2 = true by unfold noR; simp [q0, q1, q2, q3, q4, q5]]
       go_enter func118, ntmps118
       go_wp2
       go_ret
       exact ⟨rfl, bel_alloc _ _⟩
theorem l12NoCall_any (C : Ca) (a1 a2 : Option Addr) (l1 l2 c1 c2 : Nat) (w : World) :
 Calls prog 81 #[.agg (cac C a1 a2 l1 l2 c1 c2)] w fun e w' => e = .returned (.bool (noCa C l1 l2)) /\ Below w.heap.size w w' := by
 cases q0 : (C.id == 0) with
 | false =>
  rw [show noCa C l1 l2 = false by unfold noCa; simp [q0]]
  go_enter func81, ntmps81
  go_wp2
  go_ret
  exact ⟨rfl, bel_alloc _ _⟩
 | true =>
  cases q1 : (C.pa == 0) with
  | false =>
   rw [show noCa C l1 l2 = false by unfold noCa; simp [q0, q1]]
   go_enter func81, ntmps81
   go_wp2
   go_ret
   exact ⟨rfl, bel_alloc _ _⟩
  | true =>
   cases q2 : (C.un == 0) with
   | false =>
    rw [show noCa C l1 l2 = false by unfold noCa; simp [q0, q1, q2]]
    go_enter func81, ntmps81
    go_wp2
    go_ret
    exact ⟨rfl, bel_alloc _ _⟩
   | true =>
    obtain ⟨bb, hbb⟩ : ∃ b, noR C.kd C.pl C.n C.wa l1 l2 = b := ⟨_, rfl⟩
    have HBB : Hid (noR C.kd C.pl C.n C.wa l1 l2 = bb) := hbb
    rw [show noCa C l1 l2 = bb by unfold noCa; simp [q0, q1, q2, hbb]]
    clear hbb
    have B0 := bel_alloc w (.cells (cac C a1 a2 l1 l2 c1 c2) 86)
    go_enter func81, ntmps81
    go_wp2_with fail
    refine (l12NoReq_any C.kd C.pl C.n C.wa a1 a2 l1 l2 c1 c2 _).mono ?_
    rintro e w1 ⟨rfl, b1⟩
    have B1 := bel_nx B0 b1
    clear b1 B0
    rw [HBB.out]
    go_wp2
    go_ret
    exact ⟨rfl, B1⟩
end Go.Proofs.YtplaoagcedgdfaaGreat
