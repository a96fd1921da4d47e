/- Texts that the proof needs, joined: Tr12. -/
import Derived.Test.YtplaoagcedgdfaaGreatW24
import Derived.Test.YtplaoagcedgdfaaGreatW6
set_option linter.unusedVariables false
set_option linter.unusedSimpArgs false
set_option maxHeartbeats 4000000
set_option maxRecDepth 20000
namespace Go.Proofs.YtplaoagcedgdfaaGreat
open Go.RowKit Go.Joins Go.Proofs.Tryz
abbrev z250 : Array Value := #[.slice none 0 0, .bool false, .int .i64 0, .int .i64 0, .int .i64 0, .int .i64 0, .int .i64 0, .int .i64 0, .slice none 0 0, .slice none 0 0, .int .i64 0, .int .i64 0, .int .i64 0, .int .i64 0, .int .i64 0, .int .i64 0, .int .i64 0]
abbrev z251 : Array Value := #[.int .i64 0, .int .i64 0, .int .i64 0, .slice none 0 0, .int .i64 0, .slice none 0 0, .slice none 0 0, .int .i64 0, .int .i64 0, .int .i64 0, .int .i64 0]
abbrev z252 : Array Value := #[.int .i64 0, .int .i64 0, .int .i64 0, .int .i64 0, .int .i64 0, .int .i64 0, .slice none 0 0, .slice none 0 0, .int .i64 0]
abbrev z253 : Array Value := #[.int .i64 0, .int .i64 0, .slice none 0 0]
theorem toRuleS_t (n : Nat) (f : Nat -> Ru) (a : Option Addr) (n' cap : Nat) (w : World) (hs : Rd w 0 (.list 7 n (fun k => trs (xrT (f k)))) (.slice a n' cap)) (hz : (Tr.list 7 n (fun k => trs (xrT (f k)))).sz <= 1048576) :
 Calls prog 15 #[.slice a n' cap] w fun e w' => ∃ b d, e = .returned (.slice b n' d) /\ Rd w' w.heap.size (.list 7 n (fun k => trs (xrT (f k)))) (.slice b n' d) /\ Below w.heap.size w w' := by
 rw [ruS_sz] at hz
 obtain ⟨rfl, h1⟩ := hs.slu
 obtain ⟨_, _, h9, -, hm⟩ := hs.shape
 refine (toRuleS_any a n' cap f w h1 (by omega)).mono ?_
 rintro e w' ⟨rfl, hr, hb⟩
 exact ⟨_, _, rfl, Rd.made hr (Nat.le_refl _) hm (fun k hk => ⟨rfl, Ru.back⟩), hb⟩
theorem toConfig_t (X : VC) (a1 : Option Addr) (l1 c1 : Nat) (w : World) (r1 : Rd w 0 (.list 7 X.n (fun i => trs (xrT (X.f i)))) (.slice a1 l1 c1)) (hz : szT 3 (trs (xcT X)) <= 1048576) :
 Calls prog 41 #[.agg (xcL X a1 l1 c1).toArray] w fun e w' => ∃ b1 d1, e = .returned (.agg (xcL X b1 l1 d1).toArray) /\ Rd w' w.heap.size (.list 7 X.n (fun i => trs (xrT (X.f i)))) (.slice b1 l1 d1) /\ Below w.heap.size w w' := by
 obtain ⟨W, hW⟩ : ∃ W, W = ((w.alloc (.cells (xcL X a1 l1 c1).toArray 24)).alloc (.cells z253 35)).alloc (.cells (#[.int .i64 X.wt, .int .i64 X.tr, .slice none 0 0] : Array Value) 35) := ⟨_, rfl⟩
 have bW : Below w.heap.size w W := by rw [hW]; exact bel_nx (bel_nx (bel_alloc w _) (bel_alloc _ _)) (bel_alloc _ _)
 have A0 : Blk W w.heap.size 24 (xcL X a1 l1 c1).toArray := by rw [hW]; exact ((Blk.new w _ _).below (bel_alloc _ _)).below (bel_alloc _ _)
 have R0 : Blk W (w.heap.size + 1) 35 z253 := by
  rw [hW]; have := (Blk.new (w.alloc (.cells (xcL X a1 l1 c1).toArray 24)) z253 35).below (bel_alloc _ (.cells (#[.int .i64 X.wt, .int .i64 X.tr, .slice none 0 0] : Array Value) 35)); simpa using this
 have O0 : Blk W (w.heap.size + 1 + 1) 35 (#[.int .i64 X.wt, .int .i64 X.tr, .slice none 0 0] : Array Value) := by
  rw [hW]; have := Blk.new ((w.alloc (.cells (xcL X a1 l1 c1).toArray 24)).alloc (.cells z253 35)) (#[.int .i64 X.wt, .int .i64 X.tr, .slice none 0 0] : Array Value) 35; simpa using this
 have hs0 : W.heap.size = (w.heap.size + 1 + 1 + 1) := by rw [hW]; simp
 have HZ : Hid ((Tr.list 7 X.n (fun i => trs (xrT (X.f i)))).sz <= 1048576) := by
  rw [szT_xc] at hz
  show (Tr.list 7 X.n (fun i => trs (xrT (X.f i)))).sz <= 1048576
  try simp only [szT_q, szT_a, szT_p, szT_d, szT_t, szT_xr, szT_xc, szT_xl, szT_xn, szT_xf, true_and]
  omega
 have HR : Hid (Rd w 0 (.list 7 X.n (fun i => trs (xrT (X.f i)))) (.slice a1 l1 c1)) := r1
 have G0 : Hid (GF w W 24 (xcL X a1 l1 c1).toArray 35 z253 (#[.int .i64 X.wt, .int .i64 X.tr, .slice none 0 0] : Array Value) ((w.heap.size + 1 + 1 + 1) <= W.heap.size)) := ⟨bW, A0, R0, O0, by omega⟩
 clear bW A0 R0 O0 hs0 hz r1
 go_enter func41, ntmps41
 go_upto_region 4 with fail
 rw [<- hW]
 clear hW
 obtain ⟨⟨y0, y1, y2⟩, yf⟩ := G0.out.2.1.tc3
 clear yf
 go_wp2_with fail
 refine (toRuleS_t X.n X.f a1 l1 c1 _ (HR.out.below G0.out.1) HZ.out).mono ?_
 rintro e w1 ⟨b1, d1, rfl, q1, hb1⟩
 clear y0 y1 y2
 have O1 := G0.out.2.2.2.1.below hb1
 obtain ⟨⟨z0, z1, z2⟩, zf⟩ := O1.tc3
 have zg2 := zf 2
 obtain ⟨W1, hW1⟩ : ∃ W9, W9 = setL w1 (w.heap.size + 1 + 1) 2 [.slice b1 l1 d1] := ⟨_, rfl⟩
 have G1 : Hid (GF w W1 24 (xcL X a1 l1 c1).toArray 35 z253 (#[.int .i64 X.wt, .int .i64 X.tr, .slice b1 l1 d1] : Array Value) ((w.heap.size + 1 + 1 + 1) <= W1.heap.size /\ Rd W1 (w.heap.size + 1 + 1 + 1) (.list 7 X.n (fun i => trs (xrT (X.f i)))) (.slice b1 l1 d1))) := by
  have hg : w1.grownBy W1 (some (w.heap.size + 1 + 1)) := by rw [hW1]; exact setL_gw _ _ _
  have hs9 := G0.out.2.2.2.2
  have hs8 := hb1.size
  have hs7 := hg.size
  refine ⟨by rw [hW1]; exact setL_below (by omega) _ _ _ (bel_nx G0.out.1 hb1), by rw [hW1]; exact Blk.stNe (by omega) _ _ (G0.out.2.1.below hb1), by rw [hW1]; exact Blk.stNe (by omega) _ _ (G0.out.2.2.1.below hb1), stO hW1 O1, by omega, (q1.mono hs9).kept hg (by omega)⟩
 have hX1 : W1 = (w1.setCell ⟨w.heap.size + 1 + 1, 2, none⟩ (.slice b1 l1 d1)) := by rw [hW1]; simp only [setL, Nat.reduceAdd, Nat.zero_add]
 clear O1 hb1 hW1 q1
 go_upto_region 5 with fail
 rw [<- hX1]
 clear hX1 zf z0 z1 z2 zg2
 obtain ⟨W9, hW9⟩ : ∃ W9, W9 = setL W1 (w.heap.size + 1) 0 (xcL X b1 l1 d1) := ⟨_, rfl⟩
 have H9 : Hid (Rd W9 w.heap.size (.list 7 X.n (fun i => trs (xrT (X.f i)))) (.slice b1 l1 d1) /\ Below w.heap.size w W9 /\ Blk W9 (w.heap.size + 1) 35 (xcL X b1 l1 d1).toArray) := by
  have hg : W1.grownBy W9 (some (w.heap.size + 1)) := by rw [hW9]; exact setL_gw _ _ _
  exact ⟨((G1.out.2.2.2.2.2).kept hg (by omega)).mono (by omega), by rw [hW9]; exact setL_below (by omega) _ _ _ G1.out.1, by rw [hW9, show (xcL X b1 l1 d1).toArray = wrA (#[.int .i64 0, .int .i64 0, .slice none 0 0] : Array Value) 0 (xcL X b1 l1 d1) from (by simp [wrA])]; exact Blk.stL _ _ G1.out.2.2.1⟩
 have hr := G1.out.2.2.2.1.all
 have ht := G1.out.2.2.1.there 0 3 (by simp)
 clear G1
 refine wp_region_lit ?_
 refine wpList_load_mid rfl 35 (.tmp 3) rfl (w.heap.size + 1 + 1) 0 rfl (xcL X b1 l1 d1) _ hr underlying35 rfl (by kernel_rfl) ?_
 refine wpList_store_mid rfl 35 (.tmp 2) (.tmp 14) rfl (w.heap.size + 1) 0 (xcL X b1 l1 d1).toArray rfl rfl ht (by kernel_rfl) (by simp [Value.oneCell']) ?_
 rw [setCells_L, <- hW9]
 clear hW9 hr ht
 refine wpList_nil ?_
 go_wp2
 obtain ⟨⟨y0, y1, y2⟩, yf⟩ := H9.out.2.2.tc3
 refine bodyPost_ret (v := .agg (xcL X b1 l1 d1).toArray) (by simp [results, results41, go_sem, y0, y1, y2]) rfl ⟨b1, d1, rfl, H9.out.1, H9.out.2.1⟩
theorem toCall_t (X : VL) (a1 : Option Addr) (l1 c1 : Nat) (a2 : Option Addr) (l2 c2 : Nat) (w : World) (r1 : Rd w 0 (intsT X.q.ws) (.slice a1 l1 c1)) (r2 : Rd w 0 (boolsT X.q.bs) (.slice a2 l2 c2)) (hz : szT 9 (trs (xlT X)) <= 1048576) :
 Calls prog 140 #[.agg (xlL X a1 l1 c1 a2 l2 c2).toArray] w fun e w' => ∃ b1 d1 b2 d2, e = .returned (.agg (xlL X b1 l1 d1 b2 l2 d2).toArray) /\ Rd w' w.heap.size (intsT X.q.ws) (.slice b1 l1 d1) /\ Rd w' w.heap.size (boolsT X.q.bs) (.slice b2 l2 d2) /\ Below w.heap.size w w' := by
 obtain ⟨W, hW⟩ : ∃ W, W = ((w.alloc (.cells (xlL X a1 l1 c1 a2 l2 c2).toArray 134)).alloc (.cells z252 86)).alloc (.cells (#[.int .i64 X.id, .int .i64 X.pa, .int .i64 X.un, .int .i64 0, .int .i64 0, .int .i64 0, .slice none 0 0, .slice none 0 0, .int .i64 0] : Array Value) 86) := ⟨_, rfl⟩
 have bW : Below w.heap.size w W := by rw [hW]; exact bel_nx (bel_nx (bel_alloc w _) (bel_alloc _ _)) (bel_alloc _ _)
 have A0 : Blk W w.heap.size 134 (xlL X a1 l1 c1 a2 l2 c2).toArray := by rw [hW]; exact ((Blk.new w _ _).below (bel_alloc _ _)).below (bel_alloc _ _)
 have R0 : Blk W (w.heap.size + 1) 86 z252 := by
  rw [hW]; have := (Blk.new (w.alloc (.cells (xlL X a1 l1 c1 a2 l2 c2).toArray 134)) z252 86).below (bel_alloc _ (.cells (#[.int .i64 X.id, .int .i64 X.pa, .int .i64 X.un, .int .i64 0, .int .i64 0, .int .i64 0, .slice none 0 0, .slice none 0 0, .int .i64 0] : Array Value) 86)); simpa using this
 have O0 : Blk W (w.heap.size + 1 + 1) 86 (#[.int .i64 X.id, .int .i64 X.pa, .int .i64 X.un, .int .i64 0, .int .i64 0, .int .i64 0, .slice none 0 0, .slice none 0 0, .int .i64 0] : Array Value) := by
  rw [hW]; have := Blk.new ((w.alloc (.cells (xlL X a1 l1 c1 a2 l2 c2).toArray 134)).alloc (.cells z252 86)) (#[.int .i64 X.id, .int .i64 X.pa, .int .i64 X.un, .int .i64 0, .int .i64 0, .int .i64 0, .slice none 0 0, .slice none 0 0, .int .i64 0] : Array Value) 86; simpa using this
 have hs0 : W.heap.size = (w.heap.size + 1 + 1 + 1) := by rw [hW]; simp
 have HZ : Hid (szT 6 (trs (qT X.q)) <= 1048576) := by
  rw [szT_xl] at hz
  show szT 6 (trs (qT X.q)) <= 1048576
  try simp only [szT_q, szT_a, szT_p, szT_d, szT_t, szT_xr, szT_xc, szT_xl, szT_xn, szT_xf, true_and]
  omega
 have HR : Hid (Rd w 0 (intsT X.q.ws) (.slice a1 l1 c1) /\ Rd w 0 (boolsT X.q.bs) (.slice a2 l2 c2)) := ⟨r1, r2⟩
 have G0 : Hid (GF w W 134 (xlL X a1 l1 c1 a2 l2 c2).toArray 86 z252 (#[.int .i64 X.id, .int .i64 X.pa, .int .i64 X.un, .int .i64 0, .int .i64 0, .int .i64 0, .slice none 0 0, .slice none 0 0, .int .i64 0] : Array Value) ((w.heap.size + 1 + 1 + 1) <= W.heap.size)) := ⟨bW, A0, R0, O0, by omega⟩
 clear bW A0 R0 O0 hs0 hz r1 r2
 go_enter func140, ntmps140
 go_upto_region 5 with fail
 rw [<- hW]
 clear hW
 obtain ⟨⟨y0, y1, y2, y3, y4, y5, y6, y7, y8⟩, yf⟩ := G0.out.2.1.tc9
 clear yf
 go_wp2_with fail
 refine (toReq_t X.q a1 l1 c1 a2 l2 c2 _ (HR.out.1.below G0.out.1) (HR.out.2.below G0.out.1) HZ.out).mono ?_
 rintro e w1 ⟨b1, d1, b2, d2, rfl, q1, q2, hb1⟩
 clear y0 y1 y2 y3 y4 y5 y6 y7 y8
 have O1 := G0.out.2.2.2.1.below hb1
 obtain ⟨⟨z0, z1, z2, z3, z4, z5, z6, z7, z8⟩, zf⟩ := O1.tc9
 have zg3 := zf 3
 have zg4 := zf 4
 have zg5 := zf 5
 have zg6 := zf 6
 have zg7 := zf 7
 have zg8 := zf 8
 obtain ⟨W1, hW1⟩ : ∃ W9, W9 = setL w1 (w.heap.size + 1 + 1) 3 [.int .i64 X.q.kd, .int .i64 X.q.pl, .int .i64 X.q.n, .slice b1 l1 d1, .slice b2 l2 d2, .int .i64 X.q.wa] := ⟨_, rfl⟩
 have G1 : Hid (GF w W1 134 (xlL X a1 l1 c1 a2 l2 c2).toArray 86 z252 (#[.int .i64 X.id, .int .i64 X.pa, .int .i64 X.un, .int .i64 X.q.kd, .int .i64 X.q.pl, .int .i64 X.q.n, .slice b1 l1 d1, .slice b2 l2 d2, .int .i64 X.q.wa] : Array Value) ((w.heap.size + 1 + 1 + 1) <= W1.heap.size /\ Rd W1 (w.heap.size + 1 + 1 + 1) (intsT X.q.ws) (.slice b1 l1 d1) /\ Rd W1 (w.heap.size + 1 + 1 + 1) (boolsT X.q.bs) (.slice b2 l2 d2))) := by
  have hg : w1.grownBy W1 (some (w.heap.size + 1 + 1)) := by rw [hW1]; exact setL_gw _ _ _
  have hs9 := G0.out.2.2.2.2
  have hs8 := hb1.size
  have hs7 := hg.size
  refine ⟨by rw [hW1]; exact setL_below (by omega) _ _ _ (bel_nx G0.out.1 hb1), by rw [hW1]; exact Blk.stNe (by omega) _ _ (G0.out.2.1.below hb1), by rw [hW1]; exact Blk.stNe (by omega) _ _ (G0.out.2.2.1.below hb1), stO hW1 O1, by omega, (q1.mono hs9).kept hg (by omega), (q2.mono hs9).kept hg (by omega)⟩
 have hX1 : W1 = ((((((w1.setCell ⟨w.heap.size + 1 + 1, 3, none⟩ (.int .i64 X.q.kd)).setCell ⟨w.heap.size + 1 + 1, 4, none⟩ (.int .i64 X.q.pl)).setCell ⟨w.heap.size + 1 + 1, 5, none⟩ (.int .i64 X.q.n)).setCell ⟨w.heap.size + 1 + 1, 6, none⟩ (.slice b1 l1 d1)).setCell ⟨w.heap.size + 1 + 1, 7, none⟩ (.slice b2 l2 d2)).setCell ⟨w.heap.size + 1 + 1, 8, none⟩ (.int .i64 X.q.wa)) := by rw [hW1]; simp only [setL, Nat.reduceAdd, Nat.zero_add]
 clear O1 hb1 hW1 q1 q2
 go_upto_region 6 with fail
 rw [<- hX1]
 clear hX1 zf z0 z1 z2 z3 z4 z5 z6 z7 z8 zg3 zg4 zg5 zg6 zg7 zg8
 obtain ⟨W9, hW9⟩ : ∃ W9, W9 = setL W1 (w.heap.size + 1) 0 (xlL X b1 l1 d1 b2 l2 d2) := ⟨_, rfl⟩
 have H9 : Hid (Rd W9 w.heap.size (intsT X.q.ws) (.slice b1 l1 d1) /\ Rd W9 w.heap.size (boolsT X.q.bs) (.slice b2 l2 d2) /\ Below w.heap.size w W9 /\ Blk W9 (w.heap.size + 1) 86 (xlL X b1 l1 d1 b2 l2 d2).toArray) := by
  have hg : W1.grownBy W9 (some (w.heap.size + 1)) := by rw [hW9]; exact setL_gw _ _ _
  exact ⟨((G1.out.2.2.2.2.2.1).kept hg (by omega)).mono (by omega), ((G1.out.2.2.2.2.2.2).kept hg (by omega)).mono (by omega), by rw [hW9]; exact setL_below (by omega) _ _ _ G1.out.1, by rw [hW9, show (xlL X b1 l1 d1 b2 l2 d2).toArray = wrA (#[.int .i64 0, .int .i64 0, .int .i64 0, .int .i64 0, .int .i64 0, .int .i64 0, .slice none 0 0, .slice none 0 0, .int .i64 0] : Array Value) 0 (xlL X b1 l1 d1 b2 l2 d2) from (by simp [wrA])]; exact Blk.stL _ _ G1.out.2.2.1⟩
 have hr := G1.out.2.2.2.1.all
 have ht := G1.out.2.2.1.there 0 9 (by simp)
 clear G1
 refine wp_region_lit ?_
 refine wpList_load_mid rfl 86 (.tmp 3) rfl (w.heap.size + 1 + 1) 0 rfl (xlL X b1 l1 d1 b2 l2 d2) _ hr underlying86 rfl (by kernel_rfl) ?_
 refine wpList_store_mid rfl 86 (.tmp 2) (.tmp 17) rfl (w.heap.size + 1) 0 (xlL X b1 l1 d1 b2 l2 d2).toArray rfl rfl ht (by kernel_rfl) (by simp [Value.oneCell']) ?_
 rw [setCells_L, <- hW9]
 clear hW9 hr ht
 refine wpList_nil ?_
 go_wp2
 obtain ⟨⟨y0, y1, y2, y3, y4, y5, y6, y7, y8⟩, yf⟩ := H9.out.2.2.2.tc9
 refine bodyPost_ret (v := .agg (xlL X b1 l1 d1 b2 l2 d2).toArray) (by simp [results, results140, go_sem, y0, y1, y2, y3, y4, y5, y6, y7, y8]) rfl ⟨b1, d1, b2, d2, rfl, H9.out.1, H9.out.2.1, H9.out.2.2.1⟩
theorem toCallS_t (n : Nat) (f : Nat -> VL) (a : Option Addr) (n' cap : Nat) (w : World) (hs : Rd w 0 (.list 9 n (fun k => trs (xlT (f k)))) (.slice a n' cap)) (hz : (Tr.list 9 n (fun k => trs (xlT (f k)))).sz <= 1048576) :
 Calls prog 139 #[.slice a n' cap] w fun e w' => ∃ b d, e = .returned (.slice b n' d) /\ Rd w' w.heap.size (.list 9 n (fun k => trs (xlT (f k)))) (.slice b n' d) /\ Below w.heap.size w w' := by
 obtain ⟨a9, c9, h9, -, hn⟩ := hs.shape
 simp only [Value.slice.injEq] at h9
 obtain ⟨-, rfl, -⟩ := h9
 clear a9 c9
 have hn1 : n' <= 1048576 := by rw [Tr.sz_list] at hz; omega
 have HZ : Hid (∀ k, k < n' -> szT 9 (trs (xlT (f k))) <= 1048576) := by
  show ∀ k, k < n' -> szT 9 (trs (xlT (f k))) <= 1048576
  intro k hk
  rw [Tr.sz_list] at hz
  have := sumN_at (fun k => szT 9 (trs (xlT (f k)))) hk
  omega
 have hmk := run_make_st (P := prog) 79 86 (.agg z252) 9 104 underlying79 (by kernel_rfl) .i64 .i64 n' (by omega) (by omega)
 have HS : Hid (Rd w 0 (.list 9 n' (fun k => trs (xlT (f k)))) (.slice a n' cap) /\ n' <= maxLen) := ⟨hs, hn⟩
 clear hs hz hn
 go_enter func139, ntmps139
 go_wp2
 clear hmk
 go_loopw [4] (fun i wr => ∃ (k : Nat) (F : Nat -> List Value), k <= n' /\ i = .int .i64 k /\ RowS wr w.heap.size 86 9 n' F /\ (∀ j, j < k -> (F j).length = 9 /\ RdL wr (w.heap.size + 1) (trs (xlT (f j))) (F j)) /\ Below w.heap.size w wr) (fun i _ => n' - (intOf i).toNat)
 case atStart => exact ⟨0, fun _ => (z252).toList, Nat.zero_le _, rfl, RowS.made w (z252).toList n' _ (by simp), fun j hj => by omega, (Below.refl _ _).alloc (Nat.le_refl _) _⟩
 case round =>
  obtain ⟨k, F, hk, rfl, hrow, hin, hb⟩ := hrel
  by_cases hlt : k < n'
  ·have hi : (k : Int) < (n' : Int) := by omega
   obtain ⟨b, off, vs, rfl, _, hb0, hlen, hr, hrd⟩ := (HS.out.1.below hb).at hlt
   obtain ⟨a1, c1, a2, c2, rfl, r1, r2⟩ := VL.cells hrd hlen
   clear hlen hrd
   have d09 : wr.cell? ⟨b, off + k * 9, none⟩ = _ := hr 0 _ rfl
   have d19 := hr 1 _ rfl
   have d29 := hr 2 _ rfl
   have d39 := hr 3 _ rfl
   have d49 := hr 4 _ rfl
   have d59 := hr 5 _ rfl
   have d69 := hr 6 _ rfl
   have d79 := hr 7 _ rfl
   have d89 := hr 8 _ rfl
   have HK : Hid (RowS wr w.heap.size 86 9 n' F /\ (∀ j, j < k -> (F j).length = 9 /\ RdL wr (w.heap.size + 1) (trs (xlT (f j))) (F j)) /\ Below w.heap.size w wr /\ Rd wr 0 (intsT (f k).q.ws) (.slice a1 ((f k).q.ws.length) c1) /\ Rd wr 0 (boolsT (f k).q.bs) (.slice a2 ((f k).q.bs.length) c2)) := ⟨hrow, hin, hb, r1, r2⟩
   clear hrow hin hb hr hb0 r1 r2
   go_wp2_with fail
   refine (toCall_t (f k) a1 ((f k).q.ws.length) c1 a2 ((f k).q.bs.length) c2 _ HK.out.2.2.2.1 HK.out.2.2.2.2 (HZ.out k hlt)).mono ?_
   rintro e w1 ⟨b1, d1, b2, d2, rfl, q1, q2, hb1⟩
   have R1 := HK.out.1.below hb1
   obtain ⟨rx0, ry0⟩ : ∃ v, w1.cell? ⟨w.heap.size, k * 9, none⟩ = some v := R1.ex hlt (j := 0) (by decide)
   obtain ⟨rx1, ry1⟩ := R1.ex hlt (j := 1) (by decide)
   obtain ⟨rx2, ry2⟩ := R1.ex hlt (j := 2) (by decide)
   obtain ⟨rx3, ry3⟩ := R1.ex hlt (j := 3) (by decide)
   obtain ⟨rx4, ry4⟩ := R1.ex hlt (j := 4) (by decide)
   obtain ⟨rx5, ry5⟩ := R1.ex hlt (j := 5) (by decide)
   obtain ⟨rx6, ry6⟩ := R1.ex hlt (j := 6) (by decide)
   obtain ⟨rx7, ry7⟩ := R1.ex hlt (j := 7) (by decide)
   obtain ⟨rx8, ry8⟩ := R1.ex hlt (j := 8) (by decide)
   obtain ⟨W2, hW2⟩ : ∃ W2, W2 = setL w1 w.heap.size (k * 9) (xlL (f k) b1 ((f k).q.ws.length) d1 b2 ((f k).q.bs.length) d2) := ⟨_, rfl⟩
   have H2 : Hid (∃ F', RowS W2 w.heap.size 86 9 n' F' /\ (∀ j, j < k + 1 -> (F' j).length = 9 /\ RdL W2 (w.heap.size + 1) (trs (xlT (f j))) (F' j)) /\ Below w.heap.size w W2) := by
    have hg : w1.grownBy W2 (some w.heap.size) := by rw [hW2]; exact setL_gw _ _ _
    have hs1 := HK.out.1.lt
    refine ⟨_, by rw [hW2]; exact R1.set hlt _ rfl, fun j hj => ?_, by rw [hW2]; exact setL_below (Nat.le_refl _) _ _ _ (bel_nx HK.out.2.2.1 hb1)⟩
    by_cases e : j = k
    ·subst e
     simp only [if_true]
     exact ⟨rfl, VL.back ((q1.mono (by omega)).kept hg (by omega)) ((q2.mono (by omega)).kept hg (by omega))⟩
    simp only [if_neg e]
    have h9 := HK.out.2.1 j (by omega)
    exact ⟨h9.1, (h9.2.below hb1).kept hg (by omega)⟩
   have hW2' : W2 = (((((((((w1.setCell ⟨w.heap.size, k * 9, none⟩ (.int .i64 (f k).id)).setCell ⟨w.heap.size, k * 9 + 1, none⟩ (.int .i64 (f k).pa)).setCell ⟨w.heap.size, k * 9 + 2, none⟩ (.int .i64 (f k).un)).setCell ⟨w.heap.size, k * 9 + 3, none⟩ (.int .i64 (f k).q.kd)).setCell ⟨w.heap.size, k * 9 + 4, none⟩ (.int .i64 (f k).q.pl)).setCell ⟨w.heap.size, k * 9 + 5, none⟩ (.int .i64 (f k).q.n)).setCell ⟨w.heap.size, k * 9 + 6, none⟩ (.slice b1 ((f k).q.ws.length) d1)).setCell ⟨w.heap.size, k * 9 + 7, none⟩ (.slice b2 ((f k).q.bs.length) d2)).setCell ⟨w.heap.size, k * 9 + 8, none⟩ (.int .i64 (f k).q.wa)) := by rw [hW2]; simp only [setL, Nat.reduceAdd, Nat.zero_add, Nat.add_zero, Nat.add_assoc]
   have HE : Hid (∀ j, w1.frozen? ⟨w.heap.size, j, none⟩ = false) := R1.fro
   have qf0 := HE.out (k * 9)
   have qf1 := HE.out (k * 9 + 1)
   have qf2 := HE.out (k * 9 + 2)
   have qf3 := HE.out (k * 9 + 3)
   have qf4 := HE.out (k * 9 + 4)
   have qf5 := HE.out (k * 9 + 5)
   have qf6 := HE.out (k * 9 + 6)
   have qf7 := HE.out (k * 9 + 7)
   have qf8 := HE.out (k * 9 + 8)
   clear R1 hb1 HK d09 d19 d29 d39 d49 d59 d69 d79 d89 hW2 HE q1 q2
   go_wp2
   rw [<- hW2']
   clear hW2'
   go_roundw
   case rel =>
    obtain ⟨F', x1, x2, x3⟩ := H2.out
    exact ⟨k + 1, F', by omega, by go_num, x1, x2, x3⟩
   case measure => simp [intOf]; omega
  have hi : ¬ (k : Int) < (n' : Int) := by omega
  have e9 : k = n' := by omega
  subst e9
  have HR : Hid (RowS wr w.heap.size 86 9 k F /\ (∀ j, j < k -> (F j).length = 9 /\ RdL wr (w.heap.size + 1) (trs (xlT (f j))) (F j)) /\ Below w.heap.size w wr) := ⟨hrow, hin, hb⟩
  clear hrow hin hb
  go_wp2
  go_ret
  exact ⟨_, _, rfl, Rd.made HR.out.1 (Nat.le_refl _) HS.out.2 (fun j hj => ⟨(HR.out.2.1 j hj).1, (HR.out.2.1 j hj).2.mono (by omega)⟩), HR.out.2.2⟩
theorem toLine_t (X : VN) (a1 : Option Addr) (l1 c1 : Nat) (a2 : Option Addr) (l2 c2 : Nat) (a3 : Option Addr) (l3 c3 : Nat) (w : World) (r1 : Rd w 0 (.list 9 X.nq (fun i => trs (xlT (X.qf i)))) (.slice a1 l1 c1)) (r2 : Rd w 0 (intsT X.c.q.ws) (.slice a2 l2 c2)) (r3 : Rd w 0 (boolsT X.c.q.bs) (.slice a3 l3 c3)) (hz : szT 17 (trs (xnT X)) <= 1048576) :
 Calls prog 85 #[.agg (xnL X a1 l1 c1 a2 l2 c2 a3 l3 c3).toArray] w fun e w' => ∃ b1 d1 b2 d2 b3 d3, e = .returned (.agg (xnL X b1 l1 d1 b2 l2 d2 b3 l3 d3).toArray) /\ Rd w' w.heap.size (.list 9 X.nq (fun i => trs (xlT (X.qf i)))) (.slice b1 l1 d1) /\ Rd w' w.heap.size (intsT X.c.q.ws) (.slice b2 l2 d2) /\ Rd w' w.heap.size (boolsT X.c.q.bs) (.slice b3 l3 d3) /\ Below w.heap.size w w' := by
 obtain ⟨W, hW⟩ : ∃ W, W = ((w.alloc (.cells (xnL X a1 l1 c1 a2 l2 c2 a3 l3 c3).toArray 136)).alloc (.cells z250 88)).alloc (.cells (z250 : Array Value) 88) := ⟨_, rfl⟩
 have bW : Below w.heap.size w W := by rw [hW]; exact bel_nx (bel_nx (bel_alloc w _) (bel_alloc _ _)) (bel_alloc _ _)
 have A0 : Blk W w.heap.size 136 (xnL X a1 l1 c1 a2 l2 c2 a3 l3 c3).toArray := by rw [hW]; exact ((Blk.new w _ _).below (bel_alloc _ _)).below (bel_alloc _ _)
 have R0 : Blk W (w.heap.size + 1) 88 z250 := by
  rw [hW]; have := (Blk.new (w.alloc (.cells (xnL X a1 l1 c1 a2 l2 c2 a3 l3 c3).toArray 136)) z250 88).below (bel_alloc _ (.cells (z250 : Array Value) 88)); simpa using this
 have O0 : Blk W (w.heap.size + 1 + 1) 88 (z250 : Array Value) := by
  rw [hW]; have := Blk.new ((w.alloc (.cells (xnL X a1 l1 c1 a2 l2 c2 a3 l3 c3).toArray 136)).alloc (.cells z250 88)) (z250 : Array Value) 88; simpa using this
 have hs0 : W.heap.size = (w.heap.size + 1 + 1 + 1) := by rw [hW]; simp
 have HZ : Hid ((Tr.list 9 X.nq (fun i => trs (xlT (X.qf i)))).sz <= 1048576 /\ szT 9 (trs (xlT X.c)) <= 1048576) := by
  rw [szT_xn] at hz
  show (Tr.list 9 X.nq (fun i => trs (xlT (X.qf i)))).sz <= 1048576 /\ szT 9 (trs (xlT X.c)) <= 1048576
  try simp only [szT_q, szT_a, szT_p, szT_d, szT_t, szT_xr, szT_xc, szT_xl, szT_xn, szT_xf, true_and]
  omega
 have HR : Hid (Rd w 0 (.list 9 X.nq (fun i => trs (xlT (X.qf i)))) (.slice a1 l1 c1) /\ Rd w 0 (intsT X.c.q.ws) (.slice a2 l2 c2) /\ Rd w 0 (boolsT X.c.q.bs) (.slice a3 l3 c3)) := ⟨r1, r2, r3⟩
 have G0 : Hid (GF w W 136 (xnL X a1 l1 c1 a2 l2 c2 a3 l3 c3).toArray 88 z250 (z250 : Array Value) ((w.heap.size + 1 + 1 + 1) <= W.heap.size)) := ⟨bW, A0, R0, O0, by omega⟩
 clear bW A0 R0 O0 hs0 hz r1 r2 r3
 go_enter func85, ntmps85
 go_upto_region 2 with fail
 rw [<- hW]
 clear hW
 obtain ⟨⟨y0, y1, y2, y3, y4, y5, y6, y7, y8, y9, y10, y11, y12, y13, y14, y15, y16⟩, yf⟩ := G0.out.2.1.tc17
 clear yf
 go_wp2_with fail
 refine (toCallS_t X.nq X.qf a1 l1 c1 _ (HR.out.1.below G0.out.1) HZ.out.1).mono ?_
 rintro e w1 ⟨b1, d1, rfl, q1, hb1⟩
 clear y0 y1 y2 y3 y4 y5 y6 y7 y8 y9 y10 y11 y12 y13 y14 y15 y16
 have O1 := (G0.out.2.2.2.1.below hb1)
 obtain ⟨⟨z0, z1, z2, z3, z4, z5, z6, z7, z8, z9, z10, z11, z12, z13, z14, z15, z16⟩, zf⟩ := O1.tc17
 have zg0 := zf 0
 obtain ⟨W1, hW1⟩ : ∃ W9, W9 = setL w1 (w.heap.size + 1 + 1) 0 [.slice b1 l1 d1] := ⟨_, rfl⟩
 have G1 : Hid (GF w W1 136 (xnL X a1 l1 c1 a2 l2 c2 a3 l3 c3).toArray 88 z250 (#[.slice b1 l1 d1, .bool false, .int .i64 0, .int .i64 0, .int .i64 0, .int .i64 0, .int .i64 0, .int .i64 0, .slice none 0 0, .slice none 0 0, .int .i64 0, .int .i64 0, .int .i64 0, .int .i64 0, .int .i64 0, .int .i64 0, .int .i64 0] : Array Value) ((w.heap.size + 1 + 1 + 1) <= W1.heap.size /\ Rd W1 (w.heap.size + 1 + 1 + 1) (.list 9 X.nq (fun i => trs (xlT (X.qf i)))) (.slice b1 l1 d1))) := by
  have hg : w1.grownBy W1 (some (w.heap.size + 1 + 1)) := by rw [hW1]; exact setL_gw _ _ _
  have hs9 := G0.out.2.2.2.2
  have hs8 := hb1.size
  have hs7 := hg.size
  refine ⟨by rw [hW1]; exact setL_below (by omega) _ _ _ (bel_nx G0.out.1 hb1), by rw [hW1]; exact Blk.stNe (by omega) _ _ (G0.out.2.1.below hb1), by rw [hW1]; exact Blk.stNe (by omega) _ _ (G0.out.2.2.1.below hb1), stO hW1 O1, by omega, (q1.mono hs9).kept hg (by omega)⟩
 have hX1 : W1 = (w1.setCell ⟨w.heap.size + 1 + 1, 0, none⟩ (.slice b1 l1 d1)) := by rw [hW1]; simp only [setL, Nat.reduceAdd, Nat.zero_add]
 clear O1 hb1 hW1 q1
 go_upto_region 3 with fail
 rw [<- hX1]
 clear hX1 zf z0 z1 z2 z3 z4 z5 z6 z7 z8 z9 z10 z11 z12 z13 z14 z15 z16 zg0
 obtain ⟨⟨y0, y1, y2, y3, y4, y5, y6, y7, y8, y9, y10, y11, y12, y13, y14, y15, y16⟩, yf⟩ := G1.out.2.1.tc17
 clear yf
 have O2 := G1.out.2.2.2.1
 obtain ⟨⟨z0, z1, z2, z3, z4, z5, z6, z7, z8, z9, z10, z11, z12, z13, z14, z15, z16⟩, zf⟩ := O2.tc17
 have zg1 := zf 1
 obtain ⟨W2, hW2⟩ : ∃ W9, W9 = setL W1 (w.heap.size + 1 + 1) 1 [.bool X.bz] := ⟨_, rfl⟩
 have G2 : Hid (GF w W2 136 (xnL X a1 l1 c1 a2 l2 c2 a3 l3 c3).toArray 88 z250 (#[.slice b1 l1 d1, .bool X.bz, .int .i64 0, .int .i64 0, .int .i64 0, .int .i64 0, .int .i64 0, .int .i64 0, .slice none 0 0, .slice none 0 0, .int .i64 0, .int .i64 0, .int .i64 0, .int .i64 0, .int .i64 0, .int .i64 0, .int .i64 0] : Array Value) ((w.heap.size + 1 + 1 + 1) <= W2.heap.size /\ Rd W2 (w.heap.size + 1 + 1 + 1) (.list 9 X.nq (fun i => trs (xlT (X.qf i)))) (.slice b1 l1 d1))) := by
  have hg : W1.grownBy W2 (some (w.heap.size + 1 + 1)) := by rw [hW2]; exact setL_gw _ _ _
  have hs9 := G1.out.2.2.2.2.1
  have hs7 := hg.size
  refine ⟨by rw [hW2]; exact setL_below (by omega) _ _ _ G1.out.1, by rw [hW2]; exact Blk.stNe (by omega) _ _ G1.out.2.1, by rw [hW2]; exact Blk.stNe (by omega) _ _ G1.out.2.2.1, stO hW2 O2, by omega, G1.out.2.2.2.2.2.kept hg (by omega)⟩
 have hX2 : W2 = (W1.setCell ⟨w.heap.size + 1 + 1, 1, none⟩ (.bool X.bz)) := by rw [hW2]; simp only [setL, Nat.reduceAdd, Nat.zero_add]
 clear O2 hW2
 go_upto_region 4 with fail
 rw [<- hX2]
 clear hX2 zf z0 z1 z2 z3 z4 z5 z6 z7 z8 z9 z10 z11 z12 z13 z14 z15 z16 zg1 y0 y1 y2 y3 y4 y5 y6 y7 y8 y9 y10 y11 y12 y13 y14 y15 y16
 obtain ⟨⟨y0, y1, y2, y3, y4, y5, y6, y7, y8, y9, y10, y11, y12, y13, y14, y15, y16⟩, yf⟩ := G2.out.2.1.tc17
 clear yf
 go_wp2_with fail
 refine (toCall_t X.c a2 l2 c2 a3 l3 c3 _ (HR.out.2.1.below G2.out.1) (HR.out.2.2.below G2.out.1) HZ.out.2).mono ?_
 rintro e w3 ⟨b2, d2, b3, d3, rfl, q2, q3, hb3⟩
 clear y0 y1 y2 y3 y4 y5 y6 y7 y8 y9 y10 y11 y12 y13 y14 y15 y16
 have O3 := (G2.out.2.2.2.1.below hb3)
 obtain ⟨⟨z0, z1, z2, z3, z4, z5, z6, z7, z8, z9, z10, z11, z12, z13, z14, z15, z16⟩, zf⟩ := O3.tc17
 have zg2 := zf 2
 have zg3 := zf 3
 have zg4 := zf 4
 have zg5 := zf 5
 have zg6 := zf 6
 have zg7 := zf 7
 have zg8 := zf 8
 have zg9 := zf 9
 have zg10 := zf 10
 obtain ⟨W3, hW3⟩ : ∃ W9, W9 = setL w3 (w.heap.size + 1 + 1) 2 [.int .i64 X.c.id, .int .i64 X.c.pa, .int .i64 X.c.un, .int .i64 X.c.q.kd, .int .i64 X.c.q.pl, .int .i64 X.c.q.n, .slice b2 l2 d2, .slice b3 l3 d3, .int .i64 X.c.q.wa] := ⟨_, rfl⟩
 have G3 : Hid (GF w W3 136 (xnL X a1 l1 c1 a2 l2 c2 a3 l3 c3).toArray 88 z250 (#[.slice b1 l1 d1, .bool X.bz, .int .i64 X.c.id, .int .i64 X.c.pa, .int .i64 X.c.un, .int .i64 X.c.q.kd, .int .i64 X.c.q.pl, .int .i64 X.c.q.n, .slice b2 l2 d2, .slice b3 l3 d3, .int .i64 X.c.q.wa, .int .i64 0, .int .i64 0, .int .i64 0, .int .i64 0, .int .i64 0, .int .i64 0] : Array Value) ((w.heap.size + 1 + 1 + 1) <= W3.heap.size /\ Rd W3 (w.heap.size + 1 + 1 + 1) (.list 9 X.nq (fun i => trs (xlT (X.qf i)))) (.slice b1 l1 d1) /\ Rd W3 (w.heap.size + 1 + 1 + 1) (intsT X.c.q.ws) (.slice b2 l2 d2) /\ Rd W3 (w.heap.size + 1 + 1 + 1) (boolsT X.c.q.bs) (.slice b3 l3 d3))) := by
  have hg : w3.grownBy W3 (some (w.heap.size + 1 + 1)) := by rw [hW3]; exact setL_gw _ _ _
  have hs9 := G2.out.2.2.2.2.1
  have hs8 := hb3.size
  have hs7 := hg.size
  refine ⟨by rw [hW3]; exact setL_below (by omega) _ _ _ (bel_nx G2.out.1 hb3), by rw [hW3]; exact Blk.stNe (by omega) _ _ (G2.out.2.1.below hb3), by rw [hW3]; exact Blk.stNe (by omega) _ _ (G2.out.2.2.1.below hb3), stO hW3 O3, by omega, (G2.out.2.2.2.2.2.below hb3).kept hg (by omega), (q2.mono hs9).kept hg (by omega), (q3.mono hs9).kept hg (by omega)⟩
 have hX3 : W3 = (((((((((w3.setCell ⟨w.heap.size + 1 + 1, 2, none⟩ (.int .i64 X.c.id)).setCell ⟨w.heap.size + 1 + 1, 3, none⟩ (.int .i64 X.c.pa)).setCell ⟨w.heap.size + 1 + 1, 4, none⟩ (.int .i64 X.c.un)).setCell ⟨w.heap.size + 1 + 1, 5, none⟩ (.int .i64 X.c.q.kd)).setCell ⟨w.heap.size + 1 + 1, 6, none⟩ (.int .i64 X.c.q.pl)).setCell ⟨w.heap.size + 1 + 1, 7, none⟩ (.int .i64 X.c.q.n)).setCell ⟨w.heap.size + 1 + 1, 8, none⟩ (.slice b2 l2 d2)).setCell ⟨w.heap.size + 1 + 1, 9, none⟩ (.slice b3 l3 d3)).setCell ⟨w.heap.size + 1 + 1, 10, none⟩ (.int .i64 X.c.q.wa)) := by rw [hW3]; simp only [setL, Nat.reduceAdd, Nat.zero_add]
 clear O3 hb3 hW3 q2 q3
 go_upto_region 5 with fail
 rw [<- hX3]
 clear hX3 zf z0 z1 z2 z3 z4 z5 z6 z7 z8 z9 z10 z11 z12 z13 z14 z15 z16 zg2 zg3 zg4 zg5 zg6 zg7 zg8 zg9 zg10
 obtain ⟨⟨y0, y1, y2, y3, y4, y5, y6, y7, y8, y9, y10, y11, y12, y13, y14, y15, y16⟩, yf⟩ := G3.out.2.1.tc17
 clear yf
 have O4 := G3.out.2.2.2.1
 obtain ⟨⟨z0, z1, z2, z3, z4, z5, z6, z7, z8, z9, z10, z11, z12, z13, z14, z15, z16⟩, zf⟩ := O4.tc17
 have zg11 := zf 11
 obtain ⟨W4, hW4⟩ : ∃ W9, W9 = setL W3 (w.heap.size + 1 + 1) 11 [.int .i64 X.nu] := ⟨_, rfl⟩
 have G4 : Hid (GF w W4 136 (xnL X a1 l1 c1 a2 l2 c2 a3 l3 c3).toArray 88 z250 (#[.slice b1 l1 d1, .bool X.bz, .int .i64 X.c.id, .int .i64 X.c.pa, .int .i64 X.c.un, .int .i64 X.c.q.kd, .int .i64 X.c.q.pl, .int .i64 X.c.q.n, .slice b2 l2 d2, .slice b3 l3 d3, .int .i64 X.c.q.wa, .int .i64 X.nu, .int .i64 0, .int .i64 0, .int .i64 0, .int .i64 0, .int .i64 0] : Array Value) ((w.heap.size + 1 + 1 + 1) <= W4.heap.size /\ Rd W4 (w.heap.size + 1 + 1 + 1) (.list 9 X.nq (fun i => trs (xlT (X.qf i)))) (.slice b1 l1 d1) /\ Rd W4 (w.heap.size + 1 + 1 + 1) (intsT X.c.q.ws) (.slice b2 l2 d2) /\ Rd W4 (w.heap.size + 1 + 1 + 1) (boolsT X.c.q.bs) (.slice b3 l3 d3))) := by
  have hg : W3.grownBy W4 (some (w.heap.size + 1 + 1)) := by rw [hW4]; exact setL_gw _ _ _
  have hs9 := G3.out.2.2.2.2.1
  have hs7 := hg.size
  refine ⟨by rw [hW4]; exact setL_below (by omega) _ _ _ G3.out.1, by rw [hW4]; exact Blk.stNe (by omega) _ _ G3.out.2.1, by rw [hW4]; exact Blk.stNe (by omega) _ _ G3.out.2.2.1, stO hW4 O4, by omega, G3.out.2.2.2.2.2.1.kept hg (by omega), G3.out.2.2.2.2.2.2.1.kept hg (by omega), G3.out.2.2.2.2.2.2.2.kept hg (by omega)⟩
 have hX4 : W4 = (W3.setCell ⟨w.heap.size + 1 + 1, 11, none⟩ (.int .i64 X.nu)) := by rw [hW4]; simp only [setL, Nat.reduceAdd, Nat.zero_add]
 clear O4 hW4
 go_upto_region 6 with fail
 rw [<- hX4]
 clear hX4 zf z0 z1 z2 z3 z4 z5 z6 z7 z8 z9 z10 z11 z12 z13 z14 z15 z16 zg11 y0 y1 y2 y3 y4 y5 y6 y7 y8 y9 y10 y11 y12 y13 y14 y15 y16
 obtain ⟨⟨y0, y1, y2, y3, y4, y5, y6, y7, y8, y9, y10, y11, y12, y13, y14, y15, y16⟩, yf⟩ := G4.out.2.1.tc17
 clear yf
 have O5 := G4.out.2.2.2.1
 obtain ⟨⟨z0, z1, z2, z3, z4, z5, z6, z7, z8, z9, z10, z11, z12, z13, z14, z15, z16⟩, zf⟩ := O5.tc17
 have zg12 := zf 12
 obtain ⟨W5, hW5⟩ : ∃ W9, W9 = setL W4 (w.heap.size + 1 + 1) 12 [.int .i64 X.du] := ⟨_, rfl⟩
 have G5 : Hid (GF w W5 136 (xnL X a1 l1 c1 a2 l2 c2 a3 l3 c3).toArray 88 z250 (#[.slice b1 l1 d1, .bool X.bz, .int .i64 X.c.id, .int .i64 X.c.pa, .int .i64 X.c.un, .int .i64 X.c.q.kd, .int .i64 X.c.q.pl, .int .i64 X.c.q.n, .slice b2 l2 d2, .slice b3 l3 d3, .int .i64 X.c.q.wa, .int .i64 X.nu, .int .i64 X.du, .int .i64 0, .int .i64 0, .int .i64 0, .int .i64 0] : Array Value) ((w.heap.size + 1 + 1 + 1) <= W5.heap.size /\ Rd W5 (w.heap.size + 1 + 1 + 1) (.list 9 X.nq (fun i => trs (xlT (X.qf i)))) (.slice b1 l1 d1) /\ Rd W5 (w.heap.size + 1 + 1 + 1) (intsT X.c.q.ws) (.slice b2 l2 d2) /\ Rd W5 (w.heap.size + 1 + 1 + 1) (boolsT X.c.q.bs) (.slice b3 l3 d3))) := by
  have hg : W4.grownBy W5 (some (w.heap.size + 1 + 1)) := by rw [hW5]; exact setL_gw _ _ _
  have hs9 := G4.out.2.2.2.2.1
  have hs7 := hg.size
  refine ⟨by rw [hW5]; exact setL_below (by omega) _ _ _ G4.out.1, by rw [hW5]; exact Blk.stNe (by omega) _ _ G4.out.2.1, by rw [hW5]; exact Blk.stNe (by omega) _ _ G4.out.2.2.1, stO hW5 O5, by omega, G4.out.2.2.2.2.2.1.kept hg (by omega), G4.out.2.2.2.2.2.2.1.kept hg (by omega), G4.out.2.2.2.2.2.2.2.kept hg (by omega)⟩
 have hX5 : W5 = (W4.setCell ⟨w.heap.size + 1 + 1, 12, none⟩ (.int .i64 X.du)) := by rw [hW5]; simp only [setL, Nat.reduceAdd, Nat.zero_add]
 clear O5 hW5
 go_upto_region 7 with fail
 rw [<- hX5]
 clear hX5 zf z0 z1 z2 z3 z4 z5 z6 z7 z8 z9 z10 z11 z12 z13 z14 z15 z16 zg12 y0 y1 y2 y3 y4 y5 y6 y7 y8 y9 y10 y11 y12 y13 y14 y15 y16
 obtain ⟨⟨y0, y1, y2, y3, y4, y5, y6, y7, y8, y9, y10, y11, y12, y13, y14, y15, y16⟩, yf⟩ := G5.out.2.1.tc17
 clear yf
 have O6 := G5.out.2.2.2.1
 obtain ⟨⟨z0, z1, z2, z3, z4, z5, z6, z7, z8, z9, z10, z11, z12, z13, z14, z15, z16⟩, zf⟩ := O6.tc17
 have zg13 := zf 13
 obtain ⟨W6, hW6⟩ : ∃ W9, W9 = setL W5 (w.heap.size + 1 + 1) 13 [.int .i64 X.le] := ⟨_, rfl⟩
 have G6 : Hid (GF w W6 136 (xnL X a1 l1 c1 a2 l2 c2 a3 l3 c3).toArray 88 z250 (#[.slice b1 l1 d1, .bool X.bz, .int .i64 X.c.id, .int .i64 X.c.pa, .int .i64 X.c.un, .int .i64 X.c.q.kd, .int .i64 X.c.q.pl, .int .i64 X.c.q.n, .slice b2 l2 d2, .slice b3 l3 d3, .int .i64 X.c.q.wa, .int .i64 X.nu, .int .i64 X.du, .int .i64 X.le, .int .i64 0, .int .i64 0, .int .i64 0] : Array Value) ((w.heap.size + 1 + 1 + 1) <= W6.heap.size /\ Rd W6 (w.heap.size + 1 + 1 + 1) (.list 9 X.nq (fun i => trs (xlT (X.qf i)))) (.slice b1 l1 d1) /\ Rd W6 (w.heap.size + 1 + 1 + 1) (intsT X.c.q.ws) (.slice b2 l2 d2) /\ Rd W6 (w.heap.size + 1 + 1 + 1) (boolsT X.c.q.bs) (.slice b3 l3 d3))) := by
  have hg : W5.grownBy W6 (some (w.heap.size + 1 + 1)) := by rw [hW6]; exact setL_gw _ _ _
  have hs9 := G5.out.2.2.2.2.1
  have hs7 := hg.size
  refine ⟨by rw [hW6]; exact setL_below (by omega) _ _ _ G5.out.1, by rw [hW6]; exact Blk.stNe (by omega) _ _ G5.out.2.1, by rw [hW6]; exact Blk.stNe (by omega) _ _ G5.out.2.2.1, stO hW6 O6, by omega, G5.out.2.2.2.2.2.1.kept hg (by omega), G5.out.2.2.2.2.2.2.1.kept hg (by omega), G5.out.2.2.2.2.2.2.2.kept hg (by omega)⟩
 have hX6 : W6 = (W5.setCell ⟨w.heap.size + 1 + 1, 13, none⟩ (.int .i64 X.le)) := by rw [hW6]; simp only [setL, Nat.reduceAdd, Nat.zero_add]
 clear O6 hW6
 go_upto_region 8 with fail
 rw [<- hX6]
 clear hX6 zf z0 z1 z2 z3 z4 z5 z6 z7 z8 z9 z10 z11 z12 z13 z14 z15 z16 zg13 y0 y1 y2 y3 y4 y5 y6 y7 y8 y9 y10 y11 y12 y13 y14 y15 y16
 obtain ⟨⟨y0, y1, y2, y3, y4, y5, y6, y7, y8, y9, y10, y11, y12, y13, y14, y15, y16⟩, yf⟩ := G6.out.2.1.tc17
 clear yf
 have O7 := G6.out.2.2.2.1
 obtain ⟨⟨z0, z1, z2, z3, z4, z5, z6, z7, z8, z9, z10, z11, z12, z13, z14, z15, z16⟩, zf⟩ := O7.tc17
 have zg14 := zf 14
 obtain ⟨W7, hW7⟩ : ∃ W9, W9 = setL W6 (w.heap.size + 1 + 1) 14 [.int .i64 X.nx] := ⟨_, rfl⟩
 have G7 : Hid (GF w W7 136 (xnL X a1 l1 c1 a2 l2 c2 a3 l3 c3).toArray 88 z250 (#[.slice b1 l1 d1, .bool X.bz, .int .i64 X.c.id, .int .i64 X.c.pa, .int .i64 X.c.un, .int .i64 X.c.q.kd, .int .i64 X.c.q.pl, .int .i64 X.c.q.n, .slice b2 l2 d2, .slice b3 l3 d3, .int .i64 X.c.q.wa, .int .i64 X.nu, .int .i64 X.du, .int .i64 X.le, .int .i64 X.nx, .int .i64 0, .int .i64 0] : Array Value) ((w.heap.size + 1 + 1 + 1) <= W7.heap.size /\ Rd W7 (w.heap.size + 1 + 1 + 1) (.list 9 X.nq (fun i => trs (xlT (X.qf i)))) (.slice b1 l1 d1) /\ Rd W7 (w.heap.size + 1 + 1 + 1) (intsT X.c.q.ws) (.slice b2 l2 d2) /\ Rd W7 (w.heap.size + 1 + 1 + 1) (boolsT X.c.q.bs) (.slice b3 l3 d3))) := by
  have hg : W6.grownBy W7 (some (w.heap.size + 1 + 1)) := by rw [hW7]; exact setL_gw _ _ _
  have hs9 := G6.out.2.2.2.2.1
  have hs7 := hg.size
  refine ⟨by rw [hW7]; exact setL_below (by omega) _ _ _ G6.out.1, by rw [hW7]; exact Blk.stNe (by omega) _ _ G6.out.2.1, by rw [hW7]; exact Blk.stNe (by omega) _ _ G6.out.2.2.1, stO hW7 O7, by omega, G6.out.2.2.2.2.2.1.kept hg (by omega), G6.out.2.2.2.2.2.2.1.kept hg (by omega), G6.out.2.2.2.2.2.2.2.kept hg (by omega)⟩
 have hX7 : W7 = (W6.setCell ⟨w.heap.size + 1 + 1, 14, none⟩ (.int .i64 X.nx)) := by rw [hW7]; simp only [setL, Nat.reduceAdd, Nat.zero_add]
 clear O7 hW7
 go_upto_region 9 with fail
 rw [<- hX7]
 clear hX7 zf z0 z1 z2 z3 z4 z5 z6 z7 z8 z9 z10 z11 z12 z13 z14 z15 z16 zg14 y0 y1 y2 y3 y4 y5 y6 y7 y8 y9 y10 y11 y12 y13 y14 y15 y16
 obtain ⟨⟨y0, y1, y2, y3, y4, y5, y6, y7, y8, y9, y10, y11, y12, y13, y14, y15, y16⟩, yf⟩ := G7.out.2.1.tc17
 clear yf
 have O8 := G7.out.2.2.2.1
 obtain ⟨⟨z0, z1, z2, z3, z4, z5, z6, z7, z8, z9, z10, z11, z12, z13, z14, z15, z16⟩, zf⟩ := O8.tc17
 have zg15 := zf 15
 obtain ⟨W8, hW8⟩ : ∃ W9, W9 = setL W7 (w.heap.size + 1 + 1) 15 [.int .i64 X.wt] := ⟨_, rfl⟩
 have G8 : Hid (GF w W8 136 (xnL X a1 l1 c1 a2 l2 c2 a3 l3 c3).toArray 88 z250 (#[.slice b1 l1 d1, .bool X.bz, .int .i64 X.c.id, .int .i64 X.c.pa, .int .i64 X.c.un, .int .i64 X.c.q.kd, .int .i64 X.c.q.pl, .int .i64 X.c.q.n, .slice b2 l2 d2, .slice b3 l3 d3, .int .i64 X.c.q.wa, .int .i64 X.nu, .int .i64 X.du, .int .i64 X.le, .int .i64 X.nx, .int .i64 X.wt, .int .i64 0] : Array Value) ((w.heap.size + 1 + 1 + 1) <= W8.heap.size /\ Rd W8 (w.heap.size + 1 + 1 + 1) (.list 9 X.nq (fun i => trs (xlT (X.qf i)))) (.slice b1 l1 d1) /\ Rd W8 (w.heap.size + 1 + 1 + 1) (intsT X.c.q.ws) (.slice b2 l2 d2) /\ Rd W8 (w.heap.size + 1 + 1 + 1) (boolsT X.c.q.bs) (.slice b3 l3 d3))) := by
  have hg : W7.grownBy W8 (some (w.heap.size + 1 + 1)) := by rw [hW8]; exact setL_gw _ _ _
  have hs9 := G7.out.2.2.2.2.1
  have hs7 := hg.size
  refine ⟨by rw [hW8]; exact setL_below (by omega) _ _ _ G7.out.1, by rw [hW8]; exact Blk.stNe (by omega) _ _ G7.out.2.1, by rw [hW8]; exact Blk.stNe (by omega) _ _ G7.out.2.2.1, stO hW8 O8, by omega, G7.out.2.2.2.2.2.1.kept hg (by omega), G7.out.2.2.2.2.2.2.1.kept hg (by omega), G7.out.2.2.2.2.2.2.2.kept hg (by omega)⟩
 have hX8 : W8 = (W7.setCell ⟨w.heap.size + 1 + 1, 15, none⟩ (.int .i64 X.wt)) := by rw [hW8]; simp only [setL, Nat.reduceAdd, Nat.zero_add]
 clear O8 hW8
 go_upto_region 10 with fail
 rw [<- hX8]
 clear hX8 zf z0 z1 z2 z3 z4 z5 z6 z7 z8 z9 z10 z11 z12 z13 z14 z15 z16 zg15 y0 y1 y2 y3 y4 y5 y6 y7 y8 y9 y10 y11 y12 y13 y14 y15 y16
 obtain ⟨⟨y0, y1, y2, y3, y4, y5, y6, y7, y8, y9, y10, y11, y12, y13, y14, y15, y16⟩, yf⟩ := G8.out.2.1.tc17
 clear yf
 have O9 := G8.out.2.2.2.1
 obtain ⟨⟨z0, z1, z2, z3, z4, z5, z6, z7, z8, z9, z10, z11, z12, z13, z14, z15, z16⟩, zf⟩ := O9.tc17
 have zg16 := zf 16
 obtain ⟨W9, hW9⟩ : ∃ W9, W9 = setL W8 (w.heap.size + 1 + 1) 16 [.int .i64 X.tr] := ⟨_, rfl⟩
 have G9 : Hid (GF w W9 136 (xnL X a1 l1 c1 a2 l2 c2 a3 l3 c3).toArray 88 z250 (#[.slice b1 l1 d1, .bool X.bz, .int .i64 X.c.id, .int .i64 X.c.pa, .int .i64 X.c.un, .int .i64 X.c.q.kd, .int .i64 X.c.q.pl, .int .i64 X.c.q.n, .slice b2 l2 d2, .slice b3 l3 d3, .int .i64 X.c.q.wa, .int .i64 X.nu, .int .i64 X.du, .int .i64 X.le, .int .i64 X.nx, .int .i64 X.wt, .int .i64 X.tr] : Array Value) ((w.heap.size + 1 + 1 + 1) <= W9.heap.size /\ Rd W9 (w.heap.size + 1 + 1 + 1) (.list 9 X.nq (fun i => trs (xlT (X.qf i)))) (.slice b1 l1 d1) /\ Rd W9 (w.heap.size + 1 + 1 + 1) (intsT X.c.q.ws) (.slice b2 l2 d2) /\ Rd W9 (w.heap.size + 1 + 1 + 1) (boolsT X.c.q.bs) (.slice b3 l3 d3))) := by
  have hg : W8.grownBy W9 (some (w.heap.size + 1 + 1)) := by rw [hW9]; exact setL_gw _ _ _
  have hs9 := G8.out.2.2.2.2.1
  have hs7 := hg.size
  refine ⟨by rw [hW9]; exact setL_below (by omega) _ _ _ G8.out.1, by rw [hW9]; exact Blk.stNe (by omega) _ _ G8.out.2.1, by rw [hW9]; exact Blk.stNe (by omega) _ _ G8.out.2.2.1, stO hW9 O9, by omega, G8.out.2.2.2.2.2.1.kept hg (by omega), G8.out.2.2.2.2.2.2.1.kept hg (by omega), G8.out.2.2.2.2.2.2.2.kept hg (by omega)⟩
 have hX9 : W9 = (W8.setCell ⟨w.heap.size + 1 + 1, 16, none⟩ (.int .i64 X.tr)) := by rw [hW9]; simp only [setL, Nat.reduceAdd, Nat.zero_add]
 clear O9 hW9
 go_upto_region 11 with fail
 rw [<- hX9]
 clear hX9 zf z0 z1 z2 z3 z4 z5 z6 z7 z8 z9 z10 z11 z12 z13 z14 z15 z16 zg16 y0 y1 y2 y3 y4 y5 y6 y7 y8 y9 y10 y11 y12 y13 y14 y15 y16
 obtain ⟨Wz, hWz⟩ : ∃ Wz, Wz = setL W9 (w.heap.size + 1) 0 (xnL X b1 l1 d1 b2 l2 d2 b3 l3 d3) := ⟨_, rfl⟩
 have H9 : Hid (Rd Wz w.heap.size (.list 9 X.nq (fun i => trs (xlT (X.qf i)))) (.slice b1 l1 d1) /\ Rd Wz w.heap.size (intsT X.c.q.ws) (.slice b2 l2 d2) /\ Rd Wz w.heap.size (boolsT X.c.q.bs) (.slice b3 l3 d3) /\ Below w.heap.size w Wz /\ Blk Wz (w.heap.size + 1) 88 (xnL X b1 l1 d1 b2 l2 d2 b3 l3 d3).toArray) := by
  have hg : W9.grownBy Wz (some (w.heap.size + 1)) := by rw [hWz]; exact setL_gw _ _ _
  exact ⟨((G9.out.2.2.2.2.2.1).kept hg (by omega)).mono (by omega), ((G9.out.2.2.2.2.2.2.1).kept hg (by omega)).mono (by omega), ((G9.out.2.2.2.2.2.2.2).kept hg (by omega)).mono (by omega), by rw [hWz]; exact setL_below (by omega) _ _ _ G9.out.1, by rw [hWz, show (xnL X b1 l1 d1 b2 l2 d2 b3 l3 d3).toArray = wrA (#[.slice none 0 0, .bool false, .int .i64 0, .int .i64 0, .int .i64 0, .int .i64 0, .int .i64 0, .int .i64 0, .slice none 0 0, .slice none 0 0, .int .i64 0, .int .i64 0, .int .i64 0, .int .i64 0, .int .i64 0, .int .i64 0, .int .i64 0] : Array Value) 0 (xnL X b1 l1 d1 b2 l2 d2 b3 l3 d3) from (by simp [wrA])]; exact Blk.stL _ _ G9.out.2.2.1⟩
 have hr := G9.out.2.2.2.1.all
 have ht := G9.out.2.2.1.there 0 17 (by simp)
 clear G9
 refine wp_region_lit ?_
 refine wpList_load_mid rfl 88 (.tmp 3) rfl (w.heap.size + 1 + 1) 0 rfl (xnL X b1 l1 d1 b2 l2 d2 b3 l3 d3) _ hr underlying88 rfl (by kernel_rfl) ?_
 refine wpList_store_mid rfl 88 (.tmp 2) (.tmp 33) rfl (w.heap.size + 1) 0 (xnL X b1 l1 d1 b2 l2 d2 b3 l3 d3).toArray rfl rfl ht (by kernel_rfl) (by simp [Value.oneCell']) ?_
 rw [setCells_L, <- hWz]
 clear hWz hr ht
 refine wpList_nil ?_
 go_wp2
 obtain ⟨⟨y0, y1, y2, y3, y4, y5, y6, y7, y8, y9, y10, y11, y12, y13, y14, y15, y16⟩, yf⟩ := H9.out.2.2.2.2.tc17
 refine bodyPost_ret (v := .agg (xnL X b1 l1 d1 b2 l2 d2 b3 l3 d3).toArray) (by simp [results, results85, go_sem, y0, y1, y2, y3, y4, y5, y6, y7, y8, y9, y10, y11, y12, y13, y14, y15, y16]) rfl ⟨b1, d1, b2, d2, b3, d3, rfl, H9.out.1, H9.out.2.1, H9.out.2.2.1, H9.out.2.2.2.1⟩
theorem toLineS_t (n : Nat) (f : Nat -> VN) (a : Option Addr) (n' cap : Nat) (w : World) (hs : Rd w 0 (.list 17 n (fun k => trs (xnT (f k)))) (.slice a n' cap)) (hz : (Tr.list 17 n (fun k => trs (xnT (f k)))).sz <= 1048576) :
 Calls prog 43 #[.slice a n' cap] w fun e w' => ∃ b d, e = .returned (.slice b n' d) /\ Rd w' w.heap.size (.list 17 n (fun k => trs (xnT (f k)))) (.slice b n' d) /\ Below w.heap.size w w' := by
 obtain ⟨a9, c9, h9, -, hn⟩ := hs.shape
 simp only [Value.slice.injEq] at h9
 obtain ⟨-, rfl, -⟩ := h9
 clear a9 c9
 have hn1 : n' <= 1048576 := by rw [Tr.sz_list] at hz; omega
 have HZ : Hid (∀ k, k < n' -> szT 17 (trs (xnT (f k))) <= 1048576) := by
  show ∀ k, k < n' -> szT 17 (trs (xnT (f k))) <= 1048576
  intro k hk
  rw [Tr.sz_list] at hz
  have := sumN_at (fun k => szT 17 (trs (xnT (f k)))) hk
  omega
 have hmk := run_make_st (P := prog) 39 88 (.agg z250) 17 184 underlying39 (by kernel_rfl) .i64 .i64 n' (by omega) (by omega)
 have HS : Hid (Rd w 0 (.list 17 n' (fun k => trs (xnT (f k)))) (.slice a n' cap) /\ n' <= maxLen) := ⟨hs, hn⟩
 clear hs hz hn
 go_enter func43, ntmps43
 go_wp2
 clear hmk
 go_loopw [4] (fun i wr => ∃ (k : Nat) (F : Nat -> List Value), k <= n' /\ i = .int .i64 k /\ RowS wr w.heap.size 88 17 n' F /\ (∀ j, j < k -> (F j).length = 17 /\ RdL wr (w.heap.size + 1) (trs (xnT (f j))) (F j)) /\ Below w.heap.size w wr) (fun i _ => n' - (intOf i).toNat)
 case atStart => exact ⟨0, fun _ => (z250).toList, Nat.zero_le _, rfl, RowS.made w (z250).toList n' _ (by simp), fun j hj => by omega, (Below.refl _ _).alloc (Nat.le_refl _) _⟩
 case round =>
  obtain ⟨k, F, hk, rfl, hrow, hin, hb⟩ := hrel
  by_cases hlt : k < n'
  ·have hi : (k : Int) < (n' : Int) := by omega
   obtain ⟨b, off, vs, rfl, _, hb0, hlen, hr, hrd⟩ := (HS.out.1.below hb).at hlt
   obtain ⟨a1, c1, a2, c2, a3, c3, rfl, r1, r2, r3⟩ := VN.cells hrd hlen
   clear hlen hrd
   have d09 : wr.cell? ⟨b, off + k * 17, none⟩ = _ := hr 0 _ rfl
   have d19 := hr 1 _ rfl
   have d29 := hr 2 _ rfl
   have d39 := hr 3 _ rfl
   have d49 := hr 4 _ rfl
   have d59 := hr 5 _ rfl
   have d69 := hr 6 _ rfl
   have d79 := hr 7 _ rfl
   have d89 := hr 8 _ rfl
   have d99 := hr 9 _ rfl
   have d109 := hr 10 _ rfl
   have d119 := hr 11 _ rfl
   have d129 := hr 12 _ rfl
   have d139 := hr 13 _ rfl
   have d149 := hr 14 _ rfl
   have d159 := hr 15 _ rfl
   have d169 := hr 16 _ rfl
   have HK : Hid (RowS wr w.heap.size 88 17 n' F /\ (∀ j, j < k -> (F j).length = 17 /\ RdL wr (w.heap.size + 1) (trs (xnT (f j))) (F j)) /\ Below w.heap.size w wr /\ Rd wr 0 (.list 9 (f k).nq (fun i => trs (xlT ((f k).qf i)))) (.slice a1 ((f k).nq) c1) /\ Rd wr 0 (intsT (f k).c.q.ws) (.slice a2 ((f k).c.q.ws.length) c2) /\ Rd wr 0 (boolsT (f k).c.q.bs) (.slice a3 ((f k).c.q.bs.length) c3)) := ⟨hrow, hin, hb, r1, r2, r3⟩
   clear hrow hin hb hr hb0 r1 r2 r3
   go_wp2_with fail
   refine (toLine_t (f k) a1 ((f k).nq) c1 a2 ((f k).c.q.ws.length) c2 a3 ((f k).c.q.bs.length) c3 _ HK.out.2.2.2.1 HK.out.2.2.2.2.1 HK.out.2.2.2.2.2 (HZ.out k hlt)).mono ?_
   rintro e w1 ⟨b1, d1, b2, d2, b3, d3, rfl, q1, q2, q3, hb1⟩
   have R1 := HK.out.1.below hb1
   obtain ⟨rx0, ry0⟩ : ∃ v, w1.cell? ⟨w.heap.size, k * 17, none⟩ = some v := R1.ex hlt (j := 0) (by decide)
   obtain ⟨rx1, ry1⟩ := R1.ex hlt (j := 1) (by decide)
   obtain ⟨rx2, ry2⟩ := R1.ex hlt (j := 2) (by decide)
   obtain ⟨rx3, ry3⟩ := R1.ex hlt (j := 3) (by decide)
   obtain ⟨rx4, ry4⟩ := R1.ex hlt (j := 4) (by decide)
   obtain ⟨rx5, ry5⟩ := R1.ex hlt (j := 5) (by decide)
   obtain ⟨rx6, ry6⟩ := R1.ex hlt (j := 6) (by decide)
   obtain ⟨rx7, ry7⟩ := R1.ex hlt (j := 7) (by decide)
   obtain ⟨rx8, ry8⟩ := R1.ex hlt (j := 8) (by decide)
   obtain ⟨rx9, ry9⟩ := R1.ex hlt (j := 9) (by decide)
   obtain ⟨rx10, ry10⟩ := R1.ex hlt (j := 10) (by decide)
   obtain ⟨rx11, ry11⟩ := R1.ex hlt (j := 11) (by decide)
   obtain ⟨rx12, ry12⟩ := R1.ex hlt (j := 12) (by decide)
   obtain ⟨rx13, ry13⟩ := R1.ex hlt (j := 13) (by decide)
   obtain ⟨rx14, ry14⟩ := R1.ex hlt (j := 14) (by decide)
   obtain ⟨rx15, ry15⟩ := R1.ex hlt (j := 15) (by decide)
   obtain ⟨rx16, ry16⟩ := R1.ex hlt (j := 16) (by decide)
   obtain ⟨W2, hW2⟩ : ∃ W2, W2 = setL w1 w.heap.size (k * 17) (xnL (f k) b1 ((f k).nq) d1 b2 ((f k).c.q.ws.length) d2 b3 ((f k).c.q.bs.length) d3) := ⟨_, rfl⟩
   have H2 : Hid (∃ F', RowS W2 w.heap.size 88 17 n' F' /\ (∀ j, j < k + 1 -> (F' j).length = 17 /\ RdL W2 (w.heap.size + 1) (trs (xnT (f j))) (F' j)) /\ Below w.heap.size w W2) := by
    have hg : w1.grownBy W2 (some w.heap.size) := by rw [hW2]; exact setL_gw _ _ _
    have hs1 := HK.out.1.lt
    refine ⟨_, by rw [hW2]; exact R1.set hlt _ rfl, fun j hj => ?_, by rw [hW2]; exact setL_below (Nat.le_refl _) _ _ _ (bel_nx HK.out.2.2.1 hb1)⟩
    by_cases e : j = k
    ·subst e
     simp only [if_true]
     exact ⟨rfl, VN.back ((q1.mono (by omega)).kept hg (by omega)) ((q2.mono (by omega)).kept hg (by omega)) ((q3.mono (by omega)).kept hg (by omega))⟩
    simp only [if_neg e]
    have h9 := HK.out.2.1 j (by omega)
    exact ⟨h9.1, (h9.2.below hb1).kept hg (by omega)⟩
   have hW2' : W2 = (((((((((((((((((w1.setCell ⟨w.heap.size, k * 17, none⟩ (.slice b1 ((f k).nq) d1)).setCell ⟨w.heap.size, k * 17 + 1, none⟩ (.bool (f k).bz)).setCell ⟨w.heap.size, k * 17 + 2, none⟩ (.int .i64 (f k).c.id)).setCell ⟨w.heap.size, k * 17 + 3, none⟩ (.int .i64 (f k).c.pa)).setCell ⟨w.heap.size, k * 17 + 4, none⟩ (.int .i64 (f k).c.un)).setCell ⟨w.heap.size, k * 17 + 5, none⟩ (.int .i64 (f k).c.q.kd)).setCell ⟨w.heap.size, k * 17 + 6, none⟩ (.int .i64 (f k).c.q.pl)).setCell ⟨w.heap.size, k * 17 + 7, none⟩ (.int .i64 (f k).c.q.n)).setCell ⟨w.heap.size, k * 17 + 8, none⟩ (.slice b2 ((f k).c.q.ws.length) d2)).setCell ⟨w.heap.size, k * 17 + 9, none⟩ (.slice b3 ((f k).c.q.bs.length) d3)).setCell ⟨w.heap.size, k * 17 + 10, none⟩ (.int .i64 (f k).c.q.wa)).setCell ⟨w.heap.size, k * 17 + 11, none⟩ (.int .i64 (f k).nu)).setCell ⟨w.heap.size, k * 17 + 12, none⟩ (.int .i64 (f k).du)).setCell ⟨w.heap.size, k * 17 + 13, none⟩ (.int .i64 (f k).le)).setCell ⟨w.heap.size, k * 17 + 14, none⟩ (.int .i64 (f k).nx)).setCell ⟨w.heap.size, k * 17 + 15, none⟩ (.int .i64 (f k).wt)).setCell ⟨w.heap.size, k * 17 + 16, none⟩ (.int .i64 (f k).tr)) := by rw [hW2]; simp only [setL, Nat.reduceAdd, Nat.zero_add, Nat.add_zero, Nat.add_assoc]
   have HE : Hid (∀ j, w1.frozen? ⟨w.heap.size, j, none⟩ = false) := R1.fro
   have qf0 := HE.out (k * 17)
   have qf1 := HE.out (k * 17 + 1)
   have qf2 := HE.out (k * 17 + 2)
   have qf3 := HE.out (k * 17 + 3)
   have qf4 := HE.out (k * 17 + 4)
   have qf5 := HE.out (k * 17 + 5)
   have qf6 := HE.out (k * 17 + 6)
   have qf7 := HE.out (k * 17 + 7)
   have qf8 := HE.out (k * 17 + 8)
   have qf9 := HE.out (k * 17 + 9)
   have qf10 := HE.out (k * 17 + 10)
   have qf11 := HE.out (k * 17 + 11)
   have qf12 := HE.out (k * 17 + 12)
   have qf13 := HE.out (k * 17 + 13)
   have qf14 := HE.out (k * 17 + 14)
   have qf15 := HE.out (k * 17 + 15)
   have qf16 := HE.out (k * 17 + 16)
   clear R1 hb1 HK d09 d19 d29 d39 d49 d59 d69 d79 d89 d99 d109 d119 d129 d139 d149 d159 d169 hW2 HE q1 q2 q3
   go_wp2
   rw [<- hW2']
   clear hW2'
   go_roundw
   case rel =>
    obtain ⟨F', x1, x2, x3⟩ := H2.out
    exact ⟨k + 1, F', by omega, by go_num, x1, x2, x3⟩
   case measure => simp [intOf]; omega
  have hi : ¬ (k : Int) < (n' : Int) := by omega
  have e9 : k = n' := by omega
  subst e9
  have HR : Hid (RowS wr w.heap.size 88 17 k F /\ (∀ j, j < k -> (F j).length = 17 /\ RdL wr (w.heap.size + 1) (trs (xnT (f j))) (F j)) /\ Below w.heap.size w wr) := ⟨hrow, hin, hb⟩
  clear hrow hin hb
  go_wp2
  go_ret
  exact ⟨_, _, rfl, Rd.made HR.out.1 (Nat.le_refl _) HS.out.2 (fun j hj => ⟨(HR.out.2.1 j hj).1, (HR.out.2.1 j hj).2.mono (by omega)⟩), HR.out.2.2⟩
theorem toFabric_t (X : VF) (a1 : Option Addr) (l1 c1 : Nat) (a2 : Option Addr) (l2 c2 : Nat) (a3 : Option Addr) (l3 c3 : Nat) (w : World) (r1 : Rd w 0 (.list 7 X.set.n (fun i => trs (xrT (X.set.f i)))) (.slice a1 l1 c1)) (r2 : Rd w 0 (.list 13 X.op.m (fun i => trs (dT (X.op.f i)))) (.slice a2 l2 c2)) (r3 : Rd w 0 (.list 17 X.nl (fun i => trs (xnT (X.lf i)))) (.slice a3 l3 c3)) (hz : szT 11 (trs (xfT X)) <= 1048576) :
 Calls prog 10 #[.agg (xfL X a1 l1 c1 a2 l2 c2 a3 l3 c3).toArray] w fun e w' => ∃ b1 d1 b2 d2 b3 d3, e = .returned (.agg (xfL X b1 l1 d1 b2 l2 d2 b3 l3 d3).toArray) /\ Rd w' w.heap.size (.list 7 X.set.n (fun i => trs (xrT (X.set.f i)))) (.slice b1 l1 d1) /\ Rd w' w.heap.size (.list 13 X.op.m (fun i => trs (dT (X.op.f i)))) (.slice b2 l2 d2) /\ Rd w' w.heap.size (.list 17 X.nl (fun i => trs (xnT (X.lf i)))) (.slice b3 l3 d3) /\ Below w.heap.size w w' := by
 obtain ⟨W, hW⟩ : ∃ W, W = ((w.alloc (.cells (xfL X a1 l1 c1 a2 l2 c2 a3 l3 c3).toArray 30)).alloc (.cells z251 41)).alloc (.cells (#[.int .i64 X.nw, .int .i64 0, .int .i64 0, .slice none 0 0, .int .i64 0, .slice none 0 0, .slice none 0 0, .int .i64 0, .int .i64 0, .int .i64 0, .int .i64 0] : Array Value) 41) := ⟨_, rfl⟩
 have bW : Below w.heap.size w W := by rw [hW]; exact bel_nx (bel_nx (bel_alloc w _) (bel_alloc _ _)) (bel_alloc _ _)
 have A0 : Blk W w.heap.size 30 (xfL X a1 l1 c1 a2 l2 c2 a3 l3 c3).toArray := by rw [hW]; exact ((Blk.new w _ _).below (bel_alloc _ _)).below (bel_alloc _ _)
 have R0 : Blk W (w.heap.size + 1) 41 z251 := by
  rw [hW]; have := (Blk.new (w.alloc (.cells (xfL X a1 l1 c1 a2 l2 c2 a3 l3 c3).toArray 30)) z251 41).below (bel_alloc _ (.cells (#[.int .i64 X.nw, .int .i64 0, .int .i64 0, .slice none 0 0, .int .i64 0, .slice none 0 0, .slice none 0 0, .int .i64 0, .int .i64 0, .int .i64 0, .int .i64 0] : Array Value) 41)); simpa using this
 have O0 : Blk W (w.heap.size + 1 + 1) 41 (#[.int .i64 X.nw, .int .i64 0, .int .i64 0, .slice none 0 0, .int .i64 0, .slice none 0 0, .slice none 0 0, .int .i64 0, .int .i64 0, .int .i64 0, .int .i64 0] : Array Value) := by
  rw [hW]; have := Blk.new ((w.alloc (.cells (xfL X a1 l1 c1 a2 l2 c2 a3 l3 c3).toArray 30)).alloc (.cells z251 41)) (#[.int .i64 X.nw, .int .i64 0, .int .i64 0, .slice none 0 0, .int .i64 0, .slice none 0 0, .slice none 0 0, .int .i64 0, .int .i64 0, .int .i64 0, .int .i64 0] : Array Value) 41; simpa using this
 have hs0 : W.heap.size = (w.heap.size + 1 + 1 + 1) := by rw [hW]; simp
 have HZ : Hid (szT 3 (trs (xcT X.set)) <= 1048576 /\ szT 2 (trs (tT X.op)) <= 1048576 /\ (Tr.list 17 X.nl (fun i => trs (xnT (X.lf i)))).sz <= 1048576) := by
  rw [szT_xf] at hz
  show szT 3 (trs (xcT X.set)) <= 1048576 /\ szT 2 (trs (tT X.op)) <= 1048576 /\ (Tr.list 17 X.nl (fun i => trs (xnT (X.lf i)))).sz <= 1048576
  try simp only [szT_q, szT_a, szT_p, szT_d, szT_t, szT_xr, szT_xc, szT_xl, szT_xn, szT_xf, true_and]
  omega
 have HR : Hid (Rd w 0 (.list 7 X.set.n (fun i => trs (xrT (X.set.f i)))) (.slice a1 l1 c1) /\ Rd w 0 (.list 13 X.op.m (fun i => trs (dT (X.op.f i)))) (.slice a2 l2 c2) /\ Rd w 0 (.list 17 X.nl (fun i => trs (xnT (X.lf i)))) (.slice a3 l3 c3)) := ⟨r1, r2, r3⟩
 have G0 : Hid (GF w W 30 (xfL X a1 l1 c1 a2 l2 c2 a3 l3 c3).toArray 41 z251 (#[.int .i64 X.nw, .int .i64 0, .int .i64 0, .slice none 0 0, .int .i64 0, .slice none 0 0, .slice none 0 0, .int .i64 0, .int .i64 0, .int .i64 0, .int .i64 0] : Array Value) ((w.heap.size + 1 + 1 + 1) <= W.heap.size)) := ⟨bW, A0, R0, O0, by omega⟩
 clear bW A0 R0 O0 hs0 hz r1 r2 r3
 go_enter func10, ntmps10
 go_upto_region 3 with fail
 rw [<- hW]
 clear hW
 obtain ⟨⟨y0, y1, y2, y3, y4, y5, y6, y7, y8, y9, y10⟩, yf⟩ := G0.out.2.1.tc11
 clear yf
 go_wp2_with fail
 refine (toConfig_t X.set a1 l1 c1 _ (HR.out.1.below G0.out.1) HZ.out.1).mono ?_
 rintro e w1 ⟨b1, d1, rfl, q1, hb1⟩
 clear y0 y1 y2 y3 y4 y5 y6 y7 y8 y9 y10
 have O1 := (G0.out.2.2.2.1.below hb1)
 obtain ⟨⟨z0, z1, z2, z3, z4, z5, z6, z7, z8, z9, z10⟩, zf⟩ := O1.tc11
 have zg1 := zf 1
 have zg2 := zf 2
 have zg3 := zf 3
 obtain ⟨W1, hW1⟩ : ∃ W9, W9 = setL w1 (w.heap.size + 1 + 1) 1 [.int .i64 X.set.wt, .int .i64 X.set.tr, .slice b1 l1 d1] := ⟨_, rfl⟩
 have G1 : Hid (GF w W1 30 (xfL X a1 l1 c1 a2 l2 c2 a3 l3 c3).toArray 41 z251 (#[.int .i64 X.nw, .int .i64 X.set.wt, .int .i64 X.set.tr, .slice b1 l1 d1, .int .i64 0, .slice none 0 0, .slice none 0 0, .int .i64 0, .int .i64 0, .int .i64 0, .int .i64 0] : Array Value) ((w.heap.size + 1 + 1 + 1) <= W1.heap.size /\ Rd W1 (w.heap.size + 1 + 1 + 1) (.list 7 X.set.n (fun i => trs (xrT (X.set.f i)))) (.slice b1 l1 d1))) := by
  have hg : w1.grownBy W1 (some (w.heap.size + 1 + 1)) := by rw [hW1]; exact setL_gw _ _ _
  have hs9 := G0.out.2.2.2.2
  have hs8 := hb1.size
  have hs7 := hg.size
  refine ⟨by rw [hW1]; exact setL_below (by omega) _ _ _ (bel_nx G0.out.1 hb1), by rw [hW1]; exact Blk.stNe (by omega) _ _ (G0.out.2.1.below hb1), by rw [hW1]; exact Blk.stNe (by omega) _ _ (G0.out.2.2.1.below hb1), stO hW1 O1, by omega, (q1.mono hs9).kept hg (by omega)⟩
 have hX1 : W1 = (((w1.setCell ⟨w.heap.size + 1 + 1, 1, none⟩ (.int .i64 X.set.wt)).setCell ⟨w.heap.size + 1 + 1, 2, none⟩ (.int .i64 X.set.tr)).setCell ⟨w.heap.size + 1 + 1, 3, none⟩ (.slice b1 l1 d1)) := by rw [hW1]; simp only [setL, Nat.reduceAdd, Nat.zero_add]
 clear O1 hb1 hW1 q1
 go_upto_region 4 with fail
 rw [<- hX1]
 clear hX1 zf z0 z1 z2 z3 z4 z5 z6 z7 z8 z9 z10 zg1 zg2 zg3
 obtain ⟨⟨y0, y1, y2, y3, y4, y5, y6, y7, y8, y9, y10⟩, yf⟩ := G1.out.2.1.tc11
 clear yf
 go_wp2_with fail
 refine (toTable_t X.op a2 l2 c2 _ (HR.out.2.1.below G1.out.1) HZ.out.2.1).mono ?_
 rintro e w2 ⟨b2, d2, rfl, q2, hb2⟩
 clear y0 y1 y2 y3 y4 y5 y6 y7 y8 y9 y10
 have O2 := (G1.out.2.2.2.1.below hb2)
 obtain ⟨⟨z0, z1, z2, z3, z4, z5, z6, z7, z8, z9, z10⟩, zf⟩ := O2.tc11
 have zg4 := zf 4
 have zg5 := zf 5
 obtain ⟨W2, hW2⟩ : ∃ W9, W9 = setL w2 (w.heap.size + 1 + 1) 4 [.int .i64 X.op.nx, .slice b2 l2 d2] := ⟨_, rfl⟩
 have G2 : Hid (GF w W2 30 (xfL X a1 l1 c1 a2 l2 c2 a3 l3 c3).toArray 41 z251 (#[.int .i64 X.nw, .int .i64 X.set.wt, .int .i64 X.set.tr, .slice b1 l1 d1, .int .i64 X.op.nx, .slice b2 l2 d2, .slice none 0 0, .int .i64 0, .int .i64 0, .int .i64 0, .int .i64 0] : Array Value) ((w.heap.size + 1 + 1 + 1) <= W2.heap.size /\ Rd W2 (w.heap.size + 1 + 1 + 1) (.list 7 X.set.n (fun i => trs (xrT (X.set.f i)))) (.slice b1 l1 d1) /\ Rd W2 (w.heap.size + 1 + 1 + 1) (.list 13 X.op.m (fun i => trs (dT (X.op.f i)))) (.slice b2 l2 d2))) := by
  have hg : w2.grownBy W2 (some (w.heap.size + 1 + 1)) := by rw [hW2]; exact setL_gw _ _ _
  have hs9 := G1.out.2.2.2.2.1
  have hs8 := hb2.size
  have hs7 := hg.size
  refine ⟨by rw [hW2]; exact setL_below (by omega) _ _ _ (bel_nx G1.out.1 hb2), by rw [hW2]; exact Blk.stNe (by omega) _ _ (G1.out.2.1.below hb2), by rw [hW2]; exact Blk.stNe (by omega) _ _ (G1.out.2.2.1.below hb2), stO hW2 O2, by omega, (G1.out.2.2.2.2.2.below hb2).kept hg (by omega), (q2.mono hs9).kept hg (by omega)⟩
 have hX2 : W2 = ((w2.setCell ⟨w.heap.size + 1 + 1, 4, none⟩ (.int .i64 X.op.nx)).setCell ⟨w.heap.size + 1 + 1, 5, none⟩ (.slice b2 l2 d2)) := by rw [hW2]; simp only [setL, Nat.reduceAdd, Nat.zero_add]
 clear O2 hb2 hW2 q2
 go_upto_region 5 with fail
 rw [<- hX2]
 clear hX2 zf z0 z1 z2 z3 z4 z5 z6 z7 z8 z9 z10 zg4 zg5
 obtain ⟨⟨y0, y1, y2, y3, y4, y5, y6, y7, y8, y9, y10⟩, yf⟩ := G2.out.2.1.tc11
 clear yf
 go_wp2_with fail
 refine (toLineS_t X.nl X.lf a3 l3 c3 _ (HR.out.2.2.below G2.out.1) HZ.out.2.2).mono ?_
 rintro e w3 ⟨b3, d3, rfl, q3, hb3⟩
 clear y0 y1 y2 y3 y4 y5 y6 y7 y8 y9 y10
 have O3 := (G2.out.2.2.2.1.below hb3)
 obtain ⟨⟨z0, z1, z2, z3, z4, z5, z6, z7, z8, z9, z10⟩, zf⟩ := O3.tc11
 have zg6 := zf 6
 obtain ⟨W3, hW3⟩ : ∃ W9, W9 = setL w3 (w.heap.size + 1 + 1) 6 [.slice b3 l3 d3] := ⟨_, rfl⟩
 have G3 : Hid (GF w W3 30 (xfL X a1 l1 c1 a2 l2 c2 a3 l3 c3).toArray 41 z251 (#[.int .i64 X.nw, .int .i64 X.set.wt, .int .i64 X.set.tr, .slice b1 l1 d1, .int .i64 X.op.nx, .slice b2 l2 d2, .slice b3 l3 d3, .int .i64 0, .int .i64 0, .int .i64 0, .int .i64 0] : Array Value) ((w.heap.size + 1 + 1 + 1) <= W3.heap.size /\ Rd W3 (w.heap.size + 1 + 1 + 1) (.list 7 X.set.n (fun i => trs (xrT (X.set.f i)))) (.slice b1 l1 d1) /\ Rd W3 (w.heap.size + 1 + 1 + 1) (.list 13 X.op.m (fun i => trs (dT (X.op.f i)))) (.slice b2 l2 d2) /\ Rd W3 (w.heap.size + 1 + 1 + 1) (.list 17 X.nl (fun i => trs (xnT (X.lf i)))) (.slice b3 l3 d3))) := by
  have hg : w3.grownBy W3 (some (w.heap.size + 1 + 1)) := by rw [hW3]; exact setL_gw _ _ _
  have hs9 := G2.out.2.2.2.2.1
  have hs8 := hb3.size
  have hs7 := hg.size
  refine ⟨by rw [hW3]; exact setL_below (by omega) _ _ _ (bel_nx G2.out.1 hb3), by rw [hW3]; exact Blk.stNe (by omega) _ _ (G2.out.2.1.below hb3), by rw [hW3]; exact Blk.stNe (by omega) _ _ (G2.out.2.2.1.below hb3), stO hW3 O3, by omega, (G2.out.2.2.2.2.2.1.below hb3).kept hg (by omega), (G2.out.2.2.2.2.2.2.below hb3).kept hg (by omega), (q3.mono hs9).kept hg (by omega)⟩
 have hX3 : W3 = (w3.setCell ⟨w.heap.size + 1 + 1, 6, none⟩ (.slice b3 l3 d3)) := by rw [hW3]; simp only [setL, Nat.reduceAdd, Nat.zero_add]
 clear O3 hb3 hW3 q3
 go_upto_region 6 with fail
 rw [<- hX3]
 clear hX3 zf z0 z1 z2 z3 z4 z5 z6 z7 z8 z9 z10 zg6
 obtain ⟨⟨y0, y1, y2, y3, y4, y5, y6, y7, y8, y9, y10⟩, yf⟩ := G3.out.2.1.tc11
 clear yf
 have O4 := G3.out.2.2.2.1
 obtain ⟨⟨z0, z1, z2, z3, z4, z5, z6, z7, z8, z9, z10⟩, zf⟩ := O4.tc11
 have zg7 := zf 7
 obtain ⟨W4, hW4⟩ : ∃ W9, W9 = setL W3 (w.heap.size + 1 + 1) 7 [.int .i64 X.sk] := ⟨_, rfl⟩
 have G4 : Hid (GF w W4 30 (xfL X a1 l1 c1 a2 l2 c2 a3 l3 c3).toArray 41 z251 (#[.int .i64 X.nw, .int .i64 X.set.wt, .int .i64 X.set.tr, .slice b1 l1 d1, .int .i64 X.op.nx, .slice b2 l2 d2, .slice b3 l3 d3, .int .i64 X.sk, .int .i64 0, .int .i64 0, .int .i64 0] : Array Value) ((w.heap.size + 1 + 1 + 1) <= W4.heap.size /\ Rd W4 (w.heap.size + 1 + 1 + 1) (.list 7 X.set.n (fun i => trs (xrT (X.set.f i)))) (.slice b1 l1 d1) /\ Rd W4 (w.heap.size + 1 + 1 + 1) (.list 13 X.op.m (fun i => trs (dT (X.op.f i)))) (.slice b2 l2 d2) /\ Rd W4 (w.heap.size + 1 + 1 + 1) (.list 17 X.nl (fun i => trs (xnT (X.lf i)))) (.slice b3 l3 d3))) := by
  have hg : W3.grownBy W4 (some (w.heap.size + 1 + 1)) := by rw [hW4]; exact setL_gw _ _ _
  have hs9 := G3.out.2.2.2.2.1
  have hs7 := hg.size
  refine ⟨by rw [hW4]; exact setL_below (by omega) _ _ _ G3.out.1, by rw [hW4]; exact Blk.stNe (by omega) _ _ G3.out.2.1, by rw [hW4]; exact Blk.stNe (by omega) _ _ G3.out.2.2.1, stO hW4 O4, by omega, G3.out.2.2.2.2.2.1.kept hg (by omega), G3.out.2.2.2.2.2.2.1.kept hg (by omega), G3.out.2.2.2.2.2.2.2.kept hg (by omega)⟩
 have hX4 : W4 = (W3.setCell ⟨w.heap.size + 1 + 1, 7, none⟩ (.int .i64 X.sk)) := by rw [hW4]; simp only [setL, Nat.reduceAdd, Nat.zero_add]
 clear O4 hW4
 go_upto_region 7 with fail
 rw [<- hX4]
 clear hX4 zf z0 z1 z2 z3 z4 z5 z6 z7 z8 z9 z10 zg7 y0 y1 y2 y3 y4 y5 y6 y7 y8 y9 y10
 obtain ⟨⟨y0, y1, y2, y3, y4, y5, y6, y7, y8, y9, y10⟩, yf⟩ := G4.out.2.1.tc11
 clear yf
 have O5 := G4.out.2.2.2.1
 obtain ⟨⟨z0, z1, z2, z3, z4, z5, z6, z7, z8, z9, z10⟩, zf⟩ := O5.tc11
 have zg8 := zf 8
 obtain ⟨W5, hW5⟩ : ∃ W9, W9 = setL W4 (w.heap.size + 1 + 1) 8 [.int .i64 X.re] := ⟨_, rfl⟩
 have G5 : Hid (GF w W5 30 (xfL X a1 l1 c1 a2 l2 c2 a3 l3 c3).toArray 41 z251 (#[.int .i64 X.nw, .int .i64 X.set.wt, .int .i64 X.set.tr, .slice b1 l1 d1, .int .i64 X.op.nx, .slice b2 l2 d2, .slice b3 l3 d3, .int .i64 X.sk, .int .i64 X.re, .int .i64 0, .int .i64 0] : Array Value) ((w.heap.size + 1 + 1 + 1) <= W5.heap.size /\ Rd W5 (w.heap.size + 1 + 1 + 1) (.list 7 X.set.n (fun i => trs (xrT (X.set.f i)))) (.slice b1 l1 d1) /\ Rd W5 (w.heap.size + 1 + 1 + 1) (.list 13 X.op.m (fun i => trs (dT (X.op.f i)))) (.slice b2 l2 d2) /\ Rd W5 (w.heap.size + 1 + 1 + 1) (.list 17 X.nl (fun i => trs (xnT (X.lf i)))) (.slice b3 l3 d3))) := by
  have hg : W4.grownBy W5 (some (w.heap.size + 1 + 1)) := by rw [hW5]; exact setL_gw _ _ _
  have hs9 := G4.out.2.2.2.2.1
  have hs7 := hg.size
  refine ⟨by rw [hW5]; exact setL_below (by omega) _ _ _ G4.out.1, by rw [hW5]; exact Blk.stNe (by omega) _ _ G4.out.2.1, by rw [hW5]; exact Blk.stNe (by omega) _ _ G4.out.2.2.1, stO hW5 O5, by omega, G4.out.2.2.2.2.2.1.kept hg (by omega), G4.out.2.2.2.2.2.2.1.kept hg (by omega), G4.out.2.2.2.2.2.2.2.kept hg (by omega)⟩
 have hX5 : W5 = (W4.setCell ⟨w.heap.size + 1 + 1, 8, none⟩ (.int .i64 X.re)) := by rw [hW5]; simp only [setL, Nat.reduceAdd, Nat.zero_add]
 clear O5 hW5
 go_upto_region 8 with fail
 rw [<- hX5]
 clear hX5 zf z0 z1 z2 z3 z4 z5 z6 z7 z8 z9 z10 zg8 y0 y1 y2 y3 y4 y5 y6 y7 y8 y9 y10
 obtain ⟨⟨y0, y1, y2, y3, y4, y5, y6, y7, y8, y9, y10⟩, yf⟩ := G5.out.2.1.tc11
 clear yf
 have O6 := G5.out.2.2.2.1
 obtain ⟨⟨z0, z1, z2, z3, z4, z5, z6, z7, z8, z9, z10⟩, zf⟩ := O6.tc11
 have zg9 := zf 9
 obtain ⟨W6, hW6⟩ : ∃ W9, W9 = setL W5 (w.heap.size + 1 + 1) 9 [.int .i64 X.fa] := ⟨_, rfl⟩
 have G6 : Hid (GF w W6 30 (xfL X a1 l1 c1 a2 l2 c2 a3 l3 c3).toArray 41 z251 (#[.int .i64 X.nw, .int .i64 X.set.wt, .int .i64 X.set.tr, .slice b1 l1 d1, .int .i64 X.op.nx, .slice b2 l2 d2, .slice b3 l3 d3, .int .i64 X.sk, .int .i64 X.re, .int .i64 X.fa, .int .i64 0] : Array Value) ((w.heap.size + 1 + 1 + 1) <= W6.heap.size /\ Rd W6 (w.heap.size + 1 + 1 + 1) (.list 7 X.set.n (fun i => trs (xrT (X.set.f i)))) (.slice b1 l1 d1) /\ Rd W6 (w.heap.size + 1 + 1 + 1) (.list 13 X.op.m (fun i => trs (dT (X.op.f i)))) (.slice b2 l2 d2) /\ Rd W6 (w.heap.size + 1 + 1 + 1) (.list 17 X.nl (fun i => trs (xnT (X.lf i)))) (.slice b3 l3 d3))) := by
  have hg : W5.grownBy W6 (some (w.heap.size + 1 + 1)) := by rw [hW6]; exact setL_gw _ _ _
  have hs9 := G5.out.2.2.2.2.1
  have hs7 := hg.size
  refine ⟨by rw [hW6]; exact setL_below (by omega) _ _ _ G5.out.1, by rw [hW6]; exact Blk.stNe (by omega) _ _ G5.out.2.1, by rw [hW6]; exact Blk.stNe (by omega) _ _ G5.out.2.2.1, stO hW6 O6, by omega, G5.out.2.2.2.2.2.1.kept hg (by omega), G5.out.2.2.2.2.2.2.1.kept hg (by omega), G5.out.2.2.2.2.2.2.2.kept hg (by omega)⟩
 have hX6 : W6 = (W5.setCell ⟨w.heap.size + 1 + 1, 9, none⟩ (.int .i64 X.fa)) := by rw [hW6]; simp only [setL, Nat.reduceAdd, Nat.zero_add]
 clear O6 hW6
 go_upto_region 9 with fail
 rw [<- hX6]
 clear hX6 zf z0 z1 z2 z3 z4 z5 z6 z7 z8 z9 z10 zg9 y0 y1 y2 y3 y4 y5 y6 y7 y8 y9 y10
 obtain ⟨⟨y0, y1, y2, y3, y4, y5, y6, y7, y8, y9, y10⟩, yf⟩ := G6.out.2.1.tc11
 clear yf
 have O7 := G6.out.2.2.2.1
 obtain ⟨⟨z0, z1, z2, z3, z4, z5, z6, z7, z8, z9, z10⟩, zf⟩ := O7.tc11
 have zg10 := zf 10
 obtain ⟨W7, hW7⟩ : ∃ W9, W9 = setL W6 (w.heap.size + 1 + 1) 10 [.int .i64 X.se] := ⟨_, rfl⟩
 have G7 : Hid (GF w W7 30 (xfL X a1 l1 c1 a2 l2 c2 a3 l3 c3).toArray 41 z251 (#[.int .i64 X.nw, .int .i64 X.set.wt, .int .i64 X.set.tr, .slice b1 l1 d1, .int .i64 X.op.nx, .slice b2 l2 d2, .slice b3 l3 d3, .int .i64 X.sk, .int .i64 X.re, .int .i64 X.fa, .int .i64 X.se] : Array Value) ((w.heap.size + 1 + 1 + 1) <= W7.heap.size /\ Rd W7 (w.heap.size + 1 + 1 + 1) (.list 7 X.set.n (fun i => trs (xrT (X.set.f i)))) (.slice b1 l1 d1) /\ Rd W7 (w.heap.size + 1 + 1 + 1) (.list 13 X.op.m (fun i => trs (dT (X.op.f i)))) (.slice b2 l2 d2) /\ Rd W7 (w.heap.size + 1 + 1 + 1) (.list 17 X.nl (fun i => trs (xnT (X.lf i)))) (.slice b3 l3 d3))) := by
  have hg : W6.grownBy W7 (some (w.heap.size + 1 + 1)) := by rw [hW7]; exact setL_gw _ _ _
  have hs9 := G6.out.2.2.2.2.1
  have hs7 := hg.size
  refine ⟨by rw [hW7]; exact setL_below (by omega) _ _ _ G6.out.1, by rw [hW7]; exact Blk.stNe (by omega) _ _ G6.out.2.1, by rw [hW7]; exact Blk.stNe (by omega) _ _ G6.out.2.2.1, stO hW7 O7, by omega, G6.out.2.2.2.2.2.1.kept hg (by omega), G6.out.2.2.2.2.2.2.1.kept hg (by omega), G6.out.2.2.2.2.2.2.2.kept hg (by omega)⟩
 have hX7 : W7 = (W6.setCell ⟨w.heap.size + 1 + 1, 10, none⟩ (.int .i64 X.se)) := by rw [hW7]; simp only [setL, Nat.reduceAdd, Nat.zero_add]
 clear O7 hW7
 go_upto_region 10 with fail
 rw [<- hX7]
 clear hX7 zf z0 z1 z2 z3 z4 z5 z6 z7 z8 z9 z10 zg10 y0 y1 y2 y3 y4 y5 y6 y7 y8 y9 y10
 obtain ⟨Wz, hWz⟩ : ∃ Wz, Wz = setL W7 (w.heap.size + 1) 0 (xfL X b1 l1 d1 b2 l2 d2 b3 l3 d3) := ⟨_, rfl⟩
 have H9 : Hid (Rd Wz w.heap.size (.list 7 X.set.n (fun i => trs (xrT (X.set.f i)))) (.slice b1 l1 d1) /\ Rd Wz w.heap.size (.list 13 X.op.m (fun i => trs (dT (X.op.f i)))) (.slice b2 l2 d2) /\ Rd Wz w.heap.size (.list 17 X.nl (fun i => trs (xnT (X.lf i)))) (.slice b3 l3 d3) /\ Below w.heap.size w Wz /\ Blk Wz (w.heap.size + 1) 41 (xfL X b1 l1 d1 b2 l2 d2 b3 l3 d3).toArray) := by
  have hg : W7.grownBy Wz (some (w.heap.size + 1)) := by rw [hWz]; exact setL_gw _ _ _
  exact ⟨((G7.out.2.2.2.2.2.1).kept hg (by omega)).mono (by omega), ((G7.out.2.2.2.2.2.2.1).kept hg (by omega)).mono (by omega), ((G7.out.2.2.2.2.2.2.2).kept hg (by omega)).mono (by omega), by rw [hWz]; exact setL_below (by omega) _ _ _ G7.out.1, by rw [hWz, show (xfL X b1 l1 d1 b2 l2 d2 b3 l3 d3).toArray = wrA (#[.int .i64 0, .int .i64 0, .int .i64 0, .slice none 0 0, .int .i64 0, .slice none 0 0, .slice none 0 0, .int .i64 0, .int .i64 0, .int .i64 0, .int .i64 0] : Array Value) 0 (xfL X b1 l1 d1 b2 l2 d2 b3 l3 d3) from (by simp [wrA])]; exact Blk.stL _ _ G7.out.2.2.1⟩
 have hr := G7.out.2.2.2.1.all
 have ht := G7.out.2.2.1.there 0 11 (by simp)
 clear G7
 refine wp_region_lit ?_
 refine wpList_load_mid rfl 41 (.tmp 3) rfl (w.heap.size + 1 + 1) 0 rfl (xfL X b1 l1 d1 b2 l2 d2 b3 l3 d3) _ hr underlying41 rfl (by kernel_rfl) ?_
 refine wpList_store_mid rfl 41 (.tmp 2) (.tmp 31) rfl (w.heap.size + 1) 0 (xfL X b1 l1 d1 b2 l2 d2 b3 l3 d3).toArray rfl rfl ht (by kernel_rfl) (by simp [Value.oneCell']) ?_
 rw [setCells_L, <- hWz]
 clear hWz hr ht
 refine wpList_nil ?_
 go_wp2
 obtain ⟨⟨y0, y1, y2, y3, y4, y5, y6, y7, y8, y9, y10⟩, yf⟩ := H9.out.2.2.2.2.tc11
 refine bodyPost_ret (v := .agg (xfL X b1 l1 d1 b2 l2 d2 b3 l3 d3).toArray) (by simp [results, results10, go_sem, y0, y1, y2, y3, y4, y5, y6, y7, y8, y9, y10]) rfl ⟨b1, d1, b2, d2, b3, d3, rfl, H9.out.1, H9.out.2.1, H9.out.2.2.1, H9.out.2.2.2.1⟩
end Go.Proofs.YtplaoagcedgdfaaGreat
