/- Texts that the proof needs, joined: Tr6 Cz1 Bits PutWord1. -/
import Derived.Test.YtlhjiiifmfgnoaaGreatV3
import Derived.Test.YtlhjiiifmfgnoaaGreatV1
import Derived.Deep.RegionWith
import Derived.WalkKit
set_option linter.unusedVariables false
set_option linter.unusedSimpArgs false
set_option maxHeartbeats 4000000
set_option maxRecDepth 20000
namespace Go.Proofs.YtlhjiiifmfgnoaaGreat
open Go.RowKit Go.Joins
theorem toBoolS_m (ws : List Bool) (a : Option Addr) (l c : Nat) (w : World) (r : Rd w 0 (boolsT ws) (.slice a l c)) (hz : ws.length <= 1048576) :
 Calls Tryz.prog 30 #[.slice a l c] w fun e w' => ∃ b d, e = .returned (.slice b l d) /\ OwnS w' w.heap.size (boolsT ws) (.slice b l d) /\ Below w.heap.size w w' := by
 obtain ⟨a9, c9, h9, -, hm, hs⟩ := r.bools
 simp only [Value.slice.injEq] at h9
 obtain ⟨rfl, rfl, rfl⟩ := h9
 refine (toBoolS_ok _ _ _ ws w rfl hs (by omega)).mono ?_
 rintro e w' ⟨g, rfl, h1, h2⟩
 obtain ⟨K, k1, k2, k3⟩ := OwnB.fit h1
 exact ⟨_, _, rfl, ⟨K, k1, k2, fun b hb => (k3 b hb).1⟩, h2⟩
theorem toPart_m (X : VP) (a1 : Option Addr) (l1 c1 : Nat) (a2 : Option Addr) (l2 c2 : Nat) (w : World) (r1 : Rd w 0 (intsT X.q.ws) (.slice a1 l1 c1)) (r2 : Rd w 0 (boolsT X.q.bs) (.slice a2 l2 c2)) (hz : szT 8 (trs (pT X)) <= 1048576) :
 Calls Tryz.prog 31 #[.agg (pL X a1 l1 c1 a2 l2 c2).toArray] w fun e w' => ∃ b1 d1 b2 d2, e = .returned (.agg (pL X b1 l1 d1 b2 l2 d2).toArray) /\ Own1 w' w.heap.size w'.heap.size (pT X) (pL X b1 l1 d1 b2 l2 d2) /\ Below w.heap.size w w' := by
 obtain ⟨W, hW⟩ : ∃ W, W = ((w.alloc (.cells (pL X a1 l1 c1 a2 l2 c2).toArray 55)).alloc (.cells #[.int .i64 0, .int .i64 0, .int .i64 0, .int .i64 0, .int .i64 0, .slice none 0 0, .slice none 0 0, .int .i64 0] 68)).alloc (.cells (#[.int .i64 X.p, .int .i64 X.t, .int .i64 0, .int .i64 0, .int .i64 0, .slice none 0 0, .slice none 0 0, .int .i64 0] : Array Value) 68) := ⟨_, rfl⟩
 have bW : Below w.heap.size w W := by rw [hW]; exact bel_nx (bel_nx (bel_alloc w _) (bel_alloc _ _)) (bel_alloc _ _)
 have A0 : Blk W w.heap.size 55 (pL X a1 l1 c1 a2 l2 c2).toArray := by rw [hW]; exact ((Blk.new w _ _).below (bel_alloc _ _)).below (bel_alloc _ _)
 have R0 : Blk W (w.heap.size + 1) 68 #[.int .i64 0, .int .i64 0, .int .i64 0, .int .i64 0, .int .i64 0, .slice none 0 0, .slice none 0 0, .int .i64 0] := by
  rw [hW]; have := (Blk.new (w.alloc (.cells (pL X a1 l1 c1 a2 l2 c2).toArray 55)) #[.int .i64 0, .int .i64 0, .int .i64 0, .int .i64 0, .int .i64 0, .slice none 0 0, .slice none 0 0, .int .i64 0] 68).below (bel_alloc _ (.cells (#[.int .i64 X.p, .int .i64 X.t, .int .i64 0, .int .i64 0, .int .i64 0, .slice none 0 0, .slice none 0 0, .int .i64 0] : Array Value) 68)); simpa using this
 have O0 : Blk W (w.heap.size + 1 + 1) 68 (#[.int .i64 X.p, .int .i64 X.t, .int .i64 0, .int .i64 0, .int .i64 0, .slice none 0 0, .slice none 0 0, .int .i64 0] : Array Value) := by
  rw [hW]; have := Blk.new ((w.alloc (.cells (pL X a1 l1 c1 a2 l2 c2).toArray 55)).alloc (.cells #[.int .i64 0, .int .i64 0, .int .i64 0, .int .i64 0, .int .i64 0, .slice none 0 0, .slice none 0 0, .int .i64 0] 68)) (#[.int .i64 X.p, .int .i64 X.t, .int .i64 0, .int .i64 0, .int .i64 0, .slice none 0 0, .slice none 0 0, .int .i64 0] : Array Value) 68; simpa using this
 have hs0 : W.heap.size = (w.heap.size + 1 + 1 + 1) := by rw [hW]; simp
 have HZ : Hid (szT 6 (trs (qT X.q)) <= 1048576) := by
  rw [szT_p] at hz
  show szT 6 (trs (qT X.q)) <= 1048576
  try simp only [szT_q, szT_a, szT_p, szT_d, szT_t, true_and]
  omega
 have HR : Hid (Rd w 0 (intsT X.q.ws) (.slice a1 l1 c1) /\ Rd w 0 (boolsT X.q.bs) (.slice a2 l2 c2)) := ⟨r1, r2⟩
 have G0 : Hid (Below w.heap.size w W /\ Blk W w.heap.size 55 (pL X a1 l1 c1 a2 l2 c2).toArray /\ Blk W (w.heap.size + 1) 68 #[.int .i64 0, .int .i64 0, .int .i64 0, .int .i64 0, .int .i64 0, .slice none 0 0, .slice none 0 0, .int .i64 0] /\ Blk W (w.heap.size + 1 + 1) 68 (#[.int .i64 X.p, .int .i64 X.t, .int .i64 0, .int .i64 0, .int .i64 0, .slice none 0 0, .slice none 0 0, .int .i64 0] : Array Value) /\ (w.heap.size + 1 + 1 + 1) <= W.heap.size /\ Own1 W (w.heap.size + 1 + 1 + 1) W.heap.size ([]) ([])) := ⟨bW, A0, R0, O0, by omega, Own1.nil _ _ _⟩
 clear bW A0 R0 O0 hs0 hz r1 r2
 go_enter Tryz.func31, Tryz.ntmps31
 go_upto_region 4 with fail
 rw [<- hW]
 clear hW
 obtain ⟨⟨y0, y1, y2, y3, y4, y5, y6, y7⟩, yf⟩ := G0.out.2.1.tc8
 clear yf
 go_wp2_with fail
 refine (toReq_m X.q a1 l1 c1 a2 l2 c2 _ (HR.out.1.below G0.out.1) (HR.out.2.below G0.out.1) HZ.out).mono ?_
 rintro e w1 ⟨b1, d1, b2, d2, rfl, q, hb1⟩
 clear y0 y1 y2 y3 y4 y5 y6 y7
 have O1 := G0.out.2.2.2.1.below hb1
 obtain ⟨⟨z0, z1, z2, z3, z4, z5, z6, z7⟩, zf⟩ := O1.tc8
 have zg2 := zf 2
 have zg3 := zf 3
 have zg4 := zf 4
 have zg5 := zf 5
 have zg6 := zf 6
 have zg7 := zf 7
 obtain ⟨W1, hW1⟩ : ∃ W9, W9 = setL w1 (w.heap.size + 1 + 1) 2 [.int .i64 X.q.kd, .int .i64 X.q.pl, .int .i64 X.q.n, .slice b1 l1 d1, .slice b2 l2 d2, .int .i64 X.q.wa] := ⟨_, rfl⟩
 have G1 : Hid (Below w.heap.size w W1 /\ Blk W1 w.heap.size 55 (pL X a1 l1 c1 a2 l2 c2).toArray /\ Blk W1 (w.heap.size + 1) 68 #[.int .i64 0, .int .i64 0, .int .i64 0, .int .i64 0, .int .i64 0, .slice none 0 0, .slice none 0 0, .int .i64 0] /\ Blk W1 (w.heap.size + 1 + 1) 68 (#[.int .i64 X.p, .int .i64 X.t, .int .i64 X.q.kd, .int .i64 X.q.pl, .int .i64 X.q.n, .slice b1 l1 d1, .slice b2 l2 d2, .int .i64 X.q.wa] : Array Value) /\ (w.heap.size + 1 + 1 + 1) <= W1.heap.size /\ Own1 W1 (w.heap.size + 1 + 1 + 1) W1.heap.size ([] ++ (qT X.q)) ([] ++ (qL X.q b1 l1 d1 b2 l2 d2))) := by
  have hg : w1.grownBy W1 (some (w.heap.size + 1 + 1)) := by rw [hW1]; exact setL_gw _ _ _
  have hs9 := G0.out.2.2.2.2.1
  have hs8 := hb1.size
  have hs7 := hg.size
  refine ⟨by rw [hW1]; exact setL_below (by omega) _ _ _ (bel_nx G0.out.1 hb1), by rw [hW1]; exact Blk.stNe (by omega) _ _ (G0.out.2.1.below hb1), by rw [hW1]; exact Blk.stNe (by omega) _ _ (G0.out.2.2.1.below hb1), by rw [hW1, show (#[.int .i64 X.p, .int .i64 X.t, .int .i64 X.q.kd, .int .i64 X.q.pl, .int .i64 X.q.n, .slice b1 l1 d1, .slice b2 l2 d2, .int .i64 X.q.wa] : Array Value) = wrA (#[.int .i64 X.p, .int .i64 X.t, .int .i64 0, .int .i64 0, .int .i64 0, .slice none 0 0, .slice none 0 0, .int .i64 0] : Array Value) 2 [.int .i64 X.q.kd, .int .i64 X.q.pl, .int .i64 X.q.n, .slice b1 l1 d1, .slice b2 l2 d2, .int .i64 X.q.wa] from (by simp [wrA])]; exact Blk.stL _ _ O1, by omega, G0.out.2.2.2.2.2.next hb1 q hg (by omega) hs9⟩
 have hX1 : W1 = ((((((w1.setCell ⟨w.heap.size + 1 + 1, 2, none⟩ (.int .i64 X.q.kd)).setCell ⟨w.heap.size + 1 + 1, 3, none⟩ (.int .i64 X.q.pl)).setCell ⟨w.heap.size + 1 + 1, 4, none⟩ (.int .i64 X.q.n)).setCell ⟨w.heap.size + 1 + 1, 5, none⟩ (.slice b1 l1 d1)).setCell ⟨w.heap.size + 1 + 1, 6, none⟩ (.slice b2 l2 d2)).setCell ⟨w.heap.size + 1 + 1, 7, none⟩ (.int .i64 X.q.wa)) := by rw [hW1]; simp only [setL, Nat.reduceAdd, Nat.zero_add]
 clear O1 hb1 hW1 q
 go_upto_region 5 with fail
 rw [<- hX1]
 clear hX1 zf z0 z1 z2 z3 z4 z5 z6 z7 zg2 zg3 zg4 zg5 zg6 zg7
 obtain ⟨W9, hW9⟩ : ∃ W9, W9 = setL W1 (w.heap.size + 1) 0 (pL X b1 l1 d1 b2 l2 d2) := ⟨_, rfl⟩
 have H9 : Hid (Own1 W9 w.heap.size W9.heap.size (pT X) (pL X b1 l1 d1 b2 l2 d2) /\ Below w.heap.size w W9 /\ Blk W9 (w.heap.size + 1) 68 (pL X b1 l1 d1 b2 l2 d2).toArray) := by
  have hg : W1.grownBy W9 (some (w.heap.size + 1)) := by rw [hW9]; exact setL_gw _ _ _
  have hs9 := G1.out.2.2.2.2.1
  have hs7 := hg.size
  exact ⟨(Own1.leaf (.int .i64 X.p) (Own1.leaf (.int .i64 X.t) ((G1.out.2.2.2.2.2.kept hg (by omega) (Nat.le_refl _)).mono (lo' := w.heap.size) (by omega) hs7) (by omega)) (by omega)), by rw [hW9]; exact setL_below (by omega) _ _ _ G1.out.1, by rw [hW9, show (pL X b1 l1 d1 b2 l2 d2).toArray = wrA (#[.int .i64 0, .int .i64 0, .int .i64 0, .int .i64 0, .int .i64 0, .slice none 0 0, .slice none 0 0, .int .i64 0] : Array Value) 0 (pL X b1 l1 d1 b2 l2 d2) from (by simp [wrA])]; exact Blk.stL _ _ G1.out.2.2.1⟩
 have hr := G1.out.2.2.2.1.all
 have ht := G1.out.2.2.1.there 0 8 (by simp)
 clear G1
 refine wp_region_lit ?_
 refine wpList_load_mid rfl 68 (.tmp 3) rfl (w.heap.size + 1 + 1) 0 rfl (pL X b1 l1 d1 b2 l2 d2) _ hr Tryz.underlying68 rfl (by kernel_rfl) ?_
 refine wpList_store_mid rfl 68 (.tmp 2) (.tmp 14) rfl (w.heap.size + 1) 0 (pL X b1 l1 d1 b2 l2 d2).toArray rfl rfl ht (by kernel_rfl) (by simp [Value.oneCell']) ?_
 rw [setCells_L, <- hW9]
 clear hW9 hr ht
 refine wpList_nil ?_
 go_wp2
 obtain ⟨⟨y0, y1, y2, y3, y4, y5, y6, y7⟩, yf⟩ := H9.out.2.2.tc8
 refine bodyPost_ret (v := .agg (pL X b1 l1 d1 b2 l2 d2).toArray) (by simp [results, Tryz.results31, go_sem, y0, y1, y2, y3, y4, y5, y6, y7]) rfl ⟨b1, d1, b2, d2, rfl, H9.out.1, H9.out.2.1⟩
theorem toPartS_m (n : Nat) (f : Nat -> VP) (a : Option Addr) (n' cap : Nat) (w : World) (hs : Rd w 0 (.list 8 n (fun k => trs (pT (f k)))) (.slice a n' cap)) (hz : (Tr.list 8 n (fun k => trs (pT (f k)))).sz <= 1048576) :
 Calls Tryz.prog 10 #[.slice a n' cap] w fun e w' => ∃ b d, e = .returned (.slice b n' d) /\ OwnS w' w.heap.size (.list 8 n (fun k => trs (pT (f k)))) (.slice b n' d) /\ Below w.heap.size w w' := by
 obtain ⟨a9, c9, h9, -, hn⟩ := hs.shape
 simp only [Value.slice.injEq] at h9
 obtain ⟨-, rfl, -⟩ := h9
 clear a9 c9
 have hn1 : n' <= 1048576 := by rw [Tr.sz_list] at hz; omega
 have HZ : Hid (∀ k, k < n' -> szT 8 (trs (pT (f k))) <= 1048576) := by
  show ∀ k, k < n' -> szT 8 (trs (pT (f k))) <= 1048576
  intro k hk
  rw [Tr.sz_list] at hz
  have := sumN_at (fun k => szT 8 (trs (pT (f k)))) hk
  omega
 have hmk := run_make_st (P := Tryz.prog) 41 68 (.agg #[.int .i64 0, .int .i64 0, .int .i64 0, .int .i64 0, .int .i64 0, .slice none 0 0, .slice none 0 0, .int .i64 0]) 8 96 Tryz.underlying41 (by kernel_rfl) .i64 .i64 n' (by omega) (by omega)
 have HS : Hid (Rd w 0 (.list 8 n' (fun k => trs (pT (f k)))) (.slice a n' cap) /\ n' <= maxLen) := ⟨hs, hn⟩
 clear hs hz hn
 go_enter Tryz.func10, Tryz.ntmps10
 go_wp2
 clear hmk
 go_loopw [4] (fun i wr => ∃ (k : Nat), k <= n' /\ i = .int .i64 k /\ LsI wr w.heap.size 68 8 n' (fun i => pT (f i)) k /\ Below w.heap.size w wr) (fun i _ => n' - (intOf i).toNat)
 case atStart => exact ⟨0, Nat.zero_le _, rfl, LsI.start (RowS.made w (#[.int .i64 0, .int .i64 0, .int .i64 0, .int .i64 0, .int .i64 0, .slice none 0 0, .slice none 0 0, .int .i64 0]).toList n' _ (by simp)), (Below.refl _ _).alloc (Nat.le_refl _) _⟩
 case round =>
  obtain ⟨k, hk, rfl, hrow, hb⟩ := hrel
  by_cases hlt : k < n'
  ·have hi : (k : Int) < (n' : Int) := by omega
   obtain ⟨b, off, vs, rfl, _, hb0, hlen, hr, hrd⟩ := (HS.out.1.below hb).at hlt
   obtain ⟨a1, c1, a2, c2, rfl, r1, r2⟩ := VP.cells hrd hlen
   clear hlen hrd
   have d09 : wr.cell? ⟨b, off + k * 8, none⟩ = _ := hr 0 _ rfl
   have d19 : wr.cell? ⟨b, off + k * 8 + 1, none⟩ = _ := hr 1 _ rfl
   have d29 : wr.cell? ⟨b, off + k * 8 + 2, none⟩ = _ := hr 2 _ rfl
   have d39 : wr.cell? ⟨b, off + k * 8 + 3, none⟩ = _ := hr 3 _ rfl
   have d49 : wr.cell? ⟨b, off + k * 8 + 4, none⟩ = _ := hr 4 _ rfl
   have d59 : wr.cell? ⟨b, off + k * 8 + 5, none⟩ = _ := hr 5 _ rfl
   have d69 : wr.cell? ⟨b, off + k * 8 + 6, none⟩ = _ := hr 6 _ rfl
   have d79 : wr.cell? ⟨b, off + k * 8 + 7, none⟩ = _ := hr 7 _ rfl
   have HK : Hid (LsI wr w.heap.size 68 8 n' (fun i => pT (f i)) k /\ True /\ Below w.heap.size w wr /\ Rd wr 0 (intsT (f k).q.ws) (.slice a1 ((f k).q.ws.length) c1) /\ Rd wr 0 (boolsT (f k).q.bs) (.slice a2 ((f k).q.bs.length) c2)) := ⟨hrow, trivial, hb, r1, r2⟩
   clear hrow hb hr hb0 r1 r2
   go_wp2_with fail
   refine (toPart_m (f k) a1 ((f k).q.ws.length) c1 a2 ((f k).q.bs.length) c2 _ HK.out.2.2.2.1 HK.out.2.2.2.2 (HZ.out k hlt)).mono ?_
   rintro e w1 ⟨b1, d1, b2, d2, rfl, q1, hb1⟩
   obtain ⟨F1, R1⟩ := (HK.out.1.cg (Cg.ofBelow (S := fun _ => False) hb1) (fun b h => h.elim)).row
   obtain ⟨rx0, ry0⟩ : ∃ v, w1.cell? ⟨w.heap.size, k * 8, none⟩ = some v := R1.ex hlt (j := 0) (by decide)
   obtain ⟨rx1, ry1⟩ : ∃ v, w1.cell? ⟨w.heap.size, k * 8 + 1, none⟩ = some v := R1.ex hlt (j := 1) (by decide)
   obtain ⟨rx2, ry2⟩ : ∃ v, w1.cell? ⟨w.heap.size, k * 8 + 2, none⟩ = some v := R1.ex hlt (j := 2) (by decide)
   obtain ⟨rx3, ry3⟩ : ∃ v, w1.cell? ⟨w.heap.size, k * 8 + 3, none⟩ = some v := R1.ex hlt (j := 3) (by decide)
   obtain ⟨rx4, ry4⟩ : ∃ v, w1.cell? ⟨w.heap.size, k * 8 + 4, none⟩ = some v := R1.ex hlt (j := 4) (by decide)
   obtain ⟨rx5, ry5⟩ : ∃ v, w1.cell? ⟨w.heap.size, k * 8 + 5, none⟩ = some v := R1.ex hlt (j := 5) (by decide)
   obtain ⟨rx6, ry6⟩ : ∃ v, w1.cell? ⟨w.heap.size, k * 8 + 6, none⟩ = some v := R1.ex hlt (j := 6) (by decide)
   obtain ⟨rx7, ry7⟩ : ∃ v, w1.cell? ⟨w.heap.size, k * 8 + 7, none⟩ = some v := R1.ex hlt (j := 7) (by decide)
   obtain ⟨W2, hW2⟩ : ∃ W2, W2 = setL w1 w.heap.size (k * 8) (pL (f k) b1 ((f k).q.ws.length) d1 b2 ((f k).q.bs.length) d2) := ⟨_, rfl⟩
   have H2 : Hid (LsI W2 w.heap.size 68 8 n' (fun i => pT (f i)) (k + 1) /\ Below w.heap.size w W2) := ⟨by rw [hW2]; exact HK.out.1.step (S := fun _ => False) hlt (Cg.ofBelow hb1) (fun b h => h.elim) q1 rfl, by rw [hW2]; exact setL_below (Nat.le_refl _) _ _ _ (bel_nx HK.out.2.2.1 hb1)⟩
   have hW2' : W2 = ((((((((w1.setCell ⟨w.heap.size, k * 8, none⟩ (.int .i64 (f k).p)).setCell ⟨w.heap.size, k * 8 + 1, none⟩ (.int .i64 (f k).t)).setCell ⟨w.heap.size, k * 8 + 2, none⟩ (.int .i64 (f k).q.kd)).setCell ⟨w.heap.size, k * 8 + 3, none⟩ (.int .i64 (f k).q.pl)).setCell ⟨w.heap.size, k * 8 + 4, none⟩ (.int .i64 (f k).q.n)).setCell ⟨w.heap.size, k * 8 + 5, none⟩ (.slice b1 ((f k).q.ws.length) d1)).setCell ⟨w.heap.size, k * 8 + 6, none⟩ (.slice b2 ((f k).q.bs.length) d2)).setCell ⟨w.heap.size, k * 8 + 7, none⟩ (.int .i64 (f k).q.wa)) := by rw [hW2]; simp only [setL, Nat.reduceAdd, Nat.zero_add, Nat.add_zero, Nat.add_assoc]
   have HE : Hid (∀ j, w1.frozen? ⟨w.heap.size, j, none⟩ = false) := R1.fro
   have qf0 := HE.out (k * 8)
   have qf1 := HE.out (k * 8 + 1)
   have qf2 := HE.out (k * 8 + 2)
   have qf3 := HE.out (k * 8 + 3)
   have qf4 := HE.out (k * 8 + 4)
   have qf5 := HE.out (k * 8 + 5)
   have qf6 := HE.out (k * 8 + 6)
   have qf7 := HE.out (k * 8 + 7)
   clear R1 hb1 HK d09 d19 d29 d39 d49 d59 d69 d79 hW2 HE q1
   go_wp2
   rw [<- hW2']
   clear hW2'
   go_roundw
   case rel =>
    exact ⟨k + 1, by omega, by go_num, H2.out.1, H2.out.2⟩
   case measure => simp [intOf]; omega
  have hi : ¬ (k : Int) < (n' : Int) := by omega
  have e9 : k = n' := by omega
  subst e9
  have HR : Hid (LsI wr w.heap.size 68 8 k (fun i => pT (f i)) k /\ Below w.heap.size w wr) := ⟨hrow, hb⟩
  clear hrow hb
  go_wp2
  go_ret
  exact ⟨_, _, rfl, HR.out.1.done (Nat.le_refl _) HS.out.2 (fun _ _ => rfl), HR.out.2⟩
theorem toPend_m (X : VD) (a1 : Option Addr) (l1 c1 : Nat) (a2 : Option Addr) (l2 c2 : Nat) (a3 : Option Addr) (l3 c3 : Nat) (a4 : Option Addr) (l4 c4 : Nat) (a5 : Option Addr) (l5 c5 : Nat) (w : World) (r1 : Rd w 0 (intsT X.q.ws) (.slice a1 l1 c1)) (r2 : Rd w 0 (boolsT X.q.bs) (.slice a2 l2 c2)) (r3 : Rd w 0 (.list 8 X.np (fun i => trs (pT (X.pt i)))) (.slice a3 l3 c3)) (r4 : Rd w 0 (boolsT X.hs) (.slice a4 l4 c4)) (r5 : Rd w 0 (.list 6 X.nt (fun i => trs (aT (X.tl i)))) (.slice a5 l5 c5)) (hz : szT 13 (trs (dT X)) <= 1048576) :
 Calls Tryz.prog 52 #[.agg (dL X a1 l1 c1 a2 l2 c2 a3 l3 c3 a4 l4 c4 a5 l5 c5).toArray] w fun e w' => ∃ b1 d1 b2 d2 b3 d3 b4 d4 b5 d5, e = .returned (.agg (dL X b1 l1 d1 b2 l2 d2 b3 l3 d3 b4 l4 d4 b5 l5 d5).toArray) /\ Own1 w' w.heap.size w'.heap.size (dT X) (dL X b1 l1 d1 b2 l2 d2 b3 l3 d3 b4 l4 d4 b5 l5 d5) /\ Below w.heap.size w w' := by
 obtain ⟨W, hW⟩ : ∃ W, W = ((w.alloc (.cells (dL X a1 l1 c1 a2 l2 c2 a3 l3 c3 a4 l4 c4 a5 l5 c5).toArray 83)).alloc (.cells #[.int .i64 0, .int .i64 0, .int .i64 0, .int .i64 0, .int .i64 0, .int .i64 0, .int .i64 0, .slice none 0 0, .slice none 0 0, .int .i64 0, .slice none 0 0, .slice none 0 0, .slice none 0 0] 61)).alloc (.cells (#[.int .i64 X.id, .int .i64 X.so, .int .i64 X.ta, .int .i64 X.un, .int .i64 0, .int .i64 0, .int .i64 0, .slice none 0 0, .slice none 0 0, .int .i64 0, .slice none 0 0, .slice none 0 0, .slice none 0 0] : Array Value) 61) := ⟨_, rfl⟩
 have bW : Below w.heap.size w W := by rw [hW]; exact bel_nx (bel_nx (bel_alloc w _) (bel_alloc _ _)) (bel_alloc _ _)
 have A0 : Blk W w.heap.size 83 (dL X a1 l1 c1 a2 l2 c2 a3 l3 c3 a4 l4 c4 a5 l5 c5).toArray := by rw [hW]; exact ((Blk.new w _ _).below (bel_alloc _ _)).below (bel_alloc _ _)
 have R0 : Blk W (w.heap.size + 1) 61 #[.int .i64 0, .int .i64 0, .int .i64 0, .int .i64 0, .int .i64 0, .int .i64 0, .int .i64 0, .slice none 0 0, .slice none 0 0, .int .i64 0, .slice none 0 0, .slice none 0 0, .slice none 0 0] := by
  rw [hW]; have := (Blk.new (w.alloc (.cells (dL X a1 l1 c1 a2 l2 c2 a3 l3 c3 a4 l4 c4 a5 l5 c5).toArray 83)) #[.int .i64 0, .int .i64 0, .int .i64 0, .int .i64 0, .int .i64 0, .int .i64 0, .int .i64 0, .slice none 0 0, .slice none 0 0, .int .i64 0, .slice none 0 0, .slice none 0 0, .slice none 0 0] 61).below (bel_alloc _ (.cells (#[.int .i64 X.id, .int .i64 X.so, .int .i64 X.ta, .int .i64 X.un, .int .i64 0, .int .i64 0, .int .i64 0, .slice none 0 0, .slice none 0 0, .int .i64 0, .slice none 0 0, .slice none 0 0, .slice none 0 0] : Array Value) 61)); simpa using this
 have O0 : Blk W (w.heap.size + 1 + 1) 61 (#[.int .i64 X.id, .int .i64 X.so, .int .i64 X.ta, .int .i64 X.un, .int .i64 0, .int .i64 0, .int .i64 0, .slice none 0 0, .slice none 0 0, .int .i64 0, .slice none 0 0, .slice none 0 0, .slice none 0 0] : Array Value) := by
  rw [hW]; have := Blk.new ((w.alloc (.cells (dL X a1 l1 c1 a2 l2 c2 a3 l3 c3 a4 l4 c4 a5 l5 c5).toArray 83)).alloc (.cells #[.int .i64 0, .int .i64 0, .int .i64 0, .int .i64 0, .int .i64 0, .int .i64 0, .int .i64 0, .slice none 0 0, .slice none 0 0, .int .i64 0, .slice none 0 0, .slice none 0 0, .slice none 0 0] 61)) (#[.int .i64 X.id, .int .i64 X.so, .int .i64 X.ta, .int .i64 X.un, .int .i64 0, .int .i64 0, .int .i64 0, .slice none 0 0, .slice none 0 0, .int .i64 0, .slice none 0 0, .slice none 0 0, .slice none 0 0] : Array Value) 61; simpa using this
 have hs0 : W.heap.size = (w.heap.size + 1 + 1 + 1) := by rw [hW]; simp
 have HZ : Hid (szT 6 (trs (qT X.q)) <= 1048576 /\ (Tr.list 8 X.np (fun i => trs (pT (X.pt i)))).sz <= 1048576 /\ X.hs.length <= 1048576 /\ (Tr.list 6 X.nt (fun i => trs (aT (X.tl i)))).sz <= 1048576) := by
  rw [szT_d] at hz
  show szT 6 (trs (qT X.q)) <= 1048576 /\ (Tr.list 8 X.np (fun i => trs (pT (X.pt i)))).sz <= 1048576 /\ X.hs.length <= 1048576 /\ (Tr.list 6 X.nt (fun i => trs (aT (X.tl i)))).sz <= 1048576
  try simp only [szT_q, szT_a, szT_p, szT_d, szT_t, true_and]
  omega
 have HR : Hid (Rd w 0 (intsT X.q.ws) (.slice a1 l1 c1) /\ Rd w 0 (boolsT X.q.bs) (.slice a2 l2 c2) /\ Rd w 0 (.list 8 X.np (fun i => trs (pT (X.pt i)))) (.slice a3 l3 c3) /\ Rd w 0 (boolsT X.hs) (.slice a4 l4 c4) /\ Rd w 0 (.list 6 X.nt (fun i => trs (aT (X.tl i)))) (.slice a5 l5 c5)) := ⟨r1, r2, r3, r4, r5⟩
 have G0 : Hid (Below w.heap.size w W /\ Blk W w.heap.size 83 (dL X a1 l1 c1 a2 l2 c2 a3 l3 c3 a4 l4 c4 a5 l5 c5).toArray /\ Blk W (w.heap.size + 1) 61 #[.int .i64 0, .int .i64 0, .int .i64 0, .int .i64 0, .int .i64 0, .int .i64 0, .int .i64 0, .slice none 0 0, .slice none 0 0, .int .i64 0, .slice none 0 0, .slice none 0 0, .slice none 0 0] /\ Blk W (w.heap.size + 1 + 1) 61 (#[.int .i64 X.id, .int .i64 X.so, .int .i64 X.ta, .int .i64 X.un, .int .i64 0, .int .i64 0, .int .i64 0, .slice none 0 0, .slice none 0 0, .int .i64 0, .slice none 0 0, .slice none 0 0, .slice none 0 0] : Array Value) /\ (w.heap.size + 1 + 1 + 1) <= W.heap.size /\ Own1 W (w.heap.size + 1 + 1 + 1) W.heap.size ([]) ([])) := ⟨bW, A0, R0, O0, by omega, Own1.nil _ _ _⟩
 clear bW A0 R0 O0 hs0 hz r1 r2 r3 r4 r5
 go_enter Tryz.func52, Tryz.ntmps52
 go_upto_region 6 with fail
 rw [<- hW]
 clear hW
 obtain ⟨⟨y0, y1, y2, y3, y4, y5, y6, y7, y8, y9, y10, y11, y12⟩, yf⟩ := G0.out.2.1.tc13
 clear yf
 go_wp2_with fail
 refine (toReq_m X.q a1 l1 c1 a2 l2 c2 _ (HR.out.1.below G0.out.1) (HR.out.2.1.below G0.out.1) HZ.out.1).mono ?_
 rintro e w1 ⟨b1, d1, b2, d2, rfl, q, hb1⟩
 clear y0 y1 y2 y3 y4 y5 y6 y7 y8 y9 y10 y11 y12
 have O1 := G0.out.2.2.2.1.below hb1
 obtain ⟨⟨z0, z1, z2, z3, z4, z5, z6, z7, z8, z9, z10, z11, z12⟩, zf⟩ := O1.tc13
 have zg4 := zf 4
 have zg5 := zf 5
 have zg6 := zf 6
 have zg7 := zf 7
 have zg8 := zf 8
 have zg9 := zf 9
 obtain ⟨W1, hW1⟩ : ∃ W9, W9 = setL w1 (w.heap.size + 1 + 1) 4 [.int .i64 X.q.kd, .int .i64 X.q.pl, .int .i64 X.q.n, .slice b1 l1 d1, .slice b2 l2 d2, .int .i64 X.q.wa] := ⟨_, rfl⟩
 have G1 : Hid (Below w.heap.size w W1 /\ Blk W1 w.heap.size 83 (dL X a1 l1 c1 a2 l2 c2 a3 l3 c3 a4 l4 c4 a5 l5 c5).toArray /\ Blk W1 (w.heap.size + 1) 61 #[.int .i64 0, .int .i64 0, .int .i64 0, .int .i64 0, .int .i64 0, .int .i64 0, .int .i64 0, .slice none 0 0, .slice none 0 0, .int .i64 0, .slice none 0 0, .slice none 0 0, .slice none 0 0] /\ Blk W1 (w.heap.size + 1 + 1) 61 (#[.int .i64 X.id, .int .i64 X.so, .int .i64 X.ta, .int .i64 X.un, .int .i64 X.q.kd, .int .i64 X.q.pl, .int .i64 X.q.n, .slice b1 l1 d1, .slice b2 l2 d2, .int .i64 X.q.wa, .slice none 0 0, .slice none 0 0, .slice none 0 0] : Array Value) /\ (w.heap.size + 1 + 1 + 1) <= W1.heap.size /\ Own1 W1 (w.heap.size + 1 + 1 + 1) W1.heap.size ([] ++ (qT X.q)) ([] ++ (qL X.q b1 l1 d1 b2 l2 d2))) := by
  have hg : w1.grownBy W1 (some (w.heap.size + 1 + 1)) := by rw [hW1]; exact setL_gw _ _ _
  have hs9 := G0.out.2.2.2.2.1
  have hs8 := hb1.size
  have hs7 := hg.size
  refine ⟨by rw [hW1]; exact setL_below (by omega) _ _ _ (bel_nx G0.out.1 hb1), by rw [hW1]; exact Blk.stNe (by omega) _ _ (G0.out.2.1.below hb1), by rw [hW1]; exact Blk.stNe (by omega) _ _ (G0.out.2.2.1.below hb1), by rw [hW1, show (#[.int .i64 X.id, .int .i64 X.so, .int .i64 X.ta, .int .i64 X.un, .int .i64 X.q.kd, .int .i64 X.q.pl, .int .i64 X.q.n, .slice b1 l1 d1, .slice b2 l2 d2, .int .i64 X.q.wa, .slice none 0 0, .slice none 0 0, .slice none 0 0] : Array Value) = wrA (#[.int .i64 X.id, .int .i64 X.so, .int .i64 X.ta, .int .i64 X.un, .int .i64 0, .int .i64 0, .int .i64 0, .slice none 0 0, .slice none 0 0, .int .i64 0, .slice none 0 0, .slice none 0 0, .slice none 0 0] : Array Value) 4 [.int .i64 X.q.kd, .int .i64 X.q.pl, .int .i64 X.q.n, .slice b1 l1 d1, .slice b2 l2 d2, .int .i64 X.q.wa] from (by simp [wrA])]; exact Blk.stL _ _ O1, by omega, G0.out.2.2.2.2.2.next hb1 q hg (by omega) hs9⟩
 have hX1 : W1 = ((((((w1.setCell ⟨w.heap.size + 1 + 1, 4, none⟩ (.int .i64 X.q.kd)).setCell ⟨w.heap.size + 1 + 1, 5, none⟩ (.int .i64 X.q.pl)).setCell ⟨w.heap.size + 1 + 1, 6, none⟩ (.int .i64 X.q.n)).setCell ⟨w.heap.size + 1 + 1, 7, none⟩ (.slice b1 l1 d1)).setCell ⟨w.heap.size + 1 + 1, 8, none⟩ (.slice b2 l2 d2)).setCell ⟨w.heap.size + 1 + 1, 9, none⟩ (.int .i64 X.q.wa)) := by rw [hW1]; simp only [setL, Nat.reduceAdd, Nat.zero_add]
 clear O1 hb1 hW1 q
 go_upto_region 7 with fail
 rw [<- hX1]
 clear hX1 zf z0 z1 z2 z3 z4 z5 z6 z7 z8 z9 z10 z11 z12 zg4 zg5 zg6 zg7 zg8 zg9
 obtain ⟨⟨y0, y1, y2, y3, y4, y5, y6, y7, y8, y9, y10, y11, y12⟩, yf⟩ := G1.out.2.1.tc13
 clear yf
 go_wp2_with fail
 refine (toPartS_m X.np X.pt a3 l3 c3 _ (HR.out.2.2.1.below G1.out.1) HZ.out.2.1).mono ?_
 rintro e w2 ⟨b3, d3, rfl, q, hb2⟩
 clear y0 y1 y2 y3 y4 y5 y6 y7 y8 y9 y10 y11 y12
 have q := Own1.one q
 have O2 := G1.out.2.2.2.1.below hb2
 obtain ⟨⟨z0, z1, z2, z3, z4, z5, z6, z7, z8, z9, z10, z11, z12⟩, zf⟩ := O2.tc13
 have zg10 := zf 10
 obtain ⟨W2, hW2⟩ : ∃ W9, W9 = setL w2 (w.heap.size + 1 + 1) 10 [.slice b3 l3 d3] := ⟨_, rfl⟩
 have G2 : Hid (Below w.heap.size w W2 /\ Blk W2 w.heap.size 83 (dL X a1 l1 c1 a2 l2 c2 a3 l3 c3 a4 l4 c4 a5 l5 c5).toArray /\ Blk W2 (w.heap.size + 1) 61 #[.int .i64 0, .int .i64 0, .int .i64 0, .int .i64 0, .int .i64 0, .int .i64 0, .int .i64 0, .slice none 0 0, .slice none 0 0, .int .i64 0, .slice none 0 0, .slice none 0 0, .slice none 0 0] /\ Blk W2 (w.heap.size + 1 + 1) 61 (#[.int .i64 X.id, .int .i64 X.so, .int .i64 X.ta, .int .i64 X.un, .int .i64 X.q.kd, .int .i64 X.q.pl, .int .i64 X.q.n, .slice b1 l1 d1, .slice b2 l2 d2, .int .i64 X.q.wa, .slice b3 l3 d3, .slice none 0 0, .slice none 0 0] : Array Value) /\ (w.heap.size + 1 + 1 + 1) <= W2.heap.size /\ Own1 W2 (w.heap.size + 1 + 1 + 1) W2.heap.size ([] ++ (qT X.q) ++ ([.list 8 X.np (fun i => trs (pT (X.pt i)))])) ([] ++ (qL X.q b1 l1 d1 b2 l2 d2) ++ ([.slice b3 l3 d3]))) := by
  have hg : w2.grownBy W2 (some (w.heap.size + 1 + 1)) := by rw [hW2]; exact setL_gw _ _ _
  have hs9 := G1.out.2.2.2.2.1
  have hs8 := hb2.size
  have hs7 := hg.size
  refine ⟨by rw [hW2]; exact setL_below (by omega) _ _ _ (bel_nx G1.out.1 hb2), by rw [hW2]; exact Blk.stNe (by omega) _ _ (G1.out.2.1.below hb2), by rw [hW2]; exact Blk.stNe (by omega) _ _ (G1.out.2.2.1.below hb2), by rw [hW2, show (#[.int .i64 X.id, .int .i64 X.so, .int .i64 X.ta, .int .i64 X.un, .int .i64 X.q.kd, .int .i64 X.q.pl, .int .i64 X.q.n, .slice b1 l1 d1, .slice b2 l2 d2, .int .i64 X.q.wa, .slice b3 l3 d3, .slice none 0 0, .slice none 0 0] : Array Value) = wrA (#[.int .i64 X.id, .int .i64 X.so, .int .i64 X.ta, .int .i64 X.un, .int .i64 X.q.kd, .int .i64 X.q.pl, .int .i64 X.q.n, .slice b1 l1 d1, .slice b2 l2 d2, .int .i64 X.q.wa, .slice none 0 0, .slice none 0 0, .slice none 0 0] : Array Value) 10 [.slice b3 l3 d3] from (by simp [wrA])]; exact Blk.stL _ _ O2, by omega, G1.out.2.2.2.2.2.next hb2 q hg (by omega) hs9⟩
 have hX2 : W2 = (w2.setCell ⟨w.heap.size + 1 + 1, 10, none⟩ (.slice b3 l3 d3)) := by rw [hW2]; simp only [setL, Nat.reduceAdd, Nat.zero_add]
 clear O2 hb2 hW2 q
 go_upto_region 8 with fail
 rw [<- hX2]
 clear hX2 zf z0 z1 z2 z3 z4 z5 z6 z7 z8 z9 z10 z11 z12 zg10
 obtain ⟨⟨y0, y1, y2, y3, y4, y5, y6, y7, y8, y9, y10, y11, y12⟩, yf⟩ := G2.out.2.1.tc13
 clear yf
 go_wp2_with fail
 refine (toBoolS_m X.hs a4 l4 c4 _ (HR.out.2.2.2.1.below G2.out.1) HZ.out.2.2.1).mono ?_
 rintro e w3 ⟨b4, d4, rfl, q, hb3⟩
 clear y0 y1 y2 y3 y4 y5 y6 y7 y8 y9 y10 y11 y12
 have q := Own1.one q
 have O3 := G2.out.2.2.2.1.below hb3
 obtain ⟨⟨z0, z1, z2, z3, z4, z5, z6, z7, z8, z9, z10, z11, z12⟩, zf⟩ := O3.tc13
 have zg11 := zf 11
 obtain ⟨W3, hW3⟩ : ∃ W9, W9 = setL w3 (w.heap.size + 1 + 1) 11 [.slice b4 l4 d4] := ⟨_, rfl⟩
 have G3 : Hid (Below w.heap.size w W3 /\ Blk W3 w.heap.size 83 (dL X a1 l1 c1 a2 l2 c2 a3 l3 c3 a4 l4 c4 a5 l5 c5).toArray /\ Blk W3 (w.heap.size + 1) 61 #[.int .i64 0, .int .i64 0, .int .i64 0, .int .i64 0, .int .i64 0, .int .i64 0, .int .i64 0, .slice none 0 0, .slice none 0 0, .int .i64 0, .slice none 0 0, .slice none 0 0, .slice none 0 0] /\ Blk W3 (w.heap.size + 1 + 1) 61 (#[.int .i64 X.id, .int .i64 X.so, .int .i64 X.ta, .int .i64 X.un, .int .i64 X.q.kd, .int .i64 X.q.pl, .int .i64 X.q.n, .slice b1 l1 d1, .slice b2 l2 d2, .int .i64 X.q.wa, .slice b3 l3 d3, .slice b4 l4 d4, .slice none 0 0] : Array Value) /\ (w.heap.size + 1 + 1 + 1) <= W3.heap.size /\ Own1 W3 (w.heap.size + 1 + 1 + 1) W3.heap.size ([] ++ (qT X.q) ++ ([.list 8 X.np (fun i => trs (pT (X.pt i)))]) ++ ([boolsT X.hs])) ([] ++ (qL X.q b1 l1 d1 b2 l2 d2) ++ ([.slice b3 l3 d3]) ++ ([.slice b4 l4 d4]))) := by
  have hg : w3.grownBy W3 (some (w.heap.size + 1 + 1)) := by rw [hW3]; exact setL_gw _ _ _
  have hs9 := G2.out.2.2.2.2.1
  have hs8 := hb3.size
  have hs7 := hg.size
  refine ⟨by rw [hW3]; exact setL_below (by omega) _ _ _ (bel_nx G2.out.1 hb3), by rw [hW3]; exact Blk.stNe (by omega) _ _ (G2.out.2.1.below hb3), by rw [hW3]; exact Blk.stNe (by omega) _ _ (G2.out.2.2.1.below hb3), by rw [hW3, show (#[.int .i64 X.id, .int .i64 X.so, .int .i64 X.ta, .int .i64 X.un, .int .i64 X.q.kd, .int .i64 X.q.pl, .int .i64 X.q.n, .slice b1 l1 d1, .slice b2 l2 d2, .int .i64 X.q.wa, .slice b3 l3 d3, .slice b4 l4 d4, .slice none 0 0] : Array Value) = wrA (#[.int .i64 X.id, .int .i64 X.so, .int .i64 X.ta, .int .i64 X.un, .int .i64 X.q.kd, .int .i64 X.q.pl, .int .i64 X.q.n, .slice b1 l1 d1, .slice b2 l2 d2, .int .i64 X.q.wa, .slice b3 l3 d3, .slice none 0 0, .slice none 0 0] : Array Value) 11 [.slice b4 l4 d4] from (by simp [wrA])]; exact Blk.stL _ _ O3, by omega, G2.out.2.2.2.2.2.next hb3 q hg (by omega) hs9⟩
 have hX3 : W3 = (w3.setCell ⟨w.heap.size + 1 + 1, 11, none⟩ (.slice b4 l4 d4)) := by rw [hW3]; simp only [setL, Nat.reduceAdd, Nat.zero_add]
 clear O3 hb3 hW3 q
 go_upto_region 9 with fail
 rw [<- hX3]
 clear hX3 zf z0 z1 z2 z3 z4 z5 z6 z7 z8 z9 z10 z11 z12 zg11
 obtain ⟨⟨y0, y1, y2, y3, y4, y5, y6, y7, y8, y9, y10, y11, y12⟩, yf⟩ := G3.out.2.1.tc13
 clear yf
 go_wp2_with fail
 refine (toRespS_m X.nt X.tl a5 l5 c5 _ (HR.out.2.2.2.2.below G3.out.1) HZ.out.2.2.2).mono ?_
 rintro e w4 ⟨b5, d5, rfl, q, hb4⟩
 clear y0 y1 y2 y3 y4 y5 y6 y7 y8 y9 y10 y11 y12
 have q := Own1.one q
 have O4 := G3.out.2.2.2.1.below hb4
 obtain ⟨⟨z0, z1, z2, z3, z4, z5, z6, z7, z8, z9, z10, z11, z12⟩, zf⟩ := O4.tc13
 have zg12 := zf 12
 obtain ⟨W4, hW4⟩ : ∃ W9, W9 = setL w4 (w.heap.size + 1 + 1) 12 [.slice b5 l5 d5] := ⟨_, rfl⟩
 have G4 : Hid (Below w.heap.size w W4 /\ Blk W4 w.heap.size 83 (dL X a1 l1 c1 a2 l2 c2 a3 l3 c3 a4 l4 c4 a5 l5 c5).toArray /\ Blk W4 (w.heap.size + 1) 61 #[.int .i64 0, .int .i64 0, .int .i64 0, .int .i64 0, .int .i64 0, .int .i64 0, .int .i64 0, .slice none 0 0, .slice none 0 0, .int .i64 0, .slice none 0 0, .slice none 0 0, .slice none 0 0] /\ Blk W4 (w.heap.size + 1 + 1) 61 (#[.int .i64 X.id, .int .i64 X.so, .int .i64 X.ta, .int .i64 X.un, .int .i64 X.q.kd, .int .i64 X.q.pl, .int .i64 X.q.n, .slice b1 l1 d1, .slice b2 l2 d2, .int .i64 X.q.wa, .slice b3 l3 d3, .slice b4 l4 d4, .slice b5 l5 d5] : Array Value) /\ (w.heap.size + 1 + 1 + 1) <= W4.heap.size /\ Own1 W4 (w.heap.size + 1 + 1 + 1) W4.heap.size ([] ++ (qT X.q) ++ ([.list 8 X.np (fun i => trs (pT (X.pt i)))]) ++ ([boolsT X.hs]) ++ ([.list 6 X.nt (fun i => trs (aT (X.tl i)))])) ([] ++ (qL X.q b1 l1 d1 b2 l2 d2) ++ ([.slice b3 l3 d3]) ++ ([.slice b4 l4 d4]) ++ ([.slice b5 l5 d5]))) := by
  have hg : w4.grownBy W4 (some (w.heap.size + 1 + 1)) := by rw [hW4]; exact setL_gw _ _ _
  have hs9 := G3.out.2.2.2.2.1
  have hs8 := hb4.size
  have hs7 := hg.size
  refine ⟨by rw [hW4]; exact setL_below (by omega) _ _ _ (bel_nx G3.out.1 hb4), by rw [hW4]; exact Blk.stNe (by omega) _ _ (G3.out.2.1.below hb4), by rw [hW4]; exact Blk.stNe (by omega) _ _ (G3.out.2.2.1.below hb4), by rw [hW4, show (#[.int .i64 X.id, .int .i64 X.so, .int .i64 X.ta, .int .i64 X.un, .int .i64 X.q.kd, .int .i64 X.q.pl, .int .i64 X.q.n, .slice b1 l1 d1, .slice b2 l2 d2, .int .i64 X.q.wa, .slice b3 l3 d3, .slice b4 l4 d4, .slice b5 l5 d5] : Array Value) = wrA (#[.int .i64 X.id, .int .i64 X.so, .int .i64 X.ta, .int .i64 X.un, .int .i64 X.q.kd, .int .i64 X.q.pl, .int .i64 X.q.n, .slice b1 l1 d1, .slice b2 l2 d2, .int .i64 X.q.wa, .slice b3 l3 d3, .slice b4 l4 d4, .slice none 0 0] : Array Value) 12 [.slice b5 l5 d5] from (by simp [wrA])]; exact Blk.stL _ _ O4, by omega, G3.out.2.2.2.2.2.next hb4 q hg (by omega) hs9⟩
 have hX4 : W4 = (w4.setCell ⟨w.heap.size + 1 + 1, 12, none⟩ (.slice b5 l5 d5)) := by rw [hW4]; simp only [setL, Nat.reduceAdd, Nat.zero_add]
 clear O4 hb4 hW4 q
 go_upto_region 10 with fail
 rw [<- hX4]
 clear hX4 zf z0 z1 z2 z3 z4 z5 z6 z7 z8 z9 z10 z11 z12 zg12
 obtain ⟨W9, hW9⟩ : ∃ W9, W9 = setL W4 (w.heap.size + 1) 0 (dL X b1 l1 d1 b2 l2 d2 b3 l3 d3 b4 l4 d4 b5 l5 d5) := ⟨_, rfl⟩
 have H9 : Hid (Own1 W9 w.heap.size W9.heap.size (dT X) (dL X b1 l1 d1 b2 l2 d2 b3 l3 d3 b4 l4 d4 b5 l5 d5) /\ Below w.heap.size w W9 /\ Blk W9 (w.heap.size + 1) 61 (dL X b1 l1 d1 b2 l2 d2 b3 l3 d3 b4 l4 d4 b5 l5 d5).toArray) := by
  have hg : W4.grownBy W9 (some (w.heap.size + 1)) := by rw [hW9]; exact setL_gw _ _ _
  have hs9 := G4.out.2.2.2.2.1
  have hs7 := hg.size
  exact ⟨(Own1.leaf (.int .i64 X.id) (Own1.leaf (.int .i64 X.so) (Own1.leaf (.int .i64 X.ta) (Own1.leaf (.int .i64 X.un) ((G4.out.2.2.2.2.2.kept hg (by omega) (Nat.le_refl _)).mono (lo' := w.heap.size) (by omega) hs7) (by omega)) (by omega)) (by omega)) (by omega)), by rw [hW9]; exact setL_below (by omega) _ _ _ G4.out.1, by rw [hW9, show (dL X b1 l1 d1 b2 l2 d2 b3 l3 d3 b4 l4 d4 b5 l5 d5).toArray = wrA (#[.int .i64 0, .int .i64 0, .int .i64 0, .int .i64 0, .int .i64 0, .int .i64 0, .int .i64 0, .slice none 0 0, .slice none 0 0, .int .i64 0, .slice none 0 0, .slice none 0 0, .slice none 0 0] : Array Value) 0 (dL X b1 l1 d1 b2 l2 d2 b3 l3 d3 b4 l4 d4 b5 l5 d5) from (by simp [wrA])]; exact Blk.stL _ _ G4.out.2.2.1⟩
 have hr := G4.out.2.2.2.1.all
 have ht := G4.out.2.2.1.there 0 13 (by simp)
 clear G4
 refine wp_region_lit ?_
 refine wpList_load_mid rfl 61 (.tmp 3) rfl (w.heap.size + 1 + 1) 0 rfl (dL X b1 l1 d1 b2 l2 d2 b3 l3 d3 b4 l4 d4 b5 l5 d5) _ hr Tryz.underlying61 rfl (by kernel_rfl) ?_
 refine wpList_store_mid rfl 61 (.tmp 2) (.tmp 32) rfl (w.heap.size + 1) 0 (dL X b1 l1 d1 b2 l2 d2 b3 l3 d3 b4 l4 d4 b5 l5 d5).toArray rfl rfl ht (by kernel_rfl) (by simp [Value.oneCell']) ?_
 rw [setCells_L, <- hW9]
 clear hW9 hr ht
 refine wpList_nil ?_
 go_wp2
 obtain ⟨⟨y0, y1, y2, y3, y4, y5, y6, y7, y8, y9, y10, y11, y12⟩, yf⟩ := H9.out.2.2.tc13
 refine bodyPost_ret (v := .agg (dL X b1 l1 d1 b2 l2 d2 b3 l3 d3 b4 l4 d4 b5 l5 d5).toArray) (by simp [results, Tryz.results52, go_sem, y0, y1, y2, y3, y4, y5, y6, y7, y8, y9, y10, y11, y12]) rfl ⟨b1, d1, b2, d2, b3, d3, b4, d4, b5, d5, rfl, H9.out.1, H9.out.2.1⟩
theorem toPendS_m (n : Nat) (f : Nat -> VD) (a : Option Addr) (n' cap : Nat) (w : World) (hs : Rd w 0 (.list 13 n (fun k => trs (dT (f k)))) (.slice a n' cap)) (hz : (Tr.list 13 n (fun k => trs (dT (f k)))).sz <= 1048576) :
 Calls Tryz.prog 28 #[.slice a n' cap] w fun e w' => ∃ b d, e = .returned (.slice b n' d) /\ OwnS w' w.heap.size (.list 13 n (fun k => trs (dT (f k)))) (.slice b n' d) /\ Below w.heap.size w w' := by
 obtain ⟨a9, c9, h9, -, hn⟩ := hs.shape
 simp only [Value.slice.injEq] at h9
 obtain ⟨-, rfl, -⟩ := h9
 clear a9 c9
 have hn1 : n' <= 1048576 := by rw [Tr.sz_list] at hz; omega
 have HZ : Hid (∀ k, k < n' -> szT 13 (trs (dT (f k))) <= 1048576) := by
  show ∀ k, k < n' -> szT 13 (trs (dT (f k))) <= 1048576
  intro k hk
  rw [Tr.sz_list] at hz
  have := sumN_at (fun k => szT 13 (trs (dT (f k)))) hk
  omega
 have hmk := run_make_st (P := Tryz.prog) 33 61 (.agg #[.int .i64 0, .int .i64 0, .int .i64 0, .int .i64 0, .int .i64 0, .int .i64 0, .int .i64 0, .slice none 0 0, .slice none 0 0, .int .i64 0, .slice none 0 0, .slice none 0 0, .slice none 0 0]) 13 184 Tryz.underlying33 (by kernel_rfl) .i64 .i64 n' (by omega) (by omega)
 have HS : Hid (Rd w 0 (.list 13 n' (fun k => trs (dT (f k)))) (.slice a n' cap) /\ n' <= maxLen) := ⟨hs, hn⟩
 clear hs hz hn
 go_enter Tryz.func28, Tryz.ntmps28
 go_wp2
 clear hmk
 go_loopw [4] (fun i wr => ∃ (k : Nat), k <= n' /\ i = .int .i64 k /\ LsI wr w.heap.size 61 13 n' (fun i => dT (f i)) k /\ Below w.heap.size w wr) (fun i _ => n' - (intOf i).toNat)
 case atStart => exact ⟨0, Nat.zero_le _, rfl, LsI.start (RowS.made w (#[.int .i64 0, .int .i64 0, .int .i64 0, .int .i64 0, .int .i64 0, .int .i64 0, .int .i64 0, .slice none 0 0, .slice none 0 0, .int .i64 0, .slice none 0 0, .slice none 0 0, .slice none 0 0]).toList n' _ (by simp)), (Below.refl _ _).alloc (Nat.le_refl _) _⟩
 case round =>
  obtain ⟨k, hk, rfl, hrow, hb⟩ := hrel
  by_cases hlt : k < n'
  ·have hi : (k : Int) < (n' : Int) := by omega
   obtain ⟨b, off, vs, rfl, _, hb0, hlen, hr, hrd⟩ := (HS.out.1.below hb).at hlt
   obtain ⟨a1, c1, a2, c2, a3, c3, a4, c4, a5, c5, rfl, r1, r2, r3, r4, r5⟩ := VD.cells hrd hlen
   clear hlen hrd
   have d09 : wr.cell? ⟨b, off + k * 13, none⟩ = _ := hr 0 _ rfl
   have d19 : wr.cell? ⟨b, off + k * 13 + 1, none⟩ = _ := hr 1 _ rfl
   have d29 : wr.cell? ⟨b, off + k * 13 + 2, none⟩ = _ := hr 2 _ rfl
   have d39 : wr.cell? ⟨b, off + k * 13 + 3, none⟩ = _ := hr 3 _ rfl
   have d49 : wr.cell? ⟨b, off + k * 13 + 4, none⟩ = _ := hr 4 _ rfl
   have d59 : wr.cell? ⟨b, off + k * 13 + 5, none⟩ = _ := hr 5 _ rfl
   have d69 : wr.cell? ⟨b, off + k * 13 + 6, none⟩ = _ := hr 6 _ rfl
   have d79 : wr.cell? ⟨b, off + k * 13 + 7, none⟩ = _ := hr 7 _ rfl
   have d89 : wr.cell? ⟨b, off + k * 13 + 8, none⟩ = _ := hr 8 _ rfl
   have d99 : wr.cell? ⟨b, off + k * 13 + 9, none⟩ = _ := hr 9 _ rfl
   have d109 : wr.cell? ⟨b, off + k * 13 + 10, none⟩ = _ := hr 10 _ rfl
   have d119 : wr.cell? ⟨b, off + k * 13 + 11, none⟩ = _ := hr 11 _ rfl
   have d129 : wr.cell? ⟨b, off + k * 13 + 12, none⟩ = _ := hr 12 _ rfl
   have HK : Hid (LsI wr w.heap.size 61 13 n' (fun i => dT (f i)) k /\ True /\ Below w.heap.size w wr /\ Rd wr 0 (intsT (f k).q.ws) (.slice a1 ((f k).q.ws.length) c1) /\ Rd wr 0 (boolsT (f k).q.bs) (.slice a2 ((f k).q.bs.length) c2) /\ Rd wr 0 (.list 8 (f k).np (fun i => trs (pT ((f k).pt i)))) (.slice a3 ((f k).np) c3) /\ Rd wr 0 (boolsT (f k).hs) (.slice a4 ((f k).hs.length) c4) /\ Rd wr 0 (.list 6 (f k).nt (fun i => trs (aT ((f k).tl i)))) (.slice a5 ((f k).nt) c5)) := ⟨hrow, trivial, hb, r1, r2, r3, r4, r5⟩
   clear hrow hb hr hb0 r1 r2 r3 r4 r5
   go_wp2_with fail
   refine (toPend_m (f k) a1 ((f k).q.ws.length) c1 a2 ((f k).q.bs.length) c2 a3 ((f k).np) c3 a4 ((f k).hs.length) c4 a5 ((f k).nt) c5 _ HK.out.2.2.2.1 HK.out.2.2.2.2.1 HK.out.2.2.2.2.2.1 HK.out.2.2.2.2.2.2.1 HK.out.2.2.2.2.2.2.2 (HZ.out k hlt)).mono ?_
   rintro e w1 ⟨b1, d1, b2, d2, b3, d3, b4, d4, b5, d5, rfl, q1, hb1⟩
   obtain ⟨F1, R1⟩ := (HK.out.1.cg (Cg.ofBelow (S := fun _ => False) hb1) (fun b h => h.elim)).row
   obtain ⟨rx0, ry0⟩ : ∃ v, w1.cell? ⟨w.heap.size, k * 13, none⟩ = some v := R1.ex hlt (j := 0) (by decide)
   obtain ⟨rx1, ry1⟩ : ∃ v, w1.cell? ⟨w.heap.size, k * 13 + 1, none⟩ = some v := R1.ex hlt (j := 1) (by decide)
   obtain ⟨rx2, ry2⟩ : ∃ v, w1.cell? ⟨w.heap.size, k * 13 + 2, none⟩ = some v := R1.ex hlt (j := 2) (by decide)
   obtain ⟨rx3, ry3⟩ : ∃ v, w1.cell? ⟨w.heap.size, k * 13 + 3, none⟩ = some v := R1.ex hlt (j := 3) (by decide)
   obtain ⟨rx4, ry4⟩ : ∃ v, w1.cell? ⟨w.heap.size, k * 13 + 4, none⟩ = some v := R1.ex hlt (j := 4) (by decide)
   obtain ⟨rx5, ry5⟩ : ∃ v, w1.cell? ⟨w.heap.size, k * 13 + 5, none⟩ = some v := R1.ex hlt (j := 5) (by decide)
   obtain ⟨rx6, ry6⟩ : ∃ v, w1.cell? ⟨w.heap.size, k * 13 + 6, none⟩ = some v := R1.ex hlt (j := 6) (by decide)
   obtain ⟨rx7, ry7⟩ : ∃ v, w1.cell? ⟨w.heap.size, k * 13 + 7, none⟩ = some v := R1.ex hlt (j := 7) (by decide)
   obtain ⟨rx8, ry8⟩ : ∃ v, w1.cell? ⟨w.heap.size, k * 13 + 8, none⟩ = some v := R1.ex hlt (j := 8) (by decide)
   obtain ⟨rx9, ry9⟩ : ∃ v, w1.cell? ⟨w.heap.size, k * 13 + 9, none⟩ = some v := R1.ex hlt (j := 9) (by decide)
   obtain ⟨rx10, ry10⟩ : ∃ v, w1.cell? ⟨w.heap.size, k * 13 + 10, none⟩ = some v := R1.ex hlt (j := 10) (by decide)
   obtain ⟨rx11, ry11⟩ : ∃ v, w1.cell? ⟨w.heap.size, k * 13 + 11, none⟩ = some v := R1.ex hlt (j := 11) (by decide)
   obtain ⟨rx12, ry12⟩ : ∃ v, w1.cell? ⟨w.heap.size, k * 13 + 12, none⟩ = some v := R1.ex hlt (j := 12) (by decide)
   obtain ⟨W2, hW2⟩ : ∃ W2, W2 = setL w1 w.heap.size (k * 13) (dL (f k) b1 ((f k).q.ws.length) d1 b2 ((f k).q.bs.length) d2 b3 ((f k).np) d3 b4 ((f k).hs.length) d4 b5 ((f k).nt) d5) := ⟨_, rfl⟩
   have H2 : Hid (LsI W2 w.heap.size 61 13 n' (fun i => dT (f i)) (k + 1) /\ Below w.heap.size w W2) := ⟨by rw [hW2]; exact HK.out.1.step (S := fun _ => False) hlt (Cg.ofBelow hb1) (fun b h => h.elim) q1 rfl, by rw [hW2]; exact setL_below (Nat.le_refl _) _ _ _ (bel_nx HK.out.2.2.1 hb1)⟩
   have hW2' : W2 = (((((((((((((w1.setCell ⟨w.heap.size, k * 13, none⟩ (.int .i64 (f k).id)).setCell ⟨w.heap.size, k * 13 + 1, none⟩ (.int .i64 (f k).so)).setCell ⟨w.heap.size, k * 13 + 2, none⟩ (.int .i64 (f k).ta)).setCell ⟨w.heap.size, k * 13 + 3, none⟩ (.int .i64 (f k).un)).setCell ⟨w.heap.size, k * 13 + 4, none⟩ (.int .i64 (f k).q.kd)).setCell ⟨w.heap.size, k * 13 + 5, none⟩ (.int .i64 (f k).q.pl)).setCell ⟨w.heap.size, k * 13 + 6, none⟩ (.int .i64 (f k).q.n)).setCell ⟨w.heap.size, k * 13 + 7, none⟩ (.slice b1 ((f k).q.ws.length) d1)).setCell ⟨w.heap.size, k * 13 + 8, none⟩ (.slice b2 ((f k).q.bs.length) d2)).setCell ⟨w.heap.size, k * 13 + 9, none⟩ (.int .i64 (f k).q.wa)).setCell ⟨w.heap.size, k * 13 + 10, none⟩ (.slice b3 ((f k).np) d3)).setCell ⟨w.heap.size, k * 13 + 11, none⟩ (.slice b4 ((f k).hs.length) d4)).setCell ⟨w.heap.size, k * 13 + 12, none⟩ (.slice b5 ((f k).nt) d5)) := by rw [hW2]; simp only [setL, Nat.reduceAdd, Nat.zero_add, Nat.add_zero, Nat.add_assoc]
   have HE : Hid (∀ j, w1.frozen? ⟨w.heap.size, j, none⟩ = false) := R1.fro
   have qf0 := HE.out (k * 13)
   have qf1 := HE.out (k * 13 + 1)
   have qf2 := HE.out (k * 13 + 2)
   have qf3 := HE.out (k * 13 + 3)
   have qf4 := HE.out (k * 13 + 4)
   have qf5 := HE.out (k * 13 + 5)
   have qf6 := HE.out (k * 13 + 6)
   have qf7 := HE.out (k * 13 + 7)
   have qf8 := HE.out (k * 13 + 8)
   have qf9 := HE.out (k * 13 + 9)
   have qf10 := HE.out (k * 13 + 10)
   have qf11 := HE.out (k * 13 + 11)
   have qf12 := HE.out (k * 13 + 12)
   clear R1 hb1 HK d09 d19 d29 d39 d49 d59 d69 d79 d89 d99 d109 d119 d129 hW2 HE q1
   go_wp2
   rw [<- hW2']
   clear hW2'
   go_roundw
   case rel =>
    exact ⟨k + 1, by omega, by go_num, H2.out.1, H2.out.2⟩
   case measure => simp [intOf]; omega
  have hi : ¬ (k : Int) < (n' : Int) := by omega
  have e9 : k = n' := by omega
  subst e9
  have HR : Hid (LsI wr w.heap.size 61 13 k (fun i => dT (f i)) k /\ Below w.heap.size w wr) := ⟨hrow, hb⟩
  clear hrow hb
  go_wp2
  go_ret
  exact ⟨_, _, rfl, HR.out.1.done (Nat.le_refl _) HS.out.2 (fun _ _ => rfl), HR.out.2⟩
theorem toTable_m (X : VT) (a1 : Option Addr) (l1 c1 : Nat) (w : World) (r1 : Rd w 0 (.list 13 X.m (fun i => trs (dT (X.f i)))) (.slice a1 l1 c1)) (hz : szT 2 (trs (tT X)) <= 1048576) :
 Calls Tryz.prog 8 #[.agg (tL X a1 l1 c1).toArray] w fun e w' => ∃ b1 d1, e = .returned (.agg (tL X b1 l1 d1).toArray) /\ Own1 w' w.heap.size w'.heap.size (tT X) (tL X b1 l1 d1) /\ Below w.heap.size w w' := by
 obtain ⟨W, hW⟩ : ∃ W, W = ((w.alloc (.cells (tL X a1 l1 c1).toArray 24)).alloc (.cells #[.int .i64 0, .slice none 0 0] 35)).alloc (.cells (#[.int .i64 X.nx, .slice none 0 0] : Array Value) 35) := ⟨_, rfl⟩
 have bW : Below w.heap.size w W := by rw [hW]; exact bel_nx (bel_nx (bel_alloc w _) (bel_alloc _ _)) (bel_alloc _ _)
 have A0 : Blk W w.heap.size 24 (tL X a1 l1 c1).toArray := by rw [hW]; exact ((Blk.new w _ _).below (bel_alloc _ _)).below (bel_alloc _ _)
 have R0 : Blk W (w.heap.size + 1) 35 #[.int .i64 0, .slice none 0 0] := by
  rw [hW]; have := (Blk.new (w.alloc (.cells (tL X a1 l1 c1).toArray 24)) #[.int .i64 0, .slice none 0 0] 35).below (bel_alloc _ (.cells (#[.int .i64 X.nx, .slice none 0 0] : Array Value) 35)); simpa using this
 have O0 : Blk W (w.heap.size + 1 + 1) 35 (#[.int .i64 X.nx, .slice none 0 0] : Array Value) := by
  rw [hW]; have := Blk.new ((w.alloc (.cells (tL X a1 l1 c1).toArray 24)).alloc (.cells #[.int .i64 0, .slice none 0 0] 35)) (#[.int .i64 X.nx, .slice none 0 0] : Array Value) 35; simpa using this
 have hs0 : W.heap.size = (w.heap.size + 1 + 1 + 1) := by rw [hW]; simp
 have HZ : Hid ((Tr.list 13 X.m (fun i => trs (dT (X.f i)))).sz <= 1048576) := by
  rw [szT_t] at hz
  show (Tr.list 13 X.m (fun i => trs (dT (X.f i)))).sz <= 1048576
  try simp only [szT_q, szT_a, szT_p, szT_d, szT_t, true_and]
  omega
 have HR : Hid (Rd w 0 (.list 13 X.m (fun i => trs (dT (X.f i)))) (.slice a1 l1 c1)) := r1
 have G0 : Hid (Below w.heap.size w W /\ Blk W w.heap.size 24 (tL X a1 l1 c1).toArray /\ Blk W (w.heap.size + 1) 35 #[.int .i64 0, .slice none 0 0] /\ Blk W (w.heap.size + 1 + 1) 35 (#[.int .i64 X.nx, .slice none 0 0] : Array Value) /\ (w.heap.size + 1 + 1 + 1) <= W.heap.size /\ Own1 W (w.heap.size + 1 + 1 + 1) W.heap.size ([]) ([])) := ⟨bW, A0, R0, O0, by omega, Own1.nil _ _ _⟩
 clear bW A0 R0 O0 hs0 hz r1
 go_enter Tryz.func8, Tryz.ntmps8
 go_upto_region 3 with fail
 rw [<- hW]
 clear hW
 obtain ⟨⟨y0, y1⟩, yf⟩ := G0.out.2.1.tc2
 clear yf
 go_wp2_with fail
 refine (toPendS_m X.m X.f a1 l1 c1 _ (HR.out.below G0.out.1) HZ.out).mono ?_
 rintro e w1 ⟨b1, d1, rfl, q, hb1⟩
 clear y0 y1
 have q := Own1.one q
 have O1 := G0.out.2.2.2.1.below hb1
 obtain ⟨⟨z0, z1⟩, zf⟩ := O1.tc2
 have zg1 := zf 1
 obtain ⟨W1, hW1⟩ : ∃ W9, W9 = setL w1 (w.heap.size + 1 + 1) 1 [.slice b1 l1 d1] := ⟨_, rfl⟩
 have G1 : Hid (Below w.heap.size w W1 /\ Blk W1 w.heap.size 24 (tL X a1 l1 c1).toArray /\ Blk W1 (w.heap.size + 1) 35 #[.int .i64 0, .slice none 0 0] /\ Blk W1 (w.heap.size + 1 + 1) 35 (#[.int .i64 X.nx, .slice b1 l1 d1] : Array Value) /\ (w.heap.size + 1 + 1 + 1) <= W1.heap.size /\ Own1 W1 (w.heap.size + 1 + 1 + 1) W1.heap.size ([] ++ ([.list 13 X.m (fun i => trs (dT (X.f i)))])) ([] ++ ([.slice b1 l1 d1]))) := by
  have hg : w1.grownBy W1 (some (w.heap.size + 1 + 1)) := by rw [hW1]; exact setL_gw _ _ _
  have hs9 := G0.out.2.2.2.2.1
  have hs8 := hb1.size
  have hs7 := hg.size
  refine ⟨by rw [hW1]; exact setL_below (by omega) _ _ _ (bel_nx G0.out.1 hb1), by rw [hW1]; exact Blk.stNe (by omega) _ _ (G0.out.2.1.below hb1), by rw [hW1]; exact Blk.stNe (by omega) _ _ (G0.out.2.2.1.below hb1), by rw [hW1, show (#[.int .i64 X.nx, .slice b1 l1 d1] : Array Value) = wrA (#[.int .i64 X.nx, .slice none 0 0] : Array Value) 1 [.slice b1 l1 d1] from (by simp [wrA])]; exact Blk.stL _ _ O1, by omega, G0.out.2.2.2.2.2.next hb1 q hg (by omega) hs9⟩
 have hX1 : W1 = (w1.setCell ⟨w.heap.size + 1 + 1, 1, none⟩ (.slice b1 l1 d1)) := by rw [hW1]; simp only [setL, Nat.reduceAdd, Nat.zero_add]
 clear O1 hb1 hW1 q
 go_upto_region 4 with fail
 rw [<- hX1]
 clear hX1 zf z0 z1 zg1
 obtain ⟨W9, hW9⟩ : ∃ W9, W9 = setL W1 (w.heap.size + 1) 0 (tL X b1 l1 d1) := ⟨_, rfl⟩
 have H9 : Hid (Own1 W9 w.heap.size W9.heap.size (tT X) (tL X b1 l1 d1) /\ Below w.heap.size w W9 /\ Blk W9 (w.heap.size + 1) 35 (tL X b1 l1 d1).toArray) := by
  have hg : W1.grownBy W9 (some (w.heap.size + 1)) := by rw [hW9]; exact setL_gw _ _ _
  have hs9 := G1.out.2.2.2.2.1
  have hs7 := hg.size
  exact ⟨(Own1.leaf (.int .i64 X.nx) ((G1.out.2.2.2.2.2.kept hg (by omega) (Nat.le_refl _)).mono (lo' := w.heap.size) (by omega) hs7) (by omega)), by rw [hW9]; exact setL_below (by omega) _ _ _ G1.out.1, by rw [hW9, show (tL X b1 l1 d1).toArray = wrA (#[.int .i64 0, .slice none 0 0] : Array Value) 0 (tL X b1 l1 d1) from (by simp [wrA])]; exact Blk.stL _ _ G1.out.2.2.1⟩
 have hr := G1.out.2.2.2.1.all
 have ht := G1.out.2.2.1.there 0 2 (by simp)
 clear G1
 refine wp_region_lit ?_
 refine wpList_load_mid rfl 35 (.tmp 3) rfl (w.heap.size + 1 + 1) 0 rfl (tL X b1 l1 d1) _ hr Tryz.underlying35 rfl (by kernel_rfl) ?_
 refine wpList_store_mid rfl 35 (.tmp 2) (.tmp 11) rfl (w.heap.size + 1) 0 (tL X b1 l1 d1).toArray rfl rfl ht (by kernel_rfl) (by simp [Value.oneCell']) ?_
 rw [setCells_L, <- hW9]
 clear hW9 hr ht
 refine wpList_nil ?_
 go_wp2
 obtain ⟨⟨y0, y1⟩, yf⟩ := H9.out.2.2.tc2
 refine bodyPost_ret (v := .agg (tL X b1 l1 d1).toArray) (by simp [results, Tryz.results8, go_sem, y0, y1]) rfl ⟨b1, d1, rfl, H9.out.1, H9.out.2.1⟩
end Go.Proofs.YtlhjiiifmfgnoaaGreat
namespace Go.Proofs.YtlhjiiifmfgnoaaGreat
open Go.RowKit Go.Joins
theorem Blk.six3 {w : World} {g : Nat} {t : TypeId} {v0 v1 v2 v3 v4 v5 : Value} (h : Blk w g t #[v0, v1, v2, v3, v4, v5]) : w.cell? ⟨g, 0, none⟩ = some v0 /\ w.cell? ⟨g, 1, none⟩ = some v1 /\ w.cell? ⟨g, 2, none⟩ = some v2 /\ w.cell? ⟨g, 3, none⟩ = some v3 /\ w.cell? ⟨g, 4, none⟩ = some v4 /\ w.cell? ⟨g, 5, none⟩ = some v5 :=
 ⟨h.cell 0 rfl, h.cell 1 rfl, h.cell 2 rfl, h.cell 3 rfl, h.cell 4 rfl, h.cell 5 rfl⟩
abbrev rpL (kd fl pl nn : Int) (a1 a2 : Option Addr) (l1 l2 c1 c2 : Nat) : Array Value := #[.int .i64 kd, .int .i64 fl, .int .i64 pl, .int .i64 nn, .slice a1 l1 c1, .slice a2 l2 c2]
abbrev rqL (kd pl nn wa : Int) (a1 a2 : Option Addr) (l1 l2 c1 c2 : Nat) : Array Value := #[.int .i64 kd, .int .i64 pl, .int .i64 nn, .slice a1 l1 c1, .slice a2 l2 c2, .int .i64 wa]
abbrev rq0 : Array Value := #[.int .i64 0, .int .i64 0, .int .i64 0, .slice none 0 0, .slice none 0 0, .int .i64 0]
def RqP (w w' : World) (e : Ending) (kd pl nn wa : Int) (l1 l2 : Nat) (ws : List Int) (bs : List Bool) : Prop :=
 ∃ a1 a2 c1 c2, e = .returned (.agg (rqL kd pl nn wa a1 a2 l1 l2 c1 c2)) /\ OwnI w' w.heap.size (.slice a1 l1 c1) ws /\ OwnB w' w.heap.size (.slice a2 l2 c2) bs /\ Below w.heap.size w w'
def CqP (w : World) (B : Nat) (kd pl nn wa : Int) (m1 m2 : Nat) (ws : List Int) (bs : List Bool) (wx : World) : Prop :=
 ∃ g1 g2, Blk wx B 39 (rqL kd pl nn wa (some ⟨g1, 0, none⟩) (some ⟨g2, 0, none⟩) m1 m2 m1 m2) /\ OwnI wx w.heap.size (.slice (some ⟨g1, 0, none⟩) m1 m1) ws /\ OwnB wx w.heap.size (.slice (some ⟨g2, 0, none⟩) m2 m2) bs /\ Blk wx (B + 1) 39 rq0 /\ Below w.heap.size w wx
theorem cqA {w u : World} {B : Nat} {kd pl nn wa : Int} {q1 q2 : Option Addr} {m1 m2 k1 k2 g1 g2 : Nat} {ws : List Int} {bs : List Bool} (hB : Blk u B 39 (rqL kd pl nn wa q1 q2 m1 m2 k1 k2)) (o1 : OwnI u w.heap.size (.slice (some ⟨g1, 0, none⟩) m1 m1) ws) (o2 : OwnB u w.heap.size (.slice (some ⟨g2, 0, none⟩) m2 m2) bs) (hR : Blk u (B + 1) 39 rq0) (hb : Below w.heap.size w u) (hBw : w.heap.size <= B) :
 CqP w B kd pl nn wa m1 m2 ws bs ((u.setCell ⟨B, 3, none⟩ (.slice (some ⟨g1, 0, none⟩) m1 m1)).setCell ⟨B, 4, none⟩ (.slice (some ⟨g2, 0, none⟩) m2 m2)) := by
 refine ⟨g1, g2, ?_, row_setE (row_setE o1 ⟨_, hB⟩ (by decide)) (ExB.set ⟨_, hB⟩) (by decide), row_setE (row_setE o2 ⟨_, hB⟩ (by decide)) (ExB.set ⟨_, hB⟩) (by decide), (hR.setNe (by omega)).setNe (by omega), (hb.setCell (p := ⟨B, 3, none⟩) hBw _).setCell (p := ⟨B, 4, none⟩) hBw _⟩
 have h9 := (hB.set 3 (.slice (some ⟨g1, 0, none⟩) m1 m1)).set 4 (.slice (some ⟨g2, 0, none⟩) m2 m2)
 simpa using h9
theorem implCopyReq_any (kd pl nn wa : Int) (q1 q2 : Option Addr) (m1 m2 k1 k2 : Nat) (ws : List Int) (bs : List Bool) (w : World) (h1 : m1 = ws.length) (h2 : m2 = bs.length) (s1 : SlI w q1 ws) (s2 : SlB w q2 bs) (hl1 : m1 <= 2000000) (hl2 : m2 <= 2000000) :
 Calls Tryz.prog 56 #[.agg (rqL kd pl nn wa q1 q2 m1 m2 k1 k2)] w fun e w' => RqP w w' e kd pl nn wa m1 m2 ws bs := by
 obtain ⟨B, hB⟩ : ∃ B, B = w.heap.size := ⟨_, rfl⟩
 obtain ⟨W, hW⟩ : ∃ W, W = (w.alloc (.cells (rqL kd pl nn wa q1 q2 m1 m2 k1 k2) 39)).alloc (.cells rq0 39) := ⟨_, rfl⟩
 have bW : Below w.heap.size w W := by rw [hW]; exact bel_nx (bel_alloc _ _) (bel_alloc _ _)
 have HW : Hid (Below w.heap.size w W /\ Blk W B 39 (rqL kd pl nn wa q1 q2 m1 m2 k1 k2) /\ Blk W (B + 1) 39 rq0 /\ SlI W q1 ws /\ SlB W q2 bs /\ m1 = ws.length /\ m2 = bs.length /\ w.heap.size <= B) := ⟨bW, by rw [hW, hB]; exact (Blk.new w _ _).below (bel_alloc _ _), by rw [hW, hB]; have := Blk.new (w.alloc (.cells (rqL kd pl nn wa q1 q2 m1 m2 k1 k2) 39)) rq0 39; simpa using this, s1.below bW, s2.below bW, h1, h2, by omega⟩
 clear bW h1 h2 s1 s2
 go_enter Tryz.func56, Tryz.ntmps56
 go_upto_region 1 with fail
 rw [<- hW]
 have hB1 : w.heap.size + 1 = B + 1 := by omega
 rw [hB1, <- hB]
 clear hW hB hB1
 obtain ⟨y0, y1, y2, y3, y4, y5⟩ := HW.out.2.1.six3
 go_cut [] (fun wx => CqP w B kd pl nn wa m1 m2 ws bs wx)
 case first =>
  go_region_with (first
   | (go_at_call 82; refine (copyOfI q1 m1 k1 ws _ HW.out.2.2.2.2.2.1 (HW.out.2.2.2.1.below (by first | exact Below.refl _ _ | exact (Below.refl _ _).drew | exact (Below.refl _ _).drew.drew)) (by have := HW.out.2.2.2.2.2.1; omega)).mono ?_; rintro e w1 ⟨g1, rfl, O1', b1'⟩; have H1 : Hid (Below W.heap.size W w1 /\ OwnI w1 w.heap.size (.slice (some ⟨g1, 0, none⟩) m1 m1) ws) := (by have b9 : Below W.heap.size W w1 := bel_nx (by first | exact Below.refl _ _ | exact (Below.refl _ _).drew | exact (Below.refl _ _).drew.drew) b1'; exact ⟨b9, OwnI.mono (show OwnI _ _ _ _ from O1') HW.out.1.size⟩); clear O1' b1'; obtain ⟨z0, z1, z2, z3, z4, z5⟩ := (HW.out.2.1.below H1.out.1).six3; have zf := (HW.out.2.1.below H1.out.1).fro; have zf3 := zf 3; have zf4 := zf 4)
   | (go_at_call 57; refine (copyOfB q2 m2 k2 bs _ HW.out.2.2.2.2.2.2.1 (HW.out.2.2.2.2.1.below (by first | exact H1.out.1 | exact H1.out.1.drew | exact H1.out.1.drew.drew)) (by have := HW.out.2.2.2.2.2.2.1; omega)).mono ?_; rintro e w2 ⟨g2, rfl, O2', b2'⟩; have H2 : Hid (Below W.heap.size W w2 /\ OwnI w2 w.heap.size (.slice (some ⟨g1, 0, none⟩) m1 m1) ws /\ OwnB w2 w.heap.size (.slice (some ⟨g2, 0, none⟩) m2 m2) bs) := (by have b8 : Below w1.heap.size w1 w2 := bel_nx (by first | exact Below.refl _ _ | exact (Below.refl _ _).drew | exact (Below.refl _ _).drew.drew) b2'; have b9 := bel_nx H1.out.1 b8; exact ⟨b9, H1.out.2.below b8, OwnB.mono (show OwnB _ _ _ _ from O2') (Nat.le_trans HW.out.1.size (Nat.le_trans H1.out.1.size (by first | exact Nat.le_refl _ | (simp))))⟩); clear O2' b2'; obtain ⟨x0, x1, x2, x3, x4, x5⟩ := (HW.out.2.1.below H2.out.1).six3; have xf := (HW.out.2.1.below H2.out.1).fro; have xf3 := xf 3; have xf4 := xf 4))
  all_goals (go_wp2_with fail; go_meet; first | exact cqA (HW.out.2.1.below H2.out.1) H2.out.2.1 H2.out.2.2 (HW.out.2.2.1.below H2.out.1) (bel_nx HW.out.1 H2.out.1) HW.out.2.2.2.2.2.2.2 | exact cqB (HW.out.2.1.below H2.out.1) H2.out.2.1 H2.out.2.2 (HW.out.2.2.1.below H2.out.1) (bel_nx HW.out.1 H2.out.1) HW.out.2.2.2.2.2.2.2)
 case rest =>
 obtain ⟨g1, g2, X1, O1, O2, R1, b1⟩ := hcut
 rename World => u
 have HX : Hid (OwnI u w.heap.size (.slice (some ⟨g1, 0, none⟩) m1 m1) ws /\ OwnB u w.heap.size (.slice (some ⟨g2, 0, none⟩) m2 m2) bs /\ Below w.heap.size w u /\ Blk u (B + 1) 39 rq0) := ⟨O1, O2, b1, R1⟩
 clear y0 y1 y2 y3 y4 y5
 obtain ⟨y0, y1, y2, y3, y4, y5⟩ := X1.six3
 obtain ⟨x0, x1, x2, x3, x4, x5⟩ := R1.six3
 have f0 := R1.fro 0
 have f1 := R1.fro 1
 have f2 := R1.fro 2
 have f3 := R1.fro 3
 have f4 := R1.fro 4
 have f5 := R1.fro 5
 have HY : Hid (OwnI (setL u (B + 1) 0 (rqL kd pl nn wa (some ⟨g1, 0, none⟩) (some ⟨g2, 0, none⟩) m1 m2 m1 m2).toList) w.heap.size (.slice (some ⟨g1, 0, none⟩) m1 m1) ws /\ OwnB (setL u (B + 1) 0 (rqL kd pl nn wa (some ⟨g1, 0, none⟩) (some ⟨g2, 0, none⟩) m1 m2 m1 m2).toList) w.heap.size (.slice (some ⟨g2, 0, none⟩) m2 m2) bs /\ Below w.heap.size w (setL u (B + 1) 0 (rqL kd pl nn wa (some ⟨g1, 0, none⟩) (some ⟨g2, 0, none⟩) m1 m2 m1 m2).toList)) := ⟨row_stL O1 ⟨_, R1⟩ (by decide), row_stL O2 ⟨_, R1⟩ (by decide), setL_below (by have := HW.out.2.2.2.2.2.2.2; omega) _ _ _ b1⟩
 clear X1 O1 O2 R1 b1 HX HW
 go_wp2
 refine bodyPost_ret (v := .agg (rqL kd pl nn wa (some ⟨g1, 0, none⟩) (some ⟨g2, 0, none⟩) m1 m2 m1 m2)) (by simp [results, Tryz.results56, go_sem, x0, x1, x2, x3, x4, x5]) rfl ⟨_, _, _, _, rfl, HY.out.1, HY.out.2.1, HY.out.2.2⟩
abbrev rp0 : Array Value := #[.int .i64 0, .int .i64 0, .int .i64 0, .int .i64 0, .slice none 0 0, .slice none 0 0]
def RrP (w w' : World) (e : Ending) (kd fl pl nn : Int) (l1 l2 : Nat) (ws : List Int) (bs : List Bool) : Prop :=
 ∃ a1 a2 c1 c2, e = .returned (.agg (rpL kd fl pl nn a1 a2 l1 l2 c1 c2)) /\ OwnI w' w.heap.size (.slice a1 l1 c1) ws /\ OwnB w' w.heap.size (.slice a2 l2 c2) bs /\ Below w.heap.size w w'
def CrP (w : World) (B : Nat) (kd fl pl nn : Int) (m1 m2 : Nat) (ws : List Int) (bs : List Bool) (wx : World) : Prop :=
 ∃ g1 g2, Blk wx B 89 (rpL kd fl pl nn (some ⟨g1, 0, none⟩) (some ⟨g2, 0, none⟩) m1 m2 m1 m2) /\ OwnI wx w.heap.size (.slice (some ⟨g1, 0, none⟩) m1 m1) ws /\ OwnB wx w.heap.size (.slice (some ⟨g2, 0, none⟩) m2 m2) bs /\ Blk wx (B + 1) 89 rp0 /\ Below w.heap.size w wx
theorem crA {w u : World} {B : Nat} {kd fl pl nn : Int} {q1 q2 : Option Addr} {m1 m2 k1 k2 g1 g2 : Nat} {ws : List Int} {bs : List Bool} (hB : Blk u B 89 (rpL kd fl pl nn q1 q2 m1 m2 k1 k2)) (o1 : OwnI u w.heap.size (.slice (some ⟨g1, 0, none⟩) m1 m1) ws) (o2 : OwnB u w.heap.size (.slice (some ⟨g2, 0, none⟩) m2 m2) bs) (hR : Blk u (B + 1) 89 rp0) (hb : Below w.heap.size w u) (hBw : w.heap.size <= B) :
 CrP w B kd fl pl nn m1 m2 ws bs ((u.setCell ⟨B, 4, none⟩ (.slice (some ⟨g1, 0, none⟩) m1 m1)).setCell ⟨B, 5, none⟩ (.slice (some ⟨g2, 0, none⟩) m2 m2)) := by
 refine ⟨g1, g2, ?_, row_setE (row_setE o1 ⟨_, hB⟩ (by decide)) (ExB.set ⟨_, hB⟩) (by decide), row_setE (row_setE o2 ⟨_, hB⟩ (by decide)) (ExB.set ⟨_, hB⟩) (by decide), (hR.setNe (by omega)).setNe (by omega), (hb.setCell (p := ⟨B, 4, none⟩) hBw _).setCell (p := ⟨B, 5, none⟩) hBw _⟩
 have h9 := (hB.set 4 (.slice (some ⟨g1, 0, none⟩) m1 m1)).set 5 (.slice (some ⟨g2, 0, none⟩) m2 m2)
 simpa using h9
theorem implCopyResp_any (kd fl pl nn : Int) (q1 q2 : Option Addr) (m1 m2 k1 k2 : Nat) (ws : List Int) (bs : List Bool) (w : World) (h1 : m1 = ws.length) (h2 : m2 = bs.length) (s1 : SlI w q1 ws) (s2 : SlB w q2 bs) (hl1 : m1 <= 2000000) (hl2 : m2 <= 2000000) :
 Calls Tryz.prog 61 #[.agg (rpL kd fl pl nn q1 q2 m1 m2 k1 k2)] w fun e w' => RrP w w' e kd fl pl nn m1 m2 ws bs := by
 obtain ⟨B, hB⟩ : ∃ B, B = w.heap.size := ⟨_, rfl⟩
 obtain ⟨W, hW⟩ : ∃ W, W = (w.alloc (.cells (rpL kd fl pl nn q1 q2 m1 m2 k1 k2) 89)).alloc (.cells rp0 89) := ⟨_, rfl⟩
 have bW : Below w.heap.size w W := by rw [hW]; exact bel_nx (bel_alloc _ _) (bel_alloc _ _)
 have HW : Hid (Below w.heap.size w W /\ Blk W B 89 (rpL kd fl pl nn q1 q2 m1 m2 k1 k2) /\ Blk W (B + 1) 89 rp0 /\ SlI W q1 ws /\ SlB W q2 bs /\ m1 = ws.length /\ m2 = bs.length /\ w.heap.size <= B) := ⟨bW, by rw [hW, hB]; exact (Blk.new w _ _).below (bel_alloc _ _), by rw [hW, hB]; have := Blk.new (w.alloc (.cells (rpL kd fl pl nn q1 q2 m1 m2 k1 k2) 89)) rp0 89; simpa using this, s1.below bW, s2.below bW, h1, h2, by omega⟩
 clear bW h1 h2 s1 s2
 go_enter Tryz.func61, Tryz.ntmps61
 go_upto_region 1 with fail
 rw [<- hW]
 have hB1 : w.heap.size + 1 = B + 1 := by omega
 rw [hB1, <- hB]
 clear hW hB hB1
 obtain ⟨y0, y1, y2, y3, y4, y5⟩ := HW.out.2.1.six3
 go_cut [] (fun wx => CrP w B kd fl pl nn m1 m2 ws bs wx)
 case first =>
  go_region_with (first
   | (go_at_call 82; refine (copyOfI q1 m1 k1 ws _ HW.out.2.2.2.2.2.1 (HW.out.2.2.2.1.below (by first | exact Below.refl _ _ | exact (Below.refl _ _).drew | exact (Below.refl _ _).drew.drew)) (by have := HW.out.2.2.2.2.2.1; omega)).mono ?_; rintro e w1 ⟨g1, rfl, O1', b1'⟩; have H1 : Hid (Below W.heap.size W w1 /\ OwnI w1 w.heap.size (.slice (some ⟨g1, 0, none⟩) m1 m1) ws) := (by have b9 : Below W.heap.size W w1 := bel_nx (by first | exact Below.refl _ _ | exact (Below.refl _ _).drew | exact (Below.refl _ _).drew.drew) b1'; exact ⟨b9, OwnI.mono (show OwnI _ _ _ _ from O1') HW.out.1.size⟩); clear O1' b1'; obtain ⟨z0, z1, z2, z3, z4, z5⟩ := (HW.out.2.1.below H1.out.1).six3; have zf := (HW.out.2.1.below H1.out.1).fro; have zf3 := zf 4; have zf4 := zf 5)
   | (go_at_call 57; refine (copyOfB q2 m2 k2 bs _ HW.out.2.2.2.2.2.2.1 (HW.out.2.2.2.2.1.below (by first | exact H1.out.1 | exact H1.out.1.drew | exact H1.out.1.drew.drew)) (by have := HW.out.2.2.2.2.2.2.1; omega)).mono ?_; rintro e w2 ⟨g2, rfl, O2', b2'⟩; have H2 : Hid (Below W.heap.size W w2 /\ OwnI w2 w.heap.size (.slice (some ⟨g1, 0, none⟩) m1 m1) ws /\ OwnB w2 w.heap.size (.slice (some ⟨g2, 0, none⟩) m2 m2) bs) := (by have b8 : Below w1.heap.size w1 w2 := bel_nx (by first | exact Below.refl _ _ | exact (Below.refl _ _).drew | exact (Below.refl _ _).drew.drew) b2'; have b9 := bel_nx H1.out.1 b8; exact ⟨b9, H1.out.2.below b8, OwnB.mono (show OwnB _ _ _ _ from O2') (Nat.le_trans HW.out.1.size (Nat.le_trans H1.out.1.size (by first | exact Nat.le_refl _ | (simp))))⟩); clear O2' b2'; obtain ⟨x0, x1, x2, x3, x4, x5⟩ := (HW.out.2.1.below H2.out.1).six3; have xf := (HW.out.2.1.below H2.out.1).fro; have xf3 := xf 4; have xf4 := xf 5))
  all_goals (go_wp2_with fail; go_meet; first | exact crA (HW.out.2.1.below H2.out.1) H2.out.2.1 H2.out.2.2 (HW.out.2.2.1.below H2.out.1) (bel_nx HW.out.1 H2.out.1) HW.out.2.2.2.2.2.2.2 | exact crB (HW.out.2.1.below H2.out.1) H2.out.2.1 H2.out.2.2 (HW.out.2.2.1.below H2.out.1) (bel_nx HW.out.1 H2.out.1) HW.out.2.2.2.2.2.2.2)
 case rest =>
 obtain ⟨g1, g2, X1, O1, O2, R1, b1⟩ := hcut
 rename World => u
 have HX : Hid (OwnI u w.heap.size (.slice (some ⟨g1, 0, none⟩) m1 m1) ws /\ OwnB u w.heap.size (.slice (some ⟨g2, 0, none⟩) m2 m2) bs /\ Below w.heap.size w u /\ Blk u (B + 1) 89 rp0) := ⟨O1, O2, b1, R1⟩
 clear y0 y1 y2 y3 y4 y5
 obtain ⟨y0, y1, y2, y3, y4, y5⟩ := X1.six3
 obtain ⟨x0, x1, x2, x3, x4, x5⟩ := R1.six3
 have f0 := R1.fro 0
 have f1 := R1.fro 1
 have f2 := R1.fro 2
 have f3 := R1.fro 3
 have f4 := R1.fro 4
 have f5 := R1.fro 5
 have HY : Hid (OwnI (setL u (B + 1) 0 (rpL kd fl pl nn (some ⟨g1, 0, none⟩) (some ⟨g2, 0, none⟩) m1 m2 m1 m2).toList) w.heap.size (.slice (some ⟨g1, 0, none⟩) m1 m1) ws /\ OwnB (setL u (B + 1) 0 (rpL kd fl pl nn (some ⟨g1, 0, none⟩) (some ⟨g2, 0, none⟩) m1 m2 m1 m2).toList) w.heap.size (.slice (some ⟨g2, 0, none⟩) m2 m2) bs /\ Below w.heap.size w (setL u (B + 1) 0 (rpL kd fl pl nn (some ⟨g1, 0, none⟩) (some ⟨g2, 0, none⟩) m1 m2 m1 m2).toList)) := ⟨row_stL O1 ⟨_, R1⟩ (by decide), row_stL O2 ⟨_, R1⟩ (by decide), setL_below (by have := HW.out.2.2.2.2.2.2.2; omega) _ _ _ b1⟩
 clear X1 O1 O2 R1 b1 HX HW
 go_wp2
 refine bodyPost_ret (v := .agg (rpL kd fl pl nn (some ⟨g1, 0, none⟩) (some ⟨g2, 0, none⟩) m1 m2 m1 m2)) (by simp [results, Tryz.results61, go_sem, x0, x1, x2, x3, x4, x5]) rfl ⟨_, _, _, _, rfl, HY.out.1, HY.out.2.1, HY.out.2.2⟩
theorem copyReq_m (X : VQ) (a1 : Option Addr) (l1 c1 : Nat) (a2 : Option Addr) (l2 c2 : Nat) (w : World) (r1 : Rd w 0 (intsT X.ws) (.slice a1 l1 c1)) (r2 : Rd w 0 (boolsT X.bs) (.slice a2 l2 c2)) (hz : szT 6 (trs (qT X)) <= 1048576) :
 Calls Tryz.prog 56 #[.agg (qL X a1 l1 c1 a2 l2 c2).toArray] w fun e w' => ∃ b1 d1 b2 d2, e = .returned (.agg (qL X b1 l1 d1 b2 l2 d2).toArray) /\ Own1 w' w.heap.size w'.heap.size (qT X) (qL X b1 l1 d1 b2 l2 d2) /\ Below w.heap.size w w' := by
 rw [szT_q] at hz
 obtain ⟨a9, c9, h9, -, hm1, hs1⟩ := r1.ints
 simp only [Value.slice.injEq] at h9
 obtain ⟨rfl, rfl, rfl⟩ := h9
 obtain ⟨a9, c9, h9, -, hm2, hs2⟩ := r2.bools
 simp only [Value.slice.injEq] at h9
 obtain ⟨rfl, rfl, rfl⟩ := h9
 refine (implCopyReq_any X.kd X.pl X.n X.wa a1 a2 _ _ c1 c2 X.ws X.bs w rfl rfl hs1 hs2 (by omega) (by omega)).mono ?_
 rintro e w' ⟨g1, g2, d1, d2, rfl, h1, h2, h3⟩
 exact ⟨_, _, _, _, rfl, VQ.own h1 h2, h3⟩
theorem copyResp_m (X : VA) (a1 : Option Addr) (l1 c1 : Nat) (a2 : Option Addr) (l2 c2 : Nat) (w : World) (r1 : Rd w 0 (intsT X.ws) (.slice a1 l1 c1)) (r2 : Rd w 0 (boolsT X.bs) (.slice a2 l2 c2)) (hz : szT 6 (trs (aT X)) <= 1048576) :
 Calls Tryz.prog 61 #[.agg (aL X a1 l1 c1 a2 l2 c2).toArray] w fun e w' => ∃ b1 d1 b2 d2, e = .returned (.agg (aL X b1 l1 d1 b2 l2 d2).toArray) /\ Own1 w' w.heap.size w'.heap.size (aT X) (aL X b1 l1 d1 b2 l2 d2) /\ Below w.heap.size w w' := by
 rw [szT_a] at hz
 obtain ⟨a9, c9, h9, -, hm1, hs1⟩ := r1.ints
 simp only [Value.slice.injEq] at h9
 obtain ⟨rfl, rfl, rfl⟩ := h9
 obtain ⟨a9, c9, h9, -, hm2, hs2⟩ := r2.bools
 simp only [Value.slice.injEq] at h9
 obtain ⟨rfl, rfl, rfl⟩ := h9
 refine (implCopyResp_any X.kd X.fl X.pl X.n a1 a2 _ _ c1 c2 X.ws X.bs w rfl rfl hs1 hs2 (by omega) (by omega)).mono ?_
 rintro e w' ⟨g1, g2, d1, d2, rfl, h1, h2, h3⟩
 exact ⟨_, _, _, _, rfl, VA.own h1 h2, h3⟩
theorem copyPart_m (X : VP) (a1 : Option Addr) (l1 c1 : Nat) (a2 : Option Addr) (l2 c2 : Nat) (w : World) (r1 : Rd w 0 (intsT X.q.ws) (.slice a1 l1 c1)) (r2 : Rd w 0 (boolsT X.q.bs) (.slice a2 l2 c2)) (hz : szT 8 (trs (pT X)) <= 1048576) :
 Calls Tryz.prog 59 #[.agg (pL X a1 l1 c1 a2 l2 c2).toArray] w fun e w' => ∃ b1 d1 b2 d2, e = .returned (.agg (pL X b1 l1 d1 b2 l2 d2).toArray) /\ Own1 w' w.heap.size w'.heap.size (pT X) (pL X b1 l1 d1 b2 l2 d2) /\ Below w.heap.size w w' := by
 obtain ⟨W, hW⟩ : ∃ W, W = (w.alloc (.cells (pL X a1 l1 c1 a2 l2 c2).toArray 68)).alloc (.cells #[.int .i64 0, .int .i64 0, .int .i64 0, .int .i64 0, .int .i64 0, .slice none 0 0, .slice none 0 0, .int .i64 0] 68) := ⟨_, rfl⟩
 have bW : Below w.heap.size w W := by rw [hW]; exact bel_nx (bel_alloc w _) (bel_alloc _ _)
 have A0 : Blk W w.heap.size 68 (pL X a1 l1 c1 a2 l2 c2).toArray := by rw [hW]; exact (Blk.new w _ _).below (bel_alloc _ _)
 have R0 : Blk W (w.heap.size + 1) 68 #[.int .i64 0, .int .i64 0, .int .i64 0, .int .i64 0, .int .i64 0, .slice none 0 0, .slice none 0 0, .int .i64 0] := by
  rw [hW]; have := Blk.new (w.alloc (.cells (pL X a1 l1 c1 a2 l2 c2).toArray 68)) #[.int .i64 0, .int .i64 0, .int .i64 0, .int .i64 0, .int .i64 0, .slice none 0 0, .slice none 0 0, .int .i64 0] 68; simpa using this
 have hs0 : W.heap.size = (w.heap.size + 1 + 1) := by rw [hW]; simp
 have HZ : Hid (szT 6 (trs (qT X.q)) <= 1048576) := by
  rw [szT_p] at hz
  show szT 6 (trs (qT X.q)) <= 1048576
  try simp only [szT_q, szT_a, szT_p, szT_d, szT_t, true_and]
  omega
 have HR : Hid (Rd w 0 (intsT X.q.ws) (.slice a1 l1 c1) /\ Rd w 0 (boolsT X.q.bs) (.slice a2 l2 c2)) := ⟨r1, r2⟩
 have G0 : Hid (Below w.heap.size w W /\ Blk W w.heap.size 68 (pL X a1 l1 c1 a2 l2 c2).toArray /\ Blk W (w.heap.size + 1) 68 #[.int .i64 0, .int .i64 0, .int .i64 0, .int .i64 0, .int .i64 0, .slice none 0 0, .slice none 0 0, .int .i64 0] /\ (w.heap.size + 1 + 1) <= W.heap.size) := ⟨bW, A0, R0, by omega⟩
 clear bW A0 R0 hs0 hz r1 r2
 go_enter Tryz.func59, Tryz.ntmps59
 go_upto_region 1 with fail
 rw [<- hW]
 clear hW
 obtain ⟨⟨y0, y1, y2, y3, y4, y5, y6, y7⟩, yf⟩ := G0.out.2.1.tc8
 clear yf
 go_wp2_with fail
 refine (copyReq_m X.q a1 l1 c1 a2 l2 c2 _ (HR.out.1.below G0.out.1) (HR.out.2.below G0.out.1) HZ.out).mono ?_
 rintro e w1 ⟨b1, d1, b2, d2, rfl, q, hb1⟩
 clear y0 y1 y2 y3 y4 y5 y6 y7
 have O1 := G0.out.2.1.below hb1
 obtain ⟨⟨z0, z1, z2, z3, z4, z5, z6, z7⟩, zf⟩ := O1.tc8
 have zg2 := zf 2
 have zg3 := zf 3
 have zg4 := zf 4
 have zg5 := zf 5
 have zg6 := zf 6
 have zg7 := zf 7
 obtain ⟨W1, hW1⟩ : ∃ W9, W9 = setL w1 w.heap.size 2 [.int .i64 X.q.kd, .int .i64 X.q.pl, .int .i64 X.q.n, .slice b1 l1 d1, .slice b2 l2 d2, .int .i64 X.q.wa] := ⟨_, rfl⟩
 have G1 : Hid (Below w.heap.size w W1 /\ Blk W1 w.heap.size 68 (pL X b1 l1 d1 b2 l2 d2).toArray /\ Blk W1 (w.heap.size + 1) 68 #[.int .i64 0, .int .i64 0, .int .i64 0, .int .i64 0, .int .i64 0, .slice none 0 0, .slice none 0 0, .int .i64 0] /\ (w.heap.size + 1 + 1) <= W1.heap.size /\ Own1 W1 (w.heap.size + 1 + 1) W1.heap.size (qT X.q) (qL X.q b1 l1 d1 b2 l2 d2)) := by
  have hg : w1.grownBy W1 (some w.heap.size) := by rw [hW1]; exact setL_gw _ _ _
  have hs9 := G0.out.2.2.2
  have hs8 := hb1.size
  have hs7 := hg.size
  refine ⟨by rw [hW1]; exact setL_below (Nat.le_refl _) _ _ _ (bel_nx G0.out.1 hb1), by rw [hW1, show (pL X b1 l1 d1 b2 l2 d2).toArray = wrA (#[.int .i64 X.p, .int .i64 X.t, .int .i64 X.q.kd, .int .i64 X.q.pl, .int .i64 X.q.n, .slice a1 l1 c1, .slice a2 l2 c2, .int .i64 X.q.wa] : Array Value) 2 [.int .i64 X.q.kd, .int .i64 X.q.pl, .int .i64 X.q.n, .slice b1 l1 d1, .slice b2 l2 d2, .int .i64 X.q.wa] from (by simp [wrA])]; exact Blk.stL _ _ O1, by rw [hW1]; exact Blk.stNe (by omega) _ _ (G0.out.2.2.1.below hb1), by omega, ((q.mono hs9 (Nat.le_refl _)).kept hg (by omega) (Nat.le_refl _)).mono (Nat.le_refl _) hs7⟩
 have hX1 : W1 = ((((((w1.setCell ⟨w.heap.size, 2, none⟩ (.int .i64 X.q.kd)).setCell ⟨w.heap.size, 3, none⟩ (.int .i64 X.q.pl)).setCell ⟨w.heap.size, 4, none⟩ (.int .i64 X.q.n)).setCell ⟨w.heap.size, 5, none⟩ (.slice b1 l1 d1)).setCell ⟨w.heap.size, 6, none⟩ (.slice b2 l2 d2)).setCell ⟨w.heap.size, 7, none⟩ (.int .i64 X.q.wa)) := by rw [hW1]; simp only [setL, Nat.reduceAdd, Nat.zero_add]
 clear O1 hb1 hW1 q
 go_upto_region 2 with fail
 rw [<- hX1]
 clear hX1 zf z0 z1 z2 z3 z4 z5 z6 z7 zg2 zg3 zg4 zg5 zg6 zg7
 obtain ⟨W9, hW9⟩ : ∃ W9, W9 = setL W1 (w.heap.size + 1) 0 (pL X b1 l1 d1 b2 l2 d2) := ⟨_, rfl⟩
 have H9 : Hid (Own1 W9 w.heap.size W9.heap.size (pT X) (pL X b1 l1 d1 b2 l2 d2) /\ Below w.heap.size w W9 /\ Blk W9 (w.heap.size + 1) 68 (pL X b1 l1 d1 b2 l2 d2).toArray) := by
  have hg : W1.grownBy W9 (some (w.heap.size + 1)) := by rw [hW9]; exact setL_gw _ _ _
  have hs9 := G1.out.2.2.2.1
  have hs7 := hg.size
  exact ⟨(Own1.leaf (.int .i64 X.p) (Own1.leaf (.int .i64 X.t) ((G1.out.2.2.2.2.kept hg (by omega) (Nat.le_refl _)).mono (lo' := w.heap.size) (by omega) hs7) (by omega)) (by omega)), by rw [hW9]; exact setL_below (by omega) _ _ _ G1.out.1, by rw [hW9, show (pL X b1 l1 d1 b2 l2 d2).toArray = wrA (#[.int .i64 0, .int .i64 0, .int .i64 0, .int .i64 0, .int .i64 0, .slice none 0 0, .slice none 0 0, .int .i64 0] : Array Value) 0 (pL X b1 l1 d1 b2 l2 d2) from (by simp [wrA])]; exact Blk.stL _ _ G1.out.2.2.1⟩
 have hr := G1.out.2.1.all
 have ht := G1.out.2.2.1.there 0 8 (by simp)
 clear G1
 refine wp_region_lit ?_
 refine wpList_load_mid rfl 68 (.tmp 1) rfl w.heap.size 0 rfl (pL X b1 l1 d1 b2 l2 d2) _ hr Tryz.underlying68 rfl (by kernel_rfl) ?_
 refine wpList_store_mid rfl 68 (.tmp 2) (.tmp 7) rfl (w.heap.size + 1) 0 (pL X b1 l1 d1 b2 l2 d2).toArray rfl rfl ht (by kernel_rfl) (by simp [Value.oneCell']) ?_
 rw [setCells_L, <- hW9]
 clear hW9 hr ht
 refine wpList_nil ?_
 go_wp2
 obtain ⟨⟨y0, y1, y2, y3, y4, y5, y6, y7⟩, yf⟩ := H9.out.2.2.tc8
 refine bodyPost_ret (v := .agg (pL X b1 l1 d1 b2 l2 d2).toArray) (by simp [results, Tryz.results59, go_sem, y0, y1, y2, y3, y4, y5, y6, y7]) rfl ⟨b1, d1, b2, d2, rfl, H9.out.1, H9.out.2.1⟩
end Go.Proofs.YtlhjiiifmfgnoaaGreat
namespace Go.Proofs.YtlhjiiifmfgnoaaGreat
theorem wraps_i64' (n : Int) (h₀ : 0 <= n) (h₁ : n < 2 ^ 32) : IntKind.i64.wrap n = n := by rw [IntKind.wrap_i64]; omega
end Go.Proofs.YtlhjiiifmfgnoaaGreat
namespace Go.Proofs.YtlhjiiifmfgnoaaGreat
open Go.RowKit
end Go.Proofs.YtlhjiiifmfgnoaaGreat
