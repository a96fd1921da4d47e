/- Texts that the proof needs, joined: Tr3. -/
import Derived.Test.YtplaoagcedgdfaaGreatW2
set_option linter.unusedVariables false
set_option linter.unusedSimpArgs false
set_option maxHeartbeats 4000000
set_option maxRecDepth 20000
namespace Go.Proofs.YtplaoagcedgdfaaGreat
open Go.RowKit Go.Joins Go.Proofs.Tryz
abbrev z240 : Array Value := #[.int .i64 0, .int .i64 0, .int .i64 0, .int .i64 0, .int .i64 0, .int .i64 0, .int .i64 0, .slice none 0 0, .slice none 0 0, .int .i64 0, .slice none 0 0, .slice none 0 0, .slice none 0 0]
abbrev z241 : Array Value := #[.int .i64 0, .int .i64 0, .int .i64 0, .int .i64 0, .int .i64 0, .slice none 0 0, .slice none 0 0, .int .i64 0]
theorem toBoolS_t (ws : List Bool) (a : Option Addr) (l c : Nat) (w : World) (r : Rd w 0 (boolsT ws) (.slice a l c)) (hz : ws.length <= 1048576) :
 Calls prog 198 #[.slice a l c] w fun e w' => ∃ b d, e = .returned (.slice b l d) /\ Rd w' w.heap.size (boolsT ws) (.slice b l d) /\ Below w.heap.size w w' := by
 obtain ⟨a9, c9, h9, -, hm, hs⟩ := r.bools
 simp only [Value.slice.injEq] at h9
 obtain ⟨rfl, rfl, rfl⟩ := h9
 refine (toBoolS_ok _ _ _ ws w rfl hs (by omega)).mono ?_
 rintro e w' ⟨g, rfl, h1, h2⟩
 exact ⟨_, _, rfl, h1.rd (Nat.le_refl _) hm, h2⟩
theorem toReq_t (X : VQ) (a1 : Option Addr) (l1 c1 : Nat) (a2 : Option Addr) (l2 c2 : Nat) (w : World) (r1 : Rd w 0 (intsT X.ws) (.slice a1 l1 c1)) (r2 : Rd w 0 (boolsT X.bs) (.slice a2 l2 c2)) (hz : szT 6 (trs (qT X)) <= 1048576) :
 Calls prog 181 #[.agg (qL X a1 l1 c1 a2 l2 c2).toArray] w fun e w' => ∃ b1 d1 b2 d2, e = .returned (.agg (qL X b1 l1 d1 b2 l2 d2).toArray) /\ Rd w' w.heap.size (intsT X.ws) (.slice b1 l1 d1) /\ Rd w' w.heap.size (boolsT X.bs) (.slice b2 l2 d2) /\ Below w.heap.size w w' := by
 rw [szT_q] at hz
 obtain ⟨a9, c9, h9, -, hm1, hs1⟩ := r1.ints
 simp only [Value.slice.injEq] at h9
 obtain ⟨rfl, rfl, rfl⟩ := h9
 obtain ⟨a9, c9, h9, -, hm2, hs2⟩ := r2.bools
 simp only [Value.slice.injEq] at h9
 obtain ⟨rfl, rfl, rfl⟩ := h9
 refine (toReq_any X.kd X.pl X.n X.wa _ _ _ _ _ _ X.ws X.bs w rfl rfl hs1 hs2 (by omega) (by omega)).mono ?_
 rintro e w' ⟨g1, g2, rfl, h1, h2, h3⟩
 exact ⟨_, _, _, _, rfl, h1.rd (Nat.le_refl _) hm1, h2.rd (Nat.le_refl _) hm2, h3⟩
theorem toResp_t (X : VA) (a1 : Option Addr) (l1 c1 : Nat) (a2 : Option Addr) (l2 c2 : Nat) (w : World) (r1 : Rd w 0 (intsT X.ws) (.slice a1 l1 c1)) (r2 : Rd w 0 (boolsT X.bs) (.slice a2 l2 c2)) (hz : szT 6 (trs (aT X)) <= 1048576) :
 Calls prog 182 #[.agg (aL X a1 l1 c1 a2 l2 c2).toArray] w fun e w' => ∃ b1 d1 b2 d2, e = .returned (.agg (aL X b1 l1 d1 b2 l2 d2).toArray) /\ Rd w' w.heap.size (intsT X.ws) (.slice b1 l1 d1) /\ Rd w' w.heap.size (boolsT X.bs) (.slice b2 l2 d2) /\ Below w.heap.size w w' := by
 rw [szT_a] at hz
 obtain ⟨a9, c9, h9, -, hm1, hs1⟩ := r1.ints
 simp only [Value.slice.injEq] at h9
 obtain ⟨rfl, rfl, rfl⟩ := h9
 obtain ⟨a9, c9, h9, -, hm2, hs2⟩ := r2.bools
 simp only [Value.slice.injEq] at h9
 obtain ⟨rfl, rfl, rfl⟩ := h9
 refine (toResp_any X.kd X.fl X.pl X.n _ _ _ _ _ _ X.ws X.bs w rfl rfl hs1 hs2 (by omega) (by omega)).mono ?_
 rintro e w' ⟨g1, g2, rfl, h1, h2, h3⟩
 exact ⟨_, _, _, _, rfl, h1.rd (Nat.le_refl _) hm1, h2.rd (Nat.le_refl _) hm2, h3⟩
theorem toRespS_t (n : Nat) (f : Nat -> VA) (a : Option Addr) (n' cap : Nat) (w : World) (hs : Rd w 0 (.list 6 n (fun k => trs (aT (f k)))) (.slice a n' cap)) (hz : (Tr.list 6 n (fun k => trs (aT (f k)))).sz <= 1048576) :
 Calls prog 184 #[.slice a n' cap] w fun e w' => ∃ b d, e = .returned (.slice b n' d) /\ Rd w' w.heap.size (.list 6 n (fun k => trs (aT (f k)))) (.slice b n' d) /\ Below w.heap.size w w' := by
 obtain ⟨a9, c9, h9, -, hn⟩ := hs.shape
 simp only [Value.slice.injEq] at h9
 obtain ⟨-, rfl, -⟩ := h9
 clear a9 c9
 have hn1 : n' <= 1048576 := by rw [Tr.sz_list] at hz; omega
 have HZ : Hid (∀ k, k < n' -> szT 6 (trs (aT (f k))) <= 1048576) := by
  show ∀ k, k < n' -> szT 6 (trs (aT (f k))) <= 1048576
  intro k hk
  rw [Tr.sz_list] at hz
  have := sumN_at (fun k => szT 6 (trs (aT (f k)))) hk
  omega
 have hmk := run_make_st (P := prog) 139 118 (.agg #[.int .i64 0, .int .i64 0, .int .i64 0, .int .i64 0, .slice none 0 0, .slice none 0 0]) 6 80 underlying139 (by kernel_rfl) .i64 .i64 n' (by omega) (by omega)
 have HS : Hid (Rd w 0 (.list 6 n' (fun k => trs (aT (f k)))) (.slice a n' cap) /\ n' <= maxLen) := ⟨hs, hn⟩
 clear hs hz hn
 go_enter func184, ntmps184
 go_wp2
 clear hmk
 go_loopw [4] (fun i wr => ∃ (k : Nat) (F : Nat -> List Value), k <= n' /\ i = .int .i64 k /\ RowS wr w.heap.size 118 6 n' F /\ (∀ j, j < k -> (F j).length = 6 /\ RdL wr (w.heap.size + 1) (trs (aT (f j))) (F j)) /\ Below w.heap.size w wr) (fun i _ => n' - (intOf i).toNat)
 case atStart => exact ⟨0, fun _ => (#[.int .i64 0, .int .i64 0, .int .i64 0, .int .i64 0, .slice none 0 0, .slice none 0 0]).toList, Nat.zero_le _, rfl, RowS.made w (#[.int .i64 0, .int .i64 0, .int .i64 0, .int .i64 0, .slice none 0 0, .slice none 0 0]).toList n' _ (by simp), fun j hj => by omega, (Below.refl _ _).alloc (Nat.le_refl _) _⟩
 case round =>
  obtain ⟨k, F, hk, rfl, hrow, hin, hb⟩ := hrel
  by_cases hlt : k < n'
  ·have hi : (k : Int) < (n' : Int) := by omega
   obtain ⟨b, off, vs, rfl, _, hb0, hlen, hr, hrd⟩ := (HS.out.1.below hb).at hlt
   obtain ⟨a1, c1, a2, c2, rfl, r1, r2⟩ := VA.cells hrd hlen
   clear hlen hrd
   have d09 : wr.cell? ⟨b, off + k * 6, none⟩ = _ := hr 0 _ rfl
   have d19 := hr 1 _ rfl
   have d29 := hr 2 _ rfl
   have d39 := hr 3 _ rfl
   have d49 := hr 4 _ rfl
   have d59 := hr 5 _ rfl
   have HK : Hid (RowS wr w.heap.size 118 6 n' F /\ (∀ j, j < k -> (F j).length = 6 /\ RdL wr (w.heap.size + 1) (trs (aT (f j))) (F j)) /\ Below w.heap.size w wr /\ Rd wr 0 (intsT (f k).ws) (.slice a1 ((f k).ws.length) c1) /\ Rd wr 0 (boolsT (f k).bs) (.slice a2 ((f k).bs.length) c2)) := ⟨hrow, hin, hb, r1, r2⟩
   clear hrow hin hb hr hb0 r1 r2
   go_wp2_with fail
   refine (toResp_t (f k) a1 ((f k).ws.length) c1 a2 ((f k).bs.length) c2 _ HK.out.2.2.2.1 HK.out.2.2.2.2 (HZ.out k hlt)).mono ?_
   rintro e w1 ⟨b1, d1, b2, d2, rfl, q1, q2, hb1⟩
   have R1 := HK.out.1.below hb1
   obtain ⟨rx0, ry0⟩ : ∃ v, w1.cell? ⟨w.heap.size, k * 6, none⟩ = some v := R1.ex hlt (j := 0) (by decide)
   obtain ⟨rx1, ry1⟩ := R1.ex hlt (j := 1) (by decide)
   obtain ⟨rx2, ry2⟩ := R1.ex hlt (j := 2) (by decide)
   obtain ⟨rx3, ry3⟩ := R1.ex hlt (j := 3) (by decide)
   obtain ⟨rx4, ry4⟩ := R1.ex hlt (j := 4) (by decide)
   obtain ⟨rx5, ry5⟩ := R1.ex hlt (j := 5) (by decide)
   obtain ⟨W2, hW2⟩ : ∃ W2, W2 = setL w1 w.heap.size (k * 6) (aL (f k) b1 ((f k).ws.length) d1 b2 ((f k).bs.length) d2) := ⟨_, rfl⟩
   have H2 : Hid (∃ F', RowS W2 w.heap.size 118 6 n' F' /\ (∀ j, j < k + 1 -> (F' j).length = 6 /\ RdL W2 (w.heap.size + 1) (trs (aT (f j))) (F' j)) /\ Below w.heap.size w W2) := by
    have hg : w1.grownBy W2 (some w.heap.size) := by rw [hW2]; exact setL_gw _ _ _
    have hs1 := HK.out.1.lt
    refine ⟨_, by rw [hW2]; exact R1.set hlt _ rfl, fun j hj => ?_, by rw [hW2]; exact setL_below (Nat.le_refl _) _ _ _ (bel_nx HK.out.2.2.1 hb1)⟩
    by_cases e : j = k
    ·subst e
     simp only [if_true]
     exact ⟨rfl, VA.back ((q1.mono (by omega)).kept hg (by omega)) ((q2.mono (by omega)).kept hg (by omega))⟩
    simp only [if_neg e]
    have h9 := HK.out.2.1 j (by omega)
    exact ⟨h9.1, (h9.2.below hb1).kept hg (by omega)⟩
   have hW2' : W2 = ((((((w1.setCell ⟨w.heap.size, k * 6, none⟩ (.int .i64 (f k).kd)).setCell ⟨w.heap.size, k * 6 + 1, none⟩ (.int .i64 (f k).fl)).setCell ⟨w.heap.size, k * 6 + 2, none⟩ (.int .i64 (f k).pl)).setCell ⟨w.heap.size, k * 6 + 3, none⟩ (.int .i64 (f k).n)).setCell ⟨w.heap.size, k * 6 + 4, none⟩ (.slice b1 ((f k).ws.length) d1)).setCell ⟨w.heap.size, k * 6 + 5, none⟩ (.slice b2 ((f k).bs.length) d2)) := by rw [hW2]; simp only [setL, Nat.reduceAdd, Nat.zero_add, Nat.add_zero, Nat.add_assoc]
   have HE : Hid (∀ j, w1.frozen? ⟨w.heap.size, j, none⟩ = false) := R1.fro
   have qf0 := HE.out (k * 6)
   have qf1 := HE.out (k * 6 + 1)
   have qf2 := HE.out (k * 6 + 2)
   have qf3 := HE.out (k * 6 + 3)
   have qf4 := HE.out (k * 6 + 4)
   have qf5 := HE.out (k * 6 + 5)
   clear R1 hb1 HK d09 d19 d29 d39 d49 d59 hW2 HE q1 q2
   go_wp2
   rw [<- hW2']
   clear hW2'
   go_roundw
   case rel =>
    obtain ⟨F', x1, x2, x3⟩ := H2.out
    exact ⟨k + 1, F', by omega, by go_num, x1, x2, x3⟩
   case measure => simp [intOf]; omega
  have hi : ¬ (k : Int) < (n' : Int) := by omega
  have e9 : k = n' := by omega
  subst e9
  have HR : Hid (RowS wr w.heap.size 118 6 k F /\ (∀ j, j < k -> (F j).length = 6 /\ RdL wr (w.heap.size + 1) (trs (aT (f j))) (F j)) /\ Below w.heap.size w wr) := ⟨hrow, hin, hb⟩
  clear hrow hin hb
  go_wp2
  go_ret
  exact ⟨_, _, rfl, Rd.made HR.out.1 (Nat.le_refl _) HS.out.2 (fun j hj => ⟨(HR.out.2.1 j hj).1, (HR.out.2.1 j hj).2.mono (by omega)⟩), HR.out.2.2⟩
theorem toPart_t (X : VP) (a1 : Option Addr) (l1 c1 : Nat) (a2 : Option Addr) (l2 c2 : Nat) (w : World) (r1 : Rd w 0 (intsT X.q.ws) (.slice a1 l1 c1)) (r2 : Rd w 0 (boolsT X.q.bs) (.slice a2 l2 c2)) (hz : szT 8 (trs (pT X)) <= 1048576) :
 Calls prog 223 #[.agg (pL X a1 l1 c1 a2 l2 c2).toArray] w fun e w' => ∃ b1 d1 b2 d2, e = .returned (.agg (pL X b1 l1 d1 b2 l2 d2).toArray) /\ Rd w' w.heap.size (intsT X.q.ws) (.slice b1 l1 d1) /\ Rd w' w.heap.size (boolsT X.q.bs) (.slice b2 l2 d2) /\ Below w.heap.size w w' := by
 obtain ⟨W, hW⟩ : ∃ W, W = ((w.alloc (.cells (pL X a1 l1 c1 a2 l2 c2).toArray 268)).alloc (.cells z241 144)).alloc (.cells (#[.int .i64 X.p, .int .i64 X.t, .int .i64 0, .int .i64 0, .int .i64 0, .slice none 0 0, .slice none 0 0, .int .i64 0] : Array Value) 144) := ⟨_, rfl⟩
 have bW : Below w.heap.size w W := by rw [hW]; exact bel_nx (bel_nx (bel_alloc w _) (bel_alloc _ _)) (bel_alloc _ _)
 have A0 : Blk W w.heap.size 268 (pL X a1 l1 c1 a2 l2 c2).toArray := by rw [hW]; exact ((Blk.new w _ _).below (bel_alloc _ _)).below (bel_alloc _ _)
 have R0 : Blk W (w.heap.size + 1) 144 z241 := by
  rw [hW]; have := (Blk.new (w.alloc (.cells (pL X a1 l1 c1 a2 l2 c2).toArray 268)) z241 144).below (bel_alloc _ (.cells (#[.int .i64 X.p, .int .i64 X.t, .int .i64 0, .int .i64 0, .int .i64 0, .slice none 0 0, .slice none 0 0, .int .i64 0] : Array Value) 144)); simpa using this
 have O0 : Blk W (w.heap.size + 1 + 1) 144 (#[.int .i64 X.p, .int .i64 X.t, .int .i64 0, .int .i64 0, .int .i64 0, .slice none 0 0, .slice none 0 0, .int .i64 0] : Array Value) := by
  rw [hW]; have := Blk.new ((w.alloc (.cells (pL X a1 l1 c1 a2 l2 c2).toArray 268)).alloc (.cells z241 144)) (#[.int .i64 X.p, .int .i64 X.t, .int .i64 0, .int .i64 0, .int .i64 0, .slice none 0 0, .slice none 0 0, .int .i64 0] : Array Value) 144; simpa using this
 have hs0 : W.heap.size = (w.heap.size + 1 + 1 + 1) := by rw [hW]; simp
 have HZ : Hid (szT 6 (trs (qT X.q)) <= 1048576) := by
  rw [szT_p] at hz
  show szT 6 (trs (qT X.q)) <= 1048576
  try simp only [szT_q, szT_a, szT_p, szT_d, szT_t, true_and]
  omega
 have HR : Hid (Rd w 0 (intsT X.q.ws) (.slice a1 l1 c1) /\ Rd w 0 (boolsT X.q.bs) (.slice a2 l2 c2)) := ⟨r1, r2⟩
 have G0 : Hid (GF w W 268 (pL X a1 l1 c1 a2 l2 c2).toArray 144 z241 (#[.int .i64 X.p, .int .i64 X.t, .int .i64 0, .int .i64 0, .int .i64 0, .slice none 0 0, .slice none 0 0, .int .i64 0] : Array Value) ((w.heap.size + 1 + 1 + 1) <= W.heap.size)) := ⟨bW, A0, R0, O0, by omega⟩
 clear bW A0 R0 O0 hs0 hz r1 r2
 go_enter func223, ntmps223
 go_upto_region 4 with fail
 rw [<- hW]
 clear hW
 obtain ⟨⟨y0, y1, y2, y3, y4, y5, y6, y7⟩, yf⟩ := G0.out.2.1.tc8
 clear yf
 go_wp2_with fail
 refine (toReq_t X.q a1 l1 c1 a2 l2 c2 _ (HR.out.1.below G0.out.1) (HR.out.2.below G0.out.1) HZ.out).mono ?_
 rintro e w1 ⟨b1, d1, b2, d2, rfl, q1, q2, hb1⟩
 clear y0 y1 y2 y3 y4 y5 y6 y7
 have O1 := G0.out.2.2.2.1.below hb1
 obtain ⟨⟨z0, z1, z2, z3, z4, z5, z6, z7⟩, zf⟩ := O1.tc8
 have zg2 := zf 2
 have zg3 := zf 3
 have zg4 := zf 4
 have zg5 := zf 5
 have zg6 := zf 6
 have zg7 := zf 7
 obtain ⟨W1, hW1⟩ : ∃ W9, W9 = setL w1 (w.heap.size + 1 + 1) 2 [.int .i64 X.q.kd, .int .i64 X.q.pl, .int .i64 X.q.n, .slice b1 l1 d1, .slice b2 l2 d2, .int .i64 X.q.wa] := ⟨_, rfl⟩
 have G1 : Hid (GF w W1 268 (pL X a1 l1 c1 a2 l2 c2).toArray 144 z241 (#[.int .i64 X.p, .int .i64 X.t, .int .i64 X.q.kd, .int .i64 X.q.pl, .int .i64 X.q.n, .slice b1 l1 d1, .slice b2 l2 d2, .int .i64 X.q.wa] : Array Value) ((w.heap.size + 1 + 1 + 1) <= W1.heap.size /\ Rd W1 (w.heap.size + 1 + 1 + 1) (intsT X.q.ws) (.slice b1 l1 d1) /\ Rd W1 (w.heap.size + 1 + 1 + 1) (boolsT X.q.bs) (.slice b2 l2 d2))) := by
  have hg : w1.grownBy W1 (some (w.heap.size + 1 + 1)) := by rw [hW1]; exact setL_gw _ _ _
  have hs9 := G0.out.2.2.2.2
  have hs8 := hb1.size
  have hs7 := hg.size
  refine ⟨by rw [hW1]; exact setL_below (by omega) _ _ _ (bel_nx G0.out.1 hb1), by rw [hW1]; exact Blk.stNe (by omega) _ _ (G0.out.2.1.below hb1), by rw [hW1]; exact Blk.stNe (by omega) _ _ (G0.out.2.2.1.below hb1), stO hW1 O1, by omega, (q1.mono hs9).kept hg (by omega), (q2.mono hs9).kept hg (by omega)⟩
 have hX1 : W1 = ((((((w1.setCell ⟨w.heap.size + 1 + 1, 2, none⟩ (.int .i64 X.q.kd)).setCell ⟨w.heap.size + 1 + 1, 3, none⟩ (.int .i64 X.q.pl)).setCell ⟨w.heap.size + 1 + 1, 4, none⟩ (.int .i64 X.q.n)).setCell ⟨w.heap.size + 1 + 1, 5, none⟩ (.slice b1 l1 d1)).setCell ⟨w.heap.size + 1 + 1, 6, none⟩ (.slice b2 l2 d2)).setCell ⟨w.heap.size + 1 + 1, 7, none⟩ (.int .i64 X.q.wa)) := by rw [hW1]; simp only [setL, Nat.reduceAdd, Nat.zero_add]
 clear O1 hb1 hW1 q1 q2
 go_upto_region 5 with fail
 rw [<- hX1]
 clear hX1 zf z0 z1 z2 z3 z4 z5 z6 z7 zg2 zg3 zg4 zg5 zg6 zg7
 obtain ⟨W9, hW9⟩ : ∃ W9, W9 = setL W1 (w.heap.size + 1) 0 (pL X b1 l1 d1 b2 l2 d2) := ⟨_, rfl⟩
 have H9 : Hid (Rd W9 w.heap.size (intsT X.q.ws) (.slice b1 l1 d1) /\ Rd W9 w.heap.size (boolsT X.q.bs) (.slice b2 l2 d2) /\ Below w.heap.size w W9 /\ Blk W9 (w.heap.size + 1) 144 (pL X b1 l1 d1 b2 l2 d2).toArray) := by
  have hg : W1.grownBy W9 (some (w.heap.size + 1)) := by rw [hW9]; exact setL_gw _ _ _
  exact ⟨((G1.out.2.2.2.2.2.1).kept hg (by omega)).mono (by omega), ((G1.out.2.2.2.2.2.2).kept hg (by omega)).mono (by omega), by rw [hW9]; exact setL_below (by omega) _ _ _ G1.out.1, by rw [hW9, show (pL X b1 l1 d1 b2 l2 d2).toArray = wrA (#[.int .i64 0, .int .i64 0, .int .i64 0, .int .i64 0, .int .i64 0, .slice none 0 0, .slice none 0 0, .int .i64 0] : Array Value) 0 (pL X b1 l1 d1 b2 l2 d2) from (by simp [wrA])]; exact Blk.stL _ _ G1.out.2.2.1⟩
 have hr := G1.out.2.2.2.1.all
 have ht := G1.out.2.2.1.there 0 8 (by simp)
 clear G1
 refine wp_region_lit ?_
 refine wpList_load_mid rfl 144 (.tmp 3) rfl (w.heap.size + 1 + 1) 0 rfl (pL X b1 l1 d1 b2 l2 d2) _ hr underlying144 rfl (by kernel_rfl) ?_
 refine wpList_store_mid rfl 144 (.tmp 2) (.tmp 14) rfl (w.heap.size + 1) 0 (pL X b1 l1 d1 b2 l2 d2).toArray rfl rfl ht (by kernel_rfl) (by simp [Value.oneCell']) ?_
 rw [setCells_L, <- hW9]
 clear hW9 hr ht
 refine wpList_nil ?_
 go_wp2
 obtain ⟨⟨y0, y1, y2, y3, y4, y5, y6, y7⟩, yf⟩ := H9.out.2.2.2.tc8
 refine bodyPost_ret (v := .agg (pL X b1 l1 d1 b2 l2 d2).toArray) (by simp [results, results223, go_sem, y0, y1, y2, y3, y4, y5, y6, y7]) rfl ⟨b1, d1, b2, d2, rfl, H9.out.1, H9.out.2.1, H9.out.2.2.1⟩
theorem toPartS_t (n : Nat) (f : Nat -> VP) (a : Option Addr) (n' cap : Nat) (w : World) (hs : Rd w 0 (.list 8 n (fun k => trs (pT (f k)))) (.slice a n' cap)) (hz : (Tr.list 8 n (fun k => trs (pT (f k)))).sz <= 1048576) :
 Calls prog 183 #[.slice a n' cap] w fun e w' => ∃ b d, e = .returned (.slice b n' d) /\ Rd w' w.heap.size (.list 8 n (fun k => trs (pT (f k)))) (.slice b n' d) /\ Below w.heap.size w w' := by
 obtain ⟨a9, c9, h9, -, hn⟩ := hs.shape
 simp only [Value.slice.injEq] at h9
 obtain ⟨-, rfl, -⟩ := h9
 clear a9 c9
 have hn1 : n' <= 1048576 := by rw [Tr.sz_list] at hz; omega
 have HZ : Hid (∀ k, k < n' -> szT 8 (trs (pT (f k))) <= 1048576) := by
  show ∀ k, k < n' -> szT 8 (trs (pT (f k))) <= 1048576
  intro k hk
  rw [Tr.sz_list] at hz
  have := sumN_at (fun k => szT 8 (trs (pT (f k)))) hk
  omega
 have hmk := run_make_st (P := prog) 138 144 (.agg z241) 8 96 underlying138 (by kernel_rfl) .i64 .i64 n' (by omega) (by omega)
 have HS : Hid (Rd w 0 (.list 8 n' (fun k => trs (pT (f k)))) (.slice a n' cap) /\ n' <= maxLen) := ⟨hs, hn⟩
 clear hs hz hn
 go_enter func183, ntmps183
 go_wp2
 clear hmk
 go_loopw [4] (fun i wr => ∃ (k : Nat) (F : Nat -> List Value), k <= n' /\ i = .int .i64 k /\ RowS wr w.heap.size 144 8 n' F /\ (∀ j, j < k -> (F j).length = 8 /\ RdL wr (w.heap.size + 1) (trs (pT (f j))) (F j)) /\ Below w.heap.size w wr) (fun i _ => n' - (intOf i).toNat)
 case atStart => exact ⟨0, fun _ => (z241).toList, Nat.zero_le _, rfl, RowS.made w (z241).toList n' _ (by simp), fun j hj => by omega, (Below.refl _ _).alloc (Nat.le_refl _) _⟩
 case round =>
  obtain ⟨k, F, hk, rfl, hrow, hin, hb⟩ := hrel
  by_cases hlt : k < n'
  ·have hi : (k : Int) < (n' : Int) := by omega
   obtain ⟨b, off, vs, rfl, _, hb0, hlen, hr, hrd⟩ := (HS.out.1.below hb).at hlt
   obtain ⟨a1, c1, a2, c2, rfl, r1, r2⟩ := VP.cells hrd hlen
   clear hlen hrd
   have d09 : wr.cell? ⟨b, off + k * 8, none⟩ = _ := hr 0 _ rfl
   have d19 := hr 1 _ rfl
   have d29 := hr 2 _ rfl
   have d39 := hr 3 _ rfl
   have d49 := hr 4 _ rfl
   have d59 := hr 5 _ rfl
   have d69 := hr 6 _ rfl
   have d79 := hr 7 _ rfl
   have HK : Hid (RowS wr w.heap.size 144 8 n' F /\ (∀ j, j < k -> (F j).length = 8 /\ RdL wr (w.heap.size + 1) (trs (pT (f j))) (F j)) /\ Below w.heap.size w wr /\ Rd wr 0 (intsT (f k).q.ws) (.slice a1 ((f k).q.ws.length) c1) /\ Rd wr 0 (boolsT (f k).q.bs) (.slice a2 ((f k).q.bs.length) c2)) := ⟨hrow, hin, hb, r1, r2⟩
   clear hrow hin hb hr hb0 r1 r2
   go_wp2_with fail
   refine (toPart_t (f k) a1 ((f k).q.ws.length) c1 a2 ((f k).q.bs.length) c2 _ HK.out.2.2.2.1 HK.out.2.2.2.2 (HZ.out k hlt)).mono ?_
   rintro e w1 ⟨b1, d1, b2, d2, rfl, q1, q2, hb1⟩
   have R1 := HK.out.1.below hb1
   obtain ⟨rx0, ry0⟩ : ∃ v, w1.cell? ⟨w.heap.size, k * 8, none⟩ = some v := R1.ex hlt (j := 0) (by decide)
   obtain ⟨rx1, ry1⟩ := R1.ex hlt (j := 1) (by decide)
   obtain ⟨rx2, ry2⟩ := R1.ex hlt (j := 2) (by decide)
   obtain ⟨rx3, ry3⟩ := R1.ex hlt (j := 3) (by decide)
   obtain ⟨rx4, ry4⟩ := R1.ex hlt (j := 4) (by decide)
   obtain ⟨rx5, ry5⟩ := R1.ex hlt (j := 5) (by decide)
   obtain ⟨rx6, ry6⟩ := R1.ex hlt (j := 6) (by decide)
   obtain ⟨rx7, ry7⟩ := R1.ex hlt (j := 7) (by decide)
   obtain ⟨W2, hW2⟩ : ∃ W2, W2 = setL w1 w.heap.size (k * 8) (pL (f k) b1 ((f k).q.ws.length) d1 b2 ((f k).q.bs.length) d2) := ⟨_, rfl⟩
   have H2 : Hid (∃ F', RowS W2 w.heap.size 144 8 n' F' /\ (∀ j, j < k + 1 -> (F' j).length = 8 /\ RdL W2 (w.heap.size + 1) (trs (pT (f j))) (F' j)) /\ Below w.heap.size w W2) := by
    have hg : w1.grownBy W2 (some w.heap.size) := by rw [hW2]; exact setL_gw _ _ _
    have hs1 := HK.out.1.lt
    refine ⟨_, by rw [hW2]; exact R1.set hlt _ rfl, fun j hj => ?_, by rw [hW2]; exact setL_below (Nat.le_refl _) _ _ _ (bel_nx HK.out.2.2.1 hb1)⟩
    by_cases e : j = k
    ·subst e
     simp only [if_true]
     exact ⟨rfl, VP.back ((q1.mono (by omega)).kept hg (by omega)) ((q2.mono (by omega)).kept hg (by omega))⟩
    simp only [if_neg e]
    have h9 := HK.out.2.1 j (by omega)
    exact ⟨h9.1, (h9.2.below hb1).kept hg (by omega)⟩
   have hW2' : W2 = ((((((((w1.setCell ⟨w.heap.size, k * 8, none⟩ (.int .i64 (f k).p)).setCell ⟨w.heap.size, k * 8 + 1, none⟩ (.int .i64 (f k).t)).setCell ⟨w.heap.size, k * 8 + 2, none⟩ (.int .i64 (f k).q.kd)).setCell ⟨w.heap.size, k * 8 + 3, none⟩ (.int .i64 (f k).q.pl)).setCell ⟨w.heap.size, k * 8 + 4, none⟩ (.int .i64 (f k).q.n)).setCell ⟨w.heap.size, k * 8 + 5, none⟩ (.slice b1 ((f k).q.ws.length) d1)).setCell ⟨w.heap.size, k * 8 + 6, none⟩ (.slice b2 ((f k).q.bs.length) d2)).setCell ⟨w.heap.size, k * 8 + 7, none⟩ (.int .i64 (f k).q.wa)) := by rw [hW2]; simp only [setL, Nat.reduceAdd, Nat.zero_add, Nat.add_zero, Nat.add_assoc]
   have HE : Hid (∀ j, w1.frozen? ⟨w.heap.size, j, none⟩ = false) := R1.fro
   have qf0 := HE.out (k * 8)
   have qf1 := HE.out (k * 8 + 1)
   have qf2 := HE.out (k * 8 + 2)
   have qf3 := HE.out (k * 8 + 3)
   have qf4 := HE.out (k * 8 + 4)
   have qf5 := HE.out (k * 8 + 5)
   have qf6 := HE.out (k * 8 + 6)
   have qf7 := HE.out (k * 8 + 7)
   clear R1 hb1 HK d09 d19 d29 d39 d49 d59 d69 d79 hW2 HE q1 q2
   go_wp2
   rw [<- hW2']
   clear hW2'
   go_roundw
   case rel =>
    obtain ⟨F', x1, x2, x3⟩ := H2.out
    exact ⟨k + 1, F', by omega, by go_num, x1, x2, x3⟩
   case measure => simp [intOf]; omega
  have hi : ¬ (k : Int) < (n' : Int) := by omega
  have e9 : k = n' := by omega
  subst e9
  have HR : Hid (RowS wr w.heap.size 144 8 k F /\ (∀ j, j < k -> (F j).length = 8 /\ RdL wr (w.heap.size + 1) (trs (pT (f j))) (F j)) /\ Below w.heap.size w wr) := ⟨hrow, hin, hb⟩
  clear hrow hin hb
  go_wp2
  go_ret
  exact ⟨_, _, rfl, Rd.made HR.out.1 (Nat.le_refl _) HS.out.2 (fun j hj => ⟨(HR.out.2.1 j hj).1, (HR.out.2.1 j hj).2.mono (by omega)⟩), HR.out.2.2⟩
theorem toPend_t (X : VD) (a1 : Option Addr) (l1 c1 : Nat) (a2 : Option Addr) (l2 c2 : Nat) (a3 : Option Addr) (l3 c3 : Nat) (a4 : Option Addr) (l4 c4 : Nat) (a5 : Option Addr) (l5 c5 : Nat) (w : World) (r1 : Rd w 0 (intsT X.q.ws) (.slice a1 l1 c1)) (r2 : Rd w 0 (boolsT X.q.bs) (.slice a2 l2 c2)) (r3 : Rd w 0 (.list 8 X.np (fun i => trs (pT (X.pt i)))) (.slice a3 l3 c3)) (r4 : Rd w 0 (boolsT X.hs) (.slice a4 l4 c4)) (r5 : Rd w 0 (.list 6 X.nt (fun i => trs (aT (X.tl i)))) (.slice a5 l5 c5)) (hz : szT 13 (trs (dT X)) <= 1048576) :
 Calls prog 138 #[.agg (dL X a1 l1 c1 a2 l2 c2 a3 l3 c3 a4 l4 c4 a5 l5 c5).toArray] w fun e w' => ∃ b1 d1 b2 d2 b3 d3 b4 d4 b5 d5, e = .returned (.agg (dL X b1 l1 d1 b2 l2 d2 b3 l3 d3 b4 l4 d4 b5 l5 d5).toArray) /\ Rd w' w.heap.size (intsT X.q.ws) (.slice b1 l1 d1) /\ Rd w' w.heap.size (boolsT X.q.bs) (.slice b2 l2 d2) /\ Rd w' w.heap.size (.list 8 X.np (fun i => trs (pT (X.pt i)))) (.slice b3 l3 d3) /\ Rd w' w.heap.size (boolsT X.hs) (.slice b4 l4 d4) /\ Rd w' w.heap.size (.list 6 X.nt (fun i => trs (aT (X.tl i)))) (.slice b5 l5 d5) /\ Below w.heap.size w w' := by
 obtain ⟨W, hW⟩ : ∃ W, W = ((w.alloc (.cells (dL X a1 l1 c1 a2 l2 c2 a3 l3 c3 a4 l4 c4 a5 l5 c5).toArray 200)).alloc (.cells z240 141)).alloc (.cells (#[.int .i64 X.id, .int .i64 X.so, .int .i64 X.ta, .int .i64 X.un, .int .i64 0, .int .i64 0, .int .i64 0, .slice none 0 0, .slice none 0 0, .int .i64 0, .slice none 0 0, .slice none 0 0, .slice none 0 0] : Array Value) 141) := ⟨_, rfl⟩
 have bW : Below w.heap.size w W := by rw [hW]; exact bel_nx (bel_nx (bel_alloc w _) (bel_alloc _ _)) (bel_alloc _ _)
 have A0 : Blk W w.heap.size 200 (dL X a1 l1 c1 a2 l2 c2 a3 l3 c3 a4 l4 c4 a5 l5 c5).toArray := by rw [hW]; exact ((Blk.new w _ _).below (bel_alloc _ _)).below (bel_alloc _ _)
 have R0 : Blk W (w.heap.size + 1) 141 z240 := by
  rw [hW]; have := (Blk.new (w.alloc (.cells (dL X a1 l1 c1 a2 l2 c2 a3 l3 c3 a4 l4 c4 a5 l5 c5).toArray 200)) z240 141).below (bel_alloc _ (.cells (#[.int .i64 X.id, .int .i64 X.so, .int .i64 X.ta, .int .i64 X.un, .int .i64 0, .int .i64 0, .int .i64 0, .slice none 0 0, .slice none 0 0, .int .i64 0, .slice none 0 0, .slice none 0 0, .slice none 0 0] : Array Value) 141)); simpa using this
 have O0 : Blk W (w.heap.size + 1 + 1) 141 (#[.int .i64 X.id, .int .i64 X.so, .int .i64 X.ta, .int .i64 X.un, .int .i64 0, .int .i64 0, .int .i64 0, .slice none 0 0, .slice none 0 0, .int .i64 0, .slice none 0 0, .slice none 0 0, .slice none 0 0] : Array Value) := by
  rw [hW]; have := Blk.new ((w.alloc (.cells (dL X a1 l1 c1 a2 l2 c2 a3 l3 c3 a4 l4 c4 a5 l5 c5).toArray 200)).alloc (.cells z240 141)) (#[.int .i64 X.id, .int .i64 X.so, .int .i64 X.ta, .int .i64 X.un, .int .i64 0, .int .i64 0, .int .i64 0, .slice none 0 0, .slice none 0 0, .int .i64 0, .slice none 0 0, .slice none 0 0, .slice none 0 0] : Array Value) 141; simpa using this
 have hs0 : W.heap.size = (w.heap.size + 1 + 1 + 1) := by rw [hW]; simp
 have HZ : Hid (szT 6 (trs (qT X.q)) <= 1048576 /\ (Tr.list 8 X.np (fun i => trs (pT (X.pt i)))).sz <= 1048576 /\ X.hs.length <= 1048576 /\ (Tr.list 6 X.nt (fun i => trs (aT (X.tl i)))).sz <= 1048576) := by
  rw [szT_d] at hz
  show szT 6 (trs (qT X.q)) <= 1048576 /\ (Tr.list 8 X.np (fun i => trs (pT (X.pt i)))).sz <= 1048576 /\ X.hs.length <= 1048576 /\ (Tr.list 6 X.nt (fun i => trs (aT (X.tl i)))).sz <= 1048576
  try simp only [szT_q, szT_a, szT_p, szT_d, szT_t, true_and]
  omega
 have HR : Hid (Rd w 0 (intsT X.q.ws) (.slice a1 l1 c1) /\ Rd w 0 (boolsT X.q.bs) (.slice a2 l2 c2) /\ Rd w 0 (.list 8 X.np (fun i => trs (pT (X.pt i)))) (.slice a3 l3 c3) /\ Rd w 0 (boolsT X.hs) (.slice a4 l4 c4) /\ Rd w 0 (.list 6 X.nt (fun i => trs (aT (X.tl i)))) (.slice a5 l5 c5)) := ⟨r1, r2, r3, r4, r5⟩
 have G0 : Hid (GF w W 200 (dL X a1 l1 c1 a2 l2 c2 a3 l3 c3 a4 l4 c4 a5 l5 c5).toArray 141 z240 (#[.int .i64 X.id, .int .i64 X.so, .int .i64 X.ta, .int .i64 X.un, .int .i64 0, .int .i64 0, .int .i64 0, .slice none 0 0, .slice none 0 0, .int .i64 0, .slice none 0 0, .slice none 0 0, .slice none 0 0] : Array Value) ((w.heap.size + 1 + 1 + 1) <= W.heap.size)) := ⟨bW, A0, R0, O0, by omega⟩
 clear bW A0 R0 O0 hs0 hz r1 r2 r3 r4 r5
 go_enter func138, ntmps138
 go_upto_region 6 with fail
 rw [<- hW]
 clear hW
 obtain ⟨⟨y0, y1, y2, y3, y4, y5, y6, y7, y8, y9, y10, y11, y12⟩, yf⟩ := G0.out.2.1.tc13
 clear yf
 go_wp2_with fail
 refine (toReq_t X.q a1 l1 c1 a2 l2 c2 _ (HR.out.1.below G0.out.1) (HR.out.2.1.below G0.out.1) HZ.out.1).mono ?_
 rintro e w1 ⟨b1, d1, b2, d2, rfl, q1, q2, hb1⟩
 clear y0 y1 y2 y3 y4 y5 y6 y7 y8 y9 y10 y11 y12
 have O1 := G0.out.2.2.2.1.below hb1
 obtain ⟨⟨z0, z1, z2, z3, z4, z5, z6, z7, z8, z9, z10, z11, z12⟩, zf⟩ := O1.tc13
 have zg4 := zf 4
 have zg5 := zf 5
 have zg6 := zf 6
 have zg7 := zf 7
 have zg8 := zf 8
 have zg9 := zf 9
 obtain ⟨W1, hW1⟩ : ∃ W9, W9 = setL w1 (w.heap.size + 1 + 1) 4 [.int .i64 X.q.kd, .int .i64 X.q.pl, .int .i64 X.q.n, .slice b1 l1 d1, .slice b2 l2 d2, .int .i64 X.q.wa] := ⟨_, rfl⟩
 have G1 : Hid (GF w W1 200 (dL X a1 l1 c1 a2 l2 c2 a3 l3 c3 a4 l4 c4 a5 l5 c5).toArray 141 z240 (#[.int .i64 X.id, .int .i64 X.so, .int .i64 X.ta, .int .i64 X.un, .int .i64 X.q.kd, .int .i64 X.q.pl, .int .i64 X.q.n, .slice b1 l1 d1, .slice b2 l2 d2, .int .i64 X.q.wa, .slice none 0 0, .slice none 0 0, .slice none 0 0] : Array Value) ((w.heap.size + 1 + 1 + 1) <= W1.heap.size /\ Rd W1 (w.heap.size + 1 + 1 + 1) (intsT X.q.ws) (.slice b1 l1 d1) /\ Rd W1 (w.heap.size + 1 + 1 + 1) (boolsT X.q.bs) (.slice b2 l2 d2))) := by
  have hg : w1.grownBy W1 (some (w.heap.size + 1 + 1)) := by rw [hW1]; exact setL_gw _ _ _
  have hs9 := G0.out.2.2.2.2
  have hs8 := hb1.size
  have hs7 := hg.size
  refine ⟨by rw [hW1]; exact setL_below (by omega) _ _ _ (bel_nx G0.out.1 hb1), by rw [hW1]; exact Blk.stNe (by omega) _ _ (G0.out.2.1.below hb1), by rw [hW1]; exact Blk.stNe (by omega) _ _ (G0.out.2.2.1.below hb1), stO hW1 O1, by omega, (q1.mono hs9).kept hg (by omega), (q2.mono hs9).kept hg (by omega)⟩
 have hX1 : W1 = ((((((w1.setCell ⟨w.heap.size + 1 + 1, 4, none⟩ (.int .i64 X.q.kd)).setCell ⟨w.heap.size + 1 + 1, 5, none⟩ (.int .i64 X.q.pl)).setCell ⟨w.heap.size + 1 + 1, 6, none⟩ (.int .i64 X.q.n)).setCell ⟨w.heap.size + 1 + 1, 7, none⟩ (.slice b1 l1 d1)).setCell ⟨w.heap.size + 1 + 1, 8, none⟩ (.slice b2 l2 d2)).setCell ⟨w.heap.size + 1 + 1, 9, none⟩ (.int .i64 X.q.wa)) := by rw [hW1]; simp only [setL, Nat.reduceAdd, Nat.zero_add]
 clear O1 hb1 hW1 q1 q2
 go_upto_region 7 with fail
 rw [<- hX1]
 clear hX1 zf z0 z1 z2 z3 z4 z5 z6 z7 z8 z9 z10 z11 z12 zg4 zg5 zg6 zg7 zg8 zg9
 obtain ⟨⟨y0, y1, y2, y3, y4, y5, y6, y7, y8, y9, y10, y11, y12⟩, yf⟩ := G1.out.2.1.tc13
 clear yf
 go_wp2_with fail
 refine (toPartS_t X.np X.pt a3 l3 c3 _ (HR.out.2.2.1.below G1.out.1) HZ.out.2.1).mono ?_
 rintro e w2 ⟨b3, d3, rfl, q3, hb2⟩
 clear y0 y1 y2 y3 y4 y5 y6 y7 y8 y9 y10 y11 y12
 have O2 := G1.out.2.2.2.1.below hb2
 obtain ⟨⟨z0, z1, z2, z3, z4, z5, z6, z7, z8, z9, z10, z11, z12⟩, zf⟩ := O2.tc13
 have zg10 := zf 10
 obtain ⟨W2, hW2⟩ : ∃ W9, W9 = setL w2 (w.heap.size + 1 + 1) 10 [.slice b3 l3 d3] := ⟨_, rfl⟩
 have G2 : Hid (GF w W2 200 (dL X a1 l1 c1 a2 l2 c2 a3 l3 c3 a4 l4 c4 a5 l5 c5).toArray 141 z240 (#[.int .i64 X.id, .int .i64 X.so, .int .i64 X.ta, .int .i64 X.un, .int .i64 X.q.kd, .int .i64 X.q.pl, .int .i64 X.q.n, .slice b1 l1 d1, .slice b2 l2 d2, .int .i64 X.q.wa, .slice b3 l3 d3, .slice none 0 0, .slice none 0 0] : Array Value) ((w.heap.size + 1 + 1 + 1) <= W2.heap.size /\ Rd W2 (w.heap.size + 1 + 1 + 1) (intsT X.q.ws) (.slice b1 l1 d1) /\ Rd W2 (w.heap.size + 1 + 1 + 1) (boolsT X.q.bs) (.slice b2 l2 d2) /\ Rd W2 (w.heap.size + 1 + 1 + 1) (.list 8 X.np (fun i => trs (pT (X.pt i)))) (.slice b3 l3 d3))) := by
  have hg : w2.grownBy W2 (some (w.heap.size + 1 + 1)) := by rw [hW2]; exact setL_gw _ _ _
  have hs9 := G1.out.2.2.2.2.1
  have hs8 := hb2.size
  have hs7 := hg.size
  refine ⟨by rw [hW2]; exact setL_below (by omega) _ _ _ (bel_nx G1.out.1 hb2), by rw [hW2]; exact Blk.stNe (by omega) _ _ (G1.out.2.1.below hb2), by rw [hW2]; exact Blk.stNe (by omega) _ _ (G1.out.2.2.1.below hb2), stO hW2 O2, by omega, (G1.out.2.2.2.2.2.1.below hb2).kept hg (by omega), (G1.out.2.2.2.2.2.2.below hb2).kept hg (by omega), (q3.mono hs9).kept hg (by omega)⟩
 have hX2 : W2 = (w2.setCell ⟨w.heap.size + 1 + 1, 10, none⟩ (.slice b3 l3 d3)) := by rw [hW2]; simp only [setL, Nat.reduceAdd, Nat.zero_add]
 clear O2 hb2 hW2 q3
 go_upto_region 8 with fail
 rw [<- hX2]
 clear hX2 zf z0 z1 z2 z3 z4 z5 z6 z7 z8 z9 z10 z11 z12 zg10
 obtain ⟨⟨y0, y1, y2, y3, y4, y5, y6, y7, y8, y9, y10, y11, y12⟩, yf⟩ := G2.out.2.1.tc13
 clear yf
 go_wp2_with fail
 refine (toBoolS_t X.hs a4 l4 c4 _ (HR.out.2.2.2.1.below G2.out.1) HZ.out.2.2.1).mono ?_
 rintro e w3 ⟨b4, d4, rfl, q4, hb3⟩
 clear y0 y1 y2 y3 y4 y5 y6 y7 y8 y9 y10 y11 y12
 have O3 := G2.out.2.2.2.1.below hb3
 obtain ⟨⟨z0, z1, z2, z3, z4, z5, z6, z7, z8, z9, z10, z11, z12⟩, zf⟩ := O3.tc13
 have zg11 := zf 11
 obtain ⟨W3, hW3⟩ : ∃ W9, W9 = setL w3 (w.heap.size + 1 + 1) 11 [.slice b4 l4 d4] := ⟨_, rfl⟩
 have G3 : Hid (GF w W3 200 (dL X a1 l1 c1 a2 l2 c2 a3 l3 c3 a4 l4 c4 a5 l5 c5).toArray 141 z240 (#[.int .i64 X.id, .int .i64 X.so, .int .i64 X.ta, .int .i64 X.un, .int .i64 X.q.kd, .int .i64 X.q.pl, .int .i64 X.q.n, .slice b1 l1 d1, .slice b2 l2 d2, .int .i64 X.q.wa, .slice b3 l3 d3, .slice b4 l4 d4, .slice none 0 0] : Array Value) ((w.heap.size + 1 + 1 + 1) <= W3.heap.size /\ Rd W3 (w.heap.size + 1 + 1 + 1) (intsT X.q.ws) (.slice b1 l1 d1) /\ Rd W3 (w.heap.size + 1 + 1 + 1) (boolsT X.q.bs) (.slice b2 l2 d2) /\ Rd W3 (w.heap.size + 1 + 1 + 1) (.list 8 X.np (fun i => trs (pT (X.pt i)))) (.slice b3 l3 d3) /\ Rd W3 (w.heap.size + 1 + 1 + 1) (boolsT X.hs) (.slice b4 l4 d4))) := by
  have hg : w3.grownBy W3 (some (w.heap.size + 1 + 1)) := by rw [hW3]; exact setL_gw _ _ _
  have hs9 := G2.out.2.2.2.2.1
  have hs8 := hb3.size
  have hs7 := hg.size
  refine ⟨by rw [hW3]; exact setL_below (by omega) _ _ _ (bel_nx G2.out.1 hb3), by rw [hW3]; exact Blk.stNe (by omega) _ _ (G2.out.2.1.below hb3), by rw [hW3]; exact Blk.stNe (by omega) _ _ (G2.out.2.2.1.below hb3), stO hW3 O3, by omega, (G2.out.2.2.2.2.2.1.below hb3).kept hg (by omega), (G2.out.2.2.2.2.2.2.1.below hb3).kept hg (by omega), (G2.out.2.2.2.2.2.2.2.below hb3).kept hg (by omega), (q4.mono hs9).kept hg (by omega)⟩
 have hX3 : W3 = (w3.setCell ⟨w.heap.size + 1 + 1, 11, none⟩ (.slice b4 l4 d4)) := by rw [hW3]; simp only [setL, Nat.reduceAdd, Nat.zero_add]
 clear O3 hb3 hW3 q4
 go_upto_region 9 with fail
 rw [<- hX3]
 clear hX3 zf z0 z1 z2 z3 z4 z5 z6 z7 z8 z9 z10 z11 z12 zg11
 obtain ⟨⟨y0, y1, y2, y3, y4, y5, y6, y7, y8, y9, y10, y11, y12⟩, yf⟩ := G3.out.2.1.tc13
 clear yf
 go_wp2_with fail
 refine (toRespS_t X.nt X.tl a5 l5 c5 _ (HR.out.2.2.2.2.below G3.out.1) HZ.out.2.2.2).mono ?_
 rintro e w4 ⟨b5, d5, rfl, q5, hb4⟩
 clear y0 y1 y2 y3 y4 y5 y6 y7 y8 y9 y10 y11 y12
 have O4 := G3.out.2.2.2.1.below hb4
 obtain ⟨⟨z0, z1, z2, z3, z4, z5, z6, z7, z8, z9, z10, z11, z12⟩, zf⟩ := O4.tc13
 have zg12 := zf 12
 obtain ⟨W4, hW4⟩ : ∃ W9, W9 = setL w4 (w.heap.size + 1 + 1) 12 [.slice b5 l5 d5] := ⟨_, rfl⟩
 have G4 : Hid (GF w W4 200 (dL X a1 l1 c1 a2 l2 c2 a3 l3 c3 a4 l4 c4 a5 l5 c5).toArray 141 z240 (#[.int .i64 X.id, .int .i64 X.so, .int .i64 X.ta, .int .i64 X.un, .int .i64 X.q.kd, .int .i64 X.q.pl, .int .i64 X.q.n, .slice b1 l1 d1, .slice b2 l2 d2, .int .i64 X.q.wa, .slice b3 l3 d3, .slice b4 l4 d4, .slice b5 l5 d5] : Array Value) ((w.heap.size + 1 + 1 + 1) <= W4.heap.size /\ Rd W4 (w.heap.size + 1 + 1 + 1) (intsT X.q.ws) (.slice b1 l1 d1) /\ Rd W4 (w.heap.size + 1 + 1 + 1) (boolsT X.q.bs) (.slice b2 l2 d2) /\ Rd W4 (w.heap.size + 1 + 1 + 1) (.list 8 X.np (fun i => trs (pT (X.pt i)))) (.slice b3 l3 d3) /\ Rd W4 (w.heap.size + 1 + 1 + 1) (boolsT X.hs) (.slice b4 l4 d4) /\ Rd W4 (w.heap.size + 1 + 1 + 1) (.list 6 X.nt (fun i => trs (aT (X.tl i)))) (.slice b5 l5 d5))) := by
  have hg : w4.grownBy W4 (some (w.heap.size + 1 + 1)) := by rw [hW4]; exact setL_gw _ _ _
  have hs9 := G3.out.2.2.2.2.1
  have hs8 := hb4.size
  have hs7 := hg.size
  refine ⟨by rw [hW4]; exact setL_below (by omega) _ _ _ (bel_nx G3.out.1 hb4), by rw [hW4]; exact Blk.stNe (by omega) _ _ (G3.out.2.1.below hb4), by rw [hW4]; exact Blk.stNe (by omega) _ _ (G3.out.2.2.1.below hb4), stO hW4 O4, by omega, (G3.out.2.2.2.2.2.1.below hb4).kept hg (by omega), (G3.out.2.2.2.2.2.2.1.below hb4).kept hg (by omega), (G3.out.2.2.2.2.2.2.2.1.below hb4).kept hg (by omega), (G3.out.2.2.2.2.2.2.2.2.below hb4).kept hg (by omega), (q5.mono hs9).kept hg (by omega)⟩
 have hX4 : W4 = (w4.setCell ⟨w.heap.size + 1 + 1, 12, none⟩ (.slice b5 l5 d5)) := by rw [hW4]; simp only [setL, Nat.reduceAdd, Nat.zero_add]
 clear O4 hb4 hW4 q5
 go_upto_region 10 with fail
 rw [<- hX4]
 clear hX4 zf z0 z1 z2 z3 z4 z5 z6 z7 z8 z9 z10 z11 z12 zg12
 obtain ⟨W9, hW9⟩ : ∃ W9, W9 = setL W4 (w.heap.size + 1) 0 (dL X b1 l1 d1 b2 l2 d2 b3 l3 d3 b4 l4 d4 b5 l5 d5) := ⟨_, rfl⟩
 have H9 : Hid (Rd W9 w.heap.size (intsT X.q.ws) (.slice b1 l1 d1) /\ Rd W9 w.heap.size (boolsT X.q.bs) (.slice b2 l2 d2) /\ Rd W9 w.heap.size (.list 8 X.np (fun i => trs (pT (X.pt i)))) (.slice b3 l3 d3) /\ Rd W9 w.heap.size (boolsT X.hs) (.slice b4 l4 d4) /\ Rd W9 w.heap.size (.list 6 X.nt (fun i => trs (aT (X.tl i)))) (.slice b5 l5 d5) /\ Below w.heap.size w W9 /\ Blk W9 (w.heap.size + 1) 141 (dL X b1 l1 d1 b2 l2 d2 b3 l3 d3 b4 l4 d4 b5 l5 d5).toArray) := by
  have hg : W4.grownBy W9 (some (w.heap.size + 1)) := by rw [hW9]; exact setL_gw _ _ _
  exact ⟨((G4.out.2.2.2.2.2.1).kept hg (by omega)).mono (by omega), ((G4.out.2.2.2.2.2.2.1).kept hg (by omega)).mono (by omega), ((G4.out.2.2.2.2.2.2.2.1).kept hg (by omega)).mono (by omega), ((G4.out.2.2.2.2.2.2.2.2.1).kept hg (by omega)).mono (by omega), ((G4.out.2.2.2.2.2.2.2.2.2).kept hg (by omega)).mono (by omega), by rw [hW9]; exact setL_below (by omega) _ _ _ G4.out.1, by rw [hW9, show (dL X b1 l1 d1 b2 l2 d2 b3 l3 d3 b4 l4 d4 b5 l5 d5).toArray = wrA (#[.int .i64 0, .int .i64 0, .int .i64 0, .int .i64 0, .int .i64 0, .int .i64 0, .int .i64 0, .slice none 0 0, .slice none 0 0, .int .i64 0, .slice none 0 0, .slice none 0 0, .slice none 0 0] : Array Value) 0 (dL X b1 l1 d1 b2 l2 d2 b3 l3 d3 b4 l4 d4 b5 l5 d5) from (by simp [wrA])]; exact Blk.stL _ _ G4.out.2.2.1⟩
 have hr := G4.out.2.2.2.1.all
 have ht := G4.out.2.2.1.there 0 13 (by simp)
 clear G4
 refine wp_region_lit ?_
 refine wpList_load_mid rfl 141 (.tmp 3) rfl (w.heap.size + 1 + 1) 0 rfl (dL X b1 l1 d1 b2 l2 d2 b3 l3 d3 b4 l4 d4 b5 l5 d5) _ hr underlying141 rfl (by kernel_rfl) ?_
 refine wpList_store_mid rfl 141 (.tmp 2) (.tmp 32) rfl (w.heap.size + 1) 0 (dL X b1 l1 d1 b2 l2 d2 b3 l3 d3 b4 l4 d4 b5 l5 d5).toArray rfl rfl ht (by kernel_rfl) (by simp [Value.oneCell']) ?_
 rw [setCells_L, <- hW9]
 clear hW9 hr ht
 refine wpList_nil ?_
 go_wp2
 obtain ⟨⟨y0, y1, y2, y3, y4, y5, y6, y7, y8, y9, y10, y11, y12⟩, yf⟩ := H9.out.2.2.2.2.2.2.tc13
 refine bodyPost_ret (v := .agg (dL X b1 l1 d1 b2 l2 d2 b3 l3 d3 b4 l4 d4 b5 l5 d5).toArray) (by simp [results, results138, go_sem, y0, y1, y2, y3, y4, y5, y6, y7, y8, y9, y10, y11, y12]) rfl ⟨b1, d1, b2, d2, b3, d3, b4, d4, b5, d5, rfl, H9.out.1, H9.out.2.1, H9.out.2.2.1, H9.out.2.2.2.1, H9.out.2.2.2.2.1, H9.out.2.2.2.2.2.1⟩
theorem toPendS_t (n : Nat) (f : Nat -> VD) (a : Option Addr) (n' cap : Nat) (w : World) (hs : Rd w 0 (.list 13 n (fun k => trs (dT (f k)))) (.slice a n' cap)) (hz : (Tr.list 13 n (fun k => trs (dT (f k)))).sz <= 1048576) :
 Calls prog 84 #[.slice a n' cap] w fun e w' => ∃ b d, e = .returned (.slice b n' d) /\ Rd w' w.heap.size (.list 13 n (fun k => trs (dT (f k)))) (.slice b n' d) /\ Below w.heap.size w w' := by
 obtain ⟨a9, c9, h9, -, hn⟩ := hs.shape
 simp only [Value.slice.injEq] at h9
 obtain ⟨-, rfl, -⟩ := h9
 clear a9 c9
 have hn1 : n' <= 1048576 := by rw [Tr.sz_list] at hz; omega
 have HZ : Hid (∀ k, k < n' -> szT 13 (trs (dT (f k))) <= 1048576) := by
  show ∀ k, k < n' -> szT 13 (trs (dT (f k))) <= 1048576
  intro k hk
  rw [Tr.sz_list] at hz
  have := sumN_at (fun k => szT 13 (trs (dT (f k)))) hk
  omega
 have hmk := run_make_st (P := prog) 36 141 (.agg z240) 13 184 underlying36 (by kernel_rfl) .i64 .i64 n' (by omega) (by omega)
 have HS : Hid (Rd w 0 (.list 13 n' (fun k => trs (dT (f k)))) (.slice a n' cap) /\ n' <= maxLen) := ⟨hs, hn⟩
 clear hs hz hn
 go_enter func84, ntmps84
 go_wp2
 clear hmk
 go_loopw [4] (fun i wr => ∃ (k : Nat) (F : Nat -> List Value), k <= n' /\ i = .int .i64 k /\ RowS wr w.heap.size 141 13 n' F /\ (∀ j, j < k -> (F j).length = 13 /\ RdL wr (w.heap.size + 1) (trs (dT (f j))) (F j)) /\ Below w.heap.size w wr) (fun i _ => n' - (intOf i).toNat)
 case atStart => exact ⟨0, fun _ => (z240).toList, Nat.zero_le _, rfl, RowS.made w (z240).toList n' _ (by simp), fun j hj => by omega, (Below.refl _ _).alloc (Nat.le_refl _) _⟩
 case round =>
  obtain ⟨k, F, hk, rfl, hrow, hin, hb⟩ := hrel
  by_cases hlt : k < n'
  ·have hi : (k : Int) < (n' : Int) := by omega
   obtain ⟨b, off, vs, rfl, _, hb0, hlen, hr, hrd⟩ := (HS.out.1.below hb).at hlt
   obtain ⟨a1, c1, a2, c2, a3, c3, a4, c4, a5, c5, rfl, r1, r2, r3, r4, r5⟩ := VD.cells hrd hlen
   clear hlen hrd
   have d09 : wr.cell? ⟨b, off + k * 13, none⟩ = _ := hr 0 _ rfl
   have d19 := hr 1 _ rfl
   have d29 := hr 2 _ rfl
   have d39 := hr 3 _ rfl
   have d49 := hr 4 _ rfl
   have d59 := hr 5 _ rfl
   have d69 := hr 6 _ rfl
   have d79 := hr 7 _ rfl
   have d89 := hr 8 _ rfl
   have d99 := hr 9 _ rfl
   have d109 := hr 10 _ rfl
   have d119 := hr 11 _ rfl
   have d129 := hr 12 _ rfl
   have HK : Hid (RowS wr w.heap.size 141 13 n' F /\ (∀ j, j < k -> (F j).length = 13 /\ RdL wr (w.heap.size + 1) (trs (dT (f j))) (F j)) /\ Below w.heap.size w wr /\ Rd wr 0 (intsT (f k).q.ws) (.slice a1 ((f k).q.ws.length) c1) /\ Rd wr 0 (boolsT (f k).q.bs) (.slice a2 ((f k).q.bs.length) c2) /\ Rd wr 0 (.list 8 (f k).np (fun i => trs (pT ((f k).pt i)))) (.slice a3 ((f k).np) c3) /\ Rd wr 0 (boolsT (f k).hs) (.slice a4 ((f k).hs.length) c4) /\ Rd wr 0 (.list 6 (f k).nt (fun i => trs (aT ((f k).tl i)))) (.slice a5 ((f k).nt) c5)) := ⟨hrow, hin, hb, r1, r2, r3, r4, r5⟩
   clear hrow hin hb hr hb0 r1 r2 r3 r4 r5
   go_wp2_with fail
   refine (toPend_t (f k) a1 ((f k).q.ws.length) c1 a2 ((f k).q.bs.length) c2 a3 ((f k).np) c3 a4 ((f k).hs.length) c4 a5 ((f k).nt) c5 _ HK.out.2.2.2.1 HK.out.2.2.2.2.1 HK.out.2.2.2.2.2.1 HK.out.2.2.2.2.2.2.1 HK.out.2.2.2.2.2.2.2 (HZ.out k hlt)).mono ?_
   rintro e w1 ⟨b1, d1, b2, d2, b3, d3, b4, d4, b5, d5, rfl, q1, q2, q3, q4, q5, hb1⟩
   have R1 := HK.out.1.below hb1
   obtain ⟨rx0, ry0⟩ : ∃ v, w1.cell? ⟨w.heap.size, k * 13, none⟩ = some v := R1.ex hlt (j := 0) (by decide)
   obtain ⟨rx1, ry1⟩ := R1.ex hlt (j := 1) (by decide)
   obtain ⟨rx2, ry2⟩ := R1.ex hlt (j := 2) (by decide)
   obtain ⟨rx3, ry3⟩ := R1.ex hlt (j := 3) (by decide)
   obtain ⟨rx4, ry4⟩ := R1.ex hlt (j := 4) (by decide)
   obtain ⟨rx5, ry5⟩ := R1.ex hlt (j := 5) (by decide)
   obtain ⟨rx6, ry6⟩ := R1.ex hlt (j := 6) (by decide)
   obtain ⟨rx7, ry7⟩ := R1.ex hlt (j := 7) (by decide)
   obtain ⟨rx8, ry8⟩ := R1.ex hlt (j := 8) (by decide)
   obtain ⟨rx9, ry9⟩ := R1.ex hlt (j := 9) (by decide)
   obtain ⟨rx10, ry10⟩ := R1.ex hlt (j := 10) (by decide)
   obtain ⟨rx11, ry11⟩ := R1.ex hlt (j := 11) (by decide)
   obtain ⟨rx12, ry12⟩ := R1.ex hlt (j := 12) (by decide)
   obtain ⟨W2, hW2⟩ : ∃ W2, W2 = setL w1 w.heap.size (k * 13) (dL (f k) b1 ((f k).q.ws.length) d1 b2 ((f k).q.bs.length) d2 b3 ((f k).np) d3 b4 ((f k).hs.length) d4 b5 ((f k).nt) d5) := ⟨_, rfl⟩
   have H2 : Hid (∃ F', RowS W2 w.heap.size 141 13 n' F' /\ (∀ j, j < k + 1 -> (F' j).length = 13 /\ RdL W2 (w.heap.size + 1) (trs (dT (f j))) (F' j)) /\ Below w.heap.size w W2) := by
    have hg : w1.grownBy W2 (some w.heap.size) := by rw [hW2]; exact setL_gw _ _ _
    have hs1 := HK.out.1.lt
    refine ⟨_, by rw [hW2]; exact R1.set hlt _ rfl, fun j hj => ?_, by rw [hW2]; exact setL_below (Nat.le_refl _) _ _ _ (bel_nx HK.out.2.2.1 hb1)⟩
    by_cases e : j = k
    ·subst e
     simp only [if_true]
     exact ⟨rfl, VD.back ((q1.mono (by omega)).kept hg (by omega)) ((q2.mono (by omega)).kept hg (by omega)) ((q3.mono (by omega)).kept hg (by omega)) ((q4.mono (by omega)).kept hg (by omega)) ((q5.mono (by omega)).kept hg (by omega))⟩
    simp only [if_neg e]
    have h9 := HK.out.2.1 j (by omega)
    exact ⟨h9.1, (h9.2.below hb1).kept hg (by omega)⟩
   have hW2' : W2 = (((((((((((((w1.setCell ⟨w.heap.size, k * 13, none⟩ (.int .i64 (f k).id)).setCell ⟨w.heap.size, k * 13 + 1, none⟩ (.int .i64 (f k).so)).setCell ⟨w.heap.size, k * 13 + 2, none⟩ (.int .i64 (f k).ta)).setCell ⟨w.heap.size, k * 13 + 3, none⟩ (.int .i64 (f k).un)).setCell ⟨w.heap.size, k * 13 + 4, none⟩ (.int .i64 (f k).q.kd)).setCell ⟨w.heap.size, k * 13 + 5, none⟩ (.int .i64 (f k).q.pl)).setCell ⟨w.heap.size, k * 13 + 6, none⟩ (.int .i64 (f k).q.n)).setCell ⟨w.heap.size, k * 13 + 7, none⟩ (.slice b1 ((f k).q.ws.length) d1)).setCell ⟨w.heap.size, k * 13 + 8, none⟩ (.slice b2 ((f k).q.bs.length) d2)).setCell ⟨w.heap.size, k * 13 + 9, none⟩ (.int .i64 (f k).q.wa)).setCell ⟨w.heap.size, k * 13 + 10, none⟩ (.slice b3 ((f k).np) d3)).setCell ⟨w.heap.size, k * 13 + 11, none⟩ (.slice b4 ((f k).hs.length) d4)).setCell ⟨w.heap.size, k * 13 + 12, none⟩ (.slice b5 ((f k).nt) d5)) := by rw [hW2]; simp only [setL, Nat.reduceAdd, Nat.zero_add, Nat.add_zero, Nat.add_assoc]
   have HE : Hid (∀ j, w1.frozen? ⟨w.heap.size, j, none⟩ = false) := R1.fro
   have qf0 := HE.out (k * 13)
   have qf1 := HE.out (k * 13 + 1)
   have qf2 := HE.out (k * 13 + 2)
   have qf3 := HE.out (k * 13 + 3)
   have qf4 := HE.out (k * 13 + 4)
   have qf5 := HE.out (k * 13 + 5)
   have qf6 := HE.out (k * 13 + 6)
   have qf7 := HE.out (k * 13 + 7)
   have qf8 := HE.out (k * 13 + 8)
   have qf9 := HE.out (k * 13 + 9)
   have qf10 := HE.out (k * 13 + 10)
   have qf11 := HE.out (k * 13 + 11)
   have qf12 := HE.out (k * 13 + 12)
   clear R1 hb1 HK d09 d19 d29 d39 d49 d59 d69 d79 d89 d99 d109 d119 d129 hW2 HE q1 q2 q3 q4 q5
   go_wp2
   rw [<- hW2']
   clear hW2'
   go_roundw
   case rel =>
    obtain ⟨F', x1, x2, x3⟩ := H2.out
    exact ⟨k + 1, F', by omega, by go_num, x1, x2, x3⟩
   case measure => simp [intOf]; omega
  have hi : ¬ (k : Int) < (n' : Int) := by omega
  have e9 : k = n' := by omega
  subst e9
  have HR : Hid (RowS wr w.heap.size 141 13 k F /\ (∀ j, j < k -> (F j).length = 13 /\ RdL wr (w.heap.size + 1) (trs (dT (f j))) (F j)) /\ Below w.heap.size w wr) := ⟨hrow, hin, hb⟩
  clear hrow hin hb
  go_wp2
  go_ret
  exact ⟨_, _, rfl, Rd.made HR.out.1 (Nat.le_refl _) HS.out.2 (fun j hj => ⟨(HR.out.2.1 j hj).1, (HR.out.2.1 j hj).2.mono (by omega)⟩), HR.out.2.2⟩
theorem toTable_t (X : VT) (a1 : Option Addr) (l1 c1 : Nat) (w : World) (r1 : Rd w 0 (.list 13 X.m (fun i => trs (dT (X.f i)))) (.slice a1 l1 c1)) (hz : szT 2 (trs (tT X)) <= 1048576) :
 Calls prog 42 #[.agg (tL X a1 l1 c1).toArray] w fun e w' => ∃ b1 d1, e = .returned (.agg (tL X b1 l1 d1).toArray) /\ Rd w' w.heap.size (.list 13 X.m (fun i => trs (dT (X.f i)))) (.slice b1 l1 d1) /\ Below w.heap.size w w' := by
 obtain ⟨W, hW⟩ : ∃ W, W = ((w.alloc (.cells (tL X a1 l1 c1).toArray 27)).alloc (.cells #[.int .i64 0, .slice none 0 0] 38)).alloc (.cells (#[.int .i64 X.nx, .slice none 0 0] : Array Value) 38) := ⟨_, rfl⟩
 have bW : Below w.heap.size w W := by rw [hW]; exact bel_nx (bel_nx (bel_alloc w _) (bel_alloc _ _)) (bel_alloc _ _)
 have A0 : Blk W w.heap.size 27 (tL X a1 l1 c1).toArray := by rw [hW]; exact ((Blk.new w _ _).below (bel_alloc _ _)).below (bel_alloc _ _)
 have R0 : Blk W (w.heap.size + 1) 38 #[.int .i64 0, .slice none 0 0] := by
  rw [hW]; have := (Blk.new (w.alloc (.cells (tL X a1 l1 c1).toArray 27)) #[.int .i64 0, .slice none 0 0] 38).below (bel_alloc _ (.cells (#[.int .i64 X.nx, .slice none 0 0] : Array Value) 38)); simpa using this
 have O0 : Blk W (w.heap.size + 1 + 1) 38 (#[.int .i64 X.nx, .slice none 0 0] : Array Value) := by
  rw [hW]; have := Blk.new ((w.alloc (.cells (tL X a1 l1 c1).toArray 27)).alloc (.cells #[.int .i64 0, .slice none 0 0] 38)) (#[.int .i64 X.nx, .slice none 0 0] : Array Value) 38; simpa using this
 have hs0 : W.heap.size = (w.heap.size + 1 + 1 + 1) := by rw [hW]; simp
 have HZ : Hid ((Tr.list 13 X.m (fun i => trs (dT (X.f i)))).sz <= 1048576) := by
  rw [szT_t] at hz
  show (Tr.list 13 X.m (fun i => trs (dT (X.f i)))).sz <= 1048576
  try simp only [szT_q, szT_a, szT_p, szT_d, szT_t, true_and]
  omega
 have HR : Hid (Rd w 0 (.list 13 X.m (fun i => trs (dT (X.f i)))) (.slice a1 l1 c1)) := r1
 have G0 : Hid (GF w W 27 (tL X a1 l1 c1).toArray 38 #[.int .i64 0, .slice none 0 0] (#[.int .i64 X.nx, .slice none 0 0] : Array Value) ((w.heap.size + 1 + 1 + 1) <= W.heap.size)) := ⟨bW, A0, R0, O0, by omega⟩
 clear bW A0 R0 O0 hs0 hz r1
 go_enter func42, ntmps42
 go_upto_region 3 with fail
 rw [<- hW]
 clear hW
 obtain ⟨⟨y0, y1⟩, yf⟩ := G0.out.2.1.tc2
 clear yf
 go_wp2_with fail
 refine (toPendS_t X.m X.f a1 l1 c1 _ (HR.out.below G0.out.1) HZ.out).mono ?_
 rintro e w1 ⟨b1, d1, rfl, q1, hb1⟩
 clear y0 y1
 have O1 := G0.out.2.2.2.1.below hb1
 obtain ⟨⟨z0, z1⟩, zf⟩ := O1.tc2
 have zg1 := zf 1
 obtain ⟨W1, hW1⟩ : ∃ W9, W9 = setL w1 (w.heap.size + 1 + 1) 1 [.slice b1 l1 d1] := ⟨_, rfl⟩
 have G1 : Hid (GF w W1 27 (tL X a1 l1 c1).toArray 38 #[.int .i64 0, .slice none 0 0] (#[.int .i64 X.nx, .slice b1 l1 d1] : Array Value) ((w.heap.size + 1 + 1 + 1) <= W1.heap.size /\ Rd W1 (w.heap.size + 1 + 1 + 1) (.list 13 X.m (fun i => trs (dT (X.f i)))) (.slice b1 l1 d1))) := by
  have hg : w1.grownBy W1 (some (w.heap.size + 1 + 1)) := by rw [hW1]; exact setL_gw _ _ _
  have hs9 := G0.out.2.2.2.2
  have hs8 := hb1.size
  have hs7 := hg.size
  refine ⟨by rw [hW1]; exact setL_below (by omega) _ _ _ (bel_nx G0.out.1 hb1), by rw [hW1]; exact Blk.stNe (by omega) _ _ (G0.out.2.1.below hb1), by rw [hW1]; exact Blk.stNe (by omega) _ _ (G0.out.2.2.1.below hb1), stO hW1 O1, by omega, (q1.mono hs9).kept hg (by omega)⟩
 have hX1 : W1 = (w1.setCell ⟨w.heap.size + 1 + 1, 1, none⟩ (.slice b1 l1 d1)) := by rw [hW1]; simp only [setL, Nat.reduceAdd, Nat.zero_add]
 clear O1 hb1 hW1 q1
 go_upto_region 4 with fail
 rw [<- hX1]
 clear hX1 zf z0 z1 zg1
 obtain ⟨W9, hW9⟩ : ∃ W9, W9 = setL W1 (w.heap.size + 1) 0 (tL X b1 l1 d1) := ⟨_, rfl⟩
 have H9 : Hid (Rd W9 w.heap.size (.list 13 X.m (fun i => trs (dT (X.f i)))) (.slice b1 l1 d1) /\ Below w.heap.size w W9 /\ Blk W9 (w.heap.size + 1) 38 (tL X b1 l1 d1).toArray) := by
  have hg : W1.grownBy W9 (some (w.heap.size + 1)) := by rw [hW9]; exact setL_gw _ _ _
  exact ⟨((G1.out.2.2.2.2.2).kept hg (by omega)).mono (by omega), by rw [hW9]; exact setL_below (by omega) _ _ _ G1.out.1, by rw [hW9, show (tL X b1 l1 d1).toArray = wrA (#[.int .i64 0, .slice none 0 0] : Array Value) 0 (tL X b1 l1 d1) from (by simp [wrA])]; exact Blk.stL _ _ G1.out.2.2.1⟩
 have hr := G1.out.2.2.2.1.all
 have ht := G1.out.2.2.1.there 0 2 (by simp)
 clear G1
 refine wp_region_lit ?_
 refine wpList_load_mid rfl 38 (.tmp 3) rfl (w.heap.size + 1 + 1) 0 rfl (tL X b1 l1 d1) _ hr underlying38 rfl (by kernel_rfl) ?_
 refine wpList_store_mid rfl 38 (.tmp 2) (.tmp 11) rfl (w.heap.size + 1) 0 (tL X b1 l1 d1).toArray rfl rfl ht (by kernel_rfl) (by simp [Value.oneCell']) ?_
 rw [setCells_L, <- hW9]
 clear hW9 hr ht
 refine wpList_nil ?_
 go_wp2
 obtain ⟨⟨y0, y1⟩, yf⟩ := H9.out.2.2.tc2
 refine bodyPost_ret (v := .agg (tL X b1 l1 d1).toArray) (by simp [results, results42, go_sem, y0, y1]) rfl ⟨b1, d1, rfl, H9.out.1, H9.out.2.1⟩
end Go.Proofs.YtplaoagcedgdfaaGreat
