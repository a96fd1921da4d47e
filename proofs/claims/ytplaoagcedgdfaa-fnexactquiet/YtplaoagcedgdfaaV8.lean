/- Texts that the proof needs, joined: Tr3. -/
import Derived.Test.YtplaoagcedgdfaaV7
set_option linter.unusedVariables false
set_option linter.unusedSimpArgs false
set_option maxHeartbeats 4000000
set_option maxRecDepth 20000
namespace Go.Proofs.Ytplaoagcedgdfaa
open Go.RowKit Go.Joins
theorem toIntS_t (ws : List Int) (a : Option Addr) (l c : Nat) (w : World) (r : Rd w 0 (intsT ws) (.slice a l c)) (hz : ws.length <= 1048576) :
 Calls Try.prog 80 #[.slice a l c] w fun e w' => ∃ b d, e = .returned (.slice b l d) /\ Rd w' w.heap.size (intsT ws) (.slice b l d) /\ Below w.heap.size w w' := by
 obtain ⟨a9, c9, h9, -, hm, hs⟩ := r.ints
 simp only [Value.slice.injEq] at h9
 obtain ⟨rfl, rfl, rfl⟩ := h9
 refine (toIntS_ok _ _ _ ws w rfl hs (by omega)).mono ?_
 rintro e w' ⟨g, rfl, h1, h2⟩
 exact ⟨_, _, rfl, h1.rd (Nat.le_refl _) hm, h2⟩
theorem toBoolS_t (ws : List Bool) (a : Option Addr) (l c : Nat) (w : World) (r : Rd w 0 (boolsT ws) (.slice a l c)) (hz : ws.length <= 1048576) :
 Calls Try.prog 79 #[.slice a l c] w fun e w' => ∃ b d, e = .returned (.slice b l d) /\ Rd w' w.heap.size (boolsT ws) (.slice b l d) /\ Below w.heap.size w w' := by
 obtain ⟨a9, c9, h9, -, hm, hs⟩ := r.bools
 simp only [Value.slice.injEq] at h9
 obtain ⟨rfl, rfl, rfl⟩ := h9
 refine (toBoolS_ok _ _ _ ws w rfl hs (by omega)).mono ?_
 rintro e w' ⟨g, rfl, h1, h2⟩
 exact ⟨_, _, rfl, h1.rd (Nat.le_refl _) hm, h2⟩
theorem toReq_t (X : VQ) (a1 : Option Addr) (l1 c1 : Nat) (a2 : Option Addr) (l2 c2 : Nat) (w : World) (r1 : Rd w 0 (intsT X.ws) (.slice a1 l1 c1)) (r2 : Rd w 0 (boolsT X.bs) (.slice a2 l2 c2)) (hz : szT 6 (trs (qT X)) <= 1048576) :
 Calls Try.prog 57 #[.agg (qL X a1 l1 c1 a2 l2 c2).toArray] w fun e w' => ∃ b1 d1 b2 d2, e = .returned (.agg (qL X b1 l1 d1 b2 l2 d2).toArray) /\ Rd w' w.heap.size (intsT X.ws) (.slice b1 l1 d1) /\ Rd w' w.heap.size (boolsT X.bs) (.slice b2 l2 d2) /\ Below w.heap.size w w' := by
 rw [szT_q] at hz
 obtain ⟨a9, c9, h9, -, hm1, hs1⟩ := r1.ints
 simp only [Value.slice.injEq] at h9
 obtain ⟨rfl, rfl, rfl⟩ := h9
 obtain ⟨a9, c9, h9, -, hm2, hs2⟩ := r2.bools
 simp only [Value.slice.injEq] at h9
 obtain ⟨rfl, rfl, rfl⟩ := h9
 refine (toReq_any X.kd X.pl X.n X.wa _ _ _ _ _ _ X.ws X.bs w rfl rfl hs1 hs2 (by omega) (by omega)).mono ?_
 rintro e w' ⟨g1, g2, rfl, h1, h2, h3⟩
 exact ⟨_, _, _, _, rfl, h1.rd (Nat.le_refl _) hm1, h2.rd (Nat.le_refl _) hm2, h3⟩
theorem toResp_t (X : VA) (a1 : Option Addr) (l1 c1 : Nat) (a2 : Option Addr) (l2 c2 : Nat) (w : World) (r1 : Rd w 0 (intsT X.ws) (.slice a1 l1 c1)) (r2 : Rd w 0 (boolsT X.bs) (.slice a2 l2 c2)) (hz : szT 6 (trs (aT X)) <= 1048576) :
 Calls Try.prog 58 #[.agg (aL X a1 l1 c1 a2 l2 c2).toArray] w fun e w' => ∃ b1 d1 b2 d2, e = .returned (.agg (aL X b1 l1 d1 b2 l2 d2).toArray) /\ Rd w' w.heap.size (intsT X.ws) (.slice b1 l1 d1) /\ Rd w' w.heap.size (boolsT X.bs) (.slice b2 l2 d2) /\ Below w.heap.size w w' := by
 rw [szT_a] at hz
 obtain ⟨a9, c9, h9, -, hm1, hs1⟩ := r1.ints
 simp only [Value.slice.injEq] at h9
 obtain ⟨rfl, rfl, rfl⟩ := h9
 obtain ⟨a9, c9, h9, -, hm2, hs2⟩ := r2.bools
 simp only [Value.slice.injEq] at h9
 obtain ⟨rfl, rfl, rfl⟩ := h9
 refine (toResp_any X.kd X.fl X.pl X.n _ _ _ _ _ _ X.ws X.bs w rfl rfl hs1 hs2 (by omega) (by omega)).mono ?_
 rintro e w' ⟨g1, g2, rfl, h1, h2, h3⟩
 exact ⟨_, _, _, _, rfl, h1.rd (Nat.le_refl _) hm1, h2.rd (Nat.le_refl _) hm2, h3⟩
theorem toRespS_t (n : Nat) (f : Nat -> VA) (a : Option Addr) (n' cap : Nat) (w : World) (hs : Rd w 0 (.list 6 n (fun k => trs (aT (f k)))) (.slice a n' cap)) (hz : (Tr.list 6 n (fun k => trs (aT (f k)))).sz <= 1048576) :
 Calls Try.prog 60 #[.slice a n' cap] w fun e w' => ∃ b d, e = .returned (.slice b n' d) /\ Rd w' w.heap.size (.list 6 n (fun k => trs (aT (f k)))) (.slice b n' d) /\ Below w.heap.size w w' := by
 obtain ⟨a9, c9, h9, -, hn⟩ := hs.shape
 simp only [Value.slice.injEq] at h9
 obtain ⟨-, rfl, -⟩ := h9
 clear a9 c9
 have hn1 : n' <= 1048576 := by rw [Tr.sz_list] at hz; omega
 have HZ : Hid (∀ k, k < n' -> szT 6 (trs (aT (f k))) <= 1048576) := by
  show ∀ k, k < n' -> szT 6 (trs (aT (f k))) <= 1048576
  intro k hk
  rw [Tr.sz_list] at hz
  have := sumN_at (fun k => szT 6 (trs (aT (f k)))) hk
  omega
 have hmk := run_make_st (P := Try.prog) 110 105 (.agg #[.int .i64 0, .int .i64 0, .int .i64 0, .int .i64 0, .slice none 0 0, .slice none 0 0]) 6 80 Try.underlying110 (by kernel_rfl) .i64 .i64 n' (by omega) (by omega)
 have HS : Hid (Rd w 0 (.list 6 n' (fun k => trs (aT (f k)))) (.slice a n' cap) /\ n' <= maxLen) := ⟨hs, hn⟩
 clear hs hz hn
 go_enter Try.func60, Try.ntmps60
 go_wp2
 clear hmk
 go_loopw [4] (fun i wr => ∃ (k : Nat) (F : Nat -> List Value), k <= n' /\ i = .int .i64 k /\ RowS wr w.heap.size 105 6 n' F /\ (∀ j, j < k -> (F j).length = 6 /\ RdL wr (w.heap.size + 1) (trs (aT (f j))) (F j)) /\ Below w.heap.size w wr) (fun i _ => n' - (intOf i).toNat)
 case atStart => exact ⟨0, fun _ => (#[.int .i64 0, .int .i64 0, .int .i64 0, .int .i64 0, .slice none 0 0, .slice none 0 0]).toList, Nat.zero_le _, rfl, RowS.made w (#[.int .i64 0, .int .i64 0, .int .i64 0, .int .i64 0, .slice none 0 0, .slice none 0 0]).toList n' _ (by simp), fun j hj => by omega, (Below.refl _ _).alloc (Nat.le_refl _) _⟩
 case round =>
  obtain ⟨k, F, hk, rfl, hrow, hin, hb⟩ := hrel
  by_cases hlt : k < n'
  ·have hi : (k : Int) < (n' : Int) := by omega
   obtain ⟨b, off, vs, rfl, _, hb0, hlen, hr, hrd⟩ := (HS.out.1.below hb).at hlt
   obtain ⟨a1, c1, a2, c2, rfl, r1, r2⟩ := VA.cells hrd hlen
   clear hlen hrd
   have HK : Hid (RowS wr w.heap.size 105 6 n' F /\ (∀ j, j < k -> (F j).length = 6 /\ RdL wr (w.heap.size + 1) (trs (aT (f j))) (F j)) /\ Below w.heap.size w wr /\ Rd wr 0 (intsT (f k).ws) (.slice a1 ((f k).ws.length) c1) /\ Rd wr 0 (boolsT (f k).bs) (.slice a2 ((f k).bs.length) c2)) := ⟨hrow, hin, hb, r1, r2⟩
   clear hrow hin hb hb0 r1 r2
   go_wp2_with (first | (refine wpList_load_mid rfl 86 _ rfl b (off + k * 6) rfl _ _ hr Try.underlying86 rfl (by kernel_rfl) ?_) | fail)
   refine (toResp_t (f k) a1 ((f k).ws.length) c1 a2 ((f k).bs.length) c2 _ HK.out.2.2.2.1 HK.out.2.2.2.2 (HZ.out k hlt)).mono ?_
   rintro e w1 ⟨b1, d1, b2, d2, rfl, q1, q2, hb1⟩
   have R1 := HK.out.1.below hb1
   obtain ⟨W2, hW2⟩ : ∃ W2, W2 = setL w1 w.heap.size (k * 6) (aL (f k) b1 ((f k).ws.length) d1 b2 ((f k).bs.length) d2) := ⟨_, rfl⟩
   have H2 : Hid (∃ F', RowS W2 w.heap.size 105 6 n' F' /\ (∀ j, j < k + 1 -> (F' j).length = 6 /\ RdL W2 (w.heap.size + 1) (trs (aT (f j))) (F' j)) /\ Below w.heap.size w W2) := by
    have hg : w1.grownBy W2 (some w.heap.size) := by rw [hW2]; exact setL_gw _ _ _
    have hs1 := HK.out.1.lt
    refine ⟨_, by rw [hW2]; exact R1.set hlt _ rfl, fun j hj => ?_, by rw [hW2]; exact setL_below (Nat.le_refl _) _ _ _ (bel_nx HK.out.2.2.1 hb1)⟩
    by_cases e : j = k
    ·subst e
     simp only [if_true]
     exact ⟨rfl, VA.back ((q1.mono (by omega)).kept hg (by omega)) ((q2.mono (by omega)).kept hg (by omega))⟩
    simp only [if_neg e]
    have h9 := HK.out.2.1 j (by omega)
    exact ⟨h9.1, (h9.2.below hb1).kept hg (by omega)⟩
   have ht := R1.there hlt (m := 6) (Nat.le_refl _)
   clear R1 hb1 HK hr q1 q2
   go_wp2_with (first | (refine wpList_store_mid rfl 105 _ _ rfl w.heap.size (k * 6) (aL (f k) b1 ((f k).ws.length) d1 b2 ((f k).bs.length) d2).toArray rfl rfl ht (by kernel_rfl) (by simp [Value.oneCell']) ?_; rw [setCells_L, <- hW2]; clear hW2 ht) | fail)
   go_roundw
   case rel =>
    obtain ⟨F', x1, x2, x3⟩ := H2.out
    exact ⟨k + 1, F', by omega, by go_num, x1, x2, x3⟩
   case measure => simp [intOf]; omega
  have hi : ¬ (k : Int) < (n' : Int) := by omega
  have e9 : k = n' := by omega
  subst e9
  have HR : Hid (RowS wr w.heap.size 105 6 k F /\ (∀ j, j < k -> (F j).length = 6 /\ RdL wr (w.heap.size + 1) (trs (aT (f j))) (F j)) /\ Below w.heap.size w wr) := ⟨hrow, hin, hb⟩
  clear hrow hin hb
  go_wp2
  go_ret
  exact ⟨_, _, rfl, Rd.made HR.out.1 (Nat.le_refl _) HS.out.2 (fun j hj => ⟨(HR.out.2.1 j hj).1, (HR.out.2.1 j hj).2.mono (by omega)⟩), HR.out.2.2⟩
theorem toPart_t (X : VP) (a1 : Option Addr) (l1 c1 : Nat) (a2 : Option Addr) (l2 c2 : Nat) (w : World) (r1 : Rd w 0 (intsT X.q.ws) (.slice a1 l1 c1)) (r2 : Rd w 0 (boolsT X.q.bs) (.slice a2 l2 c2)) (hz : szT 8 (trs (pT X)) <= 1048576) :
 Calls Try.prog 81 #[.agg (pL X a1 l1 c1 a2 l2 c2).toArray] w fun e w' => ∃ b1 d1 b2 d2, e = .returned (.agg (pL X b1 l1 d1 b2 l2 d2).toArray) /\ Rd w' w.heap.size (intsT X.q.ws) (.slice b1 l1 d1) /\ Rd w' w.heap.size (boolsT X.q.bs) (.slice b2 l2 d2) /\ Below w.heap.size w w' := by
 obtain ⟨W, hW⟩ : ∃ W, W = ((w.alloc (.cells (pL X a1 l1 c1 a2 l2 c2).toArray 167)).alloc (.cells #[.int .i64 0, .int .i64 0, .int .i64 0, .int .i64 0, .int .i64 0, .slice none 0 0, .slice none 0 0, .int .i64 0] 180)).alloc (.cells #[.int .i64 X.p, .int .i64 X.t, .int .i64 0, .int .i64 0, .int .i64 0, .slice none 0 0, .slice none 0 0, .int .i64 0] 180) := ⟨_, rfl⟩
 have G0 := TS.new hW
 have HZ : Hid (szT 6 (trs (qT X.q)) <= 1048576) := by
  rw [szT_p] at hz
  show szT 6 (trs (qT X.q)) <= 1048576
  try simp only [szT_q, szT_a, szT_p, szT_d, szT_t, true_and]
  omega
 have HR := hide (And.intro r1 <| r2)
 clear hz r1 r2
 go_enter Try.func81, Try.ntmps81
 go_upto_region 4 with fail
 rw [<- hW]
 clear hW
 obtain ⟨⟨y0, y1, y2, y3, y4, y5, y6, y7⟩, -⟩ := G0.out.a.tc8
 go_wp2_with fail
 refine (toReq_t X.q a1 l1 c1 a2 l2 c2 _ (HR.out.1.below G0.out.b) (HR.out.2.below G0.out.b) HZ.out).mono ?_
 rintro e w1 ⟨b1, d1, b2, d2, rfl, q1, q2, hb⟩
 clear y0 y1 y2 y3 y4 y5 y6 y7
 obtain ⟨⟨z0, z1, z2, z3, z4, z5, z6, z7⟩, zf⟩ := (G0.out.o.below hb).tc8
 have g2 := zf 2
 have g3 := zf 3
 have g4 := zf 4
 have g5 := zf 5
 have g6 := zf 6
 have g7 := zf 7
 obtain ⟨W1, hX⟩ : ∃ z, z = setL w1 (w.heap.size + 1 + 1) 2 [.int .i64 X.q.kd, .int .i64 X.q.pl, .int .i64 X.q.n, .slice b1 l1 d1, .slice b2 l2 d2, .int .i64 X.q.wa] := ⟨_, rfl⟩
 have G1 := TS.st G0 hb hX #[.int .i64 X.p, .int .i64 X.t, .int .i64 X.q.kd, .int .i64 X.q.pl, .int .i64 X.q.n, .slice b1 l1 d1, .slice b2 l2 d2, .int .i64 X.q.wa] [(intsT X.q.ws, .slice b1 l1 d1), (boolsT X.q.bs, .slice b2 l2 d2)] ⟨q1, q2, trivial⟩
 simp only [setL, Nat.reduceAdd, Nat.zero_add] at hX
 clear hb q1 q2
 go_upto_region 5 with fail
 rw [<- hX]
 clear hX zf z0 z1 z2 z3 z4 z5 z6 z7 g2 g3 g4 g5 g6 g7
 obtain ⟨V, hV⟩ : ∃ V, V = setL W1 (w.heap.size + 1) 0 (pL X b1 l1 d1 b2 l2 d2) := ⟨_, rfl⟩
 have H9 := TS.fin G1 hV
 have hr : W1.rangeAt (w.heap.size + 1 + 1) 0 (pL X b1 l1 d1 b2 l2 d2) := G1.out.o.all
 have ht := G1.out.z.there 0 8 (by simp)
 clear G1
 refine wp_region_lit ?_
 refine wpList_load_mid rfl 180 (.tmp 3) rfl (w.heap.size + 1 + 1) 0 rfl (pL X b1 l1 d1 b2 l2 d2) _ hr Try.underlying180 rfl (by kernel_rfl) ?_
 refine wpList_store_mid rfl 180 (.tmp 2) (.tmp 14) rfl (w.heap.size + 1) 0 (pL X b1 l1 d1 b2 l2 d2).toArray rfl rfl ht (by kernel_rfl) (by simp [Value.oneCell']) ?_
 rw [setCells_L, <- hV]
 clear hV hr ht
 refine wpList_nil ?_
 go_wp2
 obtain ⟨⟨y0, y1, y2, y3, y4, y5, y6, y7⟩, -⟩ := H9.out.2.1.tc8
 obtain ⟨B, -, s1, s2, -⟩ := H9.out
 refine bodyPost_ret (v := .agg (pL X b1 l1 d1 b2 l2 d2).toArray) (by simp [results, Try.results81, go_sem, y0, y1, y2, y3, y4, y5, y6, y7]) rfl ⟨b1, d1, b2, d2, rfl, s1, s2, B⟩
theorem toPartS_t (n : Nat) (f : Nat -> VP) (a : Option Addr) (n' cap : Nat) (w : World) (hs : Rd w 0 (.list 8 n (fun k => trs (pT (f k)))) (.slice a n' cap)) (hz : (Tr.list 8 n (fun k => trs (pT (f k)))).sz <= 1048576) :
 Calls Try.prog 59 #[.slice a n' cap] w fun e w' => ∃ b d, e = .returned (.slice b n' d) /\ Rd w' w.heap.size (.list 8 n (fun k => trs (pT (f k)))) (.slice b n' d) /\ Below w.heap.size w w' := by
 obtain ⟨a9, c9, h9, -, hn⟩ := hs.shape
 simp only [Value.slice.injEq] at h9
 obtain ⟨-, rfl, -⟩ := h9
 clear a9 c9
 have hn1 : n' <= 1048576 := by rw [Tr.sz_list] at hz; omega
 have HZ : Hid (∀ k, k < n' -> szT 8 (trs (pT (f k))) <= 1048576) := by
  show ∀ k, k < n' -> szT 8 (trs (pT (f k))) <= 1048576
  intro k hk
  rw [Tr.sz_list] at hz
  have := sumN_at (fun k => szT 8 (trs (pT (f k)))) hk
  omega
 have hmk := run_make_st (P := Try.prog) 109 180 (.agg #[.int .i64 0, .int .i64 0, .int .i64 0, .int .i64 0, .int .i64 0, .slice none 0 0, .slice none 0 0, .int .i64 0]) 8 96 Try.underlying109 (by kernel_rfl) .i64 .i64 n' (by omega) (by omega)
 have HS : Hid (Rd w 0 (.list 8 n' (fun k => trs (pT (f k)))) (.slice a n' cap) /\ n' <= maxLen) := ⟨hs, hn⟩
 clear hs hz hn
 go_enter Try.func59, Try.ntmps59
 go_wp2
 clear hmk
 go_loopw [4] (fun i wr => ∃ (k : Nat) (F : Nat -> List Value), k <= n' /\ i = .int .i64 k /\ RowS wr w.heap.size 180 8 n' F /\ (∀ j, j < k -> (F j).length = 8 /\ RdL wr (w.heap.size + 1) (trs (pT (f j))) (F j)) /\ Below w.heap.size w wr) (fun i _ => n' - (intOf i).toNat)
 case atStart => exact ⟨0, fun _ => (#[.int .i64 0, .int .i64 0, .int .i64 0, .int .i64 0, .int .i64 0, .slice none 0 0, .slice none 0 0, .int .i64 0]).toList, Nat.zero_le _, rfl, RowS.made w (#[.int .i64 0, .int .i64 0, .int .i64 0, .int .i64 0, .int .i64 0, .slice none 0 0, .slice none 0 0, .int .i64 0]).toList n' _ (by simp), fun j hj => by omega, (Below.refl _ _).alloc (Nat.le_refl _) _⟩
 case round =>
  obtain ⟨k, F, hk, rfl, hrow, hin, hb⟩ := hrel
  by_cases hlt : k < n'
  ·have hi : (k : Int) < (n' : Int) := by omega
   obtain ⟨b, off, vs, rfl, _, hb0, hlen, hr, hrd⟩ := (HS.out.1.below hb).at hlt
   obtain ⟨a1, c1, a2, c2, rfl, r1, r2⟩ := VP.cells hrd hlen
   clear hlen hrd
   have HK : Hid (RowS wr w.heap.size 180 8 n' F /\ (∀ j, j < k -> (F j).length = 8 /\ RdL wr (w.heap.size + 1) (trs (pT (f j))) (F j)) /\ Below w.heap.size w wr /\ Rd wr 0 (intsT (f k).q.ws) (.slice a1 ((f k).q.ws.length) c1) /\ Rd wr 0 (boolsT (f k).q.bs) (.slice a2 ((f k).q.bs.length) c2)) := ⟨hrow, hin, hb, r1, r2⟩
   clear hrow hin hb hb0 r1 r2
   go_wp2_with (first | (refine wpList_load_mid rfl 167 _ rfl b (off + k * 8) rfl _ _ hr Try.underlying167 rfl (by kernel_rfl) ?_) | fail)
   refine (toPart_t (f k) a1 ((f k).q.ws.length) c1 a2 ((f k).q.bs.length) c2 _ HK.out.2.2.2.1 HK.out.2.2.2.2 (HZ.out k hlt)).mono ?_
   rintro e w1 ⟨b1, d1, b2, d2, rfl, q1, q2, hb1⟩
   have R1 := HK.out.1.below hb1
   obtain ⟨W2, hW2⟩ : ∃ W2, W2 = setL w1 w.heap.size (k * 8) (pL (f k) b1 ((f k).q.ws.length) d1 b2 ((f k).q.bs.length) d2) := ⟨_, rfl⟩
   have H2 : Hid (∃ F', RowS W2 w.heap.size 180 8 n' F' /\ (∀ j, j < k + 1 -> (F' j).length = 8 /\ RdL W2 (w.heap.size + 1) (trs (pT (f j))) (F' j)) /\ Below w.heap.size w W2) := by
    have hg : w1.grownBy W2 (some w.heap.size) := by rw [hW2]; exact setL_gw _ _ _
    have hs1 := HK.out.1.lt
    refine ⟨_, by rw [hW2]; exact R1.set hlt _ rfl, fun j hj => ?_, by rw [hW2]; exact setL_below (Nat.le_refl _) _ _ _ (bel_nx HK.out.2.2.1 hb1)⟩
    by_cases e : j = k
    ·subst e
     simp only [if_true]
     exact ⟨rfl, VP.back ((q1.mono (by omega)).kept hg (by omega)) ((q2.mono (by omega)).kept hg (by omega))⟩
    simp only [if_neg e]
    have h9 := HK.out.2.1 j (by omega)
    exact ⟨h9.1, (h9.2.below hb1).kept hg (by omega)⟩
   have ht := R1.there hlt (m := 8) (Nat.le_refl _)
   clear R1 hb1 HK hr q1 q2
   go_wp2_with (first | (refine wpList_store_mid rfl 180 _ _ rfl w.heap.size (k * 8) (pL (f k) b1 ((f k).q.ws.length) d1 b2 ((f k).q.bs.length) d2).toArray rfl rfl ht (by kernel_rfl) (by simp [Value.oneCell']) ?_; rw [setCells_L, <- hW2]; clear hW2 ht) | fail)
   go_roundw
   case rel =>
    obtain ⟨F', x1, x2, x3⟩ := H2.out
    exact ⟨k + 1, F', by omega, by go_num, x1, x2, x3⟩
   case measure => simp [intOf]; omega
  have hi : ¬ (k : Int) < (n' : Int) := by omega
  have e9 : k = n' := by omega
  subst e9
  have HR : Hid (RowS wr w.heap.size 180 8 k F /\ (∀ j, j < k -> (F j).length = 8 /\ RdL wr (w.heap.size + 1) (trs (pT (f j))) (F j)) /\ Below w.heap.size w wr) := ⟨hrow, hin, hb⟩
  clear hrow hin hb
  go_wp2
  go_ret
  exact ⟨_, _, rfl, Rd.made HR.out.1 (Nat.le_refl _) HS.out.2 (fun j hj => ⟨(HR.out.2.1 j hj).1, (HR.out.2.1 j hj).2.mono (by omega)⟩), HR.out.2.2⟩
theorem toPend_t (X : VD) (a1 : Option Addr) (l1 c1 : Nat) (a2 : Option Addr) (l2 c2 : Nat) (a3 : Option Addr) (l3 c3 : Nat) (a4 : Option Addr) (l4 c4 : Nat) (a5 : Option Addr) (l5 c5 : Nat) (w : World) (r1 : Rd w 0 (intsT X.q.ws) (.slice a1 l1 c1)) (r2 : Rd w 0 (boolsT X.q.bs) (.slice a2 l2 c2)) (r3 : Rd w 0 (.list 8 X.np (fun i => trs (pT (X.pt i)))) (.slice a3 l3 c3)) (r4 : Rd w 0 (boolsT X.hs) (.slice a4 l4 c4)) (r5 : Rd w 0 (.list 6 X.nt (fun i => trs (aT (X.tl i)))) (.slice a5 l5 c5)) (hz : szT 13 (trs (dT X)) <= 1048576) :
 Calls Try.prog 76 #[.agg (dL X a1 l1 c1 a2 l2 c2 a3 l3 c3 a4 l4 c4 a5 l5 c5).toArray] w fun e w' => ∃ b1 d1 b2 d2 b3 d3 b4 d4 b5 d5, e = .returned (.agg (dL X b1 l1 d1 b2 l2 d2 b3 l3 d3 b4 l4 d4 b5 l5 d5).toArray) /\ Rd w' w.heap.size (intsT X.q.ws) (.slice b1 l1 d1) /\ Rd w' w.heap.size (boolsT X.q.bs) (.slice b2 l2 d2) /\ Rd w' w.heap.size (.list 8 X.np (fun i => trs (pT (X.pt i)))) (.slice b3 l3 d3) /\ Rd w' w.heap.size (boolsT X.hs) (.slice b4 l4 d4) /\ Rd w' w.heap.size (.list 6 X.nt (fun i => trs (aT (X.tl i)))) (.slice b5 l5 d5) /\ Below w.heap.size w w' := by
 obtain ⟨W, hW⟩ : ∃ W, W = ((w.alloc (.cells (dL X a1 l1 c1 a2 l2 c2 a3 l3 c3 a4 l4 c4 a5 l5 c5).toArray 160)).alloc (.cells #[.int .i64 0, .int .i64 0, .int .i64 0, .int .i64 0, .int .i64 0, .int .i64 0, .int .i64 0, .slice none 0 0, .slice none 0 0, .int .i64 0, .slice none 0 0, .slice none 0 0, .slice none 0 0] 173)).alloc (.cells #[.int .i64 X.id, .int .i64 X.so, .int .i64 X.ta, .int .i64 X.un, .int .i64 0, .int .i64 0, .int .i64 0, .slice none 0 0, .slice none 0 0, .int .i64 0, .slice none 0 0, .slice none 0 0, .slice none 0 0] 173) := ⟨_, rfl⟩
 have G0 := TS.new hW
 have HZ : Hid (szT 6 (trs (qT X.q)) <= 1048576 /\ (Tr.list 8 X.np (fun i => trs (pT (X.pt i)))).sz <= 1048576 /\ X.hs.length <= 1048576 /\ (Tr.list 6 X.nt (fun i => trs (aT (X.tl i)))).sz <= 1048576) := by
  rw [szT_d] at hz
  show szT 6 (trs (qT X.q)) <= 1048576 /\ (Tr.list 8 X.np (fun i => trs (pT (X.pt i)))).sz <= 1048576 /\ X.hs.length <= 1048576 /\ (Tr.list 6 X.nt (fun i => trs (aT (X.tl i)))).sz <= 1048576
  try simp only [szT_q, szT_a, szT_p, szT_d, szT_t, true_and]
  omega
 have HR := hide (And.intro r1 <| And.intro r2 <| And.intro r3 <| And.intro r4 <| r5)
 clear hz r1 r2 r3 r4 r5
 go_enter Try.func76, Try.ntmps76
 go_upto_region 6 with fail
 rw [<- hW]
 clear hW
 obtain ⟨⟨y0, y1, y2, y3, y4, y5, y6, y7, y8, y9, y10, y11, y12⟩, -⟩ := G0.out.a.tc13
 go_wp2_with fail
 refine (toReq_t X.q a1 l1 c1 a2 l2 c2 _ (HR.out.1.below G0.out.b) (HR.out.2.1.below G0.out.b) HZ.out.1).mono ?_
 rintro e w1 ⟨b1, d1, b2, d2, rfl, q1, q2, hb⟩
 clear y0 y1 y2 y3 y4 y5 y6 y7 y8 y9 y10 y11 y12
 obtain ⟨⟨z0, z1, z2, z3, z4, z5, z6, z7, z8, z9, z10, z11, z12⟩, zf⟩ := (G0.out.o.below hb).tc13
 have g4 := zf 4
 have g5 := zf 5
 have g6 := zf 6
 have g7 := zf 7
 have g8 := zf 8
 have g9 := zf 9
 obtain ⟨W1, hX⟩ : ∃ z, z = setL w1 (w.heap.size + 1 + 1) 4 [.int .i64 X.q.kd, .int .i64 X.q.pl, .int .i64 X.q.n, .slice b1 l1 d1, .slice b2 l2 d2, .int .i64 X.q.wa] := ⟨_, rfl⟩
 have G1 := TS.st G0 hb hX #[.int .i64 X.id, .int .i64 X.so, .int .i64 X.ta, .int .i64 X.un, .int .i64 X.q.kd, .int .i64 X.q.pl, .int .i64 X.q.n, .slice b1 l1 d1, .slice b2 l2 d2, .int .i64 X.q.wa, .slice none 0 0, .slice none 0 0, .slice none 0 0] [(intsT X.q.ws, .slice b1 l1 d1), (boolsT X.q.bs, .slice b2 l2 d2)] ⟨q1, q2, trivial⟩
 simp only [setL, Nat.reduceAdd, Nat.zero_add] at hX
 clear hb q1 q2
 go_upto_region 7 with fail
 rw [<- hX]
 clear hX zf z0 z1 z2 z3 z4 z5 z6 z7 z8 z9 z10 z11 z12 g4 g5 g6 g7 g8 g9
 obtain ⟨⟨y0, y1, y2, y3, y4, y5, y6, y7, y8, y9, y10, y11, y12⟩, -⟩ := G1.out.a.tc13
 go_wp2_with fail
 refine (toPartS_t X.np X.pt a3 l3 c3 _ (HR.out.2.2.1.below G1.out.b) HZ.out.2.1).mono ?_
 rintro e w2 ⟨b3, d3, rfl, q3, hb⟩
 clear y0 y1 y2 y3 y4 y5 y6 y7 y8 y9 y10 y11 y12
 obtain ⟨⟨z0, z1, z2, z3, z4, z5, z6, z7, z8, z9, z10, z11, z12⟩, zf⟩ := (G1.out.o.below hb).tc13
 have g10 := zf 10
 obtain ⟨W2, hX⟩ : ∃ z, z = setL w2 (w.heap.size + 1 + 1) 10 [.slice b3 l3 d3] := ⟨_, rfl⟩
 have G2 := TS.st G1 hb hX #[.int .i64 X.id, .int .i64 X.so, .int .i64 X.ta, .int .i64 X.un, .int .i64 X.q.kd, .int .i64 X.q.pl, .int .i64 X.q.n, .slice b1 l1 d1, .slice b2 l2 d2, .int .i64 X.q.wa, .slice b3 l3 d3, .slice none 0 0, .slice none 0 0] [(.list 8 X.np (fun i => trs (pT (X.pt i))), .slice b3 l3 d3)] ⟨q3, trivial⟩
 simp only [setL, Nat.reduceAdd, Nat.zero_add] at hX
 clear hb q3
 go_upto_region 8 with fail
 rw [<- hX]
 clear hX zf z0 z1 z2 z3 z4 z5 z6 z7 z8 z9 z10 z11 z12 g10
 obtain ⟨⟨y0, y1, y2, y3, y4, y5, y6, y7, y8, y9, y10, y11, y12⟩, -⟩ := G2.out.a.tc13
 go_wp2_with fail
 refine (toBoolS_t X.hs a4 l4 c4 _ (HR.out.2.2.2.1.below G2.out.b) HZ.out.2.2.1).mono ?_
 rintro e w3 ⟨b4, d4, rfl, q4, hb⟩
 clear y0 y1 y2 y3 y4 y5 y6 y7 y8 y9 y10 y11 y12
 obtain ⟨⟨z0, z1, z2, z3, z4, z5, z6, z7, z8, z9, z10, z11, z12⟩, zf⟩ := (G2.out.o.below hb).tc13
 have g11 := zf 11
 obtain ⟨W3, hX⟩ : ∃ z, z = setL w3 (w.heap.size + 1 + 1) 11 [.slice b4 l4 d4] := ⟨_, rfl⟩
 have G3 := TS.st G2 hb hX #[.int .i64 X.id, .int .i64 X.so, .int .i64 X.ta, .int .i64 X.un, .int .i64 X.q.kd, .int .i64 X.q.pl, .int .i64 X.q.n, .slice b1 l1 d1, .slice b2 l2 d2, .int .i64 X.q.wa, .slice b3 l3 d3, .slice b4 l4 d4, .slice none 0 0] [(boolsT X.hs, .slice b4 l4 d4)] ⟨q4, trivial⟩
 simp only [setL, Nat.reduceAdd, Nat.zero_add] at hX
 clear hb q4
 go_upto_region 9 with fail
 rw [<- hX]
 clear hX zf z0 z1 z2 z3 z4 z5 z6 z7 z8 z9 z10 z11 z12 g11
 obtain ⟨⟨y0, y1, y2, y3, y4, y5, y6, y7, y8, y9, y10, y11, y12⟩, -⟩ := G3.out.a.tc13
 go_wp2_with fail
 refine (toRespS_t X.nt X.tl a5 l5 c5 _ (HR.out.2.2.2.2.below G3.out.b) HZ.out.2.2.2).mono ?_
 rintro e w4 ⟨b5, d5, rfl, q5, hb⟩
 clear y0 y1 y2 y3 y4 y5 y6 y7 y8 y9 y10 y11 y12
 obtain ⟨⟨z0, z1, z2, z3, z4, z5, z6, z7, z8, z9, z10, z11, z12⟩, zf⟩ := (G3.out.o.below hb).tc13
 have g12 := zf 12
 obtain ⟨W4, hX⟩ : ∃ z, z = setL w4 (w.heap.size + 1 + 1) 12 [.slice b5 l5 d5] := ⟨_, rfl⟩
 have G4 := TS.st G3 hb hX #[.int .i64 X.id, .int .i64 X.so, .int .i64 X.ta, .int .i64 X.un, .int .i64 X.q.kd, .int .i64 X.q.pl, .int .i64 X.q.n, .slice b1 l1 d1, .slice b2 l2 d2, .int .i64 X.q.wa, .slice b3 l3 d3, .slice b4 l4 d4, .slice b5 l5 d5] [(.list 6 X.nt (fun i => trs (aT (X.tl i))), .slice b5 l5 d5)] ⟨q5, trivial⟩
 simp only [setL, Nat.reduceAdd, Nat.zero_add] at hX
 clear hb q5
 go_upto_region 10 with fail
 rw [<- hX]
 clear hX zf z0 z1 z2 z3 z4 z5 z6 z7 z8 z9 z10 z11 z12 g12
 obtain ⟨V, hV⟩ : ∃ V, V = setL W4 (w.heap.size + 1) 0 (dL X b1 l1 d1 b2 l2 d2 b3 l3 d3 b4 l4 d4 b5 l5 d5) := ⟨_, rfl⟩
 have H9 := TS.fin G4 hV
 have hr : W4.rangeAt (w.heap.size + 1 + 1) 0 (dL X b1 l1 d1 b2 l2 d2 b3 l3 d3 b4 l4 d4 b5 l5 d5) := G4.out.o.all
 have ht := G4.out.z.there 0 13 (by simp)
 clear G4
 refine wp_region_lit ?_
 refine wpList_load_mid rfl 173 (.tmp 3) rfl (w.heap.size + 1 + 1) 0 rfl (dL X b1 l1 d1 b2 l2 d2 b3 l3 d3 b4 l4 d4 b5 l5 d5) _ hr Try.underlying173 rfl (by kernel_rfl) ?_
 refine wpList_store_mid rfl 173 (.tmp 2) (.tmp 32) rfl (w.heap.size + 1) 0 (dL X b1 l1 d1 b2 l2 d2 b3 l3 d3 b4 l4 d4 b5 l5 d5).toArray rfl rfl ht (by kernel_rfl) (by simp [Value.oneCell']) ?_
 rw [setCells_L, <- hV]
 clear hV hr ht
 refine wpList_nil ?_
 go_wp2
 obtain ⟨⟨y0, y1, y2, y3, y4, y5, y6, y7, y8, y9, y10, y11, y12⟩, -⟩ := H9.out.2.1.tc13
 obtain ⟨B, -, s1, s2, s3, s4, s5, -⟩ := H9.out
 refine bodyPost_ret (v := .agg (dL X b1 l1 d1 b2 l2 d2 b3 l3 d3 b4 l4 d4 b5 l5 d5).toArray) (by simp [results, Try.results76, go_sem, y0, y1, y2, y3, y4, y5, y6, y7, y8, y9, y10, y11, y12]) rfl ⟨b1, d1, b2, d2, b3, d3, b4, d4, b5, d5, rfl, s1, s2, s3, s4, s5, B⟩
theorem toPendS_t (n : Nat) (f : Nat -> VD) (a : Option Addr) (n' cap : Nat) (w : World) (hs : Rd w 0 (.list 13 n (fun k => trs (dT (f k)))) (.slice a n' cap)) (hz : (Tr.list 13 n (fun k => trs (dT (f k)))).sz <= 1048576) :
 Calls Try.prog 54 #[.slice a n' cap] w fun e w' => ∃ b d, e = .returned (.slice b n' d) /\ Rd w' w.heap.size (.list 13 n (fun k => trs (dT (f k)))) (.slice b n' d) /\ Below w.heap.size w w' := by
 obtain ⟨a9, c9, h9, -, hn⟩ := hs.shape
 simp only [Value.slice.injEq] at h9
 obtain ⟨-, rfl, -⟩ := h9
 clear a9 c9
 have hn1 : n' <= 1048576 := by rw [Tr.sz_list] at hz; omega
 have HZ : Hid (∀ k, k < n' -> szT 13 (trs (dT (f k))) <= 1048576) := by
  show ∀ k, k < n' -> szT 13 (trs (dT (f k))) <= 1048576
  intro k hk
  rw [Tr.sz_list] at hz
  have := sumN_at (fun k => szT 13 (trs (dT (f k)))) hk
  omega
 have hmk := run_make_st (P := Try.prog) 42 173 (.agg #[.int .i64 0, .int .i64 0, .int .i64 0, .int .i64 0, .int .i64 0, .int .i64 0, .int .i64 0, .slice none 0 0, .slice none 0 0, .int .i64 0, .slice none 0 0, .slice none 0 0, .slice none 0 0]) 13 184 Try.underlying42 (by kernel_rfl) .i64 .i64 n' (by omega) (by omega)
 have HS : Hid (Rd w 0 (.list 13 n' (fun k => trs (dT (f k)))) (.slice a n' cap) /\ n' <= maxLen) := ⟨hs, hn⟩
 clear hs hz hn
 go_enter Try.func54, Try.ntmps54
 go_wp2
 clear hmk
 go_loopw [4] (fun i wr => ∃ (k : Nat) (F : Nat -> List Value), k <= n' /\ i = .int .i64 k /\ RowS wr w.heap.size 173 13 n' F /\ (∀ j, j < k -> (F j).length = 13 /\ RdL wr (w.heap.size + 1) (trs (dT (f j))) (F j)) /\ Below w.heap.size w wr) (fun i _ => n' - (intOf i).toNat)
 case atStart => exact ⟨0, fun _ => (#[.int .i64 0, .int .i64 0, .int .i64 0, .int .i64 0, .int .i64 0, .int .i64 0, .int .i64 0, .slice none 0 0, .slice none 0 0, .int .i64 0, .slice none 0 0, .slice none 0 0, .slice none 0 0]).toList, Nat.zero_le _, rfl, RowS.made w (#[.int .i64 0, .int .i64 0, .int .i64 0, .int .i64 0, .int .i64 0, .int .i64 0, .int .i64 0, .slice none 0 0, .slice none 0 0, .int .i64 0, .slice none 0 0, .slice none 0 0, .slice none 0 0]).toList n' _ (by simp), fun j hj => by omega, (Below.refl _ _).alloc (Nat.le_refl _) _⟩
 case round =>
  obtain ⟨k, F, hk, rfl, hrow, hin, hb⟩ := hrel
  by_cases hlt : k < n'
  ·have hi : (k : Int) < (n' : Int) := by omega
   obtain ⟨b, off, vs, rfl, _, hb0, hlen, hr, hrd⟩ := (HS.out.1.below hb).at hlt
   obtain ⟨a1, c1, a2, c2, a3, c3, a4, c4, a5, c5, rfl, r1, r2, r3, r4, r5⟩ := VD.cells hrd hlen
   clear hlen hrd
   have HK : Hid (RowS wr w.heap.size 173 13 n' F /\ (∀ j, j < k -> (F j).length = 13 /\ RdL wr (w.heap.size + 1) (trs (dT (f j))) (F j)) /\ Below w.heap.size w wr /\ Rd wr 0 (intsT (f k).q.ws) (.slice a1 ((f k).q.ws.length) c1) /\ Rd wr 0 (boolsT (f k).q.bs) (.slice a2 ((f k).q.bs.length) c2) /\ Rd wr 0 (.list 8 (f k).np (fun i => trs (pT ((f k).pt i)))) (.slice a3 ((f k).np) c3) /\ Rd wr 0 (boolsT (f k).hs) (.slice a4 ((f k).hs.length) c4) /\ Rd wr 0 (.list 6 (f k).nt (fun i => trs (aT ((f k).tl i)))) (.slice a5 ((f k).nt) c5)) := ⟨hrow, hin, hb, r1, r2, r3, r4, r5⟩
   clear hrow hin hb hb0 r1 r2 r3 r4 r5
   go_wp2_with (first | (refine wpList_load_mid rfl 160 _ rfl b (off + k * 13) rfl _ _ hr Try.underlying160 rfl (by kernel_rfl) ?_) | fail)
   refine (toPend_t (f k) a1 ((f k).q.ws.length) c1 a2 ((f k).q.bs.length) c2 a3 ((f k).np) c3 a4 ((f k).hs.length) c4 a5 ((f k).nt) c5 _ HK.out.2.2.2.1 HK.out.2.2.2.2.1 HK.out.2.2.2.2.2.1 HK.out.2.2.2.2.2.2.1 HK.out.2.2.2.2.2.2.2 (HZ.out k hlt)).mono ?_
   rintro e w1 ⟨b1, d1, b2, d2, b3, d3, b4, d4, b5, d5, rfl, q1, q2, q3, q4, q5, hb1⟩
   have R1 := HK.out.1.below hb1
   obtain ⟨W2, hW2⟩ : ∃ W2, W2 = setL w1 w.heap.size (k * 13) (dL (f k) b1 ((f k).q.ws.length) d1 b2 ((f k).q.bs.length) d2 b3 ((f k).np) d3 b4 ((f k).hs.length) d4 b5 ((f k).nt) d5) := ⟨_, rfl⟩
   have H2 : Hid (∃ F', RowS W2 w.heap.size 173 13 n' F' /\ (∀ j, j < k + 1 -> (F' j).length = 13 /\ RdL W2 (w.heap.size + 1) (trs (dT (f j))) (F' j)) /\ Below w.heap.size w W2) := by
    have hg : w1.grownBy W2 (some w.heap.size) := by rw [hW2]; exact setL_gw _ _ _
    have hs1 := HK.out.1.lt
    refine ⟨_, by rw [hW2]; exact R1.set hlt _ rfl, fun j hj => ?_, by rw [hW2]; exact setL_below (Nat.le_refl _) _ _ _ (bel_nx HK.out.2.2.1 hb1)⟩
    by_cases e : j = k
    ·subst e
     simp only [if_true]
     exact ⟨rfl, VD.back ((q1.mono (by omega)).kept hg (by omega)) ((q2.mono (by omega)).kept hg (by omega)) ((q3.mono (by omega)).kept hg (by omega)) ((q4.mono (by omega)).kept hg (by omega)) ((q5.mono (by omega)).kept hg (by omega))⟩
    simp only [if_neg e]
    have h9 := HK.out.2.1 j (by omega)
    exact ⟨h9.1, (h9.2.below hb1).kept hg (by omega)⟩
   have ht := R1.there hlt (m := 13) (Nat.le_refl _)
   clear R1 hb1 HK hr q1 q2 q3 q4 q5
   go_wp2_with (first | (refine wpList_store_mid rfl 173 _ _ rfl w.heap.size (k * 13) (dL (f k) b1 ((f k).q.ws.length) d1 b2 ((f k).q.bs.length) d2 b3 ((f k).np) d3 b4 ((f k).hs.length) d4 b5 ((f k).nt) d5).toArray rfl rfl ht (by kernel_rfl) (by simp [Value.oneCell']) ?_; rw [setCells_L, <- hW2]; clear hW2 ht) | fail)
   go_roundw
   case rel =>
    obtain ⟨F', x1, x2, x3⟩ := H2.out
    exact ⟨k + 1, F', by omega, by go_num, x1, x2, x3⟩
   case measure => simp [intOf]; omega
  have hi : ¬ (k : Int) < (n' : Int) := by omega
  have e9 : k = n' := by omega
  subst e9
  have HR : Hid (RowS wr w.heap.size 173 13 k F /\ (∀ j, j < k -> (F j).length = 13 /\ RdL wr (w.heap.size + 1) (trs (dT (f j))) (F j)) /\ Below w.heap.size w wr) := ⟨hrow, hin, hb⟩
  clear hrow hin hb
  go_wp2
  go_ret
  exact ⟨_, _, rfl, Rd.made HR.out.1 (Nat.le_refl _) HS.out.2 (fun j hj => ⟨(HR.out.2.1 j hj).1, (HR.out.2.1 j hj).2.mono (by omega)⟩), HR.out.2.2⟩
theorem toTable_t (X : VT) (a1 : Option Addr) (l1 c1 : Nat) (w : World) (r1 : Rd w 0 (.list 13 X.m (fun i => trs (dT (X.f i)))) (.slice a1 l1 c1)) (hz : szT 2 (trs (tT X)) <= 1048576) :
 Calls Try.prog 32 #[.agg (tL X a1 l1 c1).toArray] w fun e w' => ∃ b1 d1, e = .returned (.agg (tL X b1 l1 d1).toArray) /\ Rd w' w.heap.size (.list 13 X.m (fun i => trs (dT (X.f i)))) (.slice b1 l1 d1) /\ Below w.heap.size w w' := by
 obtain ⟨W, hW⟩ : ∃ W, W = ((w.alloc (.cells (tL X a1 l1 c1).toArray 27)).alloc (.cells #[.int .i64 0, .slice none 0 0] 44)).alloc (.cells #[.int .i64 X.nx, .slice none 0 0] 44) := ⟨_, rfl⟩
 have G0 := TS.new hW
 have HZ : Hid ((Tr.list 13 X.m (fun i => trs (dT (X.f i)))).sz <= 1048576) := by
  rw [szT_t] at hz
  show (Tr.list 13 X.m (fun i => trs (dT (X.f i)))).sz <= 1048576
  try simp only [szT_q, szT_a, szT_p, szT_d, szT_t, true_and]
  omega
 have HR := hide (r1)
 clear hz r1
 go_enter Try.func32, Try.ntmps32
 go_upto_region 3 with fail
 rw [<- hW]
 clear hW
 obtain ⟨⟨y0, y1⟩, -⟩ := G0.out.a.tc2
 go_wp2_with fail
 refine (toPendS_t X.m X.f a1 l1 c1 _ (HR.out.below G0.out.b) HZ.out).mono ?_
 rintro e w1 ⟨b1, d1, rfl, q1, hb⟩
 clear y0 y1
 obtain ⟨⟨z0, z1⟩, zf⟩ := (G0.out.o.below hb).tc2
 have g1 := zf 1
 obtain ⟨W1, hX⟩ : ∃ z, z = setL w1 (w.heap.size + 1 + 1) 1 [.slice b1 l1 d1] := ⟨_, rfl⟩
 have G1 := TS.st G0 hb hX #[.int .i64 X.nx, .slice b1 l1 d1] [(.list 13 X.m (fun i => trs (dT (X.f i))), .slice b1 l1 d1)] ⟨q1, trivial⟩
 simp only [setL, Nat.reduceAdd, Nat.zero_add] at hX
 clear hb q1
 go_upto_region 4 with fail
 rw [<- hX]
 clear hX zf z0 z1 g1
 obtain ⟨V, hV⟩ : ∃ V, V = setL W1 (w.heap.size + 1) 0 (tL X b1 l1 d1) := ⟨_, rfl⟩
 have H9 := TS.fin G1 hV
 have hr : W1.rangeAt (w.heap.size + 1 + 1) 0 (tL X b1 l1 d1) := G1.out.o.all
 have ht := G1.out.z.there 0 2 (by simp)
 clear G1
 refine wp_region_lit ?_
 refine wpList_load_mid rfl 44 (.tmp 3) rfl (w.heap.size + 1 + 1) 0 rfl (tL X b1 l1 d1) _ hr Try.underlying44 rfl (by kernel_rfl) ?_
 refine wpList_store_mid rfl 44 (.tmp 2) (.tmp 11) rfl (w.heap.size + 1) 0 (tL X b1 l1 d1).toArray rfl rfl ht (by kernel_rfl) (by simp [Value.oneCell']) ?_
 rw [setCells_L, <- hV]
 clear hV hr ht
 refine wpList_nil ?_
 go_wp2
 obtain ⟨⟨y0, y1⟩, -⟩ := H9.out.2.1.tc2
 obtain ⟨B, -, s1, -⟩ := H9.out
 refine bodyPost_ret (v := .agg (tL X b1 l1 d1).toArray) (by simp [results, Try.results32, go_sem, y0, y1]) rfl ⟨b1, d1, rfl, s1, B⟩
end Go.Proofs.Ytplaoagcedgdfaa
