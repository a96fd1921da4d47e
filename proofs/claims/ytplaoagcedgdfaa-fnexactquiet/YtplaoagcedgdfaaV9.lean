/- Texts that the proof needs, joined: Tr12. -/
import Derived.Test.YtplaoagcedgdfaaV8
import Derived.Test.YtplaoagcedgdfaaV6
set_option linter.unusedVariables false
set_option linter.unusedSimpArgs false
set_option maxHeartbeats 4000000
set_option maxRecDepth 20000
namespace Go.Proofs.Ytplaoagcedgdfaa
open Go.RowKit Go.Joins
theorem toRuleS_t (n : Nat) (f : Nat -> Ru) (a : Option Addr) (n' cap : Nat) (w : World) (hs : Rd w 0 (.list 7 n (fun k => trs (xrT (f k)))) (.slice a n' cap)) (hz : (Tr.list 7 n (fun k => trs (xrT (f k)))).sz <= 1048576) :
 Calls Try.prog 53 #[.slice a n' cap] w fun e w' => ∃ b d, e = .returned (.slice b n' d) /\ Rd w' w.heap.size (.list 7 n (fun k => trs (xrT (f k)))) (.slice b n' d) /\ Below w.heap.size w w' := by
 rw [ruS_sz] at hz
 obtain ⟨rfl, h1⟩ := hs.slu
 obtain ⟨_, _, h9, -, hm⟩ := hs.shape
 refine (toRuleS_any a n' cap f w h1 (by omega)).mono ?_
 rintro e w' ⟨rfl, hr, hb⟩
 exact ⟨_, _, rfl, Rd.made hr (Nat.le_refl _) hm (fun k hk => ⟨rfl, Ru.back⟩), hb⟩
theorem toConfig_t (X : VC) (a1 : Option Addr) (l1 c1 : Nat) (w : World) (r1 : Rd w 0 (.list 7 X.n (fun i => trs (xrT (X.f i)))) (.slice a1 l1 c1)) (hz : szT 3 (trs (xcT X)) <= 1048576) :
 Calls Try.prog 31 #[.agg (xcL X a1 l1 c1).toArray] w fun e w' => ∃ b1 d1, e = .returned (.agg (xcL X b1 l1 d1).toArray) /\ Rd w' w.heap.size (.list 7 X.n (fun i => trs (xrT (X.f i)))) (.slice b1 l1 d1) /\ Below w.heap.size w w' := by
 obtain ⟨W, hW⟩ : ∃ W, W = ((w.alloc (.cells (xcL X a1 l1 c1).toArray 24)).alloc (.cells #[.int .i64 0, .int .i64 0, .slice none 0 0] 41)).alloc (.cells #[.int .i64 X.wt, .int .i64 X.tr, .slice none 0 0] 41) := ⟨_, rfl⟩
 have G0 := TS.new hW
 have HZ : Hid ((Tr.list 7 X.n (fun i => trs (xrT (X.f i)))).sz <= 1048576) := by
  rw [szT_xc] at hz
  show (Tr.list 7 X.n (fun i => trs (xrT (X.f i)))).sz <= 1048576
  try simp only [szT_q, szT_a, szT_p, szT_d, szT_t, szT_xr, szT_xc, szT_xl, szT_xn, szT_xf, szT_xd, szT_xs, szT_xk, szT_xy, szT_xe, szT_xw, true_and]
  omega
 have HR := hide (r1)
 clear hz r1
 go_enter Try.func31, Try.ntmps31
 go_upto_region 4 with fail
 rw [<- hW]
 clear hW
 obtain ⟨⟨y0, y1, y2⟩, -⟩ := G0.out.a.tc3
 go_wp2_with fail
 refine (toRuleS_t X.n X.f a1 l1 c1 _ (HR.out.below G0.out.b) HZ.out).mono ?_
 rintro e w1 ⟨b1, d1, rfl, q1, hb⟩
 clear y0 y1 y2
 obtain ⟨⟨z0, z1, z2⟩, zf⟩ := (G0.out.o.below hb).tc3
 have g2 := zf 2
 obtain ⟨W1, hX⟩ : ∃ z, z = setL w1 (w.heap.size + 1 + 1) 2 [.slice b1 l1 d1] := ⟨_, rfl⟩
 have G1 := TS.st G0 hb hX #[.int .i64 X.wt, .int .i64 X.tr, .slice b1 l1 d1] [(.list 7 X.n (fun i => trs (xrT (X.f i))), .slice b1 l1 d1)] ⟨q1, trivial⟩
 simp only [setL, Nat.reduceAdd, Nat.zero_add] at hX
 clear hb q1
 go_upto_region 5 with fail
 rw [<- hX]
 clear hX zf z0 z1 z2 g2
 obtain ⟨V, hV⟩ : ∃ V, V = setL W1 (w.heap.size + 1) 0 (xcL X b1 l1 d1) := ⟨_, rfl⟩
 have H9 := TS.fin G1 hV
 have hr : W1.rangeAt (w.heap.size + 1 + 1) 0 (xcL X b1 l1 d1) := G1.out.o.all
 have ht := G1.out.z.there 0 3 (by simp)
 clear G1
 refine wp_region_lit ?_
 refine wpList_load_mid rfl 41 (.tmp 3) rfl (w.heap.size + 1 + 1) 0 rfl (xcL X b1 l1 d1) _ hr Try.underlying41 rfl (by kernel_rfl) ?_
 refine wpList_store_mid rfl 41 (.tmp 2) (.tmp 14) rfl (w.heap.size + 1) 0 (xcL X b1 l1 d1).toArray rfl rfl ht (by kernel_rfl) (by simp [Value.oneCell']) ?_
 rw [setCells_L, <- hV]
 clear hV hr ht
 refine wpList_nil ?_
 go_wp2
 obtain ⟨⟨y0, y1, y2⟩, -⟩ := H9.out.2.1.tc3
 obtain ⟨B, -, s1, -⟩ := H9.out
 refine bodyPost_ret (v := .agg (xcL X b1 l1 d1).toArray) (by simp [results, Try.results31, go_sem, y0, y1, y2]) rfl ⟨b1, d1, rfl, s1, B⟩
theorem toCall_t (X : VL) (a1 : Option Addr) (l1 c1 : Nat) (a2 : Option Addr) (l2 c2 : Nat) (w : World) (r1 : Rd w 0 (intsT X.q.ws) (.slice a1 l1 c1)) (r2 : Rd w 0 (boolsT X.q.bs) (.slice a2 l2 c2)) (hz : szT 9 (trs (xlT X)) <= 1048576) :
 Calls Try.prog 78 #[.agg (xlL X a1 l1 c1 a2 l2 c2).toArray] w fun e w' => ∃ b1 d1 b2 d2, e = .returned (.agg (xlL X b1 l1 d1 b2 l2 d2).toArray) /\ Rd w' w.heap.size (intsT X.q.ws) (.slice b1 l1 d1) /\ Rd w' w.heap.size (boolsT X.q.bs) (.slice b2 l2 d2) /\ Below w.heap.size w w' := by
 obtain ⟨W, hW⟩ : ∃ W, W = ((w.alloc (.cells (xlL X a1 l1 c1 a2 l2 c2).toArray 129)).alloc (.cells #[.int .i64 0, .int .i64 0, .int .i64 0, .int .i64 0, .int .i64 0, .int .i64 0, .slice none 0 0, .slice none 0 0, .int .i64 0] 141)).alloc (.cells #[.int .i64 X.id, .int .i64 X.pa, .int .i64 X.un, .int .i64 0, .int .i64 0, .int .i64 0, .slice none 0 0, .slice none 0 0, .int .i64 0] 141) := ⟨_, rfl⟩
 have G0 := TS.new hW
 have HZ : Hid (szT 6 (trs (qT X.q)) <= 1048576) := by
  rw [szT_xl] at hz
  show szT 6 (trs (qT X.q)) <= 1048576
  try simp only [szT_q, szT_a, szT_p, szT_d, szT_t, szT_xr, szT_xc, szT_xl, szT_xn, szT_xf, szT_xd, szT_xs, szT_xk, szT_xy, szT_xe, szT_xw, true_and]
  omega
 have HR := hide (And.intro r1 <| r2)
 clear hz r1 r2
 go_enter Try.func78, Try.ntmps78
 go_upto_region 5 with fail
 rw [<- hW]
 clear hW
 obtain ⟨⟨y0, y1, y2, y3, y4, y5, y6, y7, y8⟩, -⟩ := G0.out.a.tc9
 go_wp2_with fail
 refine (toReq_t X.q a1 l1 c1 a2 l2 c2 _ (HR.out.1.below G0.out.b) (HR.out.2.below G0.out.b) HZ.out).mono ?_
 rintro e w1 ⟨b1, d1, b2, d2, rfl, q1, q2, hb⟩
 clear y0 y1 y2 y3 y4 y5 y6 y7 y8
 obtain ⟨⟨z0, z1, z2, z3, z4, z5, z6, z7, z8⟩, zf⟩ := (G0.out.o.below hb).tc9
 have g3 := zf 3
 have g4 := zf 4
 have g5 := zf 5
 have g6 := zf 6
 have g7 := zf 7
 have g8 := zf 8
 obtain ⟨W1, hX⟩ : ∃ z, z = setL w1 (w.heap.size + 1 + 1) 3 [.int .i64 X.q.kd, .int .i64 X.q.pl, .int .i64 X.q.n, .slice b1 l1 d1, .slice b2 l2 d2, .int .i64 X.q.wa] := ⟨_, rfl⟩
 have G1 := TS.st G0 hb hX #[.int .i64 X.id, .int .i64 X.pa, .int .i64 X.un, .int .i64 X.q.kd, .int .i64 X.q.pl, .int .i64 X.q.n, .slice b1 l1 d1, .slice b2 l2 d2, .int .i64 X.q.wa] [(intsT X.q.ws, .slice b1 l1 d1), (boolsT X.q.bs, .slice b2 l2 d2)] ⟨q1, q2, trivial⟩
 simp only [setL, Nat.reduceAdd, Nat.zero_add] at hX
 clear hb q1 q2
 go_upto_region 6 with fail
 rw [<- hX]
 clear hX zf z0 z1 z2 z3 z4 z5 z6 z7 z8 g3 g4 g5 g6 g7 g8
 obtain ⟨V, hV⟩ : ∃ V, V = setL W1 (w.heap.size + 1) 0 (xlL X b1 l1 d1 b2 l2 d2) := ⟨_, rfl⟩
 have H9 := TS.fin G1 hV
 have hr : W1.rangeAt (w.heap.size + 1 + 1) 0 (xlL X b1 l1 d1 b2 l2 d2) := G1.out.o.all
 have ht := G1.out.z.there 0 9 (by simp)
 clear G1
 refine wp_region_lit ?_
 refine wpList_load_mid rfl 141 (.tmp 3) rfl (w.heap.size + 1 + 1) 0 rfl (xlL X b1 l1 d1 b2 l2 d2) _ hr Try.underlying141 rfl (by kernel_rfl) ?_
 refine wpList_store_mid rfl 141 (.tmp 2) (.tmp 17) rfl (w.heap.size + 1) 0 (xlL X b1 l1 d1 b2 l2 d2).toArray rfl rfl ht (by kernel_rfl) (by simp [Value.oneCell']) ?_
 rw [setCells_L, <- hV]
 clear hV hr ht
 refine wpList_nil ?_
 go_wp2
 obtain ⟨⟨y0, y1, y2, y3, y4, y5, y6, y7, y8⟩, -⟩ := H9.out.2.1.tc9
 obtain ⟨B, -, s1, s2, -⟩ := H9.out
 refine bodyPost_ret (v := .agg (xlL X b1 l1 d1 b2 l2 d2).toArray) (by simp [results, Try.results78, go_sem, y0, y1, y2, y3, y4, y5, y6, y7, y8]) rfl ⟨b1, d1, b2, d2, rfl, s1, s2, B⟩
theorem toCallS_t (n : Nat) (f : Nat -> VL) (a : Option Addr) (n' cap : Nat) (w : World) (hs : Rd w 0 (.list 9 n (fun k => trs (xlT (f k)))) (.slice a n' cap)) (hz : (Tr.list 9 n (fun k => trs (xlT (f k)))).sz <= 1048576) :
 Calls Try.prog 77 #[.slice a n' cap] w fun e w' => ∃ b d, e = .returned (.slice b n' d) /\ Rd w' w.heap.size (.list 9 n (fun k => trs (xlT (f k)))) (.slice b n' d) /\ Below w.heap.size w w' := by
 obtain ⟨a9, c9, h9, -, hn⟩ := hs.shape
 simp only [Value.slice.injEq] at h9
 obtain ⟨-, rfl, -⟩ := h9
 clear a9 c9
 have hn1 : n' <= 1048576 := by rw [Tr.sz_list] at hz; omega
 have HZ : Hid (∀ k, k < n' -> szT 9 (trs (xlT (f k))) <= 1048576) := by
  show ∀ k, k < n' -> szT 9 (trs (xlT (f k))) <= 1048576
  intro k hk
  rw [Tr.sz_list] at hz
  have := sumN_at (fun k => szT 9 (trs (xlT (f k)))) hk
  omega
 have hmk := run_make_st (P := Try.prog) 139 141 (.agg #[.int .i64 0, .int .i64 0, .int .i64 0, .int .i64 0, .int .i64 0, .int .i64 0, .slice none 0 0, .slice none 0 0, .int .i64 0]) 9 104 Try.underlying139 (by kernel_rfl) .i64 .i64 n' (by omega) (by omega)
 have HS : Hid (Rd w 0 (.list 9 n' (fun k => trs (xlT (f k)))) (.slice a n' cap) /\ n' <= maxLen) := ⟨hs, hn⟩
 clear hs hz hn
 go_enter Try.func77, Try.ntmps77
 go_wp2
 clear hmk
 go_loopw [4] (fun i wr => ∃ (k : Nat) (F : Nat -> List Value), k <= n' /\ i = .int .i64 k /\ RowS wr w.heap.size 141 9 n' F /\ (∀ j, j < k -> (F j).length = 9 /\ RdL wr (w.heap.size + 1) (trs (xlT (f j))) (F j)) /\ Below w.heap.size w wr) (fun i _ => n' - (intOf i).toNat)
 case atStart => exact ⟨0, fun _ => (#[.int .i64 0, .int .i64 0, .int .i64 0, .int .i64 0, .int .i64 0, .int .i64 0, .slice none 0 0, .slice none 0 0, .int .i64 0]).toList, Nat.zero_le _, rfl, RowS.made w (#[.int .i64 0, .int .i64 0, .int .i64 0, .int .i64 0, .int .i64 0, .int .i64 0, .slice none 0 0, .slice none 0 0, .int .i64 0]).toList n' _ (by simp), fun j hj => by omega, (Below.refl _ _).alloc (Nat.le_refl _) _⟩
 case round =>
  obtain ⟨k, F, hk, rfl, hrow, hin, hb⟩ := hrel
  by_cases hlt : k < n'
  ·have hi : (k : Int) < (n' : Int) := by omega
   obtain ⟨b, off, vs, rfl, _, hb0, hlen, hr, hrd⟩ := (HS.out.1.below hb).at hlt
   obtain ⟨a1, c1, a2, c2, rfl, r1, r2⟩ := VL.cells hrd hlen
   clear hlen hrd
   have HK : Hid (RowS wr w.heap.size 141 9 n' F /\ (∀ j, j < k -> (F j).length = 9 /\ RdL wr (w.heap.size + 1) (trs (xlT (f j))) (F j)) /\ Below w.heap.size w wr /\ Rd wr 0 (intsT (f k).q.ws) (.slice a1 ((f k).q.ws.length) c1) /\ Rd wr 0 (boolsT (f k).q.bs) (.slice a2 ((f k).q.bs.length) c2)) := ⟨hrow, hin, hb, r1, r2⟩
   clear hrow hin hb hb0 r1 r2
   go_wp2_with (first | (refine wpList_load_mid rfl 129 _ rfl b (off + k * 9) rfl _ _ hr Try.underlying129 rfl (by kernel_rfl) ?_) | fail)
   refine (toCall_t (f k) a1 ((f k).q.ws.length) c1 a2 ((f k).q.bs.length) c2 _ HK.out.2.2.2.1 HK.out.2.2.2.2 (HZ.out k hlt)).mono ?_
   rintro e w1 ⟨b1, d1, b2, d2, rfl, q1, q2, hb1⟩
   have R1 := HK.out.1.below hb1
   obtain ⟨W2, hW2⟩ : ∃ W2, W2 = setL w1 w.heap.size (k * 9) (xlL (f k) b1 ((f k).q.ws.length) d1 b2 ((f k).q.bs.length) d2) := ⟨_, rfl⟩
   have H2 : Hid (∃ F', RowS W2 w.heap.size 141 9 n' F' /\ (∀ j, j < k + 1 -> (F' j).length = 9 /\ RdL W2 (w.heap.size + 1) (trs (xlT (f j))) (F' j)) /\ Below w.heap.size w W2) := by
    have hg : w1.grownBy W2 (some w.heap.size) := by rw [hW2]; exact setL_gw _ _ _
    have hs1 := HK.out.1.lt
    refine ⟨_, by rw [hW2]; exact R1.set hlt _ rfl, fun j hj => ?_, by rw [hW2]; exact setL_below (Nat.le_refl _) _ _ _ (bel_nx HK.out.2.2.1 hb1)⟩
    by_cases e : j = k
    ·subst e
     simp only [if_true]
     exact ⟨rfl, VL.back ((q1.mono (by omega)).kept hg (by omega)) ((q2.mono (by omega)).kept hg (by omega))⟩
    simp only [if_neg e]
    have h9 := HK.out.2.1 j (by omega)
    exact ⟨h9.1, (h9.2.below hb1).kept hg (by omega)⟩
   have ht := R1.there hlt (m := 9) (Nat.le_refl _)
   clear R1 hb1 HK hr q1 q2
   go_wp2_with (first | (refine wpList_store_mid rfl 141 _ _ rfl w.heap.size (k * 9) (xlL (f k) b1 ((f k).q.ws.length) d1 b2 ((f k).q.bs.length) d2).toArray rfl rfl ht (by kernel_rfl) (by simp [Value.oneCell']) ?_; rw [setCells_L, <- hW2]; clear hW2 ht) | fail)
   go_roundw
   case rel =>
    obtain ⟨F', x1, x2, x3⟩ := H2.out
    exact ⟨k + 1, F', by omega, by go_num, x1, x2, x3⟩
   case measure => simp [intOf]; omega
  have hi : ¬ (k : Int) < (n' : Int) := by omega
  have e9 : k = n' := by omega
  subst e9
  have HR : Hid (RowS wr w.heap.size 141 9 k F /\ (∀ j, j < k -> (F j).length = 9 /\ RdL wr (w.heap.size + 1) (trs (xlT (f j))) (F j)) /\ Below w.heap.size w wr) := ⟨hrow, hin, hb⟩
  clear hrow hin hb
  go_wp2
  go_ret
  exact ⟨_, _, rfl, Rd.made HR.out.1 (Nat.le_refl _) HS.out.2 (fun j hj => ⟨(HR.out.2.1 j hj).1, (HR.out.2.1 j hj).2.mono (by omega)⟩), HR.out.2.2⟩
theorem toLine_t (X : VN) (a1 : Option Addr) (l1 c1 : Nat) (a2 : Option Addr) (l2 c2 : Nat) (a3 : Option Addr) (l3 c3 : Nat) (w : World) (r1 : Rd w 0 (.list 9 X.nq (fun i => trs (xlT (X.qf i)))) (.slice a1 l1 c1)) (r2 : Rd w 0 (intsT X.c.q.ws) (.slice a2 l2 c2)) (r3 : Rd w 0 (boolsT X.c.q.bs) (.slice a3 l3 c3)) (hz : szT 17 (trs (xnT X)) <= 1048576) :
 Calls Try.prog 55 #[.agg (xnL X a1 l1 c1 a2 l2 c2 a3 l3 c3).toArray] w fun e w' => ∃ b1 d1 b2 d2 b3 d3, e = .returned (.agg (xnL X b1 l1 d1 b2 l2 d2 b3 l3 d3).toArray) /\ Rd w' w.heap.size (.list 9 X.nq (fun i => trs (xlT (X.qf i)))) (.slice b1 l1 d1) /\ Rd w' w.heap.size (intsT X.c.q.ws) (.slice b2 l2 d2) /\ Rd w' w.heap.size (boolsT X.c.q.bs) (.slice b3 l3 d3) /\ Below w.heap.size w w' := by
 obtain ⟨W, hW⟩ : ∃ W, W = ((w.alloc (.cells (xnL X a1 l1 c1 a2 l2 c2 a3 l3 c3).toArray 131)).alloc (.cells #[.slice none 0 0, .bool false, .int .i64 0, .int .i64 0, .int .i64 0, .int .i64 0, .int .i64 0, .int .i64 0, .slice none 0 0, .slice none 0 0, .int .i64 0, .int .i64 0, .int .i64 0, .int .i64 0, .int .i64 0, .int .i64 0, .int .i64 0] 143)).alloc (.cells #[.slice none 0 0, .bool false, .int .i64 0, .int .i64 0, .int .i64 0, .int .i64 0, .int .i64 0, .int .i64 0, .slice none 0 0, .slice none 0 0, .int .i64 0, .int .i64 0, .int .i64 0, .int .i64 0, .int .i64 0, .int .i64 0, .int .i64 0] 143) := ⟨_, rfl⟩
 have G0 := TS.new hW
 have HZ : Hid ((Tr.list 9 X.nq (fun i => trs (xlT (X.qf i)))).sz <= 1048576 /\ szT 9 (trs (xlT X.c)) <= 1048576) := by
  rw [szT_xn] at hz
  show (Tr.list 9 X.nq (fun i => trs (xlT (X.qf i)))).sz <= 1048576 /\ szT 9 (trs (xlT X.c)) <= 1048576
  try simp only [szT_q, szT_a, szT_p, szT_d, szT_t, szT_xr, szT_xc, szT_xl, szT_xn, szT_xf, szT_xd, szT_xs, szT_xk, szT_xy, szT_xe, szT_xw, true_and]
  omega
 have HR := hide (And.intro r1 <| And.intro r2 <| r3)
 clear hz r1 r2 r3
 go_enter Try.func55, Try.ntmps55
 go_upto_region 2 with fail
 rw [<- hW]
 clear hW
 obtain ⟨⟨y0, y1, y2, y3, y4, y5, y6, y7, y8, y9, y10, y11, y12, y13, y14, y15, y16⟩, -⟩ := G0.out.a.tc17
 go_wp2_with fail
 refine (toCallS_t X.nq X.qf a1 l1 c1 _ (HR.out.1.below G0.out.b) HZ.out.1).mono ?_
 rintro e w1 ⟨b1, d1, rfl, q1, hb⟩
 clear y0 y1 y2 y3 y4 y5 y6 y7 y8 y9 y10 y11 y12 y13 y14 y15 y16
 obtain ⟨⟨y0, y1, y2, y3, y4, y5, y6, y7, y8, y9, y10, y11, y12, y13, y14, y15, y16⟩, -⟩ := (G0.out.a.below hb).tc17
 obtain ⟨⟨z0, z1, z2, z3, z4, z5, z6, z7, z8, z9, z10, z11, z12, z13, z14, z15, z16⟩, zf⟩ := (G0.out.o.below hb).tc17
 have g0 := zf 0
 have g1 := zf 1
 obtain ⟨W1, hX⟩ : ∃ z, z = setL w1 (w.heap.size + 1 + 1) 0 [.slice b1 l1 d1, .bool X.bz] := ⟨_, rfl⟩
 have G1 := TS.st G0 hb hX #[.slice b1 l1 d1, .bool X.bz, .int .i64 0, .int .i64 0, .int .i64 0, .int .i64 0, .int .i64 0, .int .i64 0, .slice none 0 0, .slice none 0 0, .int .i64 0, .int .i64 0, .int .i64 0, .int .i64 0, .int .i64 0, .int .i64 0, .int .i64 0] [(.list 9 X.nq (fun i => trs (xlT (X.qf i))), .slice b1 l1 d1)] ⟨q1, trivial⟩
 simp only [setL, Nat.reduceAdd, Nat.zero_add] at hX
 clear hb q1
 go_upto_region 4 with fail
 rw [<- hX]
 clear hX zf z0 z1 z2 z3 z4 z5 z6 z7 z8 z9 z10 z11 z12 z13 z14 z15 z16 g0 g1 y0 y1 y2 y3 y4 y5 y6 y7 y8 y9 y10 y11 y12 y13 y14 y15 y16
 obtain ⟨⟨y0, y1, y2, y3, y4, y5, y6, y7, y8, y9, y10, y11, y12, y13, y14, y15, y16⟩, -⟩ := G1.out.a.tc17
 go_wp2_with fail
 refine (toCall_t X.c a2 l2 c2 a3 l3 c3 _ (HR.out.2.1.below G1.out.b) (HR.out.2.2.below G1.out.b) HZ.out.2).mono ?_
 rintro e w2 ⟨b2, d2, b3, d3, rfl, q2, q3, hb⟩
 clear y0 y1 y2 y3 y4 y5 y6 y7 y8 y9 y10 y11 y12 y13 y14 y15 y16
 obtain ⟨⟨y0, y1, y2, y3, y4, y5, y6, y7, y8, y9, y10, y11, y12, y13, y14, y15, y16⟩, -⟩ := (G1.out.a.below hb).tc17
 obtain ⟨⟨z0, z1, z2, z3, z4, z5, z6, z7, z8, z9, z10, z11, z12, z13, z14, z15, z16⟩, zf⟩ := (G1.out.o.below hb).tc17
 have g2 := zf 2
 have g3 := zf 3
 have g4 := zf 4
 have g5 := zf 5
 have g6 := zf 6
 have g7 := zf 7
 have g8 := zf 8
 have g9 := zf 9
 have g10 := zf 10
 have g11 := zf 11
 have g12 := zf 12
 have g13 := zf 13
 have g14 := zf 14
 have g15 := zf 15
 have g16 := zf 16
 obtain ⟨W2, hX⟩ : ∃ z, z = setL w2 (w.heap.size + 1 + 1) 2 [.int .i64 X.c.id, .int .i64 X.c.pa, .int .i64 X.c.un, .int .i64 X.c.q.kd, .int .i64 X.c.q.pl, .int .i64 X.c.q.n, .slice b2 l2 d2, .slice b3 l3 d3, .int .i64 X.c.q.wa, .int .i64 X.nu, .int .i64 X.du, .int .i64 X.le, .int .i64 X.nx, .int .i64 X.wt, .int .i64 X.tr] := ⟨_, rfl⟩
 have G2 := TS.st G1 hb hX #[.slice b1 l1 d1, .bool X.bz, .int .i64 X.c.id, .int .i64 X.c.pa, .int .i64 X.c.un, .int .i64 X.c.q.kd, .int .i64 X.c.q.pl, .int .i64 X.c.q.n, .slice b2 l2 d2, .slice b3 l3 d3, .int .i64 X.c.q.wa, .int .i64 X.nu, .int .i64 X.du, .int .i64 X.le, .int .i64 X.nx, .int .i64 X.wt, .int .i64 X.tr] [(intsT X.c.q.ws, .slice b2 l2 d2), (boolsT X.c.q.bs, .slice b3 l3 d3)] ⟨q2, q3, trivial⟩
 simp only [setL, Nat.reduceAdd, Nat.zero_add] at hX
 clear hb q2 q3
 go_upto_region 11 with fail
 rw [<- hX]
 clear hX zf z0 z1 z2 z3 z4 z5 z6 z7 z8 z9 z10 z11 z12 z13 z14 z15 z16 g2 g3 g4 g5 g6 g7 g8 g9 g10 g11 g12 g13 g14 g15 g16 y0 y1 y2 y3 y4 y5 y6 y7 y8 y9 y10 y11 y12 y13 y14 y15 y16
 obtain ⟨V, hV⟩ : ∃ V, V = setL W2 (w.heap.size + 1) 0 (xnL X b1 l1 d1 b2 l2 d2 b3 l3 d3) := ⟨_, rfl⟩
 have H9 := TS.fin G2 hV
 have hr : W2.rangeAt (w.heap.size + 1 + 1) 0 (xnL X b1 l1 d1 b2 l2 d2 b3 l3 d3) := G2.out.o.all
 have ht := G2.out.z.there 0 17 (by simp)
 clear G2
 refine wp_region_lit ?_
 refine wpList_load_mid rfl 143 (.tmp 3) rfl (w.heap.size + 1 + 1) 0 rfl (xnL X b1 l1 d1 b2 l2 d2 b3 l3 d3) _ hr Try.underlying143 rfl (by kernel_rfl) ?_
 refine wpList_store_mid rfl 143 (.tmp 2) (.tmp 33) rfl (w.heap.size + 1) 0 (xnL X b1 l1 d1 b2 l2 d2 b3 l3 d3).toArray rfl rfl ht (by kernel_rfl) (by simp [Value.oneCell']) ?_
 rw [setCells_L, <- hV]
 clear hV hr ht
 refine wpList_nil ?_
 go_wp2
 obtain ⟨⟨y0, y1, y2, y3, y4, y5, y6, y7, y8, y9, y10, y11, y12, y13, y14, y15, y16⟩, -⟩ := H9.out.2.1.tc17
 obtain ⟨B, -, s1, s2, s3, -⟩ := H9.out
 refine bodyPost_ret (v := .agg (xnL X b1 l1 d1 b2 l2 d2 b3 l3 d3).toArray) (by simp [results, Try.results55, go_sem, y0, y1, y2, y3, y4, y5, y6, y7, y8, y9, y10, y11, y12, y13, y14, y15, y16]) rfl ⟨b1, d1, b2, d2, b3, d3, rfl, s1, s2, s3, B⟩
theorem toLineS_t (n : Nat) (f : Nat -> VN) (a : Option Addr) (n' cap : Nat) (w : World) (hs : Rd w 0 (.list 17 n (fun k => trs (xnT (f k)))) (.slice a n' cap)) (hz : (Tr.list 17 n (fun k => trs (xnT (f k)))).sz <= 1048576) :
 Calls Try.prog 33 #[.slice a n' cap] w fun e w' => ∃ b d, e = .returned (.slice b n' d) /\ Rd w' w.heap.size (.list 17 n (fun k => trs (xnT (f k)))) (.slice b n' d) /\ Below w.heap.size w w' := by
 obtain ⟨a9, c9, h9, -, hn⟩ := hs.shape
 simp only [Value.slice.injEq] at h9
 obtain ⟨-, rfl, -⟩ := h9
 clear a9 c9
 have hn1 : n' <= 1048576 := by rw [Tr.sz_list] at hz; omega
 have HZ : Hid (∀ k, k < n' -> szT 17 (trs (xnT (f k))) <= 1048576) := by
  show ∀ k, k < n' -> szT 17 (trs (xnT (f k))) <= 1048576
  intro k hk
  rw [Tr.sz_list] at hz
  have := sumN_at (fun k => szT 17 (trs (xnT (f k)))) hk
  omega
 have hmk := run_make_st (P := Try.prog) 45 143 (.agg #[.slice none 0 0, .bool false, .int .i64 0, .int .i64 0, .int .i64 0, .int .i64 0, .int .i64 0, .int .i64 0, .slice none 0 0, .slice none 0 0, .int .i64 0, .int .i64 0, .int .i64 0, .int .i64 0, .int .i64 0, .int .i64 0, .int .i64 0]) 17 184 Try.underlying45 (by kernel_rfl) .i64 .i64 n' (by omega) (by omega)
 have HS : Hid (Rd w 0 (.list 17 n' (fun k => trs (xnT (f k)))) (.slice a n' cap) /\ n' <= maxLen) := ⟨hs, hn⟩
 clear hs hz hn
 go_enter Try.func33, Try.ntmps33
 go_wp2
 clear hmk
 go_loopw [4] (fun i wr => ∃ (k : Nat) (F : Nat -> List Value), k <= n' /\ i = .int .i64 k /\ RowS wr w.heap.size 143 17 n' F /\ (∀ j, j < k -> (F j).length = 17 /\ RdL wr (w.heap.size + 1) (trs (xnT (f j))) (F j)) /\ Below w.heap.size w wr) (fun i _ => n' - (intOf i).toNat)
 case atStart => exact ⟨0, fun _ => (#[.slice none 0 0, .bool false, .int .i64 0, .int .i64 0, .int .i64 0, .int .i64 0, .int .i64 0, .int .i64 0, .slice none 0 0, .slice none 0 0, .int .i64 0, .int .i64 0, .int .i64 0, .int .i64 0, .int .i64 0, .int .i64 0, .int .i64 0]).toList, Nat.zero_le _, rfl, RowS.made w (#[.slice none 0 0, .bool false, .int .i64 0, .int .i64 0, .int .i64 0, .int .i64 0, .int .i64 0, .int .i64 0, .slice none 0 0, .slice none 0 0, .int .i64 0, .int .i64 0, .int .i64 0, .int .i64 0, .int .i64 0, .int .i64 0, .int .i64 0]).toList n' _ (by simp), fun j hj => by omega, (Below.refl _ _).alloc (Nat.le_refl _) _⟩
 case round =>
  obtain ⟨k, F, hk, rfl, hrow, hin, hb⟩ := hrel
  by_cases hlt : k < n'
  ·have hi : (k : Int) < (n' : Int) := by omega
   obtain ⟨b, off, vs, rfl, _, hb0, hlen, hr, hrd⟩ := (HS.out.1.below hb).at hlt
   obtain ⟨a1, c1, a2, c2, a3, c3, rfl, r1, r2, r3⟩ := VN.cells hrd hlen
   clear hlen hrd
   have HK : Hid (RowS wr w.heap.size 143 17 n' F /\ (∀ j, j < k -> (F j).length = 17 /\ RdL wr (w.heap.size + 1) (trs (xnT (f j))) (F j)) /\ Below w.heap.size w wr /\ Rd wr 0 (.list 9 (f k).nq (fun i => trs (xlT ((f k).qf i)))) (.slice a1 ((f k).nq) c1) /\ Rd wr 0 (intsT (f k).c.q.ws) (.slice a2 ((f k).c.q.ws.length) c2) /\ Rd wr 0 (boolsT (f k).c.q.bs) (.slice a3 ((f k).c.q.bs.length) c3)) := ⟨hrow, hin, hb, r1, r2, r3⟩
   clear hrow hin hb hb0 r1 r2 r3
   go_wp2_with (first | (refine wpList_load_mid rfl 131 _ rfl b (off + k * 17) rfl _ _ hr Try.underlying131 rfl (by kernel_rfl) ?_) | fail)
   refine (toLine_t (f k) a1 ((f k).nq) c1 a2 ((f k).c.q.ws.length) c2 a3 ((f k).c.q.bs.length) c3 _ HK.out.2.2.2.1 HK.out.2.2.2.2.1 HK.out.2.2.2.2.2 (HZ.out k hlt)).mono ?_
   rintro e w1 ⟨b1, d1, b2, d2, b3, d3, rfl, q1, q2, q3, hb1⟩
   have R1 := HK.out.1.below hb1
   obtain ⟨W2, hW2⟩ : ∃ W2, W2 = setL w1 w.heap.size (k * 17) (xnL (f k) b1 ((f k).nq) d1 b2 ((f k).c.q.ws.length) d2 b3 ((f k).c.q.bs.length) d3) := ⟨_, rfl⟩
   have H2 : Hid (∃ F', RowS W2 w.heap.size 143 17 n' F' /\ (∀ j, j < k + 1 -> (F' j).length = 17 /\ RdL W2 (w.heap.size + 1) (trs (xnT (f j))) (F' j)) /\ Below w.heap.size w W2) := by
    have hg : w1.grownBy W2 (some w.heap.size) := by rw [hW2]; exact setL_gw _ _ _
    have hs1 := HK.out.1.lt
    refine ⟨_, by rw [hW2]; exact R1.set hlt _ rfl, fun j hj => ?_, by rw [hW2]; exact setL_below (Nat.le_refl _) _ _ _ (bel_nx HK.out.2.2.1 hb1)⟩
    by_cases e : j = k
    ·subst e
     simp only [if_true]
     exact ⟨rfl, VN.back ((q1.mono (by omega)).kept hg (by omega)) ((q2.mono (by omega)).kept hg (by omega)) ((q3.mono (by omega)).kept hg (by omega))⟩
    simp only [if_neg e]
    have h9 := HK.out.2.1 j (by omega)
    exact ⟨h9.1, (h9.2.below hb1).kept hg (by omega)⟩
   have ht := R1.there hlt (m := 17) (Nat.le_refl _)
   clear R1 hb1 HK hr q1 q2 q3
   go_wp2_with (first | (refine wpList_store_mid rfl 143 _ _ rfl w.heap.size (k * 17) (xnL (f k) b1 ((f k).nq) d1 b2 ((f k).c.q.ws.length) d2 b3 ((f k).c.q.bs.length) d3).toArray rfl rfl ht (by kernel_rfl) (by simp [Value.oneCell']) ?_; rw [setCells_L, <- hW2]; clear hW2 ht) | fail)
   go_roundw
   case rel =>
    obtain ⟨F', x1, x2, x3⟩ := H2.out
    exact ⟨k + 1, F', by omega, by go_num, x1, x2, x3⟩
   case measure => simp [intOf]; omega
  have hi : ¬ (k : Int) < (n' : Int) := by omega
  have e9 : k = n' := by omega
  subst e9
  have HR : Hid (RowS wr w.heap.size 143 17 k F /\ (∀ j, j < k -> (F j).length = 17 /\ RdL wr (w.heap.size + 1) (trs (xnT (f j))) (F j)) /\ Below w.heap.size w wr) := ⟨hrow, hin, hb⟩
  clear hrow hin hb
  go_wp2
  go_ret
  exact ⟨_, _, rfl, Rd.made HR.out.1 (Nat.le_refl _) HS.out.2 (fun j hj => ⟨(HR.out.2.1 j hj).1, (HR.out.2.1 j hj).2.mono (by omega)⟩), HR.out.2.2⟩
theorem toFabric_t (X : VF) (a1 : Option Addr) (l1 c1 : Nat) (a2 : Option Addr) (l2 c2 : Nat) (a3 : Option Addr) (l3 c3 : Nat) (w : World) (r1 : Rd w 0 (.list 7 X.set.n (fun i => trs (xrT (X.set.f i)))) (.slice a1 l1 c1)) (r2 : Rd w 0 (.list 13 X.op.m (fun i => trs (dT (X.op.f i)))) (.slice a2 l2 c2)) (r3 : Rd w 0 (.list 17 X.nl (fun i => trs (xnT (X.lf i)))) (.slice a3 l3 c3)) (hz : szT 11 (trs (xfT X)) <= 1048576) :
 Calls Try.prog 14 #[.agg (xfL X a1 l1 c1 a2 l2 c2 a3 l3 c3).toArray] w fun e w' => ∃ b1 d1 b2 d2 b3 d3, e = .returned (.agg (xfL X b1 l1 d1 b2 l2 d2 b3 l3 d3).toArray) /\ Rd w' w.heap.size (.list 7 X.set.n (fun i => trs (xrT (X.set.f i)))) (.slice b1 l1 d1) /\ Rd w' w.heap.size (.list 13 X.op.m (fun i => trs (dT (X.op.f i)))) (.slice b2 l2 d2) /\ Rd w' w.heap.size (.list 17 X.nl (fun i => trs (xnT (X.lf i)))) (.slice b3 l3 d3) /\ Below w.heap.size w w' := by
 obtain ⟨W, hW⟩ : ∃ W, W = ((w.alloc (.cells (xfL X a1 l1 c1 a2 l2 c2 a3 l3 c3).toArray 30)).alloc (.cells #[.int .i64 0, .int .i64 0, .int .i64 0, .slice none 0 0, .int .i64 0, .slice none 0 0, .slice none 0 0, .int .i64 0, .int .i64 0, .int .i64 0, .int .i64 0] 47)).alloc (.cells #[.int .i64 X.nw, .int .i64 0, .int .i64 0, .slice none 0 0, .int .i64 0, .slice none 0 0, .slice none 0 0, .int .i64 0, .int .i64 0, .int .i64 0, .int .i64 0] 47) := ⟨_, rfl⟩
 have G0 := TS.new hW
 have HZ : Hid (szT 3 (trs (xcT X.set)) <= 1048576 /\ szT 2 (trs (tT X.op)) <= 1048576 /\ (Tr.list 17 X.nl (fun i => trs (xnT (X.lf i)))).sz <= 1048576) := by
  rw [szT_xf] at hz
  show szT 3 (trs (xcT X.set)) <= 1048576 /\ szT 2 (trs (tT X.op)) <= 1048576 /\ (Tr.list 17 X.nl (fun i => trs (xnT (X.lf i)))).sz <= 1048576
  try simp only [szT_q, szT_a, szT_p, szT_d, szT_t, szT_xr, szT_xc, szT_xl, szT_xn, szT_xf, szT_xd, szT_xs, szT_xk, szT_xy, szT_xe, szT_xw, true_and]
  omega
 have HR := hide (And.intro r1 <| And.intro r2 <| r3)
 clear hz r1 r2 r3
 go_enter Try.func14, Try.ntmps14
 go_upto_region 3 with fail
 rw [<- hW]
 clear hW
 obtain ⟨⟨y0, y1, y2, y3, y4, y5, y6, y7, y8, y9, y10⟩, -⟩ := G0.out.a.tc11
 go_wp2_with fail
 refine (toConfig_t X.set a1 l1 c1 _ (HR.out.1.below G0.out.b) HZ.out.1).mono ?_
 rintro e w1 ⟨b1, d1, rfl, q1, hb⟩
 clear y0 y1 y2 y3 y4 y5 y6 y7 y8 y9 y10
 obtain ⟨⟨z0, z1, z2, z3, z4, z5, z6, z7, z8, z9, z10⟩, zf⟩ := (G0.out.o.below hb).tc11
 have g1 := zf 1
 have g2 := zf 2
 have g3 := zf 3
 obtain ⟨W1, hX⟩ : ∃ z, z = setL w1 (w.heap.size + 1 + 1) 1 [.int .i64 X.set.wt, .int .i64 X.set.tr, .slice b1 l1 d1] := ⟨_, rfl⟩
 have G1 := TS.st G0 hb hX #[.int .i64 X.nw, .int .i64 X.set.wt, .int .i64 X.set.tr, .slice b1 l1 d1, .int .i64 0, .slice none 0 0, .slice none 0 0, .int .i64 0, .int .i64 0, .int .i64 0, .int .i64 0] [(.list 7 X.set.n (fun i => trs (xrT (X.set.f i))), .slice b1 l1 d1)] ⟨q1, trivial⟩
 simp only [setL, Nat.reduceAdd, Nat.zero_add] at hX
 clear hb q1
 go_upto_region 4 with fail
 rw [<- hX]
 clear hX zf z0 z1 z2 z3 z4 z5 z6 z7 z8 z9 z10 g1 g2 g3
 obtain ⟨⟨y0, y1, y2, y3, y4, y5, y6, y7, y8, y9, y10⟩, -⟩ := G1.out.a.tc11
 go_wp2_with fail
 refine (toTable_t X.op a2 l2 c2 _ (HR.out.2.1.below G1.out.b) HZ.out.2.1).mono ?_
 rintro e w2 ⟨b2, d2, rfl, q2, hb⟩
 clear y0 y1 y2 y3 y4 y5 y6 y7 y8 y9 y10
 obtain ⟨⟨z0, z1, z2, z3, z4, z5, z6, z7, z8, z9, z10⟩, zf⟩ := (G1.out.o.below hb).tc11
 have g4 := zf 4
 have g5 := zf 5
 obtain ⟨W2, hX⟩ : ∃ z, z = setL w2 (w.heap.size + 1 + 1) 4 [.int .i64 X.op.nx, .slice b2 l2 d2] := ⟨_, rfl⟩
 have G2 := TS.st G1 hb hX #[.int .i64 X.nw, .int .i64 X.set.wt, .int .i64 X.set.tr, .slice b1 l1 d1, .int .i64 X.op.nx, .slice b2 l2 d2, .slice none 0 0, .int .i64 0, .int .i64 0, .int .i64 0, .int .i64 0] [(.list 13 X.op.m (fun i => trs (dT (X.op.f i))), .slice b2 l2 d2)] ⟨q2, trivial⟩
 simp only [setL, Nat.reduceAdd, Nat.zero_add] at hX
 clear hb q2
 go_upto_region 5 with fail
 rw [<- hX]
 clear hX zf z0 z1 z2 z3 z4 z5 z6 z7 z8 z9 z10 g4 g5
 obtain ⟨⟨y0, y1, y2, y3, y4, y5, y6, y7, y8, y9, y10⟩, -⟩ := G2.out.a.tc11
 go_wp2_with fail
 refine (toLineS_t X.nl X.lf a3 l3 c3 _ (HR.out.2.2.below G2.out.b) HZ.out.2.2).mono ?_
 rintro e w3 ⟨b3, d3, rfl, q3, hb⟩
 clear y0 y1 y2 y3 y4 y5 y6 y7 y8 y9 y10
 obtain ⟨⟨y0, y1, y2, y3, y4, y5, y6, y7, y8, y9, y10⟩, -⟩ := (G2.out.a.below hb).tc11
 obtain ⟨⟨z0, z1, z2, z3, z4, z5, z6, z7, z8, z9, z10⟩, zf⟩ := (G2.out.o.below hb).tc11
 have g6 := zf 6
 have g7 := zf 7
 have g8 := zf 8
 have g9 := zf 9
 have g10 := zf 10
 obtain ⟨W3, hX⟩ : ∃ z, z = setL w3 (w.heap.size + 1 + 1) 6 [.slice b3 l3 d3, .int .i64 X.sk, .int .i64 X.re, .int .i64 X.fa, .int .i64 X.se] := ⟨_, rfl⟩
 have G3 := TS.st G2 hb hX #[.int .i64 X.nw, .int .i64 X.set.wt, .int .i64 X.set.tr, .slice b1 l1 d1, .int .i64 X.op.nx, .slice b2 l2 d2, .slice b3 l3 d3, .int .i64 X.sk, .int .i64 X.re, .int .i64 X.fa, .int .i64 X.se] [(.list 17 X.nl (fun i => trs (xnT (X.lf i))), .slice b3 l3 d3)] ⟨q3, trivial⟩
 simp only [setL, Nat.reduceAdd, Nat.zero_add] at hX
 clear hb q3
 go_upto_region 10 with fail
 rw [<- hX]
 clear hX zf z0 z1 z2 z3 z4 z5 z6 z7 z8 z9 z10 g6 g7 g8 g9 g10 y0 y1 y2 y3 y4 y5 y6 y7 y8 y9 y10
 obtain ⟨V, hV⟩ : ∃ V, V = setL W3 (w.heap.size + 1) 0 (xfL X b1 l1 d1 b2 l2 d2 b3 l3 d3) := ⟨_, rfl⟩
 have H9 := TS.fin G3 hV
 have hr : W3.rangeAt (w.heap.size + 1 + 1) 0 (xfL X b1 l1 d1 b2 l2 d2 b3 l3 d3) := G3.out.o.all
 have ht := G3.out.z.there 0 11 (by simp)
 clear G3
 refine wp_region_lit ?_
 refine wpList_load_mid rfl 47 (.tmp 3) rfl (w.heap.size + 1 + 1) 0 rfl (xfL X b1 l1 d1 b2 l2 d2 b3 l3 d3) _ hr Try.underlying47 rfl (by kernel_rfl) ?_
 refine wpList_store_mid rfl 47 (.tmp 2) (.tmp 31) rfl (w.heap.size + 1) 0 (xfL X b1 l1 d1 b2 l2 d2 b3 l3 d3).toArray rfl rfl ht (by kernel_rfl) (by simp [Value.oneCell']) ?_
 rw [setCells_L, <- hV]
 clear hV hr ht
 refine wpList_nil ?_
 go_wp2
 obtain ⟨⟨y0, y1, y2, y3, y4, y5, y6, y7, y8, y9, y10⟩, -⟩ := H9.out.2.1.tc11
 obtain ⟨B, -, s1, s2, s3, -⟩ := H9.out
 refine bodyPost_ret (v := .agg (xfL X b1 l1 d1 b2 l2 d2 b3 l3 d3).toArray) (by simp [results, Try.results14, go_sem, y0, y1, y2, y3, y4, y5, y6, y7, y8, y9, y10]) rfl ⟨b1, d1, b2, d2, b3, d3, rfl, s1, s2, s3, B⟩
theorem toDevice_t (X : VI) (a1 : Option Addr) (l1 c1 : Nat) (a2 : Option Addr) (l2 c2 : Nat) (a3 : Option Addr) (l3 c3 : Nat) (a4 : Option Addr) (l4 c4 : Nat) (w : World) (r1 : Rd w 0 (boolsT X.co) (.slice a1 l1 c1)) (r2 : Rd w 0 (boolsT X.ip) (.slice a2 l2 c2)) (r3 : Rd w 0 (intsT X.ho) (.slice a3 l3 c3)) (r4 : Rd w 0 (intsT X.wd) (.slice a4 l4 c4)) (hz : szT 4 (trs (xdT X)) <= 1048576) :
 Calls Try.prog 56 #[.agg (xdL X a1 l1 c1 a2 l2 c2 a3 l3 c3 a4 l4 c4).toArray] w fun e w' => ∃ b1 d1 b2 d2 b3 d3 b4 d4, e = .returned (.agg (xdL X b1 l1 d1 b2 l2 d2 b3 l3 d3 b4 l4 d4).toArray) /\ Rd w' w.heap.size (boolsT X.co) (.slice b1 l1 d1) /\ Rd w' w.heap.size (boolsT X.ip) (.slice b2 l2 d2) /\ Rd w' w.heap.size (intsT X.ho) (.slice b3 l3 d3) /\ Rd w' w.heap.size (intsT X.wd) (.slice b4 l4 d4) /\ Below w.heap.size w w' := by
 obtain ⟨W, hW⟩ : ∃ W, W = ((w.alloc (.cells (xdL X a1 l1 c1 a2 l2 c2 a3 l3 c3 a4 l4 c4).toArray 79)).alloc (.cells #[.slice none 0 0, .slice none 0 0, .slice none 0 0, .slice none 0 0] 100)).alloc (.cells #[.slice none 0 0, .slice none 0 0, .slice none 0 0, .slice none 0 0] 100) := ⟨_, rfl⟩
 have G0 := TS.new hW
 have HZ : Hid (X.co.length <= 1048576 /\ X.ip.length <= 1048576 /\ X.ho.length <= 1048576 /\ X.wd.length <= 1048576) := by
  rw [szT_xd] at hz
  show X.co.length <= 1048576 /\ X.ip.length <= 1048576 /\ X.ho.length <= 1048576 /\ X.wd.length <= 1048576
  try simp only [szT_q, szT_a, szT_p, szT_d, szT_t, szT_xr, szT_xc, szT_xl, szT_xn, szT_xf, szT_xd, szT_xs, szT_xk, szT_xy, szT_xe, szT_xw, true_and]
  omega
 have HR := hide (And.intro r1 <| And.intro r2 <| And.intro r3 <| r4)
 clear hz r1 r2 r3 r4
 go_enter Try.func56, Try.ntmps56
 go_upto_region 2 with fail
 rw [<- hW]
 clear hW
 obtain ⟨⟨y0, y1, y2, y3⟩, -⟩ := G0.out.a.tc4
 go_wp2_with fail
 refine (toBoolS_t X.co a1 l1 c1 _ (HR.out.1.below G0.out.b) HZ.out.1).mono ?_
 rintro e w1 ⟨b1, d1, rfl, q1, hb⟩
 clear y0 y1 y2 y3
 obtain ⟨⟨z0, z1, z2, z3⟩, zf⟩ := (G0.out.o.below hb).tc4
 have g0 := zf 0
 obtain ⟨W1, hX⟩ : ∃ z, z = setL w1 (w.heap.size + 1 + 1) 0 [.slice b1 l1 d1] := ⟨_, rfl⟩
 have G1 := TS.st G0 hb hX #[.slice b1 l1 d1, .slice none 0 0, .slice none 0 0, .slice none 0 0] [(boolsT X.co, .slice b1 l1 d1)] ⟨q1, trivial⟩
 simp only [setL, Nat.reduceAdd, Nat.zero_add] at hX
 clear hb q1
 go_upto_region 3 with fail
 rw [<- hX]
 clear hX zf z0 z1 z2 z3 g0
 obtain ⟨⟨y0, y1, y2, y3⟩, -⟩ := G1.out.a.tc4
 go_wp2_with fail
 refine (toBoolS_t X.ip a2 l2 c2 _ (HR.out.2.1.below G1.out.b) HZ.out.2.1).mono ?_
 rintro e w2 ⟨b2, d2, rfl, q2, hb⟩
 clear y0 y1 y2 y3
 obtain ⟨⟨z0, z1, z2, z3⟩, zf⟩ := (G1.out.o.below hb).tc4
 have g1 := zf 1
 obtain ⟨W2, hX⟩ : ∃ z, z = setL w2 (w.heap.size + 1 + 1) 1 [.slice b2 l2 d2] := ⟨_, rfl⟩
 have G2 := TS.st G1 hb hX #[.slice b1 l1 d1, .slice b2 l2 d2, .slice none 0 0, .slice none 0 0] [(boolsT X.ip, .slice b2 l2 d2)] ⟨q2, trivial⟩
 simp only [setL, Nat.reduceAdd, Nat.zero_add] at hX
 clear hb q2
 go_upto_region 4 with fail
 rw [<- hX]
 clear hX zf z0 z1 z2 z3 g1
 obtain ⟨⟨y0, y1, y2, y3⟩, -⟩ := G2.out.a.tc4
 go_wp2_with fail
 refine (toIntS_t X.ho a3 l3 c3 _ (HR.out.2.2.1.below G2.out.b) HZ.out.2.2.1).mono ?_
 rintro e w3 ⟨b3, d3, rfl, q3, hb⟩
 clear y0 y1 y2 y3
 obtain ⟨⟨z0, z1, z2, z3⟩, zf⟩ := (G2.out.o.below hb).tc4
 have g2 := zf 2
 obtain ⟨W3, hX⟩ : ∃ z, z = setL w3 (w.heap.size + 1 + 1) 2 [.slice b3 l3 d3] := ⟨_, rfl⟩
 have G3 := TS.st G2 hb hX #[.slice b1 l1 d1, .slice b2 l2 d2, .slice b3 l3 d3, .slice none 0 0] [(intsT X.ho, .slice b3 l3 d3)] ⟨q3, trivial⟩
 simp only [setL, Nat.reduceAdd, Nat.zero_add] at hX
 clear hb q3
 go_upto_region 5 with fail
 rw [<- hX]
 clear hX zf z0 z1 z2 z3 g2
 obtain ⟨⟨y0, y1, y2, y3⟩, -⟩ := G3.out.a.tc4
 go_wp2_with fail
 refine (toIntS_t X.wd a4 l4 c4 _ (HR.out.2.2.2.below G3.out.b) HZ.out.2.2.2).mono ?_
 rintro e w4 ⟨b4, d4, rfl, q4, hb⟩
 clear y0 y1 y2 y3
 obtain ⟨⟨z0, z1, z2, z3⟩, zf⟩ := (G3.out.o.below hb).tc4
 have g3 := zf 3
 obtain ⟨W4, hX⟩ : ∃ z, z = setL w4 (w.heap.size + 1 + 1) 3 [.slice b4 l4 d4] := ⟨_, rfl⟩
 have G4 := TS.st G3 hb hX #[.slice b1 l1 d1, .slice b2 l2 d2, .slice b3 l3 d3, .slice b4 l4 d4] [(intsT X.wd, .slice b4 l4 d4)] ⟨q4, trivial⟩
 simp only [setL, Nat.reduceAdd, Nat.zero_add] at hX
 clear hb q4
 go_upto_region 6 with fail
 rw [<- hX]
 clear hX zf z0 z1 z2 z3 g3
 obtain ⟨V, hV⟩ : ∃ V, V = setL W4 (w.heap.size + 1) 0 (xdL X b1 l1 d1 b2 l2 d2 b3 l3 d3 b4 l4 d4) := ⟨_, rfl⟩
 have H9 := TS.fin G4 hV
 have hr : W4.rangeAt (w.heap.size + 1 + 1) 0 (xdL X b1 l1 d1 b2 l2 d2 b3 l3 d3 b4 l4 d4) := G4.out.o.all
 have ht := G4.out.z.there 0 4 (by simp)
 clear G4
 refine wp_region_lit ?_
 refine wpList_load_mid rfl 100 (.tmp 3) rfl (w.heap.size + 1 + 1) 0 rfl (xdL X b1 l1 d1 b2 l2 d2 b3 l3 d3 b4 l4 d4) _ hr Try.underlying100 rfl (by kernel_rfl) ?_
 refine wpList_store_mid rfl 100 (.tmp 2) (.tmp 20) rfl (w.heap.size + 1) 0 (xdL X b1 l1 d1 b2 l2 d2 b3 l3 d3 b4 l4 d4).toArray rfl rfl ht (by kernel_rfl) (by simp [Value.oneCell']) ?_
 rw [setCells_L, <- hV]
 clear hV hr ht
 refine wpList_nil ?_
 go_wp2
 obtain ⟨⟨y0, y1, y2, y3⟩, -⟩ := H9.out.2.1.tc4
 obtain ⟨B, -, s1, s2, s3, s4, -⟩ := H9.out
 refine bodyPost_ret (v := .agg (xdL X b1 l1 d1 b2 l2 d2 b3 l3 d3 b4 l4 d4).toArray) (by simp [results, Try.results56, go_sem, y0, y1, y2, y3]) rfl ⟨b1, d1, b2, d2, b3, d3, b4, d4, rfl, s1, s2, s3, s4, B⟩
theorem toPost_t (X : VS) (a1 : Option Addr) (l1 c1 : Nat) (a2 : Option Addr) (l2 c2 : Nat) (a3 : Option Addr) (l3 c3 : Nat) (a4 : Option Addr) (l4 c4 : Nat) (w : World) (r1 : Rd w 0 (boolsT X.d.co) (.slice a1 l1 c1)) (r2 : Rd w 0 (boolsT X.d.ip) (.slice a2 l2 c2)) (r3 : Rd w 0 (intsT X.d.ho) (.slice a3 l3 c3)) (r4 : Rd w 0 (intsT X.d.wd) (.slice a4 l4 c4)) (hz : szT 6 (trs (xsT X)) <= 1048576) :
 Calls Try.prog 34 #[.agg (xsL X a1 l1 c1 a2 l2 c2 a3 l3 c3 a4 l4 c4).toArray] w fun e w' => ∃ b1 d1 b2 d2 b3 d3 b4 d4, e = .returned (.agg (xsL X b1 l1 d1 b2 l2 d2 b3 l3 d3 b4 l4 d4).toArray) /\ Rd w' w.heap.size (boolsT X.d.co) (.slice b1 l1 d1) /\ Rd w' w.heap.size (boolsT X.d.ip) (.slice b2 l2 d2) /\ Rd w' w.heap.size (intsT X.d.ho) (.slice b3 l3 d3) /\ Rd w' w.heap.size (intsT X.d.wd) (.slice b4 l4 d4) /\ Below w.heap.size w w' := by
 obtain ⟨W, hW⟩ : ∃ W, W = ((w.alloc (.cells (xsL X a1 l1 c1 a2 l2 c2 a3 l3 c3 a4 l4 c4).toArray 81)).alloc (.cells #[.int .i64 0, .int .i64 0, .slice none 0 0, .slice none 0 0, .slice none 0 0, .slice none 0 0] 102)).alloc (.cells #[.int .i64 X.po, .int .i64 X.un, .slice none 0 0, .slice none 0 0, .slice none 0 0, .slice none 0 0] 102) := ⟨_, rfl⟩
 have G0 := TS.new hW
 have HZ : Hid (szT 4 (trs (xdT X.d)) <= 1048576) := by
  rw [szT_xs] at hz
  show szT 4 (trs (xdT X.d)) <= 1048576
  try simp only [szT_q, szT_a, szT_p, szT_d, szT_t, szT_xr, szT_xc, szT_xl, szT_xn, szT_xf, szT_xd, szT_xs, szT_xk, szT_xy, szT_xe, szT_xw, true_and]
  omega
 have HR := hide (And.intro r1 <| And.intro r2 <| And.intro r3 <| r4)
 clear hz r1 r2 r3 r4
 go_enter Try.func34, Try.ntmps34
 go_upto_region 4 with fail
 rw [<- hW]
 clear hW
 obtain ⟨⟨y0, y1, y2, y3, y4, y5⟩, -⟩ := G0.out.a.tc6
 go_wp2_with fail
 refine (toDevice_t X.d a1 l1 c1 a2 l2 c2 a3 l3 c3 a4 l4 c4 _ (HR.out.1.below G0.out.b) (HR.out.2.1.below G0.out.b) (HR.out.2.2.1.below G0.out.b) (HR.out.2.2.2.below G0.out.b) HZ.out).mono ?_
 rintro e w1 ⟨b1, d1, b2, d2, b3, d3, b4, d4, rfl, q1, q2, q3, q4, hb⟩
 clear y0 y1 y2 y3 y4 y5
 obtain ⟨⟨z0, z1, z2, z3, z4, z5⟩, zf⟩ := (G0.out.o.below hb).tc6
 have g2 := zf 2
 have g3 := zf 3
 have g4 := zf 4
 have g5 := zf 5
 obtain ⟨W1, hX⟩ : ∃ z, z = setL w1 (w.heap.size + 1 + 1) 2 [.slice b1 l1 d1, .slice b2 l2 d2, .slice b3 l3 d3, .slice b4 l4 d4] := ⟨_, rfl⟩
 have G1 := TS.st G0 hb hX #[.int .i64 X.po, .int .i64 X.un, .slice b1 l1 d1, .slice b2 l2 d2, .slice b3 l3 d3, .slice b4 l4 d4] [(boolsT X.d.co, .slice b1 l1 d1), (boolsT X.d.ip, .slice b2 l2 d2), (intsT X.d.ho, .slice b3 l3 d3), (intsT X.d.wd, .slice b4 l4 d4)] ⟨q1, q2, q3, q4, trivial⟩
 simp only [setL, Nat.reduceAdd, Nat.zero_add] at hX
 clear hb q1 q2 q3 q4
 go_upto_region 5 with fail
 rw [<- hX]
 clear hX zf z0 z1 z2 z3 z4 z5 g2 g3 g4 g5
 obtain ⟨V, hV⟩ : ∃ V, V = setL W1 (w.heap.size + 1) 0 (xsL X b1 l1 d1 b2 l2 d2 b3 l3 d3 b4 l4 d4) := ⟨_, rfl⟩
 have H9 := TS.fin G1 hV
 have hr : W1.rangeAt (w.heap.size + 1 + 1) 0 (xsL X b1 l1 d1 b2 l2 d2 b3 l3 d3 b4 l4 d4) := G1.out.o.all
 have ht := G1.out.z.there 0 6 (by simp)
 clear G1
 refine wp_region_lit ?_
 refine wpList_load_mid rfl 102 (.tmp 3) rfl (w.heap.size + 1 + 1) 0 rfl (xsL X b1 l1 d1 b2 l2 d2 b3 l3 d3 b4 l4 d4) _ hr Try.underlying102 rfl (by kernel_rfl) ?_
 refine wpList_store_mid rfl 102 (.tmp 2) (.tmp 14) rfl (w.heap.size + 1) 0 (xsL X b1 l1 d1 b2 l2 d2 b3 l3 d3 b4 l4 d4).toArray rfl rfl ht (by kernel_rfl) (by simp [Value.oneCell']) ?_
 rw [setCells_L, <- hV]
 clear hV hr ht
 refine wpList_nil ?_
 go_wp2
 obtain ⟨⟨y0, y1, y2, y3, y4, y5⟩, -⟩ := H9.out.2.1.tc6
 obtain ⟨B, -, s1, s2, s3, s4, -⟩ := H9.out
 refine bodyPost_ret (v := .agg (xsL X b1 l1 d1 b2 l2 d2 b3 l3 d3 b4 l4 d4).toArray) (by simp [results, Try.results34, go_sem, y0, y1, y2, y3, y4, y5]) rfl ⟨b1, d1, b2, d2, b3, d3, b4, d4, rfl, s1, s2, s3, s4, B⟩
theorem toPostS_t (n : Nat) (f : Nat -> VS) (a : Option Addr) (n' cap : Nat) (w : World) (hs : Rd w 0 (.list 6 n (fun k => trs (xsT (f k)))) (.slice a n' cap)) (hz : (Tr.list 6 n (fun k => trs (xsT (f k)))).sz <= 1048576) :
 Calls Try.prog 15 #[.slice a n' cap] w fun e w' => ∃ b d, e = .returned (.slice b n' d) /\ Rd w' w.heap.size (.list 6 n (fun k => trs (xsT (f k)))) (.slice b n' d) /\ Below w.heap.size w w' := by
 obtain ⟨a9, c9, h9, -, hn⟩ := hs.shape
 simp only [Value.slice.injEq] at h9
 obtain ⟨-, rfl, -⟩ := h9
 clear a9 c9
 have hn1 : n' <= 1048576 := by rw [Tr.sz_list] at hz; omega
 have HZ : Hid (∀ k, k < n' -> szT 6 (trs (xsT (f k))) <= 1048576) := by
  show ∀ k, k < n' -> szT 6 (trs (xsT (f k))) <= 1048576
  intro k hk
  rw [Tr.sz_list] at hz
  have := sumN_at (fun k => szT 6 (trs (xsT (f k)))) hk
  omega
 have hmk := run_make_st (P := Try.prog) 48 102 (.agg #[.int .i64 0, .int .i64 0, .slice none 0 0, .slice none 0 0, .slice none 0 0, .slice none 0 0]) 6 112 Try.underlying48 (by kernel_rfl) .i64 .i64 n' (by omega) (by omega)
 have HS : Hid (Rd w 0 (.list 6 n' (fun k => trs (xsT (f k)))) (.slice a n' cap) /\ n' <= maxLen) := ⟨hs, hn⟩
 clear hs hz hn
 go_enter Try.func15, Try.ntmps15
 go_wp2
 clear hmk
 go_loopw [4] (fun i wr => ∃ (k : Nat) (F : Nat -> List Value), k <= n' /\ i = .int .i64 k /\ RowS wr w.heap.size 102 6 n' F /\ (∀ j, j < k -> (F j).length = 6 /\ RdL wr (w.heap.size + 1) (trs (xsT (f j))) (F j)) /\ Below w.heap.size w wr) (fun i _ => n' - (intOf i).toNat)
 case atStart => exact ⟨0, fun _ => (#[.int .i64 0, .int .i64 0, .slice none 0 0, .slice none 0 0, .slice none 0 0, .slice none 0 0]).toList, Nat.zero_le _, rfl, RowS.made w (#[.int .i64 0, .int .i64 0, .slice none 0 0, .slice none 0 0, .slice none 0 0, .slice none 0 0]).toList n' _ (by simp), fun j hj => by omega, (Below.refl _ _).alloc (Nat.le_refl _) _⟩
 case round =>
  obtain ⟨k, F, hk, rfl, hrow, hin, hb⟩ := hrel
  by_cases hlt : k < n'
  ·have hi : (k : Int) < (n' : Int) := by omega
   obtain ⟨b, off, vs, rfl, _, hb0, hlen, hr, hrd⟩ := (HS.out.1.below hb).at hlt
   obtain ⟨a1, c1, a2, c2, a3, c3, a4, c4, rfl, r1, r2, r3, r4⟩ := VS.cells hrd hlen
   clear hlen hrd
   have HK : Hid (RowS wr w.heap.size 102 6 n' F /\ (∀ j, j < k -> (F j).length = 6 /\ RdL wr (w.heap.size + 1) (trs (xsT (f j))) (F j)) /\ Below w.heap.size w wr /\ Rd wr 0 (boolsT (f k).d.co) (.slice a1 ((f k).d.co.length) c1) /\ Rd wr 0 (boolsT (f k).d.ip) (.slice a2 ((f k).d.ip.length) c2) /\ Rd wr 0 (intsT (f k).d.ho) (.slice a3 ((f k).d.ho.length) c3) /\ Rd wr 0 (intsT (f k).d.wd) (.slice a4 ((f k).d.wd.length) c4)) := ⟨hrow, hin, hb, r1, r2, r3, r4⟩
   clear hrow hin hb hb0 r1 r2 r3 r4
   go_wp2_with (first | (refine wpList_load_mid rfl 81 _ rfl b (off + k * 6) rfl _ _ hr Try.underlying81 rfl (by kernel_rfl) ?_) | fail)
   refine (toPost_t (f k) a1 ((f k).d.co.length) c1 a2 ((f k).d.ip.length) c2 a3 ((f k).d.ho.length) c3 a4 ((f k).d.wd.length) c4 _ HK.out.2.2.2.1 HK.out.2.2.2.2.1 HK.out.2.2.2.2.2.1 HK.out.2.2.2.2.2.2 (HZ.out k hlt)).mono ?_
   rintro e w1 ⟨b1, d1, b2, d2, b3, d3, b4, d4, rfl, q1, q2, q3, q4, hb1⟩
   have R1 := HK.out.1.below hb1
   obtain ⟨W2, hW2⟩ : ∃ W2, W2 = setL w1 w.heap.size (k * 6) (xsL (f k) b1 ((f k).d.co.length) d1 b2 ((f k).d.ip.length) d2 b3 ((f k).d.ho.length) d3 b4 ((f k).d.wd.length) d4) := ⟨_, rfl⟩
   have H2 : Hid (∃ F', RowS W2 w.heap.size 102 6 n' F' /\ (∀ j, j < k + 1 -> (F' j).length = 6 /\ RdL W2 (w.heap.size + 1) (trs (xsT (f j))) (F' j)) /\ Below w.heap.size w W2) := by
    have hg : w1.grownBy W2 (some w.heap.size) := by rw [hW2]; exact setL_gw _ _ _
    have hs1 := HK.out.1.lt
    refine ⟨_, by rw [hW2]; exact R1.set hlt _ rfl, fun j hj => ?_, by rw [hW2]; exact setL_below (Nat.le_refl _) _ _ _ (bel_nx HK.out.2.2.1 hb1)⟩
    by_cases e : j = k
    ·subst e
     simp only [if_true]
     exact ⟨rfl, VS.back ((q1.mono (by omega)).kept hg (by omega)) ((q2.mono (by omega)).kept hg (by omega)) ((q3.mono (by omega)).kept hg (by omega)) ((q4.mono (by omega)).kept hg (by omega))⟩
    simp only [if_neg e]
    have h9 := HK.out.2.1 j (by omega)
    exact ⟨h9.1, (h9.2.below hb1).kept hg (by omega)⟩
   have ht := R1.there hlt (m := 6) (Nat.le_refl _)
   clear R1 hb1 HK hr q1 q2 q3 q4
   go_wp2_with (first | (refine wpList_store_mid rfl 102 _ _ rfl w.heap.size (k * 6) (xsL (f k) b1 ((f k).d.co.length) d1 b2 ((f k).d.ip.length) d2 b3 ((f k).d.ho.length) d3 b4 ((f k).d.wd.length) d4).toArray rfl rfl ht (by kernel_rfl) (by simp [Value.oneCell']) ?_; rw [setCells_L, <- hW2]; clear hW2 ht) | fail)
   go_roundw
   case rel =>
    obtain ⟨F', x1, x2, x3⟩ := H2.out
    exact ⟨k + 1, F', by omega, by go_num, x1, x2, x3⟩
   case measure => simp [intOf]; omega
  have hi : ¬ (k : Int) < (n' : Int) := by omega
  have e9 : k = n' := by omega
  subst e9
  have HR : Hid (RowS wr w.heap.size 102 6 k F /\ (∀ j, j < k -> (F j).length = 6 /\ RdL wr (w.heap.size + 1) (trs (xsT (f j))) (F j)) /\ Below w.heap.size w wr) := ⟨hrow, hin, hb⟩
  clear hrow hin hb
  go_wp2
  go_ret
  exact ⟨_, _, rfl, Rd.made HR.out.1 (Nat.le_refl _) HS.out.2 (fun j hj => ⟨(HR.out.2.1 j hj).1, (HR.out.2.1 j hj).2.mono (by omega)⟩), HR.out.2.2⟩
theorem toPacket_t (X : VK) (a1 : Option Addr) (l1 c1 : Nat) (a2 : Option Addr) (l2 c2 : Nat) (a3 : Option Addr) (l3 c3 : Nat) (a4 : Option Addr) (l4 c4 : Nat) (w : World) (r1 : Rd w 0 (intsT X.q.ws) (.slice a1 l1 c1)) (r2 : Rd w 0 (boolsT X.q.bs) (.slice a2 l2 c2)) (r3 : Rd w 0 (intsT X.a.ws) (.slice a3 l3 c3)) (r4 : Rd w 0 (boolsT X.a.bs) (.slice a4 l4 c4)) (hz : szT 16 (trs (xkT X)) <= 1048576) :
 Calls Try.prog 35 #[.agg (xkL X a1 l1 c1 a2 l2 c2 a3 l3 c3 a4 l4 c4).toArray] w fun e w' => ∃ b1 d1 b2 d2 b3 d3 b4 d4, e = .returned (.agg (xkL X b1 l1 d1 b2 l2 d2 b3 l3 d3 b4 l4 d4).toArray) /\ Rd w' w.heap.size (intsT X.q.ws) (.slice b1 l1 d1) /\ Rd w' w.heap.size (boolsT X.q.bs) (.slice b2 l2 d2) /\ Rd w' w.heap.size (intsT X.a.ws) (.slice b3 l3 d3) /\ Rd w' w.heap.size (boolsT X.a.bs) (.slice b4 l4 d4) /\ Below w.heap.size w w' := by
 obtain ⟨W, hW⟩ : ∃ W, W = ((w.alloc (.cells (xkL X a1 l1 c1 a2 l2 c2 a3 l3 c3 a4 l4 c4).toArray 88)).alloc (.cells #[.bool false, .int .i64 0, .int .i64 0, .int .i64 0, .int .i64 0, .int .i64 0, .int .i64 0, .slice none 0 0, .slice none 0 0, .int .i64 0, .int .i64 0, .int .i64 0, .int .i64 0, .int .i64 0, .slice none 0 0, .slice none 0 0] 107)).alloc (.cells #[.bool X.bk, .int .i64 X.po, .int .i64 X.nu, .int .i64 X.un, .int .i64 0, .int .i64 0, .int .i64 0, .slice none 0 0, .slice none 0 0, .int .i64 0, .int .i64 0, .int .i64 0, .int .i64 0, .int .i64 0, .slice none 0 0, .slice none 0 0] 107) := ⟨_, rfl⟩
 have G0 := TS.new hW
 have HZ : Hid (szT 6 (trs (qT X.q)) <= 1048576 /\ szT 6 (trs (aT X.a)) <= 1048576) := by
  rw [szT_xk] at hz
  show szT 6 (trs (qT X.q)) <= 1048576 /\ szT 6 (trs (aT X.a)) <= 1048576
  try simp only [szT_q, szT_a, szT_p, szT_d, szT_t, szT_xr, szT_xc, szT_xl, szT_xn, szT_xf, szT_xd, szT_xs, szT_xk, szT_xy, szT_xe, szT_xw, true_and]
  omega
 have HR := hide (And.intro r1 <| And.intro r2 <| And.intro r3 <| r4)
 clear hz r1 r2 r3 r4
 go_enter Try.func35, Try.ntmps35
 go_upto_region 6 with fail
 rw [<- hW]
 clear hW
 obtain ⟨⟨y0, y1, y2, y3, y4, y5, y6, y7, y8, y9, y10, y11, y12, y13, y14, y15⟩, -⟩ := G0.out.a.tc16
 go_wp2_with fail
 refine (toReq_t X.q a1 l1 c1 a2 l2 c2 _ (HR.out.1.below G0.out.b) (HR.out.2.1.below G0.out.b) HZ.out.1).mono ?_
 rintro e w1 ⟨b1, d1, b2, d2, rfl, q1, q2, hb⟩
 clear y0 y1 y2 y3 y4 y5 y6 y7 y8 y9 y10 y11 y12 y13 y14 y15
 obtain ⟨⟨z0, z1, z2, z3, z4, z5, z6, z7, z8, z9, z10, z11, z12, z13, z14, z15⟩, zf⟩ := (G0.out.o.below hb).tc16
 have g4 := zf 4
 have g5 := zf 5
 have g6 := zf 6
 have g7 := zf 7
 have g8 := zf 8
 have g9 := zf 9
 obtain ⟨W1, hX⟩ : ∃ z, z = setL w1 (w.heap.size + 1 + 1) 4 [.int .i64 X.q.kd, .int .i64 X.q.pl, .int .i64 X.q.n, .slice b1 l1 d1, .slice b2 l2 d2, .int .i64 X.q.wa] := ⟨_, rfl⟩
 have G1 := TS.st G0 hb hX #[.bool X.bk, .int .i64 X.po, .int .i64 X.nu, .int .i64 X.un, .int .i64 X.q.kd, .int .i64 X.q.pl, .int .i64 X.q.n, .slice b1 l1 d1, .slice b2 l2 d2, .int .i64 X.q.wa, .int .i64 0, .int .i64 0, .int .i64 0, .int .i64 0, .slice none 0 0, .slice none 0 0] [(intsT X.q.ws, .slice b1 l1 d1), (boolsT X.q.bs, .slice b2 l2 d2)] ⟨q1, q2, trivial⟩
 simp only [setL, Nat.reduceAdd, Nat.zero_add] at hX
 clear hb q1 q2
 go_upto_region 7 with fail
 rw [<- hX]
 clear hX zf z0 z1 z2 z3 z4 z5 z6 z7 z8 z9 z10 z11 z12 z13 z14 z15 g4 g5 g6 g7 g8 g9
 obtain ⟨⟨y0, y1, y2, y3, y4, y5, y6, y7, y8, y9, y10, y11, y12, y13, y14, y15⟩, -⟩ := G1.out.a.tc16
 go_wp2_with fail
 refine (toResp_t X.a a3 l3 c3 a4 l4 c4 _ (HR.out.2.2.1.below G1.out.b) (HR.out.2.2.2.below G1.out.b) HZ.out.2).mono ?_
 rintro e w2 ⟨b3, d3, b4, d4, rfl, q3, q4, hb⟩
 clear y0 y1 y2 y3 y4 y5 y6 y7 y8 y9 y10 y11 y12 y13 y14 y15
 obtain ⟨⟨z0, z1, z2, z3, z4, z5, z6, z7, z8, z9, z10, z11, z12, z13, z14, z15⟩, zf⟩ := (G1.out.o.below hb).tc16
 have g10 := zf 10
 have g11 := zf 11
 have g12 := zf 12
 have g13 := zf 13
 have g14 := zf 14
 have g15 := zf 15
 obtain ⟨W2, hX⟩ : ∃ z, z = setL w2 (w.heap.size + 1 + 1) 10 [.int .i64 X.a.kd, .int .i64 X.a.fl, .int .i64 X.a.pl, .int .i64 X.a.n, .slice b3 l3 d3, .slice b4 l4 d4] := ⟨_, rfl⟩
 have G2 := TS.st G1 hb hX #[.bool X.bk, .int .i64 X.po, .int .i64 X.nu, .int .i64 X.un, .int .i64 X.q.kd, .int .i64 X.q.pl, .int .i64 X.q.n, .slice b1 l1 d1, .slice b2 l2 d2, .int .i64 X.q.wa, .int .i64 X.a.kd, .int .i64 X.a.fl, .int .i64 X.a.pl, .int .i64 X.a.n, .slice b3 l3 d3, .slice b4 l4 d4] [(intsT X.a.ws, .slice b3 l3 d3), (boolsT X.a.bs, .slice b4 l4 d4)] ⟨q3, q4, trivial⟩
 simp only [setL, Nat.reduceAdd, Nat.zero_add] at hX
 clear hb q3 q4
 go_upto_region 8 with fail
 rw [<- hX]
 clear hX zf z0 z1 z2 z3 z4 z5 z6 z7 z8 z9 z10 z11 z12 z13 z14 z15 g10 g11 g12 g13 g14 g15
 obtain ⟨V, hV⟩ : ∃ V, V = setL W2 (w.heap.size + 1) 0 (xkL X b1 l1 d1 b2 l2 d2 b3 l3 d3 b4 l4 d4) := ⟨_, rfl⟩
 have H9 := TS.fin G2 hV
 have hr : W2.rangeAt (w.heap.size + 1 + 1) 0 (xkL X b1 l1 d1 b2 l2 d2 b3 l3 d3 b4 l4 d4) := G2.out.o.all
 have ht := G2.out.z.there 0 16 (by simp)
 clear G2
 refine wp_region_lit ?_
 refine wpList_load_mid rfl 107 (.tmp 3) rfl (w.heap.size + 1 + 1) 0 rfl (xkL X b1 l1 d1 b2 l2 d2 b3 l3 d3 b4 l4 d4) _ hr Try.underlying107 rfl (by kernel_rfl) ?_
 refine wpList_store_mid rfl 107 (.tmp 2) (.tmp 24) rfl (w.heap.size + 1) 0 (xkL X b1 l1 d1 b2 l2 d2 b3 l3 d3 b4 l4 d4).toArray rfl rfl ht (by kernel_rfl) (by simp [Value.oneCell']) ?_
 rw [setCells_L, <- hV]
 clear hV hr ht
 refine wpList_nil ?_
 go_wp2
 obtain ⟨⟨y0, y1, y2, y3, y4, y5, y6, y7, y8, y9, y10, y11, y12, y13, y14, y15⟩, -⟩ := H9.out.2.1.tc16
 obtain ⟨B, -, s1, s2, s3, s4, -⟩ := H9.out
 refine bodyPost_ret (v := .agg (xkL X b1 l1 d1 b2 l2 d2 b3 l3 d3 b4 l4 d4).toArray) (by simp [results, Try.results35, go_sem, y0, y1, y2, y3, y4, y5, y6, y7, y8, y9, y10, y11, y12, y13, y14, y15]) rfl ⟨b1, d1, b2, d2, b3, d3, b4, d4, rfl, s1, s2, s3, s4, B⟩
theorem toPacketS_t (n : Nat) (f : Nat -> VK) (a : Option Addr) (n' cap : Nat) (w : World) (hs : Rd w 0 (.list 16 n (fun k => trs (xkT (f k)))) (.slice a n' cap)) (hz : (Tr.list 16 n (fun k => trs (xkT (f k)))).sz <= 1048576) :
 Calls Try.prog 16 #[.slice a n' cap] w fun e w' => ∃ b d, e = .returned (.slice b n' d) /\ Rd w' w.heap.size (.list 16 n (fun k => trs (xkT (f k)))) (.slice b n' d) /\ Below w.heap.size w w' := by
 obtain ⟨a9, c9, h9, -, hn⟩ := hs.shape
 simp only [Value.slice.injEq] at h9
 obtain ⟨-, rfl, -⟩ := h9
 clear a9 c9
 have hn1 : n' <= 1048576 := by rw [Tr.sz_list] at hz; omega
 have HZ : Hid (∀ k, k < n' -> szT 16 (trs (xkT (f k))) <= 1048576) := by
  show ∀ k, k < n' -> szT 16 (trs (xkT (f k))) <= 1048576
  intro k hk
  rw [Tr.sz_list] at hz
  have := sumN_at (fun k => szT 16 (trs (xkT (f k)))) hk
  omega
 have hmk := run_make_st (P := Try.prog) 49 107 (.agg #[.bool false, .int .i64 0, .int .i64 0, .int .i64 0, .int .i64 0, .int .i64 0, .int .i64 0, .slice none 0 0, .slice none 0 0, .int .i64 0, .int .i64 0, .int .i64 0, .int .i64 0, .int .i64 0, .slice none 0 0, .slice none 0 0]) 16 192 Try.underlying49 (by kernel_rfl) .i64 .i64 n' (by omega) (by omega)
 have HS : Hid (Rd w 0 (.list 16 n' (fun k => trs (xkT (f k)))) (.slice a n' cap) /\ n' <= maxLen) := ⟨hs, hn⟩
 clear hs hz hn
 go_enter Try.func16, Try.ntmps16
 go_wp2
 clear hmk
 go_loopw [4] (fun i wr => ∃ (k : Nat) (F : Nat -> List Value), k <= n' /\ i = .int .i64 k /\ RowS wr w.heap.size 107 16 n' F /\ (∀ j, j < k -> (F j).length = 16 /\ RdL wr (w.heap.size + 1) (trs (xkT (f j))) (F j)) /\ Below w.heap.size w wr) (fun i _ => n' - (intOf i).toNat)
 case atStart => exact ⟨0, fun _ => (#[.bool false, .int .i64 0, .int .i64 0, .int .i64 0, .int .i64 0, .int .i64 0, .int .i64 0, .slice none 0 0, .slice none 0 0, .int .i64 0, .int .i64 0, .int .i64 0, .int .i64 0, .int .i64 0, .slice none 0 0, .slice none 0 0]).toList, Nat.zero_le _, rfl, RowS.made w (#[.bool false, .int .i64 0, .int .i64 0, .int .i64 0, .int .i64 0, .int .i64 0, .int .i64 0, .slice none 0 0, .slice none 0 0, .int .i64 0, .int .i64 0, .int .i64 0, .int .i64 0, .int .i64 0, .slice none 0 0, .slice none 0 0]).toList n' _ (by simp), fun j hj => by omega, (Below.refl _ _).alloc (Nat.le_refl _) _⟩
 case round =>
  obtain ⟨k, F, hk, rfl, hrow, hin, hb⟩ := hrel
  by_cases hlt : k < n'
  ·have hi : (k : Int) < (n' : Int) := by omega
   obtain ⟨b, off, vs, rfl, _, hb0, hlen, hr, hrd⟩ := (HS.out.1.below hb).at hlt
   obtain ⟨a1, c1, a2, c2, a3, c3, a4, c4, rfl, r1, r2, r3, r4⟩ := VK.cells hrd hlen
   clear hlen hrd
   have HK : Hid (RowS wr w.heap.size 107 16 n' F /\ (∀ j, j < k -> (F j).length = 16 /\ RdL wr (w.heap.size + 1) (trs (xkT (f j))) (F j)) /\ Below w.heap.size w wr /\ Rd wr 0 (intsT (f k).q.ws) (.slice a1 ((f k).q.ws.length) c1) /\ Rd wr 0 (boolsT (f k).q.bs) (.slice a2 ((f k).q.bs.length) c2) /\ Rd wr 0 (intsT (f k).a.ws) (.slice a3 ((f k).a.ws.length) c3) /\ Rd wr 0 (boolsT (f k).a.bs) (.slice a4 ((f k).a.bs.length) c4)) := ⟨hrow, hin, hb, r1, r2, r3, r4⟩
   clear hrow hin hb hb0 r1 r2 r3 r4
   go_wp2_with (first | (refine wpList_load_mid rfl 88 _ rfl b (off + k * 16) rfl _ _ hr Try.underlying88 rfl (by kernel_rfl) ?_) | fail)
   refine (toPacket_t (f k) a1 ((f k).q.ws.length) c1 a2 ((f k).q.bs.length) c2 a3 ((f k).a.ws.length) c3 a4 ((f k).a.bs.length) c4 _ HK.out.2.2.2.1 HK.out.2.2.2.2.1 HK.out.2.2.2.2.2.1 HK.out.2.2.2.2.2.2 (HZ.out k hlt)).mono ?_
   rintro e w1 ⟨b1, d1, b2, d2, b3, d3, b4, d4, rfl, q1, q2, q3, q4, hb1⟩
   have R1 := HK.out.1.below hb1
   obtain ⟨W2, hW2⟩ : ∃ W2, W2 = setL w1 w.heap.size (k * 16) (xkL (f k) b1 ((f k).q.ws.length) d1 b2 ((f k).q.bs.length) d2 b3 ((f k).a.ws.length) d3 b4 ((f k).a.bs.length) d4) := ⟨_, rfl⟩
   have H2 : Hid (∃ F', RowS W2 w.heap.size 107 16 n' F' /\ (∀ j, j < k + 1 -> (F' j).length = 16 /\ RdL W2 (w.heap.size + 1) (trs (xkT (f j))) (F' j)) /\ Below w.heap.size w W2) := by
    have hg : w1.grownBy W2 (some w.heap.size) := by rw [hW2]; exact setL_gw _ _ _
    have hs1 := HK.out.1.lt
    refine ⟨_, by rw [hW2]; exact R1.set hlt _ rfl, fun j hj => ?_, by rw [hW2]; exact setL_below (Nat.le_refl _) _ _ _ (bel_nx HK.out.2.2.1 hb1)⟩
    by_cases e : j = k
    ·subst e
     simp only [if_true]
     exact ⟨rfl, VK.back ((q1.mono (by omega)).kept hg (by omega)) ((q2.mono (by omega)).kept hg (by omega)) ((q3.mono (by omega)).kept hg (by omega)) ((q4.mono (by omega)).kept hg (by omega))⟩
    simp only [if_neg e]
    have h9 := HK.out.2.1 j (by omega)
    exact ⟨h9.1, (h9.2.below hb1).kept hg (by omega)⟩
   have ht := R1.there hlt (m := 16) (Nat.le_refl _)
   clear R1 hb1 HK hr q1 q2 q3 q4
   go_wp2_with (first | (refine wpList_store_mid rfl 107 _ _ rfl w.heap.size (k * 16) (xkL (f k) b1 ((f k).q.ws.length) d1 b2 ((f k).q.bs.length) d2 b3 ((f k).a.ws.length) d3 b4 ((f k).a.bs.length) d4).toArray rfl rfl ht (by kernel_rfl) (by simp [Value.oneCell']) ?_; rw [setCells_L, <- hW2]; clear hW2 ht) | fail)
   go_roundw
   case rel =>
    obtain ⟨F', x1, x2, x3⟩ := H2.out
    exact ⟨k + 1, F', by omega, by go_num, x1, x2, x3⟩
   case measure => simp [intOf]; omega
  have hi : ¬ (k : Int) < (n' : Int) := by omega
  have e9 : k = n' := by omega
  subst e9
  have HR : Hid (RowS wr w.heap.size 107 16 k F /\ (∀ j, j < k -> (F j).length = 16 /\ RdL wr (w.heap.size + 1) (trs (xkT (f j))) (F j)) /\ Below w.heap.size w wr) := ⟨hrow, hin, hb⟩
  clear hrow hin hb
  go_wp2
  go_ret
  exact ⟨_, _, rfl, Rd.made HR.out.1 (Nat.le_refl _) HS.out.2 (fun j hj => ⟨(HR.out.2.1 j hj).1, (HR.out.2.1 j hj).2.mono (by omega)⟩), HR.out.2.2⟩
theorem toReply_t (X : VR) (a1 : Option Addr) (l1 c1 : Nat) (a2 : Option Addr) (l2 c2 : Nat) (a3 : Option Addr) (l3 c3 : Nat) (a4 : Option Addr) (l4 c4 : Nat) (a5 : Option Addr) (l5 c5 : Nat) (a6 : Option Addr) (l6 c6 : Nat) (w : World) (r1 : Rd w 0 (intsT X.q.ws) (.slice a1 l1 c1)) (r2 : Rd w 0 (boolsT X.q.bs) (.slice a2 l2 c2)) (r3 : Rd w 0 (.list 8 X.np (fun i => trs (pT (X.pt i)))) (.slice a3 l3 c3)) (r4 : Rd w 0 (.list 6 X.nt (fun i => trs (aT (X.tl i)))) (.slice a4 l4 c4)) (r5 : Rd w 0 (intsT X.a.ws) (.slice a5 l5 c5)) (r6 : Rd w 0 (boolsT X.a.bs) (.slice a6 l6 c6)) (hz : szT 16 (trs (xyT X)) <= 1048576) :
 Calls Try.prog 36 #[.agg (xyL X a1 l1 c1 a2 l2 c2 a3 l3 c3 a4 l4 c4 a5 l5 c5 a6 l6 c6).toArray] w fun e w' => ∃ b1 d1 b2 d2 b3 d3 b4 d4 b5 d5 b6 d6, e = .returned (.agg (xyL X b1 l1 d1 b2 l2 d2 b3 l3 d3 b4 l4 d4 b5 l5 d5 b6 l6 d6).toArray) /\ Rd w' w.heap.size (intsT X.q.ws) (.slice b1 l1 d1) /\ Rd w' w.heap.size (boolsT X.q.bs) (.slice b2 l2 d2) /\ Rd w' w.heap.size (.list 8 X.np (fun i => trs (pT (X.pt i)))) (.slice b3 l3 d3) /\ Rd w' w.heap.size (.list 6 X.nt (fun i => trs (aT (X.tl i)))) (.slice b4 l4 d4) /\ Rd w' w.heap.size (intsT X.a.ws) (.slice b5 l5 d5) /\ Rd w' w.heap.size (boolsT X.a.bs) (.slice b6 l6 d6) /\ Below w.heap.size w w' := by
 obtain ⟨W, hW⟩ : ∃ W, W = ((w.alloc (.cells (xyL X a1 l1 c1 a2 l2 c2 a3 l3 c3 a4 l4 c4 a5 l5 c5 a6 l6 c6).toArray 93)).alloc (.cells #[.int .i64 0, .int .i64 0, .int .i64 0, .int .i64 0, .int .i64 0, .slice none 0 0, .slice none 0 0, .int .i64 0, .slice none 0 0, .slice none 0 0, .int .i64 0, .int .i64 0, .int .i64 0, .int .i64 0, .slice none 0 0, .slice none 0 0] 112)).alloc (.cells #[.int .i64 X.so, .int .i64 X.ta, .int .i64 0, .int .i64 0, .int .i64 0, .slice none 0 0, .slice none 0 0, .int .i64 0, .slice none 0 0, .slice none 0 0, .int .i64 0, .int .i64 0, .int .i64 0, .int .i64 0, .slice none 0 0, .slice none 0 0] 112) := ⟨_, rfl⟩
 have G0 := TS.new hW
 have HZ : Hid (szT 6 (trs (qT X.q)) <= 1048576 /\ (Tr.list 8 X.np (fun i => trs (pT (X.pt i)))).sz <= 1048576 /\ (Tr.list 6 X.nt (fun i => trs (aT (X.tl i)))).sz <= 1048576 /\ szT 6 (trs (aT X.a)) <= 1048576) := by
  rw [szT_xy] at hz
  show szT 6 (trs (qT X.q)) <= 1048576 /\ (Tr.list 8 X.np (fun i => trs (pT (X.pt i)))).sz <= 1048576 /\ (Tr.list 6 X.nt (fun i => trs (aT (X.tl i)))).sz <= 1048576 /\ szT 6 (trs (aT X.a)) <= 1048576
  try simp only [szT_q, szT_a, szT_p, szT_d, szT_t, szT_xr, szT_xc, szT_xl, szT_xn, szT_xf, szT_xd, szT_xs, szT_xk, szT_xy, szT_xe, szT_xw, true_and]
  omega
 have HR := hide (And.intro r1 <| And.intro r2 <| And.intro r3 <| And.intro r4 <| And.intro r5 <| r6)
 clear hz r1 r2 r3 r4 r5 r6
 go_enter Try.func36, Try.ntmps36
 go_upto_region 4 with fail
 rw [<- hW]
 clear hW
 obtain ⟨⟨y0, y1, y2, y3, y4, y5, y6, y7, y8, y9, y10, y11, y12, y13, y14, y15⟩, -⟩ := G0.out.a.tc16
 go_wp2_with fail
 refine (toReq_t X.q a1 l1 c1 a2 l2 c2 _ (HR.out.1.below G0.out.b) (HR.out.2.1.below G0.out.b) HZ.out.1).mono ?_
 rintro e w1 ⟨b1, d1, b2, d2, rfl, q1, q2, hb⟩
 clear y0 y1 y2 y3 y4 y5 y6 y7 y8 y9 y10 y11 y12 y13 y14 y15
 obtain ⟨⟨z0, z1, z2, z3, z4, z5, z6, z7, z8, z9, z10, z11, z12, z13, z14, z15⟩, zf⟩ := (G0.out.o.below hb).tc16
 have g2 := zf 2
 have g3 := zf 3
 have g4 := zf 4
 have g5 := zf 5
 have g6 := zf 6
 have g7 := zf 7
 obtain ⟨W1, hX⟩ : ∃ z, z = setL w1 (w.heap.size + 1 + 1) 2 [.int .i64 X.q.kd, .int .i64 X.q.pl, .int .i64 X.q.n, .slice b1 l1 d1, .slice b2 l2 d2, .int .i64 X.q.wa] := ⟨_, rfl⟩
 have G1 := TS.st G0 hb hX #[.int .i64 X.so, .int .i64 X.ta, .int .i64 X.q.kd, .int .i64 X.q.pl, .int .i64 X.q.n, .slice b1 l1 d1, .slice b2 l2 d2, .int .i64 X.q.wa, .slice none 0 0, .slice none 0 0, .int .i64 0, .int .i64 0, .int .i64 0, .int .i64 0, .slice none 0 0, .slice none 0 0] [(intsT X.q.ws, .slice b1 l1 d1), (boolsT X.q.bs, .slice b2 l2 d2)] ⟨q1, q2, trivial⟩
 simp only [setL, Nat.reduceAdd, Nat.zero_add] at hX
 clear hb q1 q2
 go_upto_region 5 with fail
 rw [<- hX]
 clear hX zf z0 z1 z2 z3 z4 z5 z6 z7 z8 z9 z10 z11 z12 z13 z14 z15 g2 g3 g4 g5 g6 g7
 obtain ⟨⟨y0, y1, y2, y3, y4, y5, y6, y7, y8, y9, y10, y11, y12, y13, y14, y15⟩, -⟩ := G1.out.a.tc16
 go_wp2_with fail
 refine (toPartS_t X.np X.pt a3 l3 c3 _ (HR.out.2.2.1.below G1.out.b) HZ.out.2.1).mono ?_
 rintro e w2 ⟨b3, d3, rfl, q3, hb⟩
 clear y0 y1 y2 y3 y4 y5 y6 y7 y8 y9 y10 y11 y12 y13 y14 y15
 obtain ⟨⟨z0, z1, z2, z3, z4, z5, z6, z7, z8, z9, z10, z11, z12, z13, z14, z15⟩, zf⟩ := (G1.out.o.below hb).tc16
 have g8 := zf 8
 obtain ⟨W2, hX⟩ : ∃ z, z = setL w2 (w.heap.size + 1 + 1) 8 [.slice b3 l3 d3] := ⟨_, rfl⟩
 have G2 := TS.st G1 hb hX #[.int .i64 X.so, .int .i64 X.ta, .int .i64 X.q.kd, .int .i64 X.q.pl, .int .i64 X.q.n, .slice b1 l1 d1, .slice b2 l2 d2, .int .i64 X.q.wa, .slice b3 l3 d3, .slice none 0 0, .int .i64 0, .int .i64 0, .int .i64 0, .int .i64 0, .slice none 0 0, .slice none 0 0] [(.list 8 X.np (fun i => trs (pT (X.pt i))), .slice b3 l3 d3)] ⟨q3, trivial⟩
 simp only [setL, Nat.reduceAdd, Nat.zero_add] at hX
 clear hb q3
 go_upto_region 6 with fail
 rw [<- hX]
 clear hX zf z0 z1 z2 z3 z4 z5 z6 z7 z8 z9 z10 z11 z12 z13 z14 z15 g8
 obtain ⟨⟨y0, y1, y2, y3, y4, y5, y6, y7, y8, y9, y10, y11, y12, y13, y14, y15⟩, -⟩ := G2.out.a.tc16
 go_wp2_with fail
 refine (toRespS_t X.nt X.tl a4 l4 c4 _ (HR.out.2.2.2.1.below G2.out.b) HZ.out.2.2.1).mono ?_
 rintro e w3 ⟨b4, d4, rfl, q4, hb⟩
 clear y0 y1 y2 y3 y4 y5 y6 y7 y8 y9 y10 y11 y12 y13 y14 y15
 obtain ⟨⟨z0, z1, z2, z3, z4, z5, z6, z7, z8, z9, z10, z11, z12, z13, z14, z15⟩, zf⟩ := (G2.out.o.below hb).tc16
 have g9 := zf 9
 obtain ⟨W3, hX⟩ : ∃ z, z = setL w3 (w.heap.size + 1 + 1) 9 [.slice b4 l4 d4] := ⟨_, rfl⟩
 have G3 := TS.st G2 hb hX #[.int .i64 X.so, .int .i64 X.ta, .int .i64 X.q.kd, .int .i64 X.q.pl, .int .i64 X.q.n, .slice b1 l1 d1, .slice b2 l2 d2, .int .i64 X.q.wa, .slice b3 l3 d3, .slice b4 l4 d4, .int .i64 0, .int .i64 0, .int .i64 0, .int .i64 0, .slice none 0 0, .slice none 0 0] [(.list 6 X.nt (fun i => trs (aT (X.tl i))), .slice b4 l4 d4)] ⟨q4, trivial⟩
 simp only [setL, Nat.reduceAdd, Nat.zero_add] at hX
 clear hb q4
 go_upto_region 7 with fail
 rw [<- hX]
 clear hX zf z0 z1 z2 z3 z4 z5 z6 z7 z8 z9 z10 z11 z12 z13 z14 z15 g9
 obtain ⟨⟨y0, y1, y2, y3, y4, y5, y6, y7, y8, y9, y10, y11, y12, y13, y14, y15⟩, -⟩ := G3.out.a.tc16
 go_wp2_with fail
 refine (toResp_t X.a a5 l5 c5 a6 l6 c6 _ (HR.out.2.2.2.2.1.below G3.out.b) (HR.out.2.2.2.2.2.below G3.out.b) HZ.out.2.2.2).mono ?_
 rintro e w4 ⟨b5, d5, b6, d6, rfl, q5, q6, hb⟩
 clear y0 y1 y2 y3 y4 y5 y6 y7 y8 y9 y10 y11 y12 y13 y14 y15
 obtain ⟨⟨z0, z1, z2, z3, z4, z5, z6, z7, z8, z9, z10, z11, z12, z13, z14, z15⟩, zf⟩ := (G3.out.o.below hb).tc16
 have g10 := zf 10
 have g11 := zf 11
 have g12 := zf 12
 have g13 := zf 13
 have g14 := zf 14
 have g15 := zf 15
 obtain ⟨W4, hX⟩ : ∃ z, z = setL w4 (w.heap.size + 1 + 1) 10 [.int .i64 X.a.kd, .int .i64 X.a.fl, .int .i64 X.a.pl, .int .i64 X.a.n, .slice b5 l5 d5, .slice b6 l6 d6] := ⟨_, rfl⟩
 have G4 := TS.st G3 hb hX #[.int .i64 X.so, .int .i64 X.ta, .int .i64 X.q.kd, .int .i64 X.q.pl, .int .i64 X.q.n, .slice b1 l1 d1, .slice b2 l2 d2, .int .i64 X.q.wa, .slice b3 l3 d3, .slice b4 l4 d4, .int .i64 X.a.kd, .int .i64 X.a.fl, .int .i64 X.a.pl, .int .i64 X.a.n, .slice b5 l5 d5, .slice b6 l6 d6] [(intsT X.a.ws, .slice b5 l5 d5), (boolsT X.a.bs, .slice b6 l6 d6)] ⟨q5, q6, trivial⟩
 simp only [setL, Nat.reduceAdd, Nat.zero_add] at hX
 clear hb q5 q6
 go_upto_region 8 with fail
 rw [<- hX]
 clear hX zf z0 z1 z2 z3 z4 z5 z6 z7 z8 z9 z10 z11 z12 z13 z14 z15 g10 g11 g12 g13 g14 g15
 obtain ⟨V, hV⟩ : ∃ V, V = setL W4 (w.heap.size + 1) 0 (xyL X b1 l1 d1 b2 l2 d2 b3 l3 d3 b4 l4 d4 b5 l5 d5 b6 l6 d6) := ⟨_, rfl⟩
 have H9 := TS.fin G4 hV
 have hr : W4.rangeAt (w.heap.size + 1 + 1) 0 (xyL X b1 l1 d1 b2 l2 d2 b3 l3 d3 b4 l4 d4 b5 l5 d5 b6 l6 d6) := G4.out.o.all
 have ht := G4.out.z.there 0 16 (by simp)
 clear G4
 refine wp_region_lit ?_
 refine wpList_load_mid rfl 112 (.tmp 3) rfl (w.heap.size + 1 + 1) 0 rfl (xyL X b1 l1 d1 b2 l2 d2 b3 l3 d3 b4 l4 d4 b5 l5 d5 b6 l6 d6) _ hr Try.underlying112 rfl (by kernel_rfl) ?_
 refine wpList_store_mid rfl 112 (.tmp 2) (.tmp 26) rfl (w.heap.size + 1) 0 (xyL X b1 l1 d1 b2 l2 d2 b3 l3 d3 b4 l4 d4 b5 l5 d5 b6 l6 d6).toArray rfl rfl ht (by kernel_rfl) (by simp [Value.oneCell']) ?_
 rw [setCells_L, <- hV]
 clear hV hr ht
 refine wpList_nil ?_
 go_wp2
 obtain ⟨⟨y0, y1, y2, y3, y4, y5, y6, y7, y8, y9, y10, y11, y12, y13, y14, y15⟩, -⟩ := H9.out.2.1.tc16
 obtain ⟨B, -, s1, s2, s3, s4, s5, s6, -⟩ := H9.out
 refine bodyPost_ret (v := .agg (xyL X b1 l1 d1 b2 l2 d2 b3 l3 d3 b4 l4 d4 b5 l5 d5 b6 l6 d6).toArray) (by simp [results, Try.results36, go_sem, y0, y1, y2, y3, y4, y5, y6, y7, y8, y9, y10, y11, y12, y13, y14, y15]) rfl ⟨b1, d1, b2, d2, b3, d3, b4, d4, b5, d5, b6, d6, rfl, s1, s2, s3, s4, s5, s6, B⟩
theorem toReplyS_t (n : Nat) (f : Nat -> VR) (a : Option Addr) (n' cap : Nat) (w : World) (hs : Rd w 0 (.list 16 n (fun k => trs (xyT (f k)))) (.slice a n' cap)) (hz : (Tr.list 16 n (fun k => trs (xyT (f k)))).sz <= 1048576) :
 Calls Try.prog 17 #[.slice a n' cap] w fun e w' => ∃ b d, e = .returned (.slice b n' d) /\ Rd w' w.heap.size (.list 16 n (fun k => trs (xyT (f k)))) (.slice b n' d) /\ Below w.heap.size w w' := by
 obtain ⟨a9, c9, h9, -, hn⟩ := hs.shape
 simp only [Value.slice.injEq] at h9
 obtain ⟨-, rfl, -⟩ := h9
 clear a9 c9
 have hn1 : n' <= 1048576 := by rw [Tr.sz_list] at hz; omega
 have HZ : Hid (∀ k, k < n' -> szT 16 (trs (xyT (f k))) <= 1048576) := by
  show ∀ k, k < n' -> szT 16 (trs (xyT (f k))) <= 1048576
  intro k hk
  rw [Tr.sz_list] at hz
  have := sumN_at (fun k => szT 16 (trs (xyT (f k)))) hk
  omega
 have hmk := run_make_st (P := Try.prog) 50 112 (.agg #[.int .i64 0, .int .i64 0, .int .i64 0, .int .i64 0, .int .i64 0, .slice none 0 0, .slice none 0 0, .int .i64 0, .slice none 0 0, .slice none 0 0, .int .i64 0, .int .i64 0, .int .i64 0, .int .i64 0, .slice none 0 0, .slice none 0 0]) 16 224 Try.underlying50 (by kernel_rfl) .i64 .i64 n' (by omega) (by omega)
 have HS : Hid (Rd w 0 (.list 16 n' (fun k => trs (xyT (f k)))) (.slice a n' cap) /\ n' <= maxLen) := ⟨hs, hn⟩
 clear hs hz hn
 go_enter Try.func17, Try.ntmps17
 go_wp2
 clear hmk
 go_loopw [4] (fun i wr => ∃ (k : Nat) (F : Nat -> List Value), k <= n' /\ i = .int .i64 k /\ RowS wr w.heap.size 112 16 n' F /\ (∀ j, j < k -> (F j).length = 16 /\ RdL wr (w.heap.size + 1) (trs (xyT (f j))) (F j)) /\ Below w.heap.size w wr) (fun i _ => n' - (intOf i).toNat)
 case atStart => exact ⟨0, fun _ => (#[.int .i64 0, .int .i64 0, .int .i64 0, .int .i64 0, .int .i64 0, .slice none 0 0, .slice none 0 0, .int .i64 0, .slice none 0 0, .slice none 0 0, .int .i64 0, .int .i64 0, .int .i64 0, .int .i64 0, .slice none 0 0, .slice none 0 0]).toList, Nat.zero_le _, rfl, RowS.made w (#[.int .i64 0, .int .i64 0, .int .i64 0, .int .i64 0, .int .i64 0, .slice none 0 0, .slice none 0 0, .int .i64 0, .slice none 0 0, .slice none 0 0, .int .i64 0, .int .i64 0, .int .i64 0, .int .i64 0, .slice none 0 0, .slice none 0 0]).toList n' _ (by simp), fun j hj => by omega, (Below.refl _ _).alloc (Nat.le_refl _) _⟩
 case round =>
  obtain ⟨k, F, hk, rfl, hrow, hin, hb⟩ := hrel
  by_cases hlt : k < n'
  ·have hi : (k : Int) < (n' : Int) := by omega
   obtain ⟨b, off, vs, rfl, _, hb0, hlen, hr, hrd⟩ := (HS.out.1.below hb).at hlt
   obtain ⟨a1, c1, a2, c2, a3, c3, a4, c4, a5, c5, a6, c6, rfl, r1, r2, r3, r4, r5, r6⟩ := VR.cells hrd hlen
   clear hlen hrd
   have HK : Hid (RowS wr w.heap.size 112 16 n' F /\ (∀ j, j < k -> (F j).length = 16 /\ RdL wr (w.heap.size + 1) (trs (xyT (f j))) (F j)) /\ Below w.heap.size w wr /\ Rd wr 0 (intsT (f k).q.ws) (.slice a1 ((f k).q.ws.length) c1) /\ Rd wr 0 (boolsT (f k).q.bs) (.slice a2 ((f k).q.bs.length) c2) /\ Rd wr 0 (.list 8 (f k).np (fun i => trs (pT ((f k).pt i)))) (.slice a3 ((f k).np) c3) /\ Rd wr 0 (.list 6 (f k).nt (fun i => trs (aT ((f k).tl i)))) (.slice a4 ((f k).nt) c4) /\ Rd wr 0 (intsT (f k).a.ws) (.slice a5 ((f k).a.ws.length) c5) /\ Rd wr 0 (boolsT (f k).a.bs) (.slice a6 ((f k).a.bs.length) c6)) := ⟨hrow, hin, hb, r1, r2, r3, r4, r5, r6⟩
   clear hrow hin hb hb0 r1 r2 r3 r4 r5 r6
   go_wp2_with (first | (refine wpList_load_mid rfl 93 _ rfl b (off + k * 16) rfl _ _ hr Try.underlying93 rfl (by kernel_rfl) ?_) | fail)
   refine (toReply_t (f k) a1 ((f k).q.ws.length) c1 a2 ((f k).q.bs.length) c2 a3 ((f k).np) c3 a4 ((f k).nt) c4 a5 ((f k).a.ws.length) c5 a6 ((f k).a.bs.length) c6 _ HK.out.2.2.2.1 HK.out.2.2.2.2.1 HK.out.2.2.2.2.2.1 HK.out.2.2.2.2.2.2.1 HK.out.2.2.2.2.2.2.2.1 HK.out.2.2.2.2.2.2.2.2 (HZ.out k hlt)).mono ?_
   rintro e w1 ⟨b1, d1, b2, d2, b3, d3, b4, d4, b5, d5, b6, d6, rfl, q1, q2, q3, q4, q5, q6, hb1⟩
   have R1 := HK.out.1.below hb1
   obtain ⟨W2, hW2⟩ : ∃ W2, W2 = setL w1 w.heap.size (k * 16) (xyL (f k) b1 ((f k).q.ws.length) d1 b2 ((f k).q.bs.length) d2 b3 ((f k).np) d3 b4 ((f k).nt) d4 b5 ((f k).a.ws.length) d5 b6 ((f k).a.bs.length) d6) := ⟨_, rfl⟩
   have H2 : Hid (∃ F', RowS W2 w.heap.size 112 16 n' F' /\ (∀ j, j < k + 1 -> (F' j).length = 16 /\ RdL W2 (w.heap.size + 1) (trs (xyT (f j))) (F' j)) /\ Below w.heap.size w W2) := by
    have hg : w1.grownBy W2 (some w.heap.size) := by rw [hW2]; exact setL_gw _ _ _
    have hs1 := HK.out.1.lt
    refine ⟨_, by rw [hW2]; exact R1.set hlt _ rfl, fun j hj => ?_, by rw [hW2]; exact setL_below (Nat.le_refl _) _ _ _ (bel_nx HK.out.2.2.1 hb1)⟩
    by_cases e : j = k
    ·subst e
     simp only [if_true]
     exact ⟨rfl, VR.back ((q1.mono (by omega)).kept hg (by omega)) ((q2.mono (by omega)).kept hg (by omega)) ((q3.mono (by omega)).kept hg (by omega)) ((q4.mono (by omega)).kept hg (by omega)) ((q5.mono (by omega)).kept hg (by omega)) ((q6.mono (by omega)).kept hg (by omega))⟩
    simp only [if_neg e]
    have h9 := HK.out.2.1 j (by omega)
    exact ⟨h9.1, (h9.2.below hb1).kept hg (by omega)⟩
   have ht := R1.there hlt (m := 16) (Nat.le_refl _)
   clear R1 hb1 HK hr q1 q2 q3 q4 q5 q6
   go_wp2_with (first | (refine wpList_store_mid rfl 112 _ _ rfl w.heap.size (k * 16) (xyL (f k) b1 ((f k).q.ws.length) d1 b2 ((f k).q.bs.length) d2 b3 ((f k).np) d3 b4 ((f k).nt) d4 b5 ((f k).a.ws.length) d5 b6 ((f k).a.bs.length) d6).toArray rfl rfl ht (by kernel_rfl) (by simp [Value.oneCell']) ?_; rw [setCells_L, <- hW2]; clear hW2 ht) | fail)
   go_roundw
   case rel =>
    obtain ⟨F', x1, x2, x3⟩ := H2.out
    exact ⟨k + 1, F', by omega, by go_num, x1, x2, x3⟩
   case measure => simp [intOf]; omega
  have hi : ¬ (k : Int) < (n' : Int) := by omega
  have e9 : k = n' := by omega
  subst e9
  have HR : Hid (RowS wr w.heap.size 112 16 k F /\ (∀ j, j < k -> (F j).length = 16 /\ RdL wr (w.heap.size + 1) (trs (xyT (f j))) (F j)) /\ Below w.heap.size w wr) := ⟨hrow, hin, hb⟩
  clear hrow hin hb
  go_wp2
  go_ret
  exact ⟨_, _, rfl, Rd.made HR.out.1 (Nat.le_refl _) HS.out.2 (fun j hj => ⟨(HR.out.2.1 j hj).1, (HR.out.2.1 j hj).2.mono (by omega)⟩), HR.out.2.2⟩
theorem toServed_t (X : VE) (a1 : Option Addr) (l1 c1 : Nat) (a2 : Option Addr) (l2 c2 : Nat) (a3 : Option Addr) (l3 c3 : Nat) (a4 : Option Addr) (l4 c4 : Nat) (w : World) (r1 : Rd w 0 (intsT X.q.ws) (.slice a1 l1 c1)) (r2 : Rd w 0 (boolsT X.q.bs) (.slice a2 l2 c2)) (r3 : Rd w 0 (intsT X.a.ws) (.slice a3 l3 c3)) (r4 : Rd w 0 (boolsT X.a.bs) (.slice a4 l4 c4)) (hz : szT 15 (trs (xeT X)) <= 1048576) :
 Calls Try.prog 37 #[.agg (xeL X a1 l1 c1 a2 l2 c2 a3 l3 c3 a4 l4 c4).toArray] w fun e w' => ∃ b1 d1 b2 d2 b3 d3 b4 d4, e = .returned (.agg (xeL X b1 l1 d1 b2 l2 d2 b3 l3 d3 b4 l4 d4).toArray) /\ Rd w' w.heap.size (intsT X.q.ws) (.slice b1 l1 d1) /\ Rd w' w.heap.size (boolsT X.q.bs) (.slice b2 l2 d2) /\ Rd w' w.heap.size (intsT X.a.ws) (.slice b3 l3 d3) /\ Rd w' w.heap.size (boolsT X.a.bs) (.slice b4 l4 d4) /\ Below w.heap.size w w' := by
 obtain ⟨W, hW⟩ : ∃ W, W = ((w.alloc (.cells (xeL X a1 l1 c1 a2 l2 c2 a3 l3 c3 a4 l4 c4).toArray 96)).alloc (.cells #[.int .i64 0, .int .i64 0, .int .i64 0, .int .i64 0, .int .i64 0, .int .i64 0, .slice none 0 0, .slice none 0 0, .int .i64 0, .int .i64 0, .int .i64 0, .int .i64 0, .int .i64 0, .slice none 0 0, .slice none 0 0] 115)).alloc (.cells #[.int .i64 X.po, .int .i64 X.nu, .int .i64 X.un, .int .i64 0, .int .i64 0, .int .i64 0, .slice none 0 0, .slice none 0 0, .int .i64 0, .int .i64 0, .int .i64 0, .int .i64 0, .int .i64 0, .slice none 0 0, .slice none 0 0] 115) := ⟨_, rfl⟩
 have G0 := TS.new hW
 have HZ : Hid (szT 6 (trs (qT X.q)) <= 1048576 /\ szT 6 (trs (aT X.a)) <= 1048576) := by
  rw [szT_xe] at hz
  show szT 6 (trs (qT X.q)) <= 1048576 /\ szT 6 (trs (aT X.a)) <= 1048576
  try simp only [szT_q, szT_a, szT_p, szT_d, szT_t, szT_xr, szT_xc, szT_xl, szT_xn, szT_xf, szT_xd, szT_xs, szT_xk, szT_xy, szT_xe, szT_xw, true_and]
  omega
 have HR := hide (And.intro r1 <| And.intro r2 <| And.intro r3 <| r4)
 clear hz r1 r2 r3 r4
 go_enter Try.func37, Try.ntmps37
 go_upto_region 5 with fail
 rw [<- hW]
 clear hW
 obtain ⟨⟨y0, y1, y2, y3, y4, y5, y6, y7, y8, y9, y10, y11, y12, y13, y14⟩, -⟩ := G0.out.a.tc15
 go_wp2_with fail
 refine (toReq_t X.q a1 l1 c1 a2 l2 c2 _ (HR.out.1.below G0.out.b) (HR.out.2.1.below G0.out.b) HZ.out.1).mono ?_
 rintro e w1 ⟨b1, d1, b2, d2, rfl, q1, q2, hb⟩
 clear y0 y1 y2 y3 y4 y5 y6 y7 y8 y9 y10 y11 y12 y13 y14
 obtain ⟨⟨z0, z1, z2, z3, z4, z5, z6, z7, z8, z9, z10, z11, z12, z13, z14⟩, zf⟩ := (G0.out.o.below hb).tc15
 have g3 := zf 3
 have g4 := zf 4
 have g5 := zf 5
 have g6 := zf 6
 have g7 := zf 7
 have g8 := zf 8
 obtain ⟨W1, hX⟩ : ∃ z, z = setL w1 (w.heap.size + 1 + 1) 3 [.int .i64 X.q.kd, .int .i64 X.q.pl, .int .i64 X.q.n, .slice b1 l1 d1, .slice b2 l2 d2, .int .i64 X.q.wa] := ⟨_, rfl⟩
 have G1 := TS.st G0 hb hX #[.int .i64 X.po, .int .i64 X.nu, .int .i64 X.un, .int .i64 X.q.kd, .int .i64 X.q.pl, .int .i64 X.q.n, .slice b1 l1 d1, .slice b2 l2 d2, .int .i64 X.q.wa, .int .i64 0, .int .i64 0, .int .i64 0, .int .i64 0, .slice none 0 0, .slice none 0 0] [(intsT X.q.ws, .slice b1 l1 d1), (boolsT X.q.bs, .slice b2 l2 d2)] ⟨q1, q2, trivial⟩
 simp only [setL, Nat.reduceAdd, Nat.zero_add] at hX
 clear hb q1 q2
 go_upto_region 6 with fail
 rw [<- hX]
 clear hX zf z0 z1 z2 z3 z4 z5 z6 z7 z8 z9 z10 z11 z12 z13 z14 g3 g4 g5 g6 g7 g8
 obtain ⟨⟨y0, y1, y2, y3, y4, y5, y6, y7, y8, y9, y10, y11, y12, y13, y14⟩, -⟩ := G1.out.a.tc15
 go_wp2_with fail
 refine (toResp_t X.a a3 l3 c3 a4 l4 c4 _ (HR.out.2.2.1.below G1.out.b) (HR.out.2.2.2.below G1.out.b) HZ.out.2).mono ?_
 rintro e w2 ⟨b3, d3, b4, d4, rfl, q3, q4, hb⟩
 clear y0 y1 y2 y3 y4 y5 y6 y7 y8 y9 y10 y11 y12 y13 y14
 obtain ⟨⟨z0, z1, z2, z3, z4, z5, z6, z7, z8, z9, z10, z11, z12, z13, z14⟩, zf⟩ := (G1.out.o.below hb).tc15
 have g9 := zf 9
 have g10 := zf 10
 have g11 := zf 11
 have g12 := zf 12
 have g13 := zf 13
 have g14 := zf 14
 obtain ⟨W2, hX⟩ : ∃ z, z = setL w2 (w.heap.size + 1 + 1) 9 [.int .i64 X.a.kd, .int .i64 X.a.fl, .int .i64 X.a.pl, .int .i64 X.a.n, .slice b3 l3 d3, .slice b4 l4 d4] := ⟨_, rfl⟩
 have G2 := TS.st G1 hb hX #[.int .i64 X.po, .int .i64 X.nu, .int .i64 X.un, .int .i64 X.q.kd, .int .i64 X.q.pl, .int .i64 X.q.n, .slice b1 l1 d1, .slice b2 l2 d2, .int .i64 X.q.wa, .int .i64 X.a.kd, .int .i64 X.a.fl, .int .i64 X.a.pl, .int .i64 X.a.n, .slice b3 l3 d3, .slice b4 l4 d4] [(intsT X.a.ws, .slice b3 l3 d3), (boolsT X.a.bs, .slice b4 l4 d4)] ⟨q3, q4, trivial⟩
 simp only [setL, Nat.reduceAdd, Nat.zero_add] at hX
 clear hb q3 q4
 go_upto_region 7 with fail
 rw [<- hX]
 clear hX zf z0 z1 z2 z3 z4 z5 z6 z7 z8 z9 z10 z11 z12 z13 z14 g9 g10 g11 g12 g13 g14
 obtain ⟨V, hV⟩ : ∃ V, V = setL W2 (w.heap.size + 1) 0 (xeL X b1 l1 d1 b2 l2 d2 b3 l3 d3 b4 l4 d4) := ⟨_, rfl⟩
 have H9 := TS.fin G2 hV
 have hr : W2.rangeAt (w.heap.size + 1 + 1) 0 (xeL X b1 l1 d1 b2 l2 d2 b3 l3 d3 b4 l4 d4) := G2.out.o.all
 have ht := G2.out.z.there 0 15 (by simp)
 clear G2
 refine wp_region_lit ?_
 refine wpList_load_mid rfl 115 (.tmp 3) rfl (w.heap.size + 1 + 1) 0 rfl (xeL X b1 l1 d1 b2 l2 d2 b3 l3 d3 b4 l4 d4) _ hr Try.underlying115 rfl (by kernel_rfl) ?_
 refine wpList_store_mid rfl 115 (.tmp 2) (.tmp 21) rfl (w.heap.size + 1) 0 (xeL X b1 l1 d1 b2 l2 d2 b3 l3 d3 b4 l4 d4).toArray rfl rfl ht (by kernel_rfl) (by simp [Value.oneCell']) ?_
 rw [setCells_L, <- hV]
 clear hV hr ht
 refine wpList_nil ?_
 go_wp2
 obtain ⟨⟨y0, y1, y2, y3, y4, y5, y6, y7, y8, y9, y10, y11, y12, y13, y14⟩, -⟩ := H9.out.2.1.tc15
 obtain ⟨B, -, s1, s2, s3, s4, -⟩ := H9.out
 refine bodyPost_ret (v := .agg (xeL X b1 l1 d1 b2 l2 d2 b3 l3 d3 b4 l4 d4).toArray) (by simp [results, Try.results37, go_sem, y0, y1, y2, y3, y4, y5, y6, y7, y8, y9, y10, y11, y12, y13, y14]) rfl ⟨b1, d1, b2, d2, b3, d3, b4, d4, rfl, s1, s2, s3, s4, B⟩
theorem toServedS_t (n : Nat) (f : Nat -> VE) (a : Option Addr) (n' cap : Nat) (w : World) (hs : Rd w 0 (.list 15 n (fun k => trs (xeT (f k)))) (.slice a n' cap)) (hz : (Tr.list 15 n (fun k => trs (xeT (f k)))).sz <= 1048576) :
 Calls Try.prog 18 #[.slice a n' cap] w fun e w' => ∃ b d, e = .returned (.slice b n' d) /\ Rd w' w.heap.size (.list 15 n (fun k => trs (xeT (f k)))) (.slice b n' d) /\ Below w.heap.size w w' := by
 obtain ⟨a9, c9, h9, -, hn⟩ := hs.shape
 simp only [Value.slice.injEq] at h9
 obtain ⟨-, rfl, -⟩ := h9
 clear a9 c9
 have hn1 : n' <= 1048576 := by rw [Tr.sz_list] at hz; omega
 have HZ : Hid (∀ k, k < n' -> szT 15 (trs (xeT (f k))) <= 1048576) := by
  show ∀ k, k < n' -> szT 15 (trs (xeT (f k))) <= 1048576
  intro k hk
  rw [Tr.sz_list] at hz
  have := sumN_at (fun k => szT 15 (trs (xeT (f k)))) hk
  omega
 have hmk := run_make_st (P := Try.prog) 51 115 (.agg #[.int .i64 0, .int .i64 0, .int .i64 0, .int .i64 0, .int .i64 0, .int .i64 0, .slice none 0 0, .slice none 0 0, .int .i64 0, .int .i64 0, .int .i64 0, .int .i64 0, .int .i64 0, .slice none 0 0, .slice none 0 0]) 15 184 Try.underlying51 (by kernel_rfl) .i64 .i64 n' (by omega) (by omega)
 have HS : Hid (Rd w 0 (.list 15 n' (fun k => trs (xeT (f k)))) (.slice a n' cap) /\ n' <= maxLen) := ⟨hs, hn⟩
 clear hs hz hn
 go_enter Try.func18, Try.ntmps18
 go_wp2
 clear hmk
 go_loopw [4] (fun i wr => ∃ (k : Nat) (F : Nat -> List Value), k <= n' /\ i = .int .i64 k /\ RowS wr w.heap.size 115 15 n' F /\ (∀ j, j < k -> (F j).length = 15 /\ RdL wr (w.heap.size + 1) (trs (xeT (f j))) (F j)) /\ Below w.heap.size w wr) (fun i _ => n' - (intOf i).toNat)
 case atStart => exact ⟨0, fun _ => (#[.int .i64 0, .int .i64 0, .int .i64 0, .int .i64 0, .int .i64 0, .int .i64 0, .slice none 0 0, .slice none 0 0, .int .i64 0, .int .i64 0, .int .i64 0, .int .i64 0, .int .i64 0, .slice none 0 0, .slice none 0 0]).toList, Nat.zero_le _, rfl, RowS.made w (#[.int .i64 0, .int .i64 0, .int .i64 0, .int .i64 0, .int .i64 0, .int .i64 0, .slice none 0 0, .slice none 0 0, .int .i64 0, .int .i64 0, .int .i64 0, .int .i64 0, .int .i64 0, .slice none 0 0, .slice none 0 0]).toList n' _ (by simp), fun j hj => by omega, (Below.refl _ _).alloc (Nat.le_refl _) _⟩
 case round =>
  obtain ⟨k, F, hk, rfl, hrow, hin, hb⟩ := hrel
  by_cases hlt : k < n'
  ·have hi : (k : Int) < (n' : Int) := by omega
   obtain ⟨b, off, vs, rfl, _, hb0, hlen, hr, hrd⟩ := (HS.out.1.below hb).at hlt
   obtain ⟨a1, c1, a2, c2, a3, c3, a4, c4, rfl, r1, r2, r3, r4⟩ := VE.cells hrd hlen
   clear hlen hrd
   have HK : Hid (RowS wr w.heap.size 115 15 n' F /\ (∀ j, j < k -> (F j).length = 15 /\ RdL wr (w.heap.size + 1) (trs (xeT (f j))) (F j)) /\ Below w.heap.size w wr /\ Rd wr 0 (intsT (f k).q.ws) (.slice a1 ((f k).q.ws.length) c1) /\ Rd wr 0 (boolsT (f k).q.bs) (.slice a2 ((f k).q.bs.length) c2) /\ Rd wr 0 (intsT (f k).a.ws) (.slice a3 ((f k).a.ws.length) c3) /\ Rd wr 0 (boolsT (f k).a.bs) (.slice a4 ((f k).a.bs.length) c4)) := ⟨hrow, hin, hb, r1, r2, r3, r4⟩
   clear hrow hin hb hb0 r1 r2 r3 r4
   go_wp2_with (first | (refine wpList_load_mid rfl 96 _ rfl b (off + k * 15) rfl _ _ hr Try.underlying96 rfl (by kernel_rfl) ?_) | fail)
   refine (toServed_t (f k) a1 ((f k).q.ws.length) c1 a2 ((f k).q.bs.length) c2 a3 ((f k).a.ws.length) c3 a4 ((f k).a.bs.length) c4 _ HK.out.2.2.2.1 HK.out.2.2.2.2.1 HK.out.2.2.2.2.2.1 HK.out.2.2.2.2.2.2 (HZ.out k hlt)).mono ?_
   rintro e w1 ⟨b1, d1, b2, d2, b3, d3, b4, d4, rfl, q1, q2, q3, q4, hb1⟩
   have R1 := HK.out.1.below hb1
   obtain ⟨W2, hW2⟩ : ∃ W2, W2 = setL w1 w.heap.size (k * 15) (xeL (f k) b1 ((f k).q.ws.length) d1 b2 ((f k).q.bs.length) d2 b3 ((f k).a.ws.length) d3 b4 ((f k).a.bs.length) d4) := ⟨_, rfl⟩
   have H2 : Hid (∃ F', RowS W2 w.heap.size 115 15 n' F' /\ (∀ j, j < k + 1 -> (F' j).length = 15 /\ RdL W2 (w.heap.size + 1) (trs (xeT (f j))) (F' j)) /\ Below w.heap.size w W2) := by
    have hg : w1.grownBy W2 (some w.heap.size) := by rw [hW2]; exact setL_gw _ _ _
    have hs1 := HK.out.1.lt
    refine ⟨_, by rw [hW2]; exact R1.set hlt _ rfl, fun j hj => ?_, by rw [hW2]; exact setL_below (Nat.le_refl _) _ _ _ (bel_nx HK.out.2.2.1 hb1)⟩
    by_cases e : j = k
    ·subst e
     simp only [if_true]
     exact ⟨rfl, VE.back ((q1.mono (by omega)).kept hg (by omega)) ((q2.mono (by omega)).kept hg (by omega)) ((q3.mono (by omega)).kept hg (by omega)) ((q4.mono (by omega)).kept hg (by omega))⟩
    simp only [if_neg e]
    have h9 := HK.out.2.1 j (by omega)
    exact ⟨h9.1, (h9.2.below hb1).kept hg (by omega)⟩
   have ht := R1.there hlt (m := 15) (Nat.le_refl _)
   clear R1 hb1 HK hr q1 q2 q3 q4
   go_wp2_with (first | (refine wpList_store_mid rfl 115 _ _ rfl w.heap.size (k * 15) (xeL (f k) b1 ((f k).q.ws.length) d1 b2 ((f k).q.bs.length) d2 b3 ((f k).a.ws.length) d3 b4 ((f k).a.bs.length) d4).toArray rfl rfl ht (by kernel_rfl) (by simp [Value.oneCell']) ?_; rw [setCells_L, <- hW2]; clear hW2 ht) | fail)
   go_roundw
   case rel =>
    obtain ⟨F', x1, x2, x3⟩ := H2.out
    exact ⟨k + 1, F', by omega, by go_num, x1, x2, x3⟩
   case measure => simp [intOf]; omega
  have hi : ¬ (k : Int) < (n' : Int) := by omega
  have e9 : k = n' := by omega
  subst e9
  have HR : Hid (RowS wr w.heap.size 115 15 k F /\ (∀ j, j < k -> (F j).length = 15 /\ RdL wr (w.heap.size + 1) (trs (xeT (f j))) (F j)) /\ Below w.heap.size w wr) := ⟨hrow, hin, hb⟩
  clear hrow hin hb
  go_wp2
  go_ret
  exact ⟨_, _, rfl, Rd.made HR.out.1 (Nat.le_refl _) HS.out.2 (fun j hj => ⟨(HR.out.2.1 j hj).1, (HR.out.2.1 j hj).2.mono (by omega)⟩), HR.out.2.2⟩
theorem toWorld_t (X : VW) (a1 : Option Addr) (l1 c1 : Nat) (a2 : Option Addr) (l2 c2 : Nat) (a3 : Option Addr) (l3 c3 : Nat) (a4 : Option Addr) (l4 c4 : Nat) (a5 : Option Addr) (l5 c5 : Nat) (a6 : Option Addr) (l6 c6 : Nat) (a7 : Option Addr) (l7 c7 : Nat) (w : World) (r1 : Rd w 0 (.list 7 X.fb.set.n (fun i => trs (xrT (X.fb.set.f i)))) (.slice a1 l1 c1)) (r2 : Rd w 0 (.list 13 X.fb.op.m (fun i => trs (dT (X.fb.op.f i)))) (.slice a2 l2 c2)) (r3 : Rd w 0 (.list 17 X.fb.nl (fun i => trs (xnT (X.fb.lf i)))) (.slice a3 l3 c3)) (r4 : Rd w 0 (.list 6 X.ns (fun i => trs (xsT (X.sf i)))) (.slice a4 l4 c4)) (r5 : Rd w 0 (.list 16 X.nk (fun i => trs (xkT (X.kf i)))) (.slice a5 l5 c5)) (r6 : Rd w 0 (.list 16 X.nr (fun i => trs (xyT (X.rf i)))) (.slice a6 l6 c6)) (r7 : Rd w 0 (.list 15 X.ne (fun i => trs (xeT (X.ef i)))) (.slice a7 l7 c7)) (hz : szT 15 (trs (xwT X)) <= 1048576) :
 Calls Try.prog 6 #[.agg (xwL X a1 l1 c1 a2 l2 c2 a3 l3 c3 a4 l4 c4 a5 l5 c5 a6 l6 c6 a7 l7 c7).toArray] w fun e w' => ∃ b1 d1 b2 d2 b3 d3 b4 d4 b5 d5 b6 d6 b7 d7, e = .returned (.agg (xwL X b1 l1 d1 b2 l2 d2 b3 l3 d3 b4 l4 d4 b5 l5 d5 b6 l6 d6 b7 l7 d7).toArray) /\ Rd w' w.heap.size (.list 7 X.fb.set.n (fun i => trs (xrT (X.fb.set.f i)))) (.slice b1 l1 d1) /\ Rd w' w.heap.size (.list 13 X.fb.op.m (fun i => trs (dT (X.fb.op.f i)))) (.slice b2 l2 d2) /\ Rd w' w.heap.size (.list 17 X.fb.nl (fun i => trs (xnT (X.fb.lf i)))) (.slice b3 l3 d3) /\ Rd w' w.heap.size (.list 6 X.ns (fun i => trs (xsT (X.sf i)))) (.slice b4 l4 d4) /\ Rd w' w.heap.size (.list 16 X.nk (fun i => trs (xkT (X.kf i)))) (.slice b5 l5 d5) /\ Rd w' w.heap.size (.list 16 X.nr (fun i => trs (xyT (X.rf i)))) (.slice b6 l6 d6) /\ Rd w' w.heap.size (.list 15 X.ne (fun i => trs (xeT (X.ef i)))) (.slice b7 l7 d7) /\ Below w.heap.size w w' := by
 obtain ⟨W, hW⟩ : ∃ W, W = ((w.alloc (.cells (xwL X a1 l1 c1 a2 l2 c2 a3 l3 c3 a4 l4 c4 a5 l5 c5 a6 l6 c6 a7 l7 c7).toArray 36)).alloc (.cells #[.int .i64 0, .int .i64 0, .int .i64 0, .slice none 0 0, .int .i64 0, .slice none 0 0, .slice none 0 0, .int .i64 0, .int .i64 0, .int .i64 0, .int .i64 0, .slice none 0 0, .slice none 0 0, .slice none 0 0, .slice none 0 0] 53)).alloc (.cells #[.int .i64 0, .int .i64 0, .int .i64 0, .slice none 0 0, .int .i64 0, .slice none 0 0, .slice none 0 0, .int .i64 0, .int .i64 0, .int .i64 0, .int .i64 0, .slice none 0 0, .slice none 0 0, .slice none 0 0, .slice none 0 0] 53) := ⟨_, rfl⟩
 have G0 := TS.new hW
 have HZ : Hid (szT 11 (trs (xfT X.fb)) <= 1048576 /\ (Tr.list 6 X.ns (fun i => trs (xsT (X.sf i)))).sz <= 1048576 /\ (Tr.list 16 X.nk (fun i => trs (xkT (X.kf i)))).sz <= 1048576 /\ (Tr.list 16 X.nr (fun i => trs (xyT (X.rf i)))).sz <= 1048576 /\ (Tr.list 15 X.ne (fun i => trs (xeT (X.ef i)))).sz <= 1048576) := by
  rw [szT_xw] at hz
  show szT 11 (trs (xfT X.fb)) <= 1048576 /\ (Tr.list 6 X.ns (fun i => trs (xsT (X.sf i)))).sz <= 1048576 /\ (Tr.list 16 X.nk (fun i => trs (xkT (X.kf i)))).sz <= 1048576 /\ (Tr.list 16 X.nr (fun i => trs (xyT (X.rf i)))).sz <= 1048576 /\ (Tr.list 15 X.ne (fun i => trs (xeT (X.ef i)))).sz <= 1048576
  try simp only [szT_q, szT_a, szT_p, szT_d, szT_t, szT_xr, szT_xc, szT_xl, szT_xn, szT_xf, szT_xd, szT_xs, szT_xk, szT_xy, szT_xe, szT_xw, true_and]
  omega
 have HR := hide (And.intro r1 <| And.intro r2 <| And.intro r3 <| And.intro r4 <| And.intro r5 <| And.intro r6 <| r7)
 clear hz r1 r2 r3 r4 r5 r6 r7
 go_enter Try.func6, Try.ntmps6
 go_upto_region 2 with fail
 rw [<- hW]
 clear hW
 obtain ⟨⟨y0, y1, y2, y3, y4, y5, y6, y7, y8, y9, y10, y11, y12, y13, y14⟩, -⟩ := G0.out.a.tc15
 go_wp2_with fail
 refine (toFabric_t X.fb a1 l1 c1 a2 l2 c2 a3 l3 c3 _ (HR.out.1.below G0.out.b) (HR.out.2.1.below G0.out.b) (HR.out.2.2.1.below G0.out.b) HZ.out.1).mono ?_
 rintro e w1 ⟨b1, d1, b2, d2, b3, d3, rfl, q1, q2, q3, hb⟩
 clear y0 y1 y2 y3 y4 y5 y6 y7 y8 y9 y10 y11 y12 y13 y14
 obtain ⟨⟨z0, z1, z2, z3, z4, z5, z6, z7, z8, z9, z10, z11, z12, z13, z14⟩, zf⟩ := (G0.out.o.below hb).tc15
 have g0 := zf 0
 have g1 := zf 1
 have g2 := zf 2
 have g3 := zf 3
 have g4 := zf 4
 have g5 := zf 5
 have g6 := zf 6
 have g7 := zf 7
 have g8 := zf 8
 have g9 := zf 9
 have g10 := zf 10
 obtain ⟨W1, hX⟩ : ∃ z, z = setL w1 (w.heap.size + 1 + 1) 0 [.int .i64 X.fb.nw, .int .i64 X.fb.set.wt, .int .i64 X.fb.set.tr, .slice b1 l1 d1, .int .i64 X.fb.op.nx, .slice b2 l2 d2, .slice b3 l3 d3, .int .i64 X.fb.sk, .int .i64 X.fb.re, .int .i64 X.fb.fa, .int .i64 X.fb.se] := ⟨_, rfl⟩
 have G1 := TS.st G0 hb hX #[.int .i64 X.fb.nw, .int .i64 X.fb.set.wt, .int .i64 X.fb.set.tr, .slice b1 l1 d1, .int .i64 X.fb.op.nx, .slice b2 l2 d2, .slice b3 l3 d3, .int .i64 X.fb.sk, .int .i64 X.fb.re, .int .i64 X.fb.fa, .int .i64 X.fb.se, .slice none 0 0, .slice none 0 0, .slice none 0 0, .slice none 0 0] [(.list 7 X.fb.set.n (fun i => trs (xrT (X.fb.set.f i))), .slice b1 l1 d1), (.list 13 X.fb.op.m (fun i => trs (dT (X.fb.op.f i))), .slice b2 l2 d2), (.list 17 X.fb.nl (fun i => trs (xnT (X.fb.lf i))), .slice b3 l3 d3)] ⟨q1, q2, q3, trivial⟩
 simp only [setL, Nat.reduceAdd, Nat.zero_add] at hX
 clear hb q1 q2 q3
 go_upto_region 3 with fail
 rw [<- hX]
 clear hX zf z0 z1 z2 z3 z4 z5 z6 z7 z8 z9 z10 z11 z12 z13 z14 g0 g1 g2 g3 g4 g5 g6 g7 g8 g9 g10
 obtain ⟨⟨y0, y1, y2, y3, y4, y5, y6, y7, y8, y9, y10, y11, y12, y13, y14⟩, -⟩ := G1.out.a.tc15
 go_wp2_with fail
 refine (toPostS_t X.ns X.sf a4 l4 c4 _ (HR.out.2.2.2.1.below G1.out.b) HZ.out.2.1).mono ?_
 rintro e w2 ⟨b4, d4, rfl, q4, hb⟩
 clear y0 y1 y2 y3 y4 y5 y6 y7 y8 y9 y10 y11 y12 y13 y14
 obtain ⟨⟨z0, z1, z2, z3, z4, z5, z6, z7, z8, z9, z10, z11, z12, z13, z14⟩, zf⟩ := (G1.out.o.below hb).tc15
 have g11 := zf 11
 obtain ⟨W2, hX⟩ : ∃ z, z = setL w2 (w.heap.size + 1 + 1) 11 [.slice b4 l4 d4] := ⟨_, rfl⟩
 have G2 := TS.st G1 hb hX #[.int .i64 X.fb.nw, .int .i64 X.fb.set.wt, .int .i64 X.fb.set.tr, .slice b1 l1 d1, .int .i64 X.fb.op.nx, .slice b2 l2 d2, .slice b3 l3 d3, .int .i64 X.fb.sk, .int .i64 X.fb.re, .int .i64 X.fb.fa, .int .i64 X.fb.se, .slice b4 l4 d4, .slice none 0 0, .slice none 0 0, .slice none 0 0] [(.list 6 X.ns (fun i => trs (xsT (X.sf i))), .slice b4 l4 d4)] ⟨q4, trivial⟩
 simp only [setL, Nat.reduceAdd, Nat.zero_add] at hX
 clear hb q4
 go_upto_region 4 with fail
 rw [<- hX]
 clear hX zf z0 z1 z2 z3 z4 z5 z6 z7 z8 z9 z10 z11 z12 z13 z14 g11
 obtain ⟨⟨y0, y1, y2, y3, y4, y5, y6, y7, y8, y9, y10, y11, y12, y13, y14⟩, -⟩ := G2.out.a.tc15
 go_wp2_with fail
 refine (toPacketS_t X.nk X.kf a5 l5 c5 _ (HR.out.2.2.2.2.1.below G2.out.b) HZ.out.2.2.1).mono ?_
 rintro e w3 ⟨b5, d5, rfl, q5, hb⟩
 clear y0 y1 y2 y3 y4 y5 y6 y7 y8 y9 y10 y11 y12 y13 y14
 obtain ⟨⟨z0, z1, z2, z3, z4, z5, z6, z7, z8, z9, z10, z11, z12, z13, z14⟩, zf⟩ := (G2.out.o.below hb).tc15
 have g12 := zf 12
 obtain ⟨W3, hX⟩ : ∃ z, z = setL w3 (w.heap.size + 1 + 1) 12 [.slice b5 l5 d5] := ⟨_, rfl⟩
 have G3 := TS.st G2 hb hX #[.int .i64 X.fb.nw, .int .i64 X.fb.set.wt, .int .i64 X.fb.set.tr, .slice b1 l1 d1, .int .i64 X.fb.op.nx, .slice b2 l2 d2, .slice b3 l3 d3, .int .i64 X.fb.sk, .int .i64 X.fb.re, .int .i64 X.fb.fa, .int .i64 X.fb.se, .slice b4 l4 d4, .slice b5 l5 d5, .slice none 0 0, .slice none 0 0] [(.list 16 X.nk (fun i => trs (xkT (X.kf i))), .slice b5 l5 d5)] ⟨q5, trivial⟩
 simp only [setL, Nat.reduceAdd, Nat.zero_add] at hX
 clear hb q5
 go_upto_region 5 with fail
 rw [<- hX]
 clear hX zf z0 z1 z2 z3 z4 z5 z6 z7 z8 z9 z10 z11 z12 z13 z14 g12
 obtain ⟨⟨y0, y1, y2, y3, y4, y5, y6, y7, y8, y9, y10, y11, y12, y13, y14⟩, -⟩ := G3.out.a.tc15
 go_wp2_with fail
 refine (toReplyS_t X.nr X.rf a6 l6 c6 _ (HR.out.2.2.2.2.2.1.below G3.out.b) HZ.out.2.2.2.1).mono ?_
 rintro e w4 ⟨b6, d6, rfl, q6, hb⟩
 clear y0 y1 y2 y3 y4 y5 y6 y7 y8 y9 y10 y11 y12 y13 y14
 obtain ⟨⟨z0, z1, z2, z3, z4, z5, z6, z7, z8, z9, z10, z11, z12, z13, z14⟩, zf⟩ := (G3.out.o.below hb).tc15
 have g13 := zf 13
 obtain ⟨W4, hX⟩ : ∃ z, z = setL w4 (w.heap.size + 1 + 1) 13 [.slice b6 l6 d6] := ⟨_, rfl⟩
 have G4 := TS.st G3 hb hX #[.int .i64 X.fb.nw, .int .i64 X.fb.set.wt, .int .i64 X.fb.set.tr, .slice b1 l1 d1, .int .i64 X.fb.op.nx, .slice b2 l2 d2, .slice b3 l3 d3, .int .i64 X.fb.sk, .int .i64 X.fb.re, .int .i64 X.fb.fa, .int .i64 X.fb.se, .slice b4 l4 d4, .slice b5 l5 d5, .slice b6 l6 d6, .slice none 0 0] [(.list 16 X.nr (fun i => trs (xyT (X.rf i))), .slice b6 l6 d6)] ⟨q6, trivial⟩
 simp only [setL, Nat.reduceAdd, Nat.zero_add] at hX
 clear hb q6
 go_upto_region 6 with fail
 rw [<- hX]
 clear hX zf z0 z1 z2 z3 z4 z5 z6 z7 z8 z9 z10 z11 z12 z13 z14 g13
 obtain ⟨⟨y0, y1, y2, y3, y4, y5, y6, y7, y8, y9, y10, y11, y12, y13, y14⟩, -⟩ := G4.out.a.tc15
 go_wp2_with fail
 refine (toServedS_t X.ne X.ef a7 l7 c7 _ (HR.out.2.2.2.2.2.2.below G4.out.b) HZ.out.2.2.2.2).mono ?_
 rintro e w5 ⟨b7, d7, rfl, q7, hb⟩
 clear y0 y1 y2 y3 y4 y5 y6 y7 y8 y9 y10 y11 y12 y13 y14
 obtain ⟨⟨z0, z1, z2, z3, z4, z5, z6, z7, z8, z9, z10, z11, z12, z13, z14⟩, zf⟩ := (G4.out.o.below hb).tc15
 have g14 := zf 14
 obtain ⟨W5, hX⟩ : ∃ z, z = setL w5 (w.heap.size + 1 + 1) 14 [.slice b7 l7 d7] := ⟨_, rfl⟩
 have G5 := TS.st G4 hb hX #[.int .i64 X.fb.nw, .int .i64 X.fb.set.wt, .int .i64 X.fb.set.tr, .slice b1 l1 d1, .int .i64 X.fb.op.nx, .slice b2 l2 d2, .slice b3 l3 d3, .int .i64 X.fb.sk, .int .i64 X.fb.re, .int .i64 X.fb.fa, .int .i64 X.fb.se, .slice b4 l4 d4, .slice b5 l5 d5, .slice b6 l6 d6, .slice b7 l7 d7] [(.list 15 X.ne (fun i => trs (xeT (X.ef i))), .slice b7 l7 d7)] ⟨q7, trivial⟩
 simp only [setL, Nat.reduceAdd, Nat.zero_add] at hX
 clear hb q7
 go_upto_region 7 with fail
 rw [<- hX]
 clear hX zf z0 z1 z2 z3 z4 z5 z6 z7 z8 z9 z10 z11 z12 z13 z14 g14
 obtain ⟨V, hV⟩ : ∃ V, V = setL W5 (w.heap.size + 1) 0 (xwL X b1 l1 d1 b2 l2 d2 b3 l3 d3 b4 l4 d4 b5 l5 d5 b6 l6 d6 b7 l7 d7) := ⟨_, rfl⟩
 have H9 := TS.fin G5 hV
 have hr : W5.rangeAt (w.heap.size + 1 + 1) 0 (xwL X b1 l1 d1 b2 l2 d2 b3 l3 d3 b4 l4 d4 b5 l5 d5 b6 l6 d6 b7 l7 d7) := G5.out.o.all
 have ht := G5.out.z.there 0 15 (by simp)
 clear G5
 refine wp_region_lit ?_
 refine wpList_load_mid rfl 53 (.tmp 3) rfl (w.heap.size + 1 + 1) 0 rfl (xwL X b1 l1 d1 b2 l2 d2 b3 l3 d3 b4 l4 d4 b5 l5 d5 b6 l6 d6 b7 l7 d7) _ hr Try.underlying53 rfl (by kernel_rfl) ?_
 refine wpList_store_mid rfl 53 (.tmp 2) (.tmp 24) rfl (w.heap.size + 1) 0 (xwL X b1 l1 d1 b2 l2 d2 b3 l3 d3 b4 l4 d4 b5 l5 d5 b6 l6 d6 b7 l7 d7).toArray rfl rfl ht (by kernel_rfl) (by simp [Value.oneCell']) ?_
 rw [setCells_L, <- hV]
 clear hV hr ht
 refine wpList_nil ?_
 go_wp2
 obtain ⟨⟨y0, y1, y2, y3, y4, y5, y6, y7, y8, y9, y10, y11, y12, y13, y14⟩, -⟩ := H9.out.2.1.tc15
 obtain ⟨B, -, s1, s2, s3, s4, s5, s6, s7, -⟩ := H9.out
 refine bodyPost_ret (v := .agg (xwL X b1 l1 d1 b2 l2 d2 b3 l3 d3 b4 l4 d4 b5 l5 d5 b6 l6 d6 b7 l7 d7).toArray) (by simp [results, Try.results6, go_sem, y0, y1, y2, y3, y4, y5, y6, y7, y8, y9, y10, y11, y12, y13, y14]) rfl ⟨b1, d1, b2, d2, b3, d3, b4, d4, b5, d5, b6, d6, b7, d7, rfl, s1, s2, s3, s4, s5, s6, s7, B⟩
end Go.Proofs.Ytplaoagcedgdfaa
