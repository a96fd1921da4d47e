/- Texts that the proof needs, joined: Tr11. -/
import Derived.Test.YtplaoagcedgdfaaV2
import Derived.Test.YtplaoagcedgdfaaV4
import Derived.Test.YtplaoagcedgdfaaV5
set_option linter.unusedVariables false
set_option linter.unusedSimpArgs false
set_option maxHeartbeats 2000000
set_option maxRecDepth 20000
namespace Go.Proofs.Ytplaoagcedgdfaa
open Go.RowKit Go.Joins
theorem Ru.back {w : World} {lo : Nat} {X : Ru} : RdL w lo (trs (xrT X)) (rul X) := by
 refine RdL.mk (fun j v t hv ht => ?_) (by simp [xrT])
 match j, hv, ht with
 | 0, hv, ht =>
  obtain rfl := Option.some.inj (show some _ = some v from hv)
  obtain rfl := Option.some.inj (show some _ = some t from ht)
  exact rfl
 | 1, hv, ht =>
  obtain rfl := Option.some.inj (show some _ = some v from hv)
  obtain rfl := Option.some.inj (show some _ = some t from ht)
  exact rfl
 | 2, hv, ht =>
  obtain rfl := Option.some.inj (show some _ = some v from hv)
  obtain rfl := Option.some.inj (show some _ = some t from ht)
  exact rfl
 | 3, hv, ht =>
  obtain rfl := Option.some.inj (show some _ = some v from hv)
  obtain rfl := Option.some.inj (show some _ = some t from ht)
  exact rfl
 | 4, hv, ht =>
  obtain rfl := Option.some.inj (show some _ = some v from hv)
  obtain rfl := Option.some.inj (show some _ = some t from ht)
  exact rfl
 | 5, hv, ht =>
  obtain rfl := Option.some.inj (show some _ = some v from hv)
  obtain rfl := Option.some.inj (show some _ = some t from ht)
  exact rfl
 | 6, hv, ht =>
  obtain rfl := Option.some.inj (show some _ = some v from hv)
  obtain rfl := Option.some.inj (show some _ = some t from ht)
  exact rfl
 | j + 7, hv, ht => simp at hv
theorem ruS_sz (n : Nat) (f : Nat -> Ru) : (Tr.list 7 n (fun k => trs (xrT (f k)))).sz = n := by
 rw [Tr.sz_list, sum0 _ _ (fun k => szT_xr (f k)), Nat.add_zero]
theorem szRuleS_t (n : Nat) (f : Nat -> Ru) (a : Option Addr) (n' cap : Nat) (left : Nat) (w : World) (hs : Rd w 0 (.list 7 n (fun k => trs (xrT (f k)))) (.slice a n' cap)) (hl : left <= 1048576) :
 Calls Try.prog 45 #[.slice a n' cap, .int .i64 (left : Int)] w fun e w' => e = .returned (.int .i64 (lfT left (Tr.list 7 n (fun k => trs (xrT (f k)))).sz)) /\ Below w.heap.size w w' := by
 rw [ruS_sz]
 obtain ⟨rfl, -⟩ := hs.slu
 obtain ⟨_, _, h9, -, hm⟩ := hs.shape
 by_cases h : n' <= left
 ·refine (szRuleS_fits a n' cap left w h hl).mono ?_
  rintro e w' ⟨rfl, rfl⟩
  exact ⟨by unfold lfT; rw [if_pos h]; exact congrArg _ (congrArg _ (by omega)), Below.refl _ _⟩
 refine (szRuleS_big a n' cap left w hm h hl).mono ?_
 rintro e w' ⟨rfl, rfl⟩
 exact ⟨by unfold lfT; rw [if_neg h], Below.refl _ _⟩
theorem Blk.tc4 {w : World} {g : Nat} {t : TypeId} {v0 v1 v2 v3 : Value} (h : Blk w g t #[v0, v1, v2, v3]) : (w.cell? ⟨g, 0, none⟩ = some v0 /\ w.cell? ⟨g, 1, none⟩ = some v1 /\ w.cell? ⟨g, 2, none⟩ = some v2 /\ w.cell? ⟨g, 3, none⟩ = some v3) /\ ∀ j, w.frozen? ⟨g, j, none⟩ = false :=
 ⟨⟨h.cell 0 rfl, h.cell 1 rfl, h.cell 2 rfl, h.cell 3 rfl⟩, h.fro⟩
theorem Blk.tc15 {w : World} {g : Nat} {t : TypeId} {v0 v1 v2 v3 v4 v5 v6 v7 v8 v9 v10 v11 v12 v13 v14 : Value} (h : Blk w g t #[v0, v1, v2, v3, v4, v5, v6, v7, v8, v9, v10, v11, v12, v13, v14]) : (w.cell? ⟨g, 0, none⟩ = some v0 /\ w.cell? ⟨g, 1, none⟩ = some v1 /\ w.cell? ⟨g, 2, none⟩ = some v2 /\ w.cell? ⟨g, 3, none⟩ = some v3 /\ w.cell? ⟨g, 4, none⟩ = some v4 /\ w.cell? ⟨g, 5, none⟩ = some v5 /\ w.cell? ⟨g, 6, none⟩ = some v6 /\ w.cell? ⟨g, 7, none⟩ = some v7 /\ w.cell? ⟨g, 8, none⟩ = some v8 /\ w.cell? ⟨g, 9, none⟩ = some v9 /\ w.cell? ⟨g, 10, none⟩ = some v10 /\ w.cell? ⟨g, 11, none⟩ = some v11 /\ w.cell? ⟨g, 12, none⟩ = some v12 /\ w.cell? ⟨g, 13, none⟩ = some v13 /\ w.cell? ⟨g, 14, none⟩ = some v14) /\ ∀ j, w.frozen? ⟨g, j, none⟩ = false :=
 ⟨⟨h.cell 0 rfl, h.cell 1 rfl, h.cell 2 rfl, h.cell 3 rfl, h.cell 4 rfl, h.cell 5 rfl, h.cell 6 rfl, h.cell 7 rfl, h.cell 8 rfl, h.cell 9 rfl, h.cell 10 rfl, h.cell 11 rfl, h.cell 12 rfl, h.cell 13 rfl, h.cell 14 rfl⟩, h.fro⟩
theorem Blk.tc16 {w : World} {g : Nat} {t : TypeId} {v0 v1 v2 v3 v4 v5 v6 v7 v8 v9 v10 v11 v12 v13 v14 v15 : Value} (h : Blk w g t #[v0, v1, v2, v3, v4, v5, v6, v7, v8, v9, v10, v11, v12, v13, v14, v15]) : (w.cell? ⟨g, 0, none⟩ = some v0 /\ w.cell? ⟨g, 1, none⟩ = some v1 /\ w.cell? ⟨g, 2, none⟩ = some v2 /\ w.cell? ⟨g, 3, none⟩ = some v3 /\ w.cell? ⟨g, 4, none⟩ = some v4 /\ w.cell? ⟨g, 5, none⟩ = some v5 /\ w.cell? ⟨g, 6, none⟩ = some v6 /\ w.cell? ⟨g, 7, none⟩ = some v7 /\ w.cell? ⟨g, 8, none⟩ = some v8 /\ w.cell? ⟨g, 9, none⟩ = some v9 /\ w.cell? ⟨g, 10, none⟩ = some v10 /\ w.cell? ⟨g, 11, none⟩ = some v11 /\ w.cell? ⟨g, 12, none⟩ = some v12 /\ w.cell? ⟨g, 13, none⟩ = some v13 /\ w.cell? ⟨g, 14, none⟩ = some v14 /\ w.cell? ⟨g, 15, none⟩ = some v15) /\ ∀ j, w.frozen? ⟨g, j, none⟩ = false :=
 ⟨⟨h.cell 0 rfl, h.cell 1 rfl, h.cell 2 rfl, h.cell 3 rfl, h.cell 4 rfl, h.cell 5 rfl, h.cell 6 rfl, h.cell 7 rfl, h.cell 8 rfl, h.cell 9 rfl, h.cell 10 rfl, h.cell 11 rfl, h.cell 12 rfl, h.cell 13 rfl, h.cell 14 rfl, h.cell 15 rfl⟩, h.fro⟩
theorem szConfig_t (X : VC) (a1 : Option Addr) (l1 c1 : Nat) (left : Nat) (w : World) (r1 : Rd w 0 (.list 7 X.n (fun i => trs (xrT (X.f i)))) (.slice a1 l1 c1)) (hl : left <= 1048576) :
 Calls Try.prog 24 #[.agg (xcL X a1 l1 c1).toArray, .int .i64 (left : Int)] w fun e w' => e = .returned (.int .i64 (lfT left (szT 3 (trs (xcT X))))) /\ Below w.heap.size w w' := by
 have HT : Hid (szT 3 (trs (xcT X)) = (Tr.list 7 X.n (fun i => trs (xrT (X.f i)))).sz) := by
  show _ = _
  simp only [szT_xc]
  try omega
 obtain ⟨t1, ht1⟩ : ∃ t : Nat, t = (Tr.list 7 X.n (fun i => trs (xrT (X.f i)))).sz := ⟨_, rfl⟩
 obtain ⟨W, hW⟩ : ∃ W, W = w.alloc (.cells (xcL X a1 l1 c1).toArray 24) := ⟨_, rfl⟩
 have H0 : Hid (Below w.heap.size w W /\ Blk W w.heap.size 24 (xcL X a1 l1 c1).toArray /\ szT 3 (trs (xcT X)) = t1 /\ Rd w 0 (.list 7 X.n (fun i => trs (xrT (X.f i)))) (.slice a1 l1 c1)) := ⟨by rw [hW]; exact bel_alloc _ _, by rw [hW]; exact Blk.new _ _ _, by rw [HT.out]; omega, r1⟩
 have K1 : Hid (t1 = (Tr.list 7 X.n (fun i => trs (xrT (X.f i)))).sz) := ht1
 clear HT r1 ht1
 go_enter Try.func24, Try.ntmps24
 go_upto_region 1 with fail
 rw [<- hW]
 clear hW
 have G0 : Hid (Below w.heap.size w W /\ Blk W w.heap.size 24 (xcL X a1 l1 c1).toArray) := ⟨H0.out.1, H0.out.2.1⟩
 have Q0 : Hid (left <= 1048576 /\ left = left) := ⟨hl, rfl⟩
 obtain ⟨⟨y0, y1, y2⟩, yf⟩ := G0.out.2.tc3
 clear yf
 by_cases g1 : t1 <= left
 rotate_left
 ·have E : Hid (lfT left ((Tr.list 7 X.n (fun i => trs (xrT (X.f i)))).sz) = -1 /\ lfT left (szT 3 (trs (xcT X))) = -1) := by
   have h9 := Q0.out.2
   have h8 := H0.out.2.2.1
   refine ⟨?_, ?_⟩
   ·rw [<- K1.out]; unfold lfT; rw [if_neg g1]
   rw [h8]; unfold lfT; rw [if_neg (by omega)]
  go_wp2_with fail
  refine (szRuleS_t X.n X.f a1 l1 c1 left _ (H0.out.2.2.2.below G0.out.1) Q0.out.1).mono ?_
  rintro e w9 ⟨rfl, b9⟩
  rw [E.out.1]
  have B9 := bel_nx G0.out.1 b9
  clear b9 y0 y1 y2
  go_wp2
  go_ret
  exact ⟨by rw [E.out.2]; rfl, B9⟩
 obtain ⟨L1, hL1⟩ : ∃ m : Nat, m + t1 = left := ⟨left - t1, by omega⟩
 have E1 : Hid (lfT left ((Tr.list 7 X.n (fun i => trs (xrT (X.f i)))).sz) = (L1 : Int)) := by
  show _ = _
  rw [<- K1.out]; unfold lfT; rw [if_pos g1]; omega
 have n1 : ¬ ((L1 : Int) < 0) := by omega
 have Q1 : Hid (L1 <= 1048576 /\ L1 + t1 = left) := by
  have h9 := Q0.out
  exact ⟨by omega, by omega⟩
 clear hL1 g1
 go_wp2_with fail
 refine (szRuleS_t X.n X.f a1 l1 c1 left _ (H0.out.2.2.2.below G0.out.1) Q0.out.1).mono ?_
 rintro e w1 ⟨rfl, b1⟩
 rw [E1.out]
 have G1 : Hid (Below w.heap.size w w1 /\ Blk w1 w.heap.size 24 (xcL X a1 l1 c1).toArray) := ⟨bel_nx G0.out.1 b1, G0.out.2.below b1⟩
 clear b1 y0 y1 y2
 have E : Hid (lfT left (szT 3 (trs (xcT X))) = (L1 : Int)) := by
  have h9 := Q1.out.2
  have h8 := H0.out.2.2.1
  show _ = _
  rw [h8]; unfold lfT; rw [if_pos (by omega)]; omega
 go_wp2
 go_ret
 exact ⟨by rw [E.out]; rfl, G1.out.1⟩
theorem szCall_t (X : VL) (a1 : Option Addr) (l1 c1 : Nat) (a2 : Option Addr) (l2 c2 : Nat) (left : Nat) (w : World) (r1 : Rd w 0 (intsT X.q.ws) (.slice a1 l1 c1)) (r2 : Rd w 0 (boolsT X.q.bs) (.slice a2 l2 c2)) (hl : left <= 1048576) :
 Calls Try.prog 71 #[.agg (xlL X a1 l1 c1 a2 l2 c2).toArray, .int .i64 (left : Int)] w fun e w' => e = .returned (.int .i64 (lfT left (szT 9 (trs (xlT X))))) /\ Below w.heap.size w w' := by
 have HT : Hid (szT 9 (trs (xlT X)) = szT 6 (trs (qT X.q))) := by
  show _ = _
  simp only [szT_xl, szT_q]
  try omega
 obtain ⟨t1, ht1⟩ : ∃ t : Nat, t = szT 6 (trs (qT X.q)) := ⟨_, rfl⟩
 obtain ⟨W, hW⟩ : ∃ W, W = w.alloc (.cells (xlL X a1 l1 c1 a2 l2 c2).toArray 129) := ⟨_, rfl⟩
 have H0 : Hid (Below w.heap.size w W /\ Blk W w.heap.size 129 (xlL X a1 l1 c1 a2 l2 c2).toArray /\ szT 9 (trs (xlT X)) = t1 /\ Rd w 0 (intsT X.q.ws) (.slice a1 l1 c1) /\ Rd w 0 (boolsT X.q.bs) (.slice a2 l2 c2)) := ⟨by rw [hW]; exact bel_alloc _ _, by rw [hW]; exact Blk.new _ _ _, by rw [HT.out]; omega, r1, r2⟩
 have K1 : Hid (t1 = szT 6 (trs (qT X.q))) := ht1
 clear HT r1 r2 ht1
 go_enter Try.func71, Try.ntmps71
 go_upto_region 1 with fail
 rw [<- hW]
 clear hW
 have G0 : Hid (Below w.heap.size w W /\ Blk W w.heap.size 129 (xlL X a1 l1 c1 a2 l2 c2).toArray) := ⟨H0.out.1, H0.out.2.1⟩
 have Q0 : Hid (left <= 1048576 /\ left = left) := ⟨hl, rfl⟩
 obtain ⟨⟨y0, y1, y2, y3, y4, y5, y6, y7, y8⟩, yf⟩ := G0.out.2.tc9
 clear yf
 by_cases g1 : t1 <= left
 rotate_left
 ·have E : Hid (lfT left (szT 6 (trs (qT X.q))) = -1 /\ lfT left (szT 9 (trs (xlT X))) = -1) := by
   have h9 := Q0.out.2
   have h8 := H0.out.2.2.1
   refine ⟨?_, ?_⟩
   ·rw [<- K1.out]; unfold lfT; rw [if_neg g1]
   rw [h8]; unfold lfT; rw [if_neg (by omega)]
  go_wp2_with fail
  refine (szReq_t X.q a1 l1 c1 a2 l2 c2 left _ (H0.out.2.2.2.1.below G0.out.1) (H0.out.2.2.2.2.below G0.out.1) Q0.out.1).mono ?_
  rintro e w9 ⟨rfl, b9⟩
  rw [E.out.1]
  have B9 := bel_nx G0.out.1 b9
  clear b9 y0 y1 y2 y3 y4 y5 y6 y7 y8
  go_wp2
  go_ret
  exact ⟨by rw [E.out.2]; rfl, B9⟩
 obtain ⟨L1, hL1⟩ : ∃ m : Nat, m + t1 = left := ⟨left - t1, by omega⟩
 have E1 : Hid (lfT left (szT 6 (trs (qT X.q))) = (L1 : Int)) := by
  show _ = _
  rw [<- K1.out]; unfold lfT; rw [if_pos g1]; omega
 have n1 : ¬ ((L1 : Int) < 0) := by omega
 have Q1 : Hid (L1 <= 1048576 /\ L1 + t1 = left) := by
  have h9 := Q0.out
  exact ⟨by omega, by omega⟩
 clear hL1 g1
 go_wp2_with fail
 refine (szReq_t X.q a1 l1 c1 a2 l2 c2 left _ (H0.out.2.2.2.1.below G0.out.1) (H0.out.2.2.2.2.below G0.out.1) Q0.out.1).mono ?_
 rintro e w1 ⟨rfl, b1⟩
 rw [E1.out]
 have G1 : Hid (Below w.heap.size w w1 /\ Blk w1 w.heap.size 129 (xlL X a1 l1 c1 a2 l2 c2).toArray) := ⟨bel_nx G0.out.1 b1, G0.out.2.below b1⟩
 clear b1 y0 y1 y2 y3 y4 y5 y6 y7 y8
 have E : Hid (lfT left (szT 9 (trs (xlT X))) = (L1 : Int)) := by
  have h9 := Q1.out.2
  have h8 := H0.out.2.2.1
  show _ = _
  rw [h8]; unfold lfT; rw [if_pos (by omega)]; omega
 go_wp2
 go_ret
 exact ⟨by rw [E.out]; rfl, G1.out.1⟩
theorem szCallS_t (n : Nat) (f : Nat -> VL) (a : Option Addr) (n' cap : Nat) (left : Nat) (w : World) (hs : Rd w 0 (.list 9 n (fun k => trs (xlT (f k)))) (.slice a n' cap)) (hl : left <= 1048576) :
 Calls Try.prog 70 #[.slice a n' cap, .int .i64 (left : Int)] w fun e w' => e = .returned (.int .i64 (lfT left (Tr.list 9 n (fun k => trs (xlT (f k)))).sz)) /\ Below w.heap.size w w' := by
 obtain ⟨a9, c9, h9, -, hn⟩ := hs.shape
 simp only [Value.slice.injEq] at h9
 obtain ⟨-, rfl, -⟩ := h9
 clear a9 c9
 unfold maxLen at hn
 have w1 : IntKind.i64.wrap ((left : Int) - (n' : Int)) = (left : Int) - (n' : Int) := by rw [IntKind.wrap_i64]; omega
 obtain ⟨g, hg⟩ : ∃ g : Nat -> Nat, g = fun k => szT 9 (trs (xlT (f k))) := ⟨_, rfl⟩
 have HT : Hid ((Tr.list 9 n' (fun k => trs (xlT (f k)))).sz = n' + sumN n' g) := by show _ = _; rw [hg]; exact Tr.sz_list _ _ _
 have HG : Hid (∀ k, g k = szT 9 (trs (xlT (f k)))) := by show ∀ k, g k = _; intro k; rw [hg]
 clear hg
 by_cases h0 : n' <= left
 ·have h1 : ¬ ((left : Int) - (n' : Int) < 0) := by omega
  have HS : Hid (Rd w 0 (.list 9 n' (fun k => trs (xlT (f k)))) (.slice a n' cap)) := hs
  have HL : Hid (left <= 1048576) := hl
  clear hs hn
  go_enter Try.func70, Try.ntmps70
  go_wp2
  go_loopw [1, 5] (fun lv i wr => ∃ k : Nat, k <= n' /\ i = .int .i64 k /\ n' + sumN k g <= left /\ lv = .int .i64 ((left : Int) - (n' : Int) - (sumN k g : Int)) /\ Below w.heap.size w wr) (fun _ i _ => n' - (intOf i).toNat)
  case atStart => exact ⟨0, Nat.zero_le _, rfl, by simp [sumN]; omega, by simp [sumN], Below.refl _ _⟩
  case round =>
   obtain ⟨k, hk, rfl, ht, rfl, hb⟩ := hrel
   by_cases hlt : k < n'
   ·have hi : (k : Int) < (n' : Int) := by omega
    obtain ⟨b, off, vs, rfl, _, hb0, hlen, hr, hrd⟩ := (HS.out.below hb).at hlt
    obtain ⟨a1, c1, a2, c2, rfl, r1, r2⟩ := VL.cells hrd hlen
    clear hlen hrd
    have d0 : wr.cell? ⟨b, off + k * 9, none⟩ = _ := hr 0 _ rfl
    have d1 : wr.cell? ⟨b, off + k * 9 + 1, none⟩ = _ := hr 1 _ rfl
    have d2 : wr.cell? ⟨b, off + k * 9 + 2, none⟩ = _ := hr 2 _ rfl
    have d3 : wr.cell? ⟨b, off + k * 9 + 3, none⟩ = _ := hr 3 _ rfl
    have d4 : wr.cell? ⟨b, off + k * 9 + 4, none⟩ = _ := hr 4 _ rfl
    have d5 : wr.cell? ⟨b, off + k * 9 + 5, none⟩ = _ := hr 5 _ rfl
    have d6 : wr.cell? ⟨b, off + k * 9 + 6, none⟩ = _ := hr 6 _ rfl
    have d7 : wr.cell? ⟨b, off + k * 9 + 7, none⟩ = _ := hr 7 _ rfl
    have d8 : wr.cell? ⟨b, off + k * 9 + 8, none⟩ = _ := hr 8 _ rfl
    obtain ⟨lf, hlf⟩ : ∃ lf : Nat, (lf : Int) = (left : Int) - (n' : Int) - (sumN k g : Int) := ⟨left - n' - sumN k g, by omega⟩
    rw [<- hlf]
    obtain ⟨x, hx⟩ : ∃ x, x = g k := ⟨_, rfl⟩
    have HK : Hid ((lf : Int) = (left : Int) - (n' : Int) - (sumN k g : Int) /\ lf <= 1048576 /\ sumN (k + 1) g = sumN k g + x /\ Below w.heap.size w wr /\ x = szT 9 (trs (xlT (f k))) /\ Rd wr 0 (intsT (f k).q.ws) (.slice a1 ((f k).q.ws.length) c1) /\ Rd wr 0 (boolsT (f k).q.bs) (.slice a2 ((f k).q.bs.length) c2)) := ⟨hlf, by have := HL.out; omega, by rw [hx]; rfl, hb, by rw [hx]; exact HG.out k, r1, r2⟩
    clear hlf hb HS hx hr hb0 r1 r2
    by_cases hf : x <= lf
    ·obtain ⟨lg, hlg⟩ : ∃ m : Nat, m + x = lf := ⟨lf - x, by omega⟩
     have hx0 : ¬ ((lg : Int) < 0) := by omega
     have HF : Hid (lfT lf (szT 9 (trs (xlT (f k)))) = (lg : Int) /\ (lg : Int) = (left : Int) - (n' : Int) - (sumN (k + 1) g : Int) /\ n' + sumN (k + 1) g <= left) := by
      have h9 := HK.out
      refine ⟨?_, ?_, ?_⟩
      ·rw [<- h9.2.2.2.2.1]; unfold lfT; rw [if_pos hf]; omega
      ·omega
      omega
     clear ht hf hlg
     go_wp2_with fail
     refine (szCall_t (f k) a1 ((f k).q.ws.length) c1 a2 ((f k).q.bs.length) c2 lf _ HK.out.2.2.2.2.2.1 HK.out.2.2.2.2.2.2 HK.out.2.1).mono ?_
     rintro e w2 ⟨rfl, b2⟩
     rw [HF.out.1]
     have HB : Hid (Below w.heap.size w w2) := bel_nx HK.out.2.2.2.1 b2
     clear b2 d0 d1 d2 d3 d4 d5 d6 d7 d8
     go_wp2
     go_roundw
     case rel => exact ⟨k + 1, by omega, by go_num, HF.out.2.2, by rw [HF.out.2.1], HB.out⟩
     case measure => simp [intOf]; omega
    have HF : Hid (lfT lf (szT 9 (trs (xlT (f k)))) = -1 /\ lfT left (Tr.list 9 n' (fun k => trs (xlT (f k)))).sz = -1) := by
     have h9 := HK.out
     have h8 := sumN_mono g (show k + 1 <= n' by omega)
     have h7 := HT.out
     refine ⟨?_, ?_⟩
     ·rw [<- h9.2.2.2.2.1]; unfold lfT; rw [if_neg hf]
     rw [h7]; unfold lfT; rw [if_neg (by omega)]
    clear ht hf
    go_wp2_with fail
    refine (szCall_t (f k) a1 ((f k).q.ws.length) c1 a2 ((f k).q.bs.length) c2 lf _ HK.out.2.2.2.2.2.1 HK.out.2.2.2.2.2.2 HK.out.2.1).mono ?_
    rintro e w2 ⟨rfl, b2⟩
    rw [HF.out.1]
    have HB : Hid (Below w.heap.size w w2) := bel_nx HK.out.2.2.2.1 b2
    clear b2 d0 d1 d2 d3 d4 d5 d6 d7 d8
    go_wp2
    go_ret
    exact ⟨(by rw [HF.out.2]; rfl), HB.out⟩
   have hi : ¬ (k : Int) < (n' : Int) := by omega
   have e9 : k = n' := by omega
   subst e9
   have HE : Hid (lfT left (Tr.list 9 k (fun k => trs (xlT (f k)))).sz = (left : Int) - (k : Int) - (sumN k g : Int)) := by
    show _ = _
    rw [HT.out]; unfold lfT; rw [if_pos ht]; omega
   clear ht
   go_wp2
   go_ret
   exact ⟨(by rw [HE.out]; rfl), hb⟩
 have h1 : (left : Int) - (n' : Int) < 0 := by omega
 have HE : Hid (lfT left (Tr.list 9 n' (fun k => trs (xlT (f k)))).sz = -1) := by
  show _ = _
  rw [HT.out]; unfold lfT; rw [if_neg (by omega)]
 clear hs hn hl
 go_enter Try.func70, Try.ntmps70
 go_wp2
 go_ret
 exact ⟨(by rw [HE.out]; rfl), Below.refl _ _⟩
theorem szLine_t (X : VN) (a1 : Option Addr) (l1 c1 : Nat) (a2 : Option Addr) (l2 c2 : Nat) (a3 : Option Addr) (l3 c3 : Nat) (left : Nat) (w : World) (r1 : Rd w 0 (.list 9 X.nq (fun i => trs (xlT (X.qf i)))) (.slice a1 l1 c1)) (r2 : Rd w 0 (intsT X.c.q.ws) (.slice a2 l2 c2)) (r3 : Rd w 0 (boolsT X.c.q.bs) (.slice a3 l3 c3)) (hl : left <= 1048576) :
 Calls Try.prog 47 #[.agg (xnL X a1 l1 c1 a2 l2 c2 a3 l3 c3).toArray, .int .i64 (left : Int)] w fun e w' => e = .returned (.int .i64 (lfT left (szT 17 (trs (xnT X))))) /\ Below w.heap.size w w' := by
 have HT : Hid (szT 17 (trs (xnT X)) = (Tr.list 9 X.nq (fun i => trs (xlT (X.qf i)))).sz + szT 9 (trs (xlT X.c))) := by
  show _ = _
  simp only [szT_xn, szT_xl]
  try omega
 obtain ⟨t1, ht1⟩ : ∃ t : Nat, t = (Tr.list 9 X.nq (fun i => trs (xlT (X.qf i)))).sz := ⟨_, rfl⟩
 obtain ⟨t2, ht2⟩ : ∃ t : Nat, t = szT 9 (trs (xlT X.c)) := ⟨_, rfl⟩
 obtain ⟨W, hW⟩ : ∃ W, W = w.alloc (.cells (xnL X a1 l1 c1 a2 l2 c2 a3 l3 c3).toArray 131) := ⟨_, rfl⟩
 have H0 : Hid (Below w.heap.size w W /\ Blk W w.heap.size 131 (xnL X a1 l1 c1 a2 l2 c2 a3 l3 c3).toArray /\ szT 17 (trs (xnT X)) = t1 + t2 /\ Rd w 0 (.list 9 X.nq (fun i => trs (xlT (X.qf i)))) (.slice a1 l1 c1) /\ Rd w 0 (intsT X.c.q.ws) (.slice a2 l2 c2) /\ Rd w 0 (boolsT X.c.q.bs) (.slice a3 l3 c3)) := ⟨by rw [hW]; exact bel_alloc _ _, by rw [hW]; exact Blk.new _ _ _, by rw [HT.out]; omega, r1, r2, r3⟩
 have K1 : Hid (t1 = (Tr.list 9 X.nq (fun i => trs (xlT (X.qf i)))).sz) := ht1
 have K2 : Hid (t2 = szT 9 (trs (xlT X.c))) := ht2
 clear HT r1 r2 r3 ht1 ht2
 go_enter Try.func47, Try.ntmps47
 go_upto_region 1 with fail
 rw [<- hW]
 clear hW
 have G0 : Hid (Below w.heap.size w W /\ Blk W w.heap.size 131 (xnL X a1 l1 c1 a2 l2 c2 a3 l3 c3).toArray) := ⟨H0.out.1, H0.out.2.1⟩
 have Q0 : Hid (left <= 1048576 /\ left = left) := ⟨hl, rfl⟩
 obtain ⟨⟨y0, y1, y2, y3, y4, y5, y6, y7, y8, y9, y10, y11, y12, y13, y14, y15, y16⟩, yf⟩ := G0.out.2.tc17
 clear yf
 by_cases g1 : t1 <= left
 rotate_left
 ·have E : Hid (lfT left ((Tr.list 9 X.nq (fun i => trs (xlT (X.qf i)))).sz) = -1 /\ lfT left (szT 17 (trs (xnT X))) = -1) := by
   have h9 := Q0.out.2
   have h8 := H0.out.2.2.1
   refine ⟨?_, ?_⟩
   ·rw [<- K1.out]; unfold lfT; rw [if_neg g1]
   rw [h8]; unfold lfT; rw [if_neg (by omega)]
  go_wp2_with fail
  refine (szCallS_t X.nq X.qf a1 l1 c1 left _ (H0.out.2.2.2.1.below G0.out.1) Q0.out.1).mono ?_
  rintro e w9 ⟨rfl, b9⟩
  rw [E.out.1]
  have B9 := bel_nx G0.out.1 b9
  clear b9 y0 y1 y2 y3 y4 y5 y6 y7 y8 y9 y10 y11 y12 y13 y14 y15 y16
  go_wp2
  go_ret
  exact ⟨by rw [E.out.2]; rfl, B9⟩
 obtain ⟨L1, hL1⟩ : ∃ m : Nat, m + t1 = left := ⟨left - t1, by omega⟩
 have E1 : Hid (lfT left ((Tr.list 9 X.nq (fun i => trs (xlT (X.qf i)))).sz) = (L1 : Int)) := by
  show _ = _
  rw [<- K1.out]; unfold lfT; rw [if_pos g1]; omega
 have n1 : ¬ ((L1 : Int) < 0) := by omega
 have Q1 : Hid (L1 <= 1048576 /\ L1 + t1 = left) := by
  have h9 := Q0.out
  exact ⟨by omega, by omega⟩
 clear hL1 g1
 go_wp2_with fail
 refine (szCallS_t X.nq X.qf a1 l1 c1 left _ (H0.out.2.2.2.1.below G0.out.1) Q0.out.1).mono ?_
 rintro e w1 ⟨rfl, b1⟩
 rw [E1.out]
 have G1 : Hid (Below w.heap.size w w1 /\ Blk w1 w.heap.size 131 (xnL X a1 l1 c1 a2 l2 c2 a3 l3 c3).toArray) := ⟨bel_nx G0.out.1 b1, G0.out.2.below b1⟩
 clear b1 y0 y1 y2 y3 y4 y5 y6 y7 y8 y9 y10 y11 y12 y13 y14 y15 y16
 obtain ⟨⟨y0, y1, y2, y3, y4, y5, y6, y7, y8, y9, y10, y11, y12, y13, y14, y15, y16⟩, yf⟩ := G1.out.2.tc17
 clear yf
 by_cases g2 : t2 <= L1
 rotate_left
 ·have E : Hid (lfT L1 (szT 9 (trs (xlT X.c))) = -1 /\ lfT left (szT 17 (trs (xnT X))) = -1) := by
   have h9 := Q1.out.2
   have h8 := H0.out.2.2.1
   refine ⟨?_, ?_⟩
   ·rw [<- K2.out]; unfold lfT; rw [if_neg g2]
   rw [h8]; unfold lfT; rw [if_neg (by omega)]
  go_wp2_with fail
  refine (szCall_t X.c a2 l2 c2 a3 l3 c3 L1 _ (H0.out.2.2.2.2.1.below G1.out.1) (H0.out.2.2.2.2.2.below G1.out.1) Q1.out.1).mono ?_
  rintro e w9 ⟨rfl, b9⟩
  rw [E.out.1]
  have B9 := bel_nx G1.out.1 b9
  clear b9 y0 y1 y2 y3 y4 y5 y6 y7 y8 y9 y10 y11 y12 y13 y14 y15 y16
  go_wp2
  go_ret
  exact ⟨by rw [E.out.2]; rfl, B9⟩
 obtain ⟨L2, hL2⟩ : ∃ m : Nat, m + t2 = L1 := ⟨L1 - t2, by omega⟩
 have E2 : Hid (lfT L1 (szT 9 (trs (xlT X.c))) = (L2 : Int)) := by
  show _ = _
  rw [<- K2.out]; unfold lfT; rw [if_pos g2]; omega
 have n2 : ¬ ((L2 : Int) < 0) := by omega
 have Q2 : Hid (L2 <= 1048576 /\ L2 + t1 + t2 = left) := by
  have h9 := Q1.out
  exact ⟨by omega, by omega⟩
 clear hL2 g2
 go_wp2_with fail
 refine (szCall_t X.c a2 l2 c2 a3 l3 c3 L1 _ (H0.out.2.2.2.2.1.below G1.out.1) (H0.out.2.2.2.2.2.below G1.out.1) Q1.out.1).mono ?_
 rintro e w2 ⟨rfl, b2⟩
 rw [E2.out]
 have G2 : Hid (Below w.heap.size w w2 /\ Blk w2 w.heap.size 131 (xnL X a1 l1 c1 a2 l2 c2 a3 l3 c3).toArray) := ⟨bel_nx G1.out.1 b2, G1.out.2.below b2⟩
 clear b2 y0 y1 y2 y3 y4 y5 y6 y7 y8 y9 y10 y11 y12 y13 y14 y15 y16
 have E : Hid (lfT left (szT 17 (trs (xnT X))) = (L2 : Int)) := by
  have h9 := Q2.out.2
  have h8 := H0.out.2.2.1
  show _ = _
  rw [h8]; unfold lfT; rw [if_pos (by omega)]; omega
 go_wp2
 go_ret
 exact ⟨by rw [E.out]; rfl, G2.out.1⟩
theorem szLineS_t (n : Nat) (f : Nat -> VN) (a : Option Addr) (n' cap : Nat) (left : Nat) (w : World) (hs : Rd w 0 (.list 17 n (fun k => trs (xnT (f k)))) (.slice a n' cap)) (hl : left <= 1048576) :
 Calls Try.prog 26 #[.slice a n' cap, .int .i64 (left : Int)] w fun e w' => e = .returned (.int .i64 (lfT left (Tr.list 17 n (fun k => trs (xnT (f k)))).sz)) /\ Below w.heap.size w w' := by
 obtain ⟨a9, c9, h9, -, hn⟩ := hs.shape
 simp only [Value.slice.injEq] at h9
 obtain ⟨-, rfl, -⟩ := h9
 clear a9 c9
 unfold maxLen at hn
 have w1 : IntKind.i64.wrap ((left : Int) - (n' : Int)) = (left : Int) - (n' : Int) := by rw [IntKind.wrap_i64]; omega
 obtain ⟨g, hg⟩ : ∃ g : Nat -> Nat, g = fun k => szT 17 (trs (xnT (f k))) := ⟨_, rfl⟩
 have HT : Hid ((Tr.list 17 n' (fun k => trs (xnT (f k)))).sz = n' + sumN n' g) := by show _ = _; rw [hg]; exact Tr.sz_list _ _ _
 have HG : Hid (∀ k, g k = szT 17 (trs (xnT (f k)))) := by show ∀ k, g k = _; intro k; rw [hg]
 clear hg
 by_cases h0 : n' <= left
 ·have h1 : ¬ ((left : Int) - (n' : Int) < 0) := by omega
  have HS : Hid (Rd w 0 (.list 17 n' (fun k => trs (xnT (f k)))) (.slice a n' cap)) := hs
  have HL : Hid (left <= 1048576) := hl
  clear hs hn
  go_enter Try.func26, Try.ntmps26
  go_wp2
  go_loopw [1, 5] (fun lv i wr => ∃ k : Nat, k <= n' /\ i = .int .i64 k /\ n' + sumN k g <= left /\ lv = .int .i64 ((left : Int) - (n' : Int) - (sumN k g : Int)) /\ Below w.heap.size w wr) (fun _ i _ => n' - (intOf i).toNat)
  case atStart => exact ⟨0, Nat.zero_le _, rfl, by simp [sumN]; omega, by simp [sumN], Below.refl _ _⟩
  case round =>
   obtain ⟨k, hk, rfl, ht, rfl, hb⟩ := hrel
   by_cases hlt : k < n'
   ·have hi : (k : Int) < (n' : Int) := by omega
    obtain ⟨b, off, vs, rfl, _, hb0, hlen, hr, hrd⟩ := (HS.out.below hb).at hlt
    obtain ⟨a1, c1, a2, c2, a3, c3, rfl, r1, r2, r3⟩ := VN.cells hrd hlen
    clear hlen hrd
    have d0 : wr.cell? ⟨b, off + k * 17, none⟩ = _ := hr 0 _ rfl
    have d1 : wr.cell? ⟨b, off + k * 17 + 1, none⟩ = _ := hr 1 _ rfl
    have d2 : wr.cell? ⟨b, off + k * 17 + 2, none⟩ = _ := hr 2 _ rfl
    have d3 : wr.cell? ⟨b, off + k * 17 + 3, none⟩ = _ := hr 3 _ rfl
    have d4 : wr.cell? ⟨b, off + k * 17 + 4, none⟩ = _ := hr 4 _ rfl
    have d5 : wr.cell? ⟨b, off + k * 17 + 5, none⟩ = _ := hr 5 _ rfl
    have d6 : wr.cell? ⟨b, off + k * 17 + 6, none⟩ = _ := hr 6 _ rfl
    have d7 : wr.cell? ⟨b, off + k * 17 + 7, none⟩ = _ := hr 7 _ rfl
    have d8 : wr.cell? ⟨b, off + k * 17 + 8, none⟩ = _ := hr 8 _ rfl
    have d9 : wr.cell? ⟨b, off + k * 17 + 9, none⟩ = _ := hr 9 _ rfl
    have d10 : wr.cell? ⟨b, off + k * 17 + 10, none⟩ = _ := hr 10 _ rfl
    have d11 : wr.cell? ⟨b, off + k * 17 + 11, none⟩ = _ := hr 11 _ rfl
    have d12 : wr.cell? ⟨b, off + k * 17 + 12, none⟩ = _ := hr 12 _ rfl
    have d13 : wr.cell? ⟨b, off + k * 17 + 13, none⟩ = _ := hr 13 _ rfl
    have d14 : wr.cell? ⟨b, off + k * 17 + 14, none⟩ = _ := hr 14 _ rfl
    have d15 : wr.cell? ⟨b, off + k * 17 + 15, none⟩ = _ := hr 15 _ rfl
    have d16 : wr.cell? ⟨b, off + k * 17 + 16, none⟩ = _ := hr 16 _ rfl
    obtain ⟨lf, hlf⟩ : ∃ lf : Nat, (lf : Int) = (left : Int) - (n' : Int) - (sumN k g : Int) := ⟨left - n' - sumN k g, by omega⟩
    rw [<- hlf]
    obtain ⟨x, hx⟩ : ∃ x, x = g k := ⟨_, rfl⟩
    have HK : Hid ((lf : Int) = (left : Int) - (n' : Int) - (sumN k g : Int) /\ lf <= 1048576 /\ sumN (k + 1) g = sumN k g + x /\ Below w.heap.size w wr /\ x = szT 17 (trs (xnT (f k))) /\ Rd wr 0 (.list 9 (f k).nq (fun i => trs (xlT ((f k).qf i)))) (.slice a1 ((f k).nq) c1) /\ Rd wr 0 (intsT (f k).c.q.ws) (.slice a2 ((f k).c.q.ws.length) c2) /\ Rd wr 0 (boolsT (f k).c.q.bs) (.slice a3 ((f k).c.q.bs.length) c3)) := ⟨hlf, by have := HL.out; omega, by rw [hx]; rfl, hb, by rw [hx]; exact HG.out k, r1, r2, r3⟩
    clear hlf hb HS hx hr hb0 r1 r2 r3
    by_cases hf : x <= lf
    ·obtain ⟨lg, hlg⟩ : ∃ m : Nat, m + x = lf := ⟨lf - x, by omega⟩
     have hx0 : ¬ ((lg : Int) < 0) := by omega
     have HF : Hid (lfT lf (szT 17 (trs (xnT (f k)))) = (lg : Int) /\ (lg : Int) = (left : Int) - (n' : Int) - (sumN (k + 1) g : Int) /\ n' + sumN (k + 1) g <= left) := by
      have h9 := HK.out
      refine ⟨?_, ?_, ?_⟩
      ·rw [<- h9.2.2.2.2.1]; unfold lfT; rw [if_pos hf]; omega
      ·omega
      omega
     clear ht hf hlg
     go_wp2_with fail
     refine (szLine_t (f k) a1 ((f k).nq) c1 a2 ((f k).c.q.ws.length) c2 a3 ((f k).c.q.bs.length) c3 lf _ HK.out.2.2.2.2.2.1 HK.out.2.2.2.2.2.2.1 HK.out.2.2.2.2.2.2.2 HK.out.2.1).mono ?_
     rintro e w2 ⟨rfl, b2⟩
     rw [HF.out.1]
     have HB : Hid (Below w.heap.size w w2) := bel_nx HK.out.2.2.2.1 b2
     clear b2 d0 d1 d2 d3 d4 d5 d6 d7 d8 d9 d10 d11 d12 d13 d14 d15 d16
     go_wp2
     go_roundw
     case rel => exact ⟨k + 1, by omega, by go_num, HF.out.2.2, by rw [HF.out.2.1], HB.out⟩
     case measure => simp [intOf]; omega
    have HF : Hid (lfT lf (szT 17 (trs (xnT (f k)))) = -1 /\ lfT left (Tr.list 17 n' (fun k => trs (xnT (f k)))).sz = -1) := by
     have h9 := HK.out
     have h8 := sumN_mono g (show k + 1 <= n' by omega)
     have h7 := HT.out
     refine ⟨?_, ?_⟩
     ·rw [<- h9.2.2.2.2.1]; unfold lfT; rw [if_neg hf]
     rw [h7]; unfold lfT; rw [if_neg (by omega)]
    clear ht hf
    go_wp2_with fail
    refine (szLine_t (f k) a1 ((f k).nq) c1 a2 ((f k).c.q.ws.length) c2 a3 ((f k).c.q.bs.length) c3 lf _ HK.out.2.2.2.2.2.1 HK.out.2.2.2.2.2.2.1 HK.out.2.2.2.2.2.2.2 HK.out.2.1).mono ?_
    rintro e w2 ⟨rfl, b2⟩
    rw [HF.out.1]
    have HB : Hid (Below w.heap.size w w2) := bel_nx HK.out.2.2.2.1 b2
    clear b2 d0 d1 d2 d3 d4 d5 d6 d7 d8 d9 d10 d11 d12 d13 d14 d15 d16
    go_wp2
    go_ret
    exact ⟨(by rw [HF.out.2]; rfl), HB.out⟩
   have hi : ¬ (k : Int) < (n' : Int) := by omega
   have e9 : k = n' := by omega
   subst e9
   have HE : Hid (lfT left (Tr.list 17 k (fun k => trs (xnT (f k)))).sz = (left : Int) - (k : Int) - (sumN k g : Int)) := by
    show _ = _
    rw [HT.out]; unfold lfT; rw [if_pos ht]; omega
   clear ht
   go_wp2
   go_ret
   exact ⟨(by rw [HE.out]; rfl), hb⟩
 have h1 : (left : Int) - (n' : Int) < 0 := by omega
 have HE : Hid (lfT left (Tr.list 17 n' (fun k => trs (xnT (f k)))).sz = -1) := by
  show _ = _
  rw [HT.out]; unfold lfT; rw [if_neg (by omega)]
 clear hs hn hl
 go_enter Try.func26, Try.ntmps26
 go_wp2
 go_ret
 exact ⟨(by rw [HE.out]; rfl), Below.refl _ _⟩
theorem szFabric_t (X : VF) (a1 : Option Addr) (l1 c1 : Nat) (a2 : Option Addr) (l2 c2 : Nat) (a3 : Option Addr) (l3 c3 : Nat) (left : Nat) (w : World) (r1 : Rd w 0 (.list 7 X.set.n (fun i => trs (xrT (X.set.f i)))) (.slice a1 l1 c1)) (r2 : Rd w 0 (.list 13 X.op.m (fun i => trs (dT (X.op.f i)))) (.slice a2 l2 c2)) (r3 : Rd w 0 (.list 17 X.nl (fun i => trs (xnT (X.lf i)))) (.slice a3 l3 c3)) (hl : left <= 1048576) :
 Calls Try.prog 9 #[.agg (xfL X a1 l1 c1 a2 l2 c2 a3 l3 c3).toArray, .int .i64 (left : Int)] w fun e w' => e = .returned (.int .i64 (lfT left (szT 11 (trs (xfT X))))) /\ Below w.heap.size w w' := by
 have HT : Hid (szT 11 (trs (xfT X)) = szT 3 (trs (xcT X.set)) + szT 2 (trs (tT X.op)) + (Tr.list 17 X.nl (fun i => trs (xnT (X.lf i)))).sz) := by
  show _ = _
  simp only [szT_xf, szT_xc, szT_t]
  try omega
 obtain ⟨t1, ht1⟩ : ∃ t : Nat, t = szT 3 (trs (xcT X.set)) := ⟨_, rfl⟩
 obtain ⟨t2, ht2⟩ : ∃ t : Nat, t = szT 2 (trs (tT X.op)) := ⟨_, rfl⟩
 obtain ⟨t3, ht3⟩ : ∃ t : Nat, t = (Tr.list 17 X.nl (fun i => trs (xnT (X.lf i)))).sz := ⟨_, rfl⟩
 obtain ⟨W, hW⟩ : ∃ W, W = w.alloc (.cells (xfL X a1 l1 c1 a2 l2 c2 a3 l3 c3).toArray 30) := ⟨_, rfl⟩
 have H0 : Hid (Below w.heap.size w W /\ Blk W w.heap.size 30 (xfL X a1 l1 c1 a2 l2 c2 a3 l3 c3).toArray /\ szT 11 (trs (xfT X)) = t1 + t2 + t3 /\ Rd w 0 (.list 7 X.set.n (fun i => trs (xrT (X.set.f i)))) (.slice a1 l1 c1) /\ Rd w 0 (.list 13 X.op.m (fun i => trs (dT (X.op.f i)))) (.slice a2 l2 c2) /\ Rd w 0 (.list 17 X.nl (fun i => trs (xnT (X.lf i)))) (.slice a3 l3 c3)) := ⟨by rw [hW]; exact bel_alloc _ _, by rw [hW]; exact Blk.new _ _ _, by rw [HT.out]; omega, r1, r2, r3⟩
 have K1 : Hid (t1 = szT 3 (trs (xcT X.set))) := ht1
 have K2 : Hid (t2 = szT 2 (trs (tT X.op))) := ht2
 have K3 : Hid (t3 = (Tr.list 17 X.nl (fun i => trs (xnT (X.lf i)))).sz) := ht3
 clear HT r1 r2 r3 ht1 ht2 ht3
 go_enter Try.func9, Try.ntmps9
 go_upto_region 1 with fail
 rw [<- hW]
 clear hW
 have G0 : Hid (Below w.heap.size w W /\ Blk W w.heap.size 30 (xfL X a1 l1 c1 a2 l2 c2 a3 l3 c3).toArray) := ⟨H0.out.1, H0.out.2.1⟩
 have Q0 : Hid (left <= 1048576 /\ left = left) := ⟨hl, rfl⟩
 obtain ⟨⟨y0, y1, y2, y3, y4, y5, y6, y7, y8, y9, y10⟩, yf⟩ := G0.out.2.tc11
 clear yf
 by_cases g1 : t1 <= left
 rotate_left
 ·have E : Hid (lfT left (szT 3 (trs (xcT X.set))) = -1 /\ lfT left (szT 11 (trs (xfT X))) = -1) := by
   have h9 := Q0.out.2
   have h8 := H0.out.2.2.1
   refine ⟨?_, ?_⟩
   ·rw [<- K1.out]; unfold lfT; rw [if_neg g1]
   rw [h8]; unfold lfT; rw [if_neg (by omega)]
  go_wp2_with fail
  refine (szConfig_t X.set a1 l1 c1 left _ (H0.out.2.2.2.1.below G0.out.1) Q0.out.1).mono ?_
  rintro e w9 ⟨rfl, b9⟩
  rw [E.out.1]
  have B9 := bel_nx G0.out.1 b9
  clear b9 y0 y1 y2 y3 y4 y5 y6 y7 y8 y9 y10
  go_wp2
  go_ret
  exact ⟨by rw [E.out.2]; rfl, B9⟩
 obtain ⟨L1, hL1⟩ : ∃ m : Nat, m + t1 = left := ⟨left - t1, by omega⟩
 have E1 : Hid (lfT left (szT 3 (trs (xcT X.set))) = (L1 : Int)) := by
  show _ = _
  rw [<- K1.out]; unfold lfT; rw [if_pos g1]; omega
 have n1 : ¬ ((L1 : Int) < 0) := by omega
 have Q1 : Hid (L1 <= 1048576 /\ L1 + t1 = left) := by
  have h9 := Q0.out
  exact ⟨by omega, by omega⟩
 clear hL1 g1
 go_wp2_with fail
 refine (szConfig_t X.set a1 l1 c1 left _ (H0.out.2.2.2.1.below G0.out.1) Q0.out.1).mono ?_
 rintro e w1 ⟨rfl, b1⟩
 rw [E1.out]
 have G1 : Hid (Below w.heap.size w w1 /\ Blk w1 w.heap.size 30 (xfL X a1 l1 c1 a2 l2 c2 a3 l3 c3).toArray) := ⟨bel_nx G0.out.1 b1, G0.out.2.below b1⟩
 clear b1 y0 y1 y2 y3 y4 y5 y6 y7 y8 y9 y10
 obtain ⟨⟨y0, y1, y2, y3, y4, y5, y6, y7, y8, y9, y10⟩, yf⟩ := G1.out.2.tc11
 clear yf
 by_cases g2 : t2 <= L1
 rotate_left
 ·have E : Hid (lfT L1 (szT 2 (trs (tT X.op))) = -1 /\ lfT left (szT 11 (trs (xfT X))) = -1) := by
   have h9 := Q1.out.2
   have h8 := H0.out.2.2.1
   refine ⟨?_, ?_⟩
   ·rw [<- K2.out]; unfold lfT; rw [if_neg g2]
   rw [h8]; unfold lfT; rw [if_neg (by omega)]
  go_wp2_with fail
  refine (szTable_t X.op a2 l2 c2 L1 _ (H0.out.2.2.2.2.1.below G1.out.1) Q1.out.1).mono ?_
  rintro e w9 ⟨rfl, b9⟩
  rw [E.out.1]
  have B9 := bel_nx G1.out.1 b9
  clear b9 y0 y1 y2 y3 y4 y5 y6 y7 y8 y9 y10
  go_wp2
  go_ret
  exact ⟨by rw [E.out.2]; rfl, B9⟩
 obtain ⟨L2, hL2⟩ : ∃ m : Nat, m + t2 = L1 := ⟨L1 - t2, by omega⟩
 have E2 : Hid (lfT L1 (szT 2 (trs (tT X.op))) = (L2 : Int)) := by
  show _ = _
  rw [<- K2.out]; unfold lfT; rw [if_pos g2]; omega
 have n2 : ¬ ((L2 : Int) < 0) := by omega
 have Q2 : Hid (L2 <= 1048576 /\ L2 + t1 + t2 = left) := by
  have h9 := Q1.out
  exact ⟨by omega, by omega⟩
 clear hL2 g2
 go_wp2_with fail
 refine (szTable_t X.op a2 l2 c2 L1 _ (H0.out.2.2.2.2.1.below G1.out.1) Q1.out.1).mono ?_
 rintro e w2 ⟨rfl, b2⟩
 rw [E2.out]
 have G2 : Hid (Below w.heap.size w w2 /\ Blk w2 w.heap.size 30 (xfL X a1 l1 c1 a2 l2 c2 a3 l3 c3).toArray) := ⟨bel_nx G1.out.1 b2, G1.out.2.below b2⟩
 clear b2 y0 y1 y2 y3 y4 y5 y6 y7 y8 y9 y10
 obtain ⟨⟨y0, y1, y2, y3, y4, y5, y6, y7, y8, y9, y10⟩, yf⟩ := G2.out.2.tc11
 clear yf
 by_cases g3 : t3 <= L2
 rotate_left
 ·have E : Hid (lfT L2 ((Tr.list 17 X.nl (fun i => trs (xnT (X.lf i)))).sz) = -1 /\ lfT left (szT 11 (trs (xfT X))) = -1) := by
   have h9 := Q2.out.2
   have h8 := H0.out.2.2.1
   refine ⟨?_, ?_⟩
   ·rw [<- K3.out]; unfold lfT; rw [if_neg g3]
   rw [h8]; unfold lfT; rw [if_neg (by omega)]
  go_wp2_with fail
  refine (szLineS_t X.nl X.lf a3 l3 c3 L2 _ (H0.out.2.2.2.2.2.below G2.out.1) Q2.out.1).mono ?_
  rintro e w9 ⟨rfl, b9⟩
  rw [E.out.1]
  have B9 := bel_nx G2.out.1 b9
  clear b9 y0 y1 y2 y3 y4 y5 y6 y7 y8 y9 y10
  go_wp2
  go_ret
  exact ⟨by rw [E.out.2]; rfl, B9⟩
 obtain ⟨L3, hL3⟩ : ∃ m : Nat, m + t3 = L2 := ⟨L2 - t3, by omega⟩
 have E3 : Hid (lfT L2 ((Tr.list 17 X.nl (fun i => trs (xnT (X.lf i)))).sz) = (L3 : Int)) := by
  show _ = _
  rw [<- K3.out]; unfold lfT; rw [if_pos g3]; omega
 have n3 : ¬ ((L3 : Int) < 0) := by omega
 have Q3 : Hid (L3 <= 1048576 /\ L3 + t1 + t2 + t3 = left) := by
  have h9 := Q2.out
  exact ⟨by omega, by omega⟩
 clear hL3 g3
 go_wp2_with fail
 refine (szLineS_t X.nl X.lf a3 l3 c3 L2 _ (H0.out.2.2.2.2.2.below G2.out.1) Q2.out.1).mono ?_
 rintro e w3 ⟨rfl, b3⟩
 rw [E3.out]
 have G3 : Hid (Below w.heap.size w w3 /\ Blk w3 w.heap.size 30 (xfL X a1 l1 c1 a2 l2 c2 a3 l3 c3).toArray) := ⟨bel_nx G2.out.1 b3, G2.out.2.below b3⟩
 clear b3 y0 y1 y2 y3 y4 y5 y6 y7 y8 y9 y10
 have E : Hid (lfT left (szT 11 (trs (xfT X))) = (L3 : Int)) := by
  have h9 := Q3.out.2
  have h8 := H0.out.2.2.1
  show _ = _
  rw [h8]; unfold lfT; rw [if_pos (by omega)]; omega
 go_wp2
 go_ret
 exact ⟨by rw [E.out]; rfl, G3.out.1⟩
end Go.Proofs.Ytplaoagcedgdfaa
