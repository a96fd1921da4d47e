/- Texts that the proof needs, joined: Tr11. -/
import Derived.Test.YtpgcankjhkchjaaGreatV2
import Derived.Test.YtpgcankjhkchjaaGreatV4
import Derived.Test.YtpgcankjhkchjaaGreatV5
namespace Go.Proofs.YtpgcankjhkchjaaGreat
open Go.RowKit Go.Joins
set_option linter.unusedVariables false
set_option linter.unusedSimpArgs false
theorem Ru.back {w : World} {lo : Nat} {X : Ru} : RdL w lo (trs (xrT X)) (rul X) := by
  refine RdL.mk (fun j v t hv ht => ?_) (by simp [xrT])
  match j, hv, ht with
  | 0, hv, ht =>
    obtain rfl := Option.some.inj (show some _ = some v from hv)
    obtain rfl := Option.some.inj (show some _ = some t from ht)
    exact rfl
  | 1, hv, ht =>
    obtain rfl := Option.some.inj (show some _ = some v from hv)
    obtain rfl := Option.some.inj (show some _ = some t from ht)
    exact rfl
  | 2, hv, ht =>
    obtain rfl := Option.some.inj (show some _ = some v from hv)
    obtain rfl := Option.some.inj (show some _ = some t from ht)
    exact rfl
  | 3, hv, ht =>
    obtain rfl := Option.some.inj (show some _ = some v from hv)
    obtain rfl := Option.some.inj (show some _ = some t from ht)
    exact rfl
  | 4, hv, ht =>
    obtain rfl := Option.some.inj (show some _ = some v from hv)
    obtain rfl := Option.some.inj (show some _ = some t from ht)
    exact rfl
  | 5, hv, ht =>
    obtain rfl := Option.some.inj (show some _ = some v from hv)
    obtain rfl := Option.some.inj (show some _ = some t from ht)
    exact rfl
  | 6, hv, ht =>
    obtain rfl := Option.some.inj (show some _ = some v from hv)
    obtain rfl := Option.some.inj (show some _ = some t from ht)
    exact rfl
  | j + 7, hv, ht => simp at hv
theorem ruS_sz (n : Nat) (f : Nat → Ru) : (Tr.list 7 n (fun k => trs (xrT (f k)))).sz = n := by
  rw [Tr.sz_list, sum0 _ _ (fun k => szT_xr (f k)), Nat.add_zero]
theorem szRuleS_t (n : Nat) (f : Nat → Ru) (a : Option Addr) (n' cap : Nat) (left : Nat) (w : World) (hs : Rd w 0 (.list 7 n (fun k => trs (xrT (f k)))) (.slice a n' cap)) (hl : left ≤ 1048576) :
    Calls Tryz.prog 13 #[.slice a n' cap, .int .i64 (left : Int)] w fun e w' => e = .returned (.int .i64 (lfT left (Tr.list 7 n (fun k => trs (xrT (f k)))).sz)) ∧ Below w.heap.size w w' := by
  rw [ruS_sz]
  obtain ⟨rfl, -⟩ := hs.slu
  obtain ⟨_, _, h9, -, hm⟩ := hs.shape
  by_cases h : n' ≤ left
  · refine (szRuleS_fits a n' cap left w h hl).mono ?_
    rintro e w' ⟨rfl, rfl⟩
    exact ⟨by unfold lfT; rw [if_pos h]; exact congrArg _ (congrArg _ (by omega)), Below.refl _ _⟩
  · refine (szRuleS_big a n' cap left w hm h hl).mono ?_
    rintro e w' ⟨rfl, rfl⟩
    exact ⟨by unfold lfT; rw [if_neg h], Below.refl _ _⟩
theorem Blk.tc4 {w : World} {g : Nat} {t : TypeId} {v0 v1 v2 v3 : Value} (h : Blk w g t #[v0, v1, v2, v3]) : (w.cell? ⟨g, 0, none⟩ = some v0 ∧ w.cell? ⟨g, 1, none⟩ = some v1 ∧ w.cell? ⟨g, 2, none⟩ = some v2 ∧ w.cell? ⟨g, 3, none⟩ = some v3) ∧ ∀ j, w.frozen? ⟨g, j, none⟩ = false :=
  ⟨⟨h.cell 0 rfl, h.cell 1 rfl, h.cell 2 rfl, h.cell 3 rfl⟩, h.fro⟩
theorem Blk.tc15 {w : World} {g : Nat} {t : TypeId} {v0 v1 v2 v3 v4 v5 v6 v7 v8 v9 v10 v11 v12 v13 v14 : Value} (h : Blk w g t #[v0, v1, v2, v3, v4, v5, v6, v7, v8, v9, v10, v11, v12, v13, v14]) : (w.cell? ⟨g, 0, none⟩ = some v0 ∧ w.cell? ⟨g, 1, none⟩ = some v1 ∧ w.cell? ⟨g, 2, none⟩ = some v2 ∧ w.cell? ⟨g, 3, none⟩ = some v3 ∧ w.cell? ⟨g, 4, none⟩ = some v4 ∧ w.cell? ⟨g, 5, none⟩ = some v5 ∧ w.cell? ⟨g, 6, none⟩ = some v6 ∧ w.cell? ⟨g, 7, none⟩ = some v7 ∧ w.cell? ⟨g, 8, none⟩ = some v8 ∧ w.cell? ⟨g, 9, none⟩ = some v9 ∧ w.cell? ⟨g, 10, none⟩ = some v10 ∧ w.cell? ⟨g, 11, none⟩ = some v11 ∧ w.cell? ⟨g, 12, none⟩ = some v12 ∧ w.cell? ⟨g, 13, none⟩ = some v13 ∧ w.cell? ⟨g, 14, none⟩ = some v14) ∧ ∀ j, w.frozen? ⟨g, j, none⟩ = false :=
  ⟨⟨h.cell 0 rfl, h.cell 1 rfl, h.cell 2 rfl, h.cell 3 rfl, h.cell 4 rfl, h.cell 5 rfl, h.cell 6 rfl, h.cell 7 rfl, h.cell 8 rfl, h.cell 9 rfl, h.cell 10 rfl, h.cell 11 rfl, h.cell 12 rfl, h.cell 13 rfl, h.cell 14 rfl⟩, h.fro⟩
theorem Blk.tc16 {w : World} {g : Nat} {t : TypeId} {v0 v1 v2 v3 v4 v5 v6 v7 v8 v9 v10 v11 v12 v13 v14 v15 : Value} (h : Blk w g t #[v0, v1, v2, v3, v4, v5, v6, v7, v8, v9, v10, v11, v12, v13, v14, v15]) : (w.cell? ⟨g, 0, none⟩ = some v0 ∧ w.cell? ⟨g, 1, none⟩ = some v1 ∧ w.cell? ⟨g, 2, none⟩ = some v2 ∧ w.cell? ⟨g, 3, none⟩ = some v3 ∧ w.cell? ⟨g, 4, none⟩ = some v4 ∧ w.cell? ⟨g, 5, none⟩ = some v5 ∧ w.cell? ⟨g, 6, none⟩ = some v6 ∧ w.cell? ⟨g, 7, none⟩ = some v7 ∧ w.cell? ⟨g, 8, none⟩ = some v8 ∧ w.cell? ⟨g, 9, none⟩ = some v9 ∧ w.cell? ⟨g, 10, none⟩ = some v10 ∧ w.cell? ⟨g, 11, none⟩ = some v11 ∧ w.cell? ⟨g, 12, none⟩ = some v12 ∧ w.cell? ⟨g, 13, none⟩ = some v13 ∧ w.cell? ⟨g, 14, none⟩ = some v14 ∧ w.cell? ⟨g, 15, none⟩ = some v15) ∧ ∀ j, w.frozen? ⟨g, j, none⟩ = false :=
  ⟨⟨h.cell 0 rfl, h.cell 1 rfl, h.cell 2 rfl, h.cell 3 rfl, h.cell 4 rfl, h.cell 5 rfl, h.cell 6 rfl, h.cell 7 rfl, h.cell 8 rfl, h.cell 9 rfl, h.cell 10 rfl, h.cell 11 rfl, h.cell 12 rfl, h.cell 13 rfl, h.cell 14 rfl, h.cell 15 rfl⟩, h.fro⟩
set_option maxRecDepth 20000 in
set_option maxHeartbeats 2000000 in
theorem szConfig_t (X : VC) (a1 : Option Addr) (l1 c1 : Nat) (left : Nat) (w : World) (r1 : Rd w 0 (.list 7 X.n (fun i => trs (xrT (X.f i)))) (.slice a1 l1 c1)) (hl : left ≤ 1048576) :
    Calls Tryz.prog 30 #[.agg (xcL X a1 l1 c1).toArray, .int .i64 (left : Int)] w fun e w' => e = .returned (.int .i64 (lfT left (szT 3 (trs (xcT X))))) ∧ Below w.heap.size w w' := by
  have HT : Hid (szT 3 (trs (xcT X)) = (Tr.list 7 X.n (fun i => trs (xrT (X.f i)))).sz) := by
    show _ = _
    simp only [szT_xc]
    try omega
  obtain ⟨t1, ht1⟩ : ∃ t : Nat, t = (Tr.list 7 X.n (fun i => trs (xrT (X.f i)))).sz := ⟨_, rfl⟩
  obtain ⟨W, hW⟩ : ∃ W, W = w.alloc (.cells (xcL X a1 l1 c1).toArray 24) := ⟨_, rfl⟩
  have H0 : Hid (Below w.heap.size w W ∧ Blk W w.heap.size 24 (xcL X a1 l1 c1).toArray ∧ szT 3 (trs (xcT X)) = t1 ∧ Rd w 0 (.list 7 X.n (fun i => trs (xrT (X.f i)))) (.slice a1 l1 c1)) := ⟨by rw [hW]; exact bel_alloc _ _, by rw [hW]; exact Blk.new _ _ _, by rw [HT.out]; omega, r1⟩
  have K1 : Hid (t1 = (Tr.list 7 X.n (fun i => trs (xrT (X.f i)))).sz) := ht1
  clear HT r1 ht1
  go_enter Tryz.func30, Tryz.ntmps30
  go_upto_region 1 with fail
  rw [← hW]
  clear hW
  have G0 : Hid (Below w.heap.size w W ∧ Blk W w.heap.size 24 (xcL X a1 l1 c1).toArray) := ⟨H0.out.1, H0.out.2.1⟩
  have Q0 : Hid (left ≤ 1048576 ∧ left = left) := ⟨hl, rfl⟩
  obtain ⟨⟨y0, y1, y2⟩, yf⟩ := G0.out.2.tc3
  clear yf
  by_cases g1 : t1 ≤ left
  rotate_left
  · have E : Hid (lfT left ((Tr.list 7 X.n (fun i => trs (xrT (X.f i)))).sz) = -1 ∧ lfT left (szT 3 (trs (xcT X))) = -1) := by
      have h9 := Q0.out.2
      have h8 := H0.out.2.2.1
      refine ⟨?_, ?_⟩
      · rw [← K1.out]; unfold lfT; rw [if_neg g1]
      · rw [h8]; unfold lfT; rw [if_neg (by omega)]
    go_wp2_with fail
    refine (szRuleS_t X.n X.f a1 l1 c1 left _ (H0.out.2.2.2.below G0.out.1) Q0.out.1).mono ?_
    rintro e w9 ⟨rfl, b9⟩
    rw [E.out.1]
    have B9 := bel_nx G0.out.1 b9
    clear b9 y0 y1 y2
    go_wp2
    go_ret
    exact ⟨by rw [E.out.2]; rfl, B9⟩
  · obtain ⟨L1, hL1⟩ : ∃ m : Nat, m + t1 = left := ⟨left - t1, by omega⟩
    have E1 : Hid (lfT left ((Tr.list 7 X.n (fun i => trs (xrT (X.f i)))).sz) = (L1 : Int)) := by
      show _ = _
      rw [← K1.out]; unfold lfT; rw [if_pos g1]; omega
    have n1 : ¬ ((L1 : Int) < 0) := by omega
    have Q1 : Hid (L1 ≤ 1048576 ∧ L1 + t1 = left) := by
      have h9 := Q0.out
      exact ⟨by omega, by omega⟩
    clear hL1 g1
    go_wp2_with fail
    refine (szRuleS_t X.n X.f a1 l1 c1 left _ (H0.out.2.2.2.below G0.out.1) Q0.out.1).mono ?_
    rintro e w1 ⟨rfl, b1⟩
    rw [E1.out]
    have G1 : Hid (Below w.heap.size w w1 ∧ Blk w1 w.heap.size 24 (xcL X a1 l1 c1).toArray) := ⟨bel_nx G0.out.1 b1, G0.out.2.below b1⟩
    clear b1 y0 y1 y2
    have E : Hid (lfT left (szT 3 (trs (xcT X))) = (L1 : Int)) := by
      have h9 := Q1.out.2
      have h8 := H0.out.2.2.1
      show _ = _
      rw [h8]; unfold lfT; rw [if_pos (by omega)]; omega
    go_wp2
    go_ret
    exact ⟨by rw [E.out]; rfl, G1.out.1⟩
set_option maxRecDepth 20000 in
set_option maxHeartbeats 2000000 in
theorem szCall_t (X : VL) (a1 : Option Addr) (l1 c1 : Nat) (a2 : Option Addr) (l2 c2 : Nat) (left : Nat) (w : World) (r1 : Rd w 0 (intsT X.q.ws) (.slice a1 l1 c1)) (r2 : Rd w 0 (boolsT X.q.bs) (.slice a2 l2 c2)) (hl : left ≤ 1048576) :
    Calls Tryz.prog 138 #[.agg (xlL X a1 l1 c1 a2 l2 c2).toArray, .int .i64 (left : Int)] w fun e w' => e = .returned (.int .i64 (lfT left (szT 9 (trs (xlT X))))) ∧ Below w.heap.size w w' := by
  have HT : Hid (szT 9 (trs (xlT X)) = szT 6 (trs (qT X.q))) := by
    show _ = _
    simp only [szT_xl, szT_q]
    try omega
  obtain ⟨t1, ht1⟩ : ∃ t : Nat, t = szT 6 (trs (qT X.q)) := ⟨_, rfl⟩
  obtain ⟨W, hW⟩ : ∃ W, W = w.alloc (.cells (xlL X a1 l1 c1 a2 l2 c2).toArray 146) := ⟨_, rfl⟩
  have H0 : Hid (Below w.heap.size w W ∧ Blk W w.heap.size 146 (xlL X a1 l1 c1 a2 l2 c2).toArray ∧ szT 9 (trs (xlT X)) = t1 ∧ Rd w 0 (intsT X.q.ws) (.slice a1 l1 c1) ∧ Rd w 0 (boolsT X.q.bs) (.slice a2 l2 c2)) := ⟨by rw [hW]; exact bel_alloc _ _, by rw [hW]; exact Blk.new _ _ _, by rw [HT.out]; omega, r1, r2⟩
  have K1 : Hid (t1 = szT 6 (trs (qT X.q))) := ht1
  clear HT r1 r2 ht1
  go_enter Tryz.func138, Tryz.ntmps138
  go_upto_region 1 with fail
  rw [← hW]
  clear hW
  have G0 : Hid (Below w.heap.size w W ∧ Blk W w.heap.size 146 (xlL X a1 l1 c1 a2 l2 c2).toArray) := ⟨H0.out.1, H0.out.2.1⟩
  have Q0 : Hid (left ≤ 1048576 ∧ left = left) := ⟨hl, rfl⟩
  obtain ⟨⟨y0, y1, y2, y3, y4, y5, y6, y7, y8⟩, yf⟩ := G0.out.2.tc9
  clear yf
  by_cases g1 : t1 ≤ left
  rotate_left
  · have E : Hid (lfT left (szT 6 (trs (qT X.q))) = -1 ∧ lfT left (szT 9 (trs (xlT X))) = -1) := by
      have h9 := Q0.out.2
      have h8 := H0.out.2.2.1
      refine ⟨?_, ?_⟩
      · rw [← K1.out]; unfold lfT; rw [if_neg g1]
      · rw [h8]; unfold lfT; rw [if_neg (by omega)]
    go_wp2_with fail
    refine (szReq_t X.q a1 l1 c1 a2 l2 c2 left _ (H0.out.2.2.2.1.below G0.out.1) (H0.out.2.2.2.2.below G0.out.1) Q0.out.1).mono ?_
    rintro e w9 ⟨rfl, b9⟩
    rw [E.out.1]
    have B9 := bel_nx G0.out.1 b9
    clear b9 y0 y1 y2 y3 y4 y5 y6 y7 y8
    go_wp2
    go_ret
    exact ⟨by rw [E.out.2]; rfl, B9⟩
  · obtain ⟨L1, hL1⟩ : ∃ m : Nat, m + t1 = left := ⟨left - t1, by omega⟩
    have E1 : Hid (lfT left (szT 6 (trs (qT X.q))) = (L1 : Int)) := by
      show _ = _
      rw [← K1.out]; unfold lfT; rw [if_pos g1]; omega
    have n1 : ¬ ((L1 : Int) < 0) := by omega
    have Q1 : Hid (L1 ≤ 1048576 ∧ L1 + t1 = left) := by
      have h9 := Q0.out
      exact ⟨by omega, by omega⟩
    clear hL1 g1
    go_wp2_with fail
    refine (szReq_t X.q a1 l1 c1 a2 l2 c2 left _ (H0.out.2.2.2.1.below G0.out.1) (H0.out.2.2.2.2.below G0.out.1) Q0.out.1).mono ?_
    rintro e w1 ⟨rfl, b1⟩
    rw [E1.out]
    have G1 : Hid (Below w.heap.size w w1 ∧ Blk w1 w.heap.size 146 (xlL X a1 l1 c1 a2 l2 c2).toArray) := ⟨bel_nx G0.out.1 b1, G0.out.2.below b1⟩
    clear b1 y0 y1 y2 y3 y4 y5 y6 y7 y8
    have E : Hid (lfT left (szT 9 (trs (xlT X))) = (L1 : Int)) := by
      have h9 := Q1.out.2
      have h8 := H0.out.2.2.1
      show _ = _
      rw [h8]; unfold lfT; rw [if_pos (by omega)]; omega
    go_wp2
    go_ret
    exact ⟨by rw [E.out]; rfl, G1.out.1⟩
set_option maxRecDepth 20000 in
set_option maxHeartbeats 2000000 in
theorem szCallS_t (n : Nat) (f : Nat → VL) (a : Option Addr) (n' cap : Nat) (left : Nat) (w : World) (hs : Rd w 0 (.list 9 n (fun k => trs (xlT (f k)))) (.slice a n' cap)) (hl : left ≤ 1048576) :
    Calls Tryz.prog 137 #[.slice a n' cap, .int .i64 (left : Int)] w fun e w' => e = .returned (.int .i64 (lfT left (Tr.list 9 n (fun k => trs (xlT (f k)))).sz)) ∧ Below w.heap.size w w' := by
  obtain ⟨a9, c9, h9, -, hn⟩ := hs.shape
  simp only [Value.slice.injEq] at h9
  obtain ⟨-, rfl, -⟩ := h9
  clear a9 c9
  unfold maxLen at hn
  have w1 : IntKind.i64.wrap ((left : Int) - (n' : Int)) = (left : Int) - (n' : Int) := by rw [IntKind.wrap_i64]; omega
  obtain ⟨g, hg⟩ : ∃ g : Nat → Nat, g = fun k => szT 9 (trs (xlT (f k))) := ⟨_, rfl⟩
  have HT : Hid ((Tr.list 9 n' (fun k => trs (xlT (f k)))).sz = n' + sumN n' g) := by show _ = _; rw [hg]; exact Tr.sz_list _ _ _
  have HG : Hid (∀ k, g k = szT 9 (trs (xlT (f k)))) := by show ∀ k, g k = _; intro k; rw [hg]
  clear hg
  by_cases h0 : n' ≤ left
  · have h1 : ¬ ((left : Int) - (n' : Int) < 0) := by omega
    have HS : Hid (Rd w 0 (.list 9 n' (fun k => trs (xlT (f k)))) (.slice a n' cap)) := hs
    have HL : Hid (left ≤ 1048576) := hl
    clear hs hn
    go_enter Tryz.func137, Tryz.ntmps137
    go_wp2
    go_loopw [1, 5] (fun lv i wr => ∃ k : Nat, k ≤ n' ∧ i = .int .i64 k ∧ n' + sumN k g ≤ left ∧ lv = .int .i64 ((left : Int) - (n' : Int) - (sumN k g : Int)) ∧ Below w.heap.size w wr) (fun _ i _ => n' - (intOf i).toNat)
    case atStart => exact ⟨0, Nat.zero_le _, rfl, by simp [sumN]; omega, by simp [sumN], Below.refl _ _⟩
    case round =>
      obtain ⟨k, hk, rfl, ht, rfl, hb⟩ := hrel
      by_cases hlt : k < n'
      · have hi : (k : Int) < (n' : Int) := by omega
        obtain ⟨b, off, vs, rfl, _, hb0, hlen, hr, hrd⟩ := (HS.out.below hb).at hlt
        obtain ⟨a1, c1, a2, c2, rfl, r1, r2⟩ := VL.cells hrd hlen
        clear hlen hrd
        have d0 : wr.cell? ⟨b, off + k * 9, none⟩ = _ := hr 0 _ rfl
        have d1 : wr.cell? ⟨b, off + k * 9 + 1, none⟩ = _ := hr 1 _ rfl
        have d2 : wr.cell? ⟨b, off + k * 9 + 2, none⟩ = _ := hr 2 _ rfl
        have d3 : wr.cell? ⟨b, off + k * 9 + 3, none⟩ = _ := hr 3 _ rfl
        have d4 : wr.cell? ⟨b, off + k * 9 + 4, none⟩ = _ := hr 4 _ rfl
        have d5 : wr.cell? ⟨b, off + k * 9 + 5, none⟩ = _ := hr 5 _ rfl
        have d6 : wr.cell? ⟨b, off + k * 9 + 6, none⟩ = _ := hr 6 _ rfl
        have d7 : wr.cell? ⟨b, off + k * 9 + 7, none⟩ = _ := hr 7 _ rfl
        have d8 : wr.cell? ⟨b, off + k * 9 + 8, none⟩ = _ := hr 8 _ rfl
        obtain ⟨lf, hlf⟩ : ∃ lf : Nat, (lf : Int) = (left : Int) - (n' : Int) - (sumN k g : Int) := ⟨left - n' - sumN k g, by omega⟩
        rw [← hlf]
        obtain ⟨x, hx⟩ : ∃ x, x = g k := ⟨_, rfl⟩
        have HK : Hid ((lf : Int) = (left : Int) - (n' : Int) - (sumN k g : Int) ∧ lf ≤ 1048576 ∧ sumN (k + 1) g = sumN k g + x ∧ Below w.heap.size w wr ∧ x = szT 9 (trs (xlT (f k))) ∧ Rd wr 0 (intsT (f k).q.ws) (.slice a1 ((f k).q.ws.length) c1) ∧ Rd wr 0 (boolsT (f k).q.bs) (.slice a2 ((f k).q.bs.length) c2)) := ⟨hlf, by have := HL.out; omega, by rw [hx]; rfl, hb, by rw [hx]; exact HG.out k, r1, r2⟩
        clear hlf hb HS hx hr hb0 r1 r2
        by_cases hf : x ≤ lf
        · obtain ⟨lg, hlg⟩ : ∃ m : Nat, m + x = lf := ⟨lf - x, by omega⟩
          have hx0 : ¬ ((lg : Int) < 0) := by omega
          have HF : Hid (lfT lf (szT 9 (trs (xlT (f k)))) = (lg : Int) ∧ (lg : Int) = (left : Int) - (n' : Int) - (sumN (k + 1) g : Int) ∧ n' + sumN (k + 1) g ≤ left) := by
            have h9 := HK.out
            refine ⟨?_, ?_, ?_⟩
            · rw [← h9.2.2.2.2.1]; unfold lfT; rw [if_pos hf]; omega
            · omega
            · omega
          clear ht hf hlg
          go_wp2_with fail
          refine (szCall_t (f k) a1 ((f k).q.ws.length) c1 a2 ((f k).q.bs.length) c2 lf _ HK.out.2.2.2.2.2.1 HK.out.2.2.2.2.2.2 HK.out.2.1).mono ?_
          rintro e w2 ⟨rfl, b2⟩
          rw [HF.out.1]
          have HB : Hid (Below w.heap.size w w2) := bel_nx HK.out.2.2.2.1 b2
          clear b2 d0 d1 d2 d3 d4 d5 d6 d7 d8
          go_wp2
          go_roundw
          case rel => exact ⟨k + 1, by omega, by go_num, HF.out.2.2, by rw [HF.out.2.1], HB.out⟩
          case measure => simp [intOf]; omega
        · have HF : Hid (lfT lf (szT 9 (trs (xlT (f k)))) = -1 ∧ lfT left (Tr.list 9 n' (fun k => trs (xlT (f k)))).sz = -1) := by
            have h9 := HK.out
            have h8 := sumN_mono g (show k + 1 ≤ n' by omega)
            have h7 := HT.out
            refine ⟨?_, ?_⟩
            · rw [← h9.2.2.2.2.1]; unfold lfT; rw [if_neg hf]
            · rw [h7]; unfold lfT; rw [if_neg (by omega)]
          clear ht hf
          go_wp2_with fail
          refine (szCall_t (f k) a1 ((f k).q.ws.length) c1 a2 ((f k).q.bs.length) c2 lf _ HK.out.2.2.2.2.2.1 HK.out.2.2.2.2.2.2 HK.out.2.1).mono ?_
          rintro e w2 ⟨rfl, b2⟩
          rw [HF.out.1]
          have HB : Hid (Below w.heap.size w w2) := bel_nx HK.out.2.2.2.1 b2
          clear b2 d0 d1 d2 d3 d4 d5 d6 d7 d8
          go_wp2
          go_ret
          exact ⟨(by rw [HF.out.2]; rfl), HB.out⟩
      · have hi : ¬ (k : Int) < (n' : Int) := by omega
        have e9 : k = n' := by omega
        subst e9
        have HE : Hid (lfT left (Tr.list 9 k (fun k => trs (xlT (f k)))).sz = (left : Int) - (k : Int) - (sumN k g : Int)) := by
          show _ = _
          rw [HT.out]; unfold lfT; rw [if_pos ht]; omega
        clear ht
        go_wp2
        go_ret
        exact ⟨(by rw [HE.out]; rfl), hb⟩
  · have h1 : (left : Int) - (n' : Int) < 0 := by omega
    have HE : Hid (lfT left (Tr.list 9 n' (fun k => trs (xlT (f k)))).sz = -1) := by
      show _ = _
      rw [HT.out]; unfold lfT; rw [if_neg (by omega)]
    clear hs hn hl
    go_enter Tryz.func137, Tryz.ntmps137
    go_wp2
    go_ret
    exact ⟨(by rw [HE.out]; rfl), Below.refl _ _⟩
set_option maxRecDepth 20000 in
set_option maxHeartbeats 2000000 in
theorem szLine_t (X : VN) (a1 : Option Addr) (l1 c1 : Nat) (a2 : Option Addr) (l2 c2 : Nat) (a3 : Option Addr) (l3 c3 : Nat) (left : Nat) (w : World) (r1 : Rd w 0 (.list 9 X.nq (fun i => trs (xlT (X.qf i)))) (.slice a1 l1 c1)) (r2 : Rd w 0 (intsT X.c.q.ws) (.slice a2 l2 c2)) (r3 : Rd w 0 (boolsT X.c.q.bs) (.slice a3 l3 c3)) (hl : left ≤ 1048576) :
    Calls Tryz.prog 81 #[.agg (xnL X a1 l1 c1 a2 l2 c2 a3 l3 c3).toArray, .int .i64 (left : Int)] w fun e w' => e = .returned (.int .i64 (lfT left (szT 17 (trs (xnT X))))) ∧ Below w.heap.size w w' := by
  have HT : Hid (szT 17 (trs (xnT X)) = (Tr.list 9 X.nq (fun i => trs (xlT (X.qf i)))).sz + szT 9 (trs (xlT X.c))) := by
    show _ = _
    simp only [szT_xn, szT_xl]
    try omega
  obtain ⟨t1, ht1⟩ : ∃ t : Nat, t = (Tr.list 9 X.nq (fun i => trs (xlT (X.qf i)))).sz := ⟨_, rfl⟩
  obtain ⟨t2, ht2⟩ : ∃ t : Nat, t = szT 9 (trs (xlT X.c)) := ⟨_, rfl⟩
  obtain ⟨W, hW⟩ : ∃ W, W = w.alloc (.cells (xnL X a1 l1 c1 a2 l2 c2 a3 l3 c3).toArray 148) := ⟨_, rfl⟩
  have H0 : Hid (Below w.heap.size w W ∧ Blk W w.heap.size 148 (xnL X a1 l1 c1 a2 l2 c2 a3 l3 c3).toArray ∧ szT 17 (trs (xnT X)) = t1 + t2 ∧ Rd w 0 (.list 9 X.nq (fun i => trs (xlT (X.qf i)))) (.slice a1 l1 c1) ∧ Rd w 0 (intsT X.c.q.ws) (.slice a2 l2 c2) ∧ Rd w 0 (boolsT X.c.q.bs) (.slice a3 l3 c3)) := ⟨by rw [hW]; exact bel_alloc _ _, by rw [hW]; exact Blk.new _ _ _, by rw [HT.out]; omega, r1, r2, r3⟩
  have K1 : Hid (t1 = (Tr.list 9 X.nq (fun i => trs (xlT (X.qf i)))).sz) := ht1
  have K2 : Hid (t2 = szT 9 (trs (xlT X.c))) := ht2
  clear HT r1 r2 r3 ht1 ht2
  go_enter Tryz.func81, Tryz.ntmps81
  go_upto_region 1 with fail
  rw [← hW]
  clear hW
  have G0 : Hid (Below w.heap.size w W ∧ Blk W w.heap.size 148 (xnL X a1 l1 c1 a2 l2 c2 a3 l3 c3).toArray) := ⟨H0.out.1, H0.out.2.1⟩
  have Q0 : Hid (left ≤ 1048576 ∧ left = left) := ⟨hl, rfl⟩
  obtain ⟨⟨y0, y1, y2, y3, y4, y5, y6, y7, y8, y9, y10, y11, y12, y13, y14, y15, y16⟩, yf⟩ := G0.out.2.tc17
  clear yf
  by_cases g1 : t1 ≤ left
  rotate_left
  · have E : Hid (lfT left ((Tr.list 9 X.nq (fun i => trs (xlT (X.qf i)))).sz) = -1 ∧ lfT left (szT 17 (trs (xnT X))) = -1) := by
      have h9 := Q0.out.2
      have h8 := H0.out.2.2.1
      refine ⟨?_, ?_⟩
      · rw [← K1.out]; unfold lfT; rw [if_neg g1]
      · rw [h8]; unfold lfT; rw [if_neg (by omega)]
    go_wp2_with fail
    refine (szCallS_t X.nq X.qf a1 l1 c1 left _ (H0.out.2.2.2.1.below G0.out.1) Q0.out.1).mono ?_
    rintro e w9 ⟨rfl, b9⟩
    rw [E.out.1]
    have B9 := bel_nx G0.out.1 b9
    clear b9 y0 y1 y2 y3 y4 y5 y6 y7 y8 y9 y10 y11 y12 y13 y14 y15 y16
    go_wp2
    go_ret
    exact ⟨by rw [E.out.2]; rfl, B9⟩
  · obtain ⟨L1, hL1⟩ : ∃ m : Nat, m + t1 = left := ⟨left - t1, by omega⟩
    have E1 : Hid (lfT left ((Tr.list 9 X.nq (fun i => trs (xlT (X.qf i)))).sz) = (L1 : Int)) := by
      show _ = _
      rw [← K1.out]; unfold lfT; rw [if_pos g1]; omega
    have n1 : ¬ ((L1 : Int) < 0) := by omega
    have Q1 : Hid (L1 ≤ 1048576 ∧ L1 + t1 = left) := by
      have h9 := Q0.out
      exact ⟨by omega, by omega⟩
    clear hL1 g1
    go_wp2_with fail
    refine (szCallS_t X.nq X.qf a1 l1 c1 left _ (H0.out.2.2.2.1.below G0.out.1) Q0.out.1).mono ?_
    rintro e w1 ⟨rfl, b1⟩
    rw [E1.out]
    have G1 : Hid (Below w.heap.size w w1 ∧ Blk w1 w.heap.size 148 (xnL X a1 l1 c1 a2 l2 c2 a3 l3 c3).toArray) := ⟨bel_nx G0.out.1 b1, G0.out.2.below b1⟩
    clear b1 y0 y1 y2 y3 y4 y5 y6 y7 y8 y9 y10 y11 y12 y13 y14 y15 y16
    obtain ⟨⟨y0, y1, y2, y3, y4, y5, y6, y7, y8, y9, y10, y11, y12, y13, y14, y15, y16⟩, yf⟩ := G1.out.2.tc17
    clear yf
    by_cases g2 : t2 ≤ L1
    rotate_left
    · have E : Hid (lfT L1 (szT 9 (trs (xlT X.c))) = -1 ∧ lfT left (szT 17 (trs (xnT X))) = -1) := by
        have h9 := Q1.out.2
        have h8 := H0.out.2.2.1
        refine ⟨?_, ?_⟩
        · rw [← K2.out]; unfold lfT; rw [if_neg g2]
        · rw [h8]; unfold lfT; rw [if_neg (by omega)]
      go_wp2_with fail
      refine (szCall_t X.c a2 l2 c2 a3 l3 c3 L1 _ (H0.out.2.2.2.2.1.below G1.out.1) (H0.out.2.2.2.2.2.below G1.out.1) Q1.out.1).mono ?_
      rintro e w9 ⟨rfl, b9⟩
      rw [E.out.1]
      have B9 := bel_nx G1.out.1 b9
      clear b9 y0 y1 y2 y3 y4 y5 y6 y7 y8 y9 y10 y11 y12 y13 y14 y15 y16
      go_wp2
      go_ret
      exact ⟨by rw [E.out.2]; rfl, B9⟩
    · obtain ⟨L2, hL2⟩ : ∃ m : Nat, m + t2 = L1 := ⟨L1 - t2, by omega⟩
      have E2 : Hid (lfT L1 (szT 9 (trs (xlT X.c))) = (L2 : Int)) := by
        show _ = _
        rw [← K2.out]; unfold lfT; rw [if_pos g2]; omega
      have n2 : ¬ ((L2 : Int) < 0) := by omega
      have Q2 : Hid (L2 ≤ 1048576 ∧ L2 + t1 + t2 = left) := by
        have h9 := Q1.out
        exact ⟨by omega, by omega⟩
      clear hL2 g2
      go_wp2_with fail
      refine (szCall_t X.c a2 l2 c2 a3 l3 c3 L1 _ (H0.out.2.2.2.2.1.below G1.out.1) (H0.out.2.2.2.2.2.below G1.out.1) Q1.out.1).mono ?_
      rintro e w2 ⟨rfl, b2⟩
      rw [E2.out]
      have G2 : Hid (Below w.heap.size w w2 ∧ Blk w2 w.heap.size 148 (xnL X a1 l1 c1 a2 l2 c2 a3 l3 c3).toArray) := ⟨bel_nx G1.out.1 b2, G1.out.2.below b2⟩
      clear b2 y0 y1 y2 y3 y4 y5 y6 y7 y8 y9 y10 y11 y12 y13 y14 y15 y16
      have E : Hid (lfT left (szT 17 (trs (xnT X))) = (L2 : Int)) := by
        have h9 := Q2.out.2
        have h8 := H0.out.2.2.1
        show _ = _
        rw [h8]; unfold lfT; rw [if_pos (by omega)]; omega
      go_wp2
      go_ret
      exact ⟨by rw [E.out]; rfl, G2.out.1⟩
set_option maxRecDepth 20000 in
set_option maxHeartbeats 2000000 in
theorem szLineS_t (n : Nat) (f : Nat → VN) (a : Option Addr) (n' cap : Nat) (left : Nat) (w : World) (hs : Rd w 0 (.list 17 n (fun k => trs (xnT (f k)))) (.slice a n' cap)) (hl : left ≤ 1048576) :
    Calls Tryz.prog 32 #[.slice a n' cap, .int .i64 (left : Int)] w fun e w' => e = .returned (.int .i64 (lfT left (Tr.list 17 n (fun k => trs (xnT (f k)))).sz)) ∧ Below w.heap.size w w' := by
  obtain ⟨a9, c9, h9, -, hn⟩ := hs.shape
  simp only [Value.slice.injEq] at h9
  obtain ⟨-, rfl, -⟩ := h9
  clear a9 c9
  unfold maxLen at hn
  have w1 : IntKind.i64.wrap ((left : Int) - (n' : Int)) = (left : Int) - (n' : Int) := by rw [IntKind.wrap_i64]; omega
  obtain ⟨g, hg⟩ : ∃ g : Nat → Nat, g = fun k => szT 17 (trs (xnT (f k))) := ⟨_, rfl⟩
  have HT : Hid ((Tr.list 17 n' (fun k => trs (xnT (f k)))).sz = n' + sumN n' g) := by show _ = _; rw [hg]; exact Tr.sz_list _ _ _
  have HG : Hid (∀ k, g k = szT 17 (trs (xnT (f k)))) := by show ∀ k, g k = _; intro k; rw [hg]
  clear hg
  by_cases h0 : n' ≤ left
  · have h1 : ¬ ((left : Int) - (n' : Int) < 0) := by omega
    have HS : Hid (Rd w 0 (.list 17 n' (fun k => trs (xnT (f k)))) (.slice a n' cap)) := hs
    have HL : Hid (left ≤ 1048576) := hl
    clear hs hn
    go_enter Tryz.func32, Tryz.ntmps32
    go_wp2
    go_loopw [1, 5] (fun lv i wr => ∃ k : Nat, k ≤ n' ∧ i = .int .i64 k ∧ n' + sumN k g ≤ left ∧ lv = .int .i64 ((left : Int) - (n' : Int) - (sumN k g : Int)) ∧ Below w.heap.size w wr) (fun _ i _ => n' - (intOf i).toNat)
    case atStart => exact ⟨0, Nat.zero_le _, rfl, by simp [sumN]; omega, by simp [sumN], Below.refl _ _⟩
    case round =>
      obtain ⟨k, hk, rfl, ht, rfl, hb⟩ := hrel
      by_cases hlt : k < n'
      · have hi : (k : Int) < (n' : Int) := by omega
        obtain ⟨b, off, vs, rfl, _, hb0, hlen, hr, hrd⟩ := (HS.out.below hb).at hlt
        obtain ⟨a1, c1, a2, c2, a3, c3, rfl, r1, r2, r3⟩ := VN.cells hrd hlen
        clear hlen hrd
        have d0 : wr.cell? ⟨b, off + k * 17, none⟩ = _ := hr 0 _ rfl
        have d1 : wr.cell? ⟨b, off + k * 17 + 1, none⟩ = _ := hr 1 _ rfl
        have d2 : wr.cell? ⟨b, off + k * 17 + 2, none⟩ = _ := hr 2 _ rfl
        have d3 : wr.cell? ⟨b, off + k * 17 + 3, none⟩ = _ := hr 3 _ rfl
        have d4 : wr.cell? ⟨b, off + k * 17 + 4, none⟩ = _ := hr 4 _ rfl
        have d5 : wr.cell? ⟨b, off + k * 17 + 5, none⟩ = _ := hr 5 _ rfl
        have d6 : wr.cell? ⟨b, off + k * 17 + 6, none⟩ = _ := hr 6 _ rfl
        have d7 : wr.cell? ⟨b, off + k * 17 + 7, none⟩ = _ := hr 7 _ rfl
        have d8 : wr.cell? ⟨b, off + k * 17 + 8, none⟩ = _ := hr 8 _ rfl
        have d9 : wr.cell? ⟨b, off + k * 17 + 9, none⟩ = _ := hr 9 _ rfl
        have d10 : wr.cell? ⟨b, off + k * 17 + 10, none⟩ = _ := hr 10 _ rfl
        have d11 : wr.cell? ⟨b, off + k * 17 + 11, none⟩ = _ := hr 11 _ rfl
        have d12 : wr.cell? ⟨b, off + k * 17 + 12, none⟩ = _ := hr 12 _ rfl
        have d13 : wr.cell? ⟨b, off + k * 17 + 13, none⟩ = _ := hr 13 _ rfl
        have d14 : wr.cell? ⟨b, off + k * 17 + 14, none⟩ = _ := hr 14 _ rfl
        have d15 : wr.cell? ⟨b, off + k * 17 + 15, none⟩ = _ := hr 15 _ rfl
        have d16 : wr.cell? ⟨b, off + k * 17 + 16, none⟩ = _ := hr 16 _ rfl
        obtain ⟨lf, hlf⟩ : ∃ lf : Nat, (lf : Int) = (left : Int) - (n' : Int) - (sumN k g : Int) := ⟨left - n' - sumN k g, by omega⟩
        rw [← hlf]
        obtain ⟨x, hx⟩ : ∃ x, x = g k := ⟨_, rfl⟩
        have HK : Hid ((lf : Int) = (left : Int) - (n' : Int) - (sumN k g : Int) ∧ lf ≤ 1048576 ∧ sumN (k + 1) g = sumN k g + x ∧ Below w.heap.size w wr ∧ x = szT 17 (trs (xnT (f k))) ∧ Rd wr 0 (.list 9 (f k).nq (fun i => trs (xlT ((f k).qf i)))) (.slice a1 ((f k).nq) c1) ∧ Rd wr 0 (intsT (f k).c.q.ws) (.slice a2 ((f k).c.q.ws.length) c2) ∧ Rd wr 0 (boolsT (f k).c.q.bs) (.slice a3 ((f k).c.q.bs.length) c3)) := ⟨hlf, by have := HL.out; omega, by rw [hx]; rfl, hb, by rw [hx]; exact HG.out k, r1, r2, r3⟩
        clear hlf hb HS hx hr hb0 r1 r2 r3
        by_cases hf : x ≤ lf
        · obtain ⟨lg, hlg⟩ : ∃ m : Nat, m + x = lf := ⟨lf - x, by omega⟩
          have hx0 : ¬ ((lg : Int) < 0) := by omega
          have HF : Hid (lfT lf (szT 17 (trs (xnT (f k)))) = (lg : Int) ∧ (lg : Int) = (left : Int) - (n' : Int) - (sumN (k + 1) g : Int) ∧ n' + sumN (k + 1) g ≤ left) := by
            have h9 := HK.out
            refine ⟨?_, ?_, ?_⟩
            · rw [← h9.2.2.2.2.1]; unfold lfT; rw [if_pos hf]; omega
            · omega
            · omega
          clear ht hf hlg
          go_wp2_with fail
          refine (szLine_t (f k) a1 ((f k).nq) c1 a2 ((f k).c.q.ws.length) c2 a3 ((f k).c.q.bs.length) c3 lf _ HK.out.2.2.2.2.2.1 HK.out.2.2.2.2.2.2.1 HK.out.2.2.2.2.2.2.2 HK.out.2.1).mono ?_
          rintro e w2 ⟨rfl, b2⟩
          rw [HF.out.1]
          have HB : Hid (Below w.heap.size w w2) := bel_nx HK.out.2.2.2.1 b2
          clear b2 d0 d1 d2 d3 d4 d5 d6 d7 d8 d9 d10 d11 d12 d13 d14 d15 d16
          go_wp2
          go_roundw
          case rel => exact ⟨k + 1, by omega, by go_num, HF.out.2.2, by rw [HF.out.2.1], HB.out⟩
          case measure => simp [intOf]; omega
        · have HF : Hid (lfT lf (szT 17 (trs (xnT (f k)))) = -1 ∧ lfT left (Tr.list 17 n' (fun k => trs (xnT (f k)))).sz = -1) := by
            have h9 := HK.out
            have h8 := sumN_mono g (show k + 1 ≤ n' by omega)
            have h7 := HT.out
            refine ⟨?_, ?_⟩
            · rw [← h9.2.2.2.2.1]; unfold lfT; rw [if_neg hf]
            · rw [h7]; unfold lfT; rw [if_neg (by omega)]
          clear ht hf
          go_wp2_with fail
          refine (szLine_t (f k) a1 ((f k).nq) c1 a2 ((f k).c.q.ws.length) c2 a3 ((f k).c.q.bs.length) c3 lf _ HK.out.2.2.2.2.2.1 HK.out.2.2.2.2.2.2.1 HK.out.2.2.2.2.2.2.2 HK.out.2.1).mono ?_
          rintro e w2 ⟨rfl, b2⟩
          rw [HF.out.1]
          have HB : Hid (Below w.heap.size w w2) := bel_nx HK.out.2.2.2.1 b2
          clear b2 d0 d1 d2 d3 d4 d5 d6 d7 d8 d9 d10 d11 d12 d13 d14 d15 d16
          go_wp2
          go_ret
          exact ⟨(by rw [HF.out.2]; rfl), HB.out⟩
      · have hi : ¬ (k : Int) < (n' : Int) := by omega
        have e9 : k = n' := by omega
        subst e9
        have HE : Hid (lfT left (Tr.list 17 k (fun k => trs (xnT (f k)))).sz = (left : Int) - (k : Int) - (sumN k g : Int)) := by
          show _ = _
          rw [HT.out]; unfold lfT; rw [if_pos ht]; omega
        clear ht
        go_wp2
        go_ret
        exact ⟨(by rw [HE.out]; rfl), hb⟩
  · have h1 : (left : Int) - (n' : Int) < 0 := by omega
    have HE : Hid (lfT left (Tr.list 17 n' (fun k => trs (xnT (f k)))).sz = -1) := by
      show _ = _
      rw [HT.out]; unfold lfT; rw [if_neg (by omega)]
    clear hs hn hl
    go_enter Tryz.func32, Tryz.ntmps32
    go_wp2
    go_ret
    exact ⟨(by rw [HE.out]; rfl), Below.refl _ _⟩
set_option maxRecDepth 20000 in
set_option maxHeartbeats 2000000 in
theorem szFabric_t (X : VF) (a1 : Option Addr) (l1 c1 : Nat) (a2 : Option Addr) (l2 c2 : Nat) (a3 : Option Addr) (l3 c3 : Nat) (left : Nat) (w : World) (r1 : Rd w 0 (.list 7 X.set.n (fun i => trs (xrT (X.set.f i)))) (.slice a1 l1 c1)) (r2 : Rd w 0 (.list 13 X.op.m (fun i => trs (dT (X.op.f i)))) (.slice a2 l2 c2)) (r3 : Rd w 0 (.list 17 X.nl (fun i => trs (xnT (X.lf i)))) (.slice a3 l3 c3)) (hl : left ≤ 1048576) :
    Calls Tryz.prog 8 #[.agg (xfL X a1 l1 c1 a2 l2 c2 a3 l3 c3).toArray, .int .i64 (left : Int)] w fun e w' => e = .returned (.int .i64 (lfT left (szT 11 (trs (xfT X))))) ∧ Below w.heap.size w w' := by
  have HT : Hid (szT 11 (trs (xfT X)) = szT 3 (trs (xcT X.set)) + szT 2 (trs (tT X.op)) + (Tr.list 17 X.nl (fun i => trs (xnT (X.lf i)))).sz) := by
    show _ = _
    simp only [szT_xf, szT_xc, szT_t]
    try omega
  obtain ⟨t1, ht1⟩ : ∃ t : Nat, t = szT 3 (trs (xcT X.set)) := ⟨_, rfl⟩
  obtain ⟨t2, ht2⟩ : ∃ t : Nat, t = szT 2 (trs (tT X.op)) := ⟨_, rfl⟩
  obtain ⟨t3, ht3⟩ : ∃ t : Nat, t = (Tr.list 17 X.nl (fun i => trs (xnT (X.lf i)))).sz := ⟨_, rfl⟩
  obtain ⟨W, hW⟩ : ∃ W, W = w.alloc (.cells (xfL X a1 l1 c1 a2 l2 c2 a3 l3 c3).toArray 30) := ⟨_, rfl⟩
  have H0 : Hid (Below w.heap.size w W ∧ Blk W w.heap.size 30 (xfL X a1 l1 c1 a2 l2 c2 a3 l3 c3).toArray ∧ szT 11 (trs (xfT X)) = t1 + t2 + t3 ∧ Rd w 0 (.list 7 X.set.n (fun i => trs (xrT (X.set.f i)))) (.slice a1 l1 c1) ∧ Rd w 0 (.list 13 X.op.m (fun i => trs (dT (X.op.f i)))) (.slice a2 l2 c2) ∧ Rd w 0 (.list 17 X.nl (fun i => trs (xnT (X.lf i)))) (.slice a3 l3 c3)) := ⟨by rw [hW]; exact bel_alloc _ _, by rw [hW]; exact Blk.new _ _ _, by rw [HT.out]; omega, r1, r2, r3⟩
  have K1 : Hid (t1 = szT 3 (trs (xcT X.set))) := ht1
  have K2 : Hid (t2 = szT 2 (trs (tT X.op))) := ht2
  have K3 : Hid (t3 = (Tr.list 17 X.nl (fun i => trs (xnT (X.lf i)))).sz) := ht3
  clear HT r1 r2 r3 ht1 ht2 ht3
  go_enter Tryz.func8, Tryz.ntmps8
  go_upto_region 1 with fail
  rw [← hW]
  clear hW
  have G0 : Hid (Below w.heap.size w W ∧ Blk W w.heap.size 30 (xfL X a1 l1 c1 a2 l2 c2 a3 l3 c3).toArray) := ⟨H0.out.1, H0.out.2.1⟩
  have Q0 : Hid (left ≤ 1048576 ∧ left = left) := ⟨hl, rfl⟩
  obtain ⟨⟨y0, y1, y2, y3, y4, y5, y6, y7, y8, y9, y10⟩, yf⟩ := G0.out.2.tc11
  clear yf
  by_cases g1 : t1 ≤ left
  rotate_left
  · have E : Hid (lfT left (szT 3 (trs (xcT X.set))) = -1 ∧ lfT left (szT 11 (trs (xfT X))) = -1) := by
      have h9 := Q0.out.2
      have h8 := H0.out.2.2.1
      refine ⟨?_, ?_⟩
      · rw [← K1.out]; unfold lfT; rw [if_neg g1]
      · rw [h8]; unfold lfT; rw [if_neg (by omega)]
    go_wp2_with fail
    refine (szConfig_t X.set a1 l1 c1 left _ (H0.out.2.2.2.1.below G0.out.1) Q0.out.1).mono ?_
    rintro e w9 ⟨rfl, b9⟩
    rw [E.out.1]
    have B9 := bel_nx G0.out.1 b9
    clear b9 y0 y1 y2 y3 y4 y5 y6 y7 y8 y9 y10
    go_wp2
    go_ret
    exact ⟨by rw [E.out.2]; rfl, B9⟩
  · obtain ⟨L1, hL1⟩ : ∃ m : Nat, m + t1 = left := ⟨left - t1, by omega⟩
    have E1 : Hid (lfT left (szT 3 (trs (xcT X.set))) = (L1 : Int)) := by
      show _ = _
      rw [← K1.out]; unfold lfT; rw [if_pos g1]; omega
    have n1 : ¬ ((L1 : Int) < 0) := by omega
    have Q1 : Hid (L1 ≤ 1048576 ∧ L1 + t1 = left) := by
      have h9 := Q0.out
      exact ⟨by omega, by omega⟩
    clear hL1 g1
    go_wp2_with fail
    refine (szConfig_t X.set a1 l1 c1 left _ (H0.out.2.2.2.1.below G0.out.1) Q0.out.1).mono ?_
    rintro e w1 ⟨rfl, b1⟩
    rw [E1.out]
    have G1 : Hid (Below w.heap.size w w1 ∧ Blk w1 w.heap.size 30 (xfL X a1 l1 c1 a2 l2 c2 a3 l3 c3).toArray) := ⟨bel_nx G0.out.1 b1, G0.out.2.below b1⟩
    clear b1 y0 y1 y2 y3 y4 y5 y6 y7 y8 y9 y10
    obtain ⟨⟨y0, y1, y2, y3, y4, y5, y6, y7, y8, y9, y10⟩, yf⟩ := G1.out.2.tc11
    clear yf
    by_cases g2 : t2 ≤ L1
    rotate_left
    · have E : Hid (lfT L1 (szT 2 (trs (tT X.op))) = -1 ∧ lfT left (szT 11 (trs (xfT X))) = -1) := by
        have h9 := Q1.out.2
        have h8 := H0.out.2.2.1
        refine ⟨?_, ?_⟩
        · rw [← K2.out]; unfold lfT; rw [if_neg g2]
        · rw [h8]; unfold lfT; rw [if_neg (by omega)]
      go_wp2_with fail
      refine (szTable_t X.op a2 l2 c2 L1 _ (H0.out.2.2.2.2.1.below G1.out.1) Q1.out.1).mono ?_
      rintro e w9 ⟨rfl, b9⟩
      rw [E.out.1]
      have B9 := bel_nx G1.out.1 b9
      clear b9 y0 y1 y2 y3 y4 y5 y6 y7 y8 y9 y10
      go_wp2
      go_ret
      exact ⟨by rw [E.out.2]; rfl, B9⟩
    · obtain ⟨L2, hL2⟩ : ∃ m : Nat, m + t2 = L1 := ⟨L1 - t2, by omega⟩
      have E2 : Hid (lfT L1 (szT 2 (trs (tT X.op))) = (L2 : Int)) := by
        show _ = _
        rw [← K2.out]; unfold lfT; rw [if_pos g2]; omega
      have n2 : ¬ ((L2 : Int) < 0) := by omega
      have Q2 : Hid (L2 ≤ 1048576 ∧ L2 + t1 + t2 = left) := by
        have h9 := Q1.out
        exact ⟨by omega, by omega⟩
      clear hL2 g2
      go_wp2_with fail
      refine (szTable_t X.op a2 l2 c2 L1 _ (H0.out.2.2.2.2.1.below G1.out.1) Q1.out.1).mono ?_
      rintro e w2 ⟨rfl, b2⟩
      rw [E2.out]
      have G2 : Hid (Below w.heap.size w w2 ∧ Blk w2 w.heap.size 30 (xfL X a1 l1 c1 a2 l2 c2 a3 l3 c3).toArray) := ⟨bel_nx G1.out.1 b2, G1.out.2.below b2⟩
      clear b2 y0 y1 y2 y3 y4 y5 y6 y7 y8 y9 y10
      obtain ⟨⟨y0, y1, y2, y3, y4, y5, y6, y7, y8, y9, y10⟩, yf⟩ := G2.out.2.tc11
      clear yf
      by_cases g3 : t3 ≤ L2
      rotate_left
      · have E : Hid (lfT L2 ((Tr.list 17 X.nl (fun i => trs (xnT (X.lf i)))).sz) = -1 ∧ lfT left (szT 11 (trs (xfT X))) = -1) := by
          have h9 := Q2.out.2
          have h8 := H0.out.2.2.1
          refine ⟨?_, ?_⟩
          · rw [← K3.out]; unfold lfT; rw [if_neg g3]
          · rw [h8]; unfold lfT; rw [if_neg (by omega)]
        go_wp2_with fail
        refine (szLineS_t X.nl X.lf a3 l3 c3 L2 _ (H0.out.2.2.2.2.2.below G2.out.1) Q2.out.1).mono ?_
        rintro e w9 ⟨rfl, b9⟩
        rw [E.out.1]
        have B9 := bel_nx G2.out.1 b9
        clear b9 y0 y1 y2 y3 y4 y5 y6 y7 y8 y9 y10
        go_wp2
        go_ret
        exact ⟨by rw [E.out.2]; rfl, B9⟩
      · obtain ⟨L3, hL3⟩ : ∃ m : Nat, m + t3 = L2 := ⟨L2 - t3, by omega⟩
        have E3 : Hid (lfT L2 ((Tr.list 17 X.nl (fun i => trs (xnT (X.lf i)))).sz) = (L3 : Int)) := by
          show _ = _
          rw [← K3.out]; unfold lfT; rw [if_pos g3]; omega
        have n3 : ¬ ((L3 : Int) < 0) := by omega
        have Q3 : Hid (L3 ≤ 1048576 ∧ L3 + t1 + t2 + t3 = left) := by
          have h9 := Q2.out
          exact ⟨by omega, by omega⟩
        clear hL3 g3
        go_wp2_with fail
        refine (szLineS_t X.nl X.lf a3 l3 c3 L2 _ (H0.out.2.2.2.2.2.below G2.out.1) Q2.out.1).mono ?_
        rintro e w3 ⟨rfl, b3⟩
        rw [E3.out]
        have G3 : Hid (Below w.heap.size w w3 ∧ Blk w3 w.heap.size 30 (xfL X a1 l1 c1 a2 l2 c2 a3 l3 c3).toArray) := ⟨bel_nx G2.out.1 b3, G2.out.2.below b3⟩
        clear b3 y0 y1 y2 y3 y4 y5 y6 y7 y8 y9 y10
        have E : Hid (lfT left (szT 11 (trs (xfT X))) = (L3 : Int)) := by
          have h9 := Q3.out.2
          have h8 := H0.out.2.2.1
          show _ = _
          rw [h8]; unfold lfT; rw [if_pos (by omega)]; omega
        go_wp2
        go_ret
        exact ⟨by rw [E.out]; rfl, G3.out.1⟩
set_option maxRecDepth 20000 in
set_option maxHeartbeats 2000000 in
theorem szDevice_t (X : VI) (a1 : Option Addr) (l1 c1 : Nat) (a2 : Option Addr) (l2 c2 : Nat) (a3 : Option Addr) (l3 c3 : Nat) (a4 : Option Addr) (l4 c4 : Nat) (left : Nat) (w : World) (r1 : Rd w 0 (boolsT X.co) (.slice a1 l1 c1)) (r2 : Rd w 0 (boolsT X.ip) (.slice a2 l2 c2)) (r3 : Rd w 0 (intsT X.ho) (.slice a3 l3 c3)) (r4 : Rd w 0 (intsT X.wd) (.slice a4 l4 c4)) (hl : left ≤ 1048576) :
    Calls Tryz.prog 175 #[.agg (xdL X a1 l1 c1 a2 l2 c2 a3 l3 c3 a4 l4 c4).toArray, .int .i64 (left : Int)] w fun e w' => e = .returned (.int .i64 (lfT left (szT 4 (trs (xdT X))))) ∧ Below w.heap.size w w' := by
  have HT : Hid (szT 4 (trs (xdT X)) = X.co.length + X.ip.length + X.ho.length + X.wd.length) := by
    show _ = _
    simp only [szT_xd]
    try omega
  obtain ⟨t1, ht1⟩ : ∃ t : Nat, t = X.co.length := ⟨_, rfl⟩
  obtain ⟨t2, ht2⟩ : ∃ t : Nat, t = X.ip.length := ⟨_, rfl⟩
  obtain ⟨t3, ht3⟩ : ∃ t : Nat, t = X.ho.length := ⟨_, rfl⟩
  obtain ⟨t4, ht4⟩ : ∃ t : Nat, t = X.wd.length := ⟨_, rfl⟩
  obtain ⟨W, hW⟩ : ∃ W, W = w.alloc (.cells (xdL X a1 l1 c1 a2 l2 c2 a3 l3 c3 a4 l4 c4).toArray 169) := ⟨_, rfl⟩
  have H0 : Hid (Below w.heap.size w W ∧ Blk W w.heap.size 169 (xdL X a1 l1 c1 a2 l2 c2 a3 l3 c3 a4 l4 c4).toArray ∧ szT 4 (trs (xdT X)) = t1 + t2 + t3 + t4 ∧ Rd w 0 (boolsT X.co) (.slice a1 l1 c1) ∧ Rd w 0 (boolsT X.ip) (.slice a2 l2 c2) ∧ Rd w 0 (intsT X.ho) (.slice a3 l3 c3) ∧ Rd w 0 (intsT X.wd) (.slice a4 l4 c4)) := ⟨by rw [hW]; exact bel_alloc _ _, by rw [hW]; exact Blk.new _ _ _, by rw [HT.out]; omega, r1, r2, r3, r4⟩
  have K1 : Hid (t1 = X.co.length) := ht1
  have K2 : Hid (t2 = X.ip.length) := ht2
  have K3 : Hid (t3 = X.ho.length) := ht3
  have K4 : Hid (t4 = X.wd.length) := ht4
  clear HT r1 r2 r3 r4 ht1 ht2 ht3 ht4
  go_enter Tryz.func175, Tryz.ntmps175
  go_upto_region 1 with fail
  rw [← hW]
  clear hW
  have G0 : Hid (Below w.heap.size w W ∧ Blk W w.heap.size 169 (xdL X a1 l1 c1 a2 l2 c2 a3 l3 c3 a4 l4 c4).toArray) := ⟨H0.out.1, H0.out.2.1⟩
  have Q0 : Hid (left ≤ 1048576 ∧ left = left) := ⟨hl, rfl⟩
  obtain ⟨⟨y0, y1, y2, y3⟩, yf⟩ := G0.out.2.tc4
  clear yf
  by_cases g1 : t1 ≤ left
  rotate_left
  · have E : Hid (lfT left (X.co.length) = -1 ∧ lfT left (szT 4 (trs (xdT X))) = -1) := by
      have h9 := Q0.out.2
      have h8 := H0.out.2.2.1
      refine ⟨?_, ?_⟩
      · rw [← K1.out]; unfold lfT; rw [if_neg g1]
      · rw [h8]; unfold lfT; rw [if_neg (by omega)]
    go_wp2_with fail
    refine (szBoolS_t X.co a1 l1 c1 left _ (H0.out.2.2.2.1.below G0.out.1) Q0.out.1).mono ?_
    rintro e w9 ⟨rfl, b9⟩
    rw [E.out.1]
    have B9 := bel_nx G0.out.1 b9
    clear b9 y0 y1 y2 y3
    go_wp2
    go_ret
    exact ⟨by rw [E.out.2]; rfl, B9⟩
  · obtain ⟨L1, hL1⟩ : ∃ m : Nat, m + t1 = left := ⟨left - t1, by omega⟩
    have E1 : Hid (lfT left (X.co.length) = (L1 : Int)) := by
      show _ = _
      rw [← K1.out]; unfold lfT; rw [if_pos g1]; omega
    have n1 : ¬ ((L1 : Int) < 0) := by omega
    have Q1 : Hid (L1 ≤ 1048576 ∧ L1 + t1 = left) := by
      have h9 := Q0.out
      exact ⟨by omega, by omega⟩
    clear hL1 g1
    go_wp2_with fail
    refine (szBoolS_t X.co a1 l1 c1 left _ (H0.out.2.2.2.1.below G0.out.1) Q0.out.1).mono ?_
    rintro e w1 ⟨rfl, b1⟩
    rw [E1.out]
    have G1 : Hid (Below w.heap.size w w1 ∧ Blk w1 w.heap.size 169 (xdL X a1 l1 c1 a2 l2 c2 a3 l3 c3 a4 l4 c4).toArray) := ⟨bel_nx G0.out.1 b1, G0.out.2.below b1⟩
    clear b1 y0 y1 y2 y3
    obtain ⟨⟨y0, y1, y2, y3⟩, yf⟩ := G1.out.2.tc4
    clear yf
    by_cases g2 : t2 ≤ L1
    rotate_left
    · have E : Hid (lfT L1 (X.ip.length) = -1 ∧ lfT left (szT 4 (trs (xdT X))) = -1) := by
        have h9 := Q1.out.2
        have h8 := H0.out.2.2.1
        refine ⟨?_, ?_⟩
        · rw [← K2.out]; unfold lfT; rw [if_neg g2]
        · rw [h8]; unfold lfT; rw [if_neg (by omega)]
      go_wp2_with fail
      refine (szBoolS_t X.ip a2 l2 c2 L1 _ (H0.out.2.2.2.2.1.below G1.out.1) Q1.out.1).mono ?_
      rintro e w9 ⟨rfl, b9⟩
      rw [E.out.1]
      have B9 := bel_nx G1.out.1 b9
      clear b9 y0 y1 y2 y3
      go_wp2
      go_ret
      exact ⟨by rw [E.out.2]; rfl, B9⟩
    · obtain ⟨L2, hL2⟩ : ∃ m : Nat, m + t2 = L1 := ⟨L1 - t2, by omega⟩
      have E2 : Hid (lfT L1 (X.ip.length) = (L2 : Int)) := by
        show _ = _
        rw [← K2.out]; unfold lfT; rw [if_pos g2]; omega
      have n2 : ¬ ((L2 : Int) < 0) := by omega
      have Q2 : Hid (L2 ≤ 1048576 ∧ L2 + t1 + t2 = left) := by
        have h9 := Q1.out
        exact ⟨by omega, by omega⟩
      clear hL2 g2
      go_wp2_with fail
      refine (szBoolS_t X.ip a2 l2 c2 L1 _ (H0.out.2.2.2.2.1.below G1.out.1) Q1.out.1).mono ?_
      rintro e w2 ⟨rfl, b2⟩
      rw [E2.out]
      have G2 : Hid (Below w.heap.size w w2 ∧ Blk w2 w.heap.size 169 (xdL X a1 l1 c1 a2 l2 c2 a3 l3 c3 a4 l4 c4).toArray) := ⟨bel_nx G1.out.1 b2, G1.out.2.below b2⟩
      clear b2 y0 y1 y2 y3
      obtain ⟨⟨y0, y1, y2, y3⟩, yf⟩ := G2.out.2.tc4
      clear yf
      by_cases g3 : t3 ≤ L2
      rotate_left
      · have E : Hid (lfT L2 (X.ho.length) = -1 ∧ lfT left (szT 4 (trs (xdT X))) = -1) := by
          have h9 := Q2.out.2
          have h8 := H0.out.2.2.1
          refine ⟨?_, ?_⟩
          · rw [← K3.out]; unfold lfT; rw [if_neg g3]
          · rw [h8]; unfold lfT; rw [if_neg (by omega)]
        go_wp2_with fail
        refine (szIntS_t X.ho a3 l3 c3 L2 _ (H0.out.2.2.2.2.2.1.below G2.out.1) Q2.out.1).mono ?_
        rintro e w9 ⟨rfl, b9⟩
        rw [E.out.1]
        have B9 := bel_nx G2.out.1 b9
        clear b9 y0 y1 y2 y3
        go_wp2
        go_ret
        exact ⟨by rw [E.out.2]; rfl, B9⟩
      · obtain ⟨L3, hL3⟩ : ∃ m : Nat, m + t3 = L2 := ⟨L2 - t3, by omega⟩
        have E3 : Hid (lfT L2 (X.ho.length) = (L3 : Int)) := by
          show _ = _
          rw [← K3.out]; unfold lfT; rw [if_pos g3]; omega
        have n3 : ¬ ((L3 : Int) < 0) := by omega
        have Q3 : Hid (L3 ≤ 1048576 ∧ L3 + t1 + t2 + t3 = left) := by
          have h9 := Q2.out
          exact ⟨by omega, by omega⟩
        clear hL3 g3
        go_wp2_with fail
        refine (szIntS_t X.ho a3 l3 c3 L2 _ (H0.out.2.2.2.2.2.1.below G2.out.1) Q2.out.1).mono ?_
        rintro e w3 ⟨rfl, b3⟩
        rw [E3.out]
        have G3 : Hid (Below w.heap.size w w3 ∧ Blk w3 w.heap.size 169 (xdL X a1 l1 c1 a2 l2 c2 a3 l3 c3 a4 l4 c4).toArray) := ⟨bel_nx G2.out.1 b3, G2.out.2.below b3⟩
        clear b3 y0 y1 y2 y3
        obtain ⟨⟨y0, y1, y2, y3⟩, yf⟩ := G3.out.2.tc4
        clear yf
        by_cases g4 : t4 ≤ L3
        rotate_left
        · have E : Hid (lfT L3 (X.wd.length) = -1 ∧ lfT left (szT 4 (trs (xdT X))) = -1) := by
            have h9 := Q3.out.2
            have h8 := H0.out.2.2.1
            refine ⟨?_, ?_⟩
            · rw [← K4.out]; unfold lfT; rw [if_neg g4]
            · rw [h8]; unfold lfT; rw [if_neg (by omega)]
          go_wp2_with fail
          refine (szIntS_t X.wd a4 l4 c4 L3 _ (H0.out.2.2.2.2.2.2.below G3.out.1) Q3.out.1).mono ?_
          rintro e w9 ⟨rfl, b9⟩
          rw [E.out.1]
          have B9 := bel_nx G3.out.1 b9
          clear b9 y0 y1 y2 y3
          go_wp2
          go_ret
          exact ⟨by rw [E.out.2]; rfl, B9⟩
        · obtain ⟨L4, hL4⟩ : ∃ m : Nat, m + t4 = L3 := ⟨L3 - t4, by omega⟩
          have E4 : Hid (lfT L3 (X.wd.length) = (L4 : Int)) := by
            show _ = _
            rw [← K4.out]; unfold lfT; rw [if_pos g4]; omega
          have n4 : ¬ ((L4 : Int) < 0) := by omega
          have Q4 : Hid (L4 ≤ 1048576 ∧ L4 + t1 + t2 + t3 + t4 = left) := by
            have h9 := Q3.out
            exact ⟨by omega, by omega⟩
          clear hL4 g4
          go_wp2_with fail
          refine (szIntS_t X.wd a4 l4 c4 L3 _ (H0.out.2.2.2.2.2.2.below G3.out.1) Q3.out.1).mono ?_
          rintro e w4 ⟨rfl, b4⟩
          rw [E4.out]
          have G4 : Hid (Below w.heap.size w w4 ∧ Blk w4 w.heap.size 169 (xdL X a1 l1 c1 a2 l2 c2 a3 l3 c3 a4 l4 c4).toArray) := ⟨bel_nx G3.out.1 b4, G3.out.2.below b4⟩
          clear b4 y0 y1 y2 y3
          have E : Hid (lfT left (szT 4 (trs (xdT X))) = (L4 : Int)) := by
            have h9 := Q4.out.2
            have h8 := H0.out.2.2.1
            show _ = _
            rw [h8]; unfold lfT; rw [if_pos (by omega)]; omega
          go_wp2
          go_ret
          exact ⟨by rw [E.out]; rfl, G4.out.1⟩
set_option maxRecDepth 20000 in
set_option maxHeartbeats 2000000 in
theorem szPost_t (X : VS) (a1 : Option Addr) (l1 c1 : Nat) (a2 : Option Addr) (l2 c2 : Nat) (a3 : Option Addr) (l3 c3 : Nat) (a4 : Option Addr) (l4 c4 : Nat) (left : Nat) (w : World) (r1 : Rd w 0 (boolsT X.d.co) (.slice a1 l1 c1)) (r2 : Rd w 0 (boolsT X.d.ip) (.slice a2 l2 c2)) (r3 : Rd w 0 (intsT X.d.ho) (.slice a3 l3 c3)) (r4 : Rd w 0 (intsT X.d.wd) (.slice a4 l4 c4)) (hl : left ≤ 1048576) :
    Calls Tryz.prog 115 #[.agg (xsL X a1 l1 c1 a2 l2 c2 a3 l3 c3 a4 l4 c4).toArray, .int .i64 (left : Int)] w fun e w' => e = .returned (.int .i64 (lfT left (szT 6 (trs (xsT X))))) ∧ Below w.heap.size w w' := by
  have HT : Hid (szT 6 (trs (xsT X)) = szT 4 (trs (xdT X.d))) := by
    show _ = _
    simp only [szT_xs, szT_xd]
    try omega
  obtain ⟨t1, ht1⟩ : ∃ t : Nat, t = szT 4 (trs (xdT X.d)) := ⟨_, rfl⟩
  obtain ⟨W, hW⟩ : ∃ W, W = w.alloc (.cells (xsL X a1 l1 c1 a2 l2 c2 a3 l3 c3 a4 l4 c4).toArray 171) := ⟨_, rfl⟩
  have H0 : Hid (Below w.heap.size w W ∧ Blk W w.heap.size 171 (xsL X a1 l1 c1 a2 l2 c2 a3 l3 c3 a4 l4 c4).toArray ∧ szT 6 (trs (xsT X)) = t1 ∧ Rd w 0 (boolsT X.d.co) (.slice a1 l1 c1) ∧ Rd w 0 (boolsT X.d.ip) (.slice a2 l2 c2) ∧ Rd w 0 (intsT X.d.ho) (.slice a3 l3 c3) ∧ Rd w 0 (intsT X.d.wd) (.slice a4 l4 c4)) := ⟨by rw [hW]; exact bel_alloc _ _, by rw [hW]; exact Blk.new _ _ _, by rw [HT.out]; omega, r1, r2, r3, r4⟩
  have K1 : Hid (t1 = szT 4 (trs (xdT X.d))) := ht1
  clear HT r1 r2 r3 r4 ht1
  go_enter Tryz.func115, Tryz.ntmps115
  go_upto_region 1 with fail
  rw [← hW]
  clear hW
  have G0 : Hid (Below w.heap.size w W ∧ Blk W w.heap.size 171 (xsL X a1 l1 c1 a2 l2 c2 a3 l3 c3 a4 l4 c4).toArray) := ⟨H0.out.1, H0.out.2.1⟩
  have Q0 : Hid (left ≤ 1048576 ∧ left = left) := ⟨hl, rfl⟩
  obtain ⟨⟨y0, y1, y2, y3, y4, y5⟩, yf⟩ := G0.out.2.tc6
  clear yf
  by_cases g1 : t1 ≤ left
  rotate_left
  · have E : Hid (lfT left (szT 4 (trs (xdT X.d))) = -1 ∧ lfT left (szT 6 (trs (xsT X))) = -1) := by
      have h9 := Q0.out.2
      have h8 := H0.out.2.2.1
      refine ⟨?_, ?_⟩
      · rw [← K1.out]; unfold lfT; rw [if_neg g1]
      · rw [h8]; unfold lfT; rw [if_neg (by omega)]
    go_wp2_with fail
    refine (szDevice_t X.d a1 l1 c1 a2 l2 c2 a3 l3 c3 a4 l4 c4 left _ (H0.out.2.2.2.1.below G0.out.1) (H0.out.2.2.2.2.1.below G0.out.1) (H0.out.2.2.2.2.2.1.below G0.out.1) (H0.out.2.2.2.2.2.2.below G0.out.1) Q0.out.1).mono ?_
    rintro e w9 ⟨rfl, b9⟩
    rw [E.out.1]
    have B9 := bel_nx G0.out.1 b9
    clear b9 y0 y1 y2 y3 y4 y5
    go_wp2
    go_ret
    exact ⟨by rw [E.out.2]; rfl, B9⟩
  · obtain ⟨L1, hL1⟩ : ∃ m : Nat, m + t1 = left := ⟨left - t1, by omega⟩
    have E1 : Hid (lfT left (szT 4 (trs (xdT X.d))) = (L1 : Int)) := by
      show _ = _
      rw [← K1.out]; unfold lfT; rw [if_pos g1]; omega
    have n1 : ¬ ((L1 : Int) < 0) := by omega
    have Q1 : Hid (L1 ≤ 1048576 ∧ L1 + t1 = left) := by
      have h9 := Q0.out
      exact ⟨by omega, by omega⟩
    clear hL1 g1
    go_wp2_with fail
    refine (szDevice_t X.d a1 l1 c1 a2 l2 c2 a3 l3 c3 a4 l4 c4 left _ (H0.out.2.2.2.1.below G0.out.1) (H0.out.2.2.2.2.1.below G0.out.1) (H0.out.2.2.2.2.2.1.below G0.out.1) (H0.out.2.2.2.2.2.2.below G0.out.1) Q0.out.1).mono ?_
    rintro e w1 ⟨rfl, b1⟩
    rw [E1.out]
    have G1 : Hid (Below w.heap.size w w1 ∧ Blk w1 w.heap.size 171 (xsL X a1 l1 c1 a2 l2 c2 a3 l3 c3 a4 l4 c4).toArray) := ⟨bel_nx G0.out.1 b1, G0.out.2.below b1⟩
    clear b1 y0 y1 y2 y3 y4 y5
    have E : Hid (lfT left (szT 6 (trs (xsT X))) = (L1 : Int)) := by
      have h9 := Q1.out.2
      have h8 := H0.out.2.2.1
      show _ = _
      rw [h8]; unfold lfT; rw [if_pos (by omega)]; omega
    go_wp2
    go_ret
    exact ⟨by rw [E.out]; rfl, G1.out.1⟩
set_option maxRecDepth 20000 in
set_option maxHeartbeats 2000000 in
theorem szPostS_t (n : Nat) (f : Nat → VS) (a : Option Addr) (n' cap : Nat) (left : Nat) (w : World) (hs : Rd w 0 (.list 6 n (fun k => trs (xsT (f k)))) (.slice a n' cap)) (hl : left ≤ 1048576) :
    Calls Tryz.prog 62 #[.slice a n' cap, .int .i64 (left : Int)] w fun e w' => e = .returned (.int .i64 (lfT left (Tr.list 6 n (fun k => trs (xsT (f k)))).sz)) ∧ Below w.heap.size w w' := by
  obtain ⟨a9, c9, h9, -, hn⟩ := hs.shape
  simp only [Value.slice.injEq] at h9
  obtain ⟨-, rfl, -⟩ := h9
  clear a9 c9
  unfold maxLen at hn
  have w1 : IntKind.i64.wrap ((left : Int) - (n' : Int)) = (left : Int) - (n' : Int) := by rw [IntKind.wrap_i64]; omega
  obtain ⟨g, hg⟩ : ∃ g : Nat → Nat, g = fun k => szT 6 (trs (xsT (f k))) := ⟨_, rfl⟩
  have HT : Hid ((Tr.list 6 n' (fun k => trs (xsT (f k)))).sz = n' + sumN n' g) := by show _ = _; rw [hg]; exact Tr.sz_list _ _ _
  have HG : Hid (∀ k, g k = szT 6 (trs (xsT (f k)))) := by show ∀ k, g k = _; intro k; rw [hg]
  clear hg
  by_cases h0 : n' ≤ left
  · have h1 : ¬ ((left : Int) - (n' : Int) < 0) := by omega
    have HS : Hid (Rd w 0 (.list 6 n' (fun k => trs (xsT (f k)))) (.slice a n' cap)) := hs
    have HL : Hid (left ≤ 1048576) := hl
    clear hs hn
    go_enter Tryz.func62, Tryz.ntmps62
    go_wp2
    go_loopw [1, 5] (fun lv i wr => ∃ k : Nat, k ≤ n' ∧ i = .int .i64 k ∧ n' + sumN k g ≤ left ∧ lv = .int .i64 ((left : Int) - (n' : Int) - (sumN k g : Int)) ∧ Below w.heap.size w wr) (fun _ i _ => n' - (intOf i).toNat)
    case atStart => exact ⟨0, Nat.zero_le _, rfl, by simp [sumN]; omega, by simp [sumN], Below.refl _ _⟩
    case round =>
      obtain ⟨k, hk, rfl, ht, rfl, hb⟩ := hrel
      by_cases hlt : k < n'
      · have hi : (k : Int) < (n' : Int) := by omega
        obtain ⟨b, off, vs, rfl, _, hb0, hlen, hr, hrd⟩ := (HS.out.below hb).at hlt
        obtain ⟨a1, c1, a2, c2, a3, c3, a4, c4, rfl, r1, r2, r3, r4⟩ := VS.cells hrd hlen
        clear hlen hrd
        have d0 : wr.cell? ⟨b, off + k * 6, none⟩ = _ := hr 0 _ rfl
        have d1 : wr.cell? ⟨b, off + k * 6 + 1, none⟩ = _ := hr 1 _ rfl
        have d2 : wr.cell? ⟨b, off + k * 6 + 2, none⟩ = _ := hr 2 _ rfl
        have d3 : wr.cell? ⟨b, off + k * 6 + 3, none⟩ = _ := hr 3 _ rfl
        have d4 : wr.cell? ⟨b, off + k * 6 + 4, none⟩ = _ := hr 4 _ rfl
        have d5 : wr.cell? ⟨b, off + k * 6 + 5, none⟩ = _ := hr 5 _ rfl
        obtain ⟨lf, hlf⟩ : ∃ lf : Nat, (lf : Int) = (left : Int) - (n' : Int) - (sumN k g : Int) := ⟨left - n' - sumN k g, by omega⟩
        rw [← hlf]
        obtain ⟨x, hx⟩ : ∃ x, x = g k := ⟨_, rfl⟩
        have HK : Hid ((lf : Int) = (left : Int) - (n' : Int) - (sumN k g : Int) ∧ lf ≤ 1048576 ∧ sumN (k + 1) g = sumN k g + x ∧ Below w.heap.size w wr ∧ x = szT 6 (trs (xsT (f k))) ∧ Rd wr 0 (boolsT (f k).d.co) (.slice a1 ((f k).d.co.length) c1) ∧ Rd wr 0 (boolsT (f k).d.ip) (.slice a2 ((f k).d.ip.length) c2) ∧ Rd wr 0 (intsT (f k).d.ho) (.slice a3 ((f k).d.ho.length) c3) ∧ Rd wr 0 (intsT (f k).d.wd) (.slice a4 ((f k).d.wd.length) c4)) := ⟨hlf, by have := HL.out; omega, by rw [hx]; rfl, hb, by rw [hx]; exact HG.out k, r1, r2, r3, r4⟩
        clear hlf hb HS hx hr hb0 r1 r2 r3 r4
        by_cases hf : x ≤ lf
        · obtain ⟨lg, hlg⟩ : ∃ m : Nat, m + x = lf := ⟨lf - x, by omega⟩
          have hx0 : ¬ ((lg : Int) < 0) := by omega
          have HF : Hid (lfT lf (szT 6 (trs (xsT (f k)))) = (lg : Int) ∧ (lg : Int) = (left : Int) - (n' : Int) - (sumN (k + 1) g : Int) ∧ n' + sumN (k + 1) g ≤ left) := by
            have h9 := HK.out
            refine ⟨?_, ?_, ?_⟩
            · rw [← h9.2.2.2.2.1]; unfold lfT; rw [if_pos hf]; omega
            · omega
            · omega
          clear ht hf hlg
          go_wp2_with fail
          refine (szPost_t (f k) a1 ((f k).d.co.length) c1 a2 ((f k).d.ip.length) c2 a3 ((f k).d.ho.length) c3 a4 ((f k).d.wd.length) c4 lf _ HK.out.2.2.2.2.2.1 HK.out.2.2.2.2.2.2.1 HK.out.2.2.2.2.2.2.2.1 HK.out.2.2.2.2.2.2.2.2 HK.out.2.1).mono ?_
          rintro e w2 ⟨rfl, b2⟩
          rw [HF.out.1]
          have HB : Hid (Below w.heap.size w w2) := bel_nx HK.out.2.2.2.1 b2
          clear b2 d0 d1 d2 d3 d4 d5
          go_wp2
          go_roundw
          case rel => exact ⟨k + 1, by omega, by go_num, HF.out.2.2, by rw [HF.out.2.1], HB.out⟩
          case measure => simp [intOf]; omega
        · have HF : Hid (lfT lf (szT 6 (trs (xsT (f k)))) = -1 ∧ lfT left (Tr.list 6 n' (fun k => trs (xsT (f k)))).sz = -1) := by
            have h9 := HK.out
            have h8 := sumN_mono g (show k + 1 ≤ n' by omega)
            have h7 := HT.out
            refine ⟨?_, ?_⟩
            · rw [← h9.2.2.2.2.1]; unfold lfT; rw [if_neg hf]
            · rw [h7]; unfold lfT; rw [if_neg (by omega)]
          clear ht hf
          go_wp2_with fail
          refine (szPost_t (f k) a1 ((f k).d.co.length) c1 a2 ((f k).d.ip.length) c2 a3 ((f k).d.ho.length) c3 a4 ((f k).d.wd.length) c4 lf _ HK.out.2.2.2.2.2.1 HK.out.2.2.2.2.2.2.1 HK.out.2.2.2.2.2.2.2.1 HK.out.2.2.2.2.2.2.2.2 HK.out.2.1).mono ?_
          rintro e w2 ⟨rfl, b2⟩
          rw [HF.out.1]
          have HB : Hid (Below w.heap.size w w2) := bel_nx HK.out.2.2.2.1 b2
          clear b2 d0 d1 d2 d3 d4 d5
          go_wp2
          go_ret
          exact ⟨(by rw [HF.out.2]; rfl), HB.out⟩
      · have hi : ¬ (k : Int) < (n' : Int) := by omega
        have e9 : k = n' := by omega
        subst e9
        have HE : Hid (lfT left (Tr.list 6 k (fun k => trs (xsT (f k)))).sz = (left : Int) - (k : Int) - (sumN k g : Int)) := by
          show _ = _
          rw [HT.out]; unfold lfT; rw [if_pos ht]; omega
        clear ht
        go_wp2
        go_ret
        exact ⟨(by rw [HE.out]; rfl), hb⟩
  · have h1 : (left : Int) - (n' : Int) < 0 := by omega
    have HE : Hid (lfT left (Tr.list 6 n' (fun k => trs (xsT (f k)))).sz = -1) := by
      show _ = _
      rw [HT.out]; unfold lfT; rw [if_neg (by omega)]
    clear hs hn hl
    go_enter Tryz.func62, Tryz.ntmps62
    go_wp2
    go_ret
    exact ⟨(by rw [HE.out]; rfl), Below.refl _ _⟩
set_option maxRecDepth 20000 in
set_option maxHeartbeats 2000000 in
theorem szPacket_t (X : VK) (a1 : Option Addr) (l1 c1 : Nat) (a2 : Option Addr) (l2 c2 : Nat) (a3 : Option Addr) (l3 c3 : Nat) (a4 : Option Addr) (l4 c4 : Nat) (left : Nat) (w : World) (r1 : Rd w 0 (intsT X.q.ws) (.slice a1 l1 c1)) (r2 : Rd w 0 (boolsT X.q.bs) (.slice a2 l2 c2)) (r3 : Rd w 0 (intsT X.a.ws) (.slice a3 l3 c3)) (r4 : Rd w 0 (boolsT X.a.bs) (.slice a4 l4 c4)) (hl : left ≤ 1048576) :
    Calls Tryz.prog 116 #[.agg (xkL X a1 l1 c1 a2 l2 c2 a3 l3 c3 a4 l4 c4).toArray, .int .i64 (left : Int)] w fun e w' => e = .returned (.int .i64 (lfT left (szT 16 (trs (xkT X))))) ∧ Below w.heap.size w w' := by
  have HT : Hid (szT 16 (trs (xkT X)) = szT 6 (trs (qT X.q)) + szT 6 (trs (aT X.a))) := by
    show _ = _
    simp only [szT_xk, szT_q, szT_a]
    try omega
  obtain ⟨t1, ht1⟩ : ∃ t : Nat, t = szT 6 (trs (qT X.q)) := ⟨_, rfl⟩
  obtain ⟨t2, ht2⟩ : ∃ t : Nat, t = szT 6 (trs (aT X.a)) := ⟨_, rfl⟩
  obtain ⟨W, hW⟩ : ∃ W, W = w.alloc (.cells (xkL X a1 l1 c1 a2 l2 c2 a3 l3 c3 a4 l4 c4).toArray 175) := ⟨_, rfl⟩
  have H0 : Hid (Below w.heap.size w W ∧ Blk W w.heap.size 175 (xkL X a1 l1 c1 a2 l2 c2 a3 l3 c3 a4 l4 c4).toArray ∧ szT 16 (trs (xkT X)) = t1 + t2 ∧ Rd w 0 (intsT X.q.ws) (.slice a1 l1 c1) ∧ Rd w 0 (boolsT X.q.bs) (.slice a2 l2 c2) ∧ Rd w 0 (intsT X.a.ws) (.slice a3 l3 c3) ∧ Rd w 0 (boolsT X.a.bs) (.slice a4 l4 c4)) := ⟨by rw [hW]; exact bel_alloc _ _, by rw [hW]; exact Blk.new _ _ _, by rw [HT.out]; omega, r1, r2, r3, r4⟩
  have K1 : Hid (t1 = szT 6 (trs (qT X.q))) := ht1
  have K2 : Hid (t2 = szT 6 (trs (aT X.a))) := ht2
  clear HT r1 r2 r3 r4 ht1 ht2
  go_enter Tryz.func116, Tryz.ntmps116
  go_upto_region 1 with fail
  rw [← hW]
  clear hW
  have G0 : Hid (Below w.heap.size w W ∧ Blk W w.heap.size 175 (xkL X a1 l1 c1 a2 l2 c2 a3 l3 c3 a4 l4 c4).toArray) := ⟨H0.out.1, H0.out.2.1⟩
  have Q0 : Hid (left ≤ 1048576 ∧ left = left) := ⟨hl, rfl⟩
  obtain ⟨⟨y0, y1, y2, y3, y4, y5, y6, y7, y8, y9, y10, y11, y12, y13, y14, y15⟩, yf⟩ := G0.out.2.tc16
  clear yf
  by_cases g1 : t1 ≤ left
  rotate_left
  · have E : Hid (lfT left (szT 6 (trs (qT X.q))) = -1 ∧ lfT left (szT 16 (trs (xkT X))) = -1) := by
      have h9 := Q0.out.2
      have h8 := H0.out.2.2.1
      refine ⟨?_, ?_⟩
      · rw [← K1.out]; unfold lfT; rw [if_neg g1]
      · rw [h8]; unfold lfT; rw [if_neg (by omega)]
    go_wp2_with fail
    refine (szReq_t X.q a1 l1 c1 a2 l2 c2 left _ (H0.out.2.2.2.1.below G0.out.1) (H0.out.2.2.2.2.1.below G0.out.1) Q0.out.1).mono ?_
    rintro e w9 ⟨rfl, b9⟩
    rw [E.out.1]
    have B9 := bel_nx G0.out.1 b9
    clear b9 y0 y1 y2 y3 y4 y5 y6 y7 y8 y9 y10 y11 y12 y13 y14 y15
    go_wp2
    go_ret
    exact ⟨by rw [E.out.2]; rfl, B9⟩
  · obtain ⟨L1, hL1⟩ : ∃ m : Nat, m + t1 = left := ⟨left - t1, by omega⟩
    have E1 : Hid (lfT left (szT 6 (trs (qT X.q))) = (L1 : Int)) := by
      show _ = _
      rw [← K1.out]; unfold lfT; rw [if_pos g1]; omega
    have n1 : ¬ ((L1 : Int) < 0) := by omega
    have Q1 : Hid (L1 ≤ 1048576 ∧ L1 + t1 = left) := by
      have h9 := Q0.out
      exact ⟨by omega, by omega⟩
    clear hL1 g1
    go_wp2_with fail
    refine (szReq_t X.q a1 l1 c1 a2 l2 c2 left _ (H0.out.2.2.2.1.below G0.out.1) (H0.out.2.2.2.2.1.below G0.out.1) Q0.out.1).mono ?_
    rintro e w1 ⟨rfl, b1⟩
    rw [E1.out]
    have G1 : Hid (Below w.heap.size w w1 ∧ Blk w1 w.heap.size 175 (xkL X a1 l1 c1 a2 l2 c2 a3 l3 c3 a4 l4 c4).toArray) := ⟨bel_nx G0.out.1 b1, G0.out.2.below b1⟩
    clear b1 y0 y1 y2 y3 y4 y5 y6 y7 y8 y9 y10 y11 y12 y13 y14 y15
    obtain ⟨⟨y0, y1, y2, y3, y4, y5, y6, y7, y8, y9, y10, y11, y12, y13, y14, y15⟩, yf⟩ := G1.out.2.tc16
    clear yf
    by_cases g2 : t2 ≤ L1
    rotate_left
    · have E : Hid (lfT L1 (szT 6 (trs (aT X.a))) = -1 ∧ lfT left (szT 16 (trs (xkT X))) = -1) := by
        have h9 := Q1.out.2
        have h8 := H0.out.2.2.1
        refine ⟨?_, ?_⟩
        · rw [← K2.out]; unfold lfT; rw [if_neg g2]
        · rw [h8]; unfold lfT; rw [if_neg (by omega)]
      go_wp2_with fail
      refine (szResp_t X.a a3 l3 c3 a4 l4 c4 L1 _ (H0.out.2.2.2.2.2.1.below G1.out.1) (H0.out.2.2.2.2.2.2.below G1.out.1) Q1.out.1).mono ?_
      rintro e w9 ⟨rfl, b9⟩
      rw [E.out.1]
      have B9 := bel_nx G1.out.1 b9
      clear b9 y0 y1 y2 y3 y4 y5 y6 y7 y8 y9 y10 y11 y12 y13 y14 y15
      go_wp2
      go_ret
      exact ⟨by rw [E.out.2]; rfl, B9⟩
    · obtain ⟨L2, hL2⟩ : ∃ m : Nat, m + t2 = L1 := ⟨L1 - t2, by omega⟩
      have E2 : Hid (lfT L1 (szT 6 (trs (aT X.a))) = (L2 : Int)) := by
        show _ = _
        rw [← K2.out]; unfold lfT; rw [if_pos g2]; omega
      have n2 : ¬ ((L2 : Int) < 0) := by omega
      have Q2 : Hid (L2 ≤ 1048576 ∧ L2 + t1 + t2 = left) := by
        have h9 := Q1.out
        exact ⟨by omega, by omega⟩
      clear hL2 g2
      go_wp2_with fail
      refine (szResp_t X.a a3 l3 c3 a4 l4 c4 L1 _ (H0.out.2.2.2.2.2.1.below G1.out.1) (H0.out.2.2.2.2.2.2.below G1.out.1) Q1.out.1).mono ?_
      rintro e w2 ⟨rfl, b2⟩
      rw [E2.out]
      have G2 : Hid (Below w.heap.size w w2 ∧ Blk w2 w.heap.size 175 (xkL X a1 l1 c1 a2 l2 c2 a3 l3 c3 a4 l4 c4).toArray) := ⟨bel_nx G1.out.1 b2, G1.out.2.below b2⟩
      clear b2 y0 y1 y2 y3 y4 y5 y6 y7 y8 y9 y10 y11 y12 y13 y14 y15
      have E : Hid (lfT left (szT 16 (trs (xkT X))) = (L2 : Int)) := by
        have h9 := Q2.out.2
        have h8 := H0.out.2.2.1
        show _ = _
        rw [h8]; unfold lfT; rw [if_pos (by omega)]; omega
      go_wp2
      go_ret
      exact ⟨by rw [E.out]; rfl, G2.out.1⟩
set_option maxRecDepth 20000 in
set_option maxHeartbeats 2000000 in
theorem szPacketS_t (n : Nat) (f : Nat → VK) (a : Option Addr) (n' cap : Nat) (left : Nat) (w : World) (hs : Rd w 0 (.list 16 n (fun k => trs (xkT (f k)))) (.slice a n' cap)) (hl : left ≤ 1048576) :
    Calls Tryz.prog 63 #[.slice a n' cap, .int .i64 (left : Int)] w fun e w' => e = .returned (.int .i64 (lfT left (Tr.list 16 n (fun k => trs (xkT (f k)))).sz)) ∧ Below w.heap.size w w' := by
  obtain ⟨a9, c9, h9, -, hn⟩ := hs.shape
  simp only [Value.slice.injEq] at h9
  obtain ⟨-, rfl, -⟩ := h9
  clear a9 c9
  unfold maxLen at hn
  have w1 : IntKind.i64.wrap ((left : Int) - (n' : Int)) = (left : Int) - (n' : Int) := by rw [IntKind.wrap_i64]; omega
  obtain ⟨g, hg⟩ : ∃ g : Nat → Nat, g = fun k => szT 16 (trs (xkT (f k))) := ⟨_, rfl⟩
  have HT : Hid ((Tr.list 16 n' (fun k => trs (xkT (f k)))).sz = n' + sumN n' g) := by show _ = _; rw [hg]; exact Tr.sz_list _ _ _
  have HG : Hid (∀ k, g k = szT 16 (trs (xkT (f k)))) := by show ∀ k, g k = _; intro k; rw [hg]
  clear hg
  by_cases h0 : n' ≤ left
  · have h1 : ¬ ((left : Int) - (n' : Int) < 0) := by omega
    have HS : Hid (Rd w 0 (.list 16 n' (fun k => trs (xkT (f k)))) (.slice a n' cap)) := hs
    have HL : Hid (left ≤ 1048576) := hl
    clear hs hn
    go_enter Tryz.func63, Tryz.ntmps63
    go_wp2
    go_loopw [1, 5] (fun lv i wr => ∃ k : Nat, k ≤ n' ∧ i = .int .i64 k ∧ n' + sumN k g ≤ left ∧ lv = .int .i64 ((left : Int) - (n' : Int) - (sumN k g : Int)) ∧ Below w.heap.size w wr) (fun _ i _ => n' - (intOf i).toNat)
    case atStart => exact ⟨0, Nat.zero_le _, rfl, by simp [sumN]; omega, by simp [sumN], Below.refl _ _⟩
    case round =>
      obtain ⟨k, hk, rfl, ht, rfl, hb⟩ := hrel
      by_cases hlt : k < n'
      · have hi : (k : Int) < (n' : Int) := by omega
        obtain ⟨b, off, vs, rfl, _, hb0, hlen, hr, hrd⟩ := (HS.out.below hb).at hlt
        obtain ⟨a1, c1, a2, c2, a3, c3, a4, c4, rfl, r1, r2, r3, r4⟩ := VK.cells hrd hlen
        clear hlen hrd
        have d0 : wr.cell? ⟨b, off + k * 16, none⟩ = _ := hr 0 _ rfl
        have d1 : wr.cell? ⟨b, off + k * 16 + 1, none⟩ = _ := hr 1 _ rfl
        have d2 : wr.cell? ⟨b, off + k * 16 + 2, none⟩ = _ := hr 2 _ rfl
        have d3 : wr.cell? ⟨b, off + k * 16 + 3, none⟩ = _ := hr 3 _ rfl
        have d4 : wr.cell? ⟨b, off + k * 16 + 4, none⟩ = _ := hr 4 _ rfl
        have d5 : wr.cell? ⟨b, off + k * 16 + 5, none⟩ = _ := hr 5 _ rfl
        have d6 : wr.cell? ⟨b, off + k * 16 + 6, none⟩ = _ := hr 6 _ rfl
        have d7 : wr.cell? ⟨b, off + k * 16 + 7, none⟩ = _ := hr 7 _ rfl
        have d8 : wr.cell? ⟨b, off + k * 16 + 8, none⟩ = _ := hr 8 _ rfl
        have d9 : wr.cell? ⟨b, off + k * 16 + 9, none⟩ = _ := hr 9 _ rfl
        have d10 : wr.cell? ⟨b, off + k * 16 + 10, none⟩ = _ := hr 10 _ rfl
        have d11 : wr.cell? ⟨b, off + k * 16 + 11, none⟩ = _ := hr 11 _ rfl
        have d12 : wr.cell? ⟨b, off + k * 16 + 12, none⟩ = _ := hr 12 _ rfl
        have d13 : wr.cell? ⟨b, off + k * 16 + 13, none⟩ = _ := hr 13 _ rfl
        have d14 : wr.cell? ⟨b, off + k * 16 + 14, none⟩ = _ := hr 14 _ rfl
        have d15 : wr.cell? ⟨b, off + k * 16 + 15, none⟩ = _ := hr 15 _ rfl
        obtain ⟨lf, hlf⟩ : ∃ lf : Nat, (lf : Int) = (left : Int) - (n' : Int) - (sumN k g : Int) := ⟨left - n' - sumN k g, by omega⟩
        rw [← hlf]
        obtain ⟨x, hx⟩ : ∃ x, x = g k := ⟨_, rfl⟩
        have HK : Hid ((lf : Int) = (left : Int) - (n' : Int) - (sumN k g : Int) ∧ lf ≤ 1048576 ∧ sumN (k + 1) g = sumN k g + x ∧ Below w.heap.size w wr ∧ x = szT 16 (trs (xkT (f k))) ∧ Rd wr 0 (intsT (f k).q.ws) (.slice a1 ((f k).q.ws.length) c1) ∧ Rd wr 0 (boolsT (f k).q.bs) (.slice a2 ((f k).q.bs.length) c2) ∧ Rd wr 0 (intsT (f k).a.ws) (.slice a3 ((f k).a.ws.length) c3) ∧ Rd wr 0 (boolsT (f k).a.bs) (.slice a4 ((f k).a.bs.length) c4)) := ⟨hlf, by have := HL.out; omega, by rw [hx]; rfl, hb, by rw [hx]; exact HG.out k, r1, r2, r3, r4⟩
        clear hlf hb HS hx hr hb0 r1 r2 r3 r4
        by_cases hf : x ≤ lf
        · obtain ⟨lg, hlg⟩ : ∃ m : Nat, m + x = lf := ⟨lf - x, by omega⟩
          have hx0 : ¬ ((lg : Int) < 0) := by omega
          have HF : Hid (lfT lf (szT 16 (trs (xkT (f k)))) = (lg : Int) ∧ (lg : Int) = (left : Int) - (n' : Int) - (sumN (k + 1) g : Int) ∧ n' + sumN (k + 1) g ≤ left) := by
            have h9 := HK.out
            refine ⟨?_, ?_, ?_⟩
            · rw [← h9.2.2.2.2.1]; unfold lfT; rw [if_pos hf]; omega
            · omega
            · omega
          clear ht hf hlg
          go_wp2_with fail
          refine (szPacket_t (f k) a1 ((f k).q.ws.length) c1 a2 ((f k).q.bs.length) c2 a3 ((f k).a.ws.length) c3 a4 ((f k).a.bs.length) c4 lf _ HK.out.2.2.2.2.2.1 HK.out.2.2.2.2.2.2.1 HK.out.2.2.2.2.2.2.2.1 HK.out.2.2.2.2.2.2.2.2 HK.out.2.1).mono ?_
          rintro e w2 ⟨rfl, b2⟩
          rw [HF.out.1]
          have HB : Hid (Below w.heap.size w w2) := bel_nx HK.out.2.2.2.1 b2
          clear b2 d0 d1 d2 d3 d4 d5 d6 d7 d8 d9 d10 d11 d12 d13 d14 d15
          go_wp2
          go_roundw
          case rel => exact ⟨k + 1, by omega, by go_num, HF.out.2.2, by rw [HF.out.2.1], HB.out⟩
          case measure => simp [intOf]; omega
        · have HF : Hid (lfT lf (szT 16 (trs (xkT (f k)))) = -1 ∧ lfT left (Tr.list 16 n' (fun k => trs (xkT (f k)))).sz = -1) := by
            have h9 := HK.out
            have h8 := sumN_mono g (show k + 1 ≤ n' by omega)
            have h7 := HT.out
            refine ⟨?_, ?_⟩
            · rw [← h9.2.2.2.2.1]; unfold lfT; rw [if_neg hf]
            · rw [h7]; unfold lfT; rw [if_neg (by omega)]
          clear ht hf
          go_wp2_with fail
          refine (szPacket_t (f k) a1 ((f k).q.ws.length) c1 a2 ((f k).q.bs.length) c2 a3 ((f k).a.ws.length) c3 a4 ((f k).a.bs.length) c4 lf _ HK.out.2.2.2.2.2.1 HK.out.2.2.2.2.2.2.1 HK.out.2.2.2.2.2.2.2.1 HK.out.2.2.2.2.2.2.2.2 HK.out.2.1).mono ?_
          rintro e w2 ⟨rfl, b2⟩
          rw [HF.out.1]
          have HB : Hid (Below w.heap.size w w2) := bel_nx HK.out.2.2.2.1 b2
          clear b2 d0 d1 d2 d3 d4 d5 d6 d7 d8 d9 d10 d11 d12 d13 d14 d15
          go_wp2
          go_ret
          exact ⟨(by rw [HF.out.2]; rfl), HB.out⟩
      · have hi : ¬ (k : Int) < (n' : Int) := by omega
        have e9 : k = n' := by omega
        subst e9
        have HE : Hid (lfT left (Tr.list 16 k (fun k => trs (xkT (f k)))).sz = (left : Int) - (k : Int) - (sumN k g : Int)) := by
          show _ = _
          rw [HT.out]; unfold lfT; rw [if_pos ht]; omega
        clear ht
        go_wp2
        go_ret
        exact ⟨(by rw [HE.out]; rfl), hb⟩
  · have h1 : (left : Int) - (n' : Int) < 0 := by omega
    have HE : Hid (lfT left (Tr.list 16 n' (fun k => trs (xkT (f k)))).sz = -1) := by
      show _ = _
      rw [HT.out]; unfold lfT; rw [if_neg (by omega)]
    clear hs hn hl
    go_enter Tryz.func63, Tryz.ntmps63
    go_wp2
    go_ret
    exact ⟨(by rw [HE.out]; rfl), Below.refl _ _⟩
set_option maxRecDepth 20000 in
set_option maxHeartbeats 2000000 in
theorem szReply_t (X : VR) (a1 : Option Addr) (l1 c1 : Nat) (a2 : Option Addr) (l2 c2 : Nat) (a3 : Option Addr) (l3 c3 : Nat) (a4 : Option Addr) (l4 c4 : Nat) (a5 : Option Addr) (l5 c5 : Nat) (a6 : Option Addr) (l6 c6 : Nat) (left : Nat) (w : World) (r1 : Rd w 0 (intsT X.q.ws) (.slice a1 l1 c1)) (r2 : Rd w 0 (boolsT X.q.bs) (.slice a2 l2 c2)) (r3 : Rd w 0 (.list 8 X.np (fun i => trs (pT (X.pt i)))) (.slice a3 l3 c3)) (r4 : Rd w 0 (.list 6 X.nt (fun i => trs (aT (X.tl i)))) (.slice a4 l4 c4)) (r5 : Rd w 0 (intsT X.a.ws) (.slice a5 l5 c5)) (r6 : Rd w 0 (boolsT X.a.bs) (.slice a6 l6 c6)) (hl : left ≤ 1048576) :
    Calls Tryz.prog 117 #[.agg (xyL X a1 l1 c1 a2 l2 c2 a3 l3 c3 a4 l4 c4 a5 l5 c5 a6 l6 c6).toArray, .int .i64 (left : Int)] w fun e w' => e = .returned (.int .i64 (lfT left (szT 16 (trs (xyT X))))) ∧ Below w.heap.size w w' := by
  have HT : Hid (szT 16 (trs (xyT X)) = szT 6 (trs (qT X.q)) + (Tr.list 8 X.np (fun i => trs (pT (X.pt i)))).sz + (Tr.list 6 X.nt (fun i => trs (aT (X.tl i)))).sz + szT 6 (trs (aT X.a))) := by
    show _ = _
    simp only [szT_xy, szT_q, szT_a]
    try omega
  obtain ⟨t1, ht1⟩ : ∃ t : Nat, t = szT 6 (trs (qT X.q)) := ⟨_, rfl⟩
  obtain ⟨t2, ht2⟩ : ∃ t : Nat, t = (Tr.list 8 X.np (fun i => trs (pT (X.pt i)))).sz := ⟨_, rfl⟩
  obtain ⟨t3, ht3⟩ : ∃ t : Nat, t = (Tr.list 6 X.nt (fun i => trs (aT (X.tl i)))).sz := ⟨_, rfl⟩
  obtain ⟨t4, ht4⟩ : ∃ t : Nat, t = szT 6 (trs (aT X.a)) := ⟨_, rfl⟩
  obtain ⟨W, hW⟩ : ∃ W, W = w.alloc (.cells (xyL X a1 l1 c1 a2 l2 c2 a3 l3 c3 a4 l4 c4 a5 l5 c5 a6 l6 c6).toArray 180) := ⟨_, rfl⟩
  have H0 : Hid (Below w.heap.size w W ∧ Blk W w.heap.size 180 (xyL X a1 l1 c1 a2 l2 c2 a3 l3 c3 a4 l4 c4 a5 l5 c5 a6 l6 c6).toArray ∧ szT 16 (trs (xyT X)) = t1 + t2 + t3 + t4 ∧ Rd w 0 (intsT X.q.ws) (.slice a1 l1 c1) ∧ Rd w 0 (boolsT X.q.bs) (.slice a2 l2 c2) ∧ Rd w 0 (.list 8 X.np (fun i => trs (pT (X.pt i)))) (.slice a3 l3 c3) ∧ Rd w 0 (.list 6 X.nt (fun i => trs (aT (X.tl i)))) (.slice a4 l4 c4) ∧ Rd w 0 (intsT X.a.ws) (.slice a5 l5 c5) ∧ Rd w 0 (boolsT X.a.bs) (.slice a6 l6 c6)) := ⟨by rw [hW]; exact bel_alloc _ _, by rw [hW]; exact Blk.new _ _ _, by rw [HT.out]; omega, r1, r2, r3, r4, r5, r6⟩
  have K1 : Hid (t1 = szT 6 (trs (qT X.q))) := ht1
  have K2 : Hid (t2 = (Tr.list 8 X.np (fun i => trs (pT (X.pt i)))).sz) := ht2
  have K3 : Hid (t3 = (Tr.list 6 X.nt (fun i => trs (aT (X.tl i)))).sz) := ht3
  have K4 : Hid (t4 = szT 6 (trs (aT X.a))) := ht4
  clear HT r1 r2 r3 r4 r5 r6 ht1 ht2 ht3 ht4
  go_enter Tryz.func117, Tryz.ntmps117
  go_upto_region 1 with fail
  rw [← hW]
  clear hW
  have G0 : Hid (Below w.heap.size w W ∧ Blk W w.heap.size 180 (xyL X a1 l1 c1 a2 l2 c2 a3 l3 c3 a4 l4 c4 a5 l5 c5 a6 l6 c6).toArray) := ⟨H0.out.1, H0.out.2.1⟩
  have Q0 : Hid (left ≤ 1048576 ∧ left = left) := ⟨hl, rfl⟩
  obtain ⟨⟨y0, y1, y2, y3, y4, y5, y6, y7, y8, y9, y10, y11, y12, y13, y14, y15⟩, yf⟩ := G0.out.2.tc16
  clear yf
  by_cases g1 : t1 ≤ left
  rotate_left
  · have E : Hid (lfT left (szT 6 (trs (qT X.q))) = -1 ∧ lfT left (szT 16 (trs (xyT X))) = -1) := by
      have h9 := Q0.out.2
      have h8 := H0.out.2.2.1
      refine ⟨?_, ?_⟩
      · rw [← K1.out]; unfold lfT; rw [if_neg g1]
      · rw [h8]; unfold lfT; rw [if_neg (by omega)]
    go_wp2_with fail
    refine (szReq_t X.q a1 l1 c1 a2 l2 c2 left _ (H0.out.2.2.2.1.below G0.out.1) (H0.out.2.2.2.2.1.below G0.out.1) Q0.out.1).mono ?_
    rintro e w9 ⟨rfl, b9⟩
    rw [E.out.1]
    have B9 := bel_nx G0.out.1 b9
    clear b9 y0 y1 y2 y3 y4 y5 y6 y7 y8 y9 y10 y11 y12 y13 y14 y15
    go_wp2
    go_ret
    exact ⟨by rw [E.out.2]; rfl, B9⟩
  · obtain ⟨L1, hL1⟩ : ∃ m : Nat, m + t1 = left := ⟨left - t1, by omega⟩
    have E1 : Hid (lfT left (szT 6 (trs (qT X.q))) = (L1 : Int)) := by
      show _ = _
      rw [← K1.out]; unfold lfT; rw [if_pos g1]; omega
    have n1 : ¬ ((L1 : Int) < 0) := by omega
    have Q1 : Hid (L1 ≤ 1048576 ∧ L1 + t1 = left) := by
      have h9 := Q0.out
      exact ⟨by omega, by omega⟩
    clear hL1 g1
    go_wp2_with fail
    refine (szReq_t X.q a1 l1 c1 a2 l2 c2 left _ (H0.out.2.2.2.1.below G0.out.1) (H0.out.2.2.2.2.1.below G0.out.1) Q0.out.1).mono ?_
    rintro e w1 ⟨rfl, b1⟩
    rw [E1.out]
    have G1 : Hid (Below w.heap.size w w1 ∧ Blk w1 w.heap.size 180 (xyL X a1 l1 c1 a2 l2 c2 a3 l3 c3 a4 l4 c4 a5 l5 c5 a6 l6 c6).toArray) := ⟨bel_nx G0.out.1 b1, G0.out.2.below b1⟩
    clear b1 y0 y1 y2 y3 y4 y5 y6 y7 y8 y9 y10 y11 y12 y13 y14 y15
    obtain ⟨⟨y0, y1, y2, y3, y4, y5, y6, y7, y8, y9, y10, y11, y12, y13, y14, y15⟩, yf⟩ := G1.out.2.tc16
    clear yf
    by_cases g2 : t2 ≤ L1
    rotate_left
    · have E : Hid (lfT L1 ((Tr.list 8 X.np (fun i => trs (pT (X.pt i)))).sz) = -1 ∧ lfT left (szT 16 (trs (xyT X))) = -1) := by
        have h9 := Q1.out.2
        have h8 := H0.out.2.2.1
        refine ⟨?_, ?_⟩
        · rw [← K2.out]; unfold lfT; rw [if_neg g2]
        · rw [h8]; unfold lfT; rw [if_neg (by omega)]
      go_wp2_with fail
      refine (szPartS_t X.np X.pt a3 l3 c3 L1 _ (H0.out.2.2.2.2.2.1.below G1.out.1) Q1.out.1).mono ?_
      rintro e w9 ⟨rfl, b9⟩
      rw [E.out.1]
      have B9 := bel_nx G1.out.1 b9
      clear b9 y0 y1 y2 y3 y4 y5 y6 y7 y8 y9 y10 y11 y12 y13 y14 y15
      go_wp2
      go_ret
      exact ⟨by rw [E.out.2]; rfl, B9⟩
    · obtain ⟨L2, hL2⟩ : ∃ m : Nat, m + t2 = L1 := ⟨L1 - t2, by omega⟩
      have E2 : Hid (lfT L1 ((Tr.list 8 X.np (fun i => trs (pT (X.pt i)))).sz) = (L2 : Int)) := by
        show _ = _
        rw [← K2.out]; unfold lfT; rw [if_pos g2]; omega
      have n2 : ¬ ((L2 : Int) < 0) := by omega
      have Q2 : Hid (L2 ≤ 1048576 ∧ L2 + t1 + t2 = left) := by
        have h9 := Q1.out
        exact ⟨by omega, by omega⟩
      clear hL2 g2
      go_wp2_with fail
      refine (szPartS_t X.np X.pt a3 l3 c3 L1 _ (H0.out.2.2.2.2.2.1.below G1.out.1) Q1.out.1).mono ?_
      rintro e w2 ⟨rfl, b2⟩
      rw [E2.out]
      have G2 : Hid (Below w.heap.size w w2 ∧ Blk w2 w.heap.size 180 (xyL X a1 l1 c1 a2 l2 c2 a3 l3 c3 a4 l4 c4 a5 l5 c5 a6 l6 c6).toArray) := ⟨bel_nx G1.out.1 b2, G1.out.2.below b2⟩
      clear b2 y0 y1 y2 y3 y4 y5 y6 y7 y8 y9 y10 y11 y12 y13 y14 y15
      obtain ⟨⟨y0, y1, y2, y3, y4, y5, y6, y7, y8, y9, y10, y11, y12, y13, y14, y15⟩, yf⟩ := G2.out.2.tc16
      clear yf
      by_cases g3 : t3 ≤ L2
      rotate_left
      · have E : Hid (lfT L2 ((Tr.list 6 X.nt (fun i => trs (aT (X.tl i)))).sz) = -1 ∧ lfT left (szT 16 (trs (xyT X))) = -1) := by
          have h9 := Q2.out.2
          have h8 := H0.out.2.2.1
          refine ⟨?_, ?_⟩
          · rw [← K3.out]; unfold lfT; rw [if_neg g3]
          · rw [h8]; unfold lfT; rw [if_neg (by omega)]
        go_wp2_with fail
        refine (szRespS_t X.nt X.tl a4 l4 c4 L2 _ (H0.out.2.2.2.2.2.2.1.below G2.out.1) Q2.out.1).mono ?_
        rintro e w9 ⟨rfl, b9⟩
        rw [E.out.1]
        have B9 := bel_nx G2.out.1 b9
        clear b9 y0 y1 y2 y3 y4 y5 y6 y7 y8 y9 y10 y11 y12 y13 y14 y15
        go_wp2
        go_ret
        exact ⟨by rw [E.out.2]; rfl, B9⟩
      · obtain ⟨L3, hL3⟩ : ∃ m : Nat, m + t3 = L2 := ⟨L2 - t3, by omega⟩
        have E3 : Hid (lfT L2 ((Tr.list 6 X.nt (fun i => trs (aT (X.tl i)))).sz) = (L3 : Int)) := by
          show _ = _
          rw [← K3.out]; unfold lfT; rw [if_pos g3]; omega
        have n3 : ¬ ((L3 : Int) < 0) := by omega
        have Q3 : Hid (L3 ≤ 1048576 ∧ L3 + t1 + t2 + t3 = left) := by
          have h9 := Q2.out
          exact ⟨by omega, by omega⟩
        clear hL3 g3
        go_wp2_with fail
        refine (szRespS_t X.nt X.tl a4 l4 c4 L2 _ (H0.out.2.2.2.2.2.2.1.below G2.out.1) Q2.out.1).mono ?_
        rintro e w3 ⟨rfl, b3⟩
        rw [E3.out]
        have G3 : Hid (Below w.heap.size w w3 ∧ Blk w3 w.heap.size 180 (xyL X a1 l1 c1 a2 l2 c2 a3 l3 c3 a4 l4 c4 a5 l5 c5 a6 l6 c6).toArray) := ⟨bel_nx G2.out.1 b3, G2.out.2.below b3⟩
        clear b3 y0 y1 y2 y3 y4 y5 y6 y7 y8 y9 y10 y11 y12 y13 y14 y15
        obtain ⟨⟨y0, y1, y2, y3, y4, y5, y6, y7, y8, y9, y10, y11, y12, y13, y14, y15⟩, yf⟩ := G3.out.2.tc16
        clear yf
        by_cases g4 : t4 ≤ L3
        rotate_left
        · have E : Hid (lfT L3 (szT 6 (trs (aT X.a))) = -1 ∧ lfT left (szT 16 (trs (xyT X))) = -1) := by
            have h9 := Q3.out.2
            have h8 := H0.out.2.2.1
            refine ⟨?_, ?_⟩
            · rw [← K4.out]; unfold lfT; rw [if_neg g4]
            · rw [h8]; unfold lfT; rw [if_neg (by omega)]
          go_wp2_with fail
          refine (szResp_t X.a a5 l5 c5 a6 l6 c6 L3 _ (H0.out.2.2.2.2.2.2.2.1.below G3.out.1) (H0.out.2.2.2.2.2.2.2.2.below G3.out.1) Q3.out.1).mono ?_
          rintro e w9 ⟨rfl, b9⟩
          rw [E.out.1]
          have B9 := bel_nx G3.out.1 b9
          clear b9 y0 y1 y2 y3 y4 y5 y6 y7 y8 y9 y10 y11 y12 y13 y14 y15
          go_wp2
          go_ret
          exact ⟨by rw [E.out.2]; rfl, B9⟩
        · obtain ⟨L4, hL4⟩ : ∃ m : Nat, m + t4 = L3 := ⟨L3 - t4, by omega⟩
          have E4 : Hid (lfT L3 (szT 6 (trs (aT X.a))) = (L4 : Int)) := by
            show _ = _
            rw [← K4.out]; unfold lfT; rw [if_pos g4]; omega
          have n4 : ¬ ((L4 : Int) < 0) := by omega
          have Q4 : Hid (L4 ≤ 1048576 ∧ L4 + t1 + t2 + t3 + t4 = left) := by
            have h9 := Q3.out
            exact ⟨by omega, by omega⟩
          clear hL4 g4
          go_wp2_with fail
          refine (szResp_t X.a a5 l5 c5 a6 l6 c6 L3 _ (H0.out.2.2.2.2.2.2.2.1.below G3.out.1) (H0.out.2.2.2.2.2.2.2.2.below G3.out.1) Q3.out.1).mono ?_
          rintro e w4 ⟨rfl, b4⟩
          rw [E4.out]
          have G4 : Hid (Below w.heap.size w w4 ∧ Blk w4 w.heap.size 180 (xyL X a1 l1 c1 a2 l2 c2 a3 l3 c3 a4 l4 c4 a5 l5 c5 a6 l6 c6).toArray) := ⟨bel_nx G3.out.1 b4, G3.out.2.below b4⟩
          clear b4 y0 y1 y2 y3 y4 y5 y6 y7 y8 y9 y10 y11 y12 y13 y14 y15
          have E : Hid (lfT left (szT 16 (trs (xyT X))) = (L4 : Int)) := by
            have h9 := Q4.out.2
            have h8 := H0.out.2.2.1
            show _ = _
            rw [h8]; unfold lfT; rw [if_pos (by omega)]; omega
          go_wp2
          go_ret
          exact ⟨by rw [E.out]; rfl, G4.out.1⟩
set_option maxRecDepth 20000 in
set_option maxHeartbeats 2000000 in
theorem szReplyS_t (n : Nat) (f : Nat → VR) (a : Option Addr) (n' cap : Nat) (left : Nat) (w : World) (hs : Rd w 0 (.list 16 n (fun k => trs (xyT (f k)))) (.slice a n' cap)) (hl : left ≤ 1048576) :
    Calls Tryz.prog 64 #[.slice a n' cap, .int .i64 (left : Int)] w fun e w' => e = .returned (.int .i64 (lfT left (Tr.list 16 n (fun k => trs (xyT (f k)))).sz)) ∧ Below w.heap.size w w' := by
  obtain ⟨a9, c9, h9, -, hn⟩ := hs.shape
  simp only [Value.slice.injEq] at h9
  obtain ⟨-, rfl, -⟩ := h9
  clear a9 c9
  unfold maxLen at hn
  have w1 : IntKind.i64.wrap ((left : Int) - (n' : Int)) = (left : Int) - (n' : Int) := by rw [IntKind.wrap_i64]; omega
  obtain ⟨g, hg⟩ : ∃ g : Nat → Nat, g = fun k => szT 16 (trs (xyT (f k))) := ⟨_, rfl⟩
  have HT : Hid ((Tr.list 16 n' (fun k => trs (xyT (f k)))).sz = n' + sumN n' g) := by show _ = _; rw [hg]; exact Tr.sz_list _ _ _
  have HG : Hid (∀ k, g k = szT 16 (trs (xyT (f k)))) := by show ∀ k, g k = _; intro k; rw [hg]
  clear hg
  by_cases h0 : n' ≤ left
  · have h1 : ¬ ((left : Int) - (n' : Int) < 0) := by omega
    have HS : Hid (Rd w 0 (.list 16 n' (fun k => trs (xyT (f k)))) (.slice a n' cap)) := hs
    have HL : Hid (left ≤ 1048576) := hl
    clear hs hn
    go_enter Tryz.func64, Tryz.ntmps64
    go_wp2
    go_loopw [1, 5] (fun lv i wr => ∃ k : Nat, k ≤ n' ∧ i = .int .i64 k ∧ n' + sumN k g ≤ left ∧ lv = .int .i64 ((left : Int) - (n' : Int) - (sumN k g : Int)) ∧ Below w.heap.size w wr) (fun _ i _ => n' - (intOf i).toNat)
    case atStart => exact ⟨0, Nat.zero_le _, rfl, by simp [sumN]; omega, by simp [sumN], Below.refl _ _⟩
    case round =>
      obtain ⟨k, hk, rfl, ht, rfl, hb⟩ := hrel
      by_cases hlt : k < n'
      · have hi : (k : Int) < (n' : Int) := by omega
        obtain ⟨b, off, vs, rfl, _, hb0, hlen, hr, hrd⟩ := (HS.out.below hb).at hlt
        obtain ⟨a1, c1, a2, c2, a3, c3, a4, c4, a5, c5, a6, c6, rfl, r1, r2, r3, r4, r5, r6⟩ := VR.cells hrd hlen
        clear hlen hrd
        have d0 : wr.cell? ⟨b, off + k * 16, none⟩ = _ := hr 0 _ rfl
        have d1 : wr.cell? ⟨b, off + k * 16 + 1, none⟩ = _ := hr 1 _ rfl
        have d2 : wr.cell? ⟨b, off + k * 16 + 2, none⟩ = _ := hr 2 _ rfl
        have d3 : wr.cell? ⟨b, off + k * 16 + 3, none⟩ = _ := hr 3 _ rfl
        have d4 : wr.cell? ⟨b, off + k * 16 + 4, none⟩ = _ := hr 4 _ rfl
        have d5 : wr.cell? ⟨b, off + k * 16 + 5, none⟩ = _ := hr 5 _ rfl
        have d6 : wr.cell? ⟨b, off + k * 16 + 6, none⟩ = _ := hr 6 _ rfl
        have d7 : wr.cell? ⟨b, off + k * 16 + 7, none⟩ = _ := hr 7 _ rfl
        have d8 : wr.cell? ⟨b, off + k * 16 + 8, none⟩ = _ := hr 8 _ rfl
        have d9 : wr.cell? ⟨b, off + k * 16 + 9, none⟩ = _ := hr 9 _ rfl
        have d10 : wr.cell? ⟨b, off + k * 16 + 10, none⟩ = _ := hr 10 _ rfl
        have d11 : wr.cell? ⟨b, off + k * 16 + 11, none⟩ = _ := hr 11 _ rfl
        have d12 : wr.cell? ⟨b, off + k * 16 + 12, none⟩ = _ := hr 12 _ rfl
        have d13 : wr.cell? ⟨b, off + k * 16 + 13, none⟩ = _ := hr 13 _ rfl
        have d14 : wr.cell? ⟨b, off + k * 16 + 14, none⟩ = _ := hr 14 _ rfl
        have d15 : wr.cell? ⟨b, off + k * 16 + 15, none⟩ = _ := hr 15 _ rfl
        obtain ⟨lf, hlf⟩ : ∃ lf : Nat, (lf : Int) = (left : Int) - (n' : Int) - (sumN k g : Int) := ⟨left - n' - sumN k g, by omega⟩
        rw [← hlf]
        obtain ⟨x, hx⟩ : ∃ x, x = g k := ⟨_, rfl⟩
        have HK : Hid ((lf : Int) = (left : Int) - (n' : Int) - (sumN k g : Int) ∧ lf ≤ 1048576 ∧ sumN (k + 1) g = sumN k g + x ∧ Below w.heap.size w wr ∧ x = szT 16 (trs (xyT (f k))) ∧ Rd wr 0 (intsT (f k).q.ws) (.slice a1 ((f k).q.ws.length) c1) ∧ Rd wr 0 (boolsT (f k).q.bs) (.slice a2 ((f k).q.bs.length) c2) ∧ Rd wr 0 (.list 8 (f k).np (fun i => trs (pT ((f k).pt i)))) (.slice a3 ((f k).np) c3) ∧ Rd wr 0 (.list 6 (f k).nt (fun i => trs (aT ((f k).tl i)))) (.slice a4 ((f k).nt) c4) ∧ Rd wr 0 (intsT (f k).a.ws) (.slice a5 ((f k).a.ws.length) c5) ∧ Rd wr 0 (boolsT (f k).a.bs) (.slice a6 ((f k).a.bs.length) c6)) := ⟨hlf, by have := HL.out; omega, by rw [hx]; rfl, hb, by rw [hx]; exact HG.out k, r1, r2, r3, r4, r5, r6⟩
        clear hlf hb HS hx hr hb0 r1 r2 r3 r4 r5 r6
        by_cases hf : x ≤ lf
        · obtain ⟨lg, hlg⟩ : ∃ m : Nat, m + x = lf := ⟨lf - x, by omega⟩
          have hx0 : ¬ ((lg : Int) < 0) := by omega
          have HF : Hid (lfT lf (szT 16 (trs (xyT (f k)))) = (lg : Int) ∧ (lg : Int) = (left : Int) - (n' : Int) - (sumN (k + 1) g : Int) ∧ n' + sumN (k + 1) g ≤ left) := by
            have h9 := HK.out
            refine ⟨?_, ?_, ?_⟩
            · rw [← h9.2.2.2.2.1]; unfold lfT; rw [if_pos hf]; omega
            · omega
            · omega
          clear ht hf hlg
          go_wp2_with fail
          refine (szReply_t (f k) a1 ((f k).q.ws.length) c1 a2 ((f k).q.bs.length) c2 a3 ((f k).np) c3 a4 ((f k).nt) c4 a5 ((f k).a.ws.length) c5 a6 ((f k).a.bs.length) c6 lf _ HK.out.2.2.2.2.2.1 HK.out.2.2.2.2.2.2.1 HK.out.2.2.2.2.2.2.2.1 HK.out.2.2.2.2.2.2.2.2.1 HK.out.2.2.2.2.2.2.2.2.2.1 HK.out.2.2.2.2.2.2.2.2.2.2 HK.out.2.1).mono ?_
          rintro e w2 ⟨rfl, b2⟩
          rw [HF.out.1]
          have HB : Hid (Below w.heap.size w w2) := bel_nx HK.out.2.2.2.1 b2
          clear b2 d0 d1 d2 d3 d4 d5 d6 d7 d8 d9 d10 d11 d12 d13 d14 d15
          go_wp2
          go_roundw
          case rel => exact ⟨k + 1, by omega, by go_num, HF.out.2.2, by rw [HF.out.2.1], HB.out⟩
          case measure => simp [intOf]; omega
        · have HF : Hid (lfT lf (szT 16 (trs (xyT (f k)))) = -1 ∧ lfT left (Tr.list 16 n' (fun k => trs (xyT (f k)))).sz = -1) := by
            have h9 := HK.out
            have h8 := sumN_mono g (show k + 1 ≤ n' by omega)
            have h7 := HT.out
            refine ⟨?_, ?_⟩
            · rw [← h9.2.2.2.2.1]; unfold lfT; rw [if_neg hf]
            · rw [h7]; unfold lfT; rw [if_neg (by omega)]
          clear ht hf
          go_wp2_with fail
          refine (szReply_t (f k) a1 ((f k).q.ws.length) c1 a2 ((f k).q.bs.length) c2 a3 ((f k).np) c3 a4 ((f k).nt) c4 a5 ((f k).a.ws.length) c5 a6 ((f k).a.bs.length) c6 lf _ HK.out.2.2.2.2.2.1 HK.out.2.2.2.2.2.2.1 HK.out.2.2.2.2.2.2.2.1 HK.out.2.2.2.2.2.2.2.2.1 HK.out.2.2.2.2.2.2.2.2.2.1 HK.out.2.2.2.2.2.2.2.2.2.2 HK.out.2.1).mono ?_
          rintro e w2 ⟨rfl, b2⟩
          rw [HF.out.1]
          have HB : Hid (Below w.heap.size w w2) := bel_nx HK.out.2.2.2.1 b2
          clear b2 d0 d1 d2 d3 d4 d5 d6 d7 d8 d9 d10 d11 d12 d13 d14 d15
          go_wp2
          go_ret
          exact ⟨(by rw [HF.out.2]; rfl), HB.out⟩
      · have hi : ¬ (k : Int) < (n' : Int) := by omega
        have e9 : k = n' := by omega
        subst e9
        have HE : Hid (lfT left (Tr.list 16 k (fun k => trs (xyT (f k)))).sz = (left : Int) - (k : Int) - (sumN k g : Int)) := by
          show _ = _
          rw [HT.out]; unfold lfT; rw [if_pos ht]; omega
        clear ht
        go_wp2
        go_ret
        exact ⟨(by rw [HE.out]; rfl), hb⟩
  · have h1 : (left : Int) - (n' : Int) < 0 := by omega
    have HE : Hid (lfT left (Tr.list 16 n' (fun k => trs (xyT (f k)))).sz = -1) := by
      show _ = _
      rw [HT.out]; unfold lfT; rw [if_neg (by omega)]
    clear hs hn hl
    go_enter Tryz.func64, Tryz.ntmps64
    go_wp2
    go_ret
    exact ⟨(by rw [HE.out]; rfl), Below.refl _ _⟩
set_option maxRecDepth 20000 in
set_option maxHeartbeats 2000000 in
theorem szServed_t (X : VE) (a1 : Option Addr) (l1 c1 : Nat) (a2 : Option Addr) (l2 c2 : Nat) (a3 : Option Addr) (l3 c3 : Nat) (a4 : Option Addr) (l4 c4 : Nat) (left : Nat) (w : World) (r1 : Rd w 0 (intsT X.q.ws) (.slice a1 l1 c1)) (r2 : Rd w 0 (boolsT X.q.bs) (.slice a2 l2 c2)) (r3 : Rd w 0 (intsT X.a.ws) (.slice a3 l3 c3)) (r4 : Rd w 0 (boolsT X.a.bs) (.slice a4 l4 c4)) (hl : left ≤ 1048576) :
    Calls Tryz.prog 118 #[.agg (xeL X a1 l1 c1 a2 l2 c2 a3 l3 c3 a4 l4 c4).toArray, .int .i64 (left : Int)] w fun e w' => e = .returned (.int .i64 (lfT left (szT 15 (trs (xeT X))))) ∧ Below w.heap.size w w' := by
  have HT : Hid (szT 15 (trs (xeT X)) = szT 6 (trs (qT X.q)) + szT 6 (trs (aT X.a))) := by
    show _ = _
    simp only [szT_xe, szT_q, szT_a]
    try omega
  obtain ⟨t1, ht1⟩ : ∃ t : Nat, t = szT 6 (trs (qT X.q)) := ⟨_, rfl⟩
  obtain ⟨t2, ht2⟩ : ∃ t : Nat, t = szT 6 (trs (aT X.a)) := ⟨_, rfl⟩
  obtain ⟨W, hW⟩ : ∃ W, W = w.alloc (.cells (xeL X a1 l1 c1 a2 l2 c2 a3 l3 c3 a4 l4 c4).toArray 183) := ⟨_, rfl⟩
  have H0 : Hid (Below w.heap.size w W ∧ Blk W w.heap.size 183 (xeL X a1 l1 c1 a2 l2 c2 a3 l3 c3 a4 l4 c4).toArray ∧ szT 15 (trs (xeT X)) = t1 + t2 ∧ Rd w 0 (intsT X.q.ws) (.slice a1 l1 c1) ∧ Rd w 0 (boolsT X.q.bs) (.slice a2 l2 c2) ∧ Rd w 0 (intsT X.a.ws) (.slice a3 l3 c3) ∧ Rd w 0 (boolsT X.a.bs) (.slice a4 l4 c4)) := ⟨by rw [hW]; exact bel_alloc _ _, by rw [hW]; exact Blk.new _ _ _, by rw [HT.out]; omega, r1, r2, r3, r4⟩
  have K1 : Hid (t1 = szT 6 (trs (qT X.q))) := ht1
  have K2 : Hid (t2 = szT 6 (trs (aT X.a))) := ht2
  clear HT r1 r2 r3 r4 ht1 ht2
  go_enter Tryz.func118, Tryz.ntmps118
  go_upto_region 1 with fail
  rw [← hW]
  clear hW
  have G0 : Hid (Below w.heap.size w W ∧ Blk W w.heap.size 183 (xeL X a1 l1 c1 a2 l2 c2 a3 l3 c3 a4 l4 c4).toArray) := ⟨H0.out.1, H0.out.2.1⟩
  have Q0 : Hid (left ≤ 1048576 ∧ left = left) := ⟨hl, rfl⟩
  obtain ⟨⟨y0, y1, y2, y3, y4, y5, y6, y7, y8, y9, y10, y11, y12, y13, y14⟩, yf⟩ := G0.out.2.tc15
  clear yf
  by_cases g1 : t1 ≤ left
  rotate_left
  · have E : Hid (lfT left (szT 6 (trs (qT X.q))) = -1 ∧ lfT left (szT 15 (trs (xeT X))) = -1) := by
      have h9 := Q0.out.2
      have h8 := H0.out.2.2.1
      refine ⟨?_, ?_⟩
      · rw [← K1.out]; unfold lfT; rw [if_neg g1]
      · rw [h8]; unfold lfT; rw [if_neg (by omega)]
    go_wp2_with fail
    refine (szReq_t X.q a1 l1 c1 a2 l2 c2 left _ (H0.out.2.2.2.1.below G0.out.1) (H0.out.2.2.2.2.1.below G0.out.1) Q0.out.1).mono ?_
    rintro e w9 ⟨rfl, b9⟩
    rw [E.out.1]
    have B9 := bel_nx G0.out.1 b9
    clear b9 y0 y1 y2 y3 y4 y5 y6 y7 y8 y9 y10 y11 y12 y13 y14
    go_wp2
    go_ret
    exact ⟨by rw [E.out.2]; rfl, B9⟩
  · obtain ⟨L1, hL1⟩ : ∃ m : Nat, m + t1 = left := ⟨left - t1, by omega⟩
    have E1 : Hid (lfT left (szT 6 (trs (qT X.q))) = (L1 : Int)) := by
      show _ = _
      rw [← K1.out]; unfold lfT; rw [if_pos g1]; omega
    have n1 : ¬ ((L1 : Int) < 0) := by omega
    have Q1 : Hid (L1 ≤ 1048576 ∧ L1 + t1 = left) := by
      have h9 := Q0.out
      exact ⟨by omega, by omega⟩
    clear hL1 g1
    go_wp2_with fail
    refine (szReq_t X.q a1 l1 c1 a2 l2 c2 left _ (H0.out.2.2.2.1.below G0.out.1) (H0.out.2.2.2.2.1.below G0.out.1) Q0.out.1).mono ?_
    rintro e w1 ⟨rfl, b1⟩
    rw [E1.out]
    have G1 : Hid (Below w.heap.size w w1 ∧ Blk w1 w.heap.size 183 (xeL X a1 l1 c1 a2 l2 c2 a3 l3 c3 a4 l4 c4).toArray) := ⟨bel_nx G0.out.1 b1, G0.out.2.below b1⟩
    clear b1 y0 y1 y2 y3 y4 y5 y6 y7 y8 y9 y10 y11 y12 y13 y14
    obtain ⟨⟨y0, y1, y2, y3, y4, y5, y6, y7, y8, y9, y10, y11, y12, y13, y14⟩, yf⟩ := G1.out.2.tc15
    clear yf
    by_cases g2 : t2 ≤ L1
    rotate_left
    · have E : Hid (lfT L1 (szT 6 (trs (aT X.a))) = -1 ∧ lfT left (szT 15 (trs (xeT X))) = -1) := by
        have h9 := Q1.out.2
        have h8 := H0.out.2.2.1
        refine ⟨?_, ?_⟩
        · rw [← K2.out]; unfold lfT; rw [if_neg g2]
        · rw [h8]; unfold lfT; rw [if_neg (by omega)]
      go_wp2_with fail
      refine (szResp_t X.a a3 l3 c3 a4 l4 c4 L1 _ (H0.out.2.2.2.2.2.1.below G1.out.1) (H0.out.2.2.2.2.2.2.below G1.out.1) Q1.out.1).mono ?_
      rintro e w9 ⟨rfl, b9⟩
      rw [E.out.1]
      have B9 := bel_nx G1.out.1 b9
      clear b9 y0 y1 y2 y3 y4 y5 y6 y7 y8 y9 y10 y11 y12 y13 y14
      go_wp2
      go_ret
      exact ⟨by rw [E.out.2]; rfl, B9⟩
    · obtain ⟨L2, hL2⟩ : ∃ m : Nat, m + t2 = L1 := ⟨L1 - t2, by omega⟩
      have E2 : Hid (lfT L1 (szT 6 (trs (aT X.a))) = (L2 : Int)) := by
        show _ = _
        rw [← K2.out]; unfold lfT; rw [if_pos g2]; omega
      have n2 : ¬ ((L2 : Int) < 0) := by omega
      have Q2 : Hid (L2 ≤ 1048576 ∧ L2 + t1 + t2 = left) := by
        have h9 := Q1.out
        exact ⟨by omega, by omega⟩
      clear hL2 g2
      go_wp2_with fail
      refine (szResp_t X.a a3 l3 c3 a4 l4 c4 L1 _ (H0.out.2.2.2.2.2.1.below G1.out.1) (H0.out.2.2.2.2.2.2.below G1.out.1) Q1.out.1).mono ?_
      rintro e w2 ⟨rfl, b2⟩
      rw [E2.out]
      have G2 : Hid (Below w.heap.size w w2 ∧ Blk w2 w.heap.size 183 (xeL X a1 l1 c1 a2 l2 c2 a3 l3 c3 a4 l4 c4).toArray) := ⟨bel_nx G1.out.1 b2, G1.out.2.below b2⟩
      clear b2 y0 y1 y2 y3 y4 y5 y6 y7 y8 y9 y10 y11 y12 y13 y14
      have E : Hid (lfT left (szT 15 (trs (xeT X))) = (L2 : Int)) := by
        have h9 := Q2.out.2
        have h8 := H0.out.2.2.1
        show _ = _
        rw [h8]; unfold lfT; rw [if_pos (by omega)]; omega
      go_wp2
      go_ret
      exact ⟨by rw [E.out]; rfl, G2.out.1⟩
set_option maxRecDepth 20000 in
set_option maxHeartbeats 2000000 in
theorem szServedS_t (n : Nat) (f : Nat → VE) (a : Option Addr) (n' cap : Nat) (left : Nat) (w : World) (hs : Rd w 0 (.list 15 n (fun k => trs (xeT (f k)))) (.slice a n' cap)) (hl : left ≤ 1048576) :
    Calls Tryz.prog 65 #[.slice a n' cap, .int .i64 (left : Int)] w fun e w' => e = .returned (.int .i64 (lfT left (Tr.list 15 n (fun k => trs (xeT (f k)))).sz)) ∧ Below w.heap.size w w' := by
  obtain ⟨a9, c9, h9, -, hn⟩ := hs.shape
  simp only [Value.slice.injEq] at h9
  obtain ⟨-, rfl, -⟩ := h9
  clear a9 c9
  unfold maxLen at hn
  have w1 : IntKind.i64.wrap ((left : Int) - (n' : Int)) = (left : Int) - (n' : Int) := by rw [IntKind.wrap_i64]; omega
  obtain ⟨g, hg⟩ : ∃ g : Nat → Nat, g = fun k => szT 15 (trs (xeT (f k))) := ⟨_, rfl⟩
  have HT : Hid ((Tr.list 15 n' (fun k => trs (xeT (f k)))).sz = n' + sumN n' g) := by show _ = _; rw [hg]; exact Tr.sz_list _ _ _
  have HG : Hid (∀ k, g k = szT 15 (trs (xeT (f k)))) := by show ∀ k, g k = _; intro k; rw [hg]
  clear hg
  by_cases h0 : n' ≤ left
  · have h1 : ¬ ((left : Int) - (n' : Int) < 0) := by omega
    have HS : Hid (Rd w 0 (.list 15 n' (fun k => trs (xeT (f k)))) (.slice a n' cap)) := hs
    have HL : Hid (left ≤ 1048576) := hl
    clear hs hn
    go_enter Tryz.func65, Tryz.ntmps65
    go_wp2
    go_loopw [1, 5] (fun lv i wr => ∃ k : Nat, k ≤ n' ∧ i = .int .i64 k ∧ n' + sumN k g ≤ left ∧ lv = .int .i64 ((left : Int) - (n' : Int) - (sumN k g : Int)) ∧ Below w.heap.size w wr) (fun _ i _ => n' - (intOf i).toNat)
    case atStart => exact ⟨0, Nat.zero_le _, rfl, by simp [sumN]; omega, by simp [sumN], Below.refl _ _⟩
    case round =>
      obtain ⟨k, hk, rfl, ht, rfl, hb⟩ := hrel
      by_cases hlt : k < n'
      · have hi : (k : Int) < (n' : Int) := by omega
        obtain ⟨b, off, vs, rfl, _, hb0, hlen, hr, hrd⟩ := (HS.out.below hb).at hlt
        obtain ⟨a1, c1, a2, c2, a3, c3, a4, c4, rfl, r1, r2, r3, r4⟩ := VE.cells hrd hlen
        clear hlen hrd
        have d0 : wr.cell? ⟨b, off + k * 15, none⟩ = _ := hr 0 _ rfl
        have d1 : wr.cell? ⟨b, off + k * 15 + 1, none⟩ = _ := hr 1 _ rfl
        have d2 : wr.cell? ⟨b, off + k * 15 + 2, none⟩ = _ := hr 2 _ rfl
        have d3 : wr.cell? ⟨b, off + k * 15 + 3, none⟩ = _ := hr 3 _ rfl
        have d4 : wr.cell? ⟨b, off + k * 15 + 4, none⟩ = _ := hr 4 _ rfl
        have d5 : wr.cell? ⟨b, off + k * 15 + 5, none⟩ = _ := hr 5 _ rfl
        have d6 : wr.cell? ⟨b, off + k * 15 + 6, none⟩ = _ := hr 6 _ rfl
        have d7 : wr.cell? ⟨b, off + k * 15 + 7, none⟩ = _ := hr 7 _ rfl
        have d8 : wr.cell? ⟨b, off + k * 15 + 8, none⟩ = _ := hr 8 _ rfl
        have d9 : wr.cell? ⟨b, off + k * 15 + 9, none⟩ = _ := hr 9 _ rfl
        have d10 : wr.cell? ⟨b, off + k * 15 + 10, none⟩ = _ := hr 10 _ rfl
        have d11 : wr.cell? ⟨b, off + k * 15 + 11, none⟩ = _ := hr 11 _ rfl
        have d12 : wr.cell? ⟨b, off + k * 15 + 12, none⟩ = _ := hr 12 _ rfl
        have d13 : wr.cell? ⟨b, off + k * 15 + 13, none⟩ = _ := hr 13 _ rfl
        have d14 : wr.cell? ⟨b, off + k * 15 + 14, none⟩ = _ := hr 14 _ rfl
        obtain ⟨lf, hlf⟩ : ∃ lf : Nat, (lf : Int) = (left : Int) - (n' : Int) - (sumN k g : Int) := ⟨left - n' - sumN k g, by omega⟩
        rw [← hlf]
        obtain ⟨x, hx⟩ : ∃ x, x = g k := ⟨_, rfl⟩
        have HK : Hid ((lf : Int) = (left : Int) - (n' : Int) - (sumN k g : Int) ∧ lf ≤ 1048576 ∧ sumN (k + 1) g = sumN k g + x ∧ Below w.heap.size w wr ∧ x = szT 15 (trs (xeT (f k))) ∧ Rd wr 0 (intsT (f k).q.ws) (.slice a1 ((f k).q.ws.length) c1) ∧ Rd wr 0 (boolsT (f k).q.bs) (.slice a2 ((f k).q.bs.length) c2) ∧ Rd wr 0 (intsT (f k).a.ws) (.slice a3 ((f k).a.ws.length) c3) ∧ Rd wr 0 (boolsT (f k).a.bs) (.slice a4 ((f k).a.bs.length) c4)) := ⟨hlf, by have := HL.out; omega, by rw [hx]; rfl, hb, by rw [hx]; exact HG.out k, r1, r2, r3, r4⟩
        clear hlf hb HS hx hr hb0 r1 r2 r3 r4
        by_cases hf : x ≤ lf
        · obtain ⟨lg, hlg⟩ : ∃ m : Nat, m + x = lf := ⟨lf - x, by omega⟩
          have hx0 : ¬ ((lg : Int) < 0) := by omega
          have HF : Hid (lfT lf (szT 15 (trs (xeT (f k)))) = (lg : Int) ∧ (lg : Int) = (left : Int) - (n' : Int) - (sumN (k + 1) g : Int) ∧ n' + sumN (k + 1) g ≤ left) := by
            have h9 := HK.out
            refine ⟨?_, ?_, ?_⟩
            · rw [← h9.2.2.2.2.1]; unfold lfT; rw [if_pos hf]; omega
            · omega
            · omega
          clear ht hf hlg
          go_wp2_with fail
          refine (szServed_t (f k) a1 ((f k).q.ws.length) c1 a2 ((f k).q.bs.length) c2 a3 ((f k).a.ws.length) c3 a4 ((f k).a.bs.length) c4 lf _ HK.out.2.2.2.2.2.1 HK.out.2.2.2.2.2.2.1 HK.out.2.2.2.2.2.2.2.1 HK.out.2.2.2.2.2.2.2.2 HK.out.2.1).mono ?_
          rintro e w2 ⟨rfl, b2⟩
          rw [HF.out.1]
          have HB : Hid (Below w.heap.size w w2) := bel_nx HK.out.2.2.2.1 b2
          clear b2 d0 d1 d2 d3 d4 d5 d6 d7 d8 d9 d10 d11 d12 d13 d14
          go_wp2
          go_roundw
          case rel => exact ⟨k + 1, by omega, by go_num, HF.out.2.2, by rw [HF.out.2.1], HB.out⟩
          case measure => simp [intOf]; omega
        · have HF : Hid (lfT lf (szT 15 (trs (xeT (f k)))) = -1 ∧ lfT left (Tr.list 15 n' (fun k => trs (xeT (f k)))).sz = -1) := by
            have h9 := HK.out
            have h8 := sumN_mono g (show k + 1 ≤ n' by omega)
            have h7 := HT.out
            refine ⟨?_, ?_⟩
            · rw [← h9.2.2.2.2.1]; unfold lfT; rw [if_neg hf]
            · rw [h7]; unfold lfT; rw [if_neg (by omega)]
          clear ht hf
          go_wp2_with fail
          refine (szServed_t (f k) a1 ((f k).q.ws.length) c1 a2 ((f k).q.bs.length) c2 a3 ((f k).a.ws.length) c3 a4 ((f k).a.bs.length) c4 lf _ HK.out.2.2.2.2.2.1 HK.out.2.2.2.2.2.2.1 HK.out.2.2.2.2.2.2.2.1 HK.out.2.2.2.2.2.2.2.2 HK.out.2.1).mono ?_
          rintro e w2 ⟨rfl, b2⟩
          rw [HF.out.1]
          have HB : Hid (Below w.heap.size w w2) := bel_nx HK.out.2.2.2.1 b2
          clear b2 d0 d1 d2 d3 d4 d5 d6 d7 d8 d9 d10 d11 d12 d13 d14
          go_wp2
          go_ret
          exact ⟨(by rw [HF.out.2]; rfl), HB.out⟩
      · have hi : ¬ (k : Int) < (n' : Int) := by omega
        have e9 : k = n' := by omega
        subst e9
        have HE : Hid (lfT left (Tr.list 15 k (fun k => trs (xeT (f k)))).sz = (left : Int) - (k : Int) - (sumN k g : Int)) := by
          show _ = _
          rw [HT.out]; unfold lfT; rw [if_pos ht]; omega
        clear ht
        go_wp2
        go_ret
        exact ⟨(by rw [HE.out]; rfl), hb⟩
  · have h1 : (left : Int) - (n' : Int) < 0 := by omega
    have HE : Hid (lfT left (Tr.list 15 n' (fun k => trs (xeT (f k)))).sz = -1) := by
      show _ = _
      rw [HT.out]; unfold lfT; rw [if_neg (by omega)]
    clear hs hn hl
    go_enter Tryz.func65, Tryz.ntmps65
    go_wp2
    go_ret
    exact ⟨(by rw [HE.out]; rfl), Below.refl _ _⟩
set_option maxRecDepth 20000 in
set_option maxHeartbeats 2000000 in
theorem szWorld_t (X : VW) (a1 : Option Addr) (l1 c1 : Nat) (a2 : Option Addr) (l2 c2 : Nat) (a3 : Option Addr) (l3 c3 : Nat) (a4 : Option Addr) (l4 c4 : Nat) (a5 : Option Addr) (l5 c5 : Nat) (a6 : Option Addr) (l6 c6 : Nat) (a7 : Option Addr) (l7 c7 : Nat) (left : Nat) (w : World) (r1 : Rd w 0 (.list 7 X.fb.set.n (fun i => trs (xrT (X.fb.set.f i)))) (.slice a1 l1 c1)) (r2 : Rd w 0 (.list 13 X.fb.op.m (fun i => trs (dT (X.fb.op.f i)))) (.slice a2 l2 c2)) (r3 : Rd w 0 (.list 17 X.fb.nl (fun i => trs (xnT (X.fb.lf i)))) (.slice a3 l3 c3)) (r4 : Rd w 0 (.list 6 X.ns (fun i => trs (xsT (X.sf i)))) (.slice a4 l4 c4)) (r5 : Rd w 0 (.list 16 X.nk (fun i => trs (xkT (X.kf i)))) (.slice a5 l5 c5)) (r6 : Rd w 0 (.list 16 X.nr (fun i => trs (xyT (X.rf i)))) (.slice a6 l6 c6)) (r7 : Rd w 0 (.list 15 X.ne (fun i => trs (xeT (X.ef i)))) (.slice a7 l7 c7)) (hl : left ≤ 1048576) :
    Calls Tryz.prog 23 #[.agg (xwL X a1 l1 c1 a2 l2 c2 a3 l3 c3 a4 l4 c4 a5 l5 c5 a6 l6 c6 a7 l7 c7).toArray, .int .i64 (left : Int)] w fun e w' => e = .returned (.int .i64 (lfT left (szT 15 (trs (xwT X))))) ∧ Below w.heap.size w w' := by
  have HT : Hid (szT 15 (trs (xwT X)) = szT 11 (trs (xfT X.fb)) + (Tr.list 6 X.ns (fun i => trs (xsT (X.sf i)))).sz + (Tr.list 16 X.nk (fun i => trs (xkT (X.kf i)))).sz + (Tr.list 16 X.nr (fun i => trs (xyT (X.rf i)))).sz + (Tr.list 15 X.ne (fun i => trs (xeT (X.ef i)))).sz) := by
    show _ = _
    simp only [szT_xw, szT_xf]
    try omega
  obtain ⟨t1, ht1⟩ : ∃ t : Nat, t = szT 11 (trs (xfT X.fb)) := ⟨_, rfl⟩
  obtain ⟨t2, ht2⟩ : ∃ t : Nat, t = (Tr.list 6 X.ns (fun i => trs (xsT (X.sf i)))).sz := ⟨_, rfl⟩
  obtain ⟨t3, ht3⟩ : ∃ t : Nat, t = (Tr.list 16 X.nk (fun i => trs (xkT (X.kf i)))).sz := ⟨_, rfl⟩
  obtain ⟨t4, ht4⟩ : ∃ t : Nat, t = (Tr.list 16 X.nr (fun i => trs (xyT (X.rf i)))).sz := ⟨_, rfl⟩
  obtain ⟨t5, ht5⟩ : ∃ t : Nat, t = (Tr.list 15 X.ne (fun i => trs (xeT (X.ef i)))).sz := ⟨_, rfl⟩
  obtain ⟨W, hW⟩ : ∃ W, W = w.alloc (.cells (xwL X a1 l1 c1 a2 l2 c2 a3 l3 c3 a4 l4 c4 a5 l5 c5 a6 l6 c6 a7 l7 c7).toArray 59) := ⟨_, rfl⟩
  have H0 : Hid (Below w.heap.size w W ∧ Blk W w.heap.size 59 (xwL X a1 l1 c1 a2 l2 c2 a3 l3 c3 a4 l4 c4 a5 l5 c5 a6 l6 c6 a7 l7 c7).toArray ∧ szT 15 (trs (xwT X)) = t1 + t2 + t3 + t4 + t5 ∧ Rd w 0 (.list 7 X.fb.set.n (fun i => trs (xrT (X.fb.set.f i)))) (.slice a1 l1 c1) ∧ Rd w 0 (.list 13 X.fb.op.m (fun i => trs (dT (X.fb.op.f i)))) (.slice a2 l2 c2) ∧ Rd w 0 (.list 17 X.fb.nl (fun i => trs (xnT (X.fb.lf i)))) (.slice a3 l3 c3) ∧ Rd w 0 (.list 6 X.ns (fun i => trs (xsT (X.sf i)))) (.slice a4 l4 c4) ∧ Rd w 0 (.list 16 X.nk (fun i => trs (xkT (X.kf i)))) (.slice a5 l5 c5) ∧ Rd w 0 (.list 16 X.nr (fun i => trs (xyT (X.rf i)))) (.slice a6 l6 c6) ∧ Rd w 0 (.list 15 X.ne (fun i => trs (xeT (X.ef i)))) (.slice a7 l7 c7)) := ⟨by rw [hW]; exact bel_alloc _ _, by rw [hW]; exact Blk.new _ _ _, by rw [HT.out]; omega, r1, r2, r3, r4, r5, r6, r7⟩
  have K1 : Hid (t1 = szT 11 (trs (xfT X.fb))) := ht1
  have K2 : Hid (t2 = (Tr.list 6 X.ns (fun i => trs (xsT (X.sf i)))).sz) := ht2
  have K3 : Hid (t3 = (Tr.list 16 X.nk (fun i => trs (xkT (X.kf i)))).sz) := ht3
  have K4 : Hid (t4 = (Tr.list 16 X.nr (fun i => trs (xyT (X.rf i)))).sz) := ht4
  have K5 : Hid (t5 = (Tr.list 15 X.ne (fun i => trs (xeT (X.ef i)))).sz) := ht5
  clear HT r1 r2 r3 r4 r5 r6 r7 ht1 ht2 ht3 ht4 ht5
  go_enter Tryz.func23, Tryz.ntmps23
  go_upto_region 1 with fail
  rw [← hW]
  clear hW
  have G0 : Hid (Below w.heap.size w W ∧ Blk W w.heap.size 59 (xwL X a1 l1 c1 a2 l2 c2 a3 l3 c3 a4 l4 c4 a5 l5 c5 a6 l6 c6 a7 l7 c7).toArray) := ⟨H0.out.1, H0.out.2.1⟩
  have Q0 : Hid (left ≤ 1048576 ∧ left = left) := ⟨hl, rfl⟩
  obtain ⟨⟨y0, y1, y2, y3, y4, y5, y6, y7, y8, y9, y10, y11, y12, y13, y14⟩, yf⟩ := G0.out.2.tc15
  clear yf
  by_cases g1 : t1 ≤ left
  rotate_left
  · have E : Hid (lfT left (szT 11 (trs (xfT X.fb))) = -1 ∧ lfT left (szT 15 (trs (xwT X))) = -1) := by
      have h9 := Q0.out.2
      have h8 := H0.out.2.2.1
      refine ⟨?_, ?_⟩
      · rw [← K1.out]; unfold lfT; rw [if_neg g1]
      · rw [h8]; unfold lfT; rw [if_neg (by omega)]
    go_wp2_with fail
    refine (szFabric_t X.fb a1 l1 c1 a2 l2 c2 a3 l3 c3 left _ (H0.out.2.2.2.1.below G0.out.1) (H0.out.2.2.2.2.1.below G0.out.1) (H0.out.2.2.2.2.2.1.below G0.out.1) Q0.out.1).mono ?_
    rintro e w9 ⟨rfl, b9⟩
    rw [E.out.1]
    have B9 := bel_nx G0.out.1 b9
    clear b9 y0 y1 y2 y3 y4 y5 y6 y7 y8 y9 y10 y11 y12 y13 y14
    go_wp2
    go_ret
    exact ⟨by rw [E.out.2]; rfl, B9⟩
  · obtain ⟨L1, hL1⟩ : ∃ m : Nat, m + t1 = left := ⟨left - t1, by omega⟩
    have E1 : Hid (lfT left (szT 11 (trs (xfT X.fb))) = (L1 : Int)) := by
      show _ = _
      rw [← K1.out]; unfold lfT; rw [if_pos g1]; omega
    have n1 : ¬ ((L1 : Int) < 0) := by omega
    have Q1 : Hid (L1 ≤ 1048576 ∧ L1 + t1 = left) := by
      have h9 := Q0.out
      exact ⟨by omega, by omega⟩
    clear hL1 g1
    go_wp2_with fail
    refine (szFabric_t X.fb a1 l1 c1 a2 l2 c2 a3 l3 c3 left _ (H0.out.2.2.2.1.below G0.out.1) (H0.out.2.2.2.2.1.below G0.out.1) (H0.out.2.2.2.2.2.1.below G0.out.1) Q0.out.1).mono ?_
    rintro e w1 ⟨rfl, b1⟩
    rw [E1.out]
    have G1 : Hid (Below w.heap.size w w1 ∧ Blk w1 w.heap.size 59 (xwL X a1 l1 c1 a2 l2 c2 a3 l3 c3 a4 l4 c4 a5 l5 c5 a6 l6 c6 a7 l7 c7).toArray) := ⟨bel_nx G0.out.1 b1, G0.out.2.below b1⟩
    clear b1 y0 y1 y2 y3 y4 y5 y6 y7 y8 y9 y10 y11 y12 y13 y14
    obtain ⟨⟨y0, y1, y2, y3, y4, y5, y6, y7, y8, y9, y10, y11, y12, y13, y14⟩, yf⟩ := G1.out.2.tc15
    clear yf
    by_cases g2 : t2 ≤ L1
    rotate_left
    · have E : Hid (lfT L1 ((Tr.list 6 X.ns (fun i => trs (xsT (X.sf i)))).sz) = -1 ∧ lfT left (szT 15 (trs (xwT X))) = -1) := by
        have h9 := Q1.out.2
        have h8 := H0.out.2.2.1
        refine ⟨?_, ?_⟩
        · rw [← K2.out]; unfold lfT; rw [if_neg g2]
        · rw [h8]; unfold lfT; rw [if_neg (by omega)]
      go_wp2_with fail
      refine (szPostS_t X.ns X.sf a4 l4 c4 L1 _ (H0.out.2.2.2.2.2.2.1.below G1.out.1) Q1.out.1).mono ?_
      rintro e w9 ⟨rfl, b9⟩
      rw [E.out.1]
      have B9 := bel_nx G1.out.1 b9
      clear b9 y0 y1 y2 y3 y4 y5 y6 y7 y8 y9 y10 y11 y12 y13 y14
      go_wp2
      go_ret
      exact ⟨by rw [E.out.2]; rfl, B9⟩
    · obtain ⟨L2, hL2⟩ : ∃ m : Nat, m + t2 = L1 := ⟨L1 - t2, by omega⟩
      have E2 : Hid (lfT L1 ((Tr.list 6 X.ns (fun i => trs (xsT (X.sf i)))).sz) = (L2 : Int)) := by
        show _ = _
        rw [← K2.out]; unfold lfT; rw [if_pos g2]; omega
      have n2 : ¬ ((L2 : Int) < 0) := by omega
      have Q2 : Hid (L2 ≤ 1048576 ∧ L2 + t1 + t2 = left) := by
        have h9 := Q1.out
        exact ⟨by omega, by omega⟩
      clear hL2 g2
      go_wp2_with fail
      refine (szPostS_t X.ns X.sf a4 l4 c4 L1 _ (H0.out.2.2.2.2.2.2.1.below G1.out.1) Q1.out.1).mono ?_
      rintro e w2 ⟨rfl, b2⟩
      rw [E2.out]
      have G2 : Hid (Below w.heap.size w w2 ∧ Blk w2 w.heap.size 59 (xwL X a1 l1 c1 a2 l2 c2 a3 l3 c3 a4 l4 c4 a5 l5 c5 a6 l6 c6 a7 l7 c7).toArray) := ⟨bel_nx G1.out.1 b2, G1.out.2.below b2⟩
      clear b2 y0 y1 y2 y3 y4 y5 y6 y7 y8 y9 y10 y11 y12 y13 y14
      obtain ⟨⟨y0, y1, y2, y3, y4, y5, y6, y7, y8, y9, y10, y11, y12, y13, y14⟩, yf⟩ := G2.out.2.tc15
      clear yf
      by_cases g3 : t3 ≤ L2
      rotate_left
      · have E : Hid (lfT L2 ((Tr.list 16 X.nk (fun i => trs (xkT (X.kf i)))).sz) = -1 ∧ lfT left (szT 15 (trs (xwT X))) = -1) := by
          have h9 := Q2.out.2
          have h8 := H0.out.2.2.1
          refine ⟨?_, ?_⟩
          · rw [← K3.out]; unfold lfT; rw [if_neg g3]
          · rw [h8]; unfold lfT; rw [if_neg (by omega)]
        go_wp2_with fail
        refine (szPacketS_t X.nk X.kf a5 l5 c5 L2 _ (H0.out.2.2.2.2.2.2.2.1.below G2.out.1) Q2.out.1).mono ?_
        rintro e w9 ⟨rfl, b9⟩
        rw [E.out.1]
        have B9 := bel_nx G2.out.1 b9
        clear b9 y0 y1 y2 y3 y4 y5 y6 y7 y8 y9 y10 y11 y12 y13 y14
        go_wp2
        go_ret
        exact ⟨by rw [E.out.2]; rfl, B9⟩
      · obtain ⟨L3, hL3⟩ : ∃ m : Nat, m + t3 = L2 := ⟨L2 - t3, by omega⟩
        have E3 : Hid (lfT L2 ((Tr.list 16 X.nk (fun i => trs (xkT (X.kf i)))).sz) = (L3 : Int)) := by
          show _ = _
          rw [← K3.out]; unfold lfT; rw [if_pos g3]; omega
        have n3 : ¬ ((L3 : Int) < 0) := by omega
        have Q3 : Hid (L3 ≤ 1048576 ∧ L3 + t1 + t2 + t3 = left) := by
          have h9 := Q2.out
          exact ⟨by omega, by omega⟩
        clear hL3 g3
        go_wp2_with fail
        refine (szPacketS_t X.nk X.kf a5 l5 c5 L2 _ (H0.out.2.2.2.2.2.2.2.1.below G2.out.1) Q2.out.1).mono ?_
        rintro e w3 ⟨rfl, b3⟩
        rw [E3.out]
        have G3 : Hid (Below w.heap.size w w3 ∧ Blk w3 w.heap.size 59 (xwL X a1 l1 c1 a2 l2 c2 a3 l3 c3 a4 l4 c4 a5 l5 c5 a6 l6 c6 a7 l7 c7).toArray) := ⟨bel_nx G2.out.1 b3, G2.out.2.below b3⟩
        clear b3 y0 y1 y2 y3 y4 y5 y6 y7 y8 y9 y10 y11 y12 y13 y14
        obtain ⟨⟨y0, y1, y2, y3, y4, y5, y6, y7, y8, y9, y10, y11, y12, y13, y14⟩, yf⟩ := G3.out.2.tc15
        clear yf
        by_cases g4 : t4 ≤ L3
        rotate_left
        · have E : Hid (lfT L3 ((Tr.list 16 X.nr (fun i => trs (xyT (X.rf i)))).sz) = -1 ∧ lfT left (szT 15 (trs (xwT X))) = -1) := by
            have h9 := Q3.out.2
            have h8 := H0.out.2.2.1
            refine ⟨?_, ?_⟩
            · rw [← K4.out]; unfold lfT; rw [if_neg g4]
            · rw [h8]; unfold lfT; rw [if_neg (by omega)]
          go_wp2_with fail
          refine (szReplyS_t X.nr X.rf a6 l6 c6 L3 _ (H0.out.2.2.2.2.2.2.2.2.1.below G3.out.1) Q3.out.1).mono ?_
          rintro e w9 ⟨rfl, b9⟩
          rw [E.out.1]
          have B9 := bel_nx G3.out.1 b9
          clear b9 y0 y1 y2 y3 y4 y5 y6 y7 y8 y9 y10 y11 y12 y13 y14
          go_wp2
          go_ret
          exact ⟨by rw [E.out.2]; rfl, B9⟩
        · obtain ⟨L4, hL4⟩ : ∃ m : Nat, m + t4 = L3 := ⟨L3 - t4, by omega⟩
          have E4 : Hid (lfT L3 ((Tr.list 16 X.nr (fun i => trs (xyT (X.rf i)))).sz) = (L4 : Int)) := by
            show _ = _
            rw [← K4.out]; unfold lfT; rw [if_pos g4]; omega
          have n4 : ¬ ((L4 : Int) < 0) := by omega
          have Q4 : Hid (L4 ≤ 1048576 ∧ L4 + t1 + t2 + t3 + t4 = left) := by
            have h9 := Q3.out
            exact ⟨by omega, by omega⟩
          clear hL4 g4
          go_wp2_with fail
          refine (szReplyS_t X.nr X.rf a6 l6 c6 L3 _ (H0.out.2.2.2.2.2.2.2.2.1.below G3.out.1) Q3.out.1).mono ?_
          rintro e w4 ⟨rfl, b4⟩
          rw [E4.out]
          have G4 : Hid (Below w.heap.size w w4 ∧ Blk w4 w.heap.size 59 (xwL X a1 l1 c1 a2 l2 c2 a3 l3 c3 a4 l4 c4 a5 l5 c5 a6 l6 c6 a7 l7 c7).toArray) := ⟨bel_nx G3.out.1 b4, G3.out.2.below b4⟩
          clear b4 y0 y1 y2 y3 y4 y5 y6 y7 y8 y9 y10 y11 y12 y13 y14
          obtain ⟨⟨y0, y1, y2, y3, y4, y5, y6, y7, y8, y9, y10, y11, y12, y13, y14⟩, yf⟩ := G4.out.2.tc15
          clear yf
          by_cases g5 : t5 ≤ L4
          rotate_left
          · have E : Hid (lfT L4 ((Tr.list 15 X.ne (fun i => trs (xeT (X.ef i)))).sz) = -1 ∧ lfT left (szT 15 (trs (xwT X))) = -1) := by
              have h9 := Q4.out.2
              have h8 := H0.out.2.2.1
              refine ⟨?_, ?_⟩
              · rw [← K5.out]; unfold lfT; rw [if_neg g5]
              · rw [h8]; unfold lfT; rw [if_neg (by omega)]
            go_wp2_with fail
            refine (szServedS_t X.ne X.ef a7 l7 c7 L4 _ (H0.out.2.2.2.2.2.2.2.2.2.below G4.out.1) Q4.out.1).mono ?_
            rintro e w9 ⟨rfl, b9⟩
            rw [E.out.1]
            have B9 := bel_nx G4.out.1 b9
            clear b9 y0 y1 y2 y3 y4 y5 y6 y7 y8 y9 y10 y11 y12 y13 y14
            go_wp2
            go_ret
            exact ⟨by rw [E.out.2]; rfl, B9⟩
          · obtain ⟨L5, hL5⟩ : ∃ m : Nat, m + t5 = L4 := ⟨L4 - t5, by omega⟩
            have E5 : Hid (lfT L4 ((Tr.list 15 X.ne (fun i => trs (xeT (X.ef i)))).sz) = (L5 : Int)) := by
              show _ = _
              rw [← K5.out]; unfold lfT; rw [if_pos g5]; omega
            have n5 : ¬ ((L5 : Int) < 0) := by omega
            have Q5 : Hid (L5 ≤ 1048576 ∧ L5 + t1 + t2 + t3 + t4 + t5 = left) := by
              have h9 := Q4.out
              exact ⟨by omega, by omega⟩
            clear hL5 g5
            go_wp2_with fail
            refine (szServedS_t X.ne X.ef a7 l7 c7 L4 _ (H0.out.2.2.2.2.2.2.2.2.2.below G4.out.1) Q4.out.1).mono ?_
            rintro e w5 ⟨rfl, b5⟩
            rw [E5.out]
            have G5 : Hid (Below w.heap.size w w5 ∧ Blk w5 w.heap.size 59 (xwL X a1 l1 c1 a2 l2 c2 a3 l3 c3 a4 l4 c4 a5 l5 c5 a6 l6 c6 a7 l7 c7).toArray) := ⟨bel_nx G4.out.1 b5, G4.out.2.below b5⟩
            clear b5 y0 y1 y2 y3 y4 y5 y6 y7 y8 y9 y10 y11 y12 y13 y14
            have E : Hid (lfT left (szT 15 (trs (xwT X))) = (L5 : Int)) := by
              have h9 := Q5.out.2
              have h8 := H0.out.2.2.1
              show _ = _
              rw [h8]; unfold lfT; rw [if_pos (by omega)]; omega
            go_wp2
            go_ret
            exact ⟨by rw [E.out]; rfl, G5.out.1⟩
end Go.Proofs.YtpgcankjhkchjaaGreat
