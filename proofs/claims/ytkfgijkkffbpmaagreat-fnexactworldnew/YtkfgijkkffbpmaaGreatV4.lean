/- Texts that the proof needs, joined: Tr11 ArgPs SrP RgI RgV RgW RgX Sr1. -/
import Derived.Test.YtkfgijkkffbpmaaGreatV2
import Derived.Test.YtkfgijkkffbpmaaGreatV3
import Derived.Test.YtkfgijkkffbpmaaGreatV1
import Derived.RegionTactic
import Derived.Below
set_option linter.unusedVariables false
set_option linter.unusedSimpArgs false
set_option maxHeartbeats 2000000
set_option maxRecDepth 20000
namespace Go.Proofs.YtkfgijkkffbpmaaGreat
open Go.RowKit Go.Joins
theorem ruS_sz (n : Nat) (f : Nat -> Ru) : (Tr.list 7 n (fun k => trs (xrT (f k)))).sz = n := by
 rw [Tr.sz_list, sum0 _ _ (fun k => szT_xr (f k)), Nat.add_zero]
theorem Blk.tc4 {w : World} {g : Nat} {t : TypeId} {v0 v1 v2 v3 : Value} (h : Blk w g t #[v0, v1, v2, v3]) : (w.cell? ⟨g, 0, none⟩ = some v0 /\ w.cell? ⟨g, 1, none⟩ = some v1 /\ w.cell? ⟨g, 2, none⟩ = some v2 /\ w.cell? ⟨g, 3, none⟩ = some v3) /\ ∀ j, w.frozen? ⟨g, j, none⟩ = false :=
 ⟨⟨h.cell 0 rfl, h.cell 1 rfl, h.cell 2 rfl, h.cell 3 rfl⟩, h.fro⟩
theorem Blk.tc15 {w : World} {g : Nat} {t : TypeId} {v0 v1 v2 v3 v4 v5 v6 v7 v8 v9 v10 v11 v12 v13 v14 : Value} (h : Blk w g t #[v0, v1, v2, v3, v4, v5, v6, v7, v8, v9, v10, v11, v12, v13, v14]) : (w.cell? ⟨g, 0, none⟩ = some v0 /\ w.cell? ⟨g, 1, none⟩ = some v1 /\ w.cell? ⟨g, 2, none⟩ = some v2 /\ w.cell? ⟨g, 3, none⟩ = some v3 /\ w.cell? ⟨g, 4, none⟩ = some v4 /\ w.cell? ⟨g, 5, none⟩ = some v5 /\ w.cell? ⟨g, 6, none⟩ = some v6 /\ w.cell? ⟨g, 7, none⟩ = some v7 /\ w.cell? ⟨g, 8, none⟩ = some v8 /\ w.cell? ⟨g, 9, none⟩ = some v9 /\ w.cell? ⟨g, 10, none⟩ = some v10 /\ w.cell? ⟨g, 11, none⟩ = some v11 /\ w.cell? ⟨g, 12, none⟩ = some v12 /\ w.cell? ⟨g, 13, none⟩ = some v13 /\ w.cell? ⟨g, 14, none⟩ = some v14) /\ ∀ j, w.frozen? ⟨g, j, none⟩ = false :=
 ⟨⟨h.cell 0 rfl, h.cell 1 rfl, h.cell 2 rfl, h.cell 3 rfl, h.cell 4 rfl, h.cell 5 rfl, h.cell 6 rfl, h.cell 7 rfl, h.cell 8 rfl, h.cell 9 rfl, h.cell 10 rfl, h.cell 11 rfl, h.cell 12 rfl, h.cell 13 rfl, h.cell 14 rfl⟩, h.fro⟩
theorem Blk.tc16 {w : World} {g : Nat} {t : TypeId} {v0 v1 v2 v3 v4 v5 v6 v7 v8 v9 v10 v11 v12 v13 v14 v15 : Value} (h : Blk w g t #[v0, v1, v2, v3, v4, v5, v6, v7, v8, v9, v10, v11, v12, v13, v14, v15]) : (w.cell? ⟨g, 0, none⟩ = some v0 /\ w.cell? ⟨g, 1, none⟩ = some v1 /\ w.cell? ⟨g, 2, none⟩ = some v2 /\ w.cell? ⟨g, 3, none⟩ = some v3 /\ w.cell? ⟨g, 4, none⟩ = some v4 /\ w.cell? ⟨g, 5, none⟩ = some v5 /\ w.cell? ⟨g, 6, none⟩ = some v6 /\ w.cell? ⟨g, 7, none⟩ = some v7 /\ w.cell? ⟨g, 8, none⟩ = some v8 /\ w.cell? ⟨g, 9, none⟩ = some v9 /\ w.cell? ⟨g, 10, none⟩ = some v10 /\ w.cell? ⟨g, 11, none⟩ = some v11 /\ w.cell? ⟨g, 12, none⟩ = some v12 /\ w.cell? ⟨g, 13, none⟩ = some v13 /\ w.cell? ⟨g, 14, none⟩ = some v14 /\ w.cell? ⟨g, 15, none⟩ = some v15) /\ ∀ j, w.frozen? ⟨g, j, none⟩ = false :=
 ⟨⟨h.cell 0 rfl, h.cell 1 rfl, h.cell 2 rfl, h.cell 3 rfl, h.cell 4 rfl, h.cell 5 rfl, h.cell 6 rfl, h.cell 7 rfl, h.cell 8 rfl, h.cell 9 rfl, h.cell 10 rfl, h.cell 11 rfl, h.cell 12 rfl, h.cell 13 rfl, h.cell 14 rfl, h.cell 15 rfl⟩, h.fro⟩
theorem szDevice_t (X : VI) (a1 : Option Addr) (l1 c1 : Nat) (a2 : Option Addr) (l2 c2 : Nat) (a3 : Option Addr) (l3 c3 : Nat) (a4 : Option Addr) (l4 c4 : Nat) (left : Nat) (w : World) (r1 : Rd w 0 (boolsT X.co) (.slice a1 l1 c1)) (r2 : Rd w 0 (boolsT X.ip) (.slice a2 l2 c2)) (r3 : Rd w 0 (intsT X.ho) (.slice a3 l3 c3)) (r4 : Rd w 0 (intsT X.wd) (.slice a4 l4 c4)) (hl : left <= 1048576) :
 Calls Tryz.prog 131 #[.agg (xdL X a1 l1 c1 a2 l2 c2 a3 l3 c3 a4 l4 c4).toArray, .int .i64 (left : Int)] w fun e w' => e = .returned (.int .i64 (lfT left (szT 4 (trs (xdT X))))) /\ Below w.heap.size w w' := by
 have HT : Hid (szT 4 (trs (xdT X)) = X.co.length + X.ip.length + X.ho.length + X.wd.length) := by
  show _ = _
  simp only [szT_xd]
  try omega
 obtain ⟨t1, ht1⟩ : ∃ t : Nat, t = X.co.length := ⟨_, rfl⟩
 obtain ⟨t2, ht2⟩ : ∃ t : Nat, t = X.ip.length := ⟨_, rfl⟩
 obtain ⟨t3, ht3⟩ : ∃ t : Nat, t = X.ho.length := ⟨_, rfl⟩
 obtain ⟨t4, ht4⟩ : ∃ t : Nat, t = X.wd.length := ⟨_, rfl⟩
 obtain ⟨W, hW⟩ : ∃ W, W = w.alloc (.cells (xdL X a1 l1 c1 a2 l2 c2 a3 l3 c3 a4 l4 c4).toArray 120) := ⟨_, rfl⟩
 have H0 : Hid (Below w.heap.size w W /\ Blk W w.heap.size 120 (xdL X a1 l1 c1 a2 l2 c2 a3 l3 c3 a4 l4 c4).toArray /\ szT 4 (trs (xdT X)) = t1 + t2 + t3 + t4 /\ Rd w 0 (boolsT X.co) (.slice a1 l1 c1) /\ Rd w 0 (boolsT X.ip) (.slice a2 l2 c2) /\ Rd w 0 (intsT X.ho) (.slice a3 l3 c3) /\ Rd w 0 (intsT X.wd) (.slice a4 l4 c4)) := ⟨by rw [hW]; exact bel_alloc _ _, by rw [hW]; exact Blk.new _ _ _, by rw [HT.out]; omega, r1, r2, r3, r4⟩
 have K1 : Hid (t1 = X.co.length) := ht1
 have K2 : Hid (t2 = X.ip.length) := ht2
 have K3 : Hid (t3 = X.ho.length) := ht3
 have K4 : Hid (t4 = X.wd.length) := ht4
 clear HT r1 r2 r3 r4 ht1 ht2 ht3 ht4
 go_enter Tryz.func131, Tryz.ntmps131
 go_upto_region 1 with fail
 rw [<- hW]
 clear hW
 have G0 : Hid (Below w.heap.size w W /\ Blk W w.heap.size 120 (xdL X a1 l1 c1 a2 l2 c2 a3 l3 c3 a4 l4 c4).toArray) := ⟨H0.out.1, H0.out.2.1⟩
 have Q0 : Hid (left <= 1048576 /\ left = left) := ⟨hl, rfl⟩
 obtain ⟨⟨y0, y1, y2, y3⟩, yf⟩ := G0.out.2.tc4
 clear yf
 by_cases g1 : t1 <= left
 rotate_left
 ·have E : Hid (lfT left (X.co.length) = -1 /\ lfT left (szT 4 (trs (xdT X))) = -1) := by
   have h9 := Q0.out.2
   have h8 := H0.out.2.2.1
   refine ⟨?_, ?_⟩
   ·rw [<- K1.out]; unfold lfT; rw [if_neg g1]
   rw [h8]; unfold lfT; rw [if_neg (by omega)]
  go_wp2_with fail
  refine (szBoolS_t X.co a1 l1 c1 left _ (H0.out.2.2.2.1.below G0.out.1) Q0.out.1).mono ?_
  rintro e w9 ⟨rfl, b9⟩
  rw [E.out.1]
  have B9 := bel_nx G0.out.1 b9
  clear b9 y0 y1 y2 y3
  go_wp2
  go_ret
  exact ⟨by rw [E.out.2]; rfl, B9⟩
 obtain ⟨L1, hL1⟩ : ∃ m : Nat, m + t1 = left := ⟨left - t1, by omega⟩
 have E1 : Hid (lfT left (X.co.length) = (L1 : Int)) := by
  show _ = _
  rw [<- K1.out]; unfold lfT; rw [if_pos g1]; omega
 have n1 : ¬ ((L1 : Int) < 0) := by omega
 have Q1 : Hid (L1 <= 1048576 /\ L1 + t1 = left) := by
  have h9 := Q0.out
  exact ⟨by omega, by omega⟩
 clear hL1 g1
 go_wp2_with fail
 refine (szBoolS_t X.co a1 l1 c1 left _ (H0.out.2.2.2.1.below G0.out.1) Q0.out.1).mono ?_
 rintro e w1 ⟨rfl, b1⟩
 rw [E1.out]
 have G1 : Hid (Below w.heap.size w w1 /\ Blk w1 w.heap.size 120 (xdL X a1 l1 c1 a2 l2 c2 a3 l3 c3 a4 l4 c4).toArray) := ⟨bel_nx G0.out.1 b1, G0.out.2.below b1⟩
 clear b1 y0 y1 y2 y3
 obtain ⟨⟨y0, y1, y2, y3⟩, yf⟩ := G1.out.2.tc4
 clear yf
 by_cases g2 : t2 <= L1
 rotate_left
 ·have E : Hid (lfT L1 (X.ip.length) = -1 /\ lfT left (szT 4 (trs (xdT X))) = -1) := by
   have h9 := Q1.out.2
   have h8 := H0.out.2.2.1
   refine ⟨?_, ?_⟩
   ·rw [<- K2.out]; unfold lfT; rw [if_neg g2]
   rw [h8]; unfold lfT; rw [if_neg (by omega)]
  go_wp2_with fail
  refine (szBoolS_t X.ip a2 l2 c2 L1 _ (H0.out.2.2.2.2.1.below G1.out.1) Q1.out.1).mono ?_
  rintro e w9 ⟨rfl, b9⟩
  rw [E.out.1]
  have B9 := bel_nx G1.out.1 b9
  clear b9 y0 y1 y2 y3
  go_wp2
  go_ret
  exact ⟨by rw [E.out.2]; rfl, B9⟩
 obtain ⟨L2, hL2⟩ : ∃ m : Nat, m + t2 = L1 := ⟨L1 - t2, by omega⟩
 have E2 : Hid (lfT L1 (X.ip.length) = (L2 : Int)) := by
  show _ = _
  rw [<- K2.out]; unfold lfT; rw [if_pos g2]; omega
 have n2 : ¬ ((L2 : Int) < 0) := by omega
 have Q2 : Hid (L2 <= 1048576 /\ L2 + t1 + t2 = left) := by
  have h9 := Q1.out
  exact ⟨by omega, by omega⟩
 clear hL2 g2
 go_wp2_with fail
 refine (szBoolS_t X.ip a2 l2 c2 L1 _ (H0.out.2.2.2.2.1.below G1.out.1) Q1.out.1).mono ?_
 rintro e w2 ⟨rfl, b2⟩
 rw [E2.out]
 have G2 : Hid (Below w.heap.size w w2 /\ Blk w2 w.heap.size 120 (xdL X a1 l1 c1 a2 l2 c2 a3 l3 c3 a4 l4 c4).toArray) := ⟨bel_nx G1.out.1 b2, G1.out.2.below b2⟩
 clear b2 y0 y1 y2 y3
 obtain ⟨⟨y0, y1, y2, y3⟩, yf⟩ := G2.out.2.tc4
 clear yf
 by_cases g3 : t3 <= L2
 rotate_left
 ·have E : Hid (lfT L2 (X.ho.length) = -1 /\ lfT left (szT 4 (trs (xdT X))) = -1) := by
   have h9 := Q2.out.2
   have h8 := H0.out.2.2.1
   refine ⟨?_, ?_⟩
   ·rw [<- K3.out]; unfold lfT; rw [if_neg g3]
   rw [h8]; unfold lfT; rw [if_neg (by omega)]
  go_wp2_with fail
  refine (szIntS_t X.ho a3 l3 c3 L2 _ (H0.out.2.2.2.2.2.1.below G2.out.1) Q2.out.1).mono ?_
  rintro e w9 ⟨rfl, b9⟩
  rw [E.out.1]
  have B9 := bel_nx G2.out.1 b9
  clear b9 y0 y1 y2 y3
  go_wp2
  go_ret
  exact ⟨by rw [E.out.2]; rfl, B9⟩
 obtain ⟨L3, hL3⟩ : ∃ m : Nat, m + t3 = L2 := ⟨L2 - t3, by omega⟩
 have E3 : Hid (lfT L2 (X.ho.length) = (L3 : Int)) := by
  show _ = _
  rw [<- K3.out]; unfold lfT; rw [if_pos g3]; omega
 have n3 : ¬ ((L3 : Int) < 0) := by omega
 have Q3 : Hid (L3 <= 1048576 /\ L3 + t1 + t2 + t3 = left) := by
  have h9 := Q2.out
  exact ⟨by omega, by omega⟩
 clear hL3 g3
 go_wp2_with fail
 refine (szIntS_t X.ho a3 l3 c3 L2 _ (H0.out.2.2.2.2.2.1.below G2.out.1) Q2.out.1).mono ?_
 rintro e w3 ⟨rfl, b3⟩
 rw [E3.out]
 have G3 : Hid (Below w.heap.size w w3 /\ Blk w3 w.heap.size 120 (xdL X a1 l1 c1 a2 l2 c2 a3 l3 c3 a4 l4 c4).toArray) := ⟨bel_nx G2.out.1 b3, G2.out.2.below b3⟩
 clear b3 y0 y1 y2 y3
 obtain ⟨⟨y0, y1, y2, y3⟩, yf⟩ := G3.out.2.tc4
 clear yf
 by_cases g4 : t4 <= L3
 rotate_left
 ·have E : Hid (lfT L3 (X.wd.length) = -1 /\ lfT left (szT 4 (trs (xdT X))) = -1) := by
   have h9 := Q3.out.2
   have h8 := H0.out.2.2.1
   refine ⟨?_, ?_⟩
   ·rw [<- K4.out]; unfold lfT; rw [if_neg g4]
   rw [h8]; unfold lfT; rw [if_neg (by omega)]
  go_wp2_with fail
  refine (szIntS_t X.wd a4 l4 c4 L3 _ (H0.out.2.2.2.2.2.2.below G3.out.1) Q3.out.1).mono ?_
  rintro e w9 ⟨rfl, b9⟩
  rw [E.out.1]
  have B9 := bel_nx G3.out.1 b9
  clear b9 y0 y1 y2 y3
  go_wp2
  go_ret
  exact ⟨by rw [E.out.2]; rfl, B9⟩
 obtain ⟨L4, hL4⟩ : ∃ m : Nat, m + t4 = L3 := ⟨L3 - t4, by omega⟩
 have E4 : Hid (lfT L3 (X.wd.length) = (L4 : Int)) := by
  show _ = _
  rw [<- K4.out]; unfold lfT; rw [if_pos g4]; omega
 have n4 : ¬ ((L4 : Int) < 0) := by omega
 have Q4 : Hid (L4 <= 1048576 /\ L4 + t1 + t2 + t3 + t4 = left) := by
  have h9 := Q3.out
  exact ⟨by omega, by omega⟩
 clear hL4 g4
 go_wp2_with fail
 refine (szIntS_t X.wd a4 l4 c4 L3 _ (H0.out.2.2.2.2.2.2.below G3.out.1) Q3.out.1).mono ?_
 rintro e w4 ⟨rfl, b4⟩
 rw [E4.out]
 have G4 : Hid (Below w.heap.size w w4 /\ Blk w4 w.heap.size 120 (xdL X a1 l1 c1 a2 l2 c2 a3 l3 c3 a4 l4 c4).toArray) := ⟨bel_nx G3.out.1 b4, G3.out.2.below b4⟩
 clear b4 y0 y1 y2 y3
 have E : Hid (lfT left (szT 4 (trs (xdT X))) = (L4 : Int)) := by
  have h9 := Q4.out.2
  have h8 := H0.out.2.2.1
  show _ = _
  rw [h8]; unfold lfT; rw [if_pos (by omega)]; omega
 go_wp2
 go_ret
 exact ⟨by rw [E.out]; rfl, G4.out.1⟩
theorem szPost_t (X : VS) (a1 : Option Addr) (l1 c1 : Nat) (a2 : Option Addr) (l2 c2 : Nat) (a3 : Option Addr) (l3 c3 : Nat) (a4 : Option Addr) (l4 c4 : Nat) (left : Nat) (w : World) (r1 : Rd w 0 (boolsT X.d.co) (.slice a1 l1 c1)) (r2 : Rd w 0 (boolsT X.d.ip) (.slice a2 l2 c2)) (r3 : Rd w 0 (intsT X.d.ho) (.slice a3 l3 c3)) (r4 : Rd w 0 (intsT X.d.wd) (.slice a4 l4 c4)) (hl : left <= 1048576) :
 Calls Tryz.prog 68 #[.agg (xsL X a1 l1 c1 a2 l2 c2 a3 l3 c3 a4 l4 c4).toArray, .int .i64 (left : Int)] w fun e w' => e = .returned (.int .i64 (lfT left (szT 6 (trs (xsT X))))) /\ Below w.heap.size w w' := by
 have HT : Hid (szT 6 (trs (xsT X)) = szT 4 (trs (xdT X.d))) := by
  show _ = _
  simp only [szT_xs, szT_xd]
  try omega
 obtain ⟨t1, ht1⟩ : ∃ t : Nat, t = szT 4 (trs (xdT X.d)) := ⟨_, rfl⟩
 obtain ⟨W, hW⟩ : ∃ W, W = w.alloc (.cells (xsL X a1 l1 c1 a2 l2 c2 a3 l3 c3 a4 l4 c4).toArray 122) := ⟨_, rfl⟩
 have H0 : Hid (Below w.heap.size w W /\ Blk W w.heap.size 122 (xsL X a1 l1 c1 a2 l2 c2 a3 l3 c3 a4 l4 c4).toArray /\ szT 6 (trs (xsT X)) = t1 /\ Rd w 0 (boolsT X.d.co) (.slice a1 l1 c1) /\ Rd w 0 (boolsT X.d.ip) (.slice a2 l2 c2) /\ Rd w 0 (intsT X.d.ho) (.slice a3 l3 c3) /\ Rd w 0 (intsT X.d.wd) (.slice a4 l4 c4)) := ⟨by rw [hW]; exact bel_alloc _ _, by rw [hW]; exact Blk.new _ _ _, by rw [HT.out]; omega, r1, r2, r3, r4⟩
 have K1 : Hid (t1 = szT 4 (trs (xdT X.d))) := ht1
 clear HT r1 r2 r3 r4 ht1
 go_enter Tryz.func68, Tryz.ntmps68
 go_upto_region 1 with fail
 rw [<- hW]
 clear hW
 have G0 : Hid (Below w.heap.size w W /\ Blk W w.heap.size 122 (xsL X a1 l1 c1 a2 l2 c2 a3 l3 c3 a4 l4 c4).toArray) := ⟨H0.out.1, H0.out.2.1⟩
 have Q0 : Hid (left <= 1048576 /\ left = left) := ⟨hl, rfl⟩
 obtain ⟨⟨y0, y1, y2, y3, y4, y5⟩, yf⟩ := G0.out.2.tc6
 clear yf
 by_cases g1 : t1 <= left
 rotate_left
 ·have E : Hid (lfT left (szT 4 (trs (xdT X.d))) = -1 /\ lfT left (szT 6 (trs (xsT X))) = -1) := by
   have h9 := Q0.out.2
   have h8 := H0.out.2.2.1
   refine ⟨?_, ?_⟩
   ·rw [<- K1.out]; unfold lfT; rw [if_neg g1]
   rw [h8]; unfold lfT; rw [if_neg (by omega)]
  go_wp2_with fail
  refine (szDevice_t X.d a1 l1 c1 a2 l2 c2 a3 l3 c3 a4 l4 c4 left _ (H0.out.2.2.2.1.below G0.out.1) (H0.out.2.2.2.2.1.below G0.out.1) (H0.out.2.2.2.2.2.1.below G0.out.1) (H0.out.2.2.2.2.2.2.below G0.out.1) Q0.out.1).mono ?_
  rintro e w9 ⟨rfl, b9⟩
  rw [E.out.1]
  have B9 := bel_nx G0.out.1 b9
  clear b9 y0 y1 y2 y3 y4 y5
  go_wp2
  go_ret
  exact ⟨by rw [E.out.2]; rfl, B9⟩
 obtain ⟨L1, hL1⟩ : ∃ m : Nat, m + t1 = left := ⟨left - t1, by omega⟩
 have E1 : Hid (lfT left (szT 4 (trs (xdT X.d))) = (L1 : Int)) := by
  show _ = _
  rw [<- K1.out]; unfold lfT; rw [if_pos g1]; omega
 have n1 : ¬ ((L1 : Int) < 0) := by omega
 have Q1 : Hid (L1 <= 1048576 /\ L1 + t1 = left) := by
  have h9 := Q0.out
  exact ⟨by omega, by omega⟩
 clear hL1 g1
 go_wp2_with fail
 refine (szDevice_t X.d a1 l1 c1 a2 l2 c2 a3 l3 c3 a4 l4 c4 left _ (H0.out.2.2.2.1.below G0.out.1) (H0.out.2.2.2.2.1.below G0.out.1) (H0.out.2.2.2.2.2.1.below G0.out.1) (H0.out.2.2.2.2.2.2.below G0.out.1) Q0.out.1).mono ?_
 rintro e w1 ⟨rfl, b1⟩
 rw [E1.out]
 have G1 : Hid (Below w.heap.size w w1 /\ Blk w1 w.heap.size 122 (xsL X a1 l1 c1 a2 l2 c2 a3 l3 c3 a4 l4 c4).toArray) := ⟨bel_nx G0.out.1 b1, G0.out.2.below b1⟩
 clear b1 y0 y1 y2 y3 y4 y5
 have E : Hid (lfT left (szT 6 (trs (xsT X))) = (L1 : Int)) := by
  have h9 := Q1.out.2
  have h8 := H0.out.2.2.1
  show _ = _
  rw [h8]; unfold lfT; rw [if_pos (by omega)]; omega
 go_wp2
 go_ret
 exact ⟨by rw [E.out]; rfl, G1.out.1⟩
theorem szPostS_t (n : Nat) (f : Nat -> VS) (a : Option Addr) (n' cap : Nat) (left : Nat) (w : World) (hs : Rd w 0 (.list 6 n (fun k => trs (xsT (f k)))) (.slice a n' cap)) (hl : left <= 1048576) :
 Calls Tryz.prog 24 #[.slice a n' cap, .int .i64 (left : Int)] w fun e w' => e = .returned (.int .i64 (lfT left (Tr.list 6 n (fun k => trs (xsT (f k)))).sz)) /\ Below w.heap.size w w' := by
 obtain ⟨a9, c9, h9, -, hn⟩ := hs.shape
 simp only [Value.slice.injEq] at h9
 obtain ⟨-, rfl, -⟩ := h9
 clear a9 c9
 unfold maxLen at hn
 have w1 : IntKind.i64.wrap ((left : Int) - (n' : Int)) = (left : Int) - (n' : Int) := by rw [IntKind.wrap_i64]; omega
 obtain ⟨g, hg⟩ : ∃ g : Nat -> Nat, g = fun k => szT 6 (trs (xsT (f k))) := ⟨_, rfl⟩
 have HT : Hid ((Tr.list 6 n' (fun k => trs (xsT (f k)))).sz = n' + sumN n' g) := by show _ = _; rw [hg]; exact Tr.sz_list _ _ _
 have HG : Hid (∀ k, g k = szT 6 (trs (xsT (f k)))) := by show ∀ k, g k = _; intro k; rw [hg]
 clear hg
 by_cases h0 : n' <= left
 ·have h1 : ¬ ((left : Int) - (n' : Int) < 0) := by omega
  have HS : Hid (Rd w 0 (.list 6 n' (fun k => trs (xsT (f k)))) (.slice a n' cap)) := hs
  have HL : Hid (left <= 1048576) := hl
  clear hs hn
  go_enter Tryz.func24, Tryz.ntmps24
  go_wp2
  go_loopw [1, 5] (fun lv i wr => ∃ k : Nat, k <= n' /\ i = .int .i64 k /\ n' + sumN k g <= left /\ lv = .int .i64 ((left : Int) - (n' : Int) - (sumN k g : Int)) /\ Below w.heap.size w wr) (fun _ i _ => n' - (intOf i).toNat)
  case atStart => exact ⟨0, Nat.zero_le _, rfl, by simp [sumN]; omega, by simp [sumN], Below.refl _ _⟩
  case round =>
   obtain ⟨k, hk, rfl, ht, rfl, hb⟩ := hrel
   by_cases hlt : k < n'
   ·have hi : (k : Int) < (n' : Int) := by omega
    obtain ⟨b, off, vs, rfl, _, hb0, hlen, hr, hrd⟩ := (HS.out.below hb).at hlt
    obtain ⟨a1, c1, a2, c2, a3, c3, a4, c4, rfl, r1, r2, r3, r4⟩ := VS.cells hrd hlen
    clear hlen hrd
    have d0 : wr.cell? ⟨b, off + k * 6, none⟩ = _ := hr 0 _ rfl
    have d1 : wr.cell? ⟨b, off + k * 6 + 1, none⟩ = _ := hr 1 _ rfl
    have d2 : wr.cell? ⟨b, off + k * 6 + 2, none⟩ = _ := hr 2 _ rfl
    have d3 : wr.cell? ⟨b, off + k * 6 + 3, none⟩ = _ := hr 3 _ rfl
    have d4 : wr.cell? ⟨b, off + k * 6 + 4, none⟩ = _ := hr 4 _ rfl
    have d5 : wr.cell? ⟨b, off + k * 6 + 5, none⟩ = _ := hr 5 _ rfl
    obtain ⟨lf, hlf⟩ : ∃ lf : Nat, (lf : Int) = (left : Int) - (n' : Int) - (sumN k g : Int) := ⟨left - n' - sumN k g, by omega⟩
    rw [<- hlf]
    obtain ⟨x, hx⟩ : ∃ x, x = g k := ⟨_, rfl⟩
    have HK : Hid ((lf : Int) = (left : Int) - (n' : Int) - (sumN k g : Int) /\ lf <= 1048576 /\ sumN (k + 1) g = sumN k g + x /\ Below w.heap.size w wr /\ x = szT 6 (trs (xsT (f k))) /\ Rd wr 0 (boolsT (f k).d.co) (.slice a1 ((f k).d.co.length) c1) /\ Rd wr 0 (boolsT (f k).d.ip) (.slice a2 ((f k).d.ip.length) c2) /\ Rd wr 0 (intsT (f k).d.ho) (.slice a3 ((f k).d.ho.length) c3) /\ Rd wr 0 (intsT (f k).d.wd) (.slice a4 ((f k).d.wd.length) c4)) := ⟨hlf, by have := HL.out; omega, by rw [hx]; rfl, hb, by rw [hx]; exact HG.out k, r1, r2, r3, r4⟩
    clear hlf hb HS hx hr hb0 r1 r2 r3 r4
    by_cases hf : x <= lf
    ·obtain ⟨lg, hlg⟩ : ∃ m : Nat, m + x = lf := ⟨lf - x, by omega⟩
     have hx0 : ¬ ((lg : Int) < 0) := by omega
     have HF : Hid (lfT lf (szT 6 (trs (xsT (f k)))) = (lg : Int) /\ (lg : Int) = (left : Int) - (n' : Int) - (sumN (k + 1) g : Int) /\ n' + sumN (k + 1) g <= left) := by
      have h9 := HK.out
      refine ⟨?_, ?_, ?_⟩
      ·rw [<- h9.2.2.2.2.1]; unfold lfT; rw [if_pos hf]; omega
      ·omega
      omega
     clear ht hf hlg
     go_wp2_with fail
     refine (szPost_t (f k) a1 ((f k).d.co.length) c1 a2 ((f k).d.ip.length) c2 a3 ((f k).d.ho.length) c3 a4 ((f k).d.wd.length) c4 lf _ HK.out.2.2.2.2.2.1 HK.out.2.2.2.2.2.2.1 HK.out.2.2.2.2.2.2.2.1 HK.out.2.2.2.2.2.2.2.2 HK.out.2.1).mono ?_
     rintro e w2 ⟨rfl, b2⟩
     rw [HF.out.1]
     have HB : Hid (Below w.heap.size w w2) := bel_nx HK.out.2.2.2.1 b2
     clear b2 d0 d1 d2 d3 d4 d5
     go_wp2
     go_roundw
     case rel => exact ⟨k + 1, by omega, by go_num, HF.out.2.2, by rw [HF.out.2.1], HB.out⟩
     case measure => simp [intOf]; omega
    have HF : Hid (lfT lf (szT 6 (trs (xsT (f k)))) = -1 /\ lfT left (Tr.list 6 n' (fun k => trs (xsT (f k)))).sz = -1) := by
     have h9 := HK.out
     have h8 := sumN_mono g (show k + 1 <= n' by omega)
     have h7 := HT.out
     refine ⟨?_, ?_⟩
     ·rw [<- h9.2.2.2.2.1]; unfold lfT; rw [if_neg hf]
     rw [h7]; unfold lfT; rw [if_neg (by omega)]
    clear ht hf
    go_wp2_with fail
    refine (szPost_t (f k) a1 ((f k).d.co.length) c1 a2 ((f k).d.ip.length) c2 a3 ((f k).d.ho.length) c3 a4 ((f k).d.wd.length) c4 lf _ HK.out.2.2.2.2.2.1 HK.out.2.2.2.2.2.2.1 HK.out.2.2.2.2.2.2.2.1 HK.out.2.2.2.2.2.2.2.2 HK.out.2.1).mono ?_
    rintro e w2 ⟨rfl, b2⟩
    rw [HF.out.1]
    have HB : Hid (Below w.heap.size w w2) := bel_nx HK.out.2.2.2.1 b2
    clear b2 d0 d1 d2 d3 d4 d5
    go_wp2
    go_ret
    exact ⟨(by rw [HF.out.2]; rfl), HB.out⟩
   have hi : ¬ (k : Int) < (n' : Int) := by omega
   have e9 : k = n' := by omega
   subst e9
   have HE : Hid (lfT left (Tr.list 6 k (fun k => trs (xsT (f k)))).sz = (left : Int) - (k : Int) - (sumN k g : Int)) := by
    show _ = _
    rw [HT.out]; unfold lfT; rw [if_pos ht]; omega
   clear ht
   go_wp2
   go_ret
   exact ⟨(by rw [HE.out]; rfl), hb⟩
 have h1 : (left : Int) - (n' : Int) < 0 := by omega
 have HE : Hid (lfT left (Tr.list 6 n' (fun k => trs (xsT (f k)))).sz = -1) := by
  show _ = _
  rw [HT.out]; unfold lfT; rw [if_neg (by omega)]
 clear hs hn hl
 go_enter Tryz.func24, Tryz.ntmps24
 go_wp2
 go_ret
 exact ⟨(by rw [HE.out]; rfl), Below.refl _ _⟩
end Go.Proofs.YtkfgijkkffbpmaaGreat
namespace Go.Proofs.YtkfgijkkffbpmaaGreat
open Go.ChangeShapes Go.WideShapes Go.ChangeAt Go.RowKit Go.Deep Go.Joins
def xdSh : List Sh := [.lst 1 (fun j => [Sh.bool].getD j .int), .lst 1 (fun j => [Sh.bool].getD j .int), .lst 1 (fun j => [Sh.int].getD j .int), .lst 1 (fun j => [Sh.int].getD j .int)]
def xsSh : List Sh := [.int, .int, .lst 1 (fun j => [Sh.bool].getD j .int), .lst 1 (fun j => [Sh.bool].getD j .int), .lst 1 (fun j => [Sh.int].getD j .int), .lst 1 (fun j => [Sh.int].getD j .int)]
theorem VS.of {w : World} {vs : List Value} (h : OfShL w xsSh vs) : ∃ X : VS, RdL w 0 (trs (xsT X)) vs := by
 obtain ⟨hl, h⟩ := h
 match vs, hl with
 | [v0, v1, v2, v3, v4, v5], _ =>
  obtain ⟨z0, rfl⟩ := h 0 v0 rfl
  obtain ⟨z1, rfl⟩ := h 1 v1 rfl
  obtain ⟨z2, r2⟩ := OfSh.bools (h 2 v2 rfl) rfl
  obtain ⟨a2, c2, e2, _⟩ := r2.shape
  subst e2
  obtain ⟨z3, r3⟩ := OfSh.bools (h 3 v3 rfl) rfl
  obtain ⟨a3, c3, e3, _⟩ := r3.shape
  subst e3
  obtain ⟨z4, r4⟩ := OfSh.ints (h 4 v4 rfl) rfl
  obtain ⟨a4, c4, e4, _⟩ := r4.shape
  subst e4
  obtain ⟨z5, r5⟩ := OfSh.ints (h 5 v5 rfl) rfl
  obtain ⟨a5, c5, e5, _⟩ := r5.shape
  subst e5
  exact ⟨⟨z0, z1, ⟨z2, z3, z4, z5⟩⟩, VS.back (X := ⟨z0, z1, ⟨z2, z3, z4, z5⟩⟩) r2 r3 r4 r5⟩
theorem opened_xss {H : Type} {enc : TypeId × Value -> H} {P : Program} {w : World} {base : Nat} {held : Bool} {r : Reach} {b0 : Nat} {t e : TypeId} {v : Value} {d : DataW H} {p : List MemPlace} {N : Nat} (hs : P.underlying t = some (.slice e)) (hsh : shT P N t = some [.lst 6 (fun j => xsSh.getD j .int)])
 (hv : Value.okWide P w r b0 t v) (h : DataW.Trod enc P w base (fun _ => true) held t v d p) :
 ∃ (n : Nat) (f : Nat -> VS) (a : Option Addr) (c : Nat), v = .slice a n c /\ Rd w 0 (.list 6 n (fun i => trs (xsT (f i)))) (.slice a n c) := by
 obtain ⟨a, l, c, rfl⟩ := okWide_slice hs hv
 obtain ⟨fuel, hf⟩ := h
 obtain ⟨hl, hx⟩ := opened_sh N t _ hsh fuel [.slice a l c] _ (by simpa [Value.cells] using hf)
 obtain ⟨n, f, hr⟩ := OfSh.list (T := xsT) (hx 0 _ rfl) (fun vs h1 h2 => VS.of ⟨h1, h2⟩)
 obtain ⟨a', c', e', _⟩ := hr.shape
 simp only [Value.slice.injEq] at e'
 obtain ⟨rfl, rfl, rfl⟩ := e'
 exact ⟨_, f, a, c, rfl, hr⟩
end Go.Proofs.YtkfgijkkffbpmaaGreat
namespace Go.Proofs.YtkfgijkkffbpmaaGreat
def ltR (a b : Ru) : Prop := a.u < b.u \/ (a.u = b.u /\ (a.s < b.s \/ (a.s = b.s /\ a.lo < b.lo)))
instance (a b : Ru) : Decidable (ltR a b) := by unfold ltR; infer_instance
def leR (a b : Ru) : Prop := ¬ ltR b a
theorem leR.trans {a b c : Ru} (h : leR a b) (h' : leR b c) : leR a c := by unfold leR ltR at *; omega
theorem leR.refl (a : Ru) : leR a a := by unfold leR ltR; omega
theorem ltR.le {a b : Ru} (h : ltR a b) : leR a b := by unfold leR; unfold ltR at *; omega
def SortedOn (f : Nat -> Ru) (a b : Nat) : Prop := ∀ i j, a <= i -> i < j -> j < b -> leR (f i) (f j)
theorem SortedOn.le {f : Nat -> Ru} {a b i j : Nat} (h : SortedOn f a b) (h1 : a <= i) (h2 : i <= j) (h3 : j < b) : leR (f i) (f j) := by
 by_cases e : i = j
 ·subst e; exact leR.refl _
 exact h i j h1 (by omega) h3
def PermIn (a b : Nat) (f g : Nat -> Ru) : Prop :=
 ∃ σ τ : Nat -> Nat, (∀ k, (k < a \/ b <= k) -> σ k = k /\ τ k = k) /\ (∀ k, a <= k -> k < b -> a <= σ k /\ σ k < b /\ a <= τ k /\ τ k < b) /\ (∀ k, τ (σ k) = k /\ σ (τ k) = k) /\ ∀ k, g k = f (σ k)
theorem PermIn.refl (a b : Nat) (f : Nat -> Ru) : PermIn a b f f := ⟨id, id, fun _ _ => ⟨rfl, rfl⟩, fun _ h1 h2 => ⟨h1, h2, h1, h2⟩, fun _ => ⟨rfl, rfl⟩, fun _ => rfl⟩
theorem PermIn.trans {a b : Nat} {f g h : Nat -> Ru} (p : PermIn a b f g) (q : PermIn a b g h) : PermIn a b f h := by
 obtain ⟨σ, τ, h1, h2, h3, h4⟩ := p
 obtain ⟨σ', τ', g1, g2, g3, g4⟩ := q
 refine ⟨fun k => σ (σ' k), fun k => τ' (τ k), fun k hk => ?_, fun k ha hb => ?_, fun k => ⟨?_, ?_⟩, fun k => by rw [g4, h4]⟩
 ·have e1 := g1 k hk
  have e2 := h1 k hk
  simp only
  rw [e1.1, e2.2, e2.1, e1.2]
  exact ⟨rfl, rfl⟩
 ·have e1 := g2 k ha hb
  have e2 := h2 k ha hb
  have e3 := h2 (σ' k) e1.1 e1.2.1
  have e4 := g2 (τ k) e2.2.2.1 e2.2.2.2
  exact ⟨e3.1, e3.2.1, e4.2.2.1, e4.2.2.2⟩
 ·simp only; rw [(h3 _).1, (g3 _).1]
 simp only; rw [(g3 _).2, (h3 _).2]
theorem PermIn.mono {a b a' b' : Nat} {f g : Nat -> Ru} (p : PermIn a b f g) (h1 : a' <= a) (h2 : b <= b') : PermIn a' b' f g := by
 obtain ⟨σ, τ, p1, p2, p3, p4⟩ := p
 refine ⟨σ, τ, fun k hk => p1 k (by omega), fun k ha hb => ?_, p3, p4⟩
 by_cases e : a <= k /\ k < b
 ·have := p2 k e.1 e.2
  omega
 have := p1 k (by omega)
 omega
theorem PermIn.out {a b : Nat} {f g : Nat -> Ru} (p : PermIn a b f g) {k : Nat} (h : k < a \/ b <= k) : g k = f k := by
 obtain ⟨σ, τ, p1, _, _, p4⟩ := p
 rw [p4, (p1 k h).1]
theorem PermIn.from' {a b : Nat} {f g : Nat -> Ru} (p : PermIn a b f g) {k : Nat} (h1 : a <= k) (h2 : k < b) : ∃ j, a <= j /\ j < b /\ g k = f j := by
 obtain ⟨σ, τ, _, p2, _, p4⟩ := p
 exact ⟨σ k, (p2 k h1 h2).1, (p2 k h1 h2).2.1, p4 k⟩
def swI (i j k : Nat) : Nat := if k = i then j else if k = j then i else k
theorem swI_inv (i j k : Nat) : swI i j (swI i j k) = k := by unfold swI; split <;> split <;> (try split) <;> omega
theorem PermIn.swap {a b i j : Nat} (f : Nat -> Ru) (h1 : a <= i) (h2 : i < b) (h3 : a <= j) (h4 : j < b) : PermIn a b f (fun k => f (swI i j k)) := by
 refine ⟨swI i j, swI i j, fun k hk => ?_, fun k ha hb => ?_, fun k => ⟨swI_inv i j k, swI_inv i j k⟩, fun k => rfl⟩
 ·have : swI i j k = k := by unfold swI; rw [if_neg (by omega), if_neg (by omega)]
  exact ⟨this, this⟩
 have : a <= swI i j k /\ swI i j k < b := by unfold swI; split <;> (try split) <;> omega
 exact ⟨this.1, this.2, this.1, this.2⟩
def InsI (h : Nat -> Ru) (a i j : Nat) : Prop :=
 (∀ p q, a <= p -> p < q -> q <= i -> p ≠ j -> q ≠ j -> leR (h p) (h q)) /\ (∀ q, j < q -> q <= i -> leR (h j) (h q))
theorem InsI.start {h : Nat -> Ru} {a i : Nat} (hs : SortedOn h a i) : InsI h a i i :=
 ⟨fun p q h1 h2 h3 _ h5 => hs p q h1 h2 (by omega), fun q h1 h2 => by omega⟩
theorem InsI.step {h : Nat -> Ru} {a i j : Nat} (H : InsI h a i j) (hj : a < j) (hi : j <= i) (hlt : ltR (h j) (h (j - 1))) : InsI (fun k => h (swI j (j - 1) k)) a i (j - 1) := by
 obtain ⟨H1, H2⟩ := H
 have ej : swI j (j - 1) j = j - 1 := by simp [swI]
 have ej' : swI j (j - 1) (j - 1) = j := by unfold swI; rw [if_neg (by omega), if_pos rfl]
 have eo : ∀ k, k ≠ j -> k ≠ j - 1 -> swI j (j - 1) k = k := fun k h1 h2 => by unfold swI; rw [if_neg h1, if_neg h2]
 refine ⟨fun p q h1 h2 h3 h4 h5 => ?_, fun q h1 h2 => ?_⟩
 ·show leR (h (swI j (j - 1) p)) (h (swI j (j - 1) q))
  by_cases ep : p = j
  ·subst ep
   rw [ej, eo q (by omega) h5]
   exact H1 (p - 1) q (by omega) (by omega) h3 (by omega) (by omega)
  rw [eo p ep h4]
  by_cases eq : q = j
  ·subst eq
   rw [ej]
   exact H1 p (q - 1) h1 (by omega) (by omega) ep (by omega)
  rw [eo q eq h5]
  exact H1 p q h1 h2 h3 ep eq
 show leR (h (swI j (j - 1) (j - 1))) (h (swI j (j - 1) q))
 rw [ej']
 by_cases eq : q = j
 ·subst eq
  rw [ej]
  exact hlt.le
 rw [eo q eq (by omega)]
 exact H2 q (by omega) h2
theorem InsI.fin {h : Nat -> Ru} {a i j : Nat} (H : InsI h a i j) (hi : j <= i) (hx : j <= a \/ ¬ ltR (h j) (h (j - 1))) : SortedOn h a (i + 1) := by
 obtain ⟨H1, H2⟩ := H
 intro p q h1 h2 h3
 by_cases ep : p = j
 ·subst ep; exact H2 q h2 (by omega)
 by_cases eq : q = j
 ·subst eq
  rcases hx with hx | hx
  ·omega
  have e1 : leR (h (q - 1)) (h q) := hx
  by_cases e2 : p = q - 1
  ·subst e2; exact e1
  exact (H1 p (q - 1) h1 (by omega) (by omega) ep (by omega)).trans e1
 exact H1 p q h1 h2 (by omega) ep eq
end Go.Proofs.YtkfgijkkffbpmaaGreat
namespace Go.Proofs.YtkfgijkkffbpmaaGreat
open Go.RowKit
theorem getD_eq {l : Array Bool} {i : Nat} (h : i < l.size) (x y : Bool) : l.getD i x = l.getD i y := by
 simp [Array.getD, h]
theorem count_set (l : List Bool) (i : Nat) (h : l[i]? = some false) : (l.set i true).count false + 1 = l.count false := by
 induction l generalizing i with
 | nil => simp at h
 | cons x r ih =>
  cases i with
  | zero => simp at h; subst h; simp
  | succ i => simp at h; have := ih i h; cases x <;> simp <;> omega
theorem ready_mem {md : Region.Mode} {ops : Array Oper} {l : Array Bool} {i : Nat} (h : i ∈ Region.ready md ops l) :
 i < ops.size /\ l.getD i true = false /\ ∀ o, ops[i]? = some o -> ∀ e ∈ o.after, Region.binds md e = true -> l.getD e.on false = true := by
 unfold Region.ready at h
 rw [List.mem_filter] at h
 obtain ⟨h1, h2⟩ := h
 simp only [Bool.and_eq_true, Bool.not_eq_true'] at h2
 refine ⟨List.mem_range.1 h1, h2.1, fun o ho e he hb => ?_⟩
 have h3 := h2.2
 rw [ho] at h3
 simp only [Option.map_some, Option.getD_some, Array.all_eq_true_iff_forall_mem] at h3
 have h4 := h3 e he
 simpa [hb] using h4
theorem ready_of {md : Region.Mode} {ops : Array Oper} {l : Array Bool} {i : Nat} {o : Oper} (hi : i < ops.size) (ho : ops[i]? = some o) (hl : l.getD i true = false) (hd : ∀ e ∈ o.after, Region.binds md e = true -> l.getD e.on false = true) : i ∈ Region.ready md ops l := by
 unfold Region.ready
 rw [List.mem_filter]
 refine ⟨List.mem_range.2 hi, ?_⟩
 simp only [Bool.and_eq_true, Bool.not_eq_true']
 refine ⟨hl, ?_⟩
 rw [ho]
 simp only [Option.map_some, Option.getD_some, Array.all_eq_true_iff_forall_mem]
 intro e he
 cases hb : Region.binds md e
 ·rfl
 simpa using hd e he hb
def ordB (md : Region.Mode) (ops : Array Oper) : Bool := (List.range ops.size).all fun i => ((ops[i]?).map (·.after.all fun e => !Region.binds md e || decide (e.on < i))).getD true
theorem ordB_of {md : Region.Mode} {ops : Array Oper} (h : ordB md ops = true) : ∀ i o, ops[i]? = some o -> ∀ e ∈ o.after, Region.binds md e = true -> e.on < i := by
 intro i o ho e he hb
 unfold ordB at h
 rw [List.all_eq_true] at h
 have hi : i < ops.size := (Array.getElem?_eq_some_iff.1 ho).1
 have h1 := h i (List.mem_range.2 hi)
 rw [ho] at h1
 simp only [Option.map_some, Option.getD_some, Array.all_eq_true_iff_forall_mem] at h1
 have h2 := h1 e he
 simpa [hb] using h2
theorem wpAny_inv {P : Program} {ops : Array Oper} {Q : Exit -> Act -> World -> Prop} {md : Region.Mode} (Inv : Array Bool -> Act -> World -> Prop)
 (hordB : ordB md ops = true)
 (hend : ∀ l a w, Inv l a w -> (∀ i, i < ops.size -> l.getD i true = true) -> Q .normal a w)
 (hstep : ∀ l a w i o, Inv l a w -> ops[i]? = some o -> l.getD i true = false -> (∀ e ∈ o.after, Region.binds md e = true -> l.getD e.on false = true) ->
  ∀ K : Act -> World -> Prop, (∀ a w, Inv (l.setIfInBounds i true) a w -> K a w) -> if Region.wanted o (yielded ops a.tmps) = true then Oper.wp P o a w K Q else K (a.put o.dst undef) w) :
 ∀ (fuel : Nat) (l : Array Bool) (a : Act) (w : World), l.size = ops.size -> l.toList.count false <= fuel -> Inv l a w -> wpAny P md ops Q fuel l a w := by
 have hord := ordB_of hordB
 have hall : ∀ l : Array Bool, l.size = ops.size -> Region.ready md ops l = [] -> ∀ i, i < ops.size -> l.getD i true = true := by
  intro l hs hr i
  induction i using Nat.strongRecOn with
  | ind i ih =>
   intro hi
   cases hl : l.getD i true
   ·obtain ⟨o, ho⟩ : ∃ o, ops[i]? = some o := ⟨ops[i], by simp [hi]⟩
    have : i ∈ Region.ready md ops l := ready_of hi ho hl (fun e he hb => by
     have h1 := hord i o ho e he hb
     rw [getD_eq (by omega) false true]
     exact ih e.on h1 (by omega))
    rw [hr] at this
    simp at this
   rfl
 intro fuel
 induction fuel with
 | zero =>
  intro l a w hs hc hI
  have hr : Region.ready md ops l = [] := by
   apply List.eq_nil_iff_forall_not_mem.2
   intro i hi
   obtain ⟨h1, h2, _⟩ := ready_mem hi
   have h3 : l.toList[i]? = some false := by
    have h4 : i < l.size := by omega
    rw [Array.getElem?_toList]
    simp [Array.getD, h4] at h2
    simp [h4, h2]
   have := count_set l.toList i h3
   omega
  exact ⟨hr, hend l a w hI (hall l hs hr)⟩
 | succ fuel ih =>
  intro l a w hs hc hI
  refine ⟨fun hr => hend l a w hI (hall l hs hr), fun i hi => ?_⟩
  obtain ⟨h1, h2, h3⟩ := ready_mem hi
  obtain ⟨o, ho⟩ : ∃ o, ops[i]? = some o := ⟨ops[i], by simp [h1]⟩
  refine wpOp_step ho (fun K' hK' => hstep l a w i o hI ho h2 (h3 o ho) K' (fun a' w' hI' => hK' a' w' (ih _ a' w' (by simpa using hs) ?_ hI')))
  have h4 : l.toList[i]? = some false := by
   have h5 : i < l.size := by omega
   rw [Array.getElem?_toList]
   simp [Array.getD, h5] at h2
   simp [h5, h2]
  have := count_set l.toList i h4
  rw [Array.toList_setIfInBounds]
  omega
end Go.Proofs.YtkfgijkkffbpmaaGreat
namespace Go.Proofs.YtkfgijkkffbpmaaGreat
open Go.RowKit
def dstOf (ops : Array Oper) (i : Nat) : Option Tmp := (ops[i]?).bind (·.dst)
def dstB (ops : Array Oper) (n : Nat) : Bool :=
 (List.range ops.size).all fun i => match dstOf ops i with
  | some d => decide (d < n) && (List.range ops.size).all fun j => decide (j = i) || decide (dstOf ops j ≠ some d)
  | none => false
def isDst (ops : Array Oper) (s : Nat) : Bool := (List.range ops.size).any fun i => decide (dstOf ops i = some s)
def putsL (a : Act) : Nat -> List Oper -> (Nat -> Value) -> Act
 | _, [], _ => a
 | i, o :: os, vs => putsL (a.put o.dst (vs i)) (i + 1) os vs
def wantV (ops : Array Oper) (o : Oper) (ρ : Operand -> Value) : Bool :=
 match o.guard with
 | none => true
 | some (j, want) => match dstOf ops j with
  | some d => (match ρ (.tmp d) with | .bool b => b == want | _ => false)
  | none => false
def StpV (P : Program) (ops : Array Oper) (Φ : Nat -> Value -> World -> Prop) (R : World -> Prop) (i : Nat) (o : Oper) (ρ : Operand -> Value) (u : World) : Prop :=
 (wantV ops o ρ = true /\ ((∃ v u', (execOp ρ o).run P u = .ok (.value v) u' /\ Φ i v u' /\ R u' /\ Below u.heap.size u u') \/ (∃ f args, (execOp ρ o).run P u = .ok (.enter f args) u /\ Calls P f args u fun e u' => ∃ v, e = .returned v /\ Φ i v u' /\ R u' /\ Below u.heap.size u u')))
 \/ (wantV ops o ρ = false /\ Φ i undef u)
structure InvV (ops : Array Oper) (Φ : Nat -> Value -> World -> Prop) (R : World -> Prop) (a0 : Act) (l : Array Bool) (a : Act) (u : World) : Prop where
 r : R u
 ls : l.size = ops.size
 df : a.defers = a0.defers
 sz : a.tmps.size = a0.tmps.size
 old : ∀ s, (∀ i d, dstOf ops i = some d -> l.getD i false = true -> d ≠ s) -> a.tmps.getD s undef = a0.tmps.getD s undef
 val : ∀ i d, dstOf ops i = some d -> l.getD i false = true -> Φ i (a.tmps.getD d undef) u
theorem dstB_of {ops : Array Oper} {n : Nat} (h : dstB ops n = true) {i : Nat} (hi : i < ops.size) : ∃ d, dstOf ops i = some d /\ d < n /\ ∀ j, j < ops.size -> dstOf ops j = some d -> j = i := by
 unfold dstB at h
 rw [List.all_eq_true] at h
 have h1 := h i (List.mem_range.2 hi)
 cases hd : dstOf ops i with
 | none => rw [hd] at h1; cases h1
 | some d =>
  rw [hd] at h1
  simp only [Bool.and_eq_true, decide_eq_true_eq, List.all_eq_true, Bool.or_eq_true] at h1
  refine ⟨d, rfl, h1.1, fun j hj e => ?_⟩
  rcases h1.2 j (List.mem_range.2 hj) with h2 | h2
  ·exact h2
  exact absurd e h2
theorem getD_set {l : Array Bool} {i j : Nat} (hi : i < l.size) : (l.setIfInBounds i true).getD j false = if j = i then true else l.getD j false := by
 simp only [Array.getD_eq_getD_getElem?, Array.getElem?_setIfInBounds]
 by_cases e : j = i
 ·subst e; simp [hi]
 rw [if_neg (Ne.symm e), if_neg e]
theorem getD_put {a : Act} {d s : Nat} {v : Value} (hd : d < a.tmps.size) : (a.put (some d) v).tmps.getD s undef = if s = d then v else a.tmps.getD s undef := by
 show (a.tmps.setIfInBounds d v).getD s undef = _
 simp only [Array.getD_eq_getD_getElem?, Array.getElem?_setIfInBounds]
 by_cases e : s = d
 ·subst e; simp [hd]
 rw [if_neg (Ne.symm e), if_neg e]
theorem InvV.next {ops : Array Oper} {Φ : Nat -> Value -> World -> Prop} {R : World -> Prop} {a0 : Act} {l : Array Bool} {a : Act} {u u' : World} (h : InvV ops Φ R a0 l a u) (hB : dstB ops a0.tmps.size = true)
 (hmono : ∀ i v u u', Φ i v u -> Below u.heap.size u u' -> Φ i v u') {i : Nat} {o : Oper} (ho : ops[i]? = some o) {v : Value} (hv : Φ i v u') (hr : R u') (hb : Below u.heap.size u u') :
 InvV ops Φ R a0 (l.setIfInBounds i true) (a.put o.dst v) u' := by
 have hi : i < ops.size := (Array.getElem?_eq_some_iff.1 ho).1
 obtain ⟨d, hd, hlt, hun⟩ := dstB_of hB hi
 have hod : o.dst = some d := by simpa [dstOf, ho] using hd
 rw [hod]
 have hlt' : d < a.tmps.size := by rw [h.sz]; exact hlt
 have hil : i < l.size := by rw [h.ls]; exact hi
 refine ⟨hr, by simpa using h.ls, h.df, by simpa [Act.put] using h.sz, fun s hs => ?_, fun j e hj hl => ?_⟩
 ·have hne : d ≠ s := hs i d hd (by rw [getD_set hil, if_pos rfl])
  rw [getD_put hlt', if_neg (Ne.symm hne)]
  exact h.old s (fun j e hj hl => hs j e hj (by rw [getD_set hil]; split; rfl; exact hl))
 have hjs : j < ops.size := by
  cases hoj : ops[j]? with
  | none => rw [dstOf, hoj] at hj; cases hj
  | some o' => exact (Array.getElem?_eq_some_iff.1 hoj).1
 rw [getD_put hlt']
 by_cases e1 : e = d
 ·subst e1
  obtain rfl := hun j hjs hj
  rw [if_pos rfl]
  exact hv
 rw [if_neg e1]
 have e2 : j ≠ i := fun e2 => by subst e2; rw [hd] at hj; exact e1 (Option.some.inj hj).symm
 rw [getD_set hil, if_neg e2] at hl
 exact hmono _ _ _ _ (h.val j e hj hl) hb
theorem putsL_eq {a : Act} : ∀ (os : List Oper) (k : Nat) (a' : Act) (vs : Nat -> Value), a'.defers = a.defers -> a'.tmps.size = a.tmps.size -> (∀ (j : Nat) (o : Oper) (d : Nat), os[j]? = some o -> o.dst = some d -> vs (k + j) = a.tmps.getD d undef) ->
 (∀ s, a'.tmps.getD s undef = a.tmps.getD s undef \/ ∃ (j : Nat) (o : Oper), os[j]? = some o /\ o.dst = some s) -> (∀ (j : Nat) (o : Oper), os[j]? = some o -> ∃ d, o.dst = some d /\ d < a.tmps.size) -> putsL a' k os vs = a
 | [], k, a', vs, h1, h2, _, h4, _ => by
  have e : a'.tmps = a.tmps := by
   apply Array.ext h2
   intro i hi1 hi2
   rcases h4 i with h | ⟨j, o, h, _⟩
   ·simpa [Array.getD, hi1, hi2] using h
   simp at h
  cases a'; cases a
  simp only at e h1
  subst e h1
  rfl
 | o :: os, k, a', vs, h1, h2, h3, h4, h5 => by
  obtain ⟨d, hd, hlt⟩ := h5 0 o rfl
  show putsL (a'.put o.dst (vs k)) (k + 1) os vs = a
  rw [hd]
  refine putsL_eq os (k + 1) _ vs h1 (by simpa [Act.put] using h2) (fun j o' d' ho hd' => by rw [show k + 1 + j = k + (j + 1) by omega]; exact h3 (j + 1) o' d' (by simpa using ho) hd') (fun s => ?_) (fun j o' ho => h5 (j + 1) o' (by simpa using ho))
  rw [getD_put (by rw [h2]; exact hlt)]
  by_cases e : s = d
  ·subst e
   rw [if_pos rfl]
   exact .inl (by simpa using h3 0 o s rfl hd)
  rw [if_neg e]
  rcases h4 s with h | ⟨j, o', ho, hd'⟩
  ·exact .inl h
  cases j with
  | zero => simp at ho; subst ho; rw [hd] at hd'; exact absurd (Option.some.inj hd').symm e
  | succ j => exact .inr ⟨j, o', by simpa using ho, hd'⟩
theorem wanted_eq {ops : Array Oper} {a : Act} {o : Oper} (h : ∀ j d, dstOf ops j = some d -> d < a.tmps.size) : Region.wanted o (yielded ops a.tmps) = wantV ops o a.eval := by
 unfold Region.wanted wantV
 cases o.guard with
 | none => rfl
 | some p =>
  obtain ⟨j, want⟩ := p
  have hy : yielded ops a.tmps j = match dstOf ops j with
   | some d => (match a.eval (.tmp d) with | .bool b => some b | _ => none)
   | none => none := by
   unfold yielded dstOf
   cases hd : (ops[j]?).bind (·.dst) with
   | none => rfl
   | some d =>
    have hlt := h j d hd
    have e : (some d).bind (fun t => a.tmps[t]?) = some (a.eval (.tmp d)) := by
     show a.tmps[d]? = some (a.tmps.getD d undef)
     simp [Array.getD, hlt]
    rw [e]
    simp only
    generalize a.eval (.tmp d) = x
    cases x <;> rfl
  show (yielded ops a.tmps j == some want) = (match dstOf ops j with
   | some d => (match a.eval (.tmp d) with | .bool b => b == want | _ => false)
   | none => false)
  rw [hy]
  cases dstOf ops j with
  | none => rfl
  | some d =>
   simp only
   generalize a.eval (.tmp d) = x
   cases x <;> simp
theorem wpAny_vals {P : Program} {ops : Array Oper} {Q : Exit -> Act -> World -> Prop} {md : Region.Mode} {a0 : Act} {w0 : World} (R : World -> Prop) (Φ : Nat -> Value -> World -> Prop)
 (hordB : ordB md ops = true) (hB : dstB ops a0.tmps.size = true) (hmono : ∀ i v u u', Φ i v u -> Below u.heap.size u u' -> Φ i v u') (h0 : R w0)
 (hend : ∀ (vs : Nat -> Value) u, R u -> (∀ i, i < ops.size -> Φ i (vs i) u) -> Q .normal (putsL a0 0 ops.toList vs) u)
 (hstep : ∀ u i o (ρ : Operand -> Value), R u -> ops[i]? = some o -> (∀ s, isDst ops s = false -> ρ (.tmp s) = a0.eval (.tmp s)) -> (∀ v, ρ (.const v) = v) -> (∀ f, ρ (.func f) = .func (.func f) #[] #[]) ->
  (∀ e ∈ o.after, Region.binds md e = true -> ∀ d, dstOf ops e.on = some d -> Φ e.on (ρ (.tmp d)) u) -> StpV P ops Φ R i o ρ u)
 (fuel : Nat) (l : Array Bool) (hs : l.size = ops.size) (hc : l.toList.count false <= fuel) (hl : ∀ i, l.getD i false = false) : wpAny P md ops Q fuel l a0 w0 := by
 refine wpAny_inv (InvV ops Φ R a0) hordB ?_ ?_ fuel l a0 w0 hs hc ?_
 ·intro l a u h hall
  have hall' : ∀ i, i < ops.size -> l.getD i false = true := fun i hi => by rw [getD_eq (by rw [h.ls]; exact hi) false true]; exact hall i hi
  have e : putsL a0 0 ops.toList (fun i => a.tmps.getD ((dstOf ops i).getD 0) undef) = a := by
   refine putsL_eq ops.toList 0 a0 _ h.df.symm h.sz.symm (fun j o d ho hd => ?_) (fun s => ?_) (fun j o ho => ?_)
   ·rw [Nat.zero_add]
    have : dstOf ops j = some d := by rw [Array.getElem?_toList] at ho; simp [dstOf, ho, hd]
    show a.tmps.getD ((dstOf ops j).getD 0) undef = _
    rw [this]; rfl
   ·by_cases hx : ∃ j d, dstOf ops j = some d /\ l.getD j false = true /\ d = s
    ·obtain ⟨j, d, hd, _, rfl⟩ := hx
     right
     unfold dstOf at hd
     cases ho : ops[j]? with
     | none => rw [ho] at hd; cases hd
     | some o => rw [ho] at hd; exact ⟨j, o, by rw [Array.getElem?_toList]; exact ho, hd⟩
    left
    exact (h.old s (fun i d hd hl e => hx ⟨i, d, hd, hl, e⟩)).symm
   rw [Array.getElem?_toList] at ho
   have hi : j < ops.size := (Array.getElem?_eq_some_iff.1 ho).1
   obtain ⟨d, hd, hlt, _⟩ := dstB_of hB hi
   exact ⟨d, by simpa [dstOf, ho] using hd, by rw [h.sz]; exact hlt⟩
  rw [<- e]
  refine hend _ u h.r (fun i hi => ?_)
  obtain ⟨d, hd, _, _⟩ := dstB_of hB hi
  show Φ i (a.tmps.getD ((dstOf ops i).getD 0) undef) u
  rw [hd]
  exact h.val i d hd (hall' i hi)
 ·intro l a u i o h ho hli hdep K hK
  have hi : i < ops.size := (Array.getElem?_eq_some_iff.1 ho).1
  have hin : ∀ j d, dstOf ops j = some d -> j < ops.size := fun j d hj => by
   unfold dstOf at hj
   cases hoj : ops[j]? with
   | none => rw [hoj] at hj; cases hj
   | some o' => exact (Array.getElem?_eq_some_iff.1 hoj).1
  have hw : Region.wanted o (yielded ops a.tmps) = wantV ops o a.eval := wanted_eq (fun j d hj => by
   obtain ⟨d', hd', hlt, _⟩ := dstB_of hB (hin j d hj)
   rw [hj] at hd'
   rw [h.sz, Option.some.inj hd']; exact hlt)
  have hst := hstep u i o a.eval h.r ho (fun s hns => by
   refine h.old s (fun j d hj _ e => ?_)
   subst e
   have : isDst ops d = true := by
    unfold isDst
    rw [List.any_eq_true]
    exact ⟨j, List.mem_range.2 (hin j d hj), by simp [hj]⟩
   rw [this] at hns; cases hns) (fun _ => rfl) (fun _ => rfl) (fun e he hb d hd => h.val e.on d hd (hdep e he hb))
  rcases hst with ⟨hwt, ⟨v, u', hrun, hv, hr, hbl⟩ | ⟨f, args, hrun, hcall⟩⟩ | ⟨hwf, hv⟩
  ·rw [if_pos (by rw [hw]; exact hwt)]
   unfold Oper.wp
   rw [hrun]
   exact hK _ _ (h.next hB hmono ho hv hr hbl)
  ·rw [if_pos (by rw [hw]; exact hwt)]
   unfold Oper.wp
   rw [hrun, Oper.upon_enter]
   refine hcall.mono ?_
   rintro e u' ⟨v, rfl, hv, hr, hbl⟩
   exact hK _ _ (h.next hB hmono ho hv hr hbl)
  rw [if_neg (by rw [hw, hwf]; decide)]
  exact hK _ _ (h.next hB hmono ho hv h.r (Below.refl _ _))
 exact ⟨h0, hs, rfl, rfl, fun _ _ => rfl, fun i d _ hl' => by rw [hl i] at hl'; cases hl'⟩
end Go.Proofs.YtkfgijkkffbpmaaGreat
namespace Go.Proofs.YtkfgijkkffbpmaaGreat
open Go.RowKit
theorem run_load_op {P : Program} {ρ : Operand -> Value} {o : Oper} {u : World} {t : TypeId} {p : Operand} {ptr v : Value} (ho : o.op = .load t p) (hp : ρ p = ptr) (hr : (Instr.loadAt t ptr).run P u = .ok v u) : (execOp ρ o).run P u = .ok (.value v) u := by
 unfold execOp
 simp only [ho, hp]
 rw [Sem.run_bind, hr]
 rfl
theorem run_call_op {P : Program} {ρ : Operand -> Value} {o : Oper} {u : World} {f : FuncId} {xs : Array Operand} {ts : Array TypeId} {args : Array Value} (ho : o.op = .call ⟨.value (.func f), xs, ts⟩) (hf : ρ (.func f) = .func (.func f) #[] #[]) (hx : xs.map ρ = args)
 (hc : (callFunc f args).run P u = .ok (.enter f args) u) : (execOp ρ o).run P u = .ok (.enter f args) u := by
 unfold execOp
 simp only [ho, resolve, hf, hx]
 show (callFunc f ((#[] ++ args) ++ #[])).run P u = _
 simpa using hc
theorem run_pick_op {P : Program} {ρ : Operand -> Value} {o : Oper} {u : World} {c x y : Operand} {b : Bool} (ho : o.op = .pick c x y) (hc : ρ c = .bool b) : (execOp ρ o).run P u = .ok (.value (if b = true then ρ x else ρ y)) u := by
 unfold execOp
 simp only [ho, hc]
 rfl
theorem run_bin_op {P : Program} {ρ : Operand -> Value} {o : Oper} {u : World} {op : BinOp} {t t' : TypeId} {x y : Operand} {a b v : Value} (ho : o.op = .binOp op t x y t') (ha : ρ x = a) (hb : ρ y = b) (hr : (do eqGuard op t x y a b; binOp op t a b : Sem Value).run P u = .ok v u) : (execOp ρ o).run P u = .ok (.value v) u := by
 unfold execOp
 simp only [ho, ha, hb]
 rw [Sem.run_bind, hr]
 rfl
end Go.Proofs.YtkfgijkkffbpmaaGreat
namespace Go.Proofs.YtkfgijkkffbpmaaGreat
open Go.RowKit
def dstC (ops : Array Oper) (n : Nat) : Bool :=
 (List.range ops.size).all fun i => match dstOf ops i with
  | some d => decide (d < n) && (List.range ops.size).all fun j => decide (j = i) || decide (dstOf ops j ≠ some d)
  | none => true
def updB (l : Nat -> Bool) (i : Nat) : Nat -> Bool := fun j => if j = i then true else l j
def StpW (P : Program) (ops : Array Oper) (Φ : Nat -> Value -> World -> Prop) (R : World -> Prop) (M : World -> World -> Prop) (i : Nat) (o : Oper) (ρ : Operand -> Value) (u : World) : Prop :=
 (wantV ops o ρ = true /\ ((∃ v u', (execOp ρ o).run P u = .ok (.value v) u' /\ Φ i v u' /\ R u' /\ M u u') \/ (∃ f args, (execOp ρ o).run P u = .ok (.enter f args) u /\ Calls P f args u fun e u' => ∃ v, e = .returned v /\ Φ i v u' /\ R u' /\ M u u') \/ (o.dst = none /\ ∃ u', (execOp ρ o).run P u = .ok .skip u' /\ R u' /\ M u u')))
 \/ (wantV ops o ρ = false /\ Φ i undef u /\ R u)
structure InvW (md : Region.Mode) (ops : Array Oper) (Φ : Nat -> Value -> World -> Prop) (R : (Nat -> Bool) -> World -> Prop) (a0 : Act) (l : Array Bool) (a : Act) (u : World) : Prop where
 r : R (fun i => l.getD i false) u
 ls : l.size = ops.size
 df : a.defers = a0.defers
 sz : a.tmps.size = a0.tmps.size
 old : ∀ s, (∀ i d, dstOf ops i = some d -> l.getD i false = true -> d ≠ s) -> a.tmps.getD s undef = a0.tmps.getD s undef
 val : ∀ i d, dstOf ops i = some d -> l.getD i false = true -> Φ i (a.tmps.getD d undef) u
 cl : ∀ i o, ops[i]? = some o -> l.getD i false = true -> ∀ e ∈ o.after, Region.binds md e = true -> l.getD e.on false = true
theorem dstC_of {ops : Array Oper} {n : Nat} (h : dstC ops n = true) {i : Nat} (hi : i < ops.size) {d : Nat} (hd : dstOf ops i = some d) : d < n /\ ∀ j, j < ops.size -> dstOf ops j = some d -> j = i := by
 unfold dstC at h
 rw [List.all_eq_true] at h
 have h1 := h i (List.mem_range.2 hi)
 rw [hd] at h1
 simp only [Bool.and_eq_true, decide_eq_true_eq, List.all_eq_true, Bool.or_eq_true] at h1
 refine ⟨h1.1, fun j hj e => ?_⟩
 rcases h1.2 j (List.mem_range.2 hj) with h2 | h2
 ·exact h2
 exact absurd e h2
theorem dstOf_lt {ops : Array Oper} {j d : Nat} (hj : dstOf ops j = some d) : j < ops.size := by
 unfold dstOf at hj
 cases hoj : ops[j]? with
 | none => rw [hoj] at hj; cases hj
 | some o' => exact (Array.getElem?_eq_some_iff.1 hoj).1
theorem getD_upd {l : Array Bool} {i : Nat} (hi : i < l.size) : (fun j => (l.setIfInBounds i true).getD j false) = updB (fun j => l.getD j false) i := by
 funext j
 exact getD_set hi
theorem InvW.next {md : Region.Mode} {ops : Array Oper} {Φ : Nat -> Value -> World -> Prop} {R : (Nat -> Bool) -> World -> Prop} {M : World -> World -> Prop} {a0 : Act} {l : Array Bool} {a : Act} {u u' : World} (h : InvW md ops Φ R a0 l a u) (hB : dstC ops a0.tmps.size = true)
 (hmono : ∀ i v u u', Φ i v u -> M u u' -> Φ i v u') {i : Nat} {o : Oper} (ho : ops[i]? = some o) (hdep : ∀ e ∈ o.after, Region.binds md e = true -> l.getD e.on false = true) {v : Value} (hv : ∀ d, o.dst = some d -> Φ i v u') (hr : R (updB (fun j => l.getD j false) i) u') (hb : M u u') :
 InvW md ops Φ R a0 (l.setIfInBounds i true) (a.put o.dst v) u' := by
 have hi : i < ops.size := (Array.getElem?_eq_some_iff.1 ho).1
 have hil : i < l.size := by rw [h.ls]; exact hi
 have hcl : ∀ j oj, ops[j]? = some oj -> (l.setIfInBounds i true).getD j false = true -> ∀ e ∈ oj.after, Region.binds md e = true -> (l.setIfInBounds i true).getD e.on false = true := by
  intro j oj hoj hlj e he hbd
  rw [getD_set hil]
  split
  ·rfl
  rw [getD_set hil] at hlj
  by_cases e1 : j = i
  ·subst e1
   rw [ho] at hoj
   cases hoj
   exact hdep e he hbd
  rw [if_neg e1] at hlj
  exact h.cl j oj hoj hlj e he hbd
 have hr' : R (fun j => (l.setIfInBounds i true).getD j false) u' := by rw [getD_upd hil]; exact hr
 cases hod : o.dst with
 | none =>
  have hd : dstOf ops i = none := by simp [dstOf, ho, hod]
  refine ⟨hr', by simpa using h.ls, h.df, h.sz, fun s hs => ?_, fun j e hj hl => ?_, hcl⟩
  ·exact h.old s (fun j e hj hl => hs j e hj (by rw [getD_set hil]; split; rfl; exact hl))
  have e2 : j ≠ i := fun e2 => by subst e2; rw [hd] at hj; cases hj
  rw [getD_set hil, if_neg e2] at hl
  exact hmono _ _ _ _ (h.val j e hj hl) hb
 | some d =>
  have hd : dstOf ops i = some d := by simp [dstOf, ho, hod]
  obtain ⟨hlt, hun⟩ := dstC_of hB hi hd
  have hlt' : d < a.tmps.size := by rw [h.sz]; exact hlt
  refine ⟨hr', by simpa using h.ls, h.df, by simpa [Act.put] using h.sz, fun s hs => ?_, fun j e hj hl => ?_, hcl⟩
  ·have hne : d ≠ s := hs i d hd (by rw [getD_set hil, if_pos rfl])
   rw [getD_put hlt', if_neg (Ne.symm hne)]
   exact h.old s (fun j e hj hl => hs j e hj (by rw [getD_set hil]; split; rfl; exact hl))
  rw [getD_put hlt']
  by_cases e1 : e = d
  ·subst e1
   obtain rfl := hun j (dstOf_lt hj) hj
   rw [if_pos rfl]
   exact hv _ hod
  rw [if_neg e1]
  have e2 : j ≠ i := fun e2 => by subst e2; rw [hd] at hj; exact e1 (Option.some.inj hj).symm
  rw [getD_set hil, if_neg e2] at hl
  exact hmono _ _ _ _ (h.val j e hj hl) hb
theorem putsL_eqW {a : Act} : ∀ (os : List Oper) (k : Nat) (a' : Act) (vs : Nat -> Value), a'.defers = a.defers -> a'.tmps.size = a.tmps.size -> (∀ (j : Nat) (o : Oper) (d : Nat), os[j]? = some o -> o.dst = some d -> vs (k + j) = a.tmps.getD d undef) ->
 (∀ s, a'.tmps.getD s undef = a.tmps.getD s undef \/ ∃ (j : Nat) (o : Oper), os[j]? = some o /\ o.dst = some s) -> (∀ (j : Nat) (o : Oper) (d : Nat), os[j]? = some o -> o.dst = some d -> d < a.tmps.size) -> putsL a' k os vs = a
 | [], k, a', vs, h1, h2, _, h4, _ => by
  have e : a'.tmps = a.tmps := by
   apply Array.ext h2
   intro i hi1 hi2
   rcases h4 i with h | ⟨j, o, h, _⟩
   ·simpa [Array.getD, hi1, hi2] using h
   simp at h
  cases a'; cases a
  simp only at e h1
  subst e h1
  rfl
 | o :: os, k, a', vs, h1, h2, h3, h4, h5 => by
  show putsL (a'.put o.dst (vs k)) (k + 1) os vs = a
  have h3' : ∀ (j : Nat) (o : Oper) (d : Nat), os[j]? = some o -> o.dst = some d -> vs (k + 1 + j) = a.tmps.getD d undef := fun j o' d' ho hd' => by rw [show k + 1 + j = k + (j + 1) by omega]; exact h3 (j + 1) o' d' (by simpa using ho) hd'
  have h5' : ∀ (j : Nat) (o : Oper) (d : Nat), os[j]? = some o -> o.dst = some d -> d < a.tmps.size := fun j o' d' ho hd' => h5 (j + 1) o' d' (by simpa using ho) hd'
  cases hd : o.dst with
  | none =>
   refine putsL_eqW os (k + 1) _ vs h1 h2 h3' (fun s => ?_) h5'
   rcases h4 s with h | ⟨j, o', ho, hd'⟩
   ·exact .inl h
   cases j with
   | zero => simp at ho; subst ho; rw [hd] at hd'; cases hd'
   | succ j => exact .inr ⟨j, o', by simpa using ho, hd'⟩
  | some d =>
   have hlt := h5 0 o d rfl hd
   refine putsL_eqW os (k + 1) _ vs h1 (by simpa [Act.put] using h2) h3' (fun s => ?_) h5'
   rw [getD_put (by rw [h2]; exact hlt)]
   by_cases e : s = d
   ·subst e
    rw [if_pos rfl]
    exact .inl (by simpa using h3 0 o s rfl hd)
   rw [if_neg e]
   rcases h4 s with h | ⟨j, o', ho, hd'⟩
   ·exact .inl h
   cases j with
   | zero => simp at ho; subst ho; rw [hd] at hd'; exact absurd (Option.some.inj hd').symm e
   | succ j => exact .inr ⟨j, o', by simpa using ho, hd'⟩
theorem wpAny_valw {P : Program} {ops : Array Oper} {Q : Exit -> Act -> World -> Prop} {md : Region.Mode} {a0 : Act} {w0 : World} (R : (Nat -> Bool) -> World -> Prop) (M : World -> World -> Prop) (Φ : Nat -> Value -> World -> Prop)
 (hordB : ordB md ops = true) (hB : dstC ops a0.tmps.size = true) (hmono : ∀ i v u u', Φ i v u -> M u u' -> Φ i v u') (hM : ∀ u, M u u) (h0 : R (fun _ => false) w0)
 (hend : ∀ (vs : Nat -> Value) u, R (fun i => decide (i < ops.size)) u -> (∀ i d, dstOf ops i = some d -> Φ i (vs i) u) -> Q .normal (putsL a0 0 ops.toList vs) u)
 (hstep : ∀ u i o (ρ : Operand -> Value) (l : Nat -> Bool), R l u -> ops[i]? = some o -> l i = false -> (∀ j oj, ops[j]? = some oj -> l j = true -> ∀ e ∈ oj.after, Region.binds md e = true -> l e.on = true) ->
  (∀ s, isDst ops s = false -> ρ (.tmp s) = a0.eval (.tmp s)) -> (∀ v, ρ (.const v) = v) -> (∀ f, ρ (.func f) = .func (.func f) #[] #[]) ->
  (∀ e ∈ o.after, Region.binds md e = true -> l e.on = true) -> (∀ j d, dstOf ops j = some d -> l j = true -> Φ j (ρ (.tmp d)) u) -> StpW P ops Φ (R (updB l i)) M i o ρ u)
 (fuel : Nat) (l : Array Bool) (hs : l.size = ops.size) (hc : l.toList.count false <= fuel) (hl : ∀ i, l.getD i false = false) : wpAny P md ops Q fuel l a0 w0 := by
 refine wpAny_inv (InvW md ops Φ R a0) hordB ?_ ?_ fuel l a0 w0 hs hc ?_
 ·intro l a u h hall
  have hall' : ∀ i, i < ops.size -> l.getD i false = true := fun i hi => by rw [getD_eq (by rw [h.ls]; exact hi) false true]; exact hall i hi
  have e : putsL a0 0 ops.toList (fun i => a.tmps.getD ((dstOf ops i).getD 0) undef) = a := by
   refine putsL_eqW ops.toList 0 a0 _ h.df.symm h.sz.symm (fun j o d ho hd => ?_) (fun s => ?_) (fun j o d ho hd => ?_)
   ·rw [Nat.zero_add]
    have : dstOf ops j = some d := by rw [Array.getElem?_toList] at ho; simp [dstOf, ho, hd]
    show a.tmps.getD ((dstOf ops j).getD 0) undef = _
    rw [this]; rfl
   ·by_cases hx : ∃ j d, dstOf ops j = some d /\ l.getD j false = true /\ d = s
    ·obtain ⟨j, d, hd, _, rfl⟩ := hx
     right
     unfold dstOf at hd
     cases ho : ops[j]? with
     | none => rw [ho] at hd; cases hd
     | some o => rw [ho] at hd; exact ⟨j, o, by rw [Array.getElem?_toList]; exact ho, hd⟩
    left
    exact (h.old s (fun i d hd hl e => hx ⟨i, d, hd, hl, e⟩)).symm
   rw [Array.getElem?_toList] at ho
   have hi : j < ops.size := (Array.getElem?_eq_some_iff.1 ho).1
   have hd' : dstOf ops j = some d := by simp [dstOf, ho, hd]
   rw [h.sz]
   exact (dstC_of hB hi hd').1
  rw [<- e]
  refine hend _ u ?_ (fun i d hd => ?_)
  ·have e2 : (fun i => l.getD i false) = (fun i => decide (i < ops.size)) := by
    funext i
    by_cases hi : i < ops.size
    ·rw [hall' i hi]; simp [hi]
    have : ¬ i < l.size := by rw [h.ls]; exact hi
    simp [Array.getD, hi, this]
   rw [<- e2]
   exact h.r
  show Φ i (a.tmps.getD ((dstOf ops i).getD 0) undef) u
  rw [hd]
  exact h.val i d hd (hall' i (dstOf_lt hd))
 ·intro l a u i o h ho hli hdep K hK
  have hi : i < ops.size := (Array.getElem?_eq_some_iff.1 ho).1
  have hw : Region.wanted o (yielded ops a.tmps) = wantV ops o a.eval := wanted_eq (fun j d hj => by
   rw [h.sz]; exact (dstC_of hB (dstOf_lt hj) hj).1)
  have hst := hstep u i o a.eval (fun j => l.getD j false) h.r ho (by show l.getD i false = false; rw [getD_eq (by rw [h.ls]; exact hi) false true]; exact hli) (fun j oj hoj hlj e he hb => h.cl j oj hoj hlj e he hb) (fun s hns => by
   refine h.old s (fun j d hj _ e => ?_)
   subst e
   have : isDst ops d = true := by
    unfold isDst
    rw [List.any_eq_true]
    exact ⟨j, List.mem_range.2 (dstOf_lt hj), by simp [hj]⟩
   rw [this] at hns; cases hns) (fun _ => rfl) (fun _ => rfl) hdep (fun j d hd hlj => h.val j d hd hlj)
  rcases hst with ⟨hwt, ⟨v, u', hrun, hv, hr, hbl⟩ | ⟨f, args, hrun, hcall⟩ | ⟨hno, u', hrun, hr, hbl⟩⟩ | ⟨hwf, hv, hr⟩
  ·rw [if_pos (by rw [hw]; exact hwt)]
   unfold Oper.wp
   rw [hrun]
   exact hK _ _ (h.next hB hmono ho hdep (fun _ _ => hv) hr hbl)
  ·rw [if_pos (by rw [hw]; exact hwt)]
   unfold Oper.wp
   rw [hrun, Oper.upon_enter]
   refine hcall.mono ?_
   rintro e u' ⟨v, rfl, hv, hr, hbl⟩
   exact hK _ _ (h.next hB hmono ho hdep (fun _ _ => hv) hr hbl)
  ·rw [if_pos (by rw [hw]; exact hwt)]
   unfold Oper.wp
   rw [hrun, Oper.upon_skip]
   exact hK _ _ (h.next hB hmono ho hdep (fun d hd => by rw [hno] at hd; cases hd) hr hbl)
  rw [if_neg (by rw [hw, hwf]; decide)]
  exact hK _ _ (h.next hB hmono ho hdep (fun _ _ => hv) hr (hM u))
 refine ⟨?_, hs, rfl, rfl, fun _ _ => rfl, fun i d _ hl' => (by rw [hl i] at hl'; cases hl'), fun i o _ hl' => (by rw [hl i] at hl'; cases hl')⟩
 rw [show (fun i => l.getD i false) = (fun _ => false) from funext hl]
 exact h0
theorem run_callv_op {P : Program} {ρ : Operand -> Value} {o : Oper} {u : World} {f : FuncId} {x : Operand} {xs : Array Operand} {ts : Array TypeId} {args : Array Value} (ho : o.op = .call ⟨.value x, xs, ts⟩) (hf : ρ x = .func (.func f) #[] #[]) (hx : xs.map ρ = args)
 (hc : (callFunc f args).run P u = .ok (.enter f args) u) : (execOp ρ o).run P u = .ok (.enter f args) u := by
 unfold execOp
 simp only [ho, resolve, hf, hx]
 show (callFunc f ((#[] ++ args) ++ #[])).run P u = _
 simpa using hc
theorem run_index_op {P : Program} {ρ : Operand -> Value} {o : Oper} {u : World} {t : TypeId} {x y : Operand} {a b v : Value} (ho : o.op = .indexAddr t x y) (ha : ρ x = a) (hb : ρ y = b) (hr : (Instr.indexAt t a b).run P u = .ok v u) : (execOp ρ o).run P u = .ok (.value v) u := by
 unfold execOp
 simp only [ho, ha, hb]
 rw [Sem.run_bind, hr]
 rfl
theorem run_store_op {P : Program} {ρ : Operand -> Value} {o : Oper} {u u' : World} {t : TypeId} {x y : Operand} {a b : Value} (ho : o.op = .store t x y) (ha : ρ x = a) (hb : ρ y = b) (hr : (Instr.storeAt t a b).run P u = .ok () u') : (execOp ρ o).run P u = .ok .skip u' := by
 unfold execOp
 simp only [ho, ha, hb]
 rw [Sem.run_bind, hr]
 rfl
theorem run_field_op {P : Program} {ρ : Operand -> Value} {o : Oper} {u : World} {s : TypeId} {x : Operand} {f : Nat} {a v : Value} (ho : o.op = .fieldAddr s x f) (ha : ρ x = a) (hr : (Instr.fieldAt s a f).run P u = .ok v u) : (execOp ρ o).run P u = .ok (.value v) u := by
 unfold execOp
 simp only [ho, ha]
 rw [Sem.run_bind, hr]
 rfl
theorem run_build_op {P : Program} {ρ : Operand -> Value} {o : Oper} {u u' : World} {t : TypeId} {n : Nat} {ps : Array (Nat × Operand)} {qs : Array (Nat × Value)} {v : Value} (ho : o.op = .buildSlice t n ps) (ha : ps.map (fun (i, x) => (i, ρ x)) = qs) (hr : (Instr.buildSlice t n qs).run P u = .ok v u') : (execOp ρ o).run P u = .ok (.value v) u' := by
 unfold execOp
 simp only [ho, ha]
 rw [Sem.run_bind, hr]
 rfl
theorem run_un_op {P : Program} {ρ : Operand -> Value} {o : Oper} {u : World} {op : UnOp} {t : TypeId} {x : Operand} {a v : Value} (ho : o.op = .unOp op t x) (ha : ρ x = a) (hr : (Op.unary op a).run P u = .ok v u) : (execOp ρ o).run P u = .ok (.value v) u := by
 unfold execOp
 simp only [ho, ha]
 rw [Sem.run_bind, hr]
 rfl
end Go.Proofs.YtkfgijkkffbpmaaGreat
namespace Go.Proofs.YtkfgijkkffbpmaaGreat
open Go.RowKit
def cmpI (x y : Int) : Int := if x < y then -1 else if y < x then 1 else 0
theorem isNaN_any (x : Int) (w : World) : Calls Tryz.prog 265 #[.int .i64 x] w fun e w' => e = .returned (.bool false) /\ w' = w := by
 go_enter Tryz.func265, Tryz.ntmps265
 go_wp2
 go_ret
 exact ⟨rfl, rfl⟩
theorem compare_any (x y : Int) (w : World) : Calls Tryz.prog 246 #[.int .i64 x, .int .i64 y] w fun e w' => e = .returned (.int .i64 (cmpI x y)) /\ w' = w := by
 unfold cmpI
 by_cases h : x < y
 ·rw [if_pos h]
  go_enter Tryz.func246, Tryz.ntmps246
  go_wp2_with fail
  refine (isNaN_any x _).mono ?_
  rintro e w1 ⟨rfl, rfl⟩
  go_wp2_with fail
  refine (isNaN_any y _).mono ?_
  rintro e w2 ⟨rfl, rfl⟩
  go_wp2
  go_ret
  exact ⟨rfl, rfl⟩
 rw [if_neg h]
 by_cases h' : y < x
 ·rw [if_pos h']
  go_enter Tryz.func246, Tryz.ntmps246
  go_wp2_with fail
  refine (isNaN_any x _).mono ?_
  rintro e w1 ⟨rfl, rfl⟩
  go_wp2_with fail
  refine (isNaN_any y _).mono ?_
  rintro e w2 ⟨rfl, rfl⟩
  go_wp2
  go_ret
  exact ⟨rfl, rfl⟩
 rw [if_neg h']
 go_enter Tryz.func246, Tryz.ntmps246
 go_wp2_with fail
 refine (isNaN_any x _).mono ?_
 rintro e w1 ⟨rfl, rfl⟩
 go_wp2_with fail
 refine (isNaN_any y _).mono ?_
 rintro e w2 ⟨rfl, rfl⟩
 go_wp2
 go_ret
 exact ⟨rfl, rfl⟩
def orI (x y z : Int) : Int := if x ≠ 0 then x else if y ≠ 0 then y else z
theorem or_any (g : Nat) (x y z : Int) (w : World) (h0 : w.cell? ⟨g, 0, none⟩ = some (.int .i64 x)) (h1 : w.cell? ⟨g, 1, none⟩ = some (.int .i64 y)) (h2 : w.cell? ⟨g, 2, none⟩ = some (.int .i64 z)) :
 Calls Tryz.prog 245 #[.slice (some ⟨g, 0, none⟩) 3 3] w fun e w' => e = .returned (.int .i64 (orI x y z)) /\ w' = w := by
 unfold orI
 by_cases e0 : x = 0
 ·rw [if_neg (by omega)]
  by_cases e1 : y = 0
  ·rw [if_neg (by omega)]
   by_cases e2 : z = 0
   ·subst e2
    go_enter Tryz.func245, Tryz.ntmps245
    go_wp2
    refine wp_loop_rounds 4 ?_
    rw [rounds_succ]
    go_wp2
    rw [rounds_succ]
    go_wp2
    rw [rounds_succ]
    go_wp2
    rw [rounds_succ]
    go_wp2
    go_ret
    exact ⟨rfl, rfl⟩
   go_enter Tryz.func245, Tryz.ntmps245
   go_wp2
   refine wp_loop_rounds 4 ?_
   rw [rounds_succ]
   go_wp2
   rw [rounds_succ]
   go_wp2
   rw [rounds_succ]
   go_wp2
   go_ret
   exact ⟨rfl, rfl⟩
  rw [if_pos e1]
  go_enter Tryz.func245, Tryz.ntmps245
  go_wp2
  refine wp_loop_rounds 4 ?_
  rw [rounds_succ]
  go_wp2
  rw [rounds_succ]
  go_wp2
  go_ret
  exact ⟨rfl, rfl⟩
 rw [if_pos e0]
 go_enter Tryz.func245, Tryz.ntmps245
 go_wp2
 refine wp_loop_rounds 4 ?_
 rw [rounds_succ]
 go_wp2
 go_ret
 exact ⟨rfl, rfl⟩
def cmpR (a b : Ru) : Int := orI (cmpI a.u b.u) (cmpI a.s b.s) (cmpI a.lo b.lo)
theorem cmpR_lt (a b : Ru) : cmpR a b < 0 ↔ ltR a b := by
 unfold cmpR orI cmpI ltR
 repeat' split
 all_goals omega
theorem byPlaces_any (a b : Ru) (w : World) : Calls Tryz.prog 194 #[.agg (ruc a), .agg (ruc b)] w fun e w' => e = .returned (.int .i64 (cmpR a b)) /\ Below w.heap.size w w' := by
 obtain ⟨W, hW⟩ : ∃ W, W = (w.alloc (.cells (ruc a) 110)).alloc (.cells (ruc b) 110) := ⟨_, rfl⟩
 have B0 : Below w.heap.size w W := by rw [hW]; exact ((Below.refl _ w).alloc (Nat.le_refl _) _).alloc (by simp) _
 have HS : Hid (W.heap.size = w.heap.size + 2) := by rw [hW]; simp [Hid]
 have HC : Hid (W.cell? ⟨w.heap.size, 0, none⟩ = some (.int .i64 a.u) /\ W.cell? ⟨w.heap.size, 1, none⟩ = some (.int .i64 a.s) /\ W.cell? ⟨w.heap.size, 2, none⟩ = some (.int .i64 a.lo) /\ W.cell? ⟨w.heap.size + 1, 0, none⟩ = some (.int .i64 b.u) /\ W.cell? ⟨w.heap.size + 1, 1, none⟩ = some (.int .i64 b.s) /\ W.cell? ⟨w.heap.size + 1, 2, none⟩ = some (.int .i64 b.lo)) := by rw [hW]; refine ⟨?_, ?_, ?_, ?_, ?_, ?_⟩ <;> simp [go_sem]
 have cells : ∀ {u : World}, Below W.heap.size W u -> u.cell? ⟨w.heap.size, 0, none⟩ = some (.int .i64 a.u) /\ u.cell? ⟨w.heap.size, 1, none⟩ = some (.int .i64 a.s) /\ u.cell? ⟨w.heap.size, 2, none⟩ = some (.int .i64 a.lo) /\ u.cell? ⟨w.heap.size + 1, 0, none⟩ = some (.int .i64 b.u) /\ u.cell? ⟨w.heap.size + 1, 1, none⟩ = some (.int .i64 b.s) /\ u.cell? ⟨w.heap.size + 1, 2, none⟩ = some (.int .i64 b.lo) := fun hb => by
  have hs := HS.out
  obtain ⟨k0, k1, k2, k3, k4, k5⟩ := HC.out
  refine ⟨?_, ?_, ?_, ?_, ?_, ?_⟩
  ·rw [hb.cell (p := ⟨w.heap.size, 0, none⟩) (by show w.heap.size < W.heap.size; omega)]; exact k0
  ·rw [hb.cell (p := ⟨w.heap.size, 1, none⟩) (by show w.heap.size < W.heap.size; omega)]; exact k1
  ·rw [hb.cell (p := ⟨w.heap.size, 2, none⟩) (by show w.heap.size < W.heap.size; omega)]; exact k2
  ·rw [hb.cell (p := ⟨w.heap.size + 1, 0, none⟩) (by show w.heap.size + 1 < W.heap.size; omega)]; exact k3
  ·rw [hb.cell (p := ⟨w.heap.size + 1, 1, none⟩) (by show w.heap.size + 1 < W.heap.size; omega)]; exact k4
  rw [hb.cell (p := ⟨w.heap.size + 1, 2, none⟩) (by show w.heap.size + 1 < W.heap.size; omega)]; exact k5
 go_enter Tryz.func194, Tryz.ntmps194
 go_wp2
 rw [<- hW]
 clear hW
 refine wp_region_any (by kernel_rfl) ?_
 refine wpAny_vals (fun u => Below W.heap.size W u) (fun i v u => match i with
 | 0 => v = .pointer (some ⟨w.heap.size, 0, none⟩)
 | 1 => v = .int .i64 a.u
 | 2 => v = .pointer (some ⟨w.heap.size + 1, 0, none⟩)
 | 3 => v = .int .i64 b.u
 | 4 => v = .int .i64 (cmpI a.u b.u)
 | 5 => v = .pointer (some ⟨w.heap.size, 1, none⟩)
 | 6 => v = .int .i64 a.s
 | 7 => v = .pointer (some ⟨w.heap.size + 1, 1, none⟩)
 | 8 => v = .int .i64 b.s
 | 9 => v = .int .i64 (cmpI a.s b.s)
 | 10 => v = .pointer (some ⟨w.heap.size, 2, none⟩)
 | 11 => v = .int .i64 a.lo
 | 12 => v = .pointer (some ⟨w.heap.size + 1, 2, none⟩)
 | 13 => v = .int .i64 b.lo
 | 14 => v = .int .i64 (cmpI a.lo b.lo)
 | 15 => ∃ g, v = .slice (some ⟨g, 0, none⟩) 3 3 /\ g < u.heap.size /\ u.cell? ⟨g, 0, none⟩ = some (.int .i64 (cmpI a.u b.u)) /\ u.cell? ⟨g, 1, none⟩ = some (.int .i64 (cmpI a.s b.s)) /\ u.cell? ⟨g, 2, none⟩ = some (.int .i64 (cmpI a.lo b.lo))
 | 16 => v = .int .i64 (cmpR a b)
 | 17 => v = .int .i64 (cmpR a b)
 | _ => True) (by kernel_rfl) (by kernel_rfl) ?_ (Below.refl _ _).drew ?_ ?_ _ _ rfl (by decide) (fun i => by simp [Array.getD]; try (split <;> rfl))
 ·intro i v u u' h hb
  match i, h with
  | 15, h =>
   obtain ⟨g, hg, hlt, q0, q1, q2⟩ := h
   refine ⟨g, hg, by have := hb.size; omega, ?_, ?_, ?_⟩
   ·rw [hb.cell (p := ⟨g, 0, none⟩) hlt]; exact q0
   ·rw [hb.cell (p := ⟨g, 1, none⟩) hlt]; exact q1
   rw [hb.cell (p := ⟨g, 2, none⟩) hlt]; exact q2
  | 0, h => exact h
  | 1, h => exact h
  | 2, h => exact h
  | 3, h => exact h
  | 4, h => exact h
  | 5, h => exact h
  | 6, h => exact h
  | 7, h => exact h
  | 8, h => exact h
  | 9, h => exact h
  | 10, h => exact h
  | 11, h => exact h
  | 12, h => exact h
  | 13, h => exact h
  | 14, h => exact h
  | 16, h => exact h
  | 17, h => exact h
  | (k + 18), h => trivial
 ·intro vs u hR hall
  have e17 : vs 17 = .int .i64 (cmpR a b) := hall 17 (by simp)
  have BU := bel_next B0 hR
  simp only [putsL]
  rw [e17]
  clear hall e17 cells HC HS B0
  go_simp
  go_wp2
  go_ret
  exact ⟨rfl, BU⟩
 intro u i o ρ hR ho hρ hc hf hd
 have hi : i < 18 := by
  have := (Array.getElem?_eq_some_iff.1 ho).1
  simpa using this
 obtain rfl | rfl | rfl | rfl | rfl | rfl | rfl | rfl | rfl | rfl | rfl | rfl | rfl | rfl | rfl | rfl | rfl | rfl : i = 0 \/ i = 1 \/ i = 2 \/ i = 3 \/ i = 4 \/ i = 5 \/ i = 6 \/ i = 7 \/ i = 8 \/ i = 9 \/ i = 10 \/ i = 11 \/ i = 12 \/ i = 13 \/ i = 14 \/ i = 15 \/ i = 16 \/ i = 17 := by omega
 all_goals (simp only [List.getElem?_toArray, List.getElem?_cons_zero, List.getElem?_cons_succ, Option.some.injEq] at ho; subst ho)
 ·have s2 : ρ (.tmp 2) = .pointer (some ⟨w.heap.size, 0, none⟩) := (hρ 2 (by kernel_rfl)).trans rfl
  exact .inl ⟨rfl, .inl ⟨.pointer (some ⟨w.heap.size, 0, none⟩), u, run_field_op rfl s2 (by go_simp), rfl, hR, Below.refl _ _⟩⟩
 ·obtain ⟨c0, c1, c2, d0, d1, d2⟩ := cells hR
  have h0 : ρ (.tmp 5) = .pointer (some ⟨w.heap.size, 0, none⟩) := hd ⟨0, .data⟩ (by simp) rfl 5 rfl
  have hr : (Instr.loadAt 3 (.pointer (some ⟨w.heap.size, 0, none⟩))).run Tryz.prog u = .ok (.int .i64 a.u) u := by go_simp
  exact .inl ⟨rfl, .inl ⟨.int .i64 a.u, u, run_load_op rfl h0 hr, rfl, hR, Below.refl _ _⟩⟩
 ·have s3 : ρ (.tmp 3) = .pointer (some ⟨w.heap.size + 1, 0, none⟩) := (hρ 3 (by kernel_rfl)).trans rfl
  exact .inl ⟨rfl, .inl ⟨.pointer (some ⟨w.heap.size + 1, 0, none⟩), u, run_field_op rfl s3 (by go_simp), rfl, hR, Below.refl _ _⟩⟩
 ·obtain ⟨c0, c1, c2, d0, d1, d2⟩ := cells hR
  have h2 : ρ (.tmp 7) = .pointer (some ⟨w.heap.size + 1, 0, none⟩) := hd ⟨2, .data⟩ (by simp) rfl 7 rfl
  have hr : (Instr.loadAt 3 (.pointer (some ⟨w.heap.size + 1, 0, none⟩))).run Tryz.prog u = .ok (.int .i64 b.u) u := by go_simp
  exact .inl ⟨rfl, .inl ⟨.int .i64 b.u, u, run_load_op rfl h2 hr, rfl, hR, Below.refl _ _⟩⟩
 ·have h1 : ρ (.tmp 6) = .int .i64 a.u := hd ⟨1, .data⟩ (by simp) rfl 6 rfl
  have h3 : ρ (.tmp 8) = .int .i64 b.u := hd ⟨3, .data⟩ (by simp) rfl 8 rfl
  refine .inl ⟨rfl, .inr ⟨_, _, run_call_op rfl (hf _) (args := #[.int .i64 a.u, .int .i64 b.u]) (by simp [h1, h3]) (by kernel_rfl), ?_⟩⟩
  refine (compare_any a.u b.u _).mono ?_
  rintro e u' ⟨rfl, rfl⟩
  exact ⟨_, rfl, rfl, hR, Below.refl _ _⟩
 ·have s2 : ρ (.tmp 2) = .pointer (some ⟨w.heap.size, 0, none⟩) := (hρ 2 (by kernel_rfl)).trans rfl
  exact .inl ⟨rfl, .inl ⟨.pointer (some ⟨w.heap.size, 1, none⟩), u, run_field_op rfl s2 (by go_simp), rfl, hR, Below.refl _ _⟩⟩
 ·obtain ⟨c0, c1, c2, d0, d1, d2⟩ := cells hR
  have h5 : ρ (.tmp 10) = .pointer (some ⟨w.heap.size, 1, none⟩) := hd ⟨5, .data⟩ (by simp) rfl 10 rfl
  have hr : (Instr.loadAt 3 (.pointer (some ⟨w.heap.size, 1, none⟩))).run Tryz.prog u = .ok (.int .i64 a.s) u := by go_simp
  exact .inl ⟨rfl, .inl ⟨.int .i64 a.s, u, run_load_op rfl h5 hr, rfl, hR, Below.refl _ _⟩⟩
 ·have s3 : ρ (.tmp 3) = .pointer (some ⟨w.heap.size + 1, 0, none⟩) := (hρ 3 (by kernel_rfl)).trans rfl
  exact .inl ⟨rfl, .inl ⟨.pointer (some ⟨w.heap.size + 1, 1, none⟩), u, run_field_op rfl s3 (by go_simp), rfl, hR, Below.refl _ _⟩⟩
 ·obtain ⟨c0, c1, c2, d0, d1, d2⟩ := cells hR
  have h7 : ρ (.tmp 12) = .pointer (some ⟨w.heap.size + 1, 1, none⟩) := hd ⟨7, .data⟩ (by simp) rfl 12 rfl
  have hr : (Instr.loadAt 3 (.pointer (some ⟨w.heap.size + 1, 1, none⟩))).run Tryz.prog u = .ok (.int .i64 b.s) u := by go_simp
  exact .inl ⟨rfl, .inl ⟨.int .i64 b.s, u, run_load_op rfl h7 hr, rfl, hR, Below.refl _ _⟩⟩
 ·have h6 : ρ (.tmp 11) = .int .i64 a.s := hd ⟨6, .data⟩ (by simp) rfl 11 rfl
  have h8 : ρ (.tmp 13) = .int .i64 b.s := hd ⟨8, .data⟩ (by simp) rfl 13 rfl
  refine .inl ⟨rfl, .inr ⟨_, _, run_call_op rfl (hf _) (args := #[.int .i64 a.s, .int .i64 b.s]) (by simp [h6, h8]) (by kernel_rfl), ?_⟩⟩
  refine (compare_any a.s b.s _).mono ?_
  rintro e u' ⟨rfl, rfl⟩
  exact ⟨_, rfl, rfl, hR, Below.refl _ _⟩
 ·have s2 : ρ (.tmp 2) = .pointer (some ⟨w.heap.size, 0, none⟩) := (hρ 2 (by kernel_rfl)).trans rfl
  exact .inl ⟨rfl, .inl ⟨.pointer (some ⟨w.heap.size, 2, none⟩), u, run_field_op rfl s2 (by go_simp), rfl, hR, Below.refl _ _⟩⟩
 ·obtain ⟨c0, c1, c2, d0, d1, d2⟩ := cells hR
  have h10 : ρ (.tmp 15) = .pointer (some ⟨w.heap.size, 2, none⟩) := hd ⟨10, .data⟩ (by simp) rfl 15 rfl
  have hr : (Instr.loadAt 3 (.pointer (some ⟨w.heap.size, 2, none⟩))).run Tryz.prog u = .ok (.int .i64 a.lo) u := by go_simp
  exact .inl ⟨rfl, .inl ⟨.int .i64 a.lo, u, run_load_op rfl h10 hr, rfl, hR, Below.refl _ _⟩⟩
 ·have s3 : ρ (.tmp 3) = .pointer (some ⟨w.heap.size + 1, 0, none⟩) := (hρ 3 (by kernel_rfl)).trans rfl
  exact .inl ⟨rfl, .inl ⟨.pointer (some ⟨w.heap.size + 1, 2, none⟩), u, run_field_op rfl s3 (by go_simp), rfl, hR, Below.refl _ _⟩⟩
 ·obtain ⟨c0, c1, c2, d0, d1, d2⟩ := cells hR
  have h12 : ρ (.tmp 17) = .pointer (some ⟨w.heap.size + 1, 2, none⟩) := hd ⟨12, .data⟩ (by simp) rfl 17 rfl
  have hr : (Instr.loadAt 3 (.pointer (some ⟨w.heap.size + 1, 2, none⟩))).run Tryz.prog u = .ok (.int .i64 b.lo) u := by go_simp
  exact .inl ⟨rfl, .inl ⟨.int .i64 b.lo, u, run_load_op rfl h12 hr, rfl, hR, Below.refl _ _⟩⟩
 ·have h11 : ρ (.tmp 16) = .int .i64 a.lo := hd ⟨11, .data⟩ (by simp) rfl 16 rfl
  have h13 : ρ (.tmp 18) = .int .i64 b.lo := hd ⟨13, .data⟩ (by simp) rfl 18 rfl
  refine .inl ⟨rfl, .inr ⟨_, _, run_call_op rfl (hf _) (args := #[.int .i64 a.lo, .int .i64 b.lo]) (by simp [h11, h13]) (by kernel_rfl), ?_⟩⟩
  refine (compare_any a.lo b.lo _).mono ?_
  rintro e u' ⟨rfl, rfl⟩
  exact ⟨_, rfl, rfl, hR, Below.refl _ _⟩
 ·have h4 : ρ (.tmp 9) = .int .i64 (cmpI a.u b.u) := hd ⟨4, .data⟩ (by simp) rfl 9 rfl
  have h9 : ρ (.tmp 14) = .int .i64 (cmpI a.s b.s) := hd ⟨9, .data⟩ (by simp) rfl 14 rfl
  have h14 : ρ (.tmp 19) = .int .i64 (cmpI a.lo b.lo) := hd ⟨14, .data⟩ (by simp) rfl 19 rfl
  have hr : (Instr.buildSlice 91 3 #[(0, .int .i64 (cmpI a.u b.u)), (1, .int .i64 (cmpI a.s b.s)), (2, .int .i64 (cmpI a.lo b.lo))]).run Tryz.prog u = .ok (.slice (some ⟨u.heap.size, 0, none⟩) 3 3) (u.alloc (.cells #[.int .i64 (cmpI a.u b.u), .int .i64 (cmpI a.s b.s), .int .i64 (cmpI a.lo b.lo)] 3)) := by go_simp
  refine .inl ⟨rfl, .inl ⟨_, _, run_build_op rfl (qs := #[(0, .int .i64 (cmpI a.u b.u)), (1, .int .i64 (cmpI a.s b.s)), (2, .int .i64 (cmpI a.lo b.lo))]) (by simp [h4, h9, h14]) hr, ⟨_, rfl, by simp, ?_, ?_, ?_⟩, hR.alloc hR.size _, (Below.refl _ _).alloc (Nat.le_refl _) _⟩⟩
  all_goals simp [go_sem]
 ·obtain ⟨g, hg, _, q0, q1, q2⟩ := hd ⟨15, .data⟩ (by simp) rfl 20 rfl
  refine .inl ⟨rfl, .inr ⟨_, _, run_call_op rfl (hf _) (args := #[.slice (some ⟨g, 0, none⟩) 3 3]) (by simp [hg]) (by kernel_rfl), ?_⟩⟩
  refine (or_any g _ _ _ _ q0 q1 q2).mono ?_
  rintro e u' ⟨rfl, rfl⟩
  exact ⟨_, rfl, rfl, hR, Below.refl _ _⟩
 have h16 : ρ (.tmp 21) = .int .i64 (cmpR a b) := hd ⟨16, .data⟩ (by simp) rfl 21 rfl
 exact .inl ⟨rfl, .inl ⟨_, u, rfl, h16, hR, Below.refl _ _⟩⟩
end Go.Proofs.YtkfgijkkffbpmaaGreat
