/- Texts that the proof needs, joined: R3. -/
import Derived.Test.YtohikbpolofklaaGreatDoorV2
import Derived.Test.YtohikbpolofklaaGreatDoorV3
import Derived.Test.YtohikbpolofklaaGreatDoorV4
import Derived.Deep.RegionWith
import Derived.Deep.RegionHeld3
namespace Go.Proofs.YtohikbpolofklaaGreatDoor
open Go.RowKit
set_option linter.unusedVariables false
set_option linter.unusedSimpArgs false
theorem lit_slI3 (w : World) (x y z : Int) {g : Nat} (hg : g = w.heap.size) : SlI (w.alloc (.cells #[.int .i64 x, .int .i64 y, .int .i64 z] 3)) (some ⟨g, 0, none⟩) [x, y, z] := hg ▸
  .inr ⟨_, 0, rfl, by simp, fun i hi => by
    have : i = 0 ∨ i = 1 ∨ i = 2 := by simp at hi; omega
    rcases this with rfl | rfl | rfl <;> simp⟩
theorem lit_slI4 (w : World) (x y z u : Int) {g : Nat} (hg : g = w.heap.size) : SlI (w.alloc (.cells #[.int .i64 x, .int .i64 y, .int .i64 z, .int .i64 u] 3)) (some ⟨g, 0, none⟩) [x, y, z, u] := hg ▸
  .inr ⟨_, 0, rfl, by simp, fun i hi => by
    have : i = 0 ∨ i = 1 ∨ i = 2 ∨ i = 3 := by simp at hi; omega
    rcases this with rfl | rfl | rfl | rfl <;> simp⟩
theorem nw_next {w u w' : World} {e : Ending} {zs : List Int} (hb : Below w.heap.size w u) (h : Nw u w' e zs) : Nw w w' e zs := by
  obtain ⟨g, c, n, he, hn, ho, hb'⟩ := h
  exact ⟨g, c, n, he, hn, own_mono ho hb.size, bel_next hb hb'⟩
theorem Nw.bel {w w' : World} {e : Ending} {zs : List Int} (h : Nw w w' e zs) : Below w.heap.size w w' := by
  obtain ⟨_, _, _, _, _, _, hb⟩ := h
  exact hb
def packL (bs : List Bool) : List Int := (List.range ((bs.length + 7) / 8)).map (fun i => pv bs bs.length i)
theorem packL_length (bs : List Bool) : (packL bs).length = (bs.length + 7) / 8 := by simp [packL]
theorem implPack_nw (a : Option Addr) (n cap : Nat) (bs : List Bool) (w : World) (hn : n = bs.length) (hs : SlB w a bs) (hl : n ≤ 2000000) :
    Calls Tryz.prog 52 #[.slice a n cap] w fun e w' => Nw w w' e (packL bs) := by
  refine (implPackBits_any a n cap ((n + 7) / 8) bs w hn rfl hs hl).mono ?_
  rintro e w' ⟨rfl, hr, hb⟩
  subst hn
  refine ⟨_, _, _, rfl, (packL_length bs).symm, Own.ofRow (zs := packL bs) ?_ (packL_length bs).symm (Nat.le_refl _) (by unfold maxLen; omega), hb⟩
  refine hr.congr ?_
  intro i hi
  simp [packL, hi]
theorem specPack_nw (a : Option Addr) (n cap : Nat) (bs : List Bool) (w : World) (hn : n = bs.length) (hs : SlB w a bs) (hl : n ≤ 2000000) :
    Calls Tryz.prog 28 #[.slice a n cap] w fun e w' => Nw w w' e (packL bs) := by
  refine (specPackBits_any a n cap ((n + 7) / 8) bs w hn rfl hs hl).mono ?_
  rintro e w' ⟨rfl, hr, hb⟩
  subst hn
  refine ⟨_, _, _, rfl, (packL_length bs).symm, Own.ofRow (zs := packL bs) ?_ (packL_length bs).symm (Nat.le_refl _) (by unfold maxLen; omega), hb⟩
  refine hr.congr ?_
  intro i hi
  simp [packL, hi]
set_option maxRecDepth 20000 in
set_option maxHeartbeats 8000000 in
theorem putQ_1 (pl nn : Int) (w : World) :
    Calls Tryz.prog 32 #[.iface 87 (.agg #[.int .i64 pl, .int .i64 nn])] w fun e w' => Nw w w' e (1 % 256 :: wbs [pl, nn]) := by
  have t1 := ta_1_1
  have B0 := bel_next (bel_alloc w (.cells #[.int .i64 pl, .int .i64 nn] 87)) (bel_alloc _ (.cells #[.int .i64 pl, .int .i64 nn] 3))
  have s0 := lit_slI2 (w.alloc (.cells #[.int .i64 pl, .int .i64 nn] 87)) pl nn (g := w.heap.size + 1) (by simp)
  have HS : Hid (SlI _ _ _) := s0
  clear s0
  go_enter Tryz.func32, Tryz.ntmps32
  go_wp2_with fail
  refine (putKind_any 1 _ _ _ [pl, nn] _ rfl HS.out (by simp) (by simp)).mono ?_
  rintro e w1 h1
  replace h1 := nw_next B0 h1
  obtain ⟨g, c, n, rfl, h2⟩ := h1
  have H1 : Hid _ := h2
  clear h2
  go_wp2
  go_ret
  exact ⟨g, c, n, rfl, H1.out⟩
set_option maxRecDepth 20000 in
set_option maxHeartbeats 8000000 in
theorem putQ_2 (pl nn : Int) (w : World) :
    Calls Tryz.prog 32 #[.iface 89 (.agg #[.int .i64 pl, .int .i64 nn])] w fun e w' => Nw w w' e (2 % 256 :: wbs [pl, nn]) := by
  have t1 := ta_2_1
  have t2 := ta_2_2
  have B0 := bel_next (bel_alloc w (.cells #[.int .i64 pl, .int .i64 nn] 89)) (bel_alloc _ (.cells #[.int .i64 pl, .int .i64 nn] 3))
  have s0 := lit_slI2 (w.alloc (.cells #[.int .i64 pl, .int .i64 nn] 89)) pl nn (g := w.heap.size + 1) (by simp)
  have HS : Hid (SlI _ _ _) := s0
  clear s0
  go_enter Tryz.func32, Tryz.ntmps32
  go_wp2_with fail
  refine (putKind_any 2 _ _ _ [pl, nn] _ rfl HS.out (by simp) (by simp)).mono ?_
  rintro e w1 h1
  replace h1 := nw_next B0 h1
  obtain ⟨g, c, n, rfl, h2⟩ := h1
  have H1 : Hid _ := h2
  clear h2
  go_wp2
  go_ret
  exact ⟨g, c, n, rfl, H1.out⟩
set_option maxRecDepth 20000 in
set_option maxHeartbeats 8000000 in
theorem putQ_3 (pl nn : Int) (w : World) :
    Calls Tryz.prog 32 #[.iface 90 (.agg #[.int .i64 pl, .int .i64 nn])] w fun e w' => Nw w w' e (3 % 256 :: wbs [pl, nn]) := by
  have t1 := ta_3_1
  have t2 := ta_3_2
  have t3 := ta_3_3
  have B0 := bel_next (bel_alloc w (.cells #[.int .i64 pl, .int .i64 nn] 90)) (bel_alloc _ (.cells #[.int .i64 pl, .int .i64 nn] 3))
  have s0 := lit_slI2 (w.alloc (.cells #[.int .i64 pl, .int .i64 nn] 90)) pl nn (g := w.heap.size + 1) (by simp)
  have HS : Hid (SlI _ _ _) := s0
  clear s0
  go_enter Tryz.func32, Tryz.ntmps32
  go_wp2_with fail
  refine (putKind_any 3 _ _ _ [pl, nn] _ rfl HS.out (by simp) (by simp)).mono ?_
  rintro e w1 h1
  replace h1 := nw_next B0 h1
  obtain ⟨g, c, n, rfl, h2⟩ := h1
  have H1 : Hid _ := h2
  clear h2
  go_wp2
  go_ret
  exact ⟨g, c, n, rfl, H1.out⟩
set_option maxRecDepth 20000 in
set_option maxHeartbeats 8000000 in
theorem putQ_4 (pl nn : Int) (w : World) :
    Calls Tryz.prog 32 #[.iface 91 (.agg #[.int .i64 pl, .int .i64 nn])] w fun e w' => Nw w w' e (4 % 256 :: wbs [pl, nn]) := by
  have t1 := ta_4_1
  have t2 := ta_4_2
  have t3 := ta_4_3
  have t4 := ta_4_4
  have B0 := bel_next (bel_alloc w (.cells #[.int .i64 pl, .int .i64 nn] 91)) (bel_alloc _ (.cells #[.int .i64 pl, .int .i64 nn] 3))
  have s0 := lit_slI2 (w.alloc (.cells #[.int .i64 pl, .int .i64 nn] 91)) pl nn (g := w.heap.size + 1) (by simp)
  have HS : Hid (SlI _ _ _) := s0
  clear s0
  go_enter Tryz.func32, Tryz.ntmps32
  go_wp2_with fail
  refine (putKind_any 4 _ _ _ [pl, nn] _ rfl HS.out (by simp) (by simp)).mono ?_
  rintro e w1 h1
  replace h1 := nw_next B0 h1
  obtain ⟨g, c, n, rfl, h2⟩ := h1
  have H1 : Hid _ := h2
  clear h2
  go_wp2
  go_ret
  exact ⟨g, c, n, rfl, H1.out⟩
set_option maxRecDepth 20000 in
set_option maxHeartbeats 8000000 in
theorem putQ_6 (pl x : Int) (w : World) :
    Calls Tryz.prog 32 #[.iface 96 (.agg #[.int .i64 pl, .int .i64 x])] w fun e w' => Nw w w' e (6 % 256 :: wbs [pl, x]) := by
  have t1 := ta_6_1
  have t2 := ta_6_2
  have t3 := ta_6_3
  have t4 := ta_6_4
  have t5 := ta_6_5
  have t6 := ta_6_6
  have B0 := bel_next (bel_alloc w (.cells #[.int .i64 pl, .int .i64 x] 96)) (bel_alloc _ (.cells #[.int .i64 pl, .int .i64 x] 3))
  have s0 := lit_slI2 (w.alloc (.cells #[.int .i64 pl, .int .i64 x] 96)) pl x (g := w.heap.size + 1) (by simp)
  have HS : Hid (SlI _ _ _) := s0
  clear s0
  go_enter Tryz.func32, Tryz.ntmps32
  go_wp2_with fail
  refine (putKind_any 6 _ _ _ [pl, x] _ rfl HS.out (by simp) (by simp)).mono ?_
  rintro e w1 h1
  replace h1 := nw_next B0 h1
  obtain ⟨g, c, n, rfl, h2⟩ := h1
  have H1 : Hid _ := h2
  clear h2
  go_wp2
  go_ret
  exact ⟨g, c, n, rfl, H1.out⟩
set_option maxRecDepth 20000 in
set_option maxHeartbeats 8000000 in
theorem putQ_22 (pl x y : Int) (w : World) :
    Calls Tryz.prog 32 #[.iface 104 (.agg #[.int .i64 pl, .int .i64 x, .int .i64 y])] w fun e w' => Nw w w' e (22 % 256 :: wbs [pl, x, y]) := by
  have t1 := ta_22_1
  have t2 := ta_22_2
  have t3 := ta_22_3
  have t4 := ta_22_4
  have t5 := ta_22_5
  have t6 := ta_22_6
  have t15 := ta_22_15
  have t16 := ta_22_16
  have t22 := ta_22_22
  have B0 := bel_next (bel_alloc w (.cells #[.int .i64 pl, .int .i64 x, .int .i64 y] 104)) (bel_alloc _ (.cells #[.int .i64 pl, .int .i64 x, .int .i64 y] 3))
  have s0 := lit_slI3 (w.alloc (.cells #[.int .i64 pl, .int .i64 x, .int .i64 y] 104)) pl x y (g := w.heap.size + 1) (by simp)
  have HS : Hid (SlI _ _ _) := s0
  clear s0
  go_enter Tryz.func32, Tryz.ntmps32
  go_wp2_with fail
  refine (putKind_any 22 _ _ _ [pl, x, y] _ rfl HS.out (by simp) (by simp)).mono ?_
  rintro e w1 h1
  replace h1 := nw_next B0 h1
  obtain ⟨g, c, n, rfl, h2⟩ := h1
  have H1 : Hid _ := h2
  clear h2
  go_wp2
  go_ret
  exact ⟨g, c, n, rfl, H1.out⟩
set_option maxRecDepth 20000 in
set_option maxHeartbeats 8000000 in
theorem putQ_n (w : World) :
    Calls Tryz.prog 32 #[.nilIface] w fun e w' => e = .returned (.slice none 0 0) ∧ w' = w := by
  have t1 := ta_n_1
  have t2 := ta_n_2
  have t3 := ta_n_3
  have t4 := ta_n_4
  have t5 := ta_n_5
  have t6 := ta_n_6
  have t15 := ta_n_15
  have t16 := ta_n_16
  have t22 := ta_n_22
  have t23 := ta_n_23
  go_enter Tryz.func32, Tryz.ntmps32
  go_wp2
  go_ret
  exact ⟨rfl, rfl⟩
set_option maxRecDepth 20000 in
set_option maxHeartbeats 8000000 in
theorem putQ_5 (pl : Int) (x : Bool) (w : World) :
    Calls Tryz.prog 32 #[.iface 93 (.agg #[.int .i64 pl, .bool x])] w fun e w' => Nw w w' e (5 % 256 :: wbs [pl, bif x then 65280 else 0]) := by
  have t1 := ta_5_1
  have t2 := ta_5_2
  have t3 := ta_5_3
  have t4 := ta_5_4
  have t5 := ta_5_5
  have Bd : Below w.heap.size w ((w.alloc (.cells #[.int .i64 pl, .bool x] 93)).alloc (.cells #[.int .i64 pl, .int .i64 (bif x then 65280 else 0)] 3)).drew := (bel_next (bel_alloc w (.cells #[.int .i64 pl, .bool x] 93)) (bel_alloc _ _)).drew
  go_enter Tryz.func32, Tryz.ntmps32
  go_upto_region 16 with fail
  go_region_with (first | (go_at_call 50; refine (coilWord_any x _).mono ?_; rintro e wx ⟨rfl, rfl⟩) | (go_at_call 49; refine (putKind_any 5 _ _ _ [pl, bif x then 65280 else 0] _ rfl ((lit_slI2 _ _ _ (by simp)).below (Below.refl _ _).drew) (by simp) (by simp)).mono ?_; rintro e w1 h1; replace h1 := nw_next Bd h1; obtain ⟨g, c, n, rfl, h2⟩ := h1; have H1 : Hid _ := h2; clear h2))
  all_goals (go_wp2; go_ret; exact ⟨g, c, n, rfl, H1.out⟩)
set_option maxRecDepth 20000 in
set_option maxHeartbeats 8000000 in
theorem putQ_15 (pl : Int) (a2 : Option Addr) (l2 c2 : Nat) (bs : List Bool) (w : World) (h2 : l2 = bs.length) (s2 : SlB w a2 bs) (hl : l2 ≤ 2000) :
    Calls Tryz.prog 32 #[.iface 98 (.agg #[.int .i64 pl, .slice a2 l2 c2])] w fun e w' => Nw w w' e ((15 % 256 :: wbs [pl, (l2 : Int)]) ++ [(((bs.length + 7) / 8 : Nat) : Int) % 256] ++ packL bs) := by
  have t1 := ta_15_1
  have t2 := ta_15_2
  have t3 := ta_15_3
  have t4 := ta_15_4
  have t5 := ta_15_5
  have t6 := ta_15_6
  have t15 := ta_15_15
  have H2 : Hid (l2 = bs.length) := h2
  have S2 : Hid (SlB w a2 bs) := s2
  have hl3 : bs.length ≤ 2000 := by omega
  clear h2 s2
  obtain ⟨u, hu⟩ : ∃ u, u = w.alloc (.cells #[.int .i64 pl, .slice a2 l2 c2] 98) := ⟨_, rfl⟩
  have HU : Hid (u = _) := hu
  have q0 : Below w.heap.size w u := by rw [hu]; exact bel_alloc w _
  have X0 : Blk u w.heap.size 98 #[.int .i64 pl, .slice a2 l2 c2] := by rw [hu]; exact Blk.new w _ _
  have qd := q0.drew
  have Xd := X0.below (Below.refl _ _).drew
  have q1 := (bel_next q0 (bel_alloc u (.cells #[.int .i64 pl, .int .i64 (l2 : Int)] 3))).drew
  have X1 := (X0.below (bel_alloc u (.cells #[.int .i64 pl, .int .i64 (l2 : Int)] 3))).below (Below.refl _ _).drew
  have L1 := (lit_slI2 u pl (l2 : Int) rfl).below (Below.refl _ _).drew
  have k00 := X0.cell 0 rfl
  have k01 := X0.cell 1 rfl
  have k10 := (X0.below (bel_alloc u (.cells #[.int .i64 pl, .int .i64 (l2 : Int)] 3))).cell 0 rfl
  have k11 := (X0.below (bel_alloc u (.cells #[.int .i64 pl, .int .i64 (l2 : Int)] 3))).cell 1 rfl
  clear hu
  go_enter Tryz.func32, Tryz.ntmps32
  go_upto_region 22 with fail
  rw [← HU.out]
  go_region_held3 (fun w' => w'.cell? ⟨w.heap.size, 0, none⟩ = some (.int .i64 pl) ∧ w'.cell? ⟨w.heap.size, 1, none⟩ = some (.slice a2 l2 c2)) (go_keep)
    (first
      | (go_at_call 49; refine (putKind_any 15 _ _ _ [pl, (l2 : Int)] _ rfl (by first | exact L1 | exact L1.below bP | exact lit_slI2 _ pl (l2 : Int) (by simp)) (by simp) (by simp)).mono ?_; rintro e wA ⟨gA, cA, nA, rfl, hnA, oA, bA⟩; have HnA : Hid _ := hnA; have BA := bel_next (w0 := w) (by first | exact q1 | exact BP | exact bel_next BP (bel_alloc _ _)) bA; have XA := Blk.below (by first | exact X1 | exact XP | exact XP.below (bel_alloc _ _)) bA; have kA0 := XA.cell 0 rfl; have kA1 := XA.cell 1 rfl; clear hnA)
      | (go_at_call 52; refine (implPack_nw _ _ _ bs _ H2.out (S2.out.below (by first | exact qd | exact q1 | exact BA)) (by omega)).mono ?_; rintro e wP ⟨gP, cP, nP, rfl, hnP, oP, bP⟩; have HnP : Hid _ := hnP; have BP := bel_next (w0 := w) (by first | exact qd | exact q1 | exact BA) bP; have XP := Blk.below (by first | exact Xd | exact X1 | exact XA) bP; have kP0 := XP.cell 0 rfl; have kPa0 := (XP.below (bel_alloc wP (.cells #[.int .i64 pl, .int .i64 (l2 : Int)] 3))).cell 0 rfl; have kP1 := XP.cell 1 rfl; have kPa1 := (XP.below (bel_alloc wP (.cells #[.int .i64 pl, .int .i64 (l2 : Int)] 3))).cell 1 rfl; clear hnP)
      | (go_at_call 51; refine (putCounted_any _ _ _ _ _ _ (15 % 256 :: wbs [pl, (l2 : Int)]) (packL bs) _ HnA.out HnP.out (by first | exact oA.sl.2 | exact (oA.below bP).sl.2) (by first | exact oP.sl.2 | exact (oP.below bA).sl.2 | exact (oP.below (bel_next (bel_alloc _ _) bA)).sl.2) (by have := HnA.out; simp [wbs_length] at this; omega) (by have := HnP.out; simp [wbs_length, packL_length] at this; omega)).mono ?_; rintro e w3 h3; have b3 := h3.bel; have X3 := Blk.below (by first | exact XP | exact XA) b3; have k30 := X3.cell 0 rfl; have k31 := X3.cell 1 rfl; replace h3 := nw_next (by first | exact BP | exact BA) h3; obtain ⟨g, c, n, rfl, h4⟩ := h3; have H1 : Hid _ := h4; clear h4))
  all_goals (go_wp2; go_ret; refine ⟨g, c, n, rfl, ?_⟩; have := H1.out; rw [show nP = (bs.length + 7) / 8 from by have := HnP.out; simp [wbs_length, packL_length] at this; omega] at this; exact this)
set_option maxRecDepth 20000 in
set_option maxHeartbeats 8000000 in
theorem putQ_16 (pl : Int) (a1 : Option Addr) (l1 c1 : Nat) (ws : List Int) (w : World) (h1 : l1 = ws.length) (s1 : SlI w a1 ws) (hl : l1 ≤ 200) (hp : 0 < ws.length) :
    Calls Tryz.prog 32 #[.iface 101 (.agg #[.int .i64 pl, .slice a1 l1 c1])] w fun e w' => Nw w w' e ((16 % 256 :: wbs [pl, (l1 : Int)]) ++ [((2 * ws.length : Nat) : Int) % 256] ++ wbs ws) := by
  have t1 := ta_16_1
  have t2 := ta_16_2
  have t3 := ta_16_3
  have t4 := ta_16_4
  have t5 := ta_16_5
  have t6 := ta_16_6
  have t15 := ta_16_15
  have t16 := ta_16_16
  have H2 : Hid (l1 = ws.length) := h1
  have S2 : Hid (SlI w a1 ws) := s1
  have hl3 : ws.length ≤ 200 := by omega
  clear h1 s1
  obtain ⟨u, hu⟩ : ∃ u, u = w.alloc (.cells #[.int .i64 pl, .slice a1 l1 c1] 101) := ⟨_, rfl⟩
  have HU : Hid (u = _) := hu
  have q0 : Below w.heap.size w u := by rw [hu]; exact bel_alloc w _
  have X0 : Blk u w.heap.size 101 #[.int .i64 pl, .slice a1 l1 c1] := by rw [hu]; exact Blk.new w _ _
  have qd := q0.drew
  have Xd := X0.below (Below.refl _ _).drew
  have q1 := (bel_next q0 (bel_alloc u (.cells #[.int .i64 pl, .int .i64 (l1 : Int)] 3))).drew
  have X1 := (X0.below (bel_alloc u (.cells #[.int .i64 pl, .int .i64 (l1 : Int)] 3))).below (Below.refl _ _).drew
  have L1 := (lit_slI2 u pl (l1 : Int) rfl).below (Below.refl _ _).drew
  have k00 := X0.cell 0 rfl
  have k01 := X0.cell 1 rfl
  have k10 := (X0.below (bel_alloc u (.cells #[.int .i64 pl, .int .i64 (l1 : Int)] 3))).cell 0 rfl
  have k11 := (X0.below (bel_alloc u (.cells #[.int .i64 pl, .int .i64 (l1 : Int)] 3))).cell 1 rfl
  clear hu
  go_enter Tryz.func32, Tryz.ntmps32
  go_upto_region 25 with fail
  rw [← HU.out]
  go_region_held3 (fun w' => w'.cell? ⟨w.heap.size, 0, none⟩ = some (.int .i64 pl) ∧ w'.cell? ⟨w.heap.size, 1, none⟩ = some (.slice a1 l1 c1)) (go_keep)
    (first
      | (go_at_call 49; refine (putKind_any 16 _ _ _ [pl, (l1 : Int)] _ rfl (by first | exact L1 | exact L1.below bP | exact lit_slI2 _ pl (l1 : Int) (by simp)) (by simp) (by simp)).mono ?_; rintro e wA ⟨gA, cA, nA, rfl, hnA, oA, bA⟩; have HnA : Hid _ := hnA; have BA := bel_next (w0 := w) (by first | exact q1 | exact BP | exact bel_next BP (bel_alloc _ _)) bA; have XA := Blk.below (by first | exact X1 | exact XP | exact XP.below (bel_alloc _ _)) bA; have kA0 := XA.cell 0 rfl; have kA1 := XA.cell 1 rfl; clear hnA)
      | (go_at_call 53; refine (wordBytes_any _ _ _ ws _ H2.out (S2.out.below (by first | exact qd | exact q1 | exact BA)) (by omega) hp).mono ?_; rintro e wP ⟨gP, cP, nP, rfl, hnP, oP, bP⟩; have HnP : Hid _ := hnP; have BP := bel_next (w0 := w) (by first | exact qd | exact q1 | exact BA) bP; have XP := Blk.below (by first | exact Xd | exact X1 | exact XA) bP; have kP0 := XP.cell 0 rfl; have kPa0 := (XP.below (bel_alloc wP (.cells #[.int .i64 pl, .int .i64 (l1 : Int)] 3))).cell 0 rfl; have kP1 := XP.cell 1 rfl; have kPa1 := (XP.below (bel_alloc wP (.cells #[.int .i64 pl, .int .i64 (l1 : Int)] 3))).cell 1 rfl; clear hnP)
      | (go_at_call 51; refine (putCounted_any _ _ _ _ _ _ (16 % 256 :: wbs [pl, (l1 : Int)]) (wbs ws) _ HnA.out HnP.out (by first | exact oA.sl.2 | exact (oA.below bP).sl.2) (by first | exact oP.sl.2 | exact (oP.below bA).sl.2 | exact (oP.below (bel_next (bel_alloc _ _) bA)).sl.2) (by have := HnA.out; simp [wbs_length] at this; omega) (by have := HnP.out; simp [wbs_length, packL_length] at this; omega)).mono ?_; rintro e w3 h3; have b3 := h3.bel; have X3 := Blk.below (by first | exact XP | exact XA) b3; have k30 := X3.cell 0 rfl; have k31 := X3.cell 1 rfl; replace h3 := nw_next (by first | exact BP | exact BA) h3; obtain ⟨g, c, n, rfl, h4⟩ := h3; have H1 : Hid _ := h4; clear h4))
  all_goals (go_wp2; go_ret; refine ⟨g, c, n, rfl, ?_⟩; have := H1.out; rw [show nP = 2 * ws.length from by have := HnP.out; simp [wbs_length, packL_length] at this; omega] at this; exact this)
set_option maxRecDepth 20000 in
set_option maxHeartbeats 8000000 in
theorem putQ_23 (pl nn wa : Int) (a1 : Option Addr) (l1 c1 : Nat) (ws : List Int) (w : World) (h1 : l1 = ws.length) (s1 : SlI w a1 ws) (hl : l1 ≤ 200) (hp : 0 < ws.length) :
    Calls Tryz.prog 32 #[.iface 106 (.agg #[.int .i64 pl, .int .i64 nn, .int .i64 wa, .slice a1 l1 c1])] w fun e w' => Nw w w' e ((23 % 256 :: wbs [pl, nn, wa, (l1 : Int)]) ++ [((2 * ws.length : Nat) : Int) % 256] ++ wbs ws) := by
  have t1 := ta_23_1
  have t2 := ta_23_2
  have t3 := ta_23_3
  have t4 := ta_23_4
  have t5 := ta_23_5
  have t6 := ta_23_6
  have t15 := ta_23_15
  have t16 := ta_23_16
  have t22 := ta_23_22
  have t23 := ta_23_23
  have H2 : Hid (l1 = ws.length) := h1
  have S2 : Hid (SlI w a1 ws) := s1
  have hl3 : ws.length ≤ 200 := by omega
  clear h1 s1
  obtain ⟨u, hu⟩ : ∃ u, u = w.alloc (.cells #[.int .i64 pl, .int .i64 nn, .int .i64 wa, .slice a1 l1 c1] 106) := ⟨_, rfl⟩
  have HU : Hid (u = _) := hu
  have q0 : Below w.heap.size w u := by rw [hu]; exact bel_alloc w _
  have X0 : Blk u w.heap.size 106 #[.int .i64 pl, .int .i64 nn, .int .i64 wa, .slice a1 l1 c1] := by rw [hu]; exact Blk.new w _ _
  have qd := q0.drew
  have Xd := X0.below (Below.refl _ _).drew
  have q1 := (bel_next q0 (bel_alloc u (.cells #[.int .i64 pl, .int .i64 nn, .int .i64 wa, .int .i64 (l1 : Int)] 3))).drew
  have X1 := (X0.below (bel_alloc u (.cells #[.int .i64 pl, .int .i64 nn, .int .i64 wa, .int .i64 (l1 : Int)] 3))).below (Below.refl _ _).drew
  have L1 := (lit_slI4 u pl nn wa (l1 : Int) rfl).below (Below.refl _ _).drew
  have k00 := X0.cell 0 rfl
  have k01 := X0.cell 1 rfl
  have k02 := X0.cell 2 rfl
  have k03 := X0.cell 3 rfl
  have k10 := (X0.below (bel_alloc u (.cells #[.int .i64 pl, .int .i64 nn, .int .i64 wa, .int .i64 (l1 : Int)] 3))).cell 0 rfl
  have k11 := (X0.below (bel_alloc u (.cells #[.int .i64 pl, .int .i64 nn, .int .i64 wa, .int .i64 (l1 : Int)] 3))).cell 1 rfl
  have k12 := (X0.below (bel_alloc u (.cells #[.int .i64 pl, .int .i64 nn, .int .i64 wa, .int .i64 (l1 : Int)] 3))).cell 2 rfl
  have k13 := (X0.below (bel_alloc u (.cells #[.int .i64 pl, .int .i64 nn, .int .i64 wa, .int .i64 (l1 : Int)] 3))).cell 3 rfl
  clear hu
  go_enter Tryz.func32, Tryz.ntmps32
  go_upto_region 31 with fail
  rw [← HU.out]
  go_region_held3 (fun w' => w'.cell? ⟨w.heap.size, 0, none⟩ = some (.int .i64 pl) ∧ w'.cell? ⟨w.heap.size, 1, none⟩ = some (.int .i64 nn) ∧ w'.cell? ⟨w.heap.size, 2, none⟩ = some (.int .i64 wa) ∧ w'.cell? ⟨w.heap.size, 3, none⟩ = some (.slice a1 l1 c1)) (go_keep)
    (first
      | (go_at_call 49; refine (putKind_any 23 _ _ _ [pl, nn, wa, (l1 : Int)] _ rfl (by first | exact L1 | exact L1.below bP | exact lit_slI4 _ pl nn wa (l1 : Int) (by simp)) (by simp) (by simp)).mono ?_; rintro e wA ⟨gA, cA, nA, rfl, hnA, oA, bA⟩; have HnA : Hid _ := hnA; have BA := bel_next (w0 := w) (by first | exact q1 | exact BP | exact bel_next BP (bel_alloc _ _)) bA; have XA := Blk.below (by first | exact X1 | exact XP | exact XP.below (bel_alloc _ _)) bA; have kA0 := XA.cell 0 rfl; have kA1 := XA.cell 1 rfl; have kA2 := XA.cell 2 rfl; have kA3 := XA.cell 3 rfl; clear hnA)
      | (go_at_call 53; refine (wordBytes_any _ _ _ ws _ H2.out (S2.out.below (by first | exact qd | exact q1 | exact BA)) (by omega) hp).mono ?_; rintro e wP ⟨gP, cP, nP, rfl, hnP, oP, bP⟩; have HnP : Hid _ := hnP; have BP := bel_next (w0 := w) (by first | exact qd | exact q1 | exact BA) bP; have XP := Blk.below (by first | exact Xd | exact X1 | exact XA) bP; have kP0 := XP.cell 0 rfl; have kPa0 := (XP.below (bel_alloc wP (.cells #[.int .i64 pl, .int .i64 nn, .int .i64 wa, .int .i64 (l1 : Int)] 3))).cell 0 rfl; have kP1 := XP.cell 1 rfl; have kPa1 := (XP.below (bel_alloc wP (.cells #[.int .i64 pl, .int .i64 nn, .int .i64 wa, .int .i64 (l1 : Int)] 3))).cell 1 rfl; have kP2 := XP.cell 2 rfl; have kPa2 := (XP.below (bel_alloc wP (.cells #[.int .i64 pl, .int .i64 nn, .int .i64 wa, .int .i64 (l1 : Int)] 3))).cell 2 rfl; have kP3 := XP.cell 3 rfl; have kPa3 := (XP.below (bel_alloc wP (.cells #[.int .i64 pl, .int .i64 nn, .int .i64 wa, .int .i64 (l1 : Int)] 3))).cell 3 rfl; clear hnP)
      | (go_at_call 51; refine (putCounted_any _ _ _ _ _ _ (23 % 256 :: wbs [pl, nn, wa, (l1 : Int)]) (wbs ws) _ HnA.out HnP.out (by first | exact oA.sl.2 | exact (oA.below bP).sl.2) (by first | exact oP.sl.2 | exact (oP.below bA).sl.2 | exact (oP.below (bel_next (bel_alloc _ _) bA)).sl.2) (by have := HnA.out; simp [wbs_length] at this; omega) (by have := HnP.out; simp [wbs_length, packL_length] at this; omega)).mono ?_; rintro e w3 h3; have b3 := h3.bel; have X3 := Blk.below (by first | exact XP | exact XA) b3; have k30 := X3.cell 0 rfl; have k31 := X3.cell 1 rfl; have k32 := X3.cell 2 rfl; have k33 := X3.cell 3 rfl; replace h3 := nw_next (by first | exact BP | exact BA) h3; obtain ⟨g, c, n, rfl, h4⟩ := h3; have H1 : Hid _ := h4; clear h4))
  all_goals (go_wp2; go_ret; refine ⟨g, c, n, rfl, ?_⟩; have := H1.out; rw [show nP = 2 * ws.length from by have := HnP.out; simp [wbs_length, packL_length] at this; omega] at this; exact this)
end Go.Proofs.YtohikbpolofklaaGreatDoor
