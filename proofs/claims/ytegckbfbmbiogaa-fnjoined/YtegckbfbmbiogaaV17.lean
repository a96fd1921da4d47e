/- Texts that the proof needs, joined: P5. -/
import Derived.Test.YtegckbfbmbiogaaV16
import Derived.Deep.RegionHeld3
namespace Go.Proofs.Ytegckbfbmbiogaa
open Go.RowKit
set_option linter.unusedVariables false
set_option linter.unusedSimpArgs false
abbrev ansE (c : Int) : Value := .iface 153 (.agg #[.int .i64 c])
theorem slI_none {w : World} {a : Option Addr} {ws : List Int} (h : ws.length = 0) : SlI w a ws := .inl (List.eq_nil_of_length_eq_zero h)
theorem slB_none {w : World} {a : Option Addr} {bs : List Bool} (h : bs.length = 0) : SlB w a bs := .inl (List.eq_nil_of_length_eq_zero h)
def chk (kd : Int) (b : Bool) : Value := bif b then .nilIface else bif kindB kd then ansE 3 else ansE 1
set_option maxHeartbeats 4000000 in
theorem checkAnswer_no (kd fl pl nn : Int) (a1 a2 : Option Addr) (l1 l2 c1 c2 : Nat) (w : World) (hk : kindB kd = false) :
    Calls Try.prog 111 #[rp kd fl pl nn a1 a2 l1 l2 c1 c2] w fun e w' => e = .returned (ansE 1) ∧ Below w.heap.size w w' := by
  have B0 := bel_alloc w (.cells #[.int .i64 kd, .int .i64 fl, .int .i64 pl, .int .i64 nn, .slice a1 l1 c1, .slice a2 l2 c2] 49)
  go_enter Try.func111, Try.ntmps111
  go_wp2_with (go_at_call 125; refine (isKind_any _ _ _ hk).mono ?_; rintro e wx ⟨rfl, rfl⟩)
  go_ret
  exact ⟨rfl, B0⟩
set_option maxRecDepth 20000 in
set_option maxHeartbeats 8000000 in
theorem checkAnswer_f (kd fl pl nn : Int) (a1 a2 : Option Addr) (l1 l2 c1 c2 : Nat) (ws : List Int) (w : World) (h1 : l1 = ws.length) (s1 : SlI w a1 ws) (hl1 : ws.length ≤ 2000000) (hl2 : l2 ≤ 20000000) (hk : kindB kd = true) (hT : tB kd fl pl nn ws l1 l2 = false) :
    Calls Try.prog 111 #[rp kd fl pl nn a1 a2 l1 l2 c1 c2] w fun e w' => e = .returned (ansE 3) ∧ Below w.heap.size w w' := by
  have B0 := bel_alloc w (.cells #[.int .i64 kd, .int .i64 fl, .int .i64 pl, .int .i64 nn, .slice a1 l1 c1, .slice a2 l2 c2] 49)
  have X0 := Blk.new w #[.int .i64 kd, .int .i64 fl, .int .i64 pl, .int .i64 nn, .slice a1 l1 c1, .slice a2 l2 c2] 49
  have HS : Hid (SlI (w.alloc (.cells #[.int .i64 kd, .int .i64 fl, .int .i64 pl, .int .i64 nn, .slice a1 l1 c1, .slice a2 l2 c2] 49)) a1 ws) := s1.below B0
  have HL : Hid (l1 = ws.length) := h1
  have HT : Hid (tB kd fl pl nn ws l1 l2 = false) := hT
  obtain ⟨W0, hW0⟩ : ∃ W0, W0 = w.alloc (.cells #[.int .i64 kd, .int .i64 fl, .int .i64 pl, .int .i64 nn, .slice a1 l1 c1, .slice a2 l2 c2] 49) := ⟨_, rfl⟩
  rw [← hW0] at B0 X0 HS
  have HW : Hid (W0 = _) := hW0
  have d0 : Below W0.heap.size W0 W0.drew := (Below.refl _ _).drew
  obtain ⟨x0, x1, x2, x3, x4, x5⟩ := X0.six
  clear hW0 h1 s1 hT
  go_enter Try.func111, Try.ntmps111
  go_upto_region 1 with fail
  rw [← HW.out]
  go_upto_region 3 with (go_at_call 125; refine (isKind_any _ _ _ hk).mono ?_; rintro e wx ⟨rfl, rfl⟩)
  go_region_with (first
      | (go_at_call 126; refine (isTold_any kd fl pl nn a1 a2 l1 l2 c1 c2 ws _ HL.out (by first | exact HS.out | exact HS.out.below d0) hl1 hl2 hk _ HT.out).mono ?_; rintro e wA ⟨rfl, bA⟩; have BA := bel_next (w0 := w) (by first | exact B0 | exact B0.drew) bA; have XA := Blk.below (by first | exact X0 | exact X0.below d0) bA; obtain ⟨xa0, xa1, xa2, xa3, xa4, xa5⟩ := XA.six; clear bA))
  all_goals (go_wp2; go_ret; exact ⟨rfl, BA⟩)
set_option maxRecDepth 20000 in
set_option maxHeartbeats 8000000 in
theorem checkAnswer_if (kd fl pl nn : Int) (a1 a2 : Option Addr) (l1 l2 c1 c2 : Nat) (ws : List Int) (bs : List Bool) (w : World) (h1 : l1 = ws.length) (h2 : l2 = bs.length) (s1 : SlI w a1 ws) (s2 : SlB w a2 bs) (hl1 : ws.length ≤ 2000000) (hl2 : bs.length ≤ 2000000) (hk : kindB kd = true) (hT : tB kd fl pl nn ws l1 l2 = true)
    (pl' nn' : Int) (a1' a2' : Option Addr) (l1' l2' c1' c2' : Nat) (hm1 : l1' ≤ 2000000) (hm2 : l2' ≤ 2000000) (s1' : l1' = l1 → SlI w a1' ws) (s2' : l2' = l2 → SlB w a2' bs)
    (hnm : ∀ u, Calls Try.prog 128 #[rp kd fl pl nn a1 a2 l1 l2 c1 c2] u fun e u' => e = .returned (rp kd fl pl' nn' a1' a2' l1' l2' c1' c2') ∧ Below u.heap.size u u')
    (b : Bool) (hb : (decide (pl' = pl) && (decide (nn' = nn) && (decide (l1' = l1) && decide (l2' = l2)))) = b) :
    Calls Try.prog 111 #[rp kd fl pl nn a1 a2 l1 l2 c1 c2] w fun e w' => e = .returned (bif b then .nilIface else ansE 3) ∧ Below w.heap.size w w' := by
  have B0 := bel_alloc w (.cells #[.int .i64 kd, .int .i64 fl, .int .i64 pl, .int .i64 nn, .slice a1 l1 c1, .slice a2 l2 c2] 49)
  have X0 := Blk.new w #[.int .i64 kd, .int .i64 fl, .int .i64 pl, .int .i64 nn, .slice a1 l1 c1, .slice a2 l2 c2] 49
  have HS : Hid (SlI w a1 ws ∧ SlB w a2 bs) := ⟨s1, s2⟩
  have HS' : Hid ((l1' = l1 → SlI w a1' ws) ∧ (l2' = l2 → SlB w a2' bs)) := ⟨s1', s2'⟩
  have HL : Hid (l1 = ws.length ∧ l2 = bs.length) := ⟨h1, h2⟩
  have HT : Hid (tB kd fl pl nn ws l1 l2 = true) := hT
  have HNM : Hid (∀ u, Calls Try.prog 128 #[rp kd fl pl nn a1 a2 l1 l2 c1 c2] u fun e u' => e = .returned (rp kd fl pl' nn' a1' a2' l1' l2' c1' c2') ∧ Below u.heap.size u u') := hnm
  have HB : Hid ((decide (pl' = pl) && (decide (nn' = nn) && (decide (l1' = l1) && decide (l2' = l2)))) = b) := hb
  obtain ⟨W0, hW0⟩ : ∃ W0, W0 = w.alloc (.cells #[.int .i64 kd, .int .i64 fl, .int .i64 pl, .int .i64 nn, .slice a1 l1 c1, .slice a2 l2 c2] 49) := ⟨_, rfl⟩
  rw [← hW0] at B0 X0
  have HW : Hid (W0 = _) := hW0
  have d0 : Below W0.heap.size W0 W0.drew := (Below.refl _ _).drew
  have B0d : Below w.heap.size w W0.drew := B0.drew
  obtain ⟨x0, x1, x2, x3, x4, x5⟩ := X0.six
  clear hW0 h1 h2 s1 s2 s1' s2' hT hnm hb
  go_enter Try.func111, Try.ntmps111
  go_upto_region 1 with fail
  rw [← HW.out]
  go_upto_region 3 with (go_at_call 125; refine (isKind_any _ _ _ hk).mono ?_; rintro e wx ⟨rfl, rfl⟩)
  cases b
  all_goals (
    go_region_held3 (fun w' => w'.cell? ⟨w.heap.size, 0, none⟩ = some (.int .i64 kd) ∧ w'.cell? ⟨w.heap.size, 1, none⟩ = some (.int .i64 fl) ∧ w'.cell? ⟨w.heap.size, 2, none⟩ = some (.int .i64 pl) ∧ w'.cell? ⟨w.heap.size, 3, none⟩ = some (.int .i64 nn) ∧ w'.cell? ⟨w.heap.size, 4, none⟩ = some (.slice a1 l1 c1) ∧ w'.cell? ⟨w.heap.size, 5, none⟩ = some (.slice a2 l2 c2)) (go_keep)
      (first
        | (go_at_call 126; refine (isTold_any kd fl pl nn a1 a2 l1 l2 c1 c2 ws _ HL.out.1 (HS.out.1.below (by first | exact B0 | exact B0d)) hl1 (by have := HL.out; omega) hk _ HT.out).mono ?_; rintro e wA ⟨rfl, bA⟩; have BA := bel_next (w0 := w) (by first | exact B0 | exact B0d) bA; have XA := Blk.below (by first | exact X0 | exact X0.below d0) bA; obtain ⟨xa0, xa1, xa2, xa3, xa4, xa5⟩ := XA.six; clear bA)
        | (go_at_call 128; refine (HNM.out _).mono ?_; rintro e wB ⟨rfl, bB⟩; have BB := bel_next BA bB; have XB := XA.below bB; obtain ⟨xb0, xb1, xb2, xb3, xb4, xb5⟩ := XB.six; clear bB)
        | (go_at_call 127; refine (sameResp_any kd fl pl nn pl' nn' a1 a2 a1' a2' l1 l2 c1 c2 l1' l2' c1' c2' ws bs _ HL.out.1 HL.out.2 (HS.out.1.below BB) (HS.out.2.below BB) hl1 hl2 hm1 hm2 (fun h => (HS'.out.1 h).below BB) (fun h => (HS'.out.2 h).below BB) _ HB.out).mono ?_; rintro e wC ⟨rfl, bC⟩; have BC := bel_next BB bC; obtain ⟨xc0, xc1, xc2, xc3, xc4, xc5⟩ := (XB.below bC).six; clear bC))
    all_goals (go_wp2; go_ret; exact ⟨rfl, BC⟩))
theorem checkAnswer_q (kd fl pl nn : Int) (a1 a2 : Option Addr) (l1 l2 c1 c2 : Nat) (ws : List Int) (bs : List Bool) (w : World) (h1 : l1 = ws.length) (h2 : l2 = bs.length) (s1 : SlI w a1 ws) (s2 : SlB w a2 bs) (hl1 : ws.length ≤ 2000000) (hl2 : bs.length ≤ 2000000) :
    Calls Try.prog 111 #[rp kd fl pl nn a1 a2 l1 l2 c1 c2] w fun e w' => e = .returned (chk kd (okA kd fl pl nn ws l1 l2)) ∧ Below w.heap.size w w' := by
  cases hk : kindB kd
  · have e : chk kd (okA kd fl pl nn ws l1 l2) = ansE 1 := by simp [chk, okA, hk]
    rw [e]
    exact checkAnswer_no kd fl pl nn a1 a2 l1 l2 c1 c2 w hk
  · have e : chk kd (okA kd fl pl nn ws l1 l2) = (bif okA kd fl pl nn ws l1 l2 then .nilIface else ansE 3) := by simp [chk, hk]
    rw [e, okA_told kd fl pl nn ws l1 l2 h1 hk]
    clear e
    cases hT : tB kd fl pl nn ws l1 l2
    · exact checkAnswer_f kd fl pl nn a1 a2 l1 l2 c1 c2 ws w h1 s1 hl1 (by omega) hk hT
    · rw [Bool.true_and]
      by_cases h0 : fl = 0
      · subst h0
        obtain rfl | rfl | rfl | rfl | rfl | rfl | rfl | rfl | rfl | rfl := of_decide_eq_true hk
        · exact checkAnswer_if 1 0 pl nn a1 a2 l1 l2 c1 c2 ws bs w h1 h2 s1 s2 hl1 hl2 hk hT 0 0 none a2 0 l2 0 c2 (by omega) (by omega) (fun h => slI_none (h1.symm.trans h.symm)) (fun h => s2) (fun u => namedOf_1 pl nn a1 a2 l1 l2 c1 c2 u) _ (by simp [zrA, zr4, eq_comm])
        · exact checkAnswer_if 2 0 pl nn a1 a2 l1 l2 c1 c2 ws bs w h1 h2 s1 s2 hl1 hl2 hk hT 0 0 none a2 0 l2 0 c2 (by omega) (by omega) (fun h => slI_none (h1.symm.trans h.symm)) (fun h => s2) (fun u => namedOf_2 pl nn a1 a2 l1 l2 c1 c2 u) _ (by simp [zrA, zr4, eq_comm])
        · exact checkAnswer_if 3 0 pl nn a1 a2 l1 l2 c1 c2 ws bs w h1 h2 s1 s2 hl1 hl2 hk hT 0 0 a1 none l1 0 c1 0 (by omega) (by omega) (fun h => s1) (fun h => slB_none (h2.symm.trans h.symm)) (fun u => namedOf_3 pl nn a1 a2 l1 l2 c1 c2 u) _ (by simp [zrA, zr4, eq_comm])
        · exact checkAnswer_if 4 0 pl nn a1 a2 l1 l2 c1 c2 ws bs w h1 h2 s1 s2 hl1 hl2 hk hT 0 0 a1 none l1 0 c1 0 (by omega) (by omega) (fun h => s1) (fun h => slB_none (h2.symm.trans h.symm)) (fun u => namedOf_4 pl nn a1 a2 l1 l2 c1 c2 u) _ (by simp [zrA, zr4, eq_comm])
        · exact checkAnswer_if 5 0 pl nn a1 a2 l1 l2 c1 c2 ws bs w h1 h2 s1 s2 hl1 hl2 hk hT pl 0 none a2 0 l2 0 c2 (by omega) (by omega) (fun h => slI_none (h1.symm.trans h.symm)) (fun h => s2) (fun u => namedOf_5 pl nn a1 a2 l1 l2 c1 c2 u) _ (by simp [zrA, zr4, eq_comm])
        · exact checkAnswer_if 6 0 pl nn a1 a2 l1 l2 c1 c2 ws bs w h1 h2 s1 s2 hl1 hl2 hk hT pl 0 a1 none l1 0 c1 0 (by omega) (by omega) (fun h => s1) (fun h => slB_none (h2.symm.trans h.symm)) (fun u => namedOf_6 pl nn a1 a2 l1 l2 c1 c2 u) _ (by simp [zrA, zr4, eq_comm])
        · exact checkAnswer_if 15 0 pl nn a1 a2 l1 l2 c1 c2 ws bs w h1 h2 s1 s2 hl1 hl2 hk hT pl nn none none 0 0 0 0 (by omega) (by omega) (fun h => slI_none (h1.symm.trans h.symm)) (fun h => slB_none (h2.symm.trans h.symm)) (fun u => namedOf_15 pl nn a1 a2 l1 l2 c1 c2 u) _ (by simp [zrA, zr4, eq_comm])
        · exact checkAnswer_if 16 0 pl nn a1 a2 l1 l2 c1 c2 ws bs w h1 h2 s1 s2 hl1 hl2 hk hT pl nn none none 0 0 0 0 (by omega) (by omega) (fun h => slI_none (h1.symm.trans h.symm)) (fun h => slB_none (h2.symm.trans h.symm)) (fun u => namedOf_16 pl nn a1 a2 l1 l2 c1 c2 u) _ (by simp [zrA, zr4, eq_comm])
        · exact checkAnswer_if 22 0 pl nn a1 a2 l1 l2 c1 c2 ws bs w h1 h2 s1 s2 hl1 hl2 hk hT pl 0 a1 none l1 0 c1 0 (by omega) (by omega) (fun h => s1) (fun h => slB_none (h2.symm.trans h.symm)) (fun u => namedOf_22 pl nn a1 a2 l1 l2 c1 c2 u) _ (by simp [zrA, zr4, eq_comm])
        · exact checkAnswer_if 23 0 pl nn a1 a2 l1 l2 c1 c2 ws bs w h1 h2 s1 s2 hl1 hl2 hk hT 0 0 a1 none l1 0 c1 0 (by omega) (by omega) (fun h => s1) (fun h => slB_none (h2.symm.trans h.symm)) (fun u => namedOf_23 pl nn a1 a2 l1 l2 c1 c2 u) _ (by simp [zrA, zr4, eq_comm])
      · exact checkAnswer_if kd fl pl nn a1 a2 l1 l2 c1 c2 ws bs w h1 h2 s1 s2 hl1 hl2 hk hT 0 0 none none 0 0 0 0 (by omega) (by omega) (fun h => slI_none (h1.symm.trans h.symm)) (fun h => slB_none (h2.symm.trans h.symm)) (fun u => namedOf_f kd fl pl nn a1 a2 l1 l2 c1 c2 u h0) _ (by simp [zrA, zr4, eq_comm, h0])
theorem eql_if (T : TypeId) (v : Value) (w : World) : (binOp .eql 142 (.iface T v) .nilIface).run Try.prog w = .ok (.bool false) w := by kernel_rfl
theorem eql_nil (w : World) : (binOp .eql 142 .nilIface .nilIface).run Try.prog w = .ok (.bool true) w := by kernel_rfl
set_option maxHeartbeats 4000000 in
theorem implRespOk_q (kd fl pl nn : Int) (a1 a2 : Option Addr) (l1 l2 c1 c2 : Nat) (ws : List Int) (bs : List Bool) (w : World) (h1 : l1 = ws.length) (h2 : l2 = bs.length) (s1 : SlI w a1 ws) (s2 : SlB w a2 bs) (hl1 : ws.length ≤ 2000000) (hl2 : bs.length ≤ 2000000) :
    Calls Try.prog 66 #[rp kd fl pl nn a1 a2 l1 l2 c1 c2] w fun e w' => e = .returned (.bool (okA kd fl pl nn ws l1 l2)) ∧ Below w.heap.size w w' := by
  have B0 := bel_alloc w (.cells #[.int .i64 kd, .int .i64 fl, .int .i64 pl, .int .i64 nn, .slice a1 l1 c1, .slice a2 l2 c2] 49)
  have X0 := Blk.new w #[.int .i64 kd, .int .i64 fl, .int .i64 pl, .int .i64 nn, .slice a1 l1 c1, .slice a2 l2 c2] 49
  have HS : Hid (SlI w a1 ws ∧ SlB w a2 bs) := ⟨s1, s2⟩
  have HL : Hid (l1 = ws.length ∧ l2 = bs.length) := ⟨h1, h2⟩
  obtain ⟨x0, x1, x2, x3, x4, x5⟩ := X0.six
  clear h1 h2 s1 s2 X0
  have q1 := eql_if
  have q2 := eql_nil
  go_enter Try.func66, Try.ntmps66
  go_wp2_with fail
  refine (checkAnswer_q kd fl pl nn a1 a2 l1 l2 c1 c2 ws bs _ HL.out.1 HL.out.2 (HS.out.1.below B0) (HS.out.2.below B0) hl1 hl2).mono ?_
  rintro e w1 ⟨rfl, b'⟩
  have B1 := bel_next B0 b'
  clear b' B0
  cases hok : okA kd fl pl nn ws l1 l2
  · cases hk : kindB kd
    · simp only [chk, hk, cond_false, cond_true]
      go_wp2
      go_ret
      exact ⟨by rw [hok]; rfl, B1⟩
    · simp only [chk, hk, cond_false, cond_true]
      go_wp2
      go_ret
      exact ⟨by rw [hok]; rfl, B1⟩
  · simp only [chk, cond_true]
    go_wp2
    go_ret
    exact ⟨by rw [hok]; rfl, B1⟩
end Go.Proofs.Ytegckbfbmbiogaa
