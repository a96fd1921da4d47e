/- Texts that the proof needs, joined: P5 P7 RgI RgV RgW RgX. -/
import Derived.Test.YtohikbpolofklaaV3
import Derived.Deep.RegionHeld3
import Derived.Test.YtohikbpolofklaaV2
import Derived.RegionTactic
import Derived.Below
namespace Go.Proofs.Ytohikbpolofklaa
open Go.RowKit
set_option linter.unusedVariables false
set_option linter.unusedSimpArgs false
abbrev ansE (c : Int) : Value := .iface 69 (.agg #[.int .i64 c])
theorem slI_none {w : World} {a : Option Addr} {ws : List Int} (h : ws.length = 0) : SlI w a ws := .inl (List.eq_nil_of_length_eq_zero h)
theorem slB_none {w : World} {a : Option Addr} {bs : List Bool} (h : bs.length = 0) : SlB w a bs := .inl (List.eq_nil_of_length_eq_zero h)
def chk (kd : Int) (b : Bool) : Value := bif b then .nilIface else bif kindB kd then ansE 3 else ansE 1
set_option maxHeartbeats 4000000 in
theorem checkAnswer_no (kd fl pl nn : Int) (a1 a2 : Option Addr) (l1 l2 c1 c2 : Nat) (w : World) (hk : kindB kd = false) :
    Calls Try.prog 41 #[rp kd fl pl nn a1 a2 l1 l2 c1 c2] w fun e w' => e = .returned (ansE 1) ∧ Below w.heap.size w w' := by
  have B0 := bel_alloc w (.cells #[.int .i64 kd, .int .i64 fl, .int .i64 pl, .int .i64 nn, .slice a1 l1 c1, .slice a2 l2 c2] 34)
  go_enter Try.func41, Try.ntmps41
  go_wp2_with (go_at_call 47; refine (isKind_any _ _ _ hk).mono ?_; rintro e wx ⟨rfl, rfl⟩)
  go_ret
  exact ⟨rfl, B0⟩
set_option maxRecDepth 20000 in
set_option maxHeartbeats 8000000 in
theorem checkAnswer_f (kd fl pl nn : Int) (a1 a2 : Option Addr) (l1 l2 c1 c2 : Nat) (ws : List Int) (w : World) (h1 : l1 = ws.length) (s1 : SlI w a1 ws) (hl1 : ws.length ≤ 2000000) (hl2 : l2 ≤ 20000000) (hk : kindB kd = true) (hT : tB kd fl pl nn ws l1 l2 = false) :
    Calls Try.prog 41 #[rp kd fl pl nn a1 a2 l1 l2 c1 c2] w fun e w' => e = .returned (ansE 3) ∧ Below w.heap.size w w' := by
  have B0 := bel_alloc w (.cells #[.int .i64 kd, .int .i64 fl, .int .i64 pl, .int .i64 nn, .slice a1 l1 c1, .slice a2 l2 c2] 34)
  have X0 := Blk.new w #[.int .i64 kd, .int .i64 fl, .int .i64 pl, .int .i64 nn, .slice a1 l1 c1, .slice a2 l2 c2] 34
  have HS : Hid (SlI (w.alloc (.cells #[.int .i64 kd, .int .i64 fl, .int .i64 pl, .int .i64 nn, .slice a1 l1 c1, .slice a2 l2 c2] 34)) a1 ws) := s1.below B0
  have HL : Hid (l1 = ws.length) := h1
  have HT : Hid (tB kd fl pl nn ws l1 l2 = false) := hT
  obtain ⟨W0, hW0⟩ : ∃ W0, W0 = w.alloc (.cells #[.int .i64 kd, .int .i64 fl, .int .i64 pl, .int .i64 nn, .slice a1 l1 c1, .slice a2 l2 c2] 34) := ⟨_, rfl⟩
  rw [← hW0] at B0 X0 HS
  have HW : Hid (W0 = _) := hW0
  have d0 : Below W0.heap.size W0 W0.drew := (Below.refl _ _).drew
  obtain ⟨x0, x1, x2, x3, x4, x5⟩ := X0.six
  clear hW0 h1 s1 hT
  go_enter Try.func41, Try.ntmps41
  go_upto_region 1 with fail
  rw [← HW.out]
  go_upto_region 3 with (go_at_call 47; refine (isKind_any _ _ _ hk).mono ?_; rintro e wx ⟨rfl, rfl⟩)
  go_region_with (first
      | (go_at_call 48; refine (isTold_any kd fl pl nn a1 a2 l1 l2 c1 c2 ws _ HL.out (by first | exact HS.out | exact HS.out.below d0) hl1 hl2 hk _ HT.out).mono ?_; rintro e wA ⟨rfl, bA⟩; have BA := bel_next (w0 := w) (by first | exact B0 | exact B0.drew) bA; have XA := Blk.below (by first | exact X0 | exact X0.below d0) bA; obtain ⟨xa0, xa1, xa2, xa3, xa4, xa5⟩ := XA.six; clear bA))
  all_goals (go_wp2; go_ret; exact ⟨rfl, BA⟩)
set_option maxRecDepth 20000 in
set_option maxHeartbeats 8000000 in
theorem checkAnswer_if (kd fl pl nn : Int) (a1 a2 : Option Addr) (l1 l2 c1 c2 : Nat) (ws : List Int) (bs : List Bool) (w : World) (h1 : l1 = ws.length) (h2 : l2 = bs.length) (s1 : SlI w a1 ws) (s2 : SlB w a2 bs) (hl1 : ws.length ≤ 2000000) (hl2 : bs.length ≤ 2000000) (hk : kindB kd = true) (hT : tB kd fl pl nn ws l1 l2 = true)
    (pl' nn' : Int) (a1' a2' : Option Addr) (l1' l2' c1' c2' : Nat) (hm1 : l1' ≤ 2000000) (hm2 : l2' ≤ 2000000) (s1' : l1' = l1 → SlI w a1' ws) (s2' : l2' = l2 → SlB w a2' bs)
    (hnm : ∀ u, Calls Try.prog 50 #[rp kd fl pl nn a1 a2 l1 l2 c1 c2] u fun e u' => e = .returned (rp kd fl pl' nn' a1' a2' l1' l2' c1' c2') ∧ Below u.heap.size u u')
    (b : Bool) (hb : (decide (pl' = pl) && (decide (nn' = nn) && (decide (l1' = l1) && decide (l2' = l2)))) = b) :
    Calls Try.prog 41 #[rp kd fl pl nn a1 a2 l1 l2 c1 c2] w fun e w' => e = .returned (bif b then .nilIface else ansE 3) ∧ Below w.heap.size w w' := by
  have B0 := bel_alloc w (.cells #[.int .i64 kd, .int .i64 fl, .int .i64 pl, .int .i64 nn, .slice a1 l1 c1, .slice a2 l2 c2] 34)
  have X0 := Blk.new w #[.int .i64 kd, .int .i64 fl, .int .i64 pl, .int .i64 nn, .slice a1 l1 c1, .slice a2 l2 c2] 34
  have HS : Hid (SlI w a1 ws ∧ SlB w a2 bs) := ⟨s1, s2⟩
  have HS' : Hid ((l1' = l1 → SlI w a1' ws) ∧ (l2' = l2 → SlB w a2' bs)) := ⟨s1', s2'⟩
  have HL : Hid (l1 = ws.length ∧ l2 = bs.length) := ⟨h1, h2⟩
  have HT : Hid (tB kd fl pl nn ws l1 l2 = true) := hT
  have HNM : Hid (∀ u, Calls Try.prog 50 #[rp kd fl pl nn a1 a2 l1 l2 c1 c2] u fun e u' => e = .returned (rp kd fl pl' nn' a1' a2' l1' l2' c1' c2') ∧ Below u.heap.size u u') := hnm
  have HB : Hid ((decide (pl' = pl) && (decide (nn' = nn) && (decide (l1' = l1) && decide (l2' = l2)))) = b) := hb
  obtain ⟨W0, hW0⟩ : ∃ W0, W0 = w.alloc (.cells #[.int .i64 kd, .int .i64 fl, .int .i64 pl, .int .i64 nn, .slice a1 l1 c1, .slice a2 l2 c2] 34) := ⟨_, rfl⟩
  rw [← hW0] at B0 X0
  have HW : Hid (W0 = _) := hW0
  have d0 : Below W0.heap.size W0 W0.drew := (Below.refl _ _).drew
  have B0d : Below w.heap.size w W0.drew := B0.drew
  obtain ⟨x0, x1, x2, x3, x4, x5⟩ := X0.six
  clear hW0 h1 h2 s1 s2 s1' s2' hT hnm hb
  go_enter Try.func41, Try.ntmps41
  go_upto_region 1 with fail
  rw [← HW.out]
  go_upto_region 3 with (go_at_call 47; refine (isKind_any _ _ _ hk).mono ?_; rintro e wx ⟨rfl, rfl⟩)
  cases b
  all_goals (
    go_region_held3 (fun w' => w'.cell? ⟨w.heap.size, 0, none⟩ = some (.int .i64 kd) ∧ w'.cell? ⟨w.heap.size, 1, none⟩ = some (.int .i64 fl) ∧ w'.cell? ⟨w.heap.size, 2, none⟩ = some (.int .i64 pl) ∧ w'.cell? ⟨w.heap.size, 3, none⟩ = some (.int .i64 nn) ∧ w'.cell? ⟨w.heap.size, 4, none⟩ = some (.slice a1 l1 c1) ∧ w'.cell? ⟨w.heap.size, 5, none⟩ = some (.slice a2 l2 c2)) (go_keep)
      (first
        | (go_at_call 48; refine (isTold_any kd fl pl nn a1 a2 l1 l2 c1 c2 ws _ HL.out.1 (HS.out.1.below (by first | exact B0 | exact B0d)) hl1 (by have := HL.out; omega) hk _ HT.out).mono ?_; rintro e wA ⟨rfl, bA⟩; have BA := bel_next (w0 := w) (by first | exact B0 | exact B0d) bA; have XA := Blk.below (by first | exact X0 | exact X0.below d0) bA; obtain ⟨xa0, xa1, xa2, xa3, xa4, xa5⟩ := XA.six; clear bA)
        | (go_at_call 50; refine (HNM.out _).mono ?_; rintro e wB ⟨rfl, bB⟩; have BB := bel_next BA bB; have XB := XA.below bB; obtain ⟨xb0, xb1, xb2, xb3, xb4, xb5⟩ := XB.six; clear bB)
        | (go_at_call 49; refine (sameResp_any kd fl pl nn pl' nn' a1 a2 a1' a2' l1 l2 c1 c2 l1' l2' c1' c2' ws bs _ HL.out.1 HL.out.2 (HS.out.1.below BB) (HS.out.2.below BB) hl1 hl2 hm1 hm2 (fun h => (HS'.out.1 h).below BB) (fun h => (HS'.out.2 h).below BB) _ HB.out).mono ?_; rintro e wC ⟨rfl, bC⟩; have BC := bel_next BB bC; obtain ⟨xc0, xc1, xc2, xc3, xc4, xc5⟩ := (XB.below bC).six; clear bC))
    all_goals (go_wp2; go_ret; exact ⟨rfl, BC⟩))
theorem checkAnswer_q (kd fl pl nn : Int) (a1 a2 : Option Addr) (l1 l2 c1 c2 : Nat) (ws : List Int) (bs : List Bool) (w : World) (h1 : l1 = ws.length) (h2 : l2 = bs.length) (s1 : SlI w a1 ws) (s2 : SlB w a2 bs) (hl1 : ws.length ≤ 2000000) (hl2 : bs.length ≤ 2000000) :
    Calls Try.prog 41 #[rp kd fl pl nn a1 a2 l1 l2 c1 c2] w fun e w' => e = .returned (chk kd (okA kd fl pl nn ws l1 l2)) ∧ Below w.heap.size w w' := by
  cases hk : kindB kd
  · have e : chk kd (okA kd fl pl nn ws l1 l2) = ansE 1 := by simp [chk, okA, hk]
    rw [e]
    exact checkAnswer_no kd fl pl nn a1 a2 l1 l2 c1 c2 w hk
  · have e : chk kd (okA kd fl pl nn ws l1 l2) = (bif okA kd fl pl nn ws l1 l2 then .nilIface else ansE 3) := by simp [chk, hk]
    rw [e, okA_told kd fl pl nn ws l1 l2 h1 hk]
    clear e
    cases hT : tB kd fl pl nn ws l1 l2
    · exact checkAnswer_f kd fl pl nn a1 a2 l1 l2 c1 c2 ws w h1 s1 hl1 (by omega) hk hT
    · rw [Bool.true_and]
      by_cases h0 : fl = 0
      · subst h0
        obtain rfl | rfl | rfl | rfl | rfl | rfl | rfl | rfl | rfl | rfl := of_decide_eq_true hk
        · exact checkAnswer_if 1 0 pl nn a1 a2 l1 l2 c1 c2 ws bs w h1 h2 s1 s2 hl1 hl2 hk hT 0 0 none a2 0 l2 0 c2 (by omega) (by omega) (fun h => slI_none (h1.symm.trans h.symm)) (fun h => s2) (fun u => namedOf_g 1 0 pl nn a1 a2 l1 l2 c1 c2 u _ (by simp)) _ (by simp [zrA, zr4, eq_comm])
        · exact checkAnswer_if 2 0 pl nn a1 a2 l1 l2 c1 c2 ws bs w h1 h2 s1 s2 hl1 hl2 hk hT 0 0 none a2 0 l2 0 c2 (by omega) (by omega) (fun h => slI_none (h1.symm.trans h.symm)) (fun h => s2) (fun u => namedOf_g 2 0 pl nn a1 a2 l1 l2 c1 c2 u _ (by simp)) _ (by simp [zrA, zr4, eq_comm])
        · exact checkAnswer_if 3 0 pl nn a1 a2 l1 l2 c1 c2 ws bs w h1 h2 s1 s2 hl1 hl2 hk hT 0 0 a1 none l1 0 c1 0 (by omega) (by omega) (fun h => s1) (fun h => slB_none (h2.symm.trans h.symm)) (fun u => namedOf_g 3 0 pl nn a1 a2 l1 l2 c1 c2 u _ (by simp)) _ (by simp [zrA, zr4, eq_comm])
        · exact checkAnswer_if 4 0 pl nn a1 a2 l1 l2 c1 c2 ws bs w h1 h2 s1 s2 hl1 hl2 hk hT 0 0 a1 none l1 0 c1 0 (by omega) (by omega) (fun h => s1) (fun h => slB_none (h2.symm.trans h.symm)) (fun u => namedOf_g 4 0 pl nn a1 a2 l1 l2 c1 c2 u _ (by simp)) _ (by simp [zrA, zr4, eq_comm])
        · exact checkAnswer_if 5 0 pl nn a1 a2 l1 l2 c1 c2 ws bs w h1 h2 s1 s2 hl1 hl2 hk hT pl 0 none a2 0 l2 0 c2 (by omega) (by omega) (fun h => slI_none (h1.symm.trans h.symm)) (fun h => s2) (fun u => namedOf_g 5 0 pl nn a1 a2 l1 l2 c1 c2 u _ (by simp)) _ (by simp [zrA, zr4, eq_comm])
        · exact checkAnswer_if 6 0 pl nn a1 a2 l1 l2 c1 c2 ws bs w h1 h2 s1 s2 hl1 hl2 hk hT pl 0 a1 none l1 0 c1 0 (by omega) (by omega) (fun h => s1) (fun h => slB_none (h2.symm.trans h.symm)) (fun u => namedOf_g 6 0 pl nn a1 a2 l1 l2 c1 c2 u _ (by simp)) _ (by simp [zrA, zr4, eq_comm])
        · exact checkAnswer_if 15 0 pl nn a1 a2 l1 l2 c1 c2 ws bs w h1 h2 s1 s2 hl1 hl2 hk hT pl nn none none 0 0 0 0 (by omega) (by omega) (fun h => slI_none (h1.symm.trans h.symm)) (fun h => slB_none (h2.symm.trans h.symm)) (fun u => namedOf_g 15 0 pl nn a1 a2 l1 l2 c1 c2 u _ (by simp)) _ (by simp [zrA, zr4, eq_comm])
        · exact checkAnswer_if 16 0 pl nn a1 a2 l1 l2 c1 c2 ws bs w h1 h2 s1 s2 hl1 hl2 hk hT pl nn none none 0 0 0 0 (by omega) (by omega) (fun h => slI_none (h1.symm.trans h.symm)) (fun h => slB_none (h2.symm.trans h.symm)) (fun u => namedOf_g 16 0 pl nn a1 a2 l1 l2 c1 c2 u _ (by simp)) _ (by simp [zrA, zr4, eq_comm])
        · exact checkAnswer_if 22 0 pl nn a1 a2 l1 l2 c1 c2 ws bs w h1 h2 s1 s2 hl1 hl2 hk hT pl 0 a1 none l1 0 c1 0 (by omega) (by omega) (fun h => s1) (fun h => slB_none (h2.symm.trans h.symm)) (fun u => namedOf_g 22 0 pl nn a1 a2 l1 l2 c1 c2 u _ (by simp)) _ (by simp [zrA, zr4, eq_comm])
        · exact checkAnswer_if 23 0 pl nn a1 a2 l1 l2 c1 c2 ws bs w h1 h2 s1 s2 hl1 hl2 hk hT 0 0 a1 none l1 0 c1 0 (by omega) (by omega) (fun h => s1) (fun h => slB_none (h2.symm.trans h.symm)) (fun u => namedOf_g 23 0 pl nn a1 a2 l1 l2 c1 c2 u _ (by simp)) _ (by simp [zrA, zr4, eq_comm])
      · exact checkAnswer_if kd fl pl nn a1 a2 l1 l2 c1 c2 ws bs w h1 h2 s1 s2 hl1 hl2 hk hT 0 0 none none 0 0 0 0 (by omega) (by omega) (fun h => slI_none (h1.symm.trans h.symm)) (fun h => slB_none (h2.symm.trans h.symm)) (fun u => namedOf_g kd fl pl nn a1 a2 l1 l2 c1 c2 u _ (.inl ⟨h0, rfl⟩)) _ (by simp [zrA, zr4, eq_comm, h0])
theorem eql_if (T : TypeId) (v : Value) (w : World) : (binOp .eql 62 (.iface T v) .nilIface).run Try.prog w = .ok (.bool false) w := by kernel_rfl
theorem eql_nil (w : World) : (binOp .eql 62 .nilIface .nilIface).run Try.prog w = .ok (.bool true) w := by kernel_rfl
set_option maxHeartbeats 4000000 in
theorem implRespOk_q (kd fl pl nn : Int) (a1 a2 : Option Addr) (l1 l2 c1 c2 : Nat) (ws : List Int) (bs : List Bool) (w : World) (h1 : l1 = ws.length) (h2 : l2 = bs.length) (s1 : SlI w a1 ws) (s2 : SlB w a2 bs) (hl1 : ws.length ≤ 2000000) (hl2 : bs.length ≤ 2000000) :
    Calls Try.prog 35 #[rp kd fl pl nn a1 a2 l1 l2 c1 c2] w fun e w' => e = .returned (.bool (okA kd fl pl nn ws l1 l2)) ∧ Below w.heap.size w w' := by
  have B0 := bel_alloc w (.cells #[.int .i64 kd, .int .i64 fl, .int .i64 pl, .int .i64 nn, .slice a1 l1 c1, .slice a2 l2 c2] 34)
  have X0 := Blk.new w #[.int .i64 kd, .int .i64 fl, .int .i64 pl, .int .i64 nn, .slice a1 l1 c1, .slice a2 l2 c2] 34
  have HS : Hid (SlI w a1 ws ∧ SlB w a2 bs) := ⟨s1, s2⟩
  have HL : Hid (l1 = ws.length ∧ l2 = bs.length) := ⟨h1, h2⟩
  obtain ⟨x0, x1, x2, x3, x4, x5⟩ := X0.six
  clear h1 h2 s1 s2 X0
  have q1 := eql_if
  have q2 := eql_nil
  go_enter Try.func35, Try.ntmps35
  go_wp2_with fail
  refine (checkAnswer_q kd fl pl nn a1 a2 l1 l2 c1 c2 ws bs _ HL.out.1 HL.out.2 (HS.out.1.below B0) (HS.out.2.below B0) hl1 hl2).mono ?_
  rintro e w1 ⟨rfl, b'⟩
  have B1 := bel_next B0 b'
  clear b' B0
  cases hok : okA kd fl pl nn ws l1 l2
  · cases hk : kindB kd
    · simp only [chk, hk, cond_false, cond_true]
      go_wp2
      go_ret
      exact ⟨by rw [hok]; rfl, B1⟩
    · simp only [chk, hk, cond_false, cond_true]
      go_wp2
      go_ret
      exact ⟨by rw [hok]; rfl, B1⟩
  · simp only [chk, cond_true]
    go_wp2
    go_ret
    exact ⟨by rw [hok]; rfl, B1⟩
end Go.Proofs.Ytohikbpolofklaa
namespace Go.Proofs.Ytohikbpolofklaa
open Go.RowKit
set_option linter.unusedVariables false
set_option linter.unusedSimpArgs false
set_option maxHeartbeats 2000000 in
theorem wordBytes_0 (w : World) : Calls Try.prog 45 #[.slice none 0 0] w fun e w' => ∃ g c, e = .returned (.slice (some ⟨g, 0, none⟩) 0 c) ∧ Below w.heap.size w w' := by
  obtain ⟨i0, hi, hz0, hz1, hz2⟩ := info_parts Try.info5
  go_enter Try.func45, Try.ntmps45
  go_wp2_with (at_make; refine wpList_make_own _ rfl (.const (.int .i64 0)) (.tmp 8) 22 rfl w.heap.size 5 i0 (.int .u8 0) 1 Try.underlying22 hi hz0 hz1 .i64 .i64 0 0 rfl rfl (by omega) (by rw [hz2]; omega) (by omega) (Nat.le_refl _) ?_; intro w0 o0 g0)
  have hb0 : Below w.heap.size w w0 := (Below.refl _ w).grown g0 (Nat.le_refl _) (fun k hk => by cases hk)
  go_loopw [3, 12] (fun v i wr => (∃ g c, v = .slice (some ⟨g, 0, none⟩) 0 c) ∧ i = .int .i64 0 ∧ Below w.heap.size w wr) (fun _ _ _ => 0)
  case atStart => exact ⟨⟨_, _, rfl⟩, rfl, hb0⟩
  case round =>
    obtain ⟨⟨g, c, rfl⟩, rfl, hb⟩ := hrel
    clear hb0 g0 o0
    go_wp2
    go_ret
    exact ⟨g, c, rfl, hb⟩
set_option maxHeartbeats 2000000 in
theorem putKind_0 (kd : Int) (w : World) :
    Calls Try.prog 43 #[.int .i64 kd, .slice none 0 0] w fun e w' => Nw w w' e [kd % 256] := by
  have B0 := bel_alloc w (.cells #[.int .u8 (kd % 256)] 5)
  have o0 := own_lit1 w (kd % 256) w.heap.size (Nat.le_refl _)
  go_enter Try.func43, Try.ntmps43
  go_wp2_with fail
  refine (wordBytes_0 _).mono ?_
  rintro e w1 ⟨g, c, rfl, b1'⟩
  have B1 := bel_next B0 b1'
  have o0' := o0.below b1'
  clear o0 b1' B0
  go_wp2_with (at_builtin; refine wpList_app rfl (.tmp 7) (.tmp 9) rfl w.heap.size (.slice (some ⟨w.heap.size, 0, none⟩) 1 1) [kd % 256] rfl o0' ⟨g, 0, none⟩ 0 c [] rfl rfl (.inl rfl) (by simp) B1.size ?_; intro v' w2 o2 g2; have B2 : Below w.heap.size w w2 := bel_grown B1 o0' g2 (Nat.le_refl _) B1.size; obtain ⟨g', c', hv, _, _⟩ := own_some o2 (by simp); subst hv; have R : Nw w w2 (.returned (.slice (some ⟨g', 0, none⟩) ([kd % 256] ++ []).length c')) [kd % 256] := ⟨g', c', _, rfl, rfl, o2, B2⟩; clear o2 g2 o0')
  go_ret
  exact R
set_option maxRecDepth 20000 in
set_option maxHeartbeats 8000000 in
theorem putAns_1 (pl nn : Int) (a1 a2 : Option Addr) (l1 l2 c1 c2 : Nat) (ws : List Int) (bs : List Bool) (w : World) (h1 : l1 = ws.length) (h2 : l2 = bs.length) (s1 : SlI w a1 ws) (s2 : SlB w a2 bs) (hl1 : ws.length ≤ 2000000) (hl2 : bs.length ≤ 2000000) (hb : okA 1 0 pl nn ws l1 l2 = true) :
    Calls Try.prog 36 #[rp 1 0 pl nn a1 a2 l1 l2 c1 c2] w fun e w' => Nw w w' e (putA 1 0 pl nn ws bs) := by
  obtain ⟨z1, hz1⟩ : ∃ z1, z1 = w.alloc (.cells #[.int .i64 1, .int .i64 0, .int .i64 pl, .int .i64 nn, .slice a1 l1 c1, .slice a2 l2 c2] 34) := ⟨_, rfl⟩
  have HZ : Hid (z1 = _) := hz1
  have Bz : Below w.heap.size w z1 := by rw [hz1]; exact bel_alloc w _
  have Xz : Blk z1 w.heap.size 34 #[.int .i64 1, .int .i64 0, .int .i64 pl, .int .i64 nn, .slice a1 l1 c1, .slice a2 l2 c2] := by rw [hz1]; exact Blk.new w _ _
  have H1 : Hid (l1 = ws.length ∧ l2 = bs.length) := ⟨h1, h2⟩
  have S1 : Hid (SlI w a1 ws ∧ SlB w a2 bs) := ⟨s1, s2⟩
  obtain ⟨x0, x1, x2, x3, x4, x5⟩ := Xz.six
  have HOK : Hid (okA 1 0 pl nn ws l1 l2 = true) := hb
  have dz : Below z1.heap.size z1 z1.drew := (Below.refl _ _).drew
  clear h1 h2 s1 s2 hb hz1
  have HLn : Hid (1 ≤ l2 ∧ l2 ≤ 2000) := by show 1 ≤ l2 ∧ l2 ≤ 2000; have hb := HOK.out; simp [okA, okAK, kindB, inB, zr4] at hb; omega
  go_enter Try.func36, Try.ntmps36
  go_upto_region 1 with fail
  rw [← HZ.out]
  go_upto_region 6 with fail
  go_region_held3 (fun w' => w'.cell? ⟨w.heap.size, 0, none⟩ = some (.int .i64 1) ∧ w'.cell? ⟨w.heap.size, 5, none⟩ = some (.slice a2 l2 c2)) (go_keep)
    (first
      | (go_at_call 43; refine (putKind_0 1 _).mono ?_; rintro e wA ⟨gA, cA, nA, rfl, hnA, oA, bA⟩; have HnA : Hid _ := hnA; have BA := bel_next (w0 := w) (by first | exact Bz | exact Bz.drew) bA; have XA := Blk.below (by first | exact Xz | exact Xz.below dz) bA; have kA0 := XA.cell 0 rfl; have kA1 := XA.cell 5 rfl; clear hnA)
      | (go_at_call 44; refine (implPack_nw _ _ _ bs _ H1.out.2 (S1.out.2.below BA) (by have := HLn.out; omega)).mono ?_; rintro e wP ⟨gP, cP, nP, rfl, hnP, oP, bP⟩; have HnP : Hid _ := hnP; have BP := bel_next BA bP; have XP := XA.below bP; have kP0 := XP.cell 0 rfl; have kP1 := XP.cell 5 rfl; clear hnP)
      | (go_at_call 42; refine (putCounted_any _ _ _ _ _ _ [1 % 256] (packL bs) _ HnA.out HnP.out (oA.below bP).sl.2 oP.sl.2 (by have := HnA.out; simp at this; omega) (by have := HnP.out; have := HLn.out; have := H1.out; rw [packL_length] at *; omega)).mono ?_; rintro e w3 h3; have X3 := XP.below h3.bel; have k30 := X3.cell 0 rfl; have k31 := X3.cell 5 rfl; replace h3 := nw_next BP h3; obtain ⟨g, c, n, rfl, h4⟩ := h3; have H3 : Hid _ := h4; clear h4))
  all_goals (go_wp2; go_ret; have e3 : [1 % 256] ++ [(nP : Int) % 256] ++ packL bs = putA 1 0 pl nn ws bs := (by rw [HnP.out, packL_length]; rfl); rw [← e3]; exact ⟨g, c, n, rfl, H3.out⟩)
set_option maxRecDepth 20000 in
set_option maxHeartbeats 8000000 in
theorem putAns_2 (pl nn : Int) (a1 a2 : Option Addr) (l1 l2 c1 c2 : Nat) (ws : List Int) (bs : List Bool) (w : World) (h1 : l1 = ws.length) (h2 : l2 = bs.length) (s1 : SlI w a1 ws) (s2 : SlB w a2 bs) (hl1 : ws.length ≤ 2000000) (hl2 : bs.length ≤ 2000000) (hb : okA 2 0 pl nn ws l1 l2 = true) :
    Calls Try.prog 36 #[rp 2 0 pl nn a1 a2 l1 l2 c1 c2] w fun e w' => Nw w w' e (putA 2 0 pl nn ws bs) := by
  obtain ⟨z1, hz1⟩ : ∃ z1, z1 = w.alloc (.cells #[.int .i64 2, .int .i64 0, .int .i64 pl, .int .i64 nn, .slice a1 l1 c1, .slice a2 l2 c2] 34) := ⟨_, rfl⟩
  have HZ : Hid (z1 = _) := hz1
  have Bz : Below w.heap.size w z1 := by rw [hz1]; exact bel_alloc w _
  have Xz : Blk z1 w.heap.size 34 #[.int .i64 2, .int .i64 0, .int .i64 pl, .int .i64 nn, .slice a1 l1 c1, .slice a2 l2 c2] := by rw [hz1]; exact Blk.new w _ _
  have H1 : Hid (l1 = ws.length ∧ l2 = bs.length) := ⟨h1, h2⟩
  have S1 : Hid (SlI w a1 ws ∧ SlB w a2 bs) := ⟨s1, s2⟩
  obtain ⟨x0, x1, x2, x3, x4, x5⟩ := Xz.six
  have HOK : Hid (okA 2 0 pl nn ws l1 l2 = true) := hb
  have dz : Below z1.heap.size z1 z1.drew := (Below.refl _ _).drew
  clear h1 h2 s1 s2 hb hz1
  have HLn : Hid (1 ≤ l2 ∧ l2 ≤ 2000) := by show 1 ≤ l2 ∧ l2 ≤ 2000; have hb := HOK.out; simp [okA, okAK, kindB, inB, zr4] at hb; omega
  go_enter Try.func36, Try.ntmps36
  go_upto_region 1 with fail
  rw [← HZ.out]
  go_upto_region 6 with fail
  go_region_held3 (fun w' => w'.cell? ⟨w.heap.size, 0, none⟩ = some (.int .i64 2) ∧ w'.cell? ⟨w.heap.size, 5, none⟩ = some (.slice a2 l2 c2)) (go_keep)
    (first
      | (go_at_call 43; refine (putKind_0 2 _).mono ?_; rintro e wA ⟨gA, cA, nA, rfl, hnA, oA, bA⟩; have HnA : Hid _ := hnA; have BA := bel_next (w0 := w) (by first | exact Bz | exact Bz.drew) bA; have XA := Blk.below (by first | exact Xz | exact Xz.below dz) bA; have kA0 := XA.cell 0 rfl; have kA1 := XA.cell 5 rfl; clear hnA)
      | (go_at_call 44; refine (implPack_nw _ _ _ bs _ H1.out.2 (S1.out.2.below BA) (by have := HLn.out; omega)).mono ?_; rintro e wP ⟨gP, cP, nP, rfl, hnP, oP, bP⟩; have HnP : Hid _ := hnP; have BP := bel_next BA bP; have XP := XA.below bP; have kP0 := XP.cell 0 rfl; have kP1 := XP.cell 5 rfl; clear hnP)
      | (go_at_call 42; refine (putCounted_any _ _ _ _ _ _ [2 % 256] (packL bs) _ HnA.out HnP.out (oA.below bP).sl.2 oP.sl.2 (by have := HnA.out; simp at this; omega) (by have := HnP.out; have := HLn.out; have := H1.out; rw [packL_length] at *; omega)).mono ?_; rintro e w3 h3; have X3 := XP.below h3.bel; have k30 := X3.cell 0 rfl; have k31 := X3.cell 5 rfl; replace h3 := nw_next BP h3; obtain ⟨g, c, n, rfl, h4⟩ := h3; have H3 : Hid _ := h4; clear h4))
  all_goals (go_wp2; go_ret; have e3 : [2 % 256] ++ [(nP : Int) % 256] ++ packL bs = putA 2 0 pl nn ws bs := (by rw [HnP.out, packL_length]; rfl); rw [← e3]; exact ⟨g, c, n, rfl, H3.out⟩)
set_option maxRecDepth 20000 in
set_option maxHeartbeats 8000000 in
theorem putAns_3 (pl nn : Int) (a1 a2 : Option Addr) (l1 l2 c1 c2 : Nat) (ws : List Int) (bs : List Bool) (w : World) (h1 : l1 = ws.length) (h2 : l2 = bs.length) (s1 : SlI w a1 ws) (s2 : SlB w a2 bs) (hl1 : ws.length ≤ 2000000) (hl2 : bs.length ≤ 2000000) (hb : okA 3 0 pl nn ws l1 l2 = true) :
    Calls Try.prog 36 #[rp 3 0 pl nn a1 a2 l1 l2 c1 c2] w fun e w' => Nw w w' e (putA 3 0 pl nn ws bs) := by
  obtain ⟨z1, hz1⟩ : ∃ z1, z1 = w.alloc (.cells #[.int .i64 3, .int .i64 0, .int .i64 pl, .int .i64 nn, .slice a1 l1 c1, .slice a2 l2 c2] 34) := ⟨_, rfl⟩
  have HZ : Hid (z1 = _) := hz1
  have Bz : Below w.heap.size w z1 := by rw [hz1]; exact bel_alloc w _
  have Xz : Blk z1 w.heap.size 34 #[.int .i64 3, .int .i64 0, .int .i64 pl, .int .i64 nn, .slice a1 l1 c1, .slice a2 l2 c2] := by rw [hz1]; exact Blk.new w _ _
  have H1 : Hid (l1 = ws.length ∧ l2 = bs.length) := ⟨h1, h2⟩
  have S1 : Hid (SlI w a1 ws ∧ SlB w a2 bs) := ⟨s1, s2⟩
  obtain ⟨x0, x1, x2, x3, x4, x5⟩ := Xz.six
  have HOK : Hid (okA 3 0 pl nn ws l1 l2 = true) := hb
  have dz : Below z1.heap.size z1 z1.drew := (Below.refl _ _).drew
  clear h1 h2 s1 s2 hb hz1
  have HLn : Hid (1 ≤ l1 ∧ l1 ≤ 125) := by show 1 ≤ l1 ∧ l1 ≤ 125; have hb := HOK.out; simp [okA, okAK, kindB, inB, zr4] at hb; omega
  go_enter Try.func36, Try.ntmps36
  go_upto_region 1 with fail
  rw [← HZ.out]
  go_upto_region 10 with fail
  go_region_held3 (fun w' => w'.cell? ⟨w.heap.size, 0, none⟩ = some (.int .i64 3) ∧ w'.cell? ⟨w.heap.size, 4, none⟩ = some (.slice a1 l1 c1)) (go_keep)
    (first
      | (go_at_call 43; refine (putKind_0 3 _).mono ?_; rintro e wA ⟨gA, cA, nA, rfl, hnA, oA, bA⟩; have HnA : Hid _ := hnA; have BA := bel_next (w0 := w) (by first | exact Bz | exact Bz.drew) bA; have XA := Blk.below (by first | exact Xz | exact Xz.below dz) bA; have kA0 := XA.cell 0 rfl; have kA1 := XA.cell 4 rfl; clear hnA)
      | (go_at_call 45; refine (wordBytes_any _ _ _ ws _ H1.out.1 (S1.out.1.below BA) (by have := H1.out; have := HLn.out; omega) (by have := H1.out; have := HLn.out; omega)).mono ?_; rintro e wP ⟨gP, cP, nP, rfl, hnP, oP, bP⟩; have HnP : Hid _ := hnP; have BP := bel_next BA bP; have XP := XA.below bP; have kP0 := XP.cell 0 rfl; have kP1 := XP.cell 4 rfl; clear hnP)
      | (go_at_call 42; refine (putCounted_any _ _ _ _ _ _ [3 % 256] (wbs ws) _ HnA.out HnP.out (oA.below bP).sl.2 oP.sl.2 (by have := HnA.out; simp at this; omega) (by have := HnP.out; have := HLn.out; have := H1.out; rw [wbs_length] at *; omega)).mono ?_; rintro e w3 h3; have X3 := XP.below h3.bel; have k30 := X3.cell 0 rfl; have k31 := X3.cell 4 rfl; replace h3 := nw_next BP h3; obtain ⟨g, c, n, rfl, h4⟩ := h3; have H3 : Hid _ := h4; clear h4))
  all_goals (go_wp2; go_ret; have e3 : [3 % 256] ++ [(nP : Int) % 256] ++ wbs ws = putA 3 0 pl nn ws bs := (by rw [HnP.out, wbs_length]; rfl); rw [← e3]; exact ⟨g, c, n, rfl, H3.out⟩)
set_option maxRecDepth 20000 in
set_option maxHeartbeats 8000000 in
theorem putAns_4 (pl nn : Int) (a1 a2 : Option Addr) (l1 l2 c1 c2 : Nat) (ws : List Int) (bs : List Bool) (w : World) (h1 : l1 = ws.length) (h2 : l2 = bs.length) (s1 : SlI w a1 ws) (s2 : SlB w a2 bs) (hl1 : ws.length ≤ 2000000) (hl2 : bs.length ≤ 2000000) (hb : okA 4 0 pl nn ws l1 l2 = true) :
    Calls Try.prog 36 #[rp 4 0 pl nn a1 a2 l1 l2 c1 c2] w fun e w' => Nw w w' e (putA 4 0 pl nn ws bs) := by
  obtain ⟨z1, hz1⟩ : ∃ z1, z1 = w.alloc (.cells #[.int .i64 4, .int .i64 0, .int .i64 pl, .int .i64 nn, .slice a1 l1 c1, .slice a2 l2 c2] 34) := ⟨_, rfl⟩
  have HZ : Hid (z1 = _) := hz1
  have Bz : Below w.heap.size w z1 := by rw [hz1]; exact bel_alloc w _
  have Xz : Blk z1 w.heap.size 34 #[.int .i64 4, .int .i64 0, .int .i64 pl, .int .i64 nn, .slice a1 l1 c1, .slice a2 l2 c2] := by rw [hz1]; exact Blk.new w _ _
  have H1 : Hid (l1 = ws.length ∧ l2 = bs.length) := ⟨h1, h2⟩
  have S1 : Hid (SlI w a1 ws ∧ SlB w a2 bs) := ⟨s1, s2⟩
  obtain ⟨x0, x1, x2, x3, x4, x5⟩ := Xz.six
  have HOK : Hid (okA 4 0 pl nn ws l1 l2 = true) := hb
  have dz : Below z1.heap.size z1 z1.drew := (Below.refl _ _).drew
  clear h1 h2 s1 s2 hb hz1
  have HLn : Hid (1 ≤ l1 ∧ l1 ≤ 125) := by show 1 ≤ l1 ∧ l1 ≤ 125; have hb := HOK.out; simp [okA, okAK, kindB, inB, zr4] at hb; omega
  go_enter Try.func36, Try.ntmps36
  go_upto_region 1 with fail
  rw [← HZ.out]
  go_upto_region 10 with fail
  go_region_held3 (fun w' => w'.cell? ⟨w.heap.size, 0, none⟩ = some (.int .i64 4) ∧ w'.cell? ⟨w.heap.size, 4, none⟩ = some (.slice a1 l1 c1)) (go_keep)
    (first
      | (go_at_call 43; refine (putKind_0 4 _).mono ?_; rintro e wA ⟨gA, cA, nA, rfl, hnA, oA, bA⟩; have HnA : Hid _ := hnA; have BA := bel_next (w0 := w) (by first | exact Bz | exact Bz.drew) bA; have XA := Blk.below (by first | exact Xz | exact Xz.below dz) bA; have kA0 := XA.cell 0 rfl; have kA1 := XA.cell 4 rfl; clear hnA)
      | (go_at_call 45; refine (wordBytes_any _ _ _ ws _ H1.out.1 (S1.out.1.below BA) (by have := H1.out; have := HLn.out; omega) (by have := H1.out; have := HLn.out; omega)).mono ?_; rintro e wP ⟨gP, cP, nP, rfl, hnP, oP, bP⟩; have HnP : Hid _ := hnP; have BP := bel_next BA bP; have XP := XA.below bP; have kP0 := XP.cell 0 rfl; have kP1 := XP.cell 4 rfl; clear hnP)
      | (go_at_call 42; refine (putCounted_any _ _ _ _ _ _ [4 % 256] (wbs ws) _ HnA.out HnP.out (oA.below bP).sl.2 oP.sl.2 (by have := HnA.out; simp at this; omega) (by have := HnP.out; have := HLn.out; have := H1.out; rw [wbs_length] at *; omega)).mono ?_; rintro e w3 h3; have X3 := XP.below h3.bel; have k30 := X3.cell 0 rfl; have k31 := X3.cell 4 rfl; replace h3 := nw_next BP h3; obtain ⟨g, c, n, rfl, h4⟩ := h3; have H3 : Hid _ := h4; clear h4))
  all_goals (go_wp2; go_ret; have e3 : [4 % 256] ++ [(nP : Int) % 256] ++ wbs ws = putA 4 0 pl nn ws bs := (by rw [HnP.out, wbs_length]; rfl); rw [← e3]; exact ⟨g, c, n, rfl, H3.out⟩)
set_option maxRecDepth 20000 in
set_option maxHeartbeats 8000000 in
theorem putAns_5 (pl nn : Int) (a1 a2 : Option Addr) (l1 l2 c1 c2 : Nat) (ws : List Int) (bs : List Bool) (w : World) (h1 : l1 = ws.length) (h2 : l2 = bs.length) (s1 : SlI w a1 ws) (s2 : SlB w a2 bs) (hl1 : ws.length ≤ 2000000) (hl2 : bs.length ≤ 2000000) (hb : okA 5 0 pl nn ws l1 l2 = true) :
    Calls Try.prog 36 #[rp 5 0 pl nn a1 a2 l1 l2 c1 c2] w fun e w' => Nw w w' e (putA 5 0 pl nn ws bs) := by
  obtain ⟨z1, hz1⟩ : ∃ z1, z1 = w.alloc (.cells #[.int .i64 5, .int .i64 0, .int .i64 pl, .int .i64 nn, .slice a1 l1 c1, .slice a2 l2 c2] 34) := ⟨_, rfl⟩
  have HZ : Hid (z1 = _) := hz1
  have Bz : Below w.heap.size w z1 := by rw [hz1]; exact bel_alloc w _
  have Xz : Blk z1 w.heap.size 34 #[.int .i64 5, .int .i64 0, .int .i64 pl, .int .i64 nn, .slice a1 l1 c1, .slice a2 l2 c2] := by rw [hz1]; exact Blk.new w _ _
  have H1 : Hid (l1 = ws.length ∧ l2 = bs.length) := ⟨h1, h2⟩
  have S1 : Hid (SlI w a1 ws ∧ SlB w a2 bs) := ⟨s1, s2⟩
  obtain ⟨x0, x1, x2, x3, x4, x5⟩ := Xz.six
  have HOK : Hid (okA 5 0 pl nn ws l1 l2 = true) := hb
  have dz : Below z1.heap.size z1 z1.drew := (Below.refl _ _).drew
  clear h1 h2 s1 s2 hb hz1
  have HLn : Hid (l2 = 1) := by show l2 = 1; have hb := HOK.out; simp [okA, okAK, kindB, inB, zr4] at hb; omega
  obtain rfl : l2 = 1 := HLn.out
  obtain ⟨bk, off, ea, hbk, hc⟩ := cell_atB (S1.out.2.below Bz) (show 0 < bs.length by have := H1.out; omega)
  have hc0 : z1.cell? ⟨bk, off, none⟩ = some (.bool (bs.getD 0 false)) := by simpa using hc
  subst ea
  clear hc
  generalize hx : bs.getD 0 false = x at *
  have E3 : Hid (5 % 256 :: wbs [pl, bif x then 65280 else 0] = putA 5 0 pl nn ws bs) := by show _ = _; unfold putA; rw [hx]; rfl
  go_enter Try.func36, Try.ntmps36
  go_upto_region 1 with fail
  rw [← HZ.out]
  go_upto_region 12 with fail
  have q1 : Below w.heap.size w (z1.drew.alloc (.cells #[.int .i64 pl, .int .i64 (bif x then 65280 else 0)] 3)) := bel_next Bz.drew (bel_alloc _ _)
  have q2 : Below w.heap.size w (z1.alloc (.cells #[.int .i64 pl, .int .i64 (bif x then 65280 else 0)] 3)).drew := (bel_next Bz (bel_alloc _ _)).drew
  go_region_held3 (fun w' => w'.cell? ⟨w.heap.size, 0, none⟩ = some (.int .i64 5) ∧ w'.cell? ⟨w.heap.size, 2, none⟩ = some (.int .i64 pl) ∧ w'.cell? ⟨w.heap.size, 5, none⟩ = some (.slice (some ⟨bk, off, none⟩) 1 c2) ∧ w'.cell? ⟨bk, off, none⟩ = some (.bool x)) (go_keep)
    (first
      | (go_at_call 46; refine (coilWord_any x _).mono ?_; rintro e wx ⟨rfl, rfl⟩)
      | (go_at_call 43; refine (putKind_any 5 _ _ _ [pl, bif x then 65280 else 0] _ rfl (by first | exact lit_slI2 _ _ _ rfl | exact (lit_slI2 z1 _ _ rfl).below (Below.refl _ _).drew) (by simp) (by simp)).mono ?_; rintro e w3 h3; have b3 : Below z1.heap.size z1 w3 := bel_next (by first | exact bel_next dz (bel_alloc _ _) | exact bel_next (bel_alloc _ _) (Below.refl _ _).drew) h3.bel; have X3 := Xz.below b3; have k30 := X3.cell 0 rfl; have k32 := X3.cell 2 rfl; have k35 := X3.cell 5 rfl; have k3b : w3.cell? ⟨bk, off, none⟩ = some (.bool x) := (b3.cell (p := ⟨bk, off, none⟩) hbk).trans hc0; replace h3 := nw_next (by first | exact q1 | exact q2) h3; obtain ⟨g, c, n, rfl, h4⟩ := h3; have H3 : Hid _ := h4; clear h4))
  all_goals (go_wp2; go_ret; rw [← E3.out]; exact ⟨g, c, n, rfl, H3.out⟩)
set_option maxRecDepth 20000 in
set_option maxHeartbeats 8000000 in
theorem putAns_6 (pl nn : Int) (a1 a2 : Option Addr) (l1 l2 c1 c2 : Nat) (ws : List Int) (bs : List Bool) (w : World) (h1 : l1 = ws.length) (h2 : l2 = bs.length) (s1 : SlI w a1 ws) (s2 : SlB w a2 bs) (hl1 : ws.length ≤ 2000000) (hl2 : bs.length ≤ 2000000) (hb : okA 6 0 pl nn ws l1 l2 = true) :
    Calls Try.prog 36 #[rp 6 0 pl nn a1 a2 l1 l2 c1 c2] w fun e w' => Nw w w' e (putA 6 0 pl nn ws bs) := by
  obtain ⟨z1, hz1⟩ : ∃ z1, z1 = w.alloc (.cells #[.int .i64 6, .int .i64 0, .int .i64 pl, .int .i64 nn, .slice a1 l1 c1, .slice a2 l2 c2] 34) := ⟨_, rfl⟩
  have HZ : Hid (z1 = _) := hz1
  have Bz : Below w.heap.size w z1 := by rw [hz1]; exact bel_alloc w _
  have Xz : Blk z1 w.heap.size 34 #[.int .i64 6, .int .i64 0, .int .i64 pl, .int .i64 nn, .slice a1 l1 c1, .slice a2 l2 c2] := by rw [hz1]; exact Blk.new w _ _
  have H1 : Hid (l1 = ws.length ∧ l2 = bs.length) := ⟨h1, h2⟩
  have S1 : Hid (SlI w a1 ws ∧ SlB w a2 bs) := ⟨s1, s2⟩
  obtain ⟨x0, x1, x2, x3, x4, x5⟩ := Xz.six
  have HOK : Hid (okA 6 0 pl nn ws l1 l2 = true) := hb
  have dz : Below z1.heap.size z1 z1.drew := (Below.refl _ _).drew
  clear h1 h2 s1 s2 hb hz1
  have HLn : Hid (l1 = 1) := by show l1 = 1; have hb := HOK.out; simp [okA, okAK, kindB, inB, zr4] at hb; omega
  obtain rfl : l1 = 1 := HLn.out
  obtain ⟨bk, off, ea, hbk, hc⟩ := cell_atI (S1.out.1.below Bz) (show 0 < ws.length by have := H1.out; omega)
  have hc0 : z1.cell? ⟨bk, off, none⟩ = some (.int .i64 (ws.getD 0 0)) := by simpa using hc
  subst ea
  clear hc
  have E3 : Hid (6 % 256 :: wbs [pl, ws.getD 0 0] = putA 6 0 pl nn ws bs) := by
    show _ = _
    match ws, H1.out.1 with
    | [x], _ => rfl
  generalize ws.getD 0 0 = x at *
  go_enter Try.func36, Try.ntmps36
  go_upto_region 1 with fail
  rw [← HZ.out]
  go_upto_region 14 with fail
  have q1 : Below w.heap.size w (z1.drew.alloc (.cells #[.int .i64 pl, .int .i64 x] 3)) := bel_next Bz.drew (bel_alloc _ _)
  have q2 : Below w.heap.size w (z1.alloc (.cells #[.int .i64 pl, .int .i64 x] 3)).drew := (bel_next Bz (bel_alloc _ _)).drew
  go_region_held3 (fun w' => w'.cell? ⟨w.heap.size, 0, none⟩ = some (.int .i64 6) ∧ w'.cell? ⟨w.heap.size, 2, none⟩ = some (.int .i64 pl) ∧ w'.cell? ⟨w.heap.size, 4, none⟩ = some (.slice (some ⟨bk, off, none⟩) 1 c1) ∧ w'.cell? ⟨bk, off, none⟩ = some (.int .i64 x)) (go_keep)
    (first
      | (go_at_call 43; refine (putKind_any 6 _ _ _ [pl, x] _ rfl (by first | exact lit_slI2 _ _ _ rfl | exact (lit_slI2 z1 _ _ rfl).below (Below.refl _ _).drew) (by simp) (by simp)).mono ?_; rintro e w3 h3; have b3 : Below z1.heap.size z1 w3 := bel_next (by first | exact bel_next dz (bel_alloc _ _) | exact bel_next (bel_alloc _ _) (Below.refl _ _).drew) h3.bel; have X3 := Xz.below b3; have k30 := X3.cell 0 rfl; have k32 := X3.cell 2 rfl; have k34 := X3.cell 4 rfl; have k3b : w3.cell? ⟨bk, off, none⟩ = some (.int .i64 x) := (b3.cell (p := ⟨bk, off, none⟩) hbk).trans hc0; replace h3 := nw_next (by first | exact q1 | exact q2) h3; obtain ⟨g, c, n, rfl, h4⟩ := h3; have H3 : Hid _ := h4; clear h4)
      | fail)
  all_goals (go_wp2; go_ret; rw [← E3.out]; exact ⟨g, c, n, rfl, H3.out⟩)
set_option maxRecDepth 20000 in
set_option maxHeartbeats 8000000 in
theorem putAns_15 (pl nn : Int) (a1 a2 : Option Addr) (l1 l2 c1 c2 : Nat) (ws : List Int) (bs : List Bool) (w : World) (h1 : l1 = ws.length) (h2 : l2 = bs.length) (s1 : SlI w a1 ws) (s2 : SlB w a2 bs) (hl1 : ws.length ≤ 2000000) (hl2 : bs.length ≤ 2000000) (hb : okA 15 0 pl nn ws l1 l2 = true) :
    Calls Try.prog 36 #[rp 15 0 pl nn a1 a2 l1 l2 c1 c2] w fun e w' => Nw w w' e (putA 15 0 pl nn ws bs) := by
  obtain ⟨z1, hz1⟩ : ∃ z1, z1 = w.alloc (.cells #[.int .i64 15, .int .i64 0, .int .i64 pl, .int .i64 nn, .slice a1 l1 c1, .slice a2 l2 c2] 34) := ⟨_, rfl⟩
  have HZ : Hid (z1 = _) := hz1
  have Bz : Below w.heap.size w z1 := by rw [hz1]; exact bel_alloc w _
  have Xz : Blk z1 w.heap.size 34 #[.int .i64 15, .int .i64 0, .int .i64 pl, .int .i64 nn, .slice a1 l1 c1, .slice a2 l2 c2] := by rw [hz1]; exact Blk.new w _ _
  have H1 : Hid (l1 = ws.length ∧ l2 = bs.length) := ⟨h1, h2⟩
  have S1 : Hid (SlI w a1 ws ∧ SlB w a2 bs) := ⟨s1, s2⟩
  obtain ⟨x0, x1, x2, x3, x4, x5⟩ := Xz.six
  have HOK : Hid (okA 15 0 pl nn ws l1 l2 = true) := hb
  have dz : Below z1.heap.size z1 z1.drew := (Below.refl _ _).drew
  clear h1 h2 s1 s2 hb hz1
  have q1 := bel_next Bz (bel_alloc z1 (.cells #[.int .i64 pl, .int .i64 nn] 3))
  go_enter Try.func36, Try.ntmps36
  go_upto_region 1 with fail
  rw [← HZ.out]
  go_wp2_with fail
  refine (putKind_any 15 _ _ _ [pl, nn] _ rfl (lit_slI2 _ _ _ rfl) (by simp) (by simp)).mono ?_
  rintro e w3 h3
  replace h3 := nw_next q1 h3
  obtain ⟨g, c, n, rfl, h4⟩ := h3
  have H3 : Hid _ := h4
  clear h4
  go_wp2
  go_ret
  exact ⟨g, c, n, rfl, H3.out⟩
set_option maxRecDepth 20000 in
set_option maxHeartbeats 8000000 in
theorem putAns_16 (pl nn : Int) (a1 a2 : Option Addr) (l1 l2 c1 c2 : Nat) (ws : List Int) (bs : List Bool) (w : World) (h1 : l1 = ws.length) (h2 : l2 = bs.length) (s1 : SlI w a1 ws) (s2 : SlB w a2 bs) (hl1 : ws.length ≤ 2000000) (hl2 : bs.length ≤ 2000000) (hb : okA 16 0 pl nn ws l1 l2 = true) :
    Calls Try.prog 36 #[rp 16 0 pl nn a1 a2 l1 l2 c1 c2] w fun e w' => Nw w w' e (putA 16 0 pl nn ws bs) := by
  obtain ⟨z1, hz1⟩ : ∃ z1, z1 = w.alloc (.cells #[.int .i64 16, .int .i64 0, .int .i64 pl, .int .i64 nn, .slice a1 l1 c1, .slice a2 l2 c2] 34) := ⟨_, rfl⟩
  have HZ : Hid (z1 = _) := hz1
  have Bz : Below w.heap.size w z1 := by rw [hz1]; exact bel_alloc w _
  have Xz : Blk z1 w.heap.size 34 #[.int .i64 16, .int .i64 0, .int .i64 pl, .int .i64 nn, .slice a1 l1 c1, .slice a2 l2 c2] := by rw [hz1]; exact Blk.new w _ _
  have H1 : Hid (l1 = ws.length ∧ l2 = bs.length) := ⟨h1, h2⟩
  have S1 : Hid (SlI w a1 ws ∧ SlB w a2 bs) := ⟨s1, s2⟩
  obtain ⟨x0, x1, x2, x3, x4, x5⟩ := Xz.six
  have HOK : Hid (okA 16 0 pl nn ws l1 l2 = true) := hb
  have dz : Below z1.heap.size z1 z1.drew := (Below.refl _ _).drew
  clear h1 h2 s1 s2 hb hz1
  have q1 := bel_next Bz (bel_alloc z1 (.cells #[.int .i64 pl, .int .i64 nn] 3))
  go_enter Try.func36, Try.ntmps36
  go_upto_region 1 with fail
  rw [← HZ.out]
  go_wp2_with fail
  refine (putKind_any 16 _ _ _ [pl, nn] _ rfl (lit_slI2 _ _ _ rfl) (by simp) (by simp)).mono ?_
  rintro e w3 h3
  replace h3 := nw_next q1 h3
  obtain ⟨g, c, n, rfl, h4⟩ := h3
  have H3 : Hid _ := h4
  clear h4
  go_wp2
  go_ret
  exact ⟨g, c, n, rfl, H3.out⟩
set_option maxRecDepth 20000 in
set_option maxHeartbeats 8000000 in
theorem putAns_22 (pl nn : Int) (a1 a2 : Option Addr) (l1 l2 c1 c2 : Nat) (ws : List Int) (bs : List Bool) (w : World) (h1 : l1 = ws.length) (h2 : l2 = bs.length) (s1 : SlI w a1 ws) (s2 : SlB w a2 bs) (hl1 : ws.length ≤ 2000000) (hl2 : bs.length ≤ 2000000) (hb : okA 22 0 pl nn ws l1 l2 = true) :
    Calls Try.prog 36 #[rp 22 0 pl nn a1 a2 l1 l2 c1 c2] w fun e w' => Nw w w' e (putA 22 0 pl nn ws bs) := by
  obtain ⟨z1, hz1⟩ : ∃ z1, z1 = w.alloc (.cells #[.int .i64 22, .int .i64 0, .int .i64 pl, .int .i64 nn, .slice a1 l1 c1, .slice a2 l2 c2] 34) := ⟨_, rfl⟩
  have HZ : Hid (z1 = _) := hz1
  have Bz : Below w.heap.size w z1 := by rw [hz1]; exact bel_alloc w _
  have Xz : Blk z1 w.heap.size 34 #[.int .i64 22, .int .i64 0, .int .i64 pl, .int .i64 nn, .slice a1 l1 c1, .slice a2 l2 c2] := by rw [hz1]; exact Blk.new w _ _
  have H1 : Hid (l1 = ws.length ∧ l2 = bs.length) := ⟨h1, h2⟩
  have S1 : Hid (SlI w a1 ws ∧ SlB w a2 bs) := ⟨s1, s2⟩
  obtain ⟨x0, x1, x2, x3, x4, x5⟩ := Xz.six
  have HOK : Hid (okA 22 0 pl nn ws l1 l2 = true) := hb
  have dz : Below z1.heap.size z1 z1.drew := (Below.refl _ _).drew
  clear h1 h2 s1 s2 hb hz1
  have HLn : Hid (l1 = 2) := by show l1 = 2; have hb := HOK.out; simp [okA, okAK, kindB, inB, zr4] at hb; omega
  obtain rfl : l1 = 2 := HLn.out
  obtain ⟨bk, off, ea, hbk, hc⟩ := cell_atI (S1.out.1.below Bz) (show 0 < ws.length by have := H1.out; omega)
  have hc0 : z1.cell? ⟨bk, off, none⟩ = some (.int .i64 (ws.getD 0 0)) := by simpa using hc
  obtain ⟨bk1, off1, ea1, _, hc1⟩ := cell_atI (S1.out.1.below Bz) (show 1 < ws.length by have := H1.out; omega)
  rw [ea] at ea1
  simp at ea1
  obtain ⟨rfl, rfl⟩ := ea1
  subst ea
  clear hc
  have E3 : Hid (22 % 256 :: wbs [pl, ws.getD 0 0, ws.getD 1 0] = putA 22 0 pl nn ws bs) := by
    show _ = _
    match ws, H1.out.1 with
    | [x, y], _ => rfl
  generalize ws.getD 0 0 = x at *
  generalize ws.getD 1 0 = y at *
  go_enter Try.func36, Try.ntmps36
  go_upto_region 1 with fail
  rw [← HZ.out]
  go_upto_region 16 with fail
  have q1 : Below w.heap.size w (z1.drew.alloc (.cells #[.int .i64 pl, .int .i64 x, .int .i64 y] 3)) := bel_next Bz.drew (bel_alloc _ _)
  have q2 : Below w.heap.size w (z1.alloc (.cells #[.int .i64 pl, .int .i64 x, .int .i64 y] 3)).drew := (bel_next Bz (bel_alloc _ _)).drew
  go_region_held3 (fun w' => w'.cell? ⟨w.heap.size, 0, none⟩ = some (.int .i64 22) ∧ w'.cell? ⟨w.heap.size, 2, none⟩ = some (.int .i64 pl) ∧ w'.cell? ⟨w.heap.size, 4, none⟩ = some (.slice (some ⟨bk, off, none⟩) 2 c1) ∧ w'.cell? ⟨bk, off, none⟩ = some (.int .i64 x) ∧ w'.cell? ⟨bk, off + 1, none⟩ = some (.int .i64 y)) (go_keep)
    (first
      | (go_at_call 43; refine (putKind_any 22 _ _ _ [pl, x, y] _ rfl (by first | exact lit_slI3 _ _ _ _ rfl | exact (lit_slI3 z1 _ _ _ rfl).below (Below.refl _ _).drew) (by simp) (by simp)).mono ?_; rintro e w3 h3; have b3 : Below z1.heap.size z1 w3 := bel_next (by first | exact bel_next dz (bel_alloc _ _) | exact bel_next (bel_alloc _ _) (Below.refl _ _).drew) h3.bel; have X3 := Xz.below b3; have k30 := X3.cell 0 rfl; have k32 := X3.cell 2 rfl; have k34 := X3.cell 4 rfl; have k3b : w3.cell? ⟨bk, off, none⟩ = some (.int .i64 x) := (b3.cell (p := ⟨bk, off, none⟩) hbk).trans hc0; have k3c : w3.cell? ⟨bk, off + 1, none⟩ = some (.int .i64 y) := (b3.cell (p := ⟨bk, off + 1, none⟩) hbk).trans hc1; replace h3 := nw_next (by first | exact q1 | exact q2) h3; obtain ⟨g, c, n, rfl, h4⟩ := h3; have H3 : Hid _ := h4; clear h4)
      | fail)
  all_goals (go_wp2; go_ret; rw [← E3.out]; exact ⟨g, c, n, rfl, H3.out⟩)
set_option maxRecDepth 20000 in
set_option maxHeartbeats 8000000 in
theorem putAns_23 (pl nn : Int) (a1 a2 : Option Addr) (l1 l2 c1 c2 : Nat) (ws : List Int) (bs : List Bool) (w : World) (h1 : l1 = ws.length) (h2 : l2 = bs.length) (s1 : SlI w a1 ws) (s2 : SlB w a2 bs) (hl1 : ws.length ≤ 2000000) (hl2 : bs.length ≤ 2000000) (hb : okA 23 0 pl nn ws l1 l2 = true) :
    Calls Try.prog 36 #[rp 23 0 pl nn a1 a2 l1 l2 c1 c2] w fun e w' => Nw w w' e (putA 23 0 pl nn ws bs) := by
  obtain ⟨z1, hz1⟩ : ∃ z1, z1 = w.alloc (.cells #[.int .i64 23, .int .i64 0, .int .i64 pl, .int .i64 nn, .slice a1 l1 c1, .slice a2 l2 c2] 34) := ⟨_, rfl⟩
  have HZ : Hid (z1 = _) := hz1
  have Bz : Below w.heap.size w z1 := by rw [hz1]; exact bel_alloc w _
  have Xz : Blk z1 w.heap.size 34 #[.int .i64 23, .int .i64 0, .int .i64 pl, .int .i64 nn, .slice a1 l1 c1, .slice a2 l2 c2] := by rw [hz1]; exact Blk.new w _ _
  have H1 : Hid (l1 = ws.length ∧ l2 = bs.length) := ⟨h1, h2⟩
  have S1 : Hid (SlI w a1 ws ∧ SlB w a2 bs) := ⟨s1, s2⟩
  obtain ⟨x0, x1, x2, x3, x4, x5⟩ := Xz.six
  have HOK : Hid (okA 23 0 pl nn ws l1 l2 = true) := hb
  have dz : Below z1.heap.size z1 z1.drew := (Below.refl _ _).drew
  clear h1 h2 s1 s2 hb hz1
  have HLn : Hid (1 ≤ l1 ∧ l1 ≤ 125) := by show 1 ≤ l1 ∧ l1 ≤ 125; have hb := HOK.out; simp [okA, okAK, kindB, inB, zr4] at hb; omega
  go_enter Try.func36, Try.ntmps36
  go_upto_region 1 with fail
  rw [← HZ.out]
  go_upto_region 10 with fail
  go_region_held3 (fun w' => w'.cell? ⟨w.heap.size, 0, none⟩ = some (.int .i64 23) ∧ w'.cell? ⟨w.heap.size, 4, none⟩ = some (.slice a1 l1 c1)) (go_keep)
    (first
      | (go_at_call 43; refine (putKind_0 23 _).mono ?_; rintro e wA ⟨gA, cA, nA, rfl, hnA, oA, bA⟩; have HnA : Hid _ := hnA; have BA := bel_next (w0 := w) (by first | exact Bz | exact Bz.drew) bA; have XA := Blk.below (by first | exact Xz | exact Xz.below dz) bA; have kA0 := XA.cell 0 rfl; have kA1 := XA.cell 4 rfl; clear hnA)
      | (go_at_call 45; refine (wordBytes_any _ _ _ ws _ H1.out.1 (S1.out.1.below BA) (by have := H1.out; have := HLn.out; omega) (by have := H1.out; have := HLn.out; omega)).mono ?_; rintro e wP ⟨gP, cP, nP, rfl, hnP, oP, bP⟩; have HnP : Hid _ := hnP; have BP := bel_next BA bP; have XP := XA.below bP; have kP0 := XP.cell 0 rfl; have kP1 := XP.cell 4 rfl; clear hnP)
      | (go_at_call 42; refine (putCounted_any _ _ _ _ _ _ [23 % 256] (wbs ws) _ HnA.out HnP.out (oA.below bP).sl.2 oP.sl.2 (by have := HnA.out; simp at this; omega) (by have := HnP.out; have := HLn.out; have := H1.out; rw [wbs_length] at *; omega)).mono ?_; rintro e w3 h3; have X3 := XP.below h3.bel; have k30 := X3.cell 0 rfl; have k31 := X3.cell 4 rfl; replace h3 := nw_next BP h3; obtain ⟨g, c, n, rfl, h4⟩ := h3; have H3 : Hid _ := h4; clear h4))
  all_goals (go_wp2; go_ret; have e3 : [23 % 256] ++ [(nP : Int) % 256] ++ wbs ws = putA 23 0 pl nn ws bs := (by rw [HnP.out, wbs_length]; rfl); rw [← e3]; exact ⟨g, c, n, rfl, H3.out⟩)
set_option maxRecDepth 20000 in
set_option maxHeartbeats 8000000 in
theorem putAnsF_1 (fl pl nn : Int) (a1 a2 : Option Addr) (l1 l2 c1 c2 : Nat) (ws : List Int) (bs : List Bool) (w : World) (h1 : l1 = ws.length) (h2 : l2 = bs.length) (s1 : SlI w a1 ws) (s2 : SlB w a2 bs) (hl1 : ws.length ≤ 2000000) (hl2 : bs.length ≤ 2000000) (hb : okA 1 fl pl nn ws l1 l2 = true) (h0 : ¬ fl = 0) :
    Calls Try.prog 36 #[rp 1 fl pl nn a1 a2 l1 l2 c1 c2] w fun e w' => Nw w w' e (putA 1 fl pl nn ws bs) := by
  obtain ⟨z1, hz1⟩ : ∃ z1, z1 = w.alloc (.cells #[.int .i64 1, .int .i64 fl, .int .i64 pl, .int .i64 nn, .slice a1 l1 c1, .slice a2 l2 c2] 34) := ⟨_, rfl⟩
  have HZ : Hid (z1 = _) := hz1
  have Bz : Below w.heap.size w z1 := by rw [hz1]; exact bel_alloc w _
  have Xz : Blk z1 w.heap.size 34 #[.int .i64 1, .int .i64 fl, .int .i64 pl, .int .i64 nn, .slice a1 l1 c1, .slice a2 l2 c2] := by rw [hz1]; exact Blk.new w _ _
  have H1 : Hid (l1 = ws.length ∧ l2 = bs.length) := ⟨h1, h2⟩
  have S1 : Hid (SlI w a1 ws ∧ SlB w a2 bs) := ⟨s1, s2⟩
  obtain ⟨x0, x1, x2, x3, x4, x5⟩ := Xz.six
  have HOK : Hid (okA 1 fl pl nn ws l1 l2 = true) := hb
  have dz : Below z1.heap.size z1 z1.drew := (Below.refl _ _).drew
  clear h1 h2 s1 s2 hb hz1
  have hp : 0 < fl ∧ fl ≤ 255 := by have hb := HOK.out; simp [okA, kindB, inB] at hb; omega
  have hf : fl % 256 = fl := by omega
  have hor : bits .or .i64 1 128 = 129 := by decide +kernel
  have o1 := own_lit2 z1 129 fl w.heap.size Bz.size
  have B2 := bel_next Bz (bel_alloc z1 (.cells #[.int .u8 129, .int .u8 fl] 5))
  have R : Hid (Nw w (z1.alloc (.cells #[.int .u8 129, .int .u8 fl] 5)) (.returned (.slice (some ⟨z1.heap.size, 0, none⟩) 2 2)) (putA 1 fl pl nn ws bs)) := by show Nw _ _ _ _; have e : putA 1 fl pl nn ws bs = [129, fl] := (by unfold putA; rw [if_neg h0]; rfl); rw [e]; exact ⟨_, _, 2, rfl, rfl, o1, B2⟩
  clear o1 B2 hp
  go_enter Try.func36, Try.ntmps36
  go_upto_region 1 with fail
  rw [← HZ.out]
  go_wp2
  go_ret
  simp only [hf]
  exact R.out
set_option maxRecDepth 20000 in
set_option maxHeartbeats 8000000 in
theorem putAnsF_2 (fl pl nn : Int) (a1 a2 : Option Addr) (l1 l2 c1 c2 : Nat) (ws : List Int) (bs : List Bool) (w : World) (h1 : l1 = ws.length) (h2 : l2 = bs.length) (s1 : SlI w a1 ws) (s2 : SlB w a2 bs) (hl1 : ws.length ≤ 2000000) (hl2 : bs.length ≤ 2000000) (hb : okA 2 fl pl nn ws l1 l2 = true) (h0 : ¬ fl = 0) :
    Calls Try.prog 36 #[rp 2 fl pl nn a1 a2 l1 l2 c1 c2] w fun e w' => Nw w w' e (putA 2 fl pl nn ws bs) := by
  obtain ⟨z1, hz1⟩ : ∃ z1, z1 = w.alloc (.cells #[.int .i64 2, .int .i64 fl, .int .i64 pl, .int .i64 nn, .slice a1 l1 c1, .slice a2 l2 c2] 34) := ⟨_, rfl⟩
  have HZ : Hid (z1 = _) := hz1
  have Bz : Below w.heap.size w z1 := by rw [hz1]; exact bel_alloc w _
  have Xz : Blk z1 w.heap.size 34 #[.int .i64 2, .int .i64 fl, .int .i64 pl, .int .i64 nn, .slice a1 l1 c1, .slice a2 l2 c2] := by rw [hz1]; exact Blk.new w _ _
  have H1 : Hid (l1 = ws.length ∧ l2 = bs.length) := ⟨h1, h2⟩
  have S1 : Hid (SlI w a1 ws ∧ SlB w a2 bs) := ⟨s1, s2⟩
  obtain ⟨x0, x1, x2, x3, x4, x5⟩ := Xz.six
  have HOK : Hid (okA 2 fl pl nn ws l1 l2 = true) := hb
  have dz : Below z1.heap.size z1 z1.drew := (Below.refl _ _).drew
  clear h1 h2 s1 s2 hb hz1
  have hp : 0 < fl ∧ fl ≤ 255 := by have hb := HOK.out; simp [okA, kindB, inB] at hb; omega
  have hf : fl % 256 = fl := by omega
  have hor : bits .or .i64 2 128 = 130 := by decide +kernel
  have o1 := own_lit2 z1 130 fl w.heap.size Bz.size
  have B2 := bel_next Bz (bel_alloc z1 (.cells #[.int .u8 130, .int .u8 fl] 5))
  have R : Hid (Nw w (z1.alloc (.cells #[.int .u8 130, .int .u8 fl] 5)) (.returned (.slice (some ⟨z1.heap.size, 0, none⟩) 2 2)) (putA 2 fl pl nn ws bs)) := by show Nw _ _ _ _; have e : putA 2 fl pl nn ws bs = [130, fl] := (by unfold putA; rw [if_neg h0]; rfl); rw [e]; exact ⟨_, _, 2, rfl, rfl, o1, B2⟩
  clear o1 B2 hp
  go_enter Try.func36, Try.ntmps36
  go_upto_region 1 with fail
  rw [← HZ.out]
  go_wp2
  go_ret
  simp only [hf]
  exact R.out
set_option maxRecDepth 20000 in
set_option maxHeartbeats 8000000 in
theorem putAnsF_3 (fl pl nn : Int) (a1 a2 : Option Addr) (l1 l2 c1 c2 : Nat) (ws : List Int) (bs : List Bool) (w : World) (h1 : l1 = ws.length) (h2 : l2 = bs.length) (s1 : SlI w a1 ws) (s2 : SlB w a2 bs) (hl1 : ws.length ≤ 2000000) (hl2 : bs.length ≤ 2000000) (hb : okA 3 fl pl nn ws l1 l2 = true) (h0 : ¬ fl = 0) :
    Calls Try.prog 36 #[rp 3 fl pl nn a1 a2 l1 l2 c1 c2] w fun e w' => Nw w w' e (putA 3 fl pl nn ws bs) := by
  obtain ⟨z1, hz1⟩ : ∃ z1, z1 = w.alloc (.cells #[.int .i64 3, .int .i64 fl, .int .i64 pl, .int .i64 nn, .slice a1 l1 c1, .slice a2 l2 c2] 34) := ⟨_, rfl⟩
  have HZ : Hid (z1 = _) := hz1
  have Bz : Below w.heap.size w z1 := by rw [hz1]; exact bel_alloc w _
  have Xz : Blk z1 w.heap.size 34 #[.int .i64 3, .int .i64 fl, .int .i64 pl, .int .i64 nn, .slice a1 l1 c1, .slice a2 l2 c2] := by rw [hz1]; exact Blk.new w _ _
  have H1 : Hid (l1 = ws.length ∧ l2 = bs.length) := ⟨h1, h2⟩
  have S1 : Hid (SlI w a1 ws ∧ SlB w a2 bs) := ⟨s1, s2⟩
  obtain ⟨x0, x1, x2, x3, x4, x5⟩ := Xz.six
  have HOK : Hid (okA 3 fl pl nn ws l1 l2 = true) := hb
  have dz : Below z1.heap.size z1 z1.drew := (Below.refl _ _).drew
  clear h1 h2 s1 s2 hb hz1
  have hp : 0 < fl ∧ fl ≤ 255 := by have hb := HOK.out; simp [okA, kindB, inB] at hb; omega
  have hf : fl % 256 = fl := by omega
  have hor : bits .or .i64 3 128 = 131 := by decide +kernel
  have o1 := own_lit2 z1 131 fl w.heap.size Bz.size
  have B2 := bel_next Bz (bel_alloc z1 (.cells #[.int .u8 131, .int .u8 fl] 5))
  have R : Hid (Nw w (z1.alloc (.cells #[.int .u8 131, .int .u8 fl] 5)) (.returned (.slice (some ⟨z1.heap.size, 0, none⟩) 2 2)) (putA 3 fl pl nn ws bs)) := by show Nw _ _ _ _; have e : putA 3 fl pl nn ws bs = [131, fl] := (by unfold putA; rw [if_neg h0]; rfl); rw [e]; exact ⟨_, _, 2, rfl, rfl, o1, B2⟩
  clear o1 B2 hp
  go_enter Try.func36, Try.ntmps36
  go_upto_region 1 with fail
  rw [← HZ.out]
  go_wp2
  go_ret
  simp only [hf]
  exact R.out
set_option maxRecDepth 20000 in
set_option maxHeartbeats 8000000 in
theorem putAnsF_4 (fl pl nn : Int) (a1 a2 : Option Addr) (l1 l2 c1 c2 : Nat) (ws : List Int) (bs : List Bool) (w : World) (h1 : l1 = ws.length) (h2 : l2 = bs.length) (s1 : SlI w a1 ws) (s2 : SlB w a2 bs) (hl1 : ws.length ≤ 2000000) (hl2 : bs.length ≤ 2000000) (hb : okA 4 fl pl nn ws l1 l2 = true) (h0 : ¬ fl = 0) :
    Calls Try.prog 36 #[rp 4 fl pl nn a1 a2 l1 l2 c1 c2] w fun e w' => Nw w w' e (putA 4 fl pl nn ws bs) := by
  obtain ⟨z1, hz1⟩ : ∃ z1, z1 = w.alloc (.cells #[.int .i64 4, .int .i64 fl, .int .i64 pl, .int .i64 nn, .slice a1 l1 c1, .slice a2 l2 c2] 34) := ⟨_, rfl⟩
  have HZ : Hid (z1 = _) := hz1
  have Bz : Below w.heap.size w z1 := by rw [hz1]; exact bel_alloc w _
  have Xz : Blk z1 w.heap.size 34 #[.int .i64 4, .int .i64 fl, .int .i64 pl, .int .i64 nn, .slice a1 l1 c1, .slice a2 l2 c2] := by rw [hz1]; exact Blk.new w _ _
  have H1 : Hid (l1 = ws.length ∧ l2 = bs.length) := ⟨h1, h2⟩
  have S1 : Hid (SlI w a1 ws ∧ SlB w a2 bs) := ⟨s1, s2⟩
  obtain ⟨x0, x1, x2, x3, x4, x5⟩ := Xz.six
  have HOK : Hid (okA 4 fl pl nn ws l1 l2 = true) := hb
  have dz : Below z1.heap.size z1 z1.drew := (Below.refl _ _).drew
  clear h1 h2 s1 s2 hb hz1
  have hp : 0 < fl ∧ fl ≤ 255 := by have hb := HOK.out; simp [okA, kindB, inB] at hb; omega
  have hf : fl % 256 = fl := by omega
  have hor : bits .or .i64 4 128 = 132 := by decide +kernel
  have o1 := own_lit2 z1 132 fl w.heap.size Bz.size
  have B2 := bel_next Bz (bel_alloc z1 (.cells #[.int .u8 132, .int .u8 fl] 5))
  have R : Hid (Nw w (z1.alloc (.cells #[.int .u8 132, .int .u8 fl] 5)) (.returned (.slice (some ⟨z1.heap.size, 0, none⟩) 2 2)) (putA 4 fl pl nn ws bs)) := by show Nw _ _ _ _; have e : putA 4 fl pl nn ws bs = [132, fl] := (by unfold putA; rw [if_neg h0]; rfl); rw [e]; exact ⟨_, _, 2, rfl, rfl, o1, B2⟩
  clear o1 B2 hp
  go_enter Try.func36, Try.ntmps36
  go_upto_region 1 with fail
  rw [← HZ.out]
  go_wp2
  go_ret
  simp only [hf]
  exact R.out
set_option maxRecDepth 20000 in
set_option maxHeartbeats 8000000 in
theorem putAnsF_5 (fl pl nn : Int) (a1 a2 : Option Addr) (l1 l2 c1 c2 : Nat) (ws : List Int) (bs : List Bool) (w : World) (h1 : l1 = ws.length) (h2 : l2 = bs.length) (s1 : SlI w a1 ws) (s2 : SlB w a2 bs) (hl1 : ws.length ≤ 2000000) (hl2 : bs.length ≤ 2000000) (hb : okA 5 fl pl nn ws l1 l2 = true) (h0 : ¬ fl = 0) :
    Calls Try.prog 36 #[rp 5 fl pl nn a1 a2 l1 l2 c1 c2] w fun e w' => Nw w w' e (putA 5 fl pl nn ws bs) := by
  obtain ⟨z1, hz1⟩ : ∃ z1, z1 = w.alloc (.cells #[.int .i64 5, .int .i64 fl, .int .i64 pl, .int .i64 nn, .slice a1 l1 c1, .slice a2 l2 c2] 34) := ⟨_, rfl⟩
  have HZ : Hid (z1 = _) := hz1
  have Bz : Below w.heap.size w z1 := by rw [hz1]; exact bel_alloc w _
  have Xz : Blk z1 w.heap.size 34 #[.int .i64 5, .int .i64 fl, .int .i64 pl, .int .i64 nn, .slice a1 l1 c1, .slice a2 l2 c2] := by rw [hz1]; exact Blk.new w _ _
  have H1 : Hid (l1 = ws.length ∧ l2 = bs.length) := ⟨h1, h2⟩
  have S1 : Hid (SlI w a1 ws ∧ SlB w a2 bs) := ⟨s1, s2⟩
  obtain ⟨x0, x1, x2, x3, x4, x5⟩ := Xz.six
  have HOK : Hid (okA 5 fl pl nn ws l1 l2 = true) := hb
  have dz : Below z1.heap.size z1 z1.drew := (Below.refl _ _).drew
  clear h1 h2 s1 s2 hb hz1
  have hp : 0 < fl ∧ fl ≤ 255 := by have hb := HOK.out; simp [okA, kindB, inB] at hb; omega
  have hf : fl % 256 = fl := by omega
  have hor : bits .or .i64 5 128 = 133 := by decide +kernel
  have o1 := own_lit2 z1 133 fl w.heap.size Bz.size
  have B2 := bel_next Bz (bel_alloc z1 (.cells #[.int .u8 133, .int .u8 fl] 5))
  have R : Hid (Nw w (z1.alloc (.cells #[.int .u8 133, .int .u8 fl] 5)) (.returned (.slice (some ⟨z1.heap.size, 0, none⟩) 2 2)) (putA 5 fl pl nn ws bs)) := by show Nw _ _ _ _; have e : putA 5 fl pl nn ws bs = [133, fl] := (by unfold putA; rw [if_neg h0]; rfl); rw [e]; exact ⟨_, _, 2, rfl, rfl, o1, B2⟩
  clear o1 B2 hp
  go_enter Try.func36, Try.ntmps36
  go_upto_region 1 with fail
  rw [← HZ.out]
  go_wp2
  go_ret
  simp only [hf]
  exact R.out
set_option maxRecDepth 20000 in
set_option maxHeartbeats 8000000 in
theorem putAnsF_6 (fl pl nn : Int) (a1 a2 : Option Addr) (l1 l2 c1 c2 : Nat) (ws : List Int) (bs : List Bool) (w : World) (h1 : l1 = ws.length) (h2 : l2 = bs.length) (s1 : SlI w a1 ws) (s2 : SlB w a2 bs) (hl1 : ws.length ≤ 2000000) (hl2 : bs.length ≤ 2000000) (hb : okA 6 fl pl nn ws l1 l2 = true) (h0 : ¬ fl = 0) :
    Calls Try.prog 36 #[rp 6 fl pl nn a1 a2 l1 l2 c1 c2] w fun e w' => Nw w w' e (putA 6 fl pl nn ws bs) := by
  obtain ⟨z1, hz1⟩ : ∃ z1, z1 = w.alloc (.cells #[.int .i64 6, .int .i64 fl, .int .i64 pl, .int .i64 nn, .slice a1 l1 c1, .slice a2 l2 c2] 34) := ⟨_, rfl⟩
  have HZ : Hid (z1 = _) := hz1
  have Bz : Below w.heap.size w z1 := by rw [hz1]; exact bel_alloc w _
  have Xz : Blk z1 w.heap.size 34 #[.int .i64 6, .int .i64 fl, .int .i64 pl, .int .i64 nn, .slice a1 l1 c1, .slice a2 l2 c2] := by rw [hz1]; exact Blk.new w _ _
  have H1 : Hid (l1 = ws.length ∧ l2 = bs.length) := ⟨h1, h2⟩
  have S1 : Hid (SlI w a1 ws ∧ SlB w a2 bs) := ⟨s1, s2⟩
  obtain ⟨x0, x1, x2, x3, x4, x5⟩ := Xz.six
  have HOK : Hid (okA 6 fl pl nn ws l1 l2 = true) := hb
  have dz : Below z1.heap.size z1 z1.drew := (Below.refl _ _).drew
  clear h1 h2 s1 s2 hb hz1
  have hp : 0 < fl ∧ fl ≤ 255 := by have hb := HOK.out; simp [okA, kindB, inB] at hb; omega
  have hf : fl % 256 = fl := by omega
  have hor : bits .or .i64 6 128 = 134 := by decide +kernel
  have o1 := own_lit2 z1 134 fl w.heap.size Bz.size
  have B2 := bel_next Bz (bel_alloc z1 (.cells #[.int .u8 134, .int .u8 fl] 5))
  have R : Hid (Nw w (z1.alloc (.cells #[.int .u8 134, .int .u8 fl] 5)) (.returned (.slice (some ⟨z1.heap.size, 0, none⟩) 2 2)) (putA 6 fl pl nn ws bs)) := by show Nw _ _ _ _; have e : putA 6 fl pl nn ws bs = [134, fl] := (by unfold putA; rw [if_neg h0]; rfl); rw [e]; exact ⟨_, _, 2, rfl, rfl, o1, B2⟩
  clear o1 B2 hp
  go_enter Try.func36, Try.ntmps36
  go_upto_region 1 with fail
  rw [← HZ.out]
  go_wp2
  go_ret
  simp only [hf]
  exact R.out
set_option maxRecDepth 20000 in
set_option maxHeartbeats 8000000 in
theorem putAnsF_15 (fl pl nn : Int) (a1 a2 : Option Addr) (l1 l2 c1 c2 : Nat) (ws : List Int) (bs : List Bool) (w : World) (h1 : l1 = ws.length) (h2 : l2 = bs.length) (s1 : SlI w a1 ws) (s2 : SlB w a2 bs) (hl1 : ws.length ≤ 2000000) (hl2 : bs.length ≤ 2000000) (hb : okA 15 fl pl nn ws l1 l2 = true) (h0 : ¬ fl = 0) :
    Calls Try.prog 36 #[rp 15 fl pl nn a1 a2 l1 l2 c1 c2] w fun e w' => Nw w w' e (putA 15 fl pl nn ws bs) := by
  obtain ⟨z1, hz1⟩ : ∃ z1, z1 = w.alloc (.cells #[.int .i64 15, .int .i64 fl, .int .i64 pl, .int .i64 nn, .slice a1 l1 c1, .slice a2 l2 c2] 34) := ⟨_, rfl⟩
  have HZ : Hid (z1 = _) := hz1
  have Bz : Below w.heap.size w z1 := by rw [hz1]; exact bel_alloc w _
  have Xz : Blk z1 w.heap.size 34 #[.int .i64 15, .int .i64 fl, .int .i64 pl, .int .i64 nn, .slice a1 l1 c1, .slice a2 l2 c2] := by rw [hz1]; exact Blk.new w _ _
  have H1 : Hid (l1 = ws.length ∧ l2 = bs.length) := ⟨h1, h2⟩
  have S1 : Hid (SlI w a1 ws ∧ SlB w a2 bs) := ⟨s1, s2⟩
  obtain ⟨x0, x1, x2, x3, x4, x5⟩ := Xz.six
  have HOK : Hid (okA 15 fl pl nn ws l1 l2 = true) := hb
  have dz : Below z1.heap.size z1 z1.drew := (Below.refl _ _).drew
  clear h1 h2 s1 s2 hb hz1
  have hp : 0 < fl ∧ fl ≤ 255 := by have hb := HOK.out; simp [okA, kindB, inB] at hb; omega
  have hf : fl % 256 = fl := by omega
  have hor : bits .or .i64 15 128 = 143 := by decide +kernel
  have o1 := own_lit2 z1 143 fl w.heap.size Bz.size
  have B2 := bel_next Bz (bel_alloc z1 (.cells #[.int .u8 143, .int .u8 fl] 5))
  have R : Hid (Nw w (z1.alloc (.cells #[.int .u8 143, .int .u8 fl] 5)) (.returned (.slice (some ⟨z1.heap.size, 0, none⟩) 2 2)) (putA 15 fl pl nn ws bs)) := by show Nw _ _ _ _; have e : putA 15 fl pl nn ws bs = [143, fl] := (by unfold putA; rw [if_neg h0]; rfl); rw [e]; exact ⟨_, _, 2, rfl, rfl, o1, B2⟩
  clear o1 B2 hp
  go_enter Try.func36, Try.ntmps36
  go_upto_region 1 with fail
  rw [← HZ.out]
  go_wp2
  go_ret
  simp only [hf]
  exact R.out
set_option maxRecDepth 20000 in
set_option maxHeartbeats 8000000 in
theorem putAnsF_16 (fl pl nn : Int) (a1 a2 : Option Addr) (l1 l2 c1 c2 : Nat) (ws : List Int) (bs : List Bool) (w : World) (h1 : l1 = ws.length) (h2 : l2 = bs.length) (s1 : SlI w a1 ws) (s2 : SlB w a2 bs) (hl1 : ws.length ≤ 2000000) (hl2 : bs.length ≤ 2000000) (hb : okA 16 fl pl nn ws l1 l2 = true) (h0 : ¬ fl = 0) :
    Calls Try.prog 36 #[rp 16 fl pl nn a1 a2 l1 l2 c1 c2] w fun e w' => Nw w w' e (putA 16 fl pl nn ws bs) := by
  obtain ⟨z1, hz1⟩ : ∃ z1, z1 = w.alloc (.cells #[.int .i64 16, .int .i64 fl, .int .i64 pl, .int .i64 nn, .slice a1 l1 c1, .slice a2 l2 c2] 34) := ⟨_, rfl⟩
  have HZ : Hid (z1 = _) := hz1
  have Bz : Below w.heap.size w z1 := by rw [hz1]; exact bel_alloc w _
  have Xz : Blk z1 w.heap.size 34 #[.int .i64 16, .int .i64 fl, .int .i64 pl, .int .i64 nn, .slice a1 l1 c1, .slice a2 l2 c2] := by rw [hz1]; exact Blk.new w _ _
  have H1 : Hid (l1 = ws.length ∧ l2 = bs.length) := ⟨h1, h2⟩
  have S1 : Hid (SlI w a1 ws ∧ SlB w a2 bs) := ⟨s1, s2⟩
  obtain ⟨x0, x1, x2, x3, x4, x5⟩ := Xz.six
  have HOK : Hid (okA 16 fl pl nn ws l1 l2 = true) := hb
  have dz : Below z1.heap.size z1 z1.drew := (Below.refl _ _).drew
  clear h1 h2 s1 s2 hb hz1
  have hp : 0 < fl ∧ fl ≤ 255 := by have hb := HOK.out; simp [okA, kindB, inB] at hb; omega
  have hf : fl % 256 = fl := by omega
  have hor : bits .or .i64 16 128 = 144 := by decide +kernel
  have o1 := own_lit2 z1 144 fl w.heap.size Bz.size
  have B2 := bel_next Bz (bel_alloc z1 (.cells #[.int .u8 144, .int .u8 fl] 5))
  have R : Hid (Nw w (z1.alloc (.cells #[.int .u8 144, .int .u8 fl] 5)) (.returned (.slice (some ⟨z1.heap.size, 0, none⟩) 2 2)) (putA 16 fl pl nn ws bs)) := by show Nw _ _ _ _; have e : putA 16 fl pl nn ws bs = [144, fl] := (by unfold putA; rw [if_neg h0]; rfl); rw [e]; exact ⟨_, _, 2, rfl, rfl, o1, B2⟩
  clear o1 B2 hp
  go_enter Try.func36, Try.ntmps36
  go_upto_region 1 with fail
  rw [← HZ.out]
  go_wp2
  go_ret
  simp only [hf]
  exact R.out
set_option maxRecDepth 20000 in
set_option maxHeartbeats 8000000 in
theorem putAnsF_22 (fl pl nn : Int) (a1 a2 : Option Addr) (l1 l2 c1 c2 : Nat) (ws : List Int) (bs : List Bool) (w : World) (h1 : l1 = ws.length) (h2 : l2 = bs.length) (s1 : SlI w a1 ws) (s2 : SlB w a2 bs) (hl1 : ws.length ≤ 2000000) (hl2 : bs.length ≤ 2000000) (hb : okA 22 fl pl nn ws l1 l2 = true) (h0 : ¬ fl = 0) :
    Calls Try.prog 36 #[rp 22 fl pl nn a1 a2 l1 l2 c1 c2] w fun e w' => Nw w w' e (putA 22 fl pl nn ws bs) := by
  obtain ⟨z1, hz1⟩ : ∃ z1, z1 = w.alloc (.cells #[.int .i64 22, .int .i64 fl, .int .i64 pl, .int .i64 nn, .slice a1 l1 c1, .slice a2 l2 c2] 34) := ⟨_, rfl⟩
  have HZ : Hid (z1 = _) := hz1
  have Bz : Below w.heap.size w z1 := by rw [hz1]; exact bel_alloc w _
  have Xz : Blk z1 w.heap.size 34 #[.int .i64 22, .int .i64 fl, .int .i64 pl, .int .i64 nn, .slice a1 l1 c1, .slice a2 l2 c2] := by rw [hz1]; exact Blk.new w _ _
  have H1 : Hid (l1 = ws.length ∧ l2 = bs.length) := ⟨h1, h2⟩
  have S1 : Hid (SlI w a1 ws ∧ SlB w a2 bs) := ⟨s1, s2⟩
  obtain ⟨x0, x1, x2, x3, x4, x5⟩ := Xz.six
  have HOK : Hid (okA 22 fl pl nn ws l1 l2 = true) := hb
  have dz : Below z1.heap.size z1 z1.drew := (Below.refl _ _).drew
  clear h1 h2 s1 s2 hb hz1
  have hp : 0 < fl ∧ fl ≤ 255 := by have hb := HOK.out; simp [okA, kindB, inB] at hb; omega
  have hf : fl % 256 = fl := by omega
  have hor : bits .or .i64 22 128 = 150 := by decide +kernel
  have o1 := own_lit2 z1 150 fl w.heap.size Bz.size
  have B2 := bel_next Bz (bel_alloc z1 (.cells #[.int .u8 150, .int .u8 fl] 5))
  have R : Hid (Nw w (z1.alloc (.cells #[.int .u8 150, .int .u8 fl] 5)) (.returned (.slice (some ⟨z1.heap.size, 0, none⟩) 2 2)) (putA 22 fl pl nn ws bs)) := by show Nw _ _ _ _; have e : putA 22 fl pl nn ws bs = [150, fl] := (by unfold putA; rw [if_neg h0]; rfl); rw [e]; exact ⟨_, _, 2, rfl, rfl, o1, B2⟩
  clear o1 B2 hp
  go_enter Try.func36, Try.ntmps36
  go_upto_region 1 with fail
  rw [← HZ.out]
  go_wp2
  go_ret
  simp only [hf]
  exact R.out
set_option maxRecDepth 20000 in
set_option maxHeartbeats 8000000 in
theorem putAnsF_23 (fl pl nn : Int) (a1 a2 : Option Addr) (l1 l2 c1 c2 : Nat) (ws : List Int) (bs : List Bool) (w : World) (h1 : l1 = ws.length) (h2 : l2 = bs.length) (s1 : SlI w a1 ws) (s2 : SlB w a2 bs) (hl1 : ws.length ≤ 2000000) (hl2 : bs.length ≤ 2000000) (hb : okA 23 fl pl nn ws l1 l2 = true) (h0 : ¬ fl = 0) :
    Calls Try.prog 36 #[rp 23 fl pl nn a1 a2 l1 l2 c1 c2] w fun e w' => Nw w w' e (putA 23 fl pl nn ws bs) := by
  obtain ⟨z1, hz1⟩ : ∃ z1, z1 = w.alloc (.cells #[.int .i64 23, .int .i64 fl, .int .i64 pl, .int .i64 nn, .slice a1 l1 c1, .slice a2 l2 c2] 34) := ⟨_, rfl⟩
  have HZ : Hid (z1 = _) := hz1
  have Bz : Below w.heap.size w z1 := by rw [hz1]; exact bel_alloc w _
  have Xz : Blk z1 w.heap.size 34 #[.int .i64 23, .int .i64 fl, .int .i64 pl, .int .i64 nn, .slice a1 l1 c1, .slice a2 l2 c2] := by rw [hz1]; exact Blk.new w _ _
  have H1 : Hid (l1 = ws.length ∧ l2 = bs.length) := ⟨h1, h2⟩
  have S1 : Hid (SlI w a1 ws ∧ SlB w a2 bs) := ⟨s1, s2⟩
  obtain ⟨x0, x1, x2, x3, x4, x5⟩ := Xz.six
  have HOK : Hid (okA 23 fl pl nn ws l1 l2 = true) := hb
  have dz : Below z1.heap.size z1 z1.drew := (Below.refl _ _).drew
  clear h1 h2 s1 s2 hb hz1
  have hp : 0 < fl ∧ fl ≤ 255 := by have hb := HOK.out; simp [okA, kindB, inB] at hb; omega
  have hf : fl % 256 = fl := by omega
  have hor : bits .or .i64 23 128 = 151 := by decide +kernel
  have o1 := own_lit2 z1 151 fl w.heap.size Bz.size
  have B2 := bel_next Bz (bel_alloc z1 (.cells #[.int .u8 151, .int .u8 fl] 5))
  have R : Hid (Nw w (z1.alloc (.cells #[.int .u8 151, .int .u8 fl] 5)) (.returned (.slice (some ⟨z1.heap.size, 0, none⟩) 2 2)) (putA 23 fl pl nn ws bs)) := by show Nw _ _ _ _; have e : putA 23 fl pl nn ws bs = [151, fl] := (by unfold putA; rw [if_neg h0]; rfl); rw [e]; exact ⟨_, _, 2, rfl, rfl, o1, B2⟩
  clear o1 B2 hp
  go_enter Try.func36, Try.ntmps36
  go_upto_region 1 with fail
  rw [← HZ.out]
  go_wp2
  go_ret
  simp only [hf]
  exact R.out
theorem putAns_q (kd fl pl nn : Int) (a1 a2 : Option Addr) (l1 l2 c1 c2 : Nat) (ws : List Int) (bs : List Bool) (w : World) (h1 : l1 = ws.length) (h2 : l2 = bs.length) (s1 : SlI w a1 ws) (s2 : SlB w a2 bs) (hl1 : ws.length ≤ 2000000) (hl2 : bs.length ≤ 2000000) (hb : okA kd fl pl nn ws l1 l2 = true) :
    Calls Try.prog 36 #[rp kd fl pl nn a1 a2 l1 l2 c1 c2] w fun e w' => Nw w w' e (putA kd fl pl nn ws bs) := by
  have hk : kindB kd = true := by unfold okA at hb; simp only [Bool.and_eq_true] at hb; exact hb.1
  by_cases h0 : fl = 0
  · subst h0
    obtain rfl | rfl | rfl | rfl | rfl | rfl | rfl | rfl | rfl | rfl := of_decide_eq_true hk
    · exact putAns_1 pl nn a1 a2 l1 l2 c1 c2 ws bs w h1 h2 s1 s2 hl1 hl2 hb
    · exact putAns_2 pl nn a1 a2 l1 l2 c1 c2 ws bs w h1 h2 s1 s2 hl1 hl2 hb
    · exact putAns_3 pl nn a1 a2 l1 l2 c1 c2 ws bs w h1 h2 s1 s2 hl1 hl2 hb
    · exact putAns_4 pl nn a1 a2 l1 l2 c1 c2 ws bs w h1 h2 s1 s2 hl1 hl2 hb
    · exact putAns_5 pl nn a1 a2 l1 l2 c1 c2 ws bs w h1 h2 s1 s2 hl1 hl2 hb
    · exact putAns_6 pl nn a1 a2 l1 l2 c1 c2 ws bs w h1 h2 s1 s2 hl1 hl2 hb
    · exact putAns_15 pl nn a1 a2 l1 l2 c1 c2 ws bs w h1 h2 s1 s2 hl1 hl2 hb
    · exact putAns_16 pl nn a1 a2 l1 l2 c1 c2 ws bs w h1 h2 s1 s2 hl1 hl2 hb
    · exact putAns_22 pl nn a1 a2 l1 l2 c1 c2 ws bs w h1 h2 s1 s2 hl1 hl2 hb
    · exact putAns_23 pl nn a1 a2 l1 l2 c1 c2 ws bs w h1 h2 s1 s2 hl1 hl2 hb
  · obtain rfl | rfl | rfl | rfl | rfl | rfl | rfl | rfl | rfl | rfl := of_decide_eq_true hk
    · exact putAnsF_1 fl pl nn a1 a2 l1 l2 c1 c2 ws bs w h1 h2 s1 s2 hl1 hl2 hb h0
    · exact putAnsF_2 fl pl nn a1 a2 l1 l2 c1 c2 ws bs w h1 h2 s1 s2 hl1 hl2 hb h0
    · exact putAnsF_3 fl pl nn a1 a2 l1 l2 c1 c2 ws bs w h1 h2 s1 s2 hl1 hl2 hb h0
    · exact putAnsF_4 fl pl nn a1 a2 l1 l2 c1 c2 ws bs w h1 h2 s1 s2 hl1 hl2 hb h0
    · exact putAnsF_5 fl pl nn a1 a2 l1 l2 c1 c2 ws bs w h1 h2 s1 s2 hl1 hl2 hb h0
    · exact putAnsF_6 fl pl nn a1 a2 l1 l2 c1 c2 ws bs w h1 h2 s1 s2 hl1 hl2 hb h0
    · exact putAnsF_15 fl pl nn a1 a2 l1 l2 c1 c2 ws bs w h1 h2 s1 s2 hl1 hl2 hb h0
    · exact putAnsF_16 fl pl nn a1 a2 l1 l2 c1 c2 ws bs w h1 h2 s1 s2 hl1 hl2 hb h0
    · exact putAnsF_22 fl pl nn a1 a2 l1 l2 c1 c2 ws bs w h1 h2 s1 s2 hl1 hl2 hb h0
    · exact putAnsF_23 fl pl nn a1 a2 l1 l2 c1 c2 ws bs w h1 h2 s1 s2 hl1 hl2 hb h0
set_option maxHeartbeats 4000000 in
theorem implPutA_q (kd fl pl nn : Int) (a1 a2 : Option Addr) (l1 l2 c1 c2 : Nat) (ws : List Int) (bs : List Bool) (w : World) (h1 : l1 = ws.length) (h2 : l2 = bs.length) (s1 : SlI w a1 ws) (s2 : SlB w a2 bs) (hl1 : ws.length ≤ 2000000) (hl2 : bs.length ≤ 2000000) :
    Calls Try.prog 22 #[rp kd fl pl nn a1 a2 l1 l2 c1 c2] w fun e w' => NwO w w' e (putAV (okA kd fl pl nn ws l1 l2) kd fl pl nn ws bs) := by
  have B0 := bel_alloc w (.cells #[.int .i64 kd, .int .i64 fl, .int .i64 pl, .int .i64 nn, .slice a1 l1 c1, .slice a2 l2 c2] 34)
  have X0 := Blk.new w #[.int .i64 kd, .int .i64 fl, .int .i64 pl, .int .i64 nn, .slice a1 l1 c1, .slice a2 l2 c2] 34
  have HS : Hid (SlI w a1 ws ∧ SlB w a2 bs) := ⟨s1, s2⟩
  have HL : Hid (l1 = ws.length ∧ l2 = bs.length) := ⟨h1, h2⟩
  obtain ⟨x0, x1, x2, x3, x4, x5⟩ := X0.six
  clear h1 h2 s1 s2
  go_enter Try.func22, Try.ntmps22
  go_wp2_with fail
  refine (implRespOk_q kd fl pl nn a1 a2 l1 l2 c1 c2 ws bs _ HL.out.1 HL.out.2 (HS.out.1.below B0) (HS.out.2.below B0) hl1 hl2).mono ?_
  rintro e w1 ⟨rfl, b'⟩
  have B1 := bel_next B0 b'
  have X1 := X0.below b'
  clear x0 x1 x2 x3 x4 x5 X0 B0 b'
  obtain ⟨x0, x1, x2, x3, x4, x5⟩ := X1.six
  cases hok : okA kd fl pl nn ws l1 l2
  · skip
    go_wp2
    go_ret
    exact ⟨none, 0, 0, rfl, by rw [hok]; rfl, by rw [hok]; exact ⟨rfl, .inl ⟨rfl, rfl⟩⟩, B1⟩
  · have HOK : Hid (okA kd fl pl nn ws l1 l2 = true) := hok
    clear hok
    go_wp2_with fail
    refine (putAns_q kd fl pl nn a1 a2 l1 l2 c1 c2 ws bs _ HL.out.1 HL.out.2 (HS.out.1.below B1) (HS.out.2.below B1) hl1 hl2 HOK.out).mono ?_
    rintro e w3 h3
    replace h3 := nw_next B1 h3
    obtain ⟨g, c, n, rfl, h4⟩ := h3
    have H3 : Hid _ := h4
    clear h4
    go_wp2
    go_ret
    rw [HOK.out]
    exact ⟨_, c, n, rfl, H3.out⟩
end Go.Proofs.Ytohikbpolofklaa
namespace Go.Proofs.Ytohikbpolofklaa
open Go.RowKit
theorem getD_eq {l : Array Bool} {i : Nat} (h : i < l.size) (x y : Bool) : l.getD i x = l.getD i y := by
  simp [Array.getD, h]
theorem count_set (l : List Bool) (i : Nat) (h : l[i]? = some false) : (l.set i true).count false + 1 = l.count false := by
  induction l generalizing i with
  | nil => simp at h
  | cons x r ih =>
    cases i with
    | zero => simp at h; subst h; simp
    | succ i => simp at h; have := ih i h; cases x <;> simp <;> omega
theorem ready_mem {md : Region.Mode} {ops : Array Oper} {l : Array Bool} {i : Nat} (h : i ∈ Region.ready md ops l) :
    i < ops.size ∧ l.getD i true = false ∧ ∀ o, ops[i]? = some o → ∀ e ∈ o.after, Region.binds md e = true → l.getD e.on false = true := by
  unfold Region.ready at h
  rw [List.mem_filter] at h
  obtain ⟨h1, h2⟩ := h
  simp only [Bool.and_eq_true, Bool.not_eq_true'] at h2
  refine ⟨List.mem_range.1 h1, h2.1, fun o ho e he hb => ?_⟩
  have h3 := h2.2
  rw [ho] at h3
  simp only [Option.map_some, Option.getD_some, Array.all_eq_true_iff_forall_mem] at h3
  have h4 := h3 e he
  simpa [hb] using h4
theorem ready_of {md : Region.Mode} {ops : Array Oper} {l : Array Bool} {i : Nat} {o : Oper} (hi : i < ops.size) (ho : ops[i]? = some o) (hl : l.getD i true = false) (hd : ∀ e ∈ o.after, Region.binds md e = true → l.getD e.on false = true) : i ∈ Region.ready md ops l := by
  unfold Region.ready
  rw [List.mem_filter]
  refine ⟨List.mem_range.2 hi, ?_⟩
  simp only [Bool.and_eq_true, Bool.not_eq_true']
  refine ⟨hl, ?_⟩
  rw [ho]
  simp only [Option.map_some, Option.getD_some, Array.all_eq_true_iff_forall_mem]
  intro e he
  cases hb : Region.binds md e
  · rfl
  · simpa using hd e he hb
def ordB (md : Region.Mode) (ops : Array Oper) : Bool := (List.range ops.size).all fun i => ((ops[i]?).map (·.after.all fun e => !Region.binds md e || decide (e.on < i))).getD true
theorem ordB_of {md : Region.Mode} {ops : Array Oper} (h : ordB md ops = true) : ∀ i o, ops[i]? = some o → ∀ e ∈ o.after, Region.binds md e = true → e.on < i := by
  intro i o ho e he hb
  unfold ordB at h
  rw [List.all_eq_true] at h
  have hi : i < ops.size := (Array.getElem?_eq_some_iff.1 ho).1
  have h1 := h i (List.mem_range.2 hi)
  rw [ho] at h1
  simp only [Option.map_some, Option.getD_some, Array.all_eq_true_iff_forall_mem] at h1
  have h2 := h1 e he
  simpa [hb] using h2
theorem wpAny_inv {P : Program} {ops : Array Oper} {Q : Exit → Act → World → Prop} {md : Region.Mode} (Inv : Array Bool → Act → World → Prop)
    (hordB : ordB md ops = true)
    (hend : ∀ l a w, Inv l a w → (∀ i, i < ops.size → l.getD i true = true) → Q .normal a w)
    (hstep : ∀ l a w i o, Inv l a w → ops[i]? = some o → l.getD i true = false → (∀ e ∈ o.after, Region.binds md e = true → l.getD e.on false = true) →
      ∀ K : Act → World → Prop, (∀ a w, Inv (l.setIfInBounds i true) a w → K a w) → if Region.wanted o (yielded ops a.tmps) = true then Oper.wp P o a w K Q else K (a.put o.dst undef) w) :
    ∀ (fuel : Nat) (l : Array Bool) (a : Act) (w : World), l.size = ops.size → l.toList.count false ≤ fuel → Inv l a w → wpAny P md ops Q fuel l a w := by
  have hord := ordB_of hordB
  have hall : ∀ l : Array Bool, l.size = ops.size → Region.ready md ops l = [] → ∀ i, i < ops.size → l.getD i true = true := by
    intro l hs hr i
    induction i using Nat.strongRecOn with
    | ind i ih =>
      intro hi
      cases hl : l.getD i true
      · obtain ⟨o, ho⟩ : ∃ o, ops[i]? = some o := ⟨ops[i], by simp [hi]⟩
        have : i ∈ Region.ready md ops l := ready_of hi ho hl (fun e he hb => by
          have h1 := hord i o ho e he hb
          rw [getD_eq (by omega) false true]
          exact ih e.on h1 (by omega))
        rw [hr] at this
        simp at this
      · rfl
  intro fuel
  induction fuel with
  | zero =>
    intro l a w hs hc hI
    have hr : Region.ready md ops l = [] := by
      apply List.eq_nil_iff_forall_not_mem.2
      intro i hi
      obtain ⟨h1, h2, _⟩ := ready_mem hi
      have h3 : l.toList[i]? = some false := by
        have h4 : i < l.size := by omega
        rw [Array.getElem?_toList]
        simp [Array.getD, h4] at h2
        simp [h4, h2]
      have := count_set l.toList i h3
      omega
    exact ⟨hr, hend l a w hI (hall l hs hr)⟩
  | succ fuel ih =>
    intro l a w hs hc hI
    refine ⟨fun hr => hend l a w hI (hall l hs hr), fun i hi => ?_⟩
    obtain ⟨h1, h2, h3⟩ := ready_mem hi
    obtain ⟨o, ho⟩ : ∃ o, ops[i]? = some o := ⟨ops[i], by simp [h1]⟩
    refine wpOp_step ho (fun K' hK' => hstep l a w i o hI ho h2 (h3 o ho) K' (fun a' w' hI' => hK' a' w' (ih _ a' w' (by simpa using hs) ?_ hI')))
    have h4 : l.toList[i]? = some false := by
      have h5 : i < l.size := by omega
      rw [Array.getElem?_toList]
      simp [Array.getD, h5] at h2
      simp [h5, h2]
    have := count_set l.toList i h4
    rw [Array.toList_setIfInBounds]
    omega
end Go.Proofs.Ytohikbpolofklaa
namespace Go.Proofs.Ytohikbpolofklaa
open Go.RowKit
def dstOf (ops : Array Oper) (i : Nat) : Option Tmp := (ops[i]?).bind (·.dst)
def dstB (ops : Array Oper) (n : Nat) : Bool :=
  (List.range ops.size).all fun i => match dstOf ops i with
    | some d => decide (d < n) && (List.range ops.size).all fun j => decide (j = i) || decide (dstOf ops j ≠ some d)
    | none => false
def isDst (ops : Array Oper) (s : Nat) : Bool := (List.range ops.size).any fun i => decide (dstOf ops i = some s)
def putsL (a : Act) : Nat → List Oper → (Nat → Value) → Act
  | _, [], _ => a
  | i, o :: os, vs => putsL (a.put o.dst (vs i)) (i + 1) os vs
def wantV (ops : Array Oper) (o : Oper) (ρ : Operand → Value) : Bool :=
  match o.guard with
  | none => true
  | some (j, want) => match dstOf ops j with
    | some d => (match ρ (.tmp d) with | .bool b => b == want | _ => false)
    | none => false
def StpV (P : Program) (ops : Array Oper) (Φ : Nat → Value → World → Prop) (R : World → Prop) (i : Nat) (o : Oper) (ρ : Operand → Value) (u : World) : Prop :=
  (wantV ops o ρ = true ∧ ((∃ v u', (execOp ρ o).run P u = .ok (.value v) u' ∧ Φ i v u' ∧ R u' ∧ Below u.heap.size u u') ∨ (∃ f args, (execOp ρ o).run P u = .ok (.enter f args) u ∧ Calls P f args u fun e u' => ∃ v, e = .returned v ∧ Φ i v u' ∧ R u' ∧ Below u.heap.size u u')))
  ∨ (wantV ops o ρ = false ∧ Φ i undef u)
structure InvV (ops : Array Oper) (Φ : Nat → Value → World → Prop) (R : World → Prop) (a0 : Act) (l : Array Bool) (a : Act) (u : World) : Prop where
  r : R u
  ls : l.size = ops.size
  df : a.defers = a0.defers
  sz : a.tmps.size = a0.tmps.size
  old : ∀ s, (∀ i d, dstOf ops i = some d → l.getD i false = true → d ≠ s) → a.tmps.getD s undef = a0.tmps.getD s undef
  val : ∀ i d, dstOf ops i = some d → l.getD i false = true → Φ i (a.tmps.getD d undef) u
theorem getD_set {l : Array Bool} {i j : Nat} (hi : i < l.size) : (l.setIfInBounds i true).getD j false = if j = i then true else l.getD j false := by
  simp only [Array.getD_eq_getD_getElem?, Array.getElem?_setIfInBounds]
  by_cases e : j = i
  · subst e; simp [hi]
  · rw [if_neg (Ne.symm e), if_neg e]
theorem getD_put {a : Act} {d s : Nat} {v : Value} (hd : d < a.tmps.size) : (a.put (some d) v).tmps.getD s undef = if s = d then v else a.tmps.getD s undef := by
  show (a.tmps.setIfInBounds d v).getD s undef = _
  simp only [Array.getD_eq_getD_getElem?, Array.getElem?_setIfInBounds]
  by_cases e : s = d
  · subst e; simp [hd]
  · rw [if_neg (Ne.symm e), if_neg e]
theorem wanted_eq {ops : Array Oper} {a : Act} {o : Oper} (h : ∀ j d, dstOf ops j = some d → d < a.tmps.size) : Region.wanted o (yielded ops a.tmps) = wantV ops o a.eval := by
  unfold Region.wanted wantV
  cases o.guard with
  | none => rfl
  | some p =>
    obtain ⟨j, want⟩ := p
    have hy : yielded ops a.tmps j = match dstOf ops j with
        | some d => (match a.eval (.tmp d) with | .bool b => some b | _ => none)
        | none => none := by
      unfold yielded dstOf
      cases hd : (ops[j]?).bind (·.dst) with
      | none => rfl
      | some d =>
        have hlt := h j d hd
        have e : (some d).bind (fun t => a.tmps[t]?) = some (a.eval (.tmp d)) := by
          show a.tmps[d]? = some (a.tmps.getD d undef)
          simp [Array.getD, hlt]
        rw [e]
        simp only
        generalize a.eval (.tmp d) = x
        cases x <;> rfl
    show (yielded ops a.tmps j == some want) = (match dstOf ops j with
      | some d => (match a.eval (.tmp d) with | .bool b => b == want | _ => false)
      | none => false)
    rw [hy]
    cases dstOf ops j with
    | none => rfl
    | some d =>
      simp only
      generalize a.eval (.tmp d) = x
      cases x <;> simp
end Go.Proofs.Ytohikbpolofklaa
namespace Go.Proofs.Ytohikbpolofklaa
open Go.RowKit
theorem run_load_op {P : Program} {ρ : Operand → Value} {o : Oper} {u : World} {t : TypeId} {p : Operand} {ptr v : Value} (ho : o.op = .load t p) (hp : ρ p = ptr) (hr : (Instr.loadAt t ptr).run P u = .ok v u) : (execOp ρ o).run P u = .ok (.value v) u := by
  unfold execOp
  simp only [ho, hp]
  rw [Sem.run_bind, hr]
  rfl
theorem run_call_op {P : Program} {ρ : Operand → Value} {o : Oper} {u : World} {f : FuncId} {xs : Array Operand} {ts : Array TypeId} {args : Array Value} (ho : o.op = .call ⟨.value (.func f), xs, ts⟩) (hf : ρ (.func f) = .func (.func f) #[] #[]) (hx : xs.map ρ = args)
    (hc : (callFunc f args).run P u = .ok (.enter f args) u) : (execOp ρ o).run P u = .ok (.enter f args) u := by
  unfold execOp
  simp only [ho, resolve, hf, hx]
  show (callFunc f ((#[] ++ args) ++ #[])).run P u = _
  simpa using hc
end Go.Proofs.Ytohikbpolofklaa
namespace Go.Proofs.Ytohikbpolofklaa
open Go.RowKit
def dstC (ops : Array Oper) (n : Nat) : Bool :=
  (List.range ops.size).all fun i => match dstOf ops i with
    | some d => decide (d < n) && (List.range ops.size).all fun j => decide (j = i) || decide (dstOf ops j ≠ some d)
    | none => true
def updB (l : Nat → Bool) (i : Nat) : Nat → Bool := fun j => if j = i then true else l j
def StpW (P : Program) (ops : Array Oper) (Φ : Nat → Value → World → Prop) (R : World → Prop) (M : World → World → Prop) (i : Nat) (o : Oper) (ρ : Operand → Value) (u : World) : Prop :=
  (wantV ops o ρ = true ∧ ((∃ v u', (execOp ρ o).run P u = .ok (.value v) u' ∧ Φ i v u' ∧ R u' ∧ M u u') ∨ (∃ f args, (execOp ρ o).run P u = .ok (.enter f args) u ∧ Calls P f args u fun e u' => ∃ v, e = .returned v ∧ Φ i v u' ∧ R u' ∧ M u u') ∨ (o.dst = none ∧ ∃ u', (execOp ρ o).run P u = .ok .skip u' ∧ R u' ∧ M u u')))
  ∨ (wantV ops o ρ = false ∧ Φ i undef u ∧ R u)
structure InvW (md : Region.Mode) (ops : Array Oper) (Φ : Nat → Value → World → Prop) (R : (Nat → Bool) → World → Prop) (a0 : Act) (l : Array Bool) (a : Act) (u : World) : Prop where
  r : R (fun i => l.getD i false) u
  ls : l.size = ops.size
  df : a.defers = a0.defers
  sz : a.tmps.size = a0.tmps.size
  old : ∀ s, (∀ i d, dstOf ops i = some d → l.getD i false = true → d ≠ s) → a.tmps.getD s undef = a0.tmps.getD s undef
  val : ∀ i d, dstOf ops i = some d → l.getD i false = true → Φ i (a.tmps.getD d undef) u
  cl : ∀ i o, ops[i]? = some o → l.getD i false = true → ∀ e ∈ o.after, Region.binds md e = true → l.getD e.on false = true
theorem dstC_of {ops : Array Oper} {n : Nat} (h : dstC ops n = true) {i : Nat} (hi : i < ops.size) {d : Nat} (hd : dstOf ops i = some d) : d < n ∧ ∀ j, j < ops.size → dstOf ops j = some d → j = i := by
  unfold dstC at h
  rw [List.all_eq_true] at h
  have h1 := h i (List.mem_range.2 hi)
  rw [hd] at h1
  simp only [Bool.and_eq_true, decide_eq_true_eq, List.all_eq_true, Bool.or_eq_true] at h1
  refine ⟨h1.1, fun j hj e => ?_⟩
  rcases h1.2 j (List.mem_range.2 hj) with h2 | h2
  · exact h2
  · exact absurd e h2
theorem dstOf_lt {ops : Array Oper} {j d : Nat} (hj : dstOf ops j = some d) : j < ops.size := by
  unfold dstOf at hj
  cases hoj : ops[j]? with
  | none => rw [hoj] at hj; cases hj
  | some o' => exact (Array.getElem?_eq_some_iff.1 hoj).1
theorem getD_upd {l : Array Bool} {i : Nat} (hi : i < l.size) : (fun j => (l.setIfInBounds i true).getD j false) = updB (fun j => l.getD j false) i := by
  funext j
  exact getD_set hi
theorem putsL_eqW {a : Act} : ∀ (os : List Oper) (k : Nat) (a' : Act) (vs : Nat → Value), a'.defers = a.defers → a'.tmps.size = a.tmps.size → (∀ (j : Nat) (o : Oper) (d : Nat), os[j]? = some o → o.dst = some d → vs (k + j) = a.tmps.getD d undef) →
    (∀ s, a'.tmps.getD s undef = a.tmps.getD s undef ∨ ∃ (j : Nat) (o : Oper), os[j]? = some o ∧ o.dst = some s) → (∀ (j : Nat) (o : Oper) (d : Nat), os[j]? = some o → o.dst = some d → d < a.tmps.size) → putsL a' k os vs = a
  | [], k, a', vs, h1, h2, _, h4, _ => by
    have e : a'.tmps = a.tmps := by
      apply Array.ext h2
      intro i hi1 hi2
      rcases h4 i with h | ⟨j, o, h, _⟩
      · simpa [Array.getD, hi1, hi2] using h
      · simp at h
    cases a'; cases a
    simp only at e h1
    subst e h1
    rfl
  | o :: os, k, a', vs, h1, h2, h3, h4, h5 => by
    show putsL (a'.put o.dst (vs k)) (k + 1) os vs = a
    have h3' : ∀ (j : Nat) (o : Oper) (d : Nat), os[j]? = some o → o.dst = some d → vs (k + 1 + j) = a.tmps.getD d undef := fun j o' d' ho hd' => by rw [show k + 1 + j = k + (j + 1) by omega]; exact h3 (j + 1) o' d' (by simpa using ho) hd'
    have h5' : ∀ (j : Nat) (o : Oper) (d : Nat), os[j]? = some o → o.dst = some d → d < a.tmps.size := fun j o' d' ho hd' => h5 (j + 1) o' d' (by simpa using ho) hd'
    cases hd : o.dst with
    | none =>
      refine putsL_eqW os (k + 1) _ vs h1 h2 h3' (fun s => ?_) h5'
      rcases h4 s with h | ⟨j, o', ho, hd'⟩
      · exact .inl h
      · cases j with
        | zero => simp at ho; subst ho; rw [hd] at hd'; cases hd'
        | succ j => exact .inr ⟨j, o', by simpa using ho, hd'⟩
    | some d =>
      have hlt := h5 0 o d rfl hd
      refine putsL_eqW os (k + 1) _ vs h1 (by simpa [Act.put] using h2) h3' (fun s => ?_) h5'
      rw [getD_put (by rw [h2]; exact hlt)]
      by_cases e : s = d
      · subst e
        rw [if_pos rfl]
        exact .inl (by simpa using h3 0 o s rfl hd)
      · rw [if_neg e]
        rcases h4 s with h | ⟨j, o', ho, hd'⟩
        · exact .inl h
        · cases j with
          | zero => simp at ho; subst ho; rw [hd] at hd'; exact absurd (Option.some.inj hd').symm e
          | succ j => exact .inr ⟨j, o', by simpa using ho, hd'⟩
theorem run_store_op {P : Program} {ρ : Operand → Value} {o : Oper} {u u' : World} {t : TypeId} {x y : Operand} {a b : Value} (ho : o.op = .store t x y) (ha : ρ x = a) (hb : ρ y = b) (hr : (Instr.storeAt t a b).run P u = .ok () u') : (execOp ρ o).run P u = .ok .skip u' := by
  unfold execOp
  simp only [ho, ha, hb]
  rw [Sem.run_bind, hr]
  rfl
theorem run_field_op {P : Program} {ρ : Operand → Value} {o : Oper} {u : World} {s : TypeId} {x : Operand} {f : Nat} {a v : Value} (ho : o.op = .fieldAddr s x f) (ha : ρ x = a) (hr : (Instr.fieldAt s a f).run P u = .ok v u) : (execOp ρ o).run P u = .ok (.value v) u := by
  unfold execOp
  simp only [ho, ha]
  rw [Sem.run_bind, hr]
  rfl
end Go.Proofs.Ytohikbpolofklaa
