/- Texts that the proof needs, joined: P2. -/
import Derived.Test.YtohikbpolofklaaGreatDoorV1
import Derived.Test.YtohikbpolofklaaGreatDoorV6
namespace Go.Proofs.YtohikbpolofklaaGreatDoor
open Go.RowKit
set_option linter.unusedVariables false
set_option linter.unusedSimpArgs false
def zr4 (a n w b : Bool) (pl nn : Int) (l1 l2 : Nat) : Bool := (a || decide (pl = 0)) && ((n || decide (nn = 0)) && ((w || decide (l1 = 0)) && (b || decide (l2 = 0))))
def okAK (kd pl nn : Int) (l1 l2 : Nat) : Bool :=
  if kd = 1 ∨ kd = 2 then zr4 false false false true pl nn l1 l2 && (inB l2 1 2000 && decide (l2 % 8 = 0))
  else if kd = 3 ∨ kd = 4 ∨ kd = 23 then zr4 false false true false pl nn l1 l2 && inB l1 1 125
  else if kd = 5 then zr4 true false false true pl nn l1 l2 && decide (l2 = 1)
  else if kd = 6 then zr4 true false true false pl nn l1 l2 && decide (l1 = 1)
  else if kd = 22 then zr4 true false true false pl nn l1 l2 && decide (l1 = 2)
  else if kd = 15 then zr4 true true false false pl nn l1 l2 && inB nn 1 1968
  else zr4 true true false false pl nn l1 l2 && inB nn 1 123
def okA (kd fl pl nn : Int) (ws : List Int) (l1 l2 : Nat) : Bool := kindB kd && (inB fl 0 255 && (allW ws && (inB pl 0 65535 && (if 0 < fl then zr4 false false false false pl nn l1 l2 else okAK kd pl nn l1 l2))))
set_option maxHeartbeats 2000000 in
theorem l4Zero_ffff (kd fl pl nn : Int) (a1 a2 : Option Addr) (l1 l2 c1 c2 : Nat) (w : World) (hm1 : l1 ≤ 2000000) (hm2 : l2 ≤ 20000000) (z : Bool) (hz : zr4 false false false false pl nn l1 l2 = z) :
    Calls Tryz.prog 48 #[rp kd fl pl nn a1 a2 l1 l2 c1 c2, .bool false, .bool false, .bool false, .bool false] w fun e w' => e = .returned (.bool z) ∧ Below w.heap.size w w' := by
  have B0 := bel_alloc w (.cells #[.int .i64 kd, .int .i64 fl, .int .i64 pl, .int .i64 nn, .slice a1 l1 c1, .slice a2 l2 c2] 36)
  subst hz
  by_cases hA : pl = 0
  · skip
    by_cases hN : nn = 0
    · skip
      by_cases h1 : l1 = 0
      · skip
        by_cases h2 : l2 = 0
        · skip
          have e : zr4 false false false false pl nn l1 l2 = true := by simp [zr4, hA, hN, h1, h2]
          rw [e]
          clear e
          subst hA
          subst hN
          subst h1
          subst h2
          go_enter Tryz.func48, Tryz.ntmps48
          go_wp2
          go_ret
          exact ⟨rfl, B0⟩
        · skip
          have e : zr4 false false false false pl nn l1 l2 = false := by simp [zr4, hA, hN, h1, h2]
          rw [e]
          have h2i : ((l2 : Int) == 0) = false := by simp [h2]
          clear e
          subst hA
          subst hN
          subst h1
          go_enter Tryz.func48, Tryz.ntmps48
          go_wp2
          go_ret
          exact ⟨rfl, B0⟩
      · skip
        have e : zr4 false false false false pl nn l1 l2 = false := by simp [zr4, hA, hN, h1]
        rw [e]
        have h1i : ((l1 : Int) == 0) = false := by simp [h1]
        clear e
        subst hA
        subst hN
        go_enter Tryz.func48, Tryz.ntmps48
        go_wp2
        go_ret
        exact ⟨rfl, B0⟩
    · skip
      have e : zr4 false false false false pl nn l1 l2 = false := by simp [zr4, hA, hN]
      rw [e]
      have eN : (nn == 0) = false := by simp [hN]
      clear e
      subst hA
      go_enter Tryz.func48, Tryz.ntmps48
      go_wp2
      go_ret
      exact ⟨rfl, B0⟩
  · skip
    have e : zr4 false false false false pl nn l1 l2 = false := by simp [zr4, hA]
    rw [e]
    have eA : (pl == 0) = false := by simp [hA]
    clear e
    go_enter Tryz.func48, Tryz.ntmps48
    go_wp2
    go_ret
    exact ⟨rfl, B0⟩
set_option maxHeartbeats 2000000 in
theorem l4Zero_ffft (kd fl pl nn : Int) (a1 a2 : Option Addr) (l1 l2 c1 c2 : Nat) (w : World) (hm1 : l1 ≤ 2000000) (hm2 : l2 ≤ 20000000) (z : Bool) (hz : zr4 false false false true pl nn l1 l2 = z) :
    Calls Tryz.prog 48 #[rp kd fl pl nn a1 a2 l1 l2 c1 c2, .bool false, .bool false, .bool false, .bool true] w fun e w' => e = .returned (.bool z) ∧ Below w.heap.size w w' := by
  have B0 := bel_alloc w (.cells #[.int .i64 kd, .int .i64 fl, .int .i64 pl, .int .i64 nn, .slice a1 l1 c1, .slice a2 l2 c2] 36)
  subst hz
  by_cases hA : pl = 0
  · skip
    by_cases hN : nn = 0
    · skip
      by_cases h1 : l1 = 0
      · skip
        have e : zr4 false false false true pl nn l1 l2 = true := by simp [zr4, hA, hN, h1]
        rw [e]
        clear e
        subst hA
        subst hN
        subst h1
        go_enter Tryz.func48, Tryz.ntmps48
        go_wp2
        go_ret
        exact ⟨rfl, B0⟩
      · skip
        have e : zr4 false false false true pl nn l1 l2 = false := by simp [zr4, hA, hN, h1]
        rw [e]
        have h1i : ((l1 : Int) == 0) = false := by simp [h1]
        clear e
        subst hA
        subst hN
        go_enter Tryz.func48, Tryz.ntmps48
        go_wp2
        go_ret
        exact ⟨rfl, B0⟩
    · skip
      have e : zr4 false false false true pl nn l1 l2 = false := by simp [zr4, hA, hN]
      rw [e]
      have eN : (nn == 0) = false := by simp [hN]
      clear e
      subst hA
      go_enter Tryz.func48, Tryz.ntmps48
      go_wp2
      go_ret
      exact ⟨rfl, B0⟩
  · skip
    have e : zr4 false false false true pl nn l1 l2 = false := by simp [zr4, hA]
    rw [e]
    have eA : (pl == 0) = false := by simp [hA]
    clear e
    go_enter Tryz.func48, Tryz.ntmps48
    go_wp2
    go_ret
    exact ⟨rfl, B0⟩
set_option maxHeartbeats 2000000 in
theorem l4Zero_fftf (kd fl pl nn : Int) (a1 a2 : Option Addr) (l1 l2 c1 c2 : Nat) (w : World) (hm1 : l1 ≤ 2000000) (hm2 : l2 ≤ 20000000) (z : Bool) (hz : zr4 false false true false pl nn l1 l2 = z) :
    Calls Tryz.prog 48 #[rp kd fl pl nn a1 a2 l1 l2 c1 c2, .bool false, .bool false, .bool true, .bool false] w fun e w' => e = .returned (.bool z) ∧ Below w.heap.size w w' := by
  have B0 := bel_alloc w (.cells #[.int .i64 kd, .int .i64 fl, .int .i64 pl, .int .i64 nn, .slice a1 l1 c1, .slice a2 l2 c2] 36)
  subst hz
  by_cases hA : pl = 0
  · skip
    by_cases hN : nn = 0
    · skip
      by_cases h2 : l2 = 0
      · skip
        have e : zr4 false false true false pl nn l1 l2 = true := by simp [zr4, hA, hN, h2]
        rw [e]
        clear e
        subst hA
        subst hN
        subst h2
        go_enter Tryz.func48, Tryz.ntmps48
        go_wp2
        go_ret
        exact ⟨rfl, B0⟩
      · skip
        have e : zr4 false false true false pl nn l1 l2 = false := by simp [zr4, hA, hN, h2]
        rw [e]
        have h2i : ((l2 : Int) == 0) = false := by simp [h2]
        clear e
        subst hA
        subst hN
        go_enter Tryz.func48, Tryz.ntmps48
        go_wp2
        go_ret
        exact ⟨rfl, B0⟩
    · skip
      have e : zr4 false false true false pl nn l1 l2 = false := by simp [zr4, hA, hN]
      rw [e]
      have eN : (nn == 0) = false := by simp [hN]
      clear e
      subst hA
      go_enter Tryz.func48, Tryz.ntmps48
      go_wp2
      go_ret
      exact ⟨rfl, B0⟩
  · skip
    have e : zr4 false false true false pl nn l1 l2 = false := by simp [zr4, hA]
    rw [e]
    have eA : (pl == 0) = false := by simp [hA]
    clear e
    go_enter Tryz.func48, Tryz.ntmps48
    go_wp2
    go_ret
    exact ⟨rfl, B0⟩
set_option maxHeartbeats 2000000 in
theorem l4Zero_tfft (kd fl pl nn : Int) (a1 a2 : Option Addr) (l1 l2 c1 c2 : Nat) (w : World) (hm1 : l1 ≤ 2000000) (hm2 : l2 ≤ 20000000) (z : Bool) (hz : zr4 true false false true pl nn l1 l2 = z) :
    Calls Tryz.prog 48 #[rp kd fl pl nn a1 a2 l1 l2 c1 c2, .bool true, .bool false, .bool false, .bool true] w fun e w' => e = .returned (.bool z) ∧ Below w.heap.size w w' := by
  have B0 := bel_alloc w (.cells #[.int .i64 kd, .int .i64 fl, .int .i64 pl, .int .i64 nn, .slice a1 l1 c1, .slice a2 l2 c2] 36)
  subst hz
  by_cases hN : nn = 0
  · skip
    by_cases h1 : l1 = 0
    · skip
      have e : zr4 true false false true pl nn l1 l2 = true := by simp [zr4, hN, h1]
      rw [e]
      clear e
      subst hN
      subst h1
      go_enter Tryz.func48, Tryz.ntmps48
      go_wp2
      go_ret
      exact ⟨rfl, B0⟩
    · skip
      have e : zr4 true false false true pl nn l1 l2 = false := by simp [zr4, hN, h1]
      rw [e]
      have h1i : ((l1 : Int) == 0) = false := by simp [h1]
      clear e
      subst hN
      go_enter Tryz.func48, Tryz.ntmps48
      go_wp2
      go_ret
      exact ⟨rfl, B0⟩
  · skip
    have e : zr4 true false false true pl nn l1 l2 = false := by simp [zr4, hN]
    rw [e]
    have eN : (nn == 0) = false := by simp [hN]
    clear e
    go_enter Tryz.func48, Tryz.ntmps48
    go_wp2
    go_ret
    exact ⟨rfl, B0⟩
set_option maxHeartbeats 2000000 in
theorem l4Zero_tftf (kd fl pl nn : Int) (a1 a2 : Option Addr) (l1 l2 c1 c2 : Nat) (w : World) (hm1 : l1 ≤ 2000000) (hm2 : l2 ≤ 20000000) (z : Bool) (hz : zr4 true false true false pl nn l1 l2 = z) :
    Calls Tryz.prog 48 #[rp kd fl pl nn a1 a2 l1 l2 c1 c2, .bool true, .bool false, .bool true, .bool false] w fun e w' => e = .returned (.bool z) ∧ Below w.heap.size w w' := by
  have B0 := bel_alloc w (.cells #[.int .i64 kd, .int .i64 fl, .int .i64 pl, .int .i64 nn, .slice a1 l1 c1, .slice a2 l2 c2] 36)
  subst hz
  by_cases hN : nn = 0
  · skip
    by_cases h2 : l2 = 0
    · skip
      have e : zr4 true false true false pl nn l1 l2 = true := by simp [zr4, hN, h2]
      rw [e]
      clear e
      subst hN
      subst h2
      go_enter Tryz.func48, Tryz.ntmps48
      go_wp2
      go_ret
      exact ⟨rfl, B0⟩
    · skip
      have e : zr4 true false true false pl nn l1 l2 = false := by simp [zr4, hN, h2]
      rw [e]
      have h2i : ((l2 : Int) == 0) = false := by simp [h2]
      clear e
      subst hN
      go_enter Tryz.func48, Tryz.ntmps48
      go_wp2
      go_ret
      exact ⟨rfl, B0⟩
  · skip
    have e : zr4 true false true false pl nn l1 l2 = false := by simp [zr4, hN]
    rw [e]
    have eN : (nn == 0) = false := by simp [hN]
    clear e
    go_enter Tryz.func48, Tryz.ntmps48
    go_wp2
    go_ret
    exact ⟨rfl, B0⟩
set_option maxHeartbeats 2000000 in
theorem l4Zero_ttff (kd fl pl nn : Int) (a1 a2 : Option Addr) (l1 l2 c1 c2 : Nat) (w : World) (hm1 : l1 ≤ 2000000) (hm2 : l2 ≤ 20000000) (z : Bool) (hz : zr4 true true false false pl nn l1 l2 = z) :
    Calls Tryz.prog 48 #[rp kd fl pl nn a1 a2 l1 l2 c1 c2, .bool true, .bool true, .bool false, .bool false] w fun e w' => e = .returned (.bool z) ∧ Below w.heap.size w w' := by
  have B0 := bel_alloc w (.cells #[.int .i64 kd, .int .i64 fl, .int .i64 pl, .int .i64 nn, .slice a1 l1 c1, .slice a2 l2 c2] 36)
  subst hz
  by_cases h1 : l1 = 0
  · skip
    by_cases h2 : l2 = 0
    · skip
      have e : zr4 true true false false pl nn l1 l2 = true := by simp [zr4, h1, h2]
      rw [e]
      clear e
      subst h1
      subst h2
      go_enter Tryz.func48, Tryz.ntmps48
      go_wp2
      go_ret
      exact ⟨rfl, B0⟩
    · skip
      have e : zr4 true true false false pl nn l1 l2 = false := by simp [zr4, h1, h2]
      rw [e]
      have h2i : ((l2 : Int) == 0) = false := by simp [h2]
      clear e
      subst h1
      go_enter Tryz.func48, Tryz.ntmps48
      go_wp2
      go_ret
      exact ⟨rfl, B0⟩
  · skip
    have e : zr4 true true false false pl nn l1 l2 = false := by simp [zr4, h1]
    rw [e]
    have h1i : ((l1 : Int) == 0) = false := by simp [h1]
    clear e
    go_enter Tryz.func48, Tryz.ntmps48
    go_wp2
    go_ret
    exact ⟨rfl, B0⟩
theorem l4Zero_or (a n v b : Bool) (kd fl pl nn : Int) (a1 a2 : Option Addr) (l1 l2 c1 c2 : Nat) (w : World) (h : a = false ∧ n = false ∧ v = false ∧ b = false ∨ a = false ∧ n = false ∧ v = false ∧ b = true ∨ a = false ∧ n = false ∧ v = true ∧ b = false ∨ a = true ∧ n = false ∧ v = false ∧ b = true ∨ a = true ∧ n = false ∧ v = true ∧ b = false ∨ a = true ∧ n = true ∧ v = false ∧ b = false) (hm1 : l1 ≤ 2000000) (hm2 : l2 ≤ 20000000) :
    Calls Tryz.prog 48 #[rp kd fl pl nn a1 a2 l1 l2 c1 c2, .bool a, .bool n, .bool v, .bool b] w fun e w' => Below w.heap.size w w' ∧ ((zr4 a n v b pl nn l1 l2 = true ∧ e = .returned (.bool true)) ∨ (zr4 a n v b pl nn l1 l2 = false ∧ e = .returned (.bool false))) := by
  obtain ⟨rfl, rfl, rfl, rfl⟩ | ⟨rfl, rfl, rfl, rfl⟩ | ⟨rfl, rfl, rfl, rfl⟩ | ⟨rfl, rfl, rfl, rfl⟩ | ⟨rfl, rfl, rfl, rfl⟩ | ⟨rfl, rfl, rfl, rfl⟩ := h
  · exact bo (l4Zero_ffff _ _ _ _ _ _ _ _ _ _ _ hm1 hm2 _ rfl)
  · exact bo (l4Zero_ffft _ _ _ _ _ _ _ _ _ _ _ hm1 hm2 _ rfl)
  · exact bo (l4Zero_fftf _ _ _ _ _ _ _ _ _ _ _ hm1 hm2 _ rfl)
  · exact bo (l4Zero_tfft _ _ _ _ _ _ _ _ _ _ _ hm1 hm2 _ rfl)
  · exact bo (l4Zero_tftf _ _ _ _ _ _ _ _ _ _ _ hm1 hm2 _ rfl)
  · exact bo (l4Zero_ttff _ _ _ _ _ _ _ _ _ _ _ hm1 hm2 _ rfl)
set_option maxRecDepth 20000 in
set_option maxHeartbeats 4000000 in
theorem specRespOk_any (kd fl pl nn : Int) (a1 a2 : Option Addr) (l1 l2 c1 c2 : Nat) (ws : List Int) (w : World) (h1 : l1 = ws.length) (s1 : SlI w a1 ws) (hl1 : ws.length ≤ 2000000) (hl2 : l2 ≤ 20000000) (b : Bool) (hb : okA kd fl pl nn ws l1 l2 = b) :
    Calls Tryz.prog 27 #[rp kd fl pl nn a1 a2 l1 l2 c1 c2] w fun e w' => e = .returned (.bool b) ∧ Below w.heap.size w w' := by
  have B0 := bel_alloc w (.cells #[.int .i64 kd, .int .i64 fl, .int .i64 pl, .int .i64 nn, .slice a1 l1 c1, .slice a2 l2 c2] 36)
  have X0 := Blk.new w #[.int .i64 kd, .int .i64 fl, .int .i64 pl, .int .i64 nn, .slice a1 l1 c1, .slice a2 l2 c2] 36
  have S1 : Hid (SlI (w.alloc (.cells #[.int .i64 kd, .int .i64 fl, .int .i64 pl, .int .i64 nn, .slice a1 l1 c1, .slice a2 l2 c2] 36)) a1 ws) := s1.below B0
  have H1 : Hid (l1 = ws.length) := h1
  clear h1 s1
  subst hb
  cases hK : kindB kd
  · go_enter Tryz.func27, Tryz.ntmps27
    go_wp2_with (go_at_call 18; refine (l3Kind_any _ _ _ hK).mono ?_; rintro e wx ⟨rfl, rfl⟩)
    go_ret
    exact ⟨by simp [okA, hK], B0⟩
  by_cases h0 : 0 < fl
  rotate_left
  rcases of_decide_eq_true hK with rfl | rfl | rfl | rfl | rfl | rfl | rfl | rfl | rfl | rfl
  all_goals
    go_enter Tryz.func27, Tryz.ntmps27
    go_wp2_with (first
      | (go_at_call 18; refine (l3Kind_any _ _ _ hK).mono ?_; rintro e wx ⟨rfl, rfl⟩)
      | (go_at_call 40; refine (bo (l3Words_any _ _ _ ws _ H1.out S1.out hl1 _ rfl)).mono ?_; rintro e wx ⟨rfl, ⟨hW, rfl⟩ | ⟨hW, rfl⟩⟩)
      | (go_at_call 39; refine (l1In_or _ _ _ _).mono ?_; rintro e wx ⟨rfl, ⟨hN, hm, rfl⟩ | ⟨hN, rfl⟩⟩)
      | (go_at_call 48; refine (l4Zero_or _ _ _ _ _ _ _ _ _ _ _ _ _ _ _ (by simp) (by have := H1.out; omega) hl2).mono ?_;
         rintro e w1 ⟨b', ⟨hZ, rfl⟩ | ⟨hZ, rfl⟩⟩ <;> (have B1 := bel_next B0 b'; obtain ⟨y0, y1, y2, y3, y4, y5⟩ := (X0.below b').six; clear B0 X0)))
    all_goals
      go_ret
      refine ⟨?_, by assumption⟩
      first | (simp [okA, okAK, *, show ¬ 0 < fl by omega]; done) | (simp [okA, okAK, *]; done) | (simp [okA, okAK, *, show ¬ 0 < fl by omega]; rw [Bool.eq_iff_iff]; simp; omega)
theorem specRespOk_q (kd fl pl nn : Int) (a1 a2 : Option Addr) (l1 l2 c1 c2 : Nat) (ws : List Int) (bs : List Bool) (w : World) (h1 : l1 = ws.length) (h2 : l2 = bs.length) (s1 : SlI w a1 ws) (s2 : SlB w a2 bs) (hl1 : ws.length ≤ 2000000) (hl2 : bs.length ≤ 2000000) :
    Calls Tryz.prog 27 #[rp kd fl pl nn a1 a2 l1 l2 c1 c2] w fun e w' => e = .returned (.bool (okA kd fl pl nn ws l1 l2)) ∧ Below w.heap.size w w' :=
  specRespOk_any kd fl pl nn a1 a2 l1 l2 c1 c2 ws w h1 s1 hl1 (by omega) _ rfl
end Go.Proofs.YtohikbpolofklaaGreatDoor
