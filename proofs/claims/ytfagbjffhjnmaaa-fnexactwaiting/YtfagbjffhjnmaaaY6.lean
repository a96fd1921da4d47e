/- Texts that the proof needs, joined: P2. -/
import Derived.Test.YtfagbjffhjnmaaaY1
import Derived.Test.YtfagbjffhjnmaaaY5
namespace Go.Proofs.Ytfagbjffhjnmaaa
open Go.RowKit
set_option linter.unusedVariables false
set_option linter.unusedSimpArgs false
theorem inB_z : inB 0 0 255 = true := by decide
def zr4 (a n w b : Bool) (pl nn : Int) (l1 l2 : Nat) : Bool := (a || decide (pl = 0)) && ((n || decide (nn = 0)) && ((w || decide (l1 = 0)) && (b || decide (l2 = 0))))
def okAK (kd pl nn : Int) (l1 l2 : Nat) : Bool :=
  if kd = 1 ∨ kd = 2 then zr4 false false false true pl nn l1 l2 && (inB l2 1 2000 && decide (l2 % 8 = 0))
  else if kd = 3 ∨ kd = 4 ∨ kd = 23 then zr4 false false true false pl nn l1 l2 && inB l1 1 125
  else if kd = 5 then zr4 true false false true pl nn l1 l2 && decide (l2 = 1)
  else if kd = 6 then zr4 true false true false pl nn l1 l2 && decide (l1 = 1)
  else if kd = 22 then zr4 true false true false pl nn l1 l2 && decide (l1 = 2)
  else if kd = 15 then zr4 true true false false pl nn l1 l2 && inB nn 1 1968
  else zr4 true true false false pl nn l1 l2 && inB nn 1 123
def okA (kd fl pl nn : Int) (ws : List Int) (l1 l2 : Nat) : Bool := kindB kd && (inB fl 0 255 && (allW ws && (inB pl 0 65535 && (if 0 < fl then zr4 false false false false pl nn l1 l2 else okAK kd pl nn l1 l2))))
set_option maxHeartbeats 2000000 in
theorem l4Zero_ffff (kd fl pl nn : Int) (a1 a2 : Option Addr) (l1 l2 c1 c2 : Nat) (w : World) (hm1 : l1 ≤ 2000000) (hm2 : l2 ≤ 20000000) (z : Bool) (hz : zr4 false false false false pl nn l1 l2 = z) :
    Calls Try.prog 58 #[rp kd fl pl nn a1 a2 l1 l2 c1 c2, .bool false, .bool false, .bool false, .bool false] w fun e w' => e = .returned (.bool z) ∧ Below w.heap.size w w' := by
  have B0 := bel_alloc w (.cells #[.int .i64 kd, .int .i64 fl, .int .i64 pl, .int .i64 nn, .slice a1 l1 c1, .slice a2 l2 c2] 63)
  subst hz
  by_cases hA : pl = 0
  · skip
    by_cases hN : nn = 0
    · skip
      by_cases h1 : l1 = 0
      · skip
        by_cases h2 : l2 = 0
        · skip
          have e : zr4 false false false false pl nn l1 l2 = true := by simp [zr4, hA, hN, h1, h2]
          rw [e]
          clear e
          subst hA
          subst hN
          subst h1
          subst h2
          go_enter Try.func58, Try.ntmps58
          go_wp2
          go_ret
          exact ⟨rfl, B0⟩
        · skip
          have e : zr4 false false false false pl nn l1 l2 = false := by simp [zr4, hA, hN, h1, h2]
          rw [e]
          have h2i : ((l2 : Int) == 0) = false := by simp [h2]
          clear e
          subst hA
          subst hN
          subst h1
          go_enter Try.func58, Try.ntmps58
          go_wp2
          go_ret
          exact ⟨rfl, B0⟩
      · skip
        have e : zr4 false false false false pl nn l1 l2 = false := by simp [zr4, hA, hN, h1]
        rw [e]
        have h1i : ((l1 : Int) == 0) = false := by simp [h1]
        clear e
        subst hA
        subst hN
        go_enter Try.func58, Try.ntmps58
        go_wp2
        go_ret
        exact ⟨rfl, B0⟩
    · skip
      have e : zr4 false false false false pl nn l1 l2 = false := by simp [zr4, hA, hN]
      rw [e]
      have eN : (nn == 0) = false := by simp [hN]
      clear e
      subst hA
      go_enter Try.func58, Try.ntmps58
      go_wp2
      go_ret
      exact ⟨rfl, B0⟩
  · skip
    have e : zr4 false false false false pl nn l1 l2 = false := by simp [zr4, hA]
    rw [e]
    have eA : (pl == 0) = false := by simp [hA]
    clear e
    go_enter Try.func58, Try.ntmps58
    go_wp2
    go_ret
    exact ⟨rfl, B0⟩
set_option maxHeartbeats 2000000 in
theorem l4Zero_ffft (kd fl pl nn : Int) (a1 a2 : Option Addr) (l1 l2 c1 c2 : Nat) (w : World) (hm1 : l1 ≤ 2000000) (hm2 : l2 ≤ 20000000) (z : Bool) (hz : zr4 false false false true pl nn l1 l2 = z) :
    Calls Try.prog 58 #[rp kd fl pl nn a1 a2 l1 l2 c1 c2, .bool false, .bool false, .bool false, .bool true] w fun e w' => e = .returned (.bool z) ∧ Below w.heap.size w w' := by
  have B0 := bel_alloc w (.cells #[.int .i64 kd, .int .i64 fl, .int .i64 pl, .int .i64 nn, .slice a1 l1 c1, .slice a2 l2 c2] 63)
  subst hz
  by_cases hA : pl = 0
  · skip
    by_cases hN : nn = 0
    · skip
      by_cases h1 : l1 = 0
      · skip
        have e : zr4 false false false true pl nn l1 l2 = true := by simp [zr4, hA, hN, h1]
        rw [e]
        clear e
        subst hA
        subst hN
        subst h1
        go_enter Try.func58, Try.ntmps58
        go_wp2
        go_ret
        exact ⟨rfl, B0⟩
      · skip
        have e : zr4 false false false true pl nn l1 l2 = false := by simp [zr4, hA, hN, h1]
        rw [e]
        have h1i : ((l1 : Int) == 0) = false := by simp [h1]
        clear e
        subst hA
        subst hN
        go_enter Try.func58, Try.ntmps58
        go_wp2
        go_ret
        exact ⟨rfl, B0⟩
    · skip
      have e : zr4 false false false true pl nn l1 l2 = false := by simp [zr4, hA, hN]
      rw [e]
      have eN : (nn == 0) = false := by simp [hN]
      clear e
      subst hA
      go_enter Try.func58, Try.ntmps58
      go_wp2
      go_ret
      exact ⟨rfl, B0⟩
  · skip
    have e : zr4 false false false true pl nn l1 l2 = false := by simp [zr4, hA]
    rw [e]
    have eA : (pl == 0) = false := by simp [hA]
    clear e
    go_enter Try.func58, Try.ntmps58
    go_wp2
    go_ret
    exact ⟨rfl, B0⟩
set_option maxHeartbeats 2000000 in
theorem l4Zero_fftf (kd fl pl nn : Int) (a1 a2 : Option Addr) (l1 l2 c1 c2 : Nat) (w : World) (hm1 : l1 ≤ 2000000) (hm2 : l2 ≤ 20000000) (z : Bool) (hz : zr4 false false true false pl nn l1 l2 = z) :
    Calls Try.prog 58 #[rp kd fl pl nn a1 a2 l1 l2 c1 c2, .bool false, .bool false, .bool true, .bool false] w fun e w' => e = .returned (.bool z) ∧ Below w.heap.size w w' := by
  have B0 := bel_alloc w (.cells #[.int .i64 kd, .int .i64 fl, .int .i64 pl, .int .i64 nn, .slice a1 l1 c1, .slice a2 l2 c2] 63)
  subst hz
  by_cases hA : pl = 0
  · skip
    by_cases hN : nn = 0
    · skip
      by_cases h2 : l2 = 0
      · skip
        have e : zr4 false false true false pl nn l1 l2 = true := by simp [zr4, hA, hN, h2]
        rw [e]
        clear e
        subst hA
        subst hN
        subst h2
        go_enter Try.func58, Try.ntmps58
        go_wp2
        go_ret
        exact ⟨rfl, B0⟩
      · skip
        have e : zr4 false false true false pl nn l1 l2 = false := by simp [zr4, hA, hN, h2]
        rw [e]
        have h2i : ((l2 : Int) == 0) = false := by simp [h2]
        clear e
        subst hA
        subst hN
        go_enter Try.func58, Try.ntmps58
        go_wp2
        go_ret
        exact ⟨rfl, B0⟩
    · skip
      have e : zr4 false false true false pl nn l1 l2 = false := by simp [zr4, hA, hN]
      rw [e]
      have eN : (nn == 0) = false := by simp [hN]
      clear e
      subst hA
      go_enter Try.func58, Try.ntmps58
      go_wp2
      go_ret
      exact ⟨rfl, B0⟩
  · skip
    have e : zr4 false false true false pl nn l1 l2 = false := by simp [zr4, hA]
    rw [e]
    have eA : (pl == 0) = false := by simp [hA]
    clear e
    go_enter Try.func58, Try.ntmps58
    go_wp2
    go_ret
    exact ⟨rfl, B0⟩
set_option maxHeartbeats 2000000 in
theorem l4Zero_tfft (kd fl pl nn : Int) (a1 a2 : Option Addr) (l1 l2 c1 c2 : Nat) (w : World) (hm1 : l1 ≤ 2000000) (hm2 : l2 ≤ 20000000) (z : Bool) (hz : zr4 true false false true pl nn l1 l2 = z) :
    Calls Try.prog 58 #[rp kd fl pl nn a1 a2 l1 l2 c1 c2, .bool true, .bool false, .bool false, .bool true] w fun e w' => e = .returned (.bool z) ∧ Below w.heap.size w w' := by
  have B0 := bel_alloc w (.cells #[.int .i64 kd, .int .i64 fl, .int .i64 pl, .int .i64 nn, .slice a1 l1 c1, .slice a2 l2 c2] 63)
  subst hz
  by_cases hN : nn = 0
  · skip
    by_cases h1 : l1 = 0
    · skip
      have e : zr4 true false false true pl nn l1 l2 = true := by simp [zr4, hN, h1]
      rw [e]
      clear e
      subst hN
      subst h1
      go_enter Try.func58, Try.ntmps58
      go_wp2
      go_ret
      exact ⟨rfl, B0⟩
    · skip
      have e : zr4 true false false true pl nn l1 l2 = false := by simp [zr4, hN, h1]
      rw [e]
      have h1i : ((l1 : Int) == 0) = false := by simp [h1]
      clear e
      subst hN
      go_enter Try.func58, Try.ntmps58
      go_wp2
      go_ret
      exact ⟨rfl, B0⟩
  · skip
    have e : zr4 true false false true pl nn l1 l2 = false := by simp [zr4, hN]
    rw [e]
    have eN : (nn == 0) = false := by simp [hN]
    clear e
    go_enter Try.func58, Try.ntmps58
    go_wp2
    go_ret
    exact ⟨rfl, B0⟩
set_option maxHeartbeats 2000000 in
theorem l4Zero_tftf (kd fl pl nn : Int) (a1 a2 : Option Addr) (l1 l2 c1 c2 : Nat) (w : World) (hm1 : l1 ≤ 2000000) (hm2 : l2 ≤ 20000000) (z : Bool) (hz : zr4 true false true false pl nn l1 l2 = z) :
    Calls Try.prog 58 #[rp kd fl pl nn a1 a2 l1 l2 c1 c2, .bool true, .bool false, .bool true, .bool false] w fun e w' => e = .returned (.bool z) ∧ Below w.heap.size w w' := by
  have B0 := bel_alloc w (.cells #[.int .i64 kd, .int .i64 fl, .int .i64 pl, .int .i64 nn, .slice a1 l1 c1, .slice a2 l2 c2] 63)
  subst hz
  by_cases hN : nn = 0
  · skip
    by_cases h2 : l2 = 0
    · skip
      have e : zr4 true false true false pl nn l1 l2 = true := by simp [zr4, hN, h2]
      rw [e]
      clear e
      subst hN
      subst h2
      go_enter Try.func58, Try.ntmps58
      go_wp2
      go_ret
      exact ⟨rfl, B0⟩
    · skip
      have e : zr4 true false true false pl nn l1 l2 = false := by simp [zr4, hN, h2]
      rw [e]
      have h2i : ((l2 : Int) == 0) = false := by simp [h2]
      clear e
      subst hN
      go_enter Try.func58, Try.ntmps58
      go_wp2
      go_ret
      exact ⟨rfl, B0⟩
  · skip
    have e : zr4 true false true false pl nn l1 l2 = false := by simp [zr4, hN]
    rw [e]
    have eN : (nn == 0) = false := by simp [hN]
    clear e
    go_enter Try.func58, Try.ntmps58
    go_wp2
    go_ret
    exact ⟨rfl, B0⟩
set_option maxHeartbeats 2000000 in
theorem l4Zero_ttff (kd fl pl nn : Int) (a1 a2 : Option Addr) (l1 l2 c1 c2 : Nat) (w : World) (hm1 : l1 ≤ 2000000) (hm2 : l2 ≤ 20000000) (z : Bool) (hz : zr4 true true false false pl nn l1 l2 = z) :
    Calls Try.prog 58 #[rp kd fl pl nn a1 a2 l1 l2 c1 c2, .bool true, .bool true, .bool false, .bool false] w fun e w' => e = .returned (.bool z) ∧ Below w.heap.size w w' := by
  have B0 := bel_alloc w (.cells #[.int .i64 kd, .int .i64 fl, .int .i64 pl, .int .i64 nn, .slice a1 l1 c1, .slice a2 l2 c2] 63)
  subst hz
  by_cases h1 : l1 = 0
  · skip
    by_cases h2 : l2 = 0
    · skip
      have e : zr4 true true false false pl nn l1 l2 = true := by simp [zr4, h1, h2]
      rw [e]
      clear e
      subst h1
      subst h2
      go_enter Try.func58, Try.ntmps58
      go_wp2
      go_ret
      exact ⟨rfl, B0⟩
    · skip
      have e : zr4 true true false false pl nn l1 l2 = false := by simp [zr4, h1, h2]
      rw [e]
      have h2i : ((l2 : Int) == 0) = false := by simp [h2]
      clear e
      subst h1
      go_enter Try.func58, Try.ntmps58
      go_wp2
      go_ret
      exact ⟨rfl, B0⟩
  · skip
    have e : zr4 true true false false pl nn l1 l2 = false := by simp [zr4, h1]
    rw [e]
    have h1i : ((l1 : Int) == 0) = false := by simp [h1]
    clear e
    go_enter Try.func58, Try.ntmps58
    go_wp2
    go_ret
    exact ⟨rfl, B0⟩
set_option maxHeartbeats 4000000 in
theorem specRespOk_1 (pl nn : Int) (a1 a2 : Option Addr) (l1 l2 c1 c2 : Nat) (ws : List Int) (w : World) (h1 : l1 = ws.length) (s1 : SlI w a1 ws) (hl1 : ws.length ≤ 2000000) (hl2 : l2 ≤ 20000000) (hW : allW ws = true) (hP : inB pl 0 65535 = true) (b : Bool) (hb : okA 1 0 pl nn ws l1 l2 = b) :
    Calls Try.prog 37 #[rp 1 0 pl nn a1 a2 l1 l2 c1 c2] w fun e w' => e = .returned (.bool b) ∧ Below w.heap.size w w' := by
  have H1 : Hid (l1 = ws.length) := h1
  have hs : Hid (SlI w a1 ws) := s1
  have B0 := bel_alloc w (.cells #[.int .i64 1, .int .i64 0, .int .i64 pl, .int .i64 nn, .slice a1 l1 c1, .slice a2 l2 c2] 63)
  have X0 := Blk.new w #[.int .i64 1, .int .i64 0, .int .i64 pl, .int .i64 nn, .slice a1 l1 c1, .slice a2 l2 c2] 63
  have S1 : Hid (SlI (w.alloc (.cells #[.int .i64 1, .int .i64 0, .int .i64 pl, .int .i64 nn, .slice a1 l1 c1, .slice a2 l2 c2] 63)) a1 ws) := s1.below B0
  clear h1 s1
  cases hZ : zr4 false false false true pl nn l1 l2
  · skip
    have e : okA 1 0 pl nn ws l1 l2 = false := by simp [okA, okAK, hW, hP, hZ, kindB, inB_z]
    rw [e] at hb
    subst hb
    clear e
    go_enter Try.func37, Try.ntmps37
    go_wp2_with (first
      | (go_at_call 57; refine (l3Kind_any _ _ _ rfl).mono ?_; rintro e wx ⟨rfl, rfl⟩)
      | (go_at_call 34; refine (l3Words_any _ _ _ ws _ H1.out S1.out hl1 _ hW).mono ?_; rintro e wx ⟨rfl, rfl⟩)
      | (go_at_call 13; refine (l1In_any _ _ _ _ _ (by first | exact hP | exact (rfl : inB 0 0 255 = true) | fail)).mono ?_; rintro e wx ⟨rfl, rfl⟩)
      | (go_at_call 58; refine (l4Zero_ffft _ _ _ _ _ _ _ _ _ _ _ (by have := H1.out; omega) hl2 _ hZ).mono ?_; rintro e w1 ⟨rfl, b'⟩; have B1 := bel_next B0 b'; obtain ⟨y0, y1, y2, y3, y4, y5⟩ := (X0.below b').six; clear B0))
    go_ret
    exact ⟨rfl, B1⟩
  · skip
    cases hN : inB l2 1 2000
    · skip
      have e : okA 1 0 pl nn ws l1 l2 = false := by simp [okA, okAK, hW, hP, hZ, hN, kindB, inB_z]
      rw [e] at hb
      subst hb
      clear e
      go_enter Try.func37, Try.ntmps37
      go_wp2_with (first
        | (go_at_call 57; refine (l3Kind_any _ _ _ rfl).mono ?_; rintro e wx ⟨rfl, rfl⟩)
        | (go_at_call 34; refine (l3Words_any _ _ _ ws _ H1.out S1.out hl1 _ hW).mono ?_; rintro e wx ⟨rfl, rfl⟩)
        | (go_at_call 13; refine (l1In_any _ _ _ _ _ (by first | exact hP | exact hN | exact (rfl : inB 0 0 255 = true) | fail)).mono ?_; rintro e wx ⟨rfl, rfl⟩)
        | (go_at_call 58; refine (l4Zero_ffft _ _ _ _ _ _ _ _ _ _ _ (by have := H1.out; omega) hl2 _ hZ).mono ?_; rintro e w1 ⟨rfl, b'⟩; have B1 := bel_next B0 b'; obtain ⟨y0, y1, y2, y3, y4, y5⟩ := (X0.below b').six; clear B0))
      go_ret
      exact ⟨rfl, B1⟩
    · skip
      by_cases hM : l2 % 8 = 0
      · skip
        have e : okA 1 0 pl nn ws l1 l2 = true := by simp [okA, okAK, hW, hP, hZ, hN, hM, kindB, inB_z]
        rw [e] at hb
        subst hb
        clear e
        have hMi : (l2 : Int) % 8 = 0 := by omega
        have hMt : ((l2 : Int) % 8 == 0) = true := by simp; omega
        clear hM
        go_enter Try.func37, Try.ntmps37
        go_wp2_with (first
          | (go_at_call 57; refine (l3Kind_any _ _ _ rfl).mono ?_; rintro e wx ⟨rfl, rfl⟩)
          | (go_at_call 34; refine (l3Words_any _ _ _ ws _ H1.out S1.out hl1 _ hW).mono ?_; rintro e wx ⟨rfl, rfl⟩)
          | (go_at_call 13; refine (l1In_any _ _ _ _ _ (by first | exact hP | exact hN | exact (rfl : inB 0 0 255 = true) | fail)).mono ?_; rintro e wx ⟨rfl, rfl⟩)
          | (go_at_call 58; refine (l4Zero_ffft _ _ _ _ _ _ _ _ _ _ _ (by have := H1.out; omega) hl2 _ hZ).mono ?_; rintro e w1 ⟨rfl, b'⟩; have B1 := bel_next B0 b'; obtain ⟨y0, y1, y2, y3, y4, y5⟩ := (X0.below b').six; clear B0))
        go_ret
        exact ⟨rfl, B1⟩
      · skip
        have e : okA 1 0 pl nn ws l1 l2 = false := by simp [okA, okAK, hW, hP, hZ, hN, hM, kindB, inB_z]
        rw [e] at hb
        subst hb
        clear e
        have hMi : ¬ (l2 : Int) % 8 = 0 := by omega
        have hMt : ((l2 : Int) % 8 == 0) = false := by simp; omega
        clear hM
        go_enter Try.func37, Try.ntmps37
        go_wp2_with (first
          | (go_at_call 57; refine (l3Kind_any _ _ _ rfl).mono ?_; rintro e wx ⟨rfl, rfl⟩)
          | (go_at_call 34; refine (l3Words_any _ _ _ ws _ H1.out S1.out hl1 _ hW).mono ?_; rintro e wx ⟨rfl, rfl⟩)
          | (go_at_call 13; refine (l1In_any _ _ _ _ _ (by first | exact hP | exact hN | exact (rfl : inB 0 0 255 = true) | fail)).mono ?_; rintro e wx ⟨rfl, rfl⟩)
          | (go_at_call 58; refine (l4Zero_ffft _ _ _ _ _ _ _ _ _ _ _ (by have := H1.out; omega) hl2 _ hZ).mono ?_; rintro e w1 ⟨rfl, b'⟩; have B1 := bel_next B0 b'; obtain ⟨y0, y1, y2, y3, y4, y5⟩ := (X0.below b').six; clear B0))
        go_ret
        exact ⟨rfl, B1⟩
set_option maxHeartbeats 4000000 in
theorem specRespOk_2 (pl nn : Int) (a1 a2 : Option Addr) (l1 l2 c1 c2 : Nat) (ws : List Int) (w : World) (h1 : l1 = ws.length) (s1 : SlI w a1 ws) (hl1 : ws.length ≤ 2000000) (hl2 : l2 ≤ 20000000) (hW : allW ws = true) (hP : inB pl 0 65535 = true) (b : Bool) (hb : okA 2 0 pl nn ws l1 l2 = b) :
    Calls Try.prog 37 #[rp 2 0 pl nn a1 a2 l1 l2 c1 c2] w fun e w' => e = .returned (.bool b) ∧ Below w.heap.size w w' := by
  have H1 : Hid (l1 = ws.length) := h1
  have hs : Hid (SlI w a1 ws) := s1
  have B0 := bel_alloc w (.cells #[.int .i64 2, .int .i64 0, .int .i64 pl, .int .i64 nn, .slice a1 l1 c1, .slice a2 l2 c2] 63)
  have X0 := Blk.new w #[.int .i64 2, .int .i64 0, .int .i64 pl, .int .i64 nn, .slice a1 l1 c1, .slice a2 l2 c2] 63
  have S1 : Hid (SlI (w.alloc (.cells #[.int .i64 2, .int .i64 0, .int .i64 pl, .int .i64 nn, .slice a1 l1 c1, .slice a2 l2 c2] 63)) a1 ws) := s1.below B0
  clear h1 s1
  cases hZ : zr4 false false false true pl nn l1 l2
  · skip
    have e : okA 2 0 pl nn ws l1 l2 = false := by simp [okA, okAK, hW, hP, hZ, kindB, inB_z]
    rw [e] at hb
    subst hb
    clear e
    go_enter Try.func37, Try.ntmps37
    go_wp2_with (first
      | (go_at_call 57; refine (l3Kind_any _ _ _ rfl).mono ?_; rintro e wx ⟨rfl, rfl⟩)
      | (go_at_call 34; refine (l3Words_any _ _ _ ws _ H1.out S1.out hl1 _ hW).mono ?_; rintro e wx ⟨rfl, rfl⟩)
      | (go_at_call 13; refine (l1In_any _ _ _ _ _ (by first | exact hP | exact (rfl : inB 0 0 255 = true) | fail)).mono ?_; rintro e wx ⟨rfl, rfl⟩)
      | (go_at_call 58; refine (l4Zero_ffft _ _ _ _ _ _ _ _ _ _ _ (by have := H1.out; omega) hl2 _ hZ).mono ?_; rintro e w1 ⟨rfl, b'⟩; have B1 := bel_next B0 b'; obtain ⟨y0, y1, y2, y3, y4, y5⟩ := (X0.below b').six; clear B0))
    go_ret
    exact ⟨rfl, B1⟩
  · skip
    cases hN : inB l2 1 2000
    · skip
      have e : okA 2 0 pl nn ws l1 l2 = false := by simp [okA, okAK, hW, hP, hZ, hN, kindB, inB_z]
      rw [e] at hb
      subst hb
      clear e
      go_enter Try.func37, Try.ntmps37
      go_wp2_with (first
        | (go_at_call 57; refine (l3Kind_any _ _ _ rfl).mono ?_; rintro e wx ⟨rfl, rfl⟩)
        | (go_at_call 34; refine (l3Words_any _ _ _ ws _ H1.out S1.out hl1 _ hW).mono ?_; rintro e wx ⟨rfl, rfl⟩)
        | (go_at_call 13; refine (l1In_any _ _ _ _ _ (by first | exact hP | exact hN | exact (rfl : inB 0 0 255 = true) | fail)).mono ?_; rintro e wx ⟨rfl, rfl⟩)
        | (go_at_call 58; refine (l4Zero_ffft _ _ _ _ _ _ _ _ _ _ _ (by have := H1.out; omega) hl2 _ hZ).mono ?_; rintro e w1 ⟨rfl, b'⟩; have B1 := bel_next B0 b'; obtain ⟨y0, y1, y2, y3, y4, y5⟩ := (X0.below b').six; clear B0))
      go_ret
      exact ⟨rfl, B1⟩
    · skip
      by_cases hM : l2 % 8 = 0
      · skip
        have e : okA 2 0 pl nn ws l1 l2 = true := by simp [okA, okAK, hW, hP, hZ, hN, hM, kindB, inB_z]
        rw [e] at hb
        subst hb
        clear e
        have hMi : (l2 : Int) % 8 = 0 := by omega
        have hMt : ((l2 : Int) % 8 == 0) = true := by simp; omega
        clear hM
        go_enter Try.func37, Try.ntmps37
        go_wp2_with (first
          | (go_at_call 57; refine (l3Kind_any _ _ _ rfl).mono ?_; rintro e wx ⟨rfl, rfl⟩)
          | (go_at_call 34; refine (l3Words_any _ _ _ ws _ H1.out S1.out hl1 _ hW).mono ?_; rintro e wx ⟨rfl, rfl⟩)
          | (go_at_call 13; refine (l1In_any _ _ _ _ _ (by first | exact hP | exact hN | exact (rfl : inB 0 0 255 = true) | fail)).mono ?_; rintro e wx ⟨rfl, rfl⟩)
          | (go_at_call 58; refine (l4Zero_ffft _ _ _ _ _ _ _ _ _ _ _ (by have := H1.out; omega) hl2 _ hZ).mono ?_; rintro e w1 ⟨rfl, b'⟩; have B1 := bel_next B0 b'; obtain ⟨y0, y1, y2, y3, y4, y5⟩ := (X0.below b').six; clear B0))
        go_ret
        exact ⟨rfl, B1⟩
      · skip
        have e : okA 2 0 pl nn ws l1 l2 = false := by simp [okA, okAK, hW, hP, hZ, hN, hM, kindB, inB_z]
        rw [e] at hb
        subst hb
        clear e
        have hMi : ¬ (l2 : Int) % 8 = 0 := by omega
        have hMt : ((l2 : Int) % 8 == 0) = false := by simp; omega
        clear hM
        go_enter Try.func37, Try.ntmps37
        go_wp2_with (first
          | (go_at_call 57; refine (l3Kind_any _ _ _ rfl).mono ?_; rintro e wx ⟨rfl, rfl⟩)
          | (go_at_call 34; refine (l3Words_any _ _ _ ws _ H1.out S1.out hl1 _ hW).mono ?_; rintro e wx ⟨rfl, rfl⟩)
          | (go_at_call 13; refine (l1In_any _ _ _ _ _ (by first | exact hP | exact hN | exact (rfl : inB 0 0 255 = true) | fail)).mono ?_; rintro e wx ⟨rfl, rfl⟩)
          | (go_at_call 58; refine (l4Zero_ffft _ _ _ _ _ _ _ _ _ _ _ (by have := H1.out; omega) hl2 _ hZ).mono ?_; rintro e w1 ⟨rfl, b'⟩; have B1 := bel_next B0 b'; obtain ⟨y0, y1, y2, y3, y4, y5⟩ := (X0.below b').six; clear B0))
        go_ret
        exact ⟨rfl, B1⟩
set_option maxHeartbeats 4000000 in
theorem specRespOk_3 (pl nn : Int) (a1 a2 : Option Addr) (l1 l2 c1 c2 : Nat) (ws : List Int) (w : World) (h1 : l1 = ws.length) (s1 : SlI w a1 ws) (hl1 : ws.length ≤ 2000000) (hl2 : l2 ≤ 20000000) (hW : allW ws = true) (hP : inB pl 0 65535 = true) (b : Bool) (hb : okA 3 0 pl nn ws l1 l2 = b) :
    Calls Try.prog 37 #[rp 3 0 pl nn a1 a2 l1 l2 c1 c2] w fun e w' => e = .returned (.bool b) ∧ Below w.heap.size w w' := by
  have H1 : Hid (l1 = ws.length) := h1
  have hs : Hid (SlI w a1 ws) := s1
  have B0 := bel_alloc w (.cells #[.int .i64 3, .int .i64 0, .int .i64 pl, .int .i64 nn, .slice a1 l1 c1, .slice a2 l2 c2] 63)
  have X0 := Blk.new w #[.int .i64 3, .int .i64 0, .int .i64 pl, .int .i64 nn, .slice a1 l1 c1, .slice a2 l2 c2] 63
  have S1 : Hid (SlI (w.alloc (.cells #[.int .i64 3, .int .i64 0, .int .i64 pl, .int .i64 nn, .slice a1 l1 c1, .slice a2 l2 c2] 63)) a1 ws) := s1.below B0
  clear h1 s1
  cases hZ : zr4 false false true false pl nn l1 l2
  · skip
    have e : okA 3 0 pl nn ws l1 l2 = false := by simp [okA, okAK, hW, hP, hZ, kindB, inB_z]
    rw [e] at hb
    subst hb
    clear e
    go_enter Try.func37, Try.ntmps37
    go_wp2_with (first
      | (go_at_call 57; refine (l3Kind_any _ _ _ rfl).mono ?_; rintro e wx ⟨rfl, rfl⟩)
      | (go_at_call 34; refine (l3Words_any _ _ _ ws _ H1.out S1.out hl1 _ hW).mono ?_; rintro e wx ⟨rfl, rfl⟩)
      | (go_at_call 13; refine (l1In_any _ _ _ _ _ (by first | exact hP | exact (rfl : inB 0 0 255 = true) | fail)).mono ?_; rintro e wx ⟨rfl, rfl⟩)
      | (go_at_call 58; refine (l4Zero_fftf _ _ _ _ _ _ _ _ _ _ _ (by have := H1.out; omega) hl2 _ hZ).mono ?_; rintro e w1 ⟨rfl, b'⟩; have B1 := bel_next B0 b'; obtain ⟨y0, y1, y2, y3, y4, y5⟩ := (X0.below b').six; clear B0))
    go_ret
    exact ⟨rfl, B1⟩
  · skip
    cases hN : inB l1 1 125
    · skip
      have e : okA 3 0 pl nn ws l1 l2 = false := by simp [okA, okAK, hW, hP, hZ, hN, kindB, inB_z]
      rw [e] at hb
      subst hb
      clear e
      go_enter Try.func37, Try.ntmps37
      go_wp2_with (first
        | (go_at_call 57; refine (l3Kind_any _ _ _ rfl).mono ?_; rintro e wx ⟨rfl, rfl⟩)
        | (go_at_call 34; refine (l3Words_any _ _ _ ws _ H1.out S1.out hl1 _ hW).mono ?_; rintro e wx ⟨rfl, rfl⟩)
        | (go_at_call 13; refine (l1In_any _ _ _ _ _ (by first | exact hP | exact hN | exact (rfl : inB 0 0 255 = true) | fail)).mono ?_; rintro e wx ⟨rfl, rfl⟩)
        | (go_at_call 58; refine (l4Zero_fftf _ _ _ _ _ _ _ _ _ _ _ (by have := H1.out; omega) hl2 _ hZ).mono ?_; rintro e w1 ⟨rfl, b'⟩; have B1 := bel_next B0 b'; obtain ⟨y0, y1, y2, y3, y4, y5⟩ := (X0.below b').six; clear B0))
      go_ret
      exact ⟨rfl, B1⟩
    · skip
      have e : okA 3 0 pl nn ws l1 l2 = true := by simp [okA, okAK, hW, hP, hZ, hN, kindB, inB_z]
      rw [e] at hb
      subst hb
      clear e
      go_enter Try.func37, Try.ntmps37
      go_wp2_with (first
        | (go_at_call 57; refine (l3Kind_any _ _ _ rfl).mono ?_; rintro e wx ⟨rfl, rfl⟩)
        | (go_at_call 34; refine (l3Words_any _ _ _ ws _ H1.out S1.out hl1 _ hW).mono ?_; rintro e wx ⟨rfl, rfl⟩)
        | (go_at_call 13; refine (l1In_any _ _ _ _ _ (by first | exact hP | exact hN | exact (rfl : inB 0 0 255 = true) | fail)).mono ?_; rintro e wx ⟨rfl, rfl⟩)
        | (go_at_call 58; refine (l4Zero_fftf _ _ _ _ _ _ _ _ _ _ _ (by have := H1.out; omega) hl2 _ hZ).mono ?_; rintro e w1 ⟨rfl, b'⟩; have B1 := bel_next B0 b'; obtain ⟨y0, y1, y2, y3, y4, y5⟩ := (X0.below b').six; clear B0))
      go_ret
      exact ⟨rfl, B1⟩
set_option maxHeartbeats 4000000 in
theorem specRespOk_4 (pl nn : Int) (a1 a2 : Option Addr) (l1 l2 c1 c2 : Nat) (ws : List Int) (w : World) (h1 : l1 = ws.length) (s1 : SlI w a1 ws) (hl1 : ws.length ≤ 2000000) (hl2 : l2 ≤ 20000000) (hW : allW ws = true) (hP : inB pl 0 65535 = true) (b : Bool) (hb : okA 4 0 pl nn ws l1 l2 = b) :
    Calls Try.prog 37 #[rp 4 0 pl nn a1 a2 l1 l2 c1 c2] w fun e w' => e = .returned (.bool b) ∧ Below w.heap.size w w' := by
  have H1 : Hid (l1 = ws.length) := h1
  have hs : Hid (SlI w a1 ws) := s1
  have B0 := bel_alloc w (.cells #[.int .i64 4, .int .i64 0, .int .i64 pl, .int .i64 nn, .slice a1 l1 c1, .slice a2 l2 c2] 63)
  have X0 := Blk.new w #[.int .i64 4, .int .i64 0, .int .i64 pl, .int .i64 nn, .slice a1 l1 c1, .slice a2 l2 c2] 63
  have S1 : Hid (SlI (w.alloc (.cells #[.int .i64 4, .int .i64 0, .int .i64 pl, .int .i64 nn, .slice a1 l1 c1, .slice a2 l2 c2] 63)) a1 ws) := s1.below B0
  clear h1 s1
  cases hZ : zr4 false false true false pl nn l1 l2
  · skip
    have e : okA 4 0 pl nn ws l1 l2 = false := by simp [okA, okAK, hW, hP, hZ, kindB, inB_z]
    rw [e] at hb
    subst hb
    clear e
    go_enter Try.func37, Try.ntmps37
    go_wp2_with (first
      | (go_at_call 57; refine (l3Kind_any _ _ _ rfl).mono ?_; rintro e wx ⟨rfl, rfl⟩)
      | (go_at_call 34; refine (l3Words_any _ _ _ ws _ H1.out S1.out hl1 _ hW).mono ?_; rintro e wx ⟨rfl, rfl⟩)
      | (go_at_call 13; refine (l1In_any _ _ _ _ _ (by first | exact hP | exact (rfl : inB 0 0 255 = true) | fail)).mono ?_; rintro e wx ⟨rfl, rfl⟩)
      | (go_at_call 58; refine (l4Zero_fftf _ _ _ _ _ _ _ _ _ _ _ (by have := H1.out; omega) hl2 _ hZ).mono ?_; rintro e w1 ⟨rfl, b'⟩; have B1 := bel_next B0 b'; obtain ⟨y0, y1, y2, y3, y4, y5⟩ := (X0.below b').six; clear B0))
    go_ret
    exact ⟨rfl, B1⟩
  · skip
    cases hN : inB l1 1 125
    · skip
      have e : okA 4 0 pl nn ws l1 l2 = false := by simp [okA, okAK, hW, hP, hZ, hN, kindB, inB_z]
      rw [e] at hb
      subst hb
      clear e
      go_enter Try.func37, Try.ntmps37
      go_wp2_with (first
        | (go_at_call 57; refine (l3Kind_any _ _ _ rfl).mono ?_; rintro e wx ⟨rfl, rfl⟩)
        | (go_at_call 34; refine (l3Words_any _ _ _ ws _ H1.out S1.out hl1 _ hW).mono ?_; rintro e wx ⟨rfl, rfl⟩)
        | (go_at_call 13; refine (l1In_any _ _ _ _ _ (by first | exact hP | exact hN | exact (rfl : inB 0 0 255 = true) | fail)).mono ?_; rintro e wx ⟨rfl, rfl⟩)
        | (go_at_call 58; refine (l4Zero_fftf _ _ _ _ _ _ _ _ _ _ _ (by have := H1.out; omega) hl2 _ hZ).mono ?_; rintro e w1 ⟨rfl, b'⟩; have B1 := bel_next B0 b'; obtain ⟨y0, y1, y2, y3, y4, y5⟩ := (X0.below b').six; clear B0))
      go_ret
      exact ⟨rfl, B1⟩
    · skip
      have e : okA 4 0 pl nn ws l1 l2 = true := by simp [okA, okAK, hW, hP, hZ, hN, kindB, inB_z]
      rw [e] at hb
      subst hb
      clear e
      go_enter Try.func37, Try.ntmps37
      go_wp2_with (first
        | (go_at_call 57; refine (l3Kind_any _ _ _ rfl).mono ?_; rintro e wx ⟨rfl, rfl⟩)
        | (go_at_call 34; refine (l3Words_any _ _ _ ws _ H1.out S1.out hl1 _ hW).mono ?_; rintro e wx ⟨rfl, rfl⟩)
        | (go_at_call 13; refine (l1In_any _ _ _ _ _ (by first | exact hP | exact hN | exact (rfl : inB 0 0 255 = true) | fail)).mono ?_; rintro e wx ⟨rfl, rfl⟩)
        | (go_at_call 58; refine (l4Zero_fftf _ _ _ _ _ _ _ _ _ _ _ (by have := H1.out; omega) hl2 _ hZ).mono ?_; rintro e w1 ⟨rfl, b'⟩; have B1 := bel_next B0 b'; obtain ⟨y0, y1, y2, y3, y4, y5⟩ := (X0.below b').six; clear B0))
      go_ret
      exact ⟨rfl, B1⟩
set_option maxHeartbeats 4000000 in
theorem specRespOk_23 (pl nn : Int) (a1 a2 : Option Addr) (l1 l2 c1 c2 : Nat) (ws : List Int) (w : World) (h1 : l1 = ws.length) (s1 : SlI w a1 ws) (hl1 : ws.length ≤ 2000000) (hl2 : l2 ≤ 20000000) (hW : allW ws = true) (hP : inB pl 0 65535 = true) (b : Bool) (hb : okA 23 0 pl nn ws l1 l2 = b) :
    Calls Try.prog 37 #[rp 23 0 pl nn a1 a2 l1 l2 c1 c2] w fun e w' => e = .returned (.bool b) ∧ Below w.heap.size w w' := by
  have H1 : Hid (l1 = ws.length) := h1
  have hs : Hid (SlI w a1 ws) := s1
  have B0 := bel_alloc w (.cells #[.int .i64 23, .int .i64 0, .int .i64 pl, .int .i64 nn, .slice a1 l1 c1, .slice a2 l2 c2] 63)
  have X0 := Blk.new w #[.int .i64 23, .int .i64 0, .int .i64 pl, .int .i64 nn, .slice a1 l1 c1, .slice a2 l2 c2] 63
  have S1 : Hid (SlI (w.alloc (.cells #[.int .i64 23, .int .i64 0, .int .i64 pl, .int .i64 nn, .slice a1 l1 c1, .slice a2 l2 c2] 63)) a1 ws) := s1.below B0
  clear h1 s1
  cases hZ : zr4 false false true false pl nn l1 l2
  · skip
    have e : okA 23 0 pl nn ws l1 l2 = false := by simp [okA, okAK, hW, hP, hZ, kindB, inB_z]
    rw [e] at hb
    subst hb
    clear e
    go_enter Try.func37, Try.ntmps37
    go_wp2_with (first
      | (go_at_call 57; refine (l3Kind_any _ _ _ rfl).mono ?_; rintro e wx ⟨rfl, rfl⟩)
      | (go_at_call 34; refine (l3Words_any _ _ _ ws _ H1.out S1.out hl1 _ hW).mono ?_; rintro e wx ⟨rfl, rfl⟩)
      | (go_at_call 13; refine (l1In_any _ _ _ _ _ (by first | exact hP | exact (rfl : inB 0 0 255 = true) | fail)).mono ?_; rintro e wx ⟨rfl, rfl⟩)
      | (go_at_call 58; refine (l4Zero_fftf _ _ _ _ _ _ _ _ _ _ _ (by have := H1.out; omega) hl2 _ hZ).mono ?_; rintro e w1 ⟨rfl, b'⟩; have B1 := bel_next B0 b'; obtain ⟨y0, y1, y2, y3, y4, y5⟩ := (X0.below b').six; clear B0))
    go_ret
    exact ⟨rfl, B1⟩
  · skip
    cases hN : inB l1 1 125
    · skip
      have e : okA 23 0 pl nn ws l1 l2 = false := by simp [okA, okAK, hW, hP, hZ, hN, kindB, inB_z]
      rw [e] at hb
      subst hb
      clear e
      go_enter Try.func37, Try.ntmps37
      go_wp2_with (first
        | (go_at_call 57; refine (l3Kind_any _ _ _ rfl).mono ?_; rintro e wx ⟨rfl, rfl⟩)
        | (go_at_call 34; refine (l3Words_any _ _ _ ws _ H1.out S1.out hl1 _ hW).mono ?_; rintro e wx ⟨rfl, rfl⟩)
        | (go_at_call 13; refine (l1In_any _ _ _ _ _ (by first | exact hP | exact hN | exact (rfl : inB 0 0 255 = true) | fail)).mono ?_; rintro e wx ⟨rfl, rfl⟩)
        | (go_at_call 58; refine (l4Zero_fftf _ _ _ _ _ _ _ _ _ _ _ (by have := H1.out; omega) hl2 _ hZ).mono ?_; rintro e w1 ⟨rfl, b'⟩; have B1 := bel_next B0 b'; obtain ⟨y0, y1, y2, y3, y4, y5⟩ := (X0.below b').six; clear B0))
      go_ret
      exact ⟨rfl, B1⟩
    · skip
      have e : okA 23 0 pl nn ws l1 l2 = true := by simp [okA, okAK, hW, hP, hZ, hN, kindB, inB_z]
      rw [e] at hb
      subst hb
      clear e
      go_enter Try.func37, Try.ntmps37
      go_wp2_with (first
        | (go_at_call 57; refine (l3Kind_any _ _ _ rfl).mono ?_; rintro e wx ⟨rfl, rfl⟩)
        | (go_at_call 34; refine (l3Words_any _ _ _ ws _ H1.out S1.out hl1 _ hW).mono ?_; rintro e wx ⟨rfl, rfl⟩)
        | (go_at_call 13; refine (l1In_any _ _ _ _ _ (by first | exact hP | exact hN | exact (rfl : inB 0 0 255 = true) | fail)).mono ?_; rintro e wx ⟨rfl, rfl⟩)
        | (go_at_call 58; refine (l4Zero_fftf _ _ _ _ _ _ _ _ _ _ _ (by have := H1.out; omega) hl2 _ hZ).mono ?_; rintro e w1 ⟨rfl, b'⟩; have B1 := bel_next B0 b'; obtain ⟨y0, y1, y2, y3, y4, y5⟩ := (X0.below b').six; clear B0))
      go_ret
      exact ⟨rfl, B1⟩
set_option maxHeartbeats 4000000 in
theorem specRespOk_5 (pl nn : Int) (a1 a2 : Option Addr) (l1 l2 c1 c2 : Nat) (ws : List Int) (w : World) (h1 : l1 = ws.length) (s1 : SlI w a1 ws) (hl1 : ws.length ≤ 2000000) (hl2 : l2 ≤ 20000000) (hW : allW ws = true) (hP : inB pl 0 65535 = true) (b : Bool) (hb : okA 5 0 pl nn ws l1 l2 = b) :
    Calls Try.prog 37 #[rp 5 0 pl nn a1 a2 l1 l2 c1 c2] w fun e w' => e = .returned (.bool b) ∧ Below w.heap.size w w' := by
  have H1 : Hid (l1 = ws.length) := h1
  have hs : Hid (SlI w a1 ws) := s1
  have B0 := bel_alloc w (.cells #[.int .i64 5, .int .i64 0, .int .i64 pl, .int .i64 nn, .slice a1 l1 c1, .slice a2 l2 c2] 63)
  have X0 := Blk.new w #[.int .i64 5, .int .i64 0, .int .i64 pl, .int .i64 nn, .slice a1 l1 c1, .slice a2 l2 c2] 63
  have S1 : Hid (SlI (w.alloc (.cells #[.int .i64 5, .int .i64 0, .int .i64 pl, .int .i64 nn, .slice a1 l1 c1, .slice a2 l2 c2] 63)) a1 ws) := s1.below B0
  clear h1 s1
  cases hZ : zr4 true false false true pl nn l1 l2
  · skip
    have e : okA 5 0 pl nn ws l1 l2 = false := by simp [okA, okAK, hW, hP, hZ, kindB, inB_z]
    rw [e] at hb
    subst hb
    clear e
    go_enter Try.func37, Try.ntmps37
    go_wp2_with (first
      | (go_at_call 57; refine (l3Kind_any _ _ _ rfl).mono ?_; rintro e wx ⟨rfl, rfl⟩)
      | (go_at_call 34; refine (l3Words_any _ _ _ ws _ H1.out S1.out hl1 _ hW).mono ?_; rintro e wx ⟨rfl, rfl⟩)
      | (go_at_call 13; refine (l1In_any _ _ _ _ _ (by first | exact hP | exact (rfl : inB 0 0 255 = true) | fail)).mono ?_; rintro e wx ⟨rfl, rfl⟩)
      | (go_at_call 58; refine (l4Zero_tfft _ _ _ _ _ _ _ _ _ _ _ (by have := H1.out; omega) hl2 _ hZ).mono ?_; rintro e w1 ⟨rfl, b'⟩; have B1 := bel_next B0 b'; obtain ⟨y0, y1, y2, y3, y4, y5⟩ := (X0.below b').six; clear B0))
    go_ret
    exact ⟨rfl, B1⟩
  · skip
    by_cases hL : l2 = 1
    · skip
      have e : okA 5 0 pl nn ws l1 l2 = true := by rw [hL] at hZ ⊢; simp [okA, okAK, hW, hP, hZ, kindB, inB_z]
      rw [e] at hb
      subst hb
      clear e
      have hLi : (l2 : Int) = 1 := by omega
      clear hL
      go_enter Try.func37, Try.ntmps37
      go_wp2_with (first
        | (go_at_call 57; refine (l3Kind_any _ _ _ rfl).mono ?_; rintro e wx ⟨rfl, rfl⟩)
        | (go_at_call 34; refine (l3Words_any _ _ _ ws _ H1.out S1.out hl1 _ hW).mono ?_; rintro e wx ⟨rfl, rfl⟩)
        | (go_at_call 13; refine (l1In_any _ _ _ _ _ (by first | exact hP | exact (rfl : inB 0 0 255 = true) | fail)).mono ?_; rintro e wx ⟨rfl, rfl⟩)
        | (go_at_call 58; refine (l4Zero_tfft _ _ _ _ _ _ _ _ _ _ _ (by have := H1.out; omega) hl2 _ hZ).mono ?_; rintro e w1 ⟨rfl, b'⟩; have B1 := bel_next B0 b'; obtain ⟨y0, y1, y2, y3, y4, y5⟩ := (X0.below b').six; clear B0))
      go_ret
      exact ⟨rfl, B1⟩
    · skip
      have e : okA 5 0 pl nn ws l1 l2 = false := by simp [okA, okAK, hW, hP, hZ, hL, kindB, inB_z]
      rw [e] at hb
      subst hb
      clear e
      have hLi : ((l2 : Int) == 1) = false := by simp; omega
      clear hL
      go_enter Try.func37, Try.ntmps37
      go_wp2_with (first
        | (go_at_call 57; refine (l3Kind_any _ _ _ rfl).mono ?_; rintro e wx ⟨rfl, rfl⟩)
        | (go_at_call 34; refine (l3Words_any _ _ _ ws _ H1.out S1.out hl1 _ hW).mono ?_; rintro e wx ⟨rfl, rfl⟩)
        | (go_at_call 13; refine (l1In_any _ _ _ _ _ (by first | exact hP | exact (rfl : inB 0 0 255 = true) | fail)).mono ?_; rintro e wx ⟨rfl, rfl⟩)
        | (go_at_call 58; refine (l4Zero_tfft _ _ _ _ _ _ _ _ _ _ _ (by have := H1.out; omega) hl2 _ hZ).mono ?_; rintro e w1 ⟨rfl, b'⟩; have B1 := bel_next B0 b'; obtain ⟨y0, y1, y2, y3, y4, y5⟩ := (X0.below b').six; clear B0))
      go_ret
      exact ⟨rfl, B1⟩
set_option maxHeartbeats 4000000 in
theorem specRespOk_6 (pl nn : Int) (a1 a2 : Option Addr) (l1 l2 c1 c2 : Nat) (ws : List Int) (w : World) (h1 : l1 = ws.length) (s1 : SlI w a1 ws) (hl1 : ws.length ≤ 2000000) (hl2 : l2 ≤ 20000000) (hW : allW ws = true) (hP : inB pl 0 65535 = true) (b : Bool) (hb : okA 6 0 pl nn ws l1 l2 = b) :
    Calls Try.prog 37 #[rp 6 0 pl nn a1 a2 l1 l2 c1 c2] w fun e w' => e = .returned (.bool b) ∧ Below w.heap.size w w' := by
  have H1 : Hid (l1 = ws.length) := h1
  have hs : Hid (SlI w a1 ws) := s1
  have B0 := bel_alloc w (.cells #[.int .i64 6, .int .i64 0, .int .i64 pl, .int .i64 nn, .slice a1 l1 c1, .slice a2 l2 c2] 63)
  have X0 := Blk.new w #[.int .i64 6, .int .i64 0, .int .i64 pl, .int .i64 nn, .slice a1 l1 c1, .slice a2 l2 c2] 63
  have S1 : Hid (SlI (w.alloc (.cells #[.int .i64 6, .int .i64 0, .int .i64 pl, .int .i64 nn, .slice a1 l1 c1, .slice a2 l2 c2] 63)) a1 ws) := s1.below B0
  clear h1 s1
  cases hZ : zr4 true false true false pl nn l1 l2
  · skip
    have e : okA 6 0 pl nn ws l1 l2 = false := by simp [okA, okAK, hW, hP, hZ, kindB, inB_z]
    rw [e] at hb
    subst hb
    clear e
    go_enter Try.func37, Try.ntmps37
    go_wp2_with (first
      | (go_at_call 57; refine (l3Kind_any _ _ _ rfl).mono ?_; rintro e wx ⟨rfl, rfl⟩)
      | (go_at_call 34; refine (l3Words_any _ _ _ ws _ H1.out S1.out hl1 _ hW).mono ?_; rintro e wx ⟨rfl, rfl⟩)
      | (go_at_call 13; refine (l1In_any _ _ _ _ _ (by first | exact hP | exact (rfl : inB 0 0 255 = true) | fail)).mono ?_; rintro e wx ⟨rfl, rfl⟩)
      | (go_at_call 58; refine (l4Zero_tftf _ _ _ _ _ _ _ _ _ _ _ (by have := H1.out; omega) hl2 _ hZ).mono ?_; rintro e w1 ⟨rfl, b'⟩; have B1 := bel_next B0 b'; obtain ⟨y0, y1, y2, y3, y4, y5⟩ := (X0.below b').six; clear B0))
    go_ret
    exact ⟨rfl, B1⟩
  · skip
    by_cases hL : l1 = 1
    · skip
      have e : okA 6 0 pl nn ws l1 l2 = true := by rw [hL] at hZ ⊢; simp [okA, okAK, hW, hP, hZ, kindB, inB_z]
      rw [e] at hb
      subst hb
      clear e
      have hLi : (l1 : Int) = 1 := by omega
      clear hL
      go_enter Try.func37, Try.ntmps37
      go_wp2_with (first
        | (go_at_call 57; refine (l3Kind_any _ _ _ rfl).mono ?_; rintro e wx ⟨rfl, rfl⟩)
        | (go_at_call 34; refine (l3Words_any _ _ _ ws _ H1.out S1.out hl1 _ hW).mono ?_; rintro e wx ⟨rfl, rfl⟩)
        | (go_at_call 13; refine (l1In_any _ _ _ _ _ (by first | exact hP | exact (rfl : inB 0 0 255 = true) | fail)).mono ?_; rintro e wx ⟨rfl, rfl⟩)
        | (go_at_call 58; refine (l4Zero_tftf _ _ _ _ _ _ _ _ _ _ _ (by have := H1.out; omega) hl2 _ hZ).mono ?_; rintro e w1 ⟨rfl, b'⟩; have B1 := bel_next B0 b'; obtain ⟨y0, y1, y2, y3, y4, y5⟩ := (X0.below b').six; clear B0))
      go_ret
      exact ⟨rfl, B1⟩
    · skip
      have e : okA 6 0 pl nn ws l1 l2 = false := by simp [okA, okAK, hW, hP, hZ, hL, kindB, inB_z]
      rw [e] at hb
      subst hb
      clear e
      have hLi : ((l1 : Int) == 1) = false := by simp; omega
      clear hL
      go_enter Try.func37, Try.ntmps37
      go_wp2_with (first
        | (go_at_call 57; refine (l3Kind_any _ _ _ rfl).mono ?_; rintro e wx ⟨rfl, rfl⟩)
        | (go_at_call 34; refine (l3Words_any _ _ _ ws _ H1.out S1.out hl1 _ hW).mono ?_; rintro e wx ⟨rfl, rfl⟩)
        | (go_at_call 13; refine (l1In_any _ _ _ _ _ (by first | exact hP | exact (rfl : inB 0 0 255 = true) | fail)).mono ?_; rintro e wx ⟨rfl, rfl⟩)
        | (go_at_call 58; refine (l4Zero_tftf _ _ _ _ _ _ _ _ _ _ _ (by have := H1.out; omega) hl2 _ hZ).mono ?_; rintro e w1 ⟨rfl, b'⟩; have B1 := bel_next B0 b'; obtain ⟨y0, y1, y2, y3, y4, y5⟩ := (X0.below b').six; clear B0))
      go_ret
      exact ⟨rfl, B1⟩
set_option maxHeartbeats 4000000 in
theorem specRespOk_22 (pl nn : Int) (a1 a2 : Option Addr) (l1 l2 c1 c2 : Nat) (ws : List Int) (w : World) (h1 : l1 = ws.length) (s1 : SlI w a1 ws) (hl1 : ws.length ≤ 2000000) (hl2 : l2 ≤ 20000000) (hW : allW ws = true) (hP : inB pl 0 65535 = true) (b : Bool) (hb : okA 22 0 pl nn ws l1 l2 = b) :
    Calls Try.prog 37 #[rp 22 0 pl nn a1 a2 l1 l2 c1 c2] w fun e w' => e = .returned (.bool b) ∧ Below w.heap.size w w' := by
  have H1 : Hid (l1 = ws.length) := h1
  have hs : Hid (SlI w a1 ws) := s1
  have B0 := bel_alloc w (.cells #[.int .i64 22, .int .i64 0, .int .i64 pl, .int .i64 nn, .slice a1 l1 c1, .slice a2 l2 c2] 63)
  have X0 := Blk.new w #[.int .i64 22, .int .i64 0, .int .i64 pl, .int .i64 nn, .slice a1 l1 c1, .slice a2 l2 c2] 63
  have S1 : Hid (SlI (w.alloc (.cells #[.int .i64 22, .int .i64 0, .int .i64 pl, .int .i64 nn, .slice a1 l1 c1, .slice a2 l2 c2] 63)) a1 ws) := s1.below B0
  clear h1 s1
  cases hZ : zr4 true false true false pl nn l1 l2
  · skip
    have e : okA 22 0 pl nn ws l1 l2 = false := by simp [okA, okAK, hW, hP, hZ, kindB, inB_z]
    rw [e] at hb
    subst hb
    clear e
    go_enter Try.func37, Try.ntmps37
    go_wp2_with (first
      | (go_at_call 57; refine (l3Kind_any _ _ _ rfl).mono ?_; rintro e wx ⟨rfl, rfl⟩)
      | (go_at_call 34; refine (l3Words_any _ _ _ ws _ H1.out S1.out hl1 _ hW).mono ?_; rintro e wx ⟨rfl, rfl⟩)
      | (go_at_call 13; refine (l1In_any _ _ _ _ _ (by first | exact hP | exact (rfl : inB 0 0 255 = true) | fail)).mono ?_; rintro e wx ⟨rfl, rfl⟩)
      | (go_at_call 58; refine (l4Zero_tftf _ _ _ _ _ _ _ _ _ _ _ (by have := H1.out; omega) hl2 _ hZ).mono ?_; rintro e w1 ⟨rfl, b'⟩; have B1 := bel_next B0 b'; obtain ⟨y0, y1, y2, y3, y4, y5⟩ := (X0.below b').six; clear B0))
    go_ret
    exact ⟨rfl, B1⟩
  · skip
    by_cases hL : l1 = 2
    · skip
      have e : okA 22 0 pl nn ws l1 l2 = true := by rw [hL] at hZ ⊢; simp [okA, okAK, hW, hP, hZ, kindB, inB_z]
      rw [e] at hb
      subst hb
      clear e
      have hLi : (l1 : Int) = 2 := by omega
      clear hL
      go_enter Try.func37, Try.ntmps37
      go_wp2_with (first
        | (go_at_call 57; refine (l3Kind_any _ _ _ rfl).mono ?_; rintro e wx ⟨rfl, rfl⟩)
        | (go_at_call 34; refine (l3Words_any _ _ _ ws _ H1.out S1.out hl1 _ hW).mono ?_; rintro e wx ⟨rfl, rfl⟩)
        | (go_at_call 13; refine (l1In_any _ _ _ _ _ (by first | exact hP | exact (rfl : inB 0 0 255 = true) | fail)).mono ?_; rintro e wx ⟨rfl, rfl⟩)
        | (go_at_call 58; refine (l4Zero_tftf _ _ _ _ _ _ _ _ _ _ _ (by have := H1.out; omega) hl2 _ hZ).mono ?_; rintro e w1 ⟨rfl, b'⟩; have B1 := bel_next B0 b'; obtain ⟨y0, y1, y2, y3, y4, y5⟩ := (X0.below b').six; clear B0))
      go_ret
      exact ⟨rfl, B1⟩
    · skip
      have e : okA 22 0 pl nn ws l1 l2 = false := by simp [okA, okAK, hW, hP, hZ, hL, kindB, inB_z]
      rw [e] at hb
      subst hb
      clear e
      have hLi : ((l1 : Int) == 2) = false := by simp; omega
      clear hL
      go_enter Try.func37, Try.ntmps37
      go_wp2_with (first
        | (go_at_call 57; refine (l3Kind_any _ _ _ rfl).mono ?_; rintro e wx ⟨rfl, rfl⟩)
        | (go_at_call 34; refine (l3Words_any _ _ _ ws _ H1.out S1.out hl1 _ hW).mono ?_; rintro e wx ⟨rfl, rfl⟩)
        | (go_at_call 13; refine (l1In_any _ _ _ _ _ (by first | exact hP | exact (rfl : inB 0 0 255 = true) | fail)).mono ?_; rintro e wx ⟨rfl, rfl⟩)
        | (go_at_call 58; refine (l4Zero_tftf _ _ _ _ _ _ _ _ _ _ _ (by have := H1.out; omega) hl2 _ hZ).mono ?_; rintro e w1 ⟨rfl, b'⟩; have B1 := bel_next B0 b'; obtain ⟨y0, y1, y2, y3, y4, y5⟩ := (X0.below b').six; clear B0))
      go_ret
      exact ⟨rfl, B1⟩
set_option maxHeartbeats 4000000 in
theorem specRespOk_15 (pl nn : Int) (a1 a2 : Option Addr) (l1 l2 c1 c2 : Nat) (ws : List Int) (w : World) (h1 : l1 = ws.length) (s1 : SlI w a1 ws) (hl1 : ws.length ≤ 2000000) (hl2 : l2 ≤ 20000000) (hW : allW ws = true) (hP : inB pl 0 65535 = true) (b : Bool) (hb : okA 15 0 pl nn ws l1 l2 = b) :
    Calls Try.prog 37 #[rp 15 0 pl nn a1 a2 l1 l2 c1 c2] w fun e w' => e = .returned (.bool b) ∧ Below w.heap.size w w' := by
  have H1 : Hid (l1 = ws.length) := h1
  have hs : Hid (SlI w a1 ws) := s1
  have B0 := bel_alloc w (.cells #[.int .i64 15, .int .i64 0, .int .i64 pl, .int .i64 nn, .slice a1 l1 c1, .slice a2 l2 c2] 63)
  have X0 := Blk.new w #[.int .i64 15, .int .i64 0, .int .i64 pl, .int .i64 nn, .slice a1 l1 c1, .slice a2 l2 c2] 63
  have S1 : Hid (SlI (w.alloc (.cells #[.int .i64 15, .int .i64 0, .int .i64 pl, .int .i64 nn, .slice a1 l1 c1, .slice a2 l2 c2] 63)) a1 ws) := s1.below B0
  clear h1 s1
  cases hZ : zr4 true true false false pl nn l1 l2
  · skip
    have e : okA 15 0 pl nn ws l1 l2 = false := by simp [okA, okAK, hW, hP, hZ, kindB, inB_z]
    rw [e] at hb
    subst hb
    clear e
    go_enter Try.func37, Try.ntmps37
    go_wp2_with (first
      | (go_at_call 57; refine (l3Kind_any _ _ _ rfl).mono ?_; rintro e wx ⟨rfl, rfl⟩)
      | (go_at_call 34; refine (l3Words_any _ _ _ ws _ H1.out S1.out hl1 _ hW).mono ?_; rintro e wx ⟨rfl, rfl⟩)
      | (go_at_call 13; refine (l1In_any _ _ _ _ _ (by first | exact hP | exact (rfl : inB 0 0 255 = true) | fail)).mono ?_; rintro e wx ⟨rfl, rfl⟩)
      | (go_at_call 58; refine (l4Zero_ttff _ _ _ _ _ _ _ _ _ _ _ (by have := H1.out; omega) hl2 _ hZ).mono ?_; rintro e w1 ⟨rfl, b'⟩; have B1 := bel_next B0 b'; obtain ⟨y0, y1, y2, y3, y4, y5⟩ := (X0.below b').six; clear B0))
    go_ret
    exact ⟨rfl, B1⟩
  · skip
    cases hN : inB nn 1 1968
    · skip
      have e : okA 15 0 pl nn ws l1 l2 = false := by simp [okA, okAK, hW, hP, hZ, hN, kindB, inB_z]
      rw [e] at hb
      subst hb
      clear e
      go_enter Try.func37, Try.ntmps37
      go_wp2_with (first
        | (go_at_call 57; refine (l3Kind_any _ _ _ rfl).mono ?_; rintro e wx ⟨rfl, rfl⟩)
        | (go_at_call 34; refine (l3Words_any _ _ _ ws _ H1.out S1.out hl1 _ hW).mono ?_; rintro e wx ⟨rfl, rfl⟩)
        | (go_at_call 13; refine (l1In_any _ _ _ _ _ (by first | exact hP | exact hN | exact (rfl : inB 0 0 255 = true) | fail)).mono ?_; rintro e wx ⟨rfl, rfl⟩)
        | (go_at_call 58; refine (l4Zero_ttff _ _ _ _ _ _ _ _ _ _ _ (by have := H1.out; omega) hl2 _ hZ).mono ?_; rintro e w1 ⟨rfl, b'⟩; have B1 := bel_next B0 b'; obtain ⟨y0, y1, y2, y3, y4, y5⟩ := (X0.below b').six; clear B0))
      go_ret
      exact ⟨rfl, B1⟩
    · skip
      have e : okA 15 0 pl nn ws l1 l2 = true := by simp [okA, okAK, hW, hP, hZ, hN, kindB, inB_z]
      rw [e] at hb
      subst hb
      clear e
      go_enter Try.func37, Try.ntmps37
      go_wp2_with (first
        | (go_at_call 57; refine (l3Kind_any _ _ _ rfl).mono ?_; rintro e wx ⟨rfl, rfl⟩)
        | (go_at_call 34; refine (l3Words_any _ _ _ ws _ H1.out S1.out hl1 _ hW).mono ?_; rintro e wx ⟨rfl, rfl⟩)
        | (go_at_call 13; refine (l1In_any _ _ _ _ _ (by first | exact hP | exact hN | exact (rfl : inB 0 0 255 = true) | fail)).mono ?_; rintro e wx ⟨rfl, rfl⟩)
        | (go_at_call 58; refine (l4Zero_ttff _ _ _ _ _ _ _ _ _ _ _ (by have := H1.out; omega) hl2 _ hZ).mono ?_; rintro e w1 ⟨rfl, b'⟩; have B1 := bel_next B0 b'; obtain ⟨y0, y1, y2, y3, y4, y5⟩ := (X0.below b').six; clear B0))
      go_ret
      exact ⟨rfl, B1⟩
set_option maxHeartbeats 4000000 in
theorem specRespOk_16 (pl nn : Int) (a1 a2 : Option Addr) (l1 l2 c1 c2 : Nat) (ws : List Int) (w : World) (h1 : l1 = ws.length) (s1 : SlI w a1 ws) (hl1 : ws.length ≤ 2000000) (hl2 : l2 ≤ 20000000) (hW : allW ws = true) (hP : inB pl 0 65535 = true) (b : Bool) (hb : okA 16 0 pl nn ws l1 l2 = b) :
    Calls Try.prog 37 #[rp 16 0 pl nn a1 a2 l1 l2 c1 c2] w fun e w' => e = .returned (.bool b) ∧ Below w.heap.size w w' := by
  have H1 : Hid (l1 = ws.length) := h1
  have hs : Hid (SlI w a1 ws) := s1
  have B0 := bel_alloc w (.cells #[.int .i64 16, .int .i64 0, .int .i64 pl, .int .i64 nn, .slice a1 l1 c1, .slice a2 l2 c2] 63)
  have X0 := Blk.new w #[.int .i64 16, .int .i64 0, .int .i64 pl, .int .i64 nn, .slice a1 l1 c1, .slice a2 l2 c2] 63
  have S1 : Hid (SlI (w.alloc (.cells #[.int .i64 16, .int .i64 0, .int .i64 pl, .int .i64 nn, .slice a1 l1 c1, .slice a2 l2 c2] 63)) a1 ws) := s1.below B0
  clear h1 s1
  cases hZ : zr4 true true false false pl nn l1 l2
  · skip
    have e : okA 16 0 pl nn ws l1 l2 = false := by simp [okA, okAK, hW, hP, hZ, kindB, inB_z]
    rw [e] at hb
    subst hb
    clear e
    go_enter Try.func37, Try.ntmps37
    go_wp2_with (first
      | (go_at_call 57; refine (l3Kind_any _ _ _ rfl).mono ?_; rintro e wx ⟨rfl, rfl⟩)
      | (go_at_call 34; refine (l3Words_any _ _ _ ws _ H1.out S1.out hl1 _ hW).mono ?_; rintro e wx ⟨rfl, rfl⟩)
      | (go_at_call 13; refine (l1In_any _ _ _ _ _ (by first | exact hP | exact (rfl : inB 0 0 255 = true) | fail)).mono ?_; rintro e wx ⟨rfl, rfl⟩)
      | (go_at_call 58; refine (l4Zero_ttff _ _ _ _ _ _ _ _ _ _ _ (by have := H1.out; omega) hl2 _ hZ).mono ?_; rintro e w1 ⟨rfl, b'⟩; have B1 := bel_next B0 b'; obtain ⟨y0, y1, y2, y3, y4, y5⟩ := (X0.below b').six; clear B0))
    go_ret
    exact ⟨rfl, B1⟩
  · skip
    cases hN : inB nn 1 123
    · skip
      have e : okA 16 0 pl nn ws l1 l2 = false := by simp [okA, okAK, hW, hP, hZ, hN, kindB, inB_z]
      rw [e] at hb
      subst hb
      clear e
      go_enter Try.func37, Try.ntmps37
      go_wp2_with (first
        | (go_at_call 57; refine (l3Kind_any _ _ _ rfl).mono ?_; rintro e wx ⟨rfl, rfl⟩)
        | (go_at_call 34; refine (l3Words_any _ _ _ ws _ H1.out S1.out hl1 _ hW).mono ?_; rintro e wx ⟨rfl, rfl⟩)
        | (go_at_call 13; refine (l1In_any _ _ _ _ _ (by first | exact hP | exact hN | exact (rfl : inB 0 0 255 = true) | fail)).mono ?_; rintro e wx ⟨rfl, rfl⟩)
        | (go_at_call 58; refine (l4Zero_ttff _ _ _ _ _ _ _ _ _ _ _ (by have := H1.out; omega) hl2 _ hZ).mono ?_; rintro e w1 ⟨rfl, b'⟩; have B1 := bel_next B0 b'; obtain ⟨y0, y1, y2, y3, y4, y5⟩ := (X0.below b').six; clear B0))
      go_ret
      exact ⟨rfl, B1⟩
    · skip
      have e : okA 16 0 pl nn ws l1 l2 = true := by simp [okA, okAK, hW, hP, hZ, hN, kindB, inB_z]
      rw [e] at hb
      subst hb
      clear e
      go_enter Try.func37, Try.ntmps37
      go_wp2_with (first
        | (go_at_call 57; refine (l3Kind_any _ _ _ rfl).mono ?_; rintro e wx ⟨rfl, rfl⟩)
        | (go_at_call 34; refine (l3Words_any _ _ _ ws _ H1.out S1.out hl1 _ hW).mono ?_; rintro e wx ⟨rfl, rfl⟩)
        | (go_at_call 13; refine (l1In_any _ _ _ _ _ (by first | exact hP | exact hN | exact (rfl : inB 0 0 255 = true) | fail)).mono ?_; rintro e wx ⟨rfl, rfl⟩)
        | (go_at_call 58; refine (l4Zero_ttff _ _ _ _ _ _ _ _ _ _ _ (by have := H1.out; omega) hl2 _ hZ).mono ?_; rintro e w1 ⟨rfl, b'⟩; have B1 := bel_next B0 b'; obtain ⟨y0, y1, y2, y3, y4, y5⟩ := (X0.below b').six; clear B0))
      go_ret
      exact ⟨rfl, B1⟩
set_option maxHeartbeats 4000000 in
theorem specRespOk_any (kd fl pl nn : Int) (a1 a2 : Option Addr) (l1 l2 c1 c2 : Nat) (ws : List Int) (w : World) (h1 : l1 = ws.length) (s1 : SlI w a1 ws) (hl1 : ws.length ≤ 2000000) (hl2 : l2 ≤ 20000000) (b : Bool) (hb : okA kd fl pl nn ws l1 l2 = b) :
    Calls Try.prog 37 #[rp kd fl pl nn a1 a2 l1 l2 c1 c2] w fun e w' => e = .returned (.bool b) ∧ Below w.heap.size w w' := by
  have H1 : Hid (l1 = ws.length) := h1
  have hs : Hid (SlI w a1 ws) := s1
  have B0 := bel_alloc w (.cells #[.int .i64 kd, .int .i64 fl, .int .i64 pl, .int .i64 nn, .slice a1 l1 c1, .slice a2 l2 c2] 63)
  have X0 := Blk.new w #[.int .i64 kd, .int .i64 fl, .int .i64 pl, .int .i64 nn, .slice a1 l1 c1, .slice a2 l2 c2] 63
  have S1 : Hid (SlI (w.alloc (.cells #[.int .i64 kd, .int .i64 fl, .int .i64 pl, .int .i64 nn, .slice a1 l1 c1, .slice a2 l2 c2] 63)) a1 ws) := s1.below B0
  clear h1 s1
  cases hK : kindB kd
  · skip
    have e : okA kd fl pl nn ws l1 l2 = false := by simp [okA, okAK, hK]
    rw [e] at hb
    subst hb
    clear e
    go_enter Try.func37, Try.ntmps37
    go_wp2_with (first
      | (go_at_call 57; refine (l3Kind_any _ _ _ hK).mono ?_; rintro e wx ⟨rfl, rfl⟩)
      | (go_at_call 13; refine (l1In_any _ _ _ _ _ (by first | fail)).mono ?_; rintro e wx ⟨rfl, rfl⟩))
    go_ret
    exact ⟨rfl, B0⟩
  · skip
    cases hF : inB fl 0 255
    · skip
      have e : okA kd fl pl nn ws l1 l2 = false := by simp [okA, okAK, hK, hF]
      rw [e] at hb
      subst hb
      clear e
      go_enter Try.func37, Try.ntmps37
      go_wp2_with (first
        | (go_at_call 57; refine (l3Kind_any _ _ _ hK).mono ?_; rintro e wx ⟨rfl, rfl⟩)
        | (go_at_call 13; refine (l1In_any _ _ _ _ _ (by first | exact hF | fail)).mono ?_; rintro e wx ⟨rfl, rfl⟩))
      go_ret
      exact ⟨rfl, B0⟩
    · skip
      cases hW : allW ws
      · skip
        have e : okA kd fl pl nn ws l1 l2 = false := by simp [okA, okAK, hK, hF, hW]
        rw [e] at hb
        subst hb
        clear e
        go_enter Try.func37, Try.ntmps37
        go_wp2_with (first
          | (go_at_call 57; refine (l3Kind_any _ _ _ hK).mono ?_; rintro e wx ⟨rfl, rfl⟩)
          | (go_at_call 34; refine (l3Words_any _ _ _ ws _ H1.out S1.out hl1 _ hW).mono ?_; rintro e wx ⟨rfl, rfl⟩)
          | (go_at_call 13; refine (l1In_any _ _ _ _ _ (by first | exact hF | fail)).mono ?_; rintro e wx ⟨rfl, rfl⟩))
        go_ret
        exact ⟨rfl, B0⟩
      · skip
        cases hP : inB pl 0 65535
        · skip
          have e : okA kd fl pl nn ws l1 l2 = false := by simp [okA, okAK, hK, hF, hW, hP]
          rw [e] at hb
          subst hb
          clear e
          go_enter Try.func37, Try.ntmps37
          go_wp2_with (first
            | (go_at_call 57; refine (l3Kind_any _ _ _ hK).mono ?_; rintro e wx ⟨rfl, rfl⟩)
            | (go_at_call 34; refine (l3Words_any _ _ _ ws _ H1.out S1.out hl1 _ hW).mono ?_; rintro e wx ⟨rfl, rfl⟩)
            | (go_at_call 13; refine (l1In_any _ _ _ _ _ (by first | exact hF | exact hP | fail)).mono ?_; rintro e wx ⟨rfl, rfl⟩))
          go_ret
          exact ⟨rfl, B0⟩
        · skip
          by_cases h0 : 0 < fl
          · skip
            cases hZ : zr4 false false false false pl nn l1 l2
            · skip
              have e : okA kd fl pl nn ws l1 l2 = false := by simp [okA, okAK, hK, hF, hW, hP, h0, hZ]
              rw [e] at hb
              subst hb
              clear e
              go_enter Try.func37, Try.ntmps37
              go_wp2_with (first
                | (go_at_call 57; refine (l3Kind_any _ _ _ hK).mono ?_; rintro e wx ⟨rfl, rfl⟩)
                | (go_at_call 34; refine (l3Words_any _ _ _ ws _ H1.out S1.out hl1 _ hW).mono ?_; rintro e wx ⟨rfl, rfl⟩)
                | (go_at_call 13; refine (l1In_any _ _ _ _ _ (by first | exact hF | exact hP | fail)).mono ?_; rintro e wx ⟨rfl, rfl⟩)
                | (go_at_call 58; refine (l4Zero_ffff _ _ _ _ _ _ _ _ _ _ _ (by have := H1.out; omega) hl2 _ hZ).mono ?_; rintro e w1 ⟨rfl, b'⟩; have B1 := bel_next B0 b'; obtain ⟨y0, y1, y2, y3, y4, y5⟩ := (X0.below b').six; clear B0))
              go_ret
              exact ⟨rfl, B1⟩
            · skip
              have e : okA kd fl pl nn ws l1 l2 = true := by simp [okA, okAK, hK, hF, hW, hP, h0, hZ]
              rw [e] at hb
              subst hb
              clear e
              go_enter Try.func37, Try.ntmps37
              go_wp2_with (first
                | (go_at_call 57; refine (l3Kind_any _ _ _ hK).mono ?_; rintro e wx ⟨rfl, rfl⟩)
                | (go_at_call 34; refine (l3Words_any _ _ _ ws _ H1.out S1.out hl1 _ hW).mono ?_; rintro e wx ⟨rfl, rfl⟩)
                | (go_at_call 13; refine (l1In_any _ _ _ _ _ (by first | exact hF | exact hP | fail)).mono ?_; rintro e wx ⟨rfl, rfl⟩)
                | (go_at_call 58; refine (l4Zero_ffff _ _ _ _ _ _ _ _ _ _ _ (by have := H1.out; omega) hl2 _ hZ).mono ?_; rintro e w1 ⟨rfl, b'⟩; have B1 := bel_next B0 b'; obtain ⟨y0, y1, y2, y3, y4, y5⟩ := (X0.below b').six; clear B0))
              go_ret
              exact ⟨rfl, B1⟩
          · skip
            obtain rfl : fl = 0 := by have := inB_yes hF; omega
            clear X0 S1 B0
            obtain rfl | rfl | rfl | rfl | rfl | rfl | rfl | rfl | rfl | rfl := of_decide_eq_true hK
            · exact specRespOk_1 pl nn a1 a2 l1 l2 c1 c2 ws w H1.out hs.out hl1 hl2 hW hP b hb
            · exact specRespOk_2 pl nn a1 a2 l1 l2 c1 c2 ws w H1.out hs.out hl1 hl2 hW hP b hb
            · exact specRespOk_3 pl nn a1 a2 l1 l2 c1 c2 ws w H1.out hs.out hl1 hl2 hW hP b hb
            · exact specRespOk_4 pl nn a1 a2 l1 l2 c1 c2 ws w H1.out hs.out hl1 hl2 hW hP b hb
            · exact specRespOk_5 pl nn a1 a2 l1 l2 c1 c2 ws w H1.out hs.out hl1 hl2 hW hP b hb
            · exact specRespOk_6 pl nn a1 a2 l1 l2 c1 c2 ws w H1.out hs.out hl1 hl2 hW hP b hb
            · exact specRespOk_15 pl nn a1 a2 l1 l2 c1 c2 ws w H1.out hs.out hl1 hl2 hW hP b hb
            · exact specRespOk_16 pl nn a1 a2 l1 l2 c1 c2 ws w H1.out hs.out hl1 hl2 hW hP b hb
            · exact specRespOk_22 pl nn a1 a2 l1 l2 c1 c2 ws w H1.out hs.out hl1 hl2 hW hP b hb
            · exact specRespOk_23 pl nn a1 a2 l1 l2 c1 c2 ws w H1.out hs.out hl1 hl2 hW hP b hb
theorem specRespOk_q (kd fl pl nn : Int) (a1 a2 : Option Addr) (l1 l2 c1 c2 : Nat) (ws : List Int) (bs : List Bool) (w : World) (h1 : l1 = ws.length) (h2 : l2 = bs.length) (s1 : SlI w a1 ws) (s2 : SlB w a2 bs) (hl1 : ws.length ≤ 2000000) (hl2 : bs.length ≤ 2000000) :
    Calls Try.prog 37 #[rp kd fl pl nn a1 a2 l1 l2 c1 c2] w fun e w' => e = .returned (.bool (okA kd fl pl nn ws l1 l2)) ∧ Below w.heap.size w w' :=
  specRespOk_any kd fl pl nn a1 a2 l1 l2 c1 c2 ws w h1 s1 hl1 (by omega) _ rfl
end Go.Proofs.Ytfagbjffhjnmaaa
