/- Texts that the proof needs, joined: P2 S0 P3. -/
import Derived.Test.YtmhdneenjoelfaaGreatV10
import Derived.Test.YtmhdneenjoelfaaGreatV7
namespace Go.Proofs.YtmhdneenjoelfaaGreat
open Go.RowKit
set_option linter.unusedVariables false
set_option linter.unusedSimpArgs false
theorem inB_z : inB 0 0 255 = true := by decide
def zr4 (a n w b : Bool) (pl nn : Int) (l1 l2 : Nat) : Bool := (a || decide (pl = 0)) && ((n || decide (nn = 0)) && ((w || decide (l1 = 0)) && (b || decide (l2 = 0))))
def okAK (kd pl nn : Int) (l1 l2 : Nat) : Bool :=
  if kd = 1 ∨ kd = 2 then zr4 false false false true pl nn l1 l2 && (inB l2 1 2000 && decide (l2 % 8 = 0))
  else if kd = 3 ∨ kd = 4 ∨ kd = 23 then zr4 false false true false pl nn l1 l2 && inB l1 1 125
  else if kd = 5 then zr4 true false false true pl nn l1 l2 && decide (l2 = 1)
  else if kd = 6 then zr4 true false true false pl nn l1 l2 && decide (l1 = 1)
  else if kd = 22 then zr4 true false true false pl nn l1 l2 && decide (l1 = 2)
  else if kd = 15 then zr4 true true false false pl nn l1 l2 && inB nn 1 1968
  else zr4 true true false false pl nn l1 l2 && inB nn 1 123
def okA (kd fl pl nn : Int) (ws : List Int) (l1 l2 : Nat) : Bool := kindB kd && (inB fl 0 255 && (allW ws && (inB pl 0 65535 && (if 0 < fl then zr4 false false false false pl nn l1 l2 else okAK kd pl nn l1 l2))))
set_option maxHeartbeats 2000000 in
theorem l4Zero_ffff (kd fl pl nn : Int) (a1 a2 : Option Addr) (l1 l2 c1 c2 : Nat) (w : World) (hm1 : l1 ≤ 2000000) (hm2 : l2 ≤ 20000000) (z : Bool) (hz : zr4 false false false false pl nn l1 l2 = z) :
    Calls Tryz.prog 131 #[rp kd fl pl nn a1 a2 l1 l2 c1 c2, .bool false, .bool false, .bool false, .bool false] w fun e w' => e = .returned (.bool z) ∧ Below w.heap.size w w' := by
  have B0 := bel_alloc w (.cells #[.int .i64 kd, .int .i64 fl, .int .i64 pl, .int .i64 nn, .slice a1 l1 c1, .slice a2 l2 c2] 37)
  subst hz
  by_cases hA : pl = 0
  · skip
    by_cases hN : nn = 0
    · skip
      by_cases h1 : l1 = 0
      · skip
        by_cases h2 : l2 = 0
        · skip
          have e : zr4 false false false false pl nn l1 l2 = true := by simp [zr4, hA, hN, h1, h2]
          rw [e]
          clear e
          subst hA
          subst hN
          subst h1
          subst h2
          go_enter Tryz.func131, Tryz.ntmps131
          go_wp2
          go_ret
          exact ⟨rfl, B0⟩
        · skip
          have e : zr4 false false false false pl nn l1 l2 = false := by simp [zr4, hA, hN, h1, h2]
          rw [e]
          have h2i : ((l2 : Int) == 0) = false := by simp [h2]
          clear e
          subst hA
          subst hN
          subst h1
          go_enter Tryz.func131, Tryz.ntmps131
          go_wp2
          go_ret
          exact ⟨rfl, B0⟩
      · skip
        have e : zr4 false false false false pl nn l1 l2 = false := by simp [zr4, hA, hN, h1]
        rw [e]
        have h1i : ((l1 : Int) == 0) = false := by simp [h1]
        clear e
        subst hA
        subst hN
        go_enter Tryz.func131, Tryz.ntmps131
        go_wp2
        go_ret
        exact ⟨rfl, B0⟩
    · skip
      have e : zr4 false false false false pl nn l1 l2 = false := by simp [zr4, hA, hN]
      rw [e]
      have eN : (nn == 0) = false := by simp [hN]
      clear e
      subst hA
      go_enter Tryz.func131, Tryz.ntmps131
      go_wp2
      go_ret
      exact ⟨rfl, B0⟩
  · skip
    have e : zr4 false false false false pl nn l1 l2 = false := by simp [zr4, hA]
    rw [e]
    have eA : (pl == 0) = false := by simp [hA]
    clear e
    go_enter Tryz.func131, Tryz.ntmps131
    go_wp2
    go_ret
    exact ⟨rfl, B0⟩
set_option maxHeartbeats 2000000 in
theorem l4Zero_ffft (kd fl pl nn : Int) (a1 a2 : Option Addr) (l1 l2 c1 c2 : Nat) (w : World) (hm1 : l1 ≤ 2000000) (hm2 : l2 ≤ 20000000) (z : Bool) (hz : zr4 false false false true pl nn l1 l2 = z) :
    Calls Tryz.prog 131 #[rp kd fl pl nn a1 a2 l1 l2 c1 c2, .bool false, .bool false, .bool false, .bool true] w fun e w' => e = .returned (.bool z) ∧ Below w.heap.size w w' := by
  have B0 := bel_alloc w (.cells #[.int .i64 kd, .int .i64 fl, .int .i64 pl, .int .i64 nn, .slice a1 l1 c1, .slice a2 l2 c2] 37)
  subst hz
  by_cases hA : pl = 0
  · skip
    by_cases hN : nn = 0
    · skip
      by_cases h1 : l1 = 0
      · skip
        have e : zr4 false false false true pl nn l1 l2 = true := by simp [zr4, hA, hN, h1]
        rw [e]
        clear e
        subst hA
        subst hN
        subst h1
        go_enter Tryz.func131, Tryz.ntmps131
        go_wp2
        go_ret
        exact ⟨rfl, B0⟩
      · skip
        have e : zr4 false false false true pl nn l1 l2 = false := by simp [zr4, hA, hN, h1]
        rw [e]
        have h1i : ((l1 : Int) == 0) = false := by simp [h1]
        clear e
        subst hA
        subst hN
        go_enter Tryz.func131, Tryz.ntmps131
        go_wp2
        go_ret
        exact ⟨rfl, B0⟩
    · skip
      have e : zr4 false false false true pl nn l1 l2 = false := by simp [zr4, hA, hN]
      rw [e]
      have eN : (nn == 0) = false := by simp [hN]
      clear e
      subst hA
      go_enter Tryz.func131, Tryz.ntmps131
      go_wp2
      go_ret
      exact ⟨rfl, B0⟩
  · skip
    have e : zr4 false false false true pl nn l1 l2 = false := by simp [zr4, hA]
    rw [e]
    have eA : (pl == 0) = false := by simp [hA]
    clear e
    go_enter Tryz.func131, Tryz.ntmps131
    go_wp2
    go_ret
    exact ⟨rfl, B0⟩
set_option maxHeartbeats 2000000 in
theorem l4Zero_fftf (kd fl pl nn : Int) (a1 a2 : Option Addr) (l1 l2 c1 c2 : Nat) (w : World) (hm1 : l1 ≤ 2000000) (hm2 : l2 ≤ 20000000) (z : Bool) (hz : zr4 false false true false pl nn l1 l2 = z) :
    Calls Tryz.prog 131 #[rp kd fl pl nn a1 a2 l1 l2 c1 c2, .bool false, .bool false, .bool true, .bool false] w fun e w' => e = .returned (.bool z) ∧ Below w.heap.size w w' := by
  have B0 := bel_alloc w (.cells #[.int .i64 kd, .int .i64 fl, .int .i64 pl, .int .i64 nn, .slice a1 l1 c1, .slice a2 l2 c2] 37)
  subst hz
  by_cases hA : pl = 0
  · skip
    by_cases hN : nn = 0
    · skip
      by_cases h2 : l2 = 0
      · skip
        have e : zr4 false false true false pl nn l1 l2 = true := by simp [zr4, hA, hN, h2]
        rw [e]
        clear e
        subst hA
        subst hN
        subst h2
        go_enter Tryz.func131, Tryz.ntmps131
        go_wp2
        go_ret
        exact ⟨rfl, B0⟩
      · skip
        have e : zr4 false false true false pl nn l1 l2 = false := by simp [zr4, hA, hN, h2]
        rw [e]
        have h2i : ((l2 : Int) == 0) = false := by simp [h2]
        clear e
        subst hA
        subst hN
        go_enter Tryz.func131, Tryz.ntmps131
        go_wp2
        go_ret
        exact ⟨rfl, B0⟩
    · skip
      have e : zr4 false false true false pl nn l1 l2 = false := by simp [zr4, hA, hN]
      rw [e]
      have eN : (nn == 0) = false := by simp [hN]
      clear e
      subst hA
      go_enter Tryz.func131, Tryz.ntmps131
      go_wp2
      go_ret
      exact ⟨rfl, B0⟩
  · skip
    have e : zr4 false false true false pl nn l1 l2 = false := by simp [zr4, hA]
    rw [e]
    have eA : (pl == 0) = false := by simp [hA]
    clear e
    go_enter Tryz.func131, Tryz.ntmps131
    go_wp2
    go_ret
    exact ⟨rfl, B0⟩
set_option maxHeartbeats 2000000 in
theorem l4Zero_tfft (kd fl pl nn : Int) (a1 a2 : Option Addr) (l1 l2 c1 c2 : Nat) (w : World) (hm1 : l1 ≤ 2000000) (hm2 : l2 ≤ 20000000) (z : Bool) (hz : zr4 true false false true pl nn l1 l2 = z) :
    Calls Tryz.prog 131 #[rp kd fl pl nn a1 a2 l1 l2 c1 c2, .bool true, .bool false, .bool false, .bool true] w fun e w' => e = .returned (.bool z) ∧ Below w.heap.size w w' := by
  have B0 := bel_alloc w (.cells #[.int .i64 kd, .int .i64 fl, .int .i64 pl, .int .i64 nn, .slice a1 l1 c1, .slice a2 l2 c2] 37)
  subst hz
  by_cases hN : nn = 0
  · skip
    by_cases h1 : l1 = 0
    · skip
      have e : zr4 true false false true pl nn l1 l2 = true := by simp [zr4, hN, h1]
      rw [e]
      clear e
      subst hN
      subst h1
      go_enter Tryz.func131, Tryz.ntmps131
      go_wp2
      go_ret
      exact ⟨rfl, B0⟩
    · skip
      have e : zr4 true false false true pl nn l1 l2 = false := by simp [zr4, hN, h1]
      rw [e]
      have h1i : ((l1 : Int) == 0) = false := by simp [h1]
      clear e
      subst hN
      go_enter Tryz.func131, Tryz.ntmps131
      go_wp2
      go_ret
      exact ⟨rfl, B0⟩
  · skip
    have e : zr4 true false false true pl nn l1 l2 = false := by simp [zr4, hN]
    rw [e]
    have eN : (nn == 0) = false := by simp [hN]
    clear e
    go_enter Tryz.func131, Tryz.ntmps131
    go_wp2
    go_ret
    exact ⟨rfl, B0⟩
set_option maxHeartbeats 2000000 in
theorem l4Zero_tftf (kd fl pl nn : Int) (a1 a2 : Option Addr) (l1 l2 c1 c2 : Nat) (w : World) (hm1 : l1 ≤ 2000000) (hm2 : l2 ≤ 20000000) (z : Bool) (hz : zr4 true false true false pl nn l1 l2 = z) :
    Calls Tryz.prog 131 #[rp kd fl pl nn a1 a2 l1 l2 c1 c2, .bool true, .bool false, .bool true, .bool false] w fun e w' => e = .returned (.bool z) ∧ Below w.heap.size w w' := by
  have B0 := bel_alloc w (.cells #[.int .i64 kd, .int .i64 fl, .int .i64 pl, .int .i64 nn, .slice a1 l1 c1, .slice a2 l2 c2] 37)
  subst hz
  by_cases hN : nn = 0
  · skip
    by_cases h2 : l2 = 0
    · skip
      have e : zr4 true false true false pl nn l1 l2 = true := by simp [zr4, hN, h2]
      rw [e]
      clear e
      subst hN
      subst h2
      go_enter Tryz.func131, Tryz.ntmps131
      go_wp2
      go_ret
      exact ⟨rfl, B0⟩
    · skip
      have e : zr4 true false true false pl nn l1 l2 = false := by simp [zr4, hN, h2]
      rw [e]
      have h2i : ((l2 : Int) == 0) = false := by simp [h2]
      clear e
      subst hN
      go_enter Tryz.func131, Tryz.ntmps131
      go_wp2
      go_ret
      exact ⟨rfl, B0⟩
  · skip
    have e : zr4 true false true false pl nn l1 l2 = false := by simp [zr4, hN]
    rw [e]
    have eN : (nn == 0) = false := by simp [hN]
    clear e
    go_enter Tryz.func131, Tryz.ntmps131
    go_wp2
    go_ret
    exact ⟨rfl, B0⟩
set_option maxHeartbeats 2000000 in
theorem l4Zero_ttff (kd fl pl nn : Int) (a1 a2 : Option Addr) (l1 l2 c1 c2 : Nat) (w : World) (hm1 : l1 ≤ 2000000) (hm2 : l2 ≤ 20000000) (z : Bool) (hz : zr4 true true false false pl nn l1 l2 = z) :
    Calls Tryz.prog 131 #[rp kd fl pl nn a1 a2 l1 l2 c1 c2, .bool true, .bool true, .bool false, .bool false] w fun e w' => e = .returned (.bool z) ∧ Below w.heap.size w w' := by
  have B0 := bel_alloc w (.cells #[.int .i64 kd, .int .i64 fl, .int .i64 pl, .int .i64 nn, .slice a1 l1 c1, .slice a2 l2 c2] 37)
  subst hz
  by_cases h1 : l1 = 0
  · skip
    by_cases h2 : l2 = 0
    · skip
      have e : zr4 true true false false pl nn l1 l2 = true := by simp [zr4, h1, h2]
      rw [e]
      clear e
      subst h1
      subst h2
      go_enter Tryz.func131, Tryz.ntmps131
      go_wp2
      go_ret
      exact ⟨rfl, B0⟩
    · skip
      have e : zr4 true true false false pl nn l1 l2 = false := by simp [zr4, h1, h2]
      rw [e]
      have h2i : ((l2 : Int) == 0) = false := by simp [h2]
      clear e
      subst h1
      go_enter Tryz.func131, Tryz.ntmps131
      go_wp2
      go_ret
      exact ⟨rfl, B0⟩
  · skip
    have e : zr4 true true false false pl nn l1 l2 = false := by simp [zr4, h1]
    rw [e]
    have h1i : ((l1 : Int) == 0) = false := by simp [h1]
    clear e
    go_enter Tryz.func131, Tryz.ntmps131
    go_wp2
    go_ret
    exact ⟨rfl, B0⟩
set_option maxHeartbeats 4000000 in
theorem specRespOk_1 (pl nn : Int) (a1 a2 : Option Addr) (l1 l2 c1 c2 : Nat) (ws : List Int) (w : World) (h1 : l1 = ws.length) (s1 : SlI w a1 ws) (hl1 : ws.length ≤ 2000000) (hl2 : l2 ≤ 20000000) (hW : allW ws = true) (hP : inB pl 0 65535 = true) (b : Bool) (hb : okA 1 0 pl nn ws l1 l2 = b) :
    Calls Tryz.prog 111 #[rp 1 0 pl nn a1 a2 l1 l2 c1 c2] w fun e w' => e = .returned (.bool b) ∧ Below w.heap.size w w' := by
  have H1 : Hid (l1 = ws.length) := h1
  have hs : Hid (SlI w a1 ws) := s1
  have B0 := bel_alloc w (.cells #[.int .i64 1, .int .i64 0, .int .i64 pl, .int .i64 nn, .slice a1 l1 c1, .slice a2 l2 c2] 37)
  have X0 := Blk.new w #[.int .i64 1, .int .i64 0, .int .i64 pl, .int .i64 nn, .slice a1 l1 c1, .slice a2 l2 c2] 37
  have S1 : Hid (SlI (w.alloc (.cells #[.int .i64 1, .int .i64 0, .int .i64 pl, .int .i64 nn, .slice a1 l1 c1, .slice a2 l2 c2] 37)) a1 ws) := s1.below B0
  clear h1 s1
  cases hZ : zr4 false false false true pl nn l1 l2
  · skip
    have e : okA 1 0 pl nn ws l1 l2 = false := by simp [okA, okAK, hW, hP, hZ, kindB, inB_z]
    rw [e] at hb
    subst hb
    clear e
    go_enter Tryz.func111, Tryz.ntmps111
    go_wp2_with (first
      | (go_at_call 130; refine (l3Kind_any _ _ _ rfl).mono ?_; rintro e wx ⟨rfl, rfl⟩)
      | (go_at_call 88; refine (l3Words_any _ _ _ ws _ H1.out S1.out hl1 _ hW).mono ?_; rintro e wx ⟨rfl, rfl⟩)
      | (go_at_call 35; refine (l1In_any _ _ _ _ _ (by first | exact hP | exact (rfl : inB 0 0 255 = true) | fail)).mono ?_; rintro e wx ⟨rfl, rfl⟩)
      | (go_at_call 131; refine (l4Zero_ffft _ _ _ _ _ _ _ _ _ _ _ (by have := H1.out; omega) hl2 _ hZ).mono ?_; rintro e w1 ⟨rfl, b'⟩; have B1 := bel_next B0 b'; obtain ⟨y0, y1, y2, y3, y4, y5⟩ := (X0.below b').six; clear B0))
    go_ret
    exact ⟨rfl, B1⟩
  · skip
    cases hN : inB l2 1 2000
    · skip
      have e : okA 1 0 pl nn ws l1 l2 = false := by simp [okA, okAK, hW, hP, hZ, hN, kindB, inB_z]
      rw [e] at hb
      subst hb
      clear e
      go_enter Tryz.func111, Tryz.ntmps111
      go_wp2_with (first
        | (go_at_call 130; refine (l3Kind_any _ _ _ rfl).mono ?_; rintro e wx ⟨rfl, rfl⟩)
        | (go_at_call 88; refine (l3Words_any _ _ _ ws _ H1.out S1.out hl1 _ hW).mono ?_; rintro e wx ⟨rfl, rfl⟩)
        | (go_at_call 35; refine (l1In_any _ _ _ _ _ (by first | exact hP | exact hN | exact (rfl : inB 0 0 255 = true) | fail)).mono ?_; rintro e wx ⟨rfl, rfl⟩)
        | (go_at_call 131; refine (l4Zero_ffft _ _ _ _ _ _ _ _ _ _ _ (by have := H1.out; omega) hl2 _ hZ).mono ?_; rintro e w1 ⟨rfl, b'⟩; have B1 := bel_next B0 b'; obtain ⟨y0, y1, y2, y3, y4, y5⟩ := (X0.below b').six; clear B0))
      go_ret
      exact ⟨rfl, B1⟩
    · skip
      by_cases hM : l2 % 8 = 0
      · skip
        have e : okA 1 0 pl nn ws l1 l2 = true := by simp [okA, okAK, hW, hP, hZ, hN, hM, kindB, inB_z]
        rw [e] at hb
        subst hb
        clear e
        have hMi : (l2 : Int) % 8 = 0 := by omega
        have hMt : ((l2 : Int) % 8 == 0) = true := by simp; omega
        clear hM
        go_enter Tryz.func111, Tryz.ntmps111
        go_wp2_with (first
          | (go_at_call 130; refine (l3Kind_any _ _ _ rfl).mono ?_; rintro e wx ⟨rfl, rfl⟩)
          | (go_at_call 88; refine (l3Words_any _ _ _ ws _ H1.out S1.out hl1 _ hW).mono ?_; rintro e wx ⟨rfl, rfl⟩)
          | (go_at_call 35; refine (l1In_any _ _ _ _ _ (by first | exact hP | exact hN | exact (rfl : inB 0 0 255 = true) | fail)).mono ?_; rintro e wx ⟨rfl, rfl⟩)
          | (go_at_call 131; refine (l4Zero_ffft _ _ _ _ _ _ _ _ _ _ _ (by have := H1.out; omega) hl2 _ hZ).mono ?_; rintro e w1 ⟨rfl, b'⟩; have B1 := bel_next B0 b'; obtain ⟨y0, y1, y2, y3, y4, y5⟩ := (X0.below b').six; clear B0))
        go_ret
        exact ⟨rfl, B1⟩
      · skip
        have e : okA 1 0 pl nn ws l1 l2 = false := by simp [okA, okAK, hW, hP, hZ, hN, hM, kindB, inB_z]
        rw [e] at hb
        subst hb
        clear e
        have hMi : ¬ (l2 : Int) % 8 = 0 := by omega
        have hMt : ((l2 : Int) % 8 == 0) = false := by simp; omega
        clear hM
        go_enter Tryz.func111, Tryz.ntmps111
        go_wp2_with (first
          | (go_at_call 130; refine (l3Kind_any _ _ _ rfl).mono ?_; rintro e wx ⟨rfl, rfl⟩)
          | (go_at_call 88; refine (l3Words_any _ _ _ ws _ H1.out S1.out hl1 _ hW).mono ?_; rintro e wx ⟨rfl, rfl⟩)
          | (go_at_call 35; refine (l1In_any _ _ _ _ _ (by first | exact hP | exact hN | exact (rfl : inB 0 0 255 = true) | fail)).mono ?_; rintro e wx ⟨rfl, rfl⟩)
          | (go_at_call 131; refine (l4Zero_ffft _ _ _ _ _ _ _ _ _ _ _ (by have := H1.out; omega) hl2 _ hZ).mono ?_; rintro e w1 ⟨rfl, b'⟩; have B1 := bel_next B0 b'; obtain ⟨y0, y1, y2, y3, y4, y5⟩ := (X0.below b').six; clear B0))
        go_ret
        exact ⟨rfl, B1⟩
set_option maxHeartbeats 4000000 in
theorem specRespOk_2 (pl nn : Int) (a1 a2 : Option Addr) (l1 l2 c1 c2 : Nat) (ws : List Int) (w : World) (h1 : l1 = ws.length) (s1 : SlI w a1 ws) (hl1 : ws.length ≤ 2000000) (hl2 : l2 ≤ 20000000) (hW : allW ws = true) (hP : inB pl 0 65535 = true) (b : Bool) (hb : okA 2 0 pl nn ws l1 l2 = b) :
    Calls Tryz.prog 111 #[rp 2 0 pl nn a1 a2 l1 l2 c1 c2] w fun e w' => e = .returned (.bool b) ∧ Below w.heap.size w w' := by
  have H1 : Hid (l1 = ws.length) := h1
  have hs : Hid (SlI w a1 ws) := s1
  have B0 := bel_alloc w (.cells #[.int .i64 2, .int .i64 0, .int .i64 pl, .int .i64 nn, .slice a1 l1 c1, .slice a2 l2 c2] 37)
  have X0 := Blk.new w #[.int .i64 2, .int .i64 0, .int .i64 pl, .int .i64 nn, .slice a1 l1 c1, .slice a2 l2 c2] 37
  have S1 : Hid (SlI (w.alloc (.cells #[.int .i64 2, .int .i64 0, .int .i64 pl, .int .i64 nn, .slice a1 l1 c1, .slice a2 l2 c2] 37)) a1 ws) := s1.below B0
  clear h1 s1
  cases hZ : zr4 false false false true pl nn l1 l2
  · skip
    have e : okA 2 0 pl nn ws l1 l2 = false := by simp [okA, okAK, hW, hP, hZ, kindB, inB_z]
    rw [e] at hb
    subst hb
    clear e
    go_enter Tryz.func111, Tryz.ntmps111
    go_wp2_with (first
      | (go_at_call 130; refine (l3Kind_any _ _ _ rfl).mono ?_; rintro e wx ⟨rfl, rfl⟩)
      | (go_at_call 88; refine (l3Words_any _ _ _ ws _ H1.out S1.out hl1 _ hW).mono ?_; rintro e wx ⟨rfl, rfl⟩)
      | (go_at_call 35; refine (l1In_any _ _ _ _ _ (by first | exact hP | exact (rfl : inB 0 0 255 = true) | fail)).mono ?_; rintro e wx ⟨rfl, rfl⟩)
      | (go_at_call 131; refine (l4Zero_ffft _ _ _ _ _ _ _ _ _ _ _ (by have := H1.out; omega) hl2 _ hZ).mono ?_; rintro e w1 ⟨rfl, b'⟩; have B1 := bel_next B0 b'; obtain ⟨y0, y1, y2, y3, y4, y5⟩ := (X0.below b').six; clear B0))
    go_ret
    exact ⟨rfl, B1⟩
  · skip
    cases hN : inB l2 1 2000
    · skip
      have e : okA 2 0 pl nn ws l1 l2 = false := by simp [okA, okAK, hW, hP, hZ, hN, kindB, inB_z]
      rw [e] at hb
      subst hb
      clear e
      go_enter Tryz.func111, Tryz.ntmps111
      go_wp2_with (first
        | (go_at_call 130; refine (l3Kind_any _ _ _ rfl).mono ?_; rintro e wx ⟨rfl, rfl⟩)
        | (go_at_call 88; refine (l3Words_any _ _ _ ws _ H1.out S1.out hl1 _ hW).mono ?_; rintro e wx ⟨rfl, rfl⟩)
        | (go_at_call 35; refine (l1In_any _ _ _ _ _ (by first | exact hP | exact hN | exact (rfl : inB 0 0 255 = true) | fail)).mono ?_; rintro e wx ⟨rfl, rfl⟩)
        | (go_at_call 131; refine (l4Zero_ffft _ _ _ _ _ _ _ _ _ _ _ (by have := H1.out; omega) hl2 _ hZ).mono ?_; rintro e w1 ⟨rfl, b'⟩; have B1 := bel_next B0 b'; obtain ⟨y0, y1, y2, y3, y4, y5⟩ := (X0.below b').six; clear B0))
      go_ret
      exact ⟨rfl, B1⟩
    · skip
      by_cases hM : l2 % 8 = 0
      · skip
        have e : okA 2 0 pl nn ws l1 l2 = true := by simp [okA, okAK, hW, hP, hZ, hN, hM, kindB, inB_z]
        rw [e] at hb
        subst hb
        clear e
        have hMi : (l2 : Int) % 8 = 0 := by omega
        have hMt : ((l2 : Int) % 8 == 0) = true := by simp; omega
        clear hM
        go_enter Tryz.func111, Tryz.ntmps111
        go_wp2_with (first
          | (go_at_call 130; refine (l3Kind_any _ _ _ rfl).mono ?_; rintro e wx ⟨rfl, rfl⟩)
          | (go_at_call 88; refine (l3Words_any _ _ _ ws _ H1.out S1.out hl1 _ hW).mono ?_; rintro e wx ⟨rfl, rfl⟩)
          | (go_at_call 35; refine (l1In_any _ _ _ _ _ (by first | exact hP | exact hN | exact (rfl : inB 0 0 255 = true) | fail)).mono ?_; rintro e wx ⟨rfl, rfl⟩)
          | (go_at_call 131; refine (l4Zero_ffft _ _ _ _ _ _ _ _ _ _ _ (by have := H1.out; omega) hl2 _ hZ).mono ?_; rintro e w1 ⟨rfl, b'⟩; have B1 := bel_next B0 b'; obtain ⟨y0, y1, y2, y3, y4, y5⟩ := (X0.below b').six; clear B0))
        go_ret
        exact ⟨rfl, B1⟩
      · skip
        have e : okA 2 0 pl nn ws l1 l2 = false := by simp [okA, okAK, hW, hP, hZ, hN, hM, kindB, inB_z]
        rw [e] at hb
        subst hb
        clear e
        have hMi : ¬ (l2 : Int) % 8 = 0 := by omega
        have hMt : ((l2 : Int) % 8 == 0) = false := by simp; omega
        clear hM
        go_enter Tryz.func111, Tryz.ntmps111
        go_wp2_with (first
          | (go_at_call 130; refine (l3Kind_any _ _ _ rfl).mono ?_; rintro e wx ⟨rfl, rfl⟩)
          | (go_at_call 88; refine (l3Words_any _ _ _ ws _ H1.out S1.out hl1 _ hW).mono ?_; rintro e wx ⟨rfl, rfl⟩)
          | (go_at_call 35; refine (l1In_any _ _ _ _ _ (by first | exact hP | exact hN | exact (rfl : inB 0 0 255 = true) | fail)).mono ?_; rintro e wx ⟨rfl, rfl⟩)
          | (go_at_call 131; refine (l4Zero_ffft _ _ _ _ _ _ _ _ _ _ _ (by have := H1.out; omega) hl2 _ hZ).mono ?_; rintro e w1 ⟨rfl, b'⟩; have B1 := bel_next B0 b'; obtain ⟨y0, y1, y2, y3, y4, y5⟩ := (X0.below b').six; clear B0))
        go_ret
        exact ⟨rfl, B1⟩
set_option maxHeartbeats 4000000 in
theorem specRespOk_3 (pl nn : Int) (a1 a2 : Option Addr) (l1 l2 c1 c2 : Nat) (ws : List Int) (w : World) (h1 : l1 = ws.length) (s1 : SlI w a1 ws) (hl1 : ws.length ≤ 2000000) (hl2 : l2 ≤ 20000000) (hW : allW ws = true) (hP : inB pl 0 65535 = true) (b : Bool) (hb : okA 3 0 pl nn ws l1 l2 = b) :
    Calls Tryz.prog 111 #[rp 3 0 pl nn a1 a2 l1 l2 c1 c2] w fun e w' => e = .returned (.bool b) ∧ Below w.heap.size w w' := by
  have H1 : Hid (l1 = ws.length) := h1
  have hs : Hid (SlI w a1 ws) := s1
  have B0 := bel_alloc w (.cells #[.int .i64 3, .int .i64 0, .int .i64 pl, .int .i64 nn, .slice a1 l1 c1, .slice a2 l2 c2] 37)
  have X0 := Blk.new w #[.int .i64 3, .int .i64 0, .int .i64 pl, .int .i64 nn, .slice a1 l1 c1, .slice a2 l2 c2] 37
  have S1 : Hid (SlI (w.alloc (.cells #[.int .i64 3, .int .i64 0, .int .i64 pl, .int .i64 nn, .slice a1 l1 c1, .slice a2 l2 c2] 37)) a1 ws) := s1.below B0
  clear h1 s1
  cases hZ : zr4 false false true false pl nn l1 l2
  · skip
    have e : okA 3 0 pl nn ws l1 l2 = false := by simp [okA, okAK, hW, hP, hZ, kindB, inB_z]
    rw [e] at hb
    subst hb
    clear e
    go_enter Tryz.func111, Tryz.ntmps111
    go_wp2_with (first
      | (go_at_call 130; refine (l3Kind_any _ _ _ rfl).mono ?_; rintro e wx ⟨rfl, rfl⟩)
      | (go_at_call 88; refine (l3Words_any _ _ _ ws _ H1.out S1.out hl1 _ hW).mono ?_; rintro e wx ⟨rfl, rfl⟩)
      | (go_at_call 35; refine (l1In_any _ _ _ _ _ (by first | exact hP | exact (rfl : inB 0 0 255 = true) | fail)).mono ?_; rintro e wx ⟨rfl, rfl⟩)
      | (go_at_call 131; refine (l4Zero_fftf _ _ _ _ _ _ _ _ _ _ _ (by have := H1.out; omega) hl2 _ hZ).mono ?_; rintro e w1 ⟨rfl, b'⟩; have B1 := bel_next B0 b'; obtain ⟨y0, y1, y2, y3, y4, y5⟩ := (X0.below b').six; clear B0))
    go_ret
    exact ⟨rfl, B1⟩
  · skip
    cases hN : inB l1 1 125
    · skip
      have e : okA 3 0 pl nn ws l1 l2 = false := by simp [okA, okAK, hW, hP, hZ, hN, kindB, inB_z]
      rw [e] at hb
      subst hb
      clear e
      go_enter Tryz.func111, Tryz.ntmps111
      go_wp2_with (first
        | (go_at_call 130; refine (l3Kind_any _ _ _ rfl).mono ?_; rintro e wx ⟨rfl, rfl⟩)
        | (go_at_call 88; refine (l3Words_any _ _ _ ws _ H1.out S1.out hl1 _ hW).mono ?_; rintro e wx ⟨rfl, rfl⟩)
        | (go_at_call 35; refine (l1In_any _ _ _ _ _ (by first | exact hP | exact hN | exact (rfl : inB 0 0 255 = true) | fail)).mono ?_; rintro e wx ⟨rfl, rfl⟩)
        | (go_at_call 131; refine (l4Zero_fftf _ _ _ _ _ _ _ _ _ _ _ (by have := H1.out; omega) hl2 _ hZ).mono ?_; rintro e w1 ⟨rfl, b'⟩; have B1 := bel_next B0 b'; obtain ⟨y0, y1, y2, y3, y4, y5⟩ := (X0.below b').six; clear B0))
      go_ret
      exact ⟨rfl, B1⟩
    · skip
      have e : okA 3 0 pl nn ws l1 l2 = true := by simp [okA, okAK, hW, hP, hZ, hN, kindB, inB_z]
      rw [e] at hb
      subst hb
      clear e
      go_enter Tryz.func111, Tryz.ntmps111
      go_wp2_with (first
        | (go_at_call 130; refine (l3Kind_any _ _ _ rfl).mono ?_; rintro e wx ⟨rfl, rfl⟩)
        | (go_at_call 88; refine (l3Words_any _ _ _ ws _ H1.out S1.out hl1 _ hW).mono ?_; rintro e wx ⟨rfl, rfl⟩)
        | (go_at_call 35; refine (l1In_any _ _ _ _ _ (by first | exact hP | exact hN | exact (rfl : inB 0 0 255 = true) | fail)).mono ?_; rintro e wx ⟨rfl, rfl⟩)
        | (go_at_call 131; refine (l4Zero_fftf _ _ _ _ _ _ _ _ _ _ _ (by have := H1.out; omega) hl2 _ hZ).mono ?_; rintro e w1 ⟨rfl, b'⟩; have B1 := bel_next B0 b'; obtain ⟨y0, y1, y2, y3, y4, y5⟩ := (X0.below b').six; clear B0))
      go_ret
      exact ⟨rfl, B1⟩
set_option maxHeartbeats 4000000 in
theorem specRespOk_4 (pl nn : Int) (a1 a2 : Option Addr) (l1 l2 c1 c2 : Nat) (ws : List Int) (w : World) (h1 : l1 = ws.length) (s1 : SlI w a1 ws) (hl1 : ws.length ≤ 2000000) (hl2 : l2 ≤ 20000000) (hW : allW ws = true) (hP : inB pl 0 65535 = true) (b : Bool) (hb : okA 4 0 pl nn ws l1 l2 = b) :
    Calls Tryz.prog 111 #[rp 4 0 pl nn a1 a2 l1 l2 c1 c2] w fun e w' => e = .returned (.bool b) ∧ Below w.heap.size w w' := by
  have H1 : Hid (l1 = ws.length) := h1
  have hs : Hid (SlI w a1 ws) := s1
  have B0 := bel_alloc w (.cells #[.int .i64 4, .int .i64 0, .int .i64 pl, .int .i64 nn, .slice a1 l1 c1, .slice a2 l2 c2] 37)
  have X0 := Blk.new w #[.int .i64 4, .int .i64 0, .int .i64 pl, .int .i64 nn, .slice a1 l1 c1, .slice a2 l2 c2] 37
  have S1 : Hid (SlI (w.alloc (.cells #[.int .i64 4, .int .i64 0, .int .i64 pl, .int .i64 nn, .slice a1 l1 c1, .slice a2 l2 c2] 37)) a1 ws) := s1.below B0
  clear h1 s1
  cases hZ : zr4 false false true false pl nn l1 l2
  · skip
    have e : okA 4 0 pl nn ws l1 l2 = false := by simp [okA, okAK, hW, hP, hZ, kindB, inB_z]
    rw [e] at hb
    subst hb
    clear e
    go_enter Tryz.func111, Tryz.ntmps111
    go_wp2_with (first
      | (go_at_call 130; refine (l3Kind_any _ _ _ rfl).mono ?_; rintro e wx ⟨rfl, rfl⟩)
      | (go_at_call 88; refine (l3Words_any _ _ _ ws _ H1.out S1.out hl1 _ hW).mono ?_; rintro e wx ⟨rfl, rfl⟩)
      | (go_at_call 35; refine (l1In_any _ _ _ _ _ (by first | exact hP | exact (rfl : inB 0 0 255 = true) | fail)).mono ?_; rintro e wx ⟨rfl, rfl⟩)
      | (go_at_call 131; refine (l4Zero_fftf _ _ _ _ _ _ _ _ _ _ _ (by have := H1.out; omega) hl2 _ hZ).mono ?_; rintro e w1 ⟨rfl, b'⟩; have B1 := bel_next B0 b'; obtain ⟨y0, y1, y2, y3, y4, y5⟩ := (X0.below b').six; clear B0))
    go_ret
    exact ⟨rfl, B1⟩
  · skip
    cases hN : inB l1 1 125
    · skip
      have e : okA 4 0 pl nn ws l1 l2 = false := by simp [okA, okAK, hW, hP, hZ, hN, kindB, inB_z]
      rw [e] at hb
      subst hb
      clear e
      go_enter Tryz.func111, Tryz.ntmps111
      go_wp2_with (first
        | (go_at_call 130; refine (l3Kind_any _ _ _ rfl).mono ?_; rintro e wx ⟨rfl, rfl⟩)
        | (go_at_call 88; refine (l3Words_any _ _ _ ws _ H1.out S1.out hl1 _ hW).mono ?_; rintro e wx ⟨rfl, rfl⟩)
        | (go_at_call 35; refine (l1In_any _ _ _ _ _ (by first | exact hP | exact hN | exact (rfl : inB 0 0 255 = true) | fail)).mono ?_; rintro e wx ⟨rfl, rfl⟩)
        | (go_at_call 131; refine (l4Zero_fftf _ _ _ _ _ _ _ _ _ _ _ (by have := H1.out; omega) hl2 _ hZ).mono ?_; rintro e w1 ⟨rfl, b'⟩; have B1 := bel_next B0 b'; obtain ⟨y0, y1, y2, y3, y4, y5⟩ := (X0.below b').six; clear B0))
      go_ret
      exact ⟨rfl, B1⟩
    · skip
      have e : okA 4 0 pl nn ws l1 l2 = true := by simp [okA, okAK, hW, hP, hZ, hN, kindB, inB_z]
      rw [e] at hb
      subst hb
      clear e
      go_enter Tryz.func111, Tryz.ntmps111
      go_wp2_with (first
        | (go_at_call 130; refine (l3Kind_any _ _ _ rfl).mono ?_; rintro e wx ⟨rfl, rfl⟩)
        | (go_at_call 88; refine (l3Words_any _ _ _ ws _ H1.out S1.out hl1 _ hW).mono ?_; rintro e wx ⟨rfl, rfl⟩)
        | (go_at_call 35; refine (l1In_any _ _ _ _ _ (by first | exact hP | exact hN | exact (rfl : inB 0 0 255 = true) | fail)).mono ?_; rintro e wx ⟨rfl, rfl⟩)
        | (go_at_call 131; refine (l4Zero_fftf _ _ _ _ _ _ _ _ _ _ _ (by have := H1.out; omega) hl2 _ hZ).mono ?_; rintro e w1 ⟨rfl, b'⟩; have B1 := bel_next B0 b'; obtain ⟨y0, y1, y2, y3, y4, y5⟩ := (X0.below b').six; clear B0))
      go_ret
      exact ⟨rfl, B1⟩
set_option maxHeartbeats 4000000 in
theorem specRespOk_23 (pl nn : Int) (a1 a2 : Option Addr) (l1 l2 c1 c2 : Nat) (ws : List Int) (w : World) (h1 : l1 = ws.length) (s1 : SlI w a1 ws) (hl1 : ws.length ≤ 2000000) (hl2 : l2 ≤ 20000000) (hW : allW ws = true) (hP : inB pl 0 65535 = true) (b : Bool) (hb : okA 23 0 pl nn ws l1 l2 = b) :
    Calls Tryz.prog 111 #[rp 23 0 pl nn a1 a2 l1 l2 c1 c2] w fun e w' => e = .returned (.bool b) ∧ Below w.heap.size w w' := by
  have H1 : Hid (l1 = ws.length) := h1
  have hs : Hid (SlI w a1 ws) := s1
  have B0 := bel_alloc w (.cells #[.int .i64 23, .int .i64 0, .int .i64 pl, .int .i64 nn, .slice a1 l1 c1, .slice a2 l2 c2] 37)
  have X0 := Blk.new w #[.int .i64 23, .int .i64 0, .int .i64 pl, .int .i64 nn, .slice a1 l1 c1, .slice a2 l2 c2] 37
  have S1 : Hid (SlI (w.alloc (.cells #[.int .i64 23, .int .i64 0, .int .i64 pl, .int .i64 nn, .slice a1 l1 c1, .slice a2 l2 c2] 37)) a1 ws) := s1.below B0
  clear h1 s1
  cases hZ : zr4 false false true false pl nn l1 l2
  · skip
    have e : okA 23 0 pl nn ws l1 l2 = false := by simp [okA, okAK, hW, hP, hZ, kindB, inB_z]
    rw [e] at hb
    subst hb
    clear e
    go_enter Tryz.func111, Tryz.ntmps111
    go_wp2_with (first
      | (go_at_call 130; refine (l3Kind_any _ _ _ rfl).mono ?_; rintro e wx ⟨rfl, rfl⟩)
      | (go_at_call 88; refine (l3Words_any _ _ _ ws _ H1.out S1.out hl1 _ hW).mono ?_; rintro e wx ⟨rfl, rfl⟩)
      | (go_at_call 35; refine (l1In_any _ _ _ _ _ (by first | exact hP | exact (rfl : inB 0 0 255 = true) | fail)).mono ?_; rintro e wx ⟨rfl, rfl⟩)
      | (go_at_call 131; refine (l4Zero_fftf _ _ _ _ _ _ _ _ _ _ _ (by have := H1.out; omega) hl2 _ hZ).mono ?_; rintro e w1 ⟨rfl, b'⟩; have B1 := bel_next B0 b'; obtain ⟨y0, y1, y2, y3, y4, y5⟩ := (X0.below b').six; clear B0))
    go_ret
    exact ⟨rfl, B1⟩
  · skip
    cases hN : inB l1 1 125
    · skip
      have e : okA 23 0 pl nn ws l1 l2 = false := by simp [okA, okAK, hW, hP, hZ, hN, kindB, inB_z]
      rw [e] at hb
      subst hb
      clear e
      go_enter Tryz.func111, Tryz.ntmps111
      go_wp2_with (first
        | (go_at_call 130; refine (l3Kind_any _ _ _ rfl).mono ?_; rintro e wx ⟨rfl, rfl⟩)
        | (go_at_call 88; refine (l3Words_any _ _ _ ws _ H1.out S1.out hl1 _ hW).mono ?_; rintro e wx ⟨rfl, rfl⟩)
        | (go_at_call 35; refine (l1In_any _ _ _ _ _ (by first | exact hP | exact hN | exact (rfl : inB 0 0 255 = true) | fail)).mono ?_; rintro e wx ⟨rfl, rfl⟩)
        | (go_at_call 131; refine (l4Zero_fftf _ _ _ _ _ _ _ _ _ _ _ (by have := H1.out; omega) hl2 _ hZ).mono ?_; rintro e w1 ⟨rfl, b'⟩; have B1 := bel_next B0 b'; obtain ⟨y0, y1, y2, y3, y4, y5⟩ := (X0.below b').six; clear B0))
      go_ret
      exact ⟨rfl, B1⟩
    · skip
      have e : okA 23 0 pl nn ws l1 l2 = true := by simp [okA, okAK, hW, hP, hZ, hN, kindB, inB_z]
      rw [e] at hb
      subst hb
      clear e
      go_enter Tryz.func111, Tryz.ntmps111
      go_wp2_with (first
        | (go_at_call 130; refine (l3Kind_any _ _ _ rfl).mono ?_; rintro e wx ⟨rfl, rfl⟩)
        | (go_at_call 88; refine (l3Words_any _ _ _ ws _ H1.out S1.out hl1 _ hW).mono ?_; rintro e wx ⟨rfl, rfl⟩)
        | (go_at_call 35; refine (l1In_any _ _ _ _ _ (by first | exact hP | exact hN | exact (rfl : inB 0 0 255 = true) | fail)).mono ?_; rintro e wx ⟨rfl, rfl⟩)
        | (go_at_call 131; refine (l4Zero_fftf _ _ _ _ _ _ _ _ _ _ _ (by have := H1.out; omega) hl2 _ hZ).mono ?_; rintro e w1 ⟨rfl, b'⟩; have B1 := bel_next B0 b'; obtain ⟨y0, y1, y2, y3, y4, y5⟩ := (X0.below b').six; clear B0))
      go_ret
      exact ⟨rfl, B1⟩
set_option maxHeartbeats 4000000 in
theorem specRespOk_5 (pl nn : Int) (a1 a2 : Option Addr) (l1 l2 c1 c2 : Nat) (ws : List Int) (w : World) (h1 : l1 = ws.length) (s1 : SlI w a1 ws) (hl1 : ws.length ≤ 2000000) (hl2 : l2 ≤ 20000000) (hW : allW ws = true) (hP : inB pl 0 65535 = true) (b : Bool) (hb : okA 5 0 pl nn ws l1 l2 = b) :
    Calls Tryz.prog 111 #[rp 5 0 pl nn a1 a2 l1 l2 c1 c2] w fun e w' => e = .returned (.bool b) ∧ Below w.heap.size w w' := by
  have H1 : Hid (l1 = ws.length) := h1
  have hs : Hid (SlI w a1 ws) := s1
  have B0 := bel_alloc w (.cells #[.int .i64 5, .int .i64 0, .int .i64 pl, .int .i64 nn, .slice a1 l1 c1, .slice a2 l2 c2] 37)
  have X0 := Blk.new w #[.int .i64 5, .int .i64 0, .int .i64 pl, .int .i64 nn, .slice a1 l1 c1, .slice a2 l2 c2] 37
  have S1 : Hid (SlI (w.alloc (.cells #[.int .i64 5, .int .i64 0, .int .i64 pl, .int .i64 nn, .slice a1 l1 c1, .slice a2 l2 c2] 37)) a1 ws) := s1.below B0
  clear h1 s1
  cases hZ : zr4 true false false true pl nn l1 l2
  · skip
    have e : okA 5 0 pl nn ws l1 l2 = false := by simp [okA, okAK, hW, hP, hZ, kindB, inB_z]
    rw [e] at hb
    subst hb
    clear e
    go_enter Tryz.func111, Tryz.ntmps111
    go_wp2_with (first
      | (go_at_call 130; refine (l3Kind_any _ _ _ rfl).mono ?_; rintro e wx ⟨rfl, rfl⟩)
      | (go_at_call 88; refine (l3Words_any _ _ _ ws _ H1.out S1.out hl1 _ hW).mono ?_; rintro e wx ⟨rfl, rfl⟩)
      | (go_at_call 35; refine (l1In_any _ _ _ _ _ (by first | exact hP | exact (rfl : inB 0 0 255 = true) | fail)).mono ?_; rintro e wx ⟨rfl, rfl⟩)
      | (go_at_call 131; refine (l4Zero_tfft _ _ _ _ _ _ _ _ _ _ _ (by have := H1.out; omega) hl2 _ hZ).mono ?_; rintro e w1 ⟨rfl, b'⟩; have B1 := bel_next B0 b'; obtain ⟨y0, y1, y2, y3, y4, y5⟩ := (X0.below b').six; clear B0))
    go_ret
    exact ⟨rfl, B1⟩
  · skip
    by_cases hL : l2 = 1
    · skip
      have e : okA 5 0 pl nn ws l1 l2 = true := by rw [hL] at hZ ⊢; simp [okA, okAK, hW, hP, hZ, kindB, inB_z]
      rw [e] at hb
      subst hb
      clear e
      have hLi : (l2 : Int) = 1 := by omega
      clear hL
      go_enter Tryz.func111, Tryz.ntmps111
      go_wp2_with (first
        | (go_at_call 130; refine (l3Kind_any _ _ _ rfl).mono ?_; rintro e wx ⟨rfl, rfl⟩)
        | (go_at_call 88; refine (l3Words_any _ _ _ ws _ H1.out S1.out hl1 _ hW).mono ?_; rintro e wx ⟨rfl, rfl⟩)
        | (go_at_call 35; refine (l1In_any _ _ _ _ _ (by first | exact hP | exact (rfl : inB 0 0 255 = true) | fail)).mono ?_; rintro e wx ⟨rfl, rfl⟩)
        | (go_at_call 131; refine (l4Zero_tfft _ _ _ _ _ _ _ _ _ _ _ (by have := H1.out; omega) hl2 _ hZ).mono ?_; rintro e w1 ⟨rfl, b'⟩; have B1 := bel_next B0 b'; obtain ⟨y0, y1, y2, y3, y4, y5⟩ := (X0.below b').six; clear B0))
      go_ret
      exact ⟨rfl, B1⟩
    · skip
      have e : okA 5 0 pl nn ws l1 l2 = false := by simp [okA, okAK, hW, hP, hZ, hL, kindB, inB_z]
      rw [e] at hb
      subst hb
      clear e
      have hLi : ((l2 : Int) == 1) = false := by simp; omega
      clear hL
      go_enter Tryz.func111, Tryz.ntmps111
      go_wp2_with (first
        | (go_at_call 130; refine (l3Kind_any _ _ _ rfl).mono ?_; rintro e wx ⟨rfl, rfl⟩)
        | (go_at_call 88; refine (l3Words_any _ _ _ ws _ H1.out S1.out hl1 _ hW).mono ?_; rintro e wx ⟨rfl, rfl⟩)
        | (go_at_call 35; refine (l1In_any _ _ _ _ _ (by first | exact hP | exact (rfl : inB 0 0 255 = true) | fail)).mono ?_; rintro e wx ⟨rfl, rfl⟩)
        | (go_at_call 131; refine (l4Zero_tfft _ _ _ _ _ _ _ _ _ _ _ (by have := H1.out; omega) hl2 _ hZ).mono ?_; rintro e w1 ⟨rfl, b'⟩; have B1 := bel_next B0 b'; obtain ⟨y0, y1, y2, y3, y4, y5⟩ := (X0.below b').six; clear B0))
      go_ret
      exact ⟨rfl, B1⟩
set_option maxHeartbeats 4000000 in
theorem specRespOk_6 (pl nn : Int) (a1 a2 : Option Addr) (l1 l2 c1 c2 : Nat) (ws : List Int) (w : World) (h1 : l1 = ws.length) (s1 : SlI w a1 ws) (hl1 : ws.length ≤ 2000000) (hl2 : l2 ≤ 20000000) (hW : allW ws = true) (hP : inB pl 0 65535 = true) (b : Bool) (hb : okA 6 0 pl nn ws l1 l2 = b) :
    Calls Tryz.prog 111 #[rp 6 0 pl nn a1 a2 l1 l2 c1 c2] w fun e w' => e = .returned (.bool b) ∧ Below w.heap.size w w' := by
  have H1 : Hid (l1 = ws.length) := h1
  have hs : Hid (SlI w a1 ws) := s1
  have B0 := bel_alloc w (.cells #[.int .i64 6, .int .i64 0, .int .i64 pl, .int .i64 nn, .slice a1 l1 c1, .slice a2 l2 c2] 37)
  have X0 := Blk.new w #[.int .i64 6, .int .i64 0, .int .i64 pl, .int .i64 nn, .slice a1 l1 c1, .slice a2 l2 c2] 37
  have S1 : Hid (SlI (w.alloc (.cells #[.int .i64 6, .int .i64 0, .int .i64 pl, .int .i64 nn, .slice a1 l1 c1, .slice a2 l2 c2] 37)) a1 ws) := s1.below B0
  clear h1 s1
  cases hZ : zr4 true false true false pl nn l1 l2
  · skip
    have e : okA 6 0 pl nn ws l1 l2 = false := by simp [okA, okAK, hW, hP, hZ, kindB, inB_z]
    rw [e] at hb
    subst hb
    clear e
    go_enter Tryz.func111, Tryz.ntmps111
    go_wp2_with (first
      | (go_at_call 130; refine (l3Kind_any _ _ _ rfl).mono ?_; rintro e wx ⟨rfl, rfl⟩)
      | (go_at_call 88; refine (l3Words_any _ _ _ ws _ H1.out S1.out hl1 _ hW).mono ?_; rintro e wx ⟨rfl, rfl⟩)
      | (go_at_call 35; refine (l1In_any _ _ _ _ _ (by first | exact hP | exact (rfl : inB 0 0 255 = true) | fail)).mono ?_; rintro e wx ⟨rfl, rfl⟩)
      | (go_at_call 131; refine (l4Zero_tftf _ _ _ _ _ _ _ _ _ _ _ (by have := H1.out; omega) hl2 _ hZ).mono ?_; rintro e w1 ⟨rfl, b'⟩; have B1 := bel_next B0 b'; obtain ⟨y0, y1, y2, y3, y4, y5⟩ := (X0.below b').six; clear B0))
    go_ret
    exact ⟨rfl, B1⟩
  · skip
    by_cases hL : l1 = 1
    · skip
      have e : okA 6 0 pl nn ws l1 l2 = true := by rw [hL] at hZ ⊢; simp [okA, okAK, hW, hP, hZ, kindB, inB_z]
      rw [e] at hb
      subst hb
      clear e
      have hLi : (l1 : Int) = 1 := by omega
      clear hL
      go_enter Tryz.func111, Tryz.ntmps111
      go_wp2_with (first
        | (go_at_call 130; refine (l3Kind_any _ _ _ rfl).mono ?_; rintro e wx ⟨rfl, rfl⟩)
        | (go_at_call 88; refine (l3Words_any _ _ _ ws _ H1.out S1.out hl1 _ hW).mono ?_; rintro e wx ⟨rfl, rfl⟩)
        | (go_at_call 35; refine (l1In_any _ _ _ _ _ (by first | exact hP | exact (rfl : inB 0 0 255 = true) | fail)).mono ?_; rintro e wx ⟨rfl, rfl⟩)
        | (go_at_call 131; refine (l4Zero_tftf _ _ _ _ _ _ _ _ _ _ _ (by have := H1.out; omega) hl2 _ hZ).mono ?_; rintro e w1 ⟨rfl, b'⟩; have B1 := bel_next B0 b'; obtain ⟨y0, y1, y2, y3, y4, y5⟩ := (X0.below b').six; clear B0))
      go_ret
      exact ⟨rfl, B1⟩
    · skip
      have e : okA 6 0 pl nn ws l1 l2 = false := by simp [okA, okAK, hW, hP, hZ, hL, kindB, inB_z]
      rw [e] at hb
      subst hb
      clear e
      have hLi : ((l1 : Int) == 1) = false := by simp; omega
      clear hL
      go_enter Tryz.func111, Tryz.ntmps111
      go_wp2_with (first
        | (go_at_call 130; refine (l3Kind_any _ _ _ rfl).mono ?_; rintro e wx ⟨rfl, rfl⟩)
        | (go_at_call 88; refine (l3Words_any _ _ _ ws _ H1.out S1.out hl1 _ hW).mono ?_; rintro e wx ⟨rfl, rfl⟩)
        | (go_at_call 35; refine (l1In_any _ _ _ _ _ (by first | exact hP | exact (rfl : inB 0 0 255 = true) | fail)).mono ?_; rintro e wx ⟨rfl, rfl⟩)
        | (go_at_call 131; refine (l4Zero_tftf _ _ _ _ _ _ _ _ _ _ _ (by have := H1.out; omega) hl2 _ hZ).mono ?_; rintro e w1 ⟨rfl, b'⟩; have B1 := bel_next B0 b'; obtain ⟨y0, y1, y2, y3, y4, y5⟩ := (X0.below b').six; clear B0))
      go_ret
      exact ⟨rfl, B1⟩
set_option maxHeartbeats 4000000 in
theorem specRespOk_22 (pl nn : Int) (a1 a2 : Option Addr) (l1 l2 c1 c2 : Nat) (ws : List Int) (w : World) (h1 : l1 = ws.length) (s1 : SlI w a1 ws) (hl1 : ws.length ≤ 2000000) (hl2 : l2 ≤ 20000000) (hW : allW ws = true) (hP : inB pl 0 65535 = true) (b : Bool) (hb : okA 22 0 pl nn ws l1 l2 = b) :
    Calls Tryz.prog 111 #[rp 22 0 pl nn a1 a2 l1 l2 c1 c2] w fun e w' => e = .returned (.bool b) ∧ Below w.heap.size w w' := by
  have H1 : Hid (l1 = ws.length) := h1
  have hs : Hid (SlI w a1 ws) := s1
  have B0 := bel_alloc w (.cells #[.int .i64 22, .int .i64 0, .int .i64 pl, .int .i64 nn, .slice a1 l1 c1, .slice a2 l2 c2] 37)
  have X0 := Blk.new w #[.int .i64 22, .int .i64 0, .int .i64 pl, .int .i64 nn, .slice a1 l1 c1, .slice a2 l2 c2] 37
  have S1 : Hid (SlI (w.alloc (.cells #[.int .i64 22, .int .i64 0, .int .i64 pl, .int .i64 nn, .slice a1 l1 c1, .slice a2 l2 c2] 37)) a1 ws) := s1.below B0
  clear h1 s1
  cases hZ : zr4 true false true false pl nn l1 l2
  · skip
    have e : okA 22 0 pl nn ws l1 l2 = false := by simp [okA, okAK, hW, hP, hZ, kindB, inB_z]
    rw [e] at hb
    subst hb
    clear e
    go_enter Tryz.func111, Tryz.ntmps111
    go_wp2_with (first
      | (go_at_call 130; refine (l3Kind_any _ _ _ rfl).mono ?_; rintro e wx ⟨rfl, rfl⟩)
      | (go_at_call 88; refine (l3Words_any _ _ _ ws _ H1.out S1.out hl1 _ hW).mono ?_; rintro e wx ⟨rfl, rfl⟩)
      | (go_at_call 35; refine (l1In_any _ _ _ _ _ (by first | exact hP | exact (rfl : inB 0 0 255 = true) | fail)).mono ?_; rintro e wx ⟨rfl, rfl⟩)
      | (go_at_call 131; refine (l4Zero_tftf _ _ _ _ _ _ _ _ _ _ _ (by have := H1.out; omega) hl2 _ hZ).mono ?_; rintro e w1 ⟨rfl, b'⟩; have B1 := bel_next B0 b'; obtain ⟨y0, y1, y2, y3, y4, y5⟩ := (X0.below b').six; clear B0))
    go_ret
    exact ⟨rfl, B1⟩
  · skip
    by_cases hL : l1 = 2
    · skip
      have e : okA 22 0 pl nn ws l1 l2 = true := by rw [hL] at hZ ⊢; simp [okA, okAK, hW, hP, hZ, kindB, inB_z]
      rw [e] at hb
      subst hb
      clear e
      have hLi : (l1 : Int) = 2 := by omega
      clear hL
      go_enter Tryz.func111, Tryz.ntmps111
      go_wp2_with (first
        | (go_at_call 130; refine (l3Kind_any _ _ _ rfl).mono ?_; rintro e wx ⟨rfl, rfl⟩)
        | (go_at_call 88; refine (l3Words_any _ _ _ ws _ H1.out S1.out hl1 _ hW).mono ?_; rintro e wx ⟨rfl, rfl⟩)
        | (go_at_call 35; refine (l1In_any _ _ _ _ _ (by first | exact hP | exact (rfl : inB 0 0 255 = true) | fail)).mono ?_; rintro e wx ⟨rfl, rfl⟩)
        | (go_at_call 131; refine (l4Zero_tftf _ _ _ _ _ _ _ _ _ _ _ (by have := H1.out; omega) hl2 _ hZ).mono ?_; rintro e w1 ⟨rfl, b'⟩; have B1 := bel_next B0 b'; obtain ⟨y0, y1, y2, y3, y4, y5⟩ := (X0.below b').six; clear B0))
      go_ret
      exact ⟨rfl, B1⟩
    · skip
      have e : okA 22 0 pl nn ws l1 l2 = false := by simp [okA, okAK, hW, hP, hZ, hL, kindB, inB_z]
      rw [e] at hb
      subst hb
      clear e
      have hLi : ((l1 : Int) == 2) = false := by simp; omega
      clear hL
      go_enter Tryz.func111, Tryz.ntmps111
      go_wp2_with (first
        | (go_at_call 130; refine (l3Kind_any _ _ _ rfl).mono ?_; rintro e wx ⟨rfl, rfl⟩)
        | (go_at_call 88; refine (l3Words_any _ _ _ ws _ H1.out S1.out hl1 _ hW).mono ?_; rintro e wx ⟨rfl, rfl⟩)
        | (go_at_call 35; refine (l1In_any _ _ _ _ _ (by first | exact hP | exact (rfl : inB 0 0 255 = true) | fail)).mono ?_; rintro e wx ⟨rfl, rfl⟩)
        | (go_at_call 131; refine (l4Zero_tftf _ _ _ _ _ _ _ _ _ _ _ (by have := H1.out; omega) hl2 _ hZ).mono ?_; rintro e w1 ⟨rfl, b'⟩; have B1 := bel_next B0 b'; obtain ⟨y0, y1, y2, y3, y4, y5⟩ := (X0.below b').six; clear B0))
      go_ret
      exact ⟨rfl, B1⟩
set_option maxHeartbeats 4000000 in
theorem specRespOk_15 (pl nn : Int) (a1 a2 : Option Addr) (l1 l2 c1 c2 : Nat) (ws : List Int) (w : World) (h1 : l1 = ws.length) (s1 : SlI w a1 ws) (hl1 : ws.length ≤ 2000000) (hl2 : l2 ≤ 20000000) (hW : allW ws = true) (hP : inB pl 0 65535 = true) (b : Bool) (hb : okA 15 0 pl nn ws l1 l2 = b) :
    Calls Tryz.prog 111 #[rp 15 0 pl nn a1 a2 l1 l2 c1 c2] w fun e w' => e = .returned (.bool b) ∧ Below w.heap.size w w' := by
  have H1 : Hid (l1 = ws.length) := h1
  have hs : Hid (SlI w a1 ws) := s1
  have B0 := bel_alloc w (.cells #[.int .i64 15, .int .i64 0, .int .i64 pl, .int .i64 nn, .slice a1 l1 c1, .slice a2 l2 c2] 37)
  have X0 := Blk.new w #[.int .i64 15, .int .i64 0, .int .i64 pl, .int .i64 nn, .slice a1 l1 c1, .slice a2 l2 c2] 37
  have S1 : Hid (SlI (w.alloc (.cells #[.int .i64 15, .int .i64 0, .int .i64 pl, .int .i64 nn, .slice a1 l1 c1, .slice a2 l2 c2] 37)) a1 ws) := s1.below B0
  clear h1 s1
  cases hZ : zr4 true true false false pl nn l1 l2
  · skip
    have e : okA 15 0 pl nn ws l1 l2 = false := by simp [okA, okAK, hW, hP, hZ, kindB, inB_z]
    rw [e] at hb
    subst hb
    clear e
    go_enter Tryz.func111, Tryz.ntmps111
    go_wp2_with (first
      | (go_at_call 130; refine (l3Kind_any _ _ _ rfl).mono ?_; rintro e wx ⟨rfl, rfl⟩)
      | (go_at_call 88; refine (l3Words_any _ _ _ ws _ H1.out S1.out hl1 _ hW).mono ?_; rintro e wx ⟨rfl, rfl⟩)
      | (go_at_call 35; refine (l1In_any _ _ _ _ _ (by first | exact hP | exact (rfl : inB 0 0 255 = true) | fail)).mono ?_; rintro e wx ⟨rfl, rfl⟩)
      | (go_at_call 131; refine (l4Zero_ttff _ _ _ _ _ _ _ _ _ _ _ (by have := H1.out; omega) hl2 _ hZ).mono ?_; rintro e w1 ⟨rfl, b'⟩; have B1 := bel_next B0 b'; obtain ⟨y0, y1, y2, y3, y4, y5⟩ := (X0.below b').six; clear B0))
    go_ret
    exact ⟨rfl, B1⟩
  · skip
    cases hN : inB nn 1 1968
    · skip
      have e : okA 15 0 pl nn ws l1 l2 = false := by simp [okA, okAK, hW, hP, hZ, hN, kindB, inB_z]
      rw [e] at hb
      subst hb
      clear e
      go_enter Tryz.func111, Tryz.ntmps111
      go_wp2_with (first
        | (go_at_call 130; refine (l3Kind_any _ _ _ rfl).mono ?_; rintro e wx ⟨rfl, rfl⟩)
        | (go_at_call 88; refine (l3Words_any _ _ _ ws _ H1.out S1.out hl1 _ hW).mono ?_; rintro e wx ⟨rfl, rfl⟩)
        | (go_at_call 35; refine (l1In_any _ _ _ _ _ (by first | exact hP | exact hN | exact (rfl : inB 0 0 255 = true) | fail)).mono ?_; rintro e wx ⟨rfl, rfl⟩)
        | (go_at_call 131; refine (l4Zero_ttff _ _ _ _ _ _ _ _ _ _ _ (by have := H1.out; omega) hl2 _ hZ).mono ?_; rintro e w1 ⟨rfl, b'⟩; have B1 := bel_next B0 b'; obtain ⟨y0, y1, y2, y3, y4, y5⟩ := (X0.below b').six; clear B0))
      go_ret
      exact ⟨rfl, B1⟩
    · skip
      have e : okA 15 0 pl nn ws l1 l2 = true := by simp [okA, okAK, hW, hP, hZ, hN, kindB, inB_z]
      rw [e] at hb
      subst hb
      clear e
      go_enter Tryz.func111, Tryz.ntmps111
      go_wp2_with (first
        | (go_at_call 130; refine (l3Kind_any _ _ _ rfl).mono ?_; rintro e wx ⟨rfl, rfl⟩)
        | (go_at_call 88; refine (l3Words_any _ _ _ ws _ H1.out S1.out hl1 _ hW).mono ?_; rintro e wx ⟨rfl, rfl⟩)
        | (go_at_call 35; refine (l1In_any _ _ _ _ _ (by first | exact hP | exact hN | exact (rfl : inB 0 0 255 = true) | fail)).mono ?_; rintro e wx ⟨rfl, rfl⟩)
        | (go_at_call 131; refine (l4Zero_ttff _ _ _ _ _ _ _ _ _ _ _ (by have := H1.out; omega) hl2 _ hZ).mono ?_; rintro e w1 ⟨rfl, b'⟩; have B1 := bel_next B0 b'; obtain ⟨y0, y1, y2, y3, y4, y5⟩ := (X0.below b').six; clear B0))
      go_ret
      exact ⟨rfl, B1⟩
set_option maxHeartbeats 4000000 in
theorem specRespOk_16 (pl nn : Int) (a1 a2 : Option Addr) (l1 l2 c1 c2 : Nat) (ws : List Int) (w : World) (h1 : l1 = ws.length) (s1 : SlI w a1 ws) (hl1 : ws.length ≤ 2000000) (hl2 : l2 ≤ 20000000) (hW : allW ws = true) (hP : inB pl 0 65535 = true) (b : Bool) (hb : okA 16 0 pl nn ws l1 l2 = b) :
    Calls Tryz.prog 111 #[rp 16 0 pl nn a1 a2 l1 l2 c1 c2] w fun e w' => e = .returned (.bool b) ∧ Below w.heap.size w w' := by
  have H1 : Hid (l1 = ws.length) := h1
  have hs : Hid (SlI w a1 ws) := s1
  have B0 := bel_alloc w (.cells #[.int .i64 16, .int .i64 0, .int .i64 pl, .int .i64 nn, .slice a1 l1 c1, .slice a2 l2 c2] 37)
  have X0 := Blk.new w #[.int .i64 16, .int .i64 0, .int .i64 pl, .int .i64 nn, .slice a1 l1 c1, .slice a2 l2 c2] 37
  have S1 : Hid (SlI (w.alloc (.cells #[.int .i64 16, .int .i64 0, .int .i64 pl, .int .i64 nn, .slice a1 l1 c1, .slice a2 l2 c2] 37)) a1 ws) := s1.below B0
  clear h1 s1
  cases hZ : zr4 true true false false pl nn l1 l2
  · skip
    have e : okA 16 0 pl nn ws l1 l2 = false := by simp [okA, okAK, hW, hP, hZ, kindB, inB_z]
    rw [e] at hb
    subst hb
    clear e
    go_enter Tryz.func111, Tryz.ntmps111
    go_wp2_with (first
      | (go_at_call 130; refine (l3Kind_any _ _ _ rfl).mono ?_; rintro e wx ⟨rfl, rfl⟩)
      | (go_at_call 88; refine (l3Words_any _ _ _ ws _ H1.out S1.out hl1 _ hW).mono ?_; rintro e wx ⟨rfl, rfl⟩)
      | (go_at_call 35; refine (l1In_any _ _ _ _ _ (by first | exact hP | exact (rfl : inB 0 0 255 = true) | fail)).mono ?_; rintro e wx ⟨rfl, rfl⟩)
      | (go_at_call 131; refine (l4Zero_ttff _ _ _ _ _ _ _ _ _ _ _ (by have := H1.out; omega) hl2 _ hZ).mono ?_; rintro e w1 ⟨rfl, b'⟩; have B1 := bel_next B0 b'; obtain ⟨y0, y1, y2, y3, y4, y5⟩ := (X0.below b').six; clear B0))
    go_ret
    exact ⟨rfl, B1⟩
  · skip
    cases hN : inB nn 1 123
    · skip
      have e : okA 16 0 pl nn ws l1 l2 = false := by simp [okA, okAK, hW, hP, hZ, hN, kindB, inB_z]
      rw [e] at hb
      subst hb
      clear e
      go_enter Tryz.func111, Tryz.ntmps111
      go_wp2_with (first
        | (go_at_call 130; refine (l3Kind_any _ _ _ rfl).mono ?_; rintro e wx ⟨rfl, rfl⟩)
        | (go_at_call 88; refine (l3Words_any _ _ _ ws _ H1.out S1.out hl1 _ hW).mono ?_; rintro e wx ⟨rfl, rfl⟩)
        | (go_at_call 35; refine (l1In_any _ _ _ _ _ (by first | exact hP | exact hN | exact (rfl : inB 0 0 255 = true) | fail)).mono ?_; rintro e wx ⟨rfl, rfl⟩)
        | (go_at_call 131; refine (l4Zero_ttff _ _ _ _ _ _ _ _ _ _ _ (by have := H1.out; omega) hl2 _ hZ).mono ?_; rintro e w1 ⟨rfl, b'⟩; have B1 := bel_next B0 b'; obtain ⟨y0, y1, y2, y3, y4, y5⟩ := (X0.below b').six; clear B0))
      go_ret
      exact ⟨rfl, B1⟩
    · skip
      have e : okA 16 0 pl nn ws l1 l2 = true := by simp [okA, okAK, hW, hP, hZ, hN, kindB, inB_z]
      rw [e] at hb
      subst hb
      clear e
      go_enter Tryz.func111, Tryz.ntmps111
      go_wp2_with (first
        | (go_at_call 130; refine (l3Kind_any _ _ _ rfl).mono ?_; rintro e wx ⟨rfl, rfl⟩)
        | (go_at_call 88; refine (l3Words_any _ _ _ ws _ H1.out S1.out hl1 _ hW).mono ?_; rintro e wx ⟨rfl, rfl⟩)
        | (go_at_call 35; refine (l1In_any _ _ _ _ _ (by first | exact hP | exact hN | exact (rfl : inB 0 0 255 = true) | fail)).mono ?_; rintro e wx ⟨rfl, rfl⟩)
        | (go_at_call 131; refine (l4Zero_ttff _ _ _ _ _ _ _ _ _ _ _ (by have := H1.out; omega) hl2 _ hZ).mono ?_; rintro e w1 ⟨rfl, b'⟩; have B1 := bel_next B0 b'; obtain ⟨y0, y1, y2, y3, y4, y5⟩ := (X0.below b').six; clear B0))
      go_ret
      exact ⟨rfl, B1⟩
set_option maxHeartbeats 4000000 in
theorem specRespOk_any (kd fl pl nn : Int) (a1 a2 : Option Addr) (l1 l2 c1 c2 : Nat) (ws : List Int) (w : World) (h1 : l1 = ws.length) (s1 : SlI w a1 ws) (hl1 : ws.length ≤ 2000000) (hl2 : l2 ≤ 20000000) (b : Bool) (hb : okA kd fl pl nn ws l1 l2 = b) :
    Calls Tryz.prog 111 #[rp kd fl pl nn a1 a2 l1 l2 c1 c2] w fun e w' => e = .returned (.bool b) ∧ Below w.heap.size w w' := by
  have H1 : Hid (l1 = ws.length) := h1
  have hs : Hid (SlI w a1 ws) := s1
  have B0 := bel_alloc w (.cells #[.int .i64 kd, .int .i64 fl, .int .i64 pl, .int .i64 nn, .slice a1 l1 c1, .slice a2 l2 c2] 37)
  have X0 := Blk.new w #[.int .i64 kd, .int .i64 fl, .int .i64 pl, .int .i64 nn, .slice a1 l1 c1, .slice a2 l2 c2] 37
  have S1 : Hid (SlI (w.alloc (.cells #[.int .i64 kd, .int .i64 fl, .int .i64 pl, .int .i64 nn, .slice a1 l1 c1, .slice a2 l2 c2] 37)) a1 ws) := s1.below B0
  clear h1 s1
  cases hK : kindB kd
  · skip
    have e : okA kd fl pl nn ws l1 l2 = false := by simp [okA, okAK, hK]
    rw [e] at hb
    subst hb
    clear e
    go_enter Tryz.func111, Tryz.ntmps111
    go_wp2_with (first
      | (go_at_call 130; refine (l3Kind_any _ _ _ hK).mono ?_; rintro e wx ⟨rfl, rfl⟩)
      | (go_at_call 35; refine (l1In_any _ _ _ _ _ (by first | fail)).mono ?_; rintro e wx ⟨rfl, rfl⟩))
    go_ret
    exact ⟨rfl, B0⟩
  · skip
    cases hF : inB fl 0 255
    · skip
      have e : okA kd fl pl nn ws l1 l2 = false := by simp [okA, okAK, hK, hF]
      rw [e] at hb
      subst hb
      clear e
      go_enter Tryz.func111, Tryz.ntmps111
      go_wp2_with (first
        | (go_at_call 130; refine (l3Kind_any _ _ _ hK).mono ?_; rintro e wx ⟨rfl, rfl⟩)
        | (go_at_call 35; refine (l1In_any _ _ _ _ _ (by first | exact hF | fail)).mono ?_; rintro e wx ⟨rfl, rfl⟩))
      go_ret
      exact ⟨rfl, B0⟩
    · skip
      cases hW : allW ws
      · skip
        have e : okA kd fl pl nn ws l1 l2 = false := by simp [okA, okAK, hK, hF, hW]
        rw [e] at hb
        subst hb
        clear e
        go_enter Tryz.func111, Tryz.ntmps111
        go_wp2_with (first
          | (go_at_call 130; refine (l3Kind_any _ _ _ hK).mono ?_; rintro e wx ⟨rfl, rfl⟩)
          | (go_at_call 88; refine (l3Words_any _ _ _ ws _ H1.out S1.out hl1 _ hW).mono ?_; rintro e wx ⟨rfl, rfl⟩)
          | (go_at_call 35; refine (l1In_any _ _ _ _ _ (by first | exact hF | fail)).mono ?_; rintro e wx ⟨rfl, rfl⟩))
        go_ret
        exact ⟨rfl, B0⟩
      · skip
        cases hP : inB pl 0 65535
        · skip
          have e : okA kd fl pl nn ws l1 l2 = false := by simp [okA, okAK, hK, hF, hW, hP]
          rw [e] at hb
          subst hb
          clear e
          go_enter Tryz.func111, Tryz.ntmps111
          go_wp2_with (first
            | (go_at_call 130; refine (l3Kind_any _ _ _ hK).mono ?_; rintro e wx ⟨rfl, rfl⟩)
            | (go_at_call 88; refine (l3Words_any _ _ _ ws _ H1.out S1.out hl1 _ hW).mono ?_; rintro e wx ⟨rfl, rfl⟩)
            | (go_at_call 35; refine (l1In_any _ _ _ _ _ (by first | exact hF | exact hP | fail)).mono ?_; rintro e wx ⟨rfl, rfl⟩))
          go_ret
          exact ⟨rfl, B0⟩
        · skip
          by_cases h0 : 0 < fl
          · skip
            cases hZ : zr4 false false false false pl nn l1 l2
            · skip
              have e : okA kd fl pl nn ws l1 l2 = false := by simp [okA, okAK, hK, hF, hW, hP, h0, hZ]
              rw [e] at hb
              subst hb
              clear e
              go_enter Tryz.func111, Tryz.ntmps111
              go_wp2_with (first
                | (go_at_call 130; refine (l3Kind_any _ _ _ hK).mono ?_; rintro e wx ⟨rfl, rfl⟩)
                | (go_at_call 88; refine (l3Words_any _ _ _ ws _ H1.out S1.out hl1 _ hW).mono ?_; rintro e wx ⟨rfl, rfl⟩)
                | (go_at_call 35; refine (l1In_any _ _ _ _ _ (by first | exact hF | exact hP | fail)).mono ?_; rintro e wx ⟨rfl, rfl⟩)
                | (go_at_call 131; refine (l4Zero_ffff _ _ _ _ _ _ _ _ _ _ _ (by have := H1.out; omega) hl2 _ hZ).mono ?_; rintro e w1 ⟨rfl, b'⟩; have B1 := bel_next B0 b'; obtain ⟨y0, y1, y2, y3, y4, y5⟩ := (X0.below b').six; clear B0))
              go_ret
              exact ⟨rfl, B1⟩
            · skip
              have e : okA kd fl pl nn ws l1 l2 = true := by simp [okA, okAK, hK, hF, hW, hP, h0, hZ]
              rw [e] at hb
              subst hb
              clear e
              go_enter Tryz.func111, Tryz.ntmps111
              go_wp2_with (first
                | (go_at_call 130; refine (l3Kind_any _ _ _ hK).mono ?_; rintro e wx ⟨rfl, rfl⟩)
                | (go_at_call 88; refine (l3Words_any _ _ _ ws _ H1.out S1.out hl1 _ hW).mono ?_; rintro e wx ⟨rfl, rfl⟩)
                | (go_at_call 35; refine (l1In_any _ _ _ _ _ (by first | exact hF | exact hP | fail)).mono ?_; rintro e wx ⟨rfl, rfl⟩)
                | (go_at_call 131; refine (l4Zero_ffff _ _ _ _ _ _ _ _ _ _ _ (by have := H1.out; omega) hl2 _ hZ).mono ?_; rintro e w1 ⟨rfl, b'⟩; have B1 := bel_next B0 b'; obtain ⟨y0, y1, y2, y3, y4, y5⟩ := (X0.below b').six; clear B0))
              go_ret
              exact ⟨rfl, B1⟩
          · skip
            obtain rfl : fl = 0 := by have := inB_yes hF; omega
            clear X0 S1 B0
            obtain rfl | rfl | rfl | rfl | rfl | rfl | rfl | rfl | rfl | rfl := of_decide_eq_true hK
            · exact specRespOk_1 pl nn a1 a2 l1 l2 c1 c2 ws w H1.out hs.out hl1 hl2 hW hP b hb
            · exact specRespOk_2 pl nn a1 a2 l1 l2 c1 c2 ws w H1.out hs.out hl1 hl2 hW hP b hb
            · exact specRespOk_3 pl nn a1 a2 l1 l2 c1 c2 ws w H1.out hs.out hl1 hl2 hW hP b hb
            · exact specRespOk_4 pl nn a1 a2 l1 l2 c1 c2 ws w H1.out hs.out hl1 hl2 hW hP b hb
            · exact specRespOk_5 pl nn a1 a2 l1 l2 c1 c2 ws w H1.out hs.out hl1 hl2 hW hP b hb
            · exact specRespOk_6 pl nn a1 a2 l1 l2 c1 c2 ws w H1.out hs.out hl1 hl2 hW hP b hb
            · exact specRespOk_15 pl nn a1 a2 l1 l2 c1 c2 ws w H1.out hs.out hl1 hl2 hW hP b hb
            · exact specRespOk_16 pl nn a1 a2 l1 l2 c1 c2 ws w H1.out hs.out hl1 hl2 hW hP b hb
            · exact specRespOk_22 pl nn a1 a2 l1 l2 c1 c2 ws w H1.out hs.out hl1 hl2 hW hP b hb
            · exact specRespOk_23 pl nn a1 a2 l1 l2 c1 c2 ws w H1.out hs.out hl1 hl2 hW hP b hb
theorem specRespOk_q (kd fl pl nn : Int) (a1 a2 : Option Addr) (l1 l2 c1 c2 : Nat) (ws : List Int) (bs : List Bool) (w : World) (h1 : l1 = ws.length) (h2 : l2 = bs.length) (s1 : SlI w a1 ws) (s2 : SlB w a2 bs) (hl1 : ws.length ≤ 2000000) (hl2 : bs.length ≤ 2000000) :
    Calls Tryz.prog 111 #[rp kd fl pl nn a1 a2 l1 l2 c1 c2] w fun e w' => e = .returned (.bool (okA kd fl pl nn ws l1 l2)) ∧ Below w.heap.size w w' :=
  specRespOk_any kd fl pl nn a1 a2 l1 l2 c1 c2 ws w h1 s1 hl1 (by omega) _ rfl
end Go.Proofs.YtmhdneenjoelfaaGreat
namespace Go.Proofs.YtmhdneenjoelfaaGreat
open Go.RowKit
def anB (kd pl nn : Int) (m1 m2 : Nat) (qs : List Int) (qb : List Bool) (ap an : Int) (l1 l2 : Nat) (ws : List Int) (bs : List Bool) : Bool :=
  if kd = 1 ∨ kd = 2 then nfB bs nn.toNat && decide (l2 = (nn.toNat + 7) / 8 * 8)
  else if kd = 3 ∨ kd = 4 ∨ kd = 23 then decide ((l1 : Int) = nn)
  else if kd = 5 then decide (ap = pl) && decide (bs = qb)
  else if kd = 6 ∨ kd = 22 then decide (ap = pl) && decide (ws = qs)
  else if kd = 15 then decide (ap = pl) && decide (an = (m2 : Int))
  else decide (ap = pl) && decide (an = (m1 : Int))
def suB (kd pl nn wa : Int) (m1 m2 : Nat) (qs : List Int) (qb : List Bool) (kd' fl ap an : Int) (l1 l2 : Nat) (ws : List Int) (bs : List Bool) : Bool :=
  okR kd pl nn wa qs m1 m2 && (okA kd' fl ap an ws l1 l2 && (decide (kd = kd') && (!decide (fl = 0) || anB kd pl nn m1 m2 qs qb ap an l1 l2 ws bs)))
end Go.Proofs.YtmhdneenjoelfaaGreat
namespace Go.Proofs.YtmhdneenjoelfaaGreat
open Go.RowKit
set_option linter.unusedVariables false
set_option linter.unusedSimpArgs false
set_option maxHeartbeats 1000000 in
theorem isCount_any (x most : Int) (w : World) (b : Bool) (hb : inB x 1 most = b) : Calls Tryz.prog 118 #[.int .i64 x, .int .i64 most] w fun e w' => e = .returned (.bool b) ∧ w' = w := by
  subst hb
  unfold inB
  by_cases h1 : 1 ≤ x
  · by_cases h2 : x ≤ most
    · rw [decide_eq_true (show 1 ≤ x ∧ x ≤ most from ⟨h1, h2⟩)]
      go_enter Tryz.func118, Tryz.ntmps118
      go_wp2
      go_ret
      exact ⟨rfl, rfl⟩
    · rw [decide_eq_false (show ¬ (1 ≤ x ∧ x ≤ most) from fun h => h2 h.2)]
      go_enter Tryz.func118, Tryz.ntmps118
      go_wp2
      go_ret
      exact ⟨rfl, rfl⟩
  · rw [decide_eq_false (show ¬ (1 ≤ x ∧ x ≤ most) from fun h => h1 h.1)]
    go_enter Tryz.func118, Tryz.ntmps118
    go_wp2
    go_ret
    exact ⟨rfl, rfl⟩
set_option maxHeartbeats 1000000 in
theorem isFault_any (x : Int) (w : World) (b : Bool) (hb : inB x 1 255 = b) : Calls Tryz.prog 100 #[.int .i64 x] w fun e w' => e = .returned (.bool b) ∧ w' = w := by
  go_enter Tryz.func100, Tryz.ntmps100
  go_wp2_with fail
  refine (isCount_any _ _ _ _ hb).mono ?_
  rintro e wx ⟨rfl, rfl⟩
  go_wp2
  go_ret
  exact ⟨rfl, rfl⟩
def tB (kd fl pl nn : Int) (ws : List Int) (l1 l2 : Nat) : Bool :=
  if fl = 0 then
    if kd = 1 ∨ kd = 2 then inB l2 1 2000 && decide (l2 % 8 = 0)
    else if kd = 3 ∨ kd = 4 ∨ kd = 23 then inB l1 1 125 && allW ws
    else if kd = 5 then inB pl 0 65535 && decide (l2 = 1)
    else if kd = 6 then inB pl 0 65535 && (decide (l1 = 1) && allW ws)
    else if kd = 22 then inB pl 0 65535 && (decide (l1 = 2) && allW ws)
    else if kd = 15 then inB pl 0 65535 && inB nn 1 1968
    else inB pl 0 65535 && inB nn 1 123
  else inB fl 1 255
def zrA (kd fl pl nn : Int) (l1 l2 : Nat) : Bool :=
  if fl = 0 then
    if kd = 1 ∨ kd = 2 then zr4 false false false true pl nn l1 l2
    else if kd = 3 ∨ kd = 4 ∨ kd = 23 then zr4 false false true false pl nn l1 l2
    else if kd = 5 then zr4 true false false true pl nn l1 l2
    else if kd = 6 ∨ kd = 22 then zr4 true false true false pl nn l1 l2
    else zr4 true true false false pl nn l1 l2
  else zr4 false false false false pl nn l1 l2
theorem allW_nil {ws : List Int} {l1 : Nat} (h1 : l1 = ws.length) (h : l1 = 0) : allW ws = true := by
  rw [h] at h1
  rw [List.eq_nil_of_length_eq_zero h1.symm]
  rfl
theorem okA_told (kd fl pl nn : Int) (ws : List Int) (l1 l2 : Nat) (h1 : l1 = ws.length) (hk : kindB kd = true) : okA kd fl pl nn ws l1 l2 = (tB kd fl pl nn ws l1 l2 && zrA kd fl pl nn l1 l2) := by
  have hnil := allW_nil h1
  clear h1
  have hk' := of_decide_eq_true hk
  rw [Bool.eq_iff_iff]
  by_cases hf : fl = 0
  · subst hf
    obtain rfl | rfl | rfl | rfl | rfl | rfl | rfl | rfl | rfl | rfl := hk'
    all_goals (
      simp [okA, okAK, tB, zrA, kindB, inB, zr4]
      cases hW : allW ws
      · rw [hW] at hnil; simp at hnil; simp <;> omega
      · simp; omega)
  · by_cases hp : 0 < fl
    · simp [okA, tB, zrA, hk, inB, zr4, hf, hp]
      cases hW : allW ws
      · rw [hW] at hnil; simp at hnil; simp <;> omega
      · simp; omega
    · have e1 : inB fl 0 255 = false := decide_eq_false (by omega)
      have e2 : inB fl 1 255 = false := decide_eq_false (by omega)
      simp [okA, tB, hk, e1, e2, hf]
set_option maxHeartbeats 4000000 in
theorem isTold_1 (pl nn : Int) (a1 a2 : Option Addr) (l1 l2 c1 c2 : Nat) (ws : List Int) (w : World) (h1 : l1 = ws.length) (s1 : SlI w a1 ws) (hl1 : ws.length ≤ 2000000) (hl2 : l2 ≤ 20000000) (b : Bool) (hb : tB 1 0 pl nn ws l1 l2 = b) :
    Calls Tryz.prog 139 #[rp 1 0 pl nn a1 a2 l1 l2 c1 c2] w fun e w' => e = .returned (.bool b) ∧ Below w.heap.size w w' := by
  have H1 : Hid (l1 = ws.length) := h1
  have hs : Hid (SlI w a1 ws) := s1
  have B0 := bel_alloc w (.cells #[.int .i64 1, .int .i64 0, .int .i64 pl, .int .i64 nn, .slice a1 l1 c1, .slice a2 l2 c2] 37)
  have S1 : Hid (SlI (w.alloc (.cells #[.int .i64 1, .int .i64 0, .int .i64 pl, .int .i64 nn, .slice a1 l1 c1, .slice a2 l2 c2] 37)) a1 ws) := s1.below B0
  clear h1 s1
  cases hN : inB l2 1 2000
  · skip
    have e : tB 1 0 pl nn ws l1 l2 = false := by simp [tB, hN]
    rw [e] at hb
    subst hb
    clear e
    go_enter Tryz.func139, Tryz.ntmps139
    go_wp2_with (first
      | (go_at_call 118; refine (isCount_any _ _ _ _ hN).mono ?_; rintro e wx ⟨rfl, rfl⟩))
    go_ret
    exact ⟨rfl, B0⟩
  · skip
    by_cases hM : l2 % 8 = 0
    · skip
      have e : tB 1 0 pl nn ws l1 l2 = true := by simp [tB, hN, hM]
      rw [e] at hb
      subst hb
      clear e
      have hMt : ((l2 : Int) % 8 == 0) = true := by simp; omega
      clear hM
      go_enter Tryz.func139, Tryz.ntmps139
      go_wp2_with (first
        | (go_at_call 118; refine (isCount_any _ _ _ _ hN).mono ?_; rintro e wx ⟨rfl, rfl⟩))
      go_ret
      exact ⟨rfl, B0⟩
    · skip
      have e : tB 1 0 pl nn ws l1 l2 = false := by simp [tB, hN, hM]
      rw [e] at hb
      subst hb
      clear e
      have hMt : ((l2 : Int) % 8 == 0) = false := by simp; omega
      clear hM
      go_enter Tryz.func139, Tryz.ntmps139
      go_wp2_with (first
        | (go_at_call 118; refine (isCount_any _ _ _ _ hN).mono ?_; rintro e wx ⟨rfl, rfl⟩))
      go_ret
      exact ⟨rfl, B0⟩
set_option maxHeartbeats 4000000 in
theorem isTold_2 (pl nn : Int) (a1 a2 : Option Addr) (l1 l2 c1 c2 : Nat) (ws : List Int) (w : World) (h1 : l1 = ws.length) (s1 : SlI w a1 ws) (hl1 : ws.length ≤ 2000000) (hl2 : l2 ≤ 20000000) (b : Bool) (hb : tB 2 0 pl nn ws l1 l2 = b) :
    Calls Tryz.prog 139 #[rp 2 0 pl nn a1 a2 l1 l2 c1 c2] w fun e w' => e = .returned (.bool b) ∧ Below w.heap.size w w' := by
  have H1 : Hid (l1 = ws.length) := h1
  have hs : Hid (SlI w a1 ws) := s1
  have B0 := bel_alloc w (.cells #[.int .i64 2, .int .i64 0, .int .i64 pl, .int .i64 nn, .slice a1 l1 c1, .slice a2 l2 c2] 37)
  have S1 : Hid (SlI (w.alloc (.cells #[.int .i64 2, .int .i64 0, .int .i64 pl, .int .i64 nn, .slice a1 l1 c1, .slice a2 l2 c2] 37)) a1 ws) := s1.below B0
  clear h1 s1
  cases hN : inB l2 1 2000
  · skip
    have e : tB 2 0 pl nn ws l1 l2 = false := by simp [tB, hN]
    rw [e] at hb
    subst hb
    clear e
    go_enter Tryz.func139, Tryz.ntmps139
    go_wp2_with (first
      | (go_at_call 118; refine (isCount_any _ _ _ _ hN).mono ?_; rintro e wx ⟨rfl, rfl⟩))
    go_ret
    exact ⟨rfl, B0⟩
  · skip
    by_cases hM : l2 % 8 = 0
    · skip
      have e : tB 2 0 pl nn ws l1 l2 = true := by simp [tB, hN, hM]
      rw [e] at hb
      subst hb
      clear e
      have hMt : ((l2 : Int) % 8 == 0) = true := by simp; omega
      clear hM
      go_enter Tryz.func139, Tryz.ntmps139
      go_wp2_with (first
        | (go_at_call 118; refine (isCount_any _ _ _ _ hN).mono ?_; rintro e wx ⟨rfl, rfl⟩))
      go_ret
      exact ⟨rfl, B0⟩
    · skip
      have e : tB 2 0 pl nn ws l1 l2 = false := by simp [tB, hN, hM]
      rw [e] at hb
      subst hb
      clear e
      have hMt : ((l2 : Int) % 8 == 0) = false := by simp; omega
      clear hM
      go_enter Tryz.func139, Tryz.ntmps139
      go_wp2_with (first
        | (go_at_call 118; refine (isCount_any _ _ _ _ hN).mono ?_; rintro e wx ⟨rfl, rfl⟩))
      go_ret
      exact ⟨rfl, B0⟩
set_option maxHeartbeats 4000000 in
theorem isTold_3 (pl nn : Int) (a1 a2 : Option Addr) (l1 l2 c1 c2 : Nat) (ws : List Int) (w : World) (h1 : l1 = ws.length) (s1 : SlI w a1 ws) (hl1 : ws.length ≤ 2000000) (hl2 : l2 ≤ 20000000) (b : Bool) (hb : tB 3 0 pl nn ws l1 l2 = b) :
    Calls Tryz.prog 139 #[rp 3 0 pl nn a1 a2 l1 l2 c1 c2] w fun e w' => e = .returned (.bool b) ∧ Below w.heap.size w w' := by
  have H1 : Hid (l1 = ws.length) := h1
  have hs : Hid (SlI w a1 ws) := s1
  have B0 := bel_alloc w (.cells #[.int .i64 3, .int .i64 0, .int .i64 pl, .int .i64 nn, .slice a1 l1 c1, .slice a2 l2 c2] 37)
  have S1 : Hid (SlI (w.alloc (.cells #[.int .i64 3, .int .i64 0, .int .i64 pl, .int .i64 nn, .slice a1 l1 c1, .slice a2 l2 c2] 37)) a1 ws) := s1.below B0
  clear h1 s1
  cases hN : inB l1 1 125
  · skip
    have e : tB 3 0 pl nn ws l1 l2 = false := by simp [tB, hN]
    rw [e] at hb
    subst hb
    clear e
    go_enter Tryz.func139, Tryz.ntmps139
    go_wp2_with (first
      | (go_at_call 118; refine (isCount_any _ _ _ _ hN).mono ?_; rintro e wx ⟨rfl, rfl⟩))
    go_ret
    exact ⟨rfl, B0⟩
  · skip
    cases hW : allW ws
    · skip
      have e : tB 3 0 pl nn ws l1 l2 = false := by simp [tB, hN, hW]
      rw [e] at hb
      subst hb
      clear e
      go_enter Tryz.func139, Tryz.ntmps139
      go_wp2_with (first
        | (go_at_call 118; refine (isCount_any _ _ _ _ hN).mono ?_; rintro e wx ⟨rfl, rfl⟩)
        | (go_at_call 144; refine (areWords_any _ _ _ ws _ H1.out S1.out hl1 _ hW).mono ?_; rintro e wx ⟨rfl, rfl⟩))
      go_ret
      exact ⟨rfl, B0⟩
    · skip
      have e : tB 3 0 pl nn ws l1 l2 = true := by simp [tB, hN, hW]
      rw [e] at hb
      subst hb
      clear e
      go_enter Tryz.func139, Tryz.ntmps139
      go_wp2_with (first
        | (go_at_call 118; refine (isCount_any _ _ _ _ hN).mono ?_; rintro e wx ⟨rfl, rfl⟩)
        | (go_at_call 144; refine (areWords_any _ _ _ ws _ H1.out S1.out hl1 _ hW).mono ?_; rintro e wx ⟨rfl, rfl⟩))
      go_ret
      exact ⟨rfl, B0⟩
set_option maxHeartbeats 4000000 in
theorem isTold_4 (pl nn : Int) (a1 a2 : Option Addr) (l1 l2 c1 c2 : Nat) (ws : List Int) (w : World) (h1 : l1 = ws.length) (s1 : SlI w a1 ws) (hl1 : ws.length ≤ 2000000) (hl2 : l2 ≤ 20000000) (b : Bool) (hb : tB 4 0 pl nn ws l1 l2 = b) :
    Calls Tryz.prog 139 #[rp 4 0 pl nn a1 a2 l1 l2 c1 c2] w fun e w' => e = .returned (.bool b) ∧ Below w.heap.size w w' := by
  have H1 : Hid (l1 = ws.length) := h1
  have hs : Hid (SlI w a1 ws) := s1
  have B0 := bel_alloc w (.cells #[.int .i64 4, .int .i64 0, .int .i64 pl, .int .i64 nn, .slice a1 l1 c1, .slice a2 l2 c2] 37)
  have S1 : Hid (SlI (w.alloc (.cells #[.int .i64 4, .int .i64 0, .int .i64 pl, .int .i64 nn, .slice a1 l1 c1, .slice a2 l2 c2] 37)) a1 ws) := s1.below B0
  clear h1 s1
  cases hN : inB l1 1 125
  · skip
    have e : tB 4 0 pl nn ws l1 l2 = false := by simp [tB, hN]
    rw [e] at hb
    subst hb
    clear e
    go_enter Tryz.func139, Tryz.ntmps139
    go_wp2_with (first
      | (go_at_call 118; refine (isCount_any _ _ _ _ hN).mono ?_; rintro e wx ⟨rfl, rfl⟩))
    go_ret
    exact ⟨rfl, B0⟩
  · skip
    cases hW : allW ws
    · skip
      have e : tB 4 0 pl nn ws l1 l2 = false := by simp [tB, hN, hW]
      rw [e] at hb
      subst hb
      clear e
      go_enter Tryz.func139, Tryz.ntmps139
      go_wp2_with (first
        | (go_at_call 118; refine (isCount_any _ _ _ _ hN).mono ?_; rintro e wx ⟨rfl, rfl⟩)
        | (go_at_call 144; refine (areWords_any _ _ _ ws _ H1.out S1.out hl1 _ hW).mono ?_; rintro e wx ⟨rfl, rfl⟩))
      go_ret
      exact ⟨rfl, B0⟩
    · skip
      have e : tB 4 0 pl nn ws l1 l2 = true := by simp [tB, hN, hW]
      rw [e] at hb
      subst hb
      clear e
      go_enter Tryz.func139, Tryz.ntmps139
      go_wp2_with (first
        | (go_at_call 118; refine (isCount_any _ _ _ _ hN).mono ?_; rintro e wx ⟨rfl, rfl⟩)
        | (go_at_call 144; refine (areWords_any _ _ _ ws _ H1.out S1.out hl1 _ hW).mono ?_; rintro e wx ⟨rfl, rfl⟩))
      go_ret
      exact ⟨rfl, B0⟩
set_option maxHeartbeats 4000000 in
theorem isTold_23 (pl nn : Int) (a1 a2 : Option Addr) (l1 l2 c1 c2 : Nat) (ws : List Int) (w : World) (h1 : l1 = ws.length) (s1 : SlI w a1 ws) (hl1 : ws.length ≤ 2000000) (hl2 : l2 ≤ 20000000) (b : Bool) (hb : tB 23 0 pl nn ws l1 l2 = b) :
    Calls Tryz.prog 139 #[rp 23 0 pl nn a1 a2 l1 l2 c1 c2] w fun e w' => e = .returned (.bool b) ∧ Below w.heap.size w w' := by
  have H1 : Hid (l1 = ws.length) := h1
  have hs : Hid (SlI w a1 ws) := s1
  have B0 := bel_alloc w (.cells #[.int .i64 23, .int .i64 0, .int .i64 pl, .int .i64 nn, .slice a1 l1 c1, .slice a2 l2 c2] 37)
  have S1 : Hid (SlI (w.alloc (.cells #[.int .i64 23, .int .i64 0, .int .i64 pl, .int .i64 nn, .slice a1 l1 c1, .slice a2 l2 c2] 37)) a1 ws) := s1.below B0
  clear h1 s1
  cases hN : inB l1 1 125
  · skip
    have e : tB 23 0 pl nn ws l1 l2 = false := by simp [tB, hN]
    rw [e] at hb
    subst hb
    clear e
    go_enter Tryz.func139, Tryz.ntmps139
    go_wp2_with (first
      | (go_at_call 118; refine (isCount_any _ _ _ _ hN).mono ?_; rintro e wx ⟨rfl, rfl⟩))
    go_ret
    exact ⟨rfl, B0⟩
  · skip
    cases hW : allW ws
    · skip
      have e : tB 23 0 pl nn ws l1 l2 = false := by simp [tB, hN, hW]
      rw [e] at hb
      subst hb
      clear e
      go_enter Tryz.func139, Tryz.ntmps139
      go_wp2_with (first
        | (go_at_call 118; refine (isCount_any _ _ _ _ hN).mono ?_; rintro e wx ⟨rfl, rfl⟩)
        | (go_at_call 144; refine (areWords_any _ _ _ ws _ H1.out S1.out hl1 _ hW).mono ?_; rintro e wx ⟨rfl, rfl⟩))
      go_ret
      exact ⟨rfl, B0⟩
    · skip
      have e : tB 23 0 pl nn ws l1 l2 = true := by simp [tB, hN, hW]
      rw [e] at hb
      subst hb
      clear e
      go_enter Tryz.func139, Tryz.ntmps139
      go_wp2_with (first
        | (go_at_call 118; refine (isCount_any _ _ _ _ hN).mono ?_; rintro e wx ⟨rfl, rfl⟩)
        | (go_at_call 144; refine (areWords_any _ _ _ ws _ H1.out S1.out hl1 _ hW).mono ?_; rintro e wx ⟨rfl, rfl⟩))
      go_ret
      exact ⟨rfl, B0⟩
set_option maxHeartbeats 4000000 in
theorem isTold_5 (pl nn : Int) (a1 a2 : Option Addr) (l1 l2 c1 c2 : Nat) (ws : List Int) (w : World) (h1 : l1 = ws.length) (s1 : SlI w a1 ws) (hl1 : ws.length ≤ 2000000) (hl2 : l2 ≤ 20000000) (b : Bool) (hb : tB 5 0 pl nn ws l1 l2 = b) :
    Calls Tryz.prog 139 #[rp 5 0 pl nn a1 a2 l1 l2 c1 c2] w fun e w' => e = .returned (.bool b) ∧ Below w.heap.size w w' := by
  have H1 : Hid (l1 = ws.length) := h1
  have hs : Hid (SlI w a1 ws) := s1
  have B0 := bel_alloc w (.cells #[.int .i64 5, .int .i64 0, .int .i64 pl, .int .i64 nn, .slice a1 l1 c1, .slice a2 l2 c2] 37)
  have S1 : Hid (SlI (w.alloc (.cells #[.int .i64 5, .int .i64 0, .int .i64 pl, .int .i64 nn, .slice a1 l1 c1, .slice a2 l2 c2] 37)) a1 ws) := s1.below B0
  clear h1 s1
  cases hP : inB pl 0 65535
  · skip
    have e : tB 5 0 pl nn ws l1 l2 = false := by simp [tB, hP]
    rw [e] at hb
    subst hb
    clear e
    go_enter Tryz.func139, Tryz.ntmps139
    go_wp2_with (first
      | (go_at_call 85; refine (isWord_any _ _ _ hP).mono ?_; rintro e wx ⟨rfl, rfl⟩))
    go_ret
    exact ⟨rfl, B0⟩
  · skip
    by_cases hL : l2 = 1
    · skip
      have e : tB 5 0 pl nn ws l1 l2 = true := by simp [tB, hP, hL]
      rw [e] at hb
      subst hb
      clear e
      have hLi : (l2 : Int) = 1 := by omega
      clear hL
      go_enter Tryz.func139, Tryz.ntmps139
      go_wp2_with (first
        | (go_at_call 85; refine (isWord_any _ _ _ hP).mono ?_; rintro e wx ⟨rfl, rfl⟩))
      go_ret
      exact ⟨rfl, B0⟩
    · skip
      have e : tB 5 0 pl nn ws l1 l2 = false := by simp [tB, hP, hL]
      rw [e] at hb
      subst hb
      clear e
      have hLi : ((l2 : Int) == 1) = false := by simp; omega
      clear hL
      go_enter Tryz.func139, Tryz.ntmps139
      go_wp2_with (first
        | (go_at_call 85; refine (isWord_any _ _ _ hP).mono ?_; rintro e wx ⟨rfl, rfl⟩))
      go_ret
      exact ⟨rfl, B0⟩
set_option maxHeartbeats 4000000 in
theorem isTold_6 (pl nn : Int) (a1 a2 : Option Addr) (l1 l2 c1 c2 : Nat) (ws : List Int) (w : World) (h1 : l1 = ws.length) (s1 : SlI w a1 ws) (hl1 : ws.length ≤ 2000000) (hl2 : l2 ≤ 20000000) (b : Bool) (hb : tB 6 0 pl nn ws l1 l2 = b) :
    Calls Tryz.prog 139 #[rp 6 0 pl nn a1 a2 l1 l2 c1 c2] w fun e w' => e = .returned (.bool b) ∧ Below w.heap.size w w' := by
  have H1 : Hid (l1 = ws.length) := h1
  have hs : Hid (SlI w a1 ws) := s1
  have B0 := bel_alloc w (.cells #[.int .i64 6, .int .i64 0, .int .i64 pl, .int .i64 nn, .slice a1 l1 c1, .slice a2 l2 c2] 37)
  have S1 : Hid (SlI (w.alloc (.cells #[.int .i64 6, .int .i64 0, .int .i64 pl, .int .i64 nn, .slice a1 l1 c1, .slice a2 l2 c2] 37)) a1 ws) := s1.below B0
  clear h1 s1
  cases hP : inB pl 0 65535
  · skip
    have e : tB 6 0 pl nn ws l1 l2 = false := by simp [tB, hP]
    rw [e] at hb
    subst hb
    clear e
    go_enter Tryz.func139, Tryz.ntmps139
    go_wp2_with (first
      | (go_at_call 85; refine (isWord_any _ _ _ hP).mono ?_; rintro e wx ⟨rfl, rfl⟩))
    go_ret
    exact ⟨rfl, B0⟩
  · skip
    by_cases hL : l1 = 1
    · skip
      cases hW : allW ws
      · skip
        have e : tB 6 0 pl nn ws l1 l2 = false := by simp [tB, hP, hL, hW]
        rw [e] at hb
        subst hb
        clear e
        have hLi : (l1 : Int) = 1 := by omega
        clear hL
        go_enter Tryz.func139, Tryz.ntmps139
        go_wp2_with (first
          | (go_at_call 85; refine (isWord_any _ _ _ hP).mono ?_; rintro e wx ⟨rfl, rfl⟩)
          | (go_at_call 144; refine (areWords_any _ _ _ ws _ H1.out S1.out hl1 _ hW).mono ?_; rintro e wx ⟨rfl, rfl⟩))
        go_ret
        exact ⟨rfl, B0⟩
      · skip
        have e : tB 6 0 pl nn ws l1 l2 = true := by simp [tB, hP, hL, hW]
        rw [e] at hb
        subst hb
        clear e
        have hLi : (l1 : Int) = 1 := by omega
        clear hL
        go_enter Tryz.func139, Tryz.ntmps139
        go_wp2_with (first
          | (go_at_call 85; refine (isWord_any _ _ _ hP).mono ?_; rintro e wx ⟨rfl, rfl⟩)
          | (go_at_call 144; refine (areWords_any _ _ _ ws _ H1.out S1.out hl1 _ hW).mono ?_; rintro e wx ⟨rfl, rfl⟩))
        go_ret
        exact ⟨rfl, B0⟩
    · skip
      have e : tB 6 0 pl nn ws l1 l2 = false := by simp [tB, hP, hL]
      rw [e] at hb
      subst hb
      clear e
      have hLi : ((l1 : Int) == 1) = false := by simp; omega
      clear hL
      go_enter Tryz.func139, Tryz.ntmps139
      go_wp2_with (first
        | (go_at_call 85; refine (isWord_any _ _ _ hP).mono ?_; rintro e wx ⟨rfl, rfl⟩))
      go_ret
      exact ⟨rfl, B0⟩
set_option maxHeartbeats 4000000 in
theorem isTold_22 (pl nn : Int) (a1 a2 : Option Addr) (l1 l2 c1 c2 : Nat) (ws : List Int) (w : World) (h1 : l1 = ws.length) (s1 : SlI w a1 ws) (hl1 : ws.length ≤ 2000000) (hl2 : l2 ≤ 20000000) (b : Bool) (hb : tB 22 0 pl nn ws l1 l2 = b) :
    Calls Tryz.prog 139 #[rp 22 0 pl nn a1 a2 l1 l2 c1 c2] w fun e w' => e = .returned (.bool b) ∧ Below w.heap.size w w' := by
  have H1 : Hid (l1 = ws.length) := h1
  have hs : Hid (SlI w a1 ws) := s1
  have B0 := bel_alloc w (.cells #[.int .i64 22, .int .i64 0, .int .i64 pl, .int .i64 nn, .slice a1 l1 c1, .slice a2 l2 c2] 37)
  have S1 : Hid (SlI (w.alloc (.cells #[.int .i64 22, .int .i64 0, .int .i64 pl, .int .i64 nn, .slice a1 l1 c1, .slice a2 l2 c2] 37)) a1 ws) := s1.below B0
  clear h1 s1
  cases hP : inB pl 0 65535
  · skip
    have e : tB 22 0 pl nn ws l1 l2 = false := by simp [tB, hP]
    rw [e] at hb
    subst hb
    clear e
    go_enter Tryz.func139, Tryz.ntmps139
    go_wp2_with (first
      | (go_at_call 85; refine (isWord_any _ _ _ hP).mono ?_; rintro e wx ⟨rfl, rfl⟩))
    go_ret
    exact ⟨rfl, B0⟩
  · skip
    by_cases hL : l1 = 2
    · skip
      cases hW : allW ws
      · skip
        have e : tB 22 0 pl nn ws l1 l2 = false := by simp [tB, hP, hL, hW]
        rw [e] at hb
        subst hb
        clear e
        have hLi : (l1 : Int) = 2 := by omega
        clear hL
        go_enter Tryz.func139, Tryz.ntmps139
        go_wp2_with (first
          | (go_at_call 85; refine (isWord_any _ _ _ hP).mono ?_; rintro e wx ⟨rfl, rfl⟩)
          | (go_at_call 144; refine (areWords_any _ _ _ ws _ H1.out S1.out hl1 _ hW).mono ?_; rintro e wx ⟨rfl, rfl⟩))
        go_ret
        exact ⟨rfl, B0⟩
      · skip
        have e : tB 22 0 pl nn ws l1 l2 = true := by simp [tB, hP, hL, hW]
        rw [e] at hb
        subst hb
        clear e
        have hLi : (l1 : Int) = 2 := by omega
        clear hL
        go_enter Tryz.func139, Tryz.ntmps139
        go_wp2_with (first
          | (go_at_call 85; refine (isWord_any _ _ _ hP).mono ?_; rintro e wx ⟨rfl, rfl⟩)
          | (go_at_call 144; refine (areWords_any _ _ _ ws _ H1.out S1.out hl1 _ hW).mono ?_; rintro e wx ⟨rfl, rfl⟩))
        go_ret
        exact ⟨rfl, B0⟩
    · skip
      have e : tB 22 0 pl nn ws l1 l2 = false := by simp [tB, hP, hL]
      rw [e] at hb
      subst hb
      clear e
      have hLi : ((l1 : Int) == 2) = false := by simp; omega
      clear hL
      go_enter Tryz.func139, Tryz.ntmps139
      go_wp2_with (first
        | (go_at_call 85; refine (isWord_any _ _ _ hP).mono ?_; rintro e wx ⟨rfl, rfl⟩))
      go_ret
      exact ⟨rfl, B0⟩
set_option maxHeartbeats 4000000 in
theorem isTold_15 (pl nn : Int) (a1 a2 : Option Addr) (l1 l2 c1 c2 : Nat) (ws : List Int) (w : World) (h1 : l1 = ws.length) (s1 : SlI w a1 ws) (hl1 : ws.length ≤ 2000000) (hl2 : l2 ≤ 20000000) (b : Bool) (hb : tB 15 0 pl nn ws l1 l2 = b) :
    Calls Tryz.prog 139 #[rp 15 0 pl nn a1 a2 l1 l2 c1 c2] w fun e w' => e = .returned (.bool b) ∧ Below w.heap.size w w' := by
  have H1 : Hid (l1 = ws.length) := h1
  have hs : Hid (SlI w a1 ws) := s1
  have B0 := bel_alloc w (.cells #[.int .i64 15, .int .i64 0, .int .i64 pl, .int .i64 nn, .slice a1 l1 c1, .slice a2 l2 c2] 37)
  have S1 : Hid (SlI (w.alloc (.cells #[.int .i64 15, .int .i64 0, .int .i64 pl, .int .i64 nn, .slice a1 l1 c1, .slice a2 l2 c2] 37)) a1 ws) := s1.below B0
  clear h1 s1
  cases hP : inB pl 0 65535
  · skip
    have e : tB 15 0 pl nn ws l1 l2 = false := by simp [tB, hP]
    rw [e] at hb
    subst hb
    clear e
    go_enter Tryz.func139, Tryz.ntmps139
    go_wp2_with (first
      | (go_at_call 85; refine (isWord_any _ _ _ hP).mono ?_; rintro e wx ⟨rfl, rfl⟩))
    go_ret
    exact ⟨rfl, B0⟩
  · skip
    cases hN : inB nn 1 1968
    · skip
      have e : tB 15 0 pl nn ws l1 l2 = false := by simp [tB, hP, hN]
      rw [e] at hb
      subst hb
      clear e
      go_enter Tryz.func139, Tryz.ntmps139
      go_wp2_with (first
        | (go_at_call 118; refine (isCount_any _ _ _ _ hN).mono ?_; rintro e wx ⟨rfl, rfl⟩)
        | (go_at_call 85; refine (isWord_any _ _ _ hP).mono ?_; rintro e wx ⟨rfl, rfl⟩))
      go_ret
      exact ⟨rfl, B0⟩
    · skip
      have e : tB 15 0 pl nn ws l1 l2 = true := by simp [tB, hP, hN]
      rw [e] at hb
      subst hb
      clear e
      go_enter Tryz.func139, Tryz.ntmps139
      go_wp2_with (first
        | (go_at_call 118; refine (isCount_any _ _ _ _ hN).mono ?_; rintro e wx ⟨rfl, rfl⟩)
        | (go_at_call 85; refine (isWord_any _ _ _ hP).mono ?_; rintro e wx ⟨rfl, rfl⟩))
      go_ret
      exact ⟨rfl, B0⟩
set_option maxHeartbeats 4000000 in
theorem isTold_16 (pl nn : Int) (a1 a2 : Option Addr) (l1 l2 c1 c2 : Nat) (ws : List Int) (w : World) (h1 : l1 = ws.length) (s1 : SlI w a1 ws) (hl1 : ws.length ≤ 2000000) (hl2 : l2 ≤ 20000000) (b : Bool) (hb : tB 16 0 pl nn ws l1 l2 = b) :
    Calls Tryz.prog 139 #[rp 16 0 pl nn a1 a2 l1 l2 c1 c2] w fun e w' => e = .returned (.bool b) ∧ Below w.heap.size w w' := by
  have H1 : Hid (l1 = ws.length) := h1
  have hs : Hid (SlI w a1 ws) := s1
  have B0 := bel_alloc w (.cells #[.int .i64 16, .int .i64 0, .int .i64 pl, .int .i64 nn, .slice a1 l1 c1, .slice a2 l2 c2] 37)
  have S1 : Hid (SlI (w.alloc (.cells #[.int .i64 16, .int .i64 0, .int .i64 pl, .int .i64 nn, .slice a1 l1 c1, .slice a2 l2 c2] 37)) a1 ws) := s1.below B0
  clear h1 s1
  cases hP : inB pl 0 65535
  · skip
    have e : tB 16 0 pl nn ws l1 l2 = false := by simp [tB, hP]
    rw [e] at hb
    subst hb
    clear e
    go_enter Tryz.func139, Tryz.ntmps139
    go_wp2_with (first
      | (go_at_call 85; refine (isWord_any _ _ _ hP).mono ?_; rintro e wx ⟨rfl, rfl⟩))
    go_ret
    exact ⟨rfl, B0⟩
  · skip
    cases hN : inB nn 1 123
    · skip
      have e : tB 16 0 pl nn ws l1 l2 = false := by simp [tB, hP, hN]
      rw [e] at hb
      subst hb
      clear e
      go_enter Tryz.func139, Tryz.ntmps139
      go_wp2_with (first
        | (go_at_call 118; refine (isCount_any _ _ _ _ hN).mono ?_; rintro e wx ⟨rfl, rfl⟩)
        | (go_at_call 85; refine (isWord_any _ _ _ hP).mono ?_; rintro e wx ⟨rfl, rfl⟩))
      go_ret
      exact ⟨rfl, B0⟩
    · skip
      have e : tB 16 0 pl nn ws l1 l2 = true := by simp [tB, hP, hN]
      rw [e] at hb
      subst hb
      clear e
      go_enter Tryz.func139, Tryz.ntmps139
      go_wp2_with (first
        | (go_at_call 118; refine (isCount_any _ _ _ _ hN).mono ?_; rintro e wx ⟨rfl, rfl⟩)
        | (go_at_call 85; refine (isWord_any _ _ _ hP).mono ?_; rintro e wx ⟨rfl, rfl⟩))
      go_ret
      exact ⟨rfl, B0⟩
set_option maxHeartbeats 4000000 in
theorem isTold_any (kd fl pl nn : Int) (a1 a2 : Option Addr) (l1 l2 c1 c2 : Nat) (ws : List Int) (w : World) (h1 : l1 = ws.length) (s1 : SlI w a1 ws) (hl1 : ws.length ≤ 2000000) (hl2 : l2 ≤ 20000000) (hk : kindB kd = true) (b : Bool) (hb : tB kd fl pl nn ws l1 l2 = b) :
    Calls Tryz.prog 139 #[rp kd fl pl nn a1 a2 l1 l2 c1 c2] w fun e w' => e = .returned (.bool b) ∧ Below w.heap.size w w' := by
  have H1 : Hid (l1 = ws.length) := h1
  have hs : Hid (SlI w a1 ws) := s1
  have B0 := bel_alloc w (.cells #[.int .i64 kd, .int .i64 fl, .int .i64 pl, .int .i64 nn, .slice a1 l1 c1, .slice a2 l2 c2] 37)
  have S1 : Hid (SlI (w.alloc (.cells #[.int .i64 kd, .int .i64 fl, .int .i64 pl, .int .i64 nn, .slice a1 l1 c1, .slice a2 l2 c2] 37)) a1 ws) := s1.below B0
  clear h1 s1
  by_cases h0 : fl = 0
  · skip
    subst h0
    clear S1 B0
    obtain rfl | rfl | rfl | rfl | rfl | rfl | rfl | rfl | rfl | rfl := of_decide_eq_true hk
    · exact isTold_1 pl nn a1 a2 l1 l2 c1 c2 ws w H1.out hs.out hl1 hl2 b hb
    · exact isTold_2 pl nn a1 a2 l1 l2 c1 c2 ws w H1.out hs.out hl1 hl2 b hb
    · exact isTold_3 pl nn a1 a2 l1 l2 c1 c2 ws w H1.out hs.out hl1 hl2 b hb
    · exact isTold_4 pl nn a1 a2 l1 l2 c1 c2 ws w H1.out hs.out hl1 hl2 b hb
    · exact isTold_5 pl nn a1 a2 l1 l2 c1 c2 ws w H1.out hs.out hl1 hl2 b hb
    · exact isTold_6 pl nn a1 a2 l1 l2 c1 c2 ws w H1.out hs.out hl1 hl2 b hb
    · exact isTold_15 pl nn a1 a2 l1 l2 c1 c2 ws w H1.out hs.out hl1 hl2 b hb
    · exact isTold_16 pl nn a1 a2 l1 l2 c1 c2 ws w H1.out hs.out hl1 hl2 b hb
    · exact isTold_22 pl nn a1 a2 l1 l2 c1 c2 ws w H1.out hs.out hl1 hl2 b hb
    · exact isTold_23 pl nn a1 a2 l1 l2 c1 c2 ws w H1.out hs.out hl1 hl2 b hb
  · skip
    have h0i : ¬ fl = 0 := h0
    cases hN : inB fl 1 255
    · skip
      have e : tB kd fl pl nn ws l1 l2 = false := by simp [tB, h0, hN]
      rw [e] at hb
      subst hb
      clear e
      go_enter Tryz.func139, Tryz.ntmps139
      go_wp2_with (first
        | (go_at_call 100; refine (isFault_any _ _ _ hN).mono ?_; rintro e wx ⟨rfl, rfl⟩))
      go_ret
      exact ⟨rfl, B0⟩
    · skip
      have e : tB kd fl pl nn ws l1 l2 = true := by simp [tB, h0, hN]
      rw [e] at hb
      subst hb
      clear e
      go_enter Tryz.func139, Tryz.ntmps139
      go_wp2_with (first
        | (go_at_call 100; refine (isFault_any _ _ _ hN).mono ?_; rintro e wx ⟨rfl, rfl⟩))
      go_ret
      exact ⟨rfl, B0⟩
end Go.Proofs.YtmhdneenjoelfaaGreat
