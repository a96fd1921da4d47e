/- Texts that the proof needs, joined: P2 S0 Tb0 Tb1 Nog. -/
import Derived.Test.YtlhjiiifmfgnoaaGreatV1
import Derived.Test.YtlhjiiifmfgnoaaGreatV10
import Derived.Test.YtlhjiiifmfgnoaaGreatV8
import Derived.Test.YtlhjiiifmfgnoaaGreatV2
import Derived.Test.YtlhjiiifmfgnoaaGreatV6
import Derived.Test.YtlhjiiifmfgnoaaGreatV5
set_option linter.unusedVariables false
set_option linter.unusedSimpArgs false
set_option maxHeartbeats 4000000
set_option maxRecDepth 20000
namespace Go.Proofs.YtlhjiiifmfgnoaaGreat
open Go.RowKit
theorem inB_z : inB 0 0 255 = true := by decide
def zr4 (a n w b : Bool) (pl nn : Int) (l1 l2 : Nat) : Bool := (a || decide (pl = 0)) && ((n || decide (nn = 0)) && ((w || decide (l1 = 0)) && (b || decide (l2 = 0))))
def okAK (kd pl nn : Int) (l1 l2 : Nat) : Bool :=
 if kd = 1 \/ kd = 2 then zr4 false false false true pl nn l1 l2 && (inB l2 1 2000 && decide (l2 % 8 = 0))
 else if kd = 3 \/ kd = 4 \/ kd = 23 then zr4 false false true false pl nn l1 l2 && inB l1 1 125
 else if kd = 5 then zr4 true false false true pl nn l1 l2 && decide (l2 = 1)
 else if kd = 6 then zr4 true false true false pl nn l1 l2 && decide (l1 = 1)
 else if kd = 22 then zr4 true false true false pl nn l1 l2 && decide (l1 = 2)
 else if kd = 15 then zr4 true true false false pl nn l1 l2 && inB nn 1 1968
 else zr4 true true false false pl nn l1 l2 && inB nn 1 123
def okA (kd fl pl nn : Int) (ws : List Int) (l1 l2 : Nat) : Bool := kindB kd && (inB fl 0 255 && (allW ws && (inB pl 0 65535 && (if 0 < fl then zr4 false false false false pl nn l1 l2 else okAK kd pl nn l1 l2))))
theorem l4Zero_ffff (kd fl pl nn : Int) (a1 a2 : Option Addr) (l1 l2 c1 c2 : Nat) (w : World) (hm1 : l1 <= 2000000) (hm2 : l2 <= 20000000) (z : Bool) (hz : zr4 false false false false pl nn l1 l2 = z) :
 Calls Tryz.prog 90 #[rp kd fl pl nn a1 a2 l1 l2 c1 c2, .bool false, .bool false, .bool false, .bool false] w fun e w' => e = .returned (.bool z) /\ Below w.heap.size w w' := by
 have B0 := bel_alloc w (.cells #[.int .i64 kd, .int .i64 fl, .int .i64 pl, .int .i64 nn, .slice a1 l1 c1, .slice a2 l2 c2] 89)
 subst hz
 by_cases hA : pl = 0
 ·skip
  by_cases hN : nn = 0
  ·skip
   by_cases h1 : l1 = 0
   ·skip
    by_cases h2 : l2 = 0
    ·skip
     have e : zr4 false false false false pl nn l1 l2 = true := by simp [zr4, hA, hN, h1, h2]
     rw [e]
     clear e
     subst hA
     subst hN
     subst h1
     subst h2
     go_enter Tryz.func90, Tryz.ntmps90
     go_wp2
     go_ret
     exact ⟨rfl, B0⟩
    skip
    have e : zr4 false false false false pl nn l1 l2 = false := by simp [zr4, hA, hN, h1, h2]
    rw [e]
    have h2i : ((l2 : Int) == 0) = false := by simp [h2]
    clear e
    subst hA
    subst hN
    subst h1
    go_enter Tryz.func90, Tryz.ntmps90
    go_wp2
    go_ret
    exact ⟨rfl, B0⟩
   skip
   have e : zr4 false false false false pl nn l1 l2 = false := by simp [zr4, hA, hN, h1]
   rw [e]
   have h1i : ((l1 : Int) == 0) = false := by simp [h1]
   clear e
   subst hA
   subst hN
   go_enter Tryz.func90, Tryz.ntmps90
   go_wp2
   go_ret
   exact ⟨rfl, B0⟩
  skip
  have e : zr4 false false false false pl nn l1 l2 = false := by simp [zr4, hA, hN]
  rw [e]
  have eN : (nn == 0) = false := by simp [hN]
  clear e
  subst hA
  go_enter Tryz.func90, Tryz.ntmps90
  go_wp2
  go_ret
  exact ⟨rfl, B0⟩
 skip
 have e : zr4 false false false false pl nn l1 l2 = false := by simp [zr4, hA]
 rw [e]
 have eA : (pl == 0) = false := by simp [hA]
 clear e
 go_enter Tryz.func90, Tryz.ntmps90
 go_wp2
 go_ret
 exact ⟨rfl, B0⟩
theorem l4Zero_ffft (kd fl pl nn : Int) (a1 a2 : Option Addr) (l1 l2 c1 c2 : Nat) (w : World) (hm1 : l1 <= 2000000) (hm2 : l2 <= 20000000) (z : Bool) (hz : zr4 false false false true pl nn l1 l2 = z) :
 Calls Tryz.prog 90 #[rp kd fl pl nn a1 a2 l1 l2 c1 c2, .bool false, .bool false, .bool false, .bool true] w fun e w' => e = .returned (.bool z) /\ Below w.heap.size w w' := by
 have B0 := bel_alloc w (.cells #[.int .i64 kd, .int .i64 fl, .int .i64 pl, .int .i64 nn, .slice a1 l1 c1, .slice a2 l2 c2] 89)
 subst hz
 by_cases hA : pl = 0
 ·skip
  by_cases hN : nn = 0
  ·skip
   by_cases h1 : l1 = 0
   ·skip
    have e : zr4 false false false true pl nn l1 l2 = true := by simp [zr4, hA, hN, h1]
    rw [e]
    clear e
    subst hA
    subst hN
    subst h1
    go_enter Tryz.func90, Tryz.ntmps90
    go_wp2
    go_ret
    exact ⟨rfl, B0⟩
   skip
   have e : zr4 false false false true pl nn l1 l2 = false := by simp [zr4, hA, hN, h1]
   rw [e]
   have h1i : ((l1 : Int) == 0) = false := by simp [h1]
   clear e
   subst hA
   subst hN
   go_enter Tryz.func90, Tryz.ntmps90
   go_wp2
   go_ret
   exact ⟨rfl, B0⟩
  skip
  have e : zr4 false false false true pl nn l1 l2 = false := by simp [zr4, hA, hN]
  rw [e]
  have eN : (nn == 0) = false := by simp [hN]
  clear e
  subst hA
  go_enter Tryz.func90, Tryz.ntmps90
  go_wp2
  go_ret
  exact ⟨rfl, B0⟩
 skip
 have e : zr4 false false false true pl nn l1 l2 = false := by simp [zr4, hA]
 rw [e]
 have eA : (pl == 0) = false := by simp [hA]
 clear e
 go_enter Tryz.func90, Tryz.ntmps90
 go_wp2
 go_ret
 exact ⟨rfl, B0⟩
theorem l4Zero_fftf (kd fl pl nn : Int) (a1 a2 : Option Addr) (l1 l2 c1 c2 : Nat) (w : World) (hm1 : l1 <= 2000000) (hm2 : l2 <= 20000000) (z : Bool) (hz : zr4 false false true false pl nn l1 l2 = z) :
 Calls Tryz.prog 90 #[rp kd fl pl nn a1 a2 l1 l2 c1 c2, .bool false, .bool false, .bool true, .bool false] w fun e w' => e = .returned (.bool z) /\ Below w.heap.size w w' := by
 have B0 := bel_alloc w (.cells #[.int .i64 kd, .int .i64 fl, .int .i64 pl, .int .i64 nn, .slice a1 l1 c1, .slice a2 l2 c2] 89)
 subst hz
 by_cases hA : pl = 0
 ·skip
  by_cases hN : nn = 0
  ·skip
   by_cases h2 : l2 = 0
   ·skip
    have e : zr4 false false true false pl nn l1 l2 = true := by simp [zr4, hA, hN, h2]
    rw [e]
    clear e
    subst hA
    subst hN
    subst h2
    go_enter Tryz.func90, Tryz.ntmps90
    go_wp2
    go_ret
    exact ⟨rfl, B0⟩
   skip
   have e : zr4 false false true false pl nn l1 l2 = false := by simp [zr4, hA, hN, h2]
   rw [e]
   have h2i : ((l2 : Int) == 0) = false := by simp [h2]
   clear e
   subst hA
   subst hN
   go_enter Tryz.func90, Tryz.ntmps90
   go_wp2
   go_ret
   exact ⟨rfl, B0⟩
  skip
  have e : zr4 false false true false pl nn l1 l2 = false := by simp [zr4, hA, hN]
  rw [e]
  have eN : (nn == 0) = false := by simp [hN]
  clear e
  subst hA
  go_enter Tryz.func90, Tryz.ntmps90
  go_wp2
  go_ret
  exact ⟨rfl, B0⟩
 skip
 have e : zr4 false false true false pl nn l1 l2 = false := by simp [zr4, hA]
 rw [e]
 have eA : (pl == 0) = false := by simp [hA]
 clear e
 go_enter Tryz.func90, Tryz.ntmps90
 go_wp2
 go_ret
 exact ⟨rfl, B0⟩
theorem l4Zero_tfft (kd fl pl nn : Int) (a1 a2 : Option Addr) (l1 l2 c1 c2 : Nat) (w : World) (hm1 : l1 <= 2000000) (hm2 : l2 <= 20000000) (z : Bool) (hz : zr4 true false false true pl nn l1 l2 = z) :
 Calls Tryz.prog 90 #[rp kd fl pl nn a1 a2 l1 l2 c1 c2, .bool true, .bool false, .bool false, .bool true] w fun e w' => e = .returned (.bool z) /\ Below w.heap.size w w' := by
 have B0 := bel_alloc w (.cells #[.int .i64 kd, .int .i64 fl, .int .i64 pl, .int .i64 nn, .slice a1 l1 c1, .slice a2 l2 c2] 89)
 subst hz
 by_cases hN : nn = 0
 ·skip
  by_cases h1 : l1 = 0
  ·skip
   have e : zr4 true false false true pl nn l1 l2 = true := by simp [zr4, hN, h1]
   rw [e]
   clear e
   subst hN
   subst h1
   go_enter Tryz.func90, Tryz.ntmps90
   go_wp2
   go_ret
   exact ⟨rfl, B0⟩
  skip
  have e : zr4 true false false true pl nn l1 l2 = false := by simp [zr4, hN, h1]
  rw [e]
  have h1i : ((l1 : Int) == 0) = false := by simp [h1]
  clear e
  subst hN
  go_enter Tryz.func90, Tryz.ntmps90
  go_wp2
  go_ret
  exact ⟨rfl, B0⟩
 skip
 have e : zr4 true false false true pl nn l1 l2 = false := by simp [zr4, hN]
 rw [e]
 have eN : (nn == 0) = false := by simp [hN]
 clear e
 go_enter Tryz.func90, Tryz.ntmps90
 go_wp2
 go_ret
 exact ⟨rfl, B0⟩
theorem l4Zero_tftf (kd fl pl nn : Int) (a1 a2 : Option Addr) (l1 l2 c1 c2 : Nat) (w : World) (hm1 : l1 <= 2000000) (hm2 : l2 <= 20000000) (z : Bool) (hz : zr4 true false true false pl nn l1 l2 = z) :
 Calls Tryz.prog 90 #[rp kd fl pl nn a1 a2 l1 l2 c1 c2, .bool true, .bool false, .bool true, .bool false] w fun e w' => e = .returned (.bool z) /\ Below w.heap.size w w' := by
 have B0 := bel_alloc w (.cells #[.int .i64 kd, .int .i64 fl, .int .i64 pl, .int .i64 nn, .slice a1 l1 c1, .slice a2 l2 c2] 89)
 subst hz
 by_cases hN : nn = 0
 ·skip
  by_cases h2 : l2 = 0
  ·skip
   have e : zr4 true false true false pl nn l1 l2 = true := by simp [zr4, hN, h2]
   rw [e]
   clear e
   subst hN
   subst h2
   go_enter Tryz.func90, Tryz.ntmps90
   go_wp2
   go_ret
   exact ⟨rfl, B0⟩
  skip
  have e : zr4 true false true false pl nn l1 l2 = false := by simp [zr4, hN, h2]
  rw [e]
  have h2i : ((l2 : Int) == 0) = false := by simp [h2]
  clear e
  subst hN
  go_enter Tryz.func90, Tryz.ntmps90
  go_wp2
  go_ret
  exact ⟨rfl, B0⟩
 skip
 have e : zr4 true false true false pl nn l1 l2 = false := by simp [zr4, hN]
 rw [e]
 have eN : (nn == 0) = false := by simp [hN]
 clear e
 go_enter Tryz.func90, Tryz.ntmps90
 go_wp2
 go_ret
 exact ⟨rfl, B0⟩
theorem l4Zero_ttff (kd fl pl nn : Int) (a1 a2 : Option Addr) (l1 l2 c1 c2 : Nat) (w : World) (hm1 : l1 <= 2000000) (hm2 : l2 <= 20000000) (z : Bool) (hz : zr4 true true false false pl nn l1 l2 = z) :
 Calls Tryz.prog 90 #[rp kd fl pl nn a1 a2 l1 l2 c1 c2, .bool true, .bool true, .bool false, .bool false] w fun e w' => e = .returned (.bool z) /\ Below w.heap.size w w' := by
 have B0 := bel_alloc w (.cells #[.int .i64 kd, .int .i64 fl, .int .i64 pl, .int .i64 nn, .slice a1 l1 c1, .slice a2 l2 c2] 89)
 subst hz
 by_cases h1 : l1 = 0
 ·skip
  by_cases h2 : l2 = 0
  ·skip
   have e : zr4 true true false false pl nn l1 l2 = true := by simp [zr4, h1, h2]
   rw [e]
   clear e
   subst h1
   subst h2
   go_enter Tryz.func90, Tryz.ntmps90
   go_wp2
   go_ret
   exact ⟨rfl, B0⟩
  skip
  have e : zr4 true true false false pl nn l1 l2 = false := by simp [zr4, h1, h2]
  rw [e]
  have h2i : ((l2 : Int) == 0) = false := by simp [h2]
  clear e
  subst h1
  go_enter Tryz.func90, Tryz.ntmps90
  go_wp2
  go_ret
  exact ⟨rfl, B0⟩
 skip
 have e : zr4 true true false false pl nn l1 l2 = false := by simp [zr4, h1]
 rw [e]
 have h1i : ((l1 : Int) == 0) = false := by simp [h1]
 clear e
 go_enter Tryz.func90, Tryz.ntmps90
 go_wp2
 go_ret
 exact ⟨rfl, B0⟩
theorem specRespOk_1 (pl nn : Int) (a1 a2 : Option Addr) (l1 l2 c1 c2 : Nat) (ws : List Int) (w : World) (h1 : l1 = ws.length) (s1 : SlI w a1 ws) (hl1 : ws.length <= 2000000) (hl2 : l2 <= 20000000) (hW : allW ws = true) (hP : inB pl 0 65535 = true) (b : Bool) (hb : okA 1 0 pl nn ws l1 l2 = b) :
 Calls Tryz.prog 75 #[rp 1 0 pl nn a1 a2 l1 l2 c1 c2] w fun e w' => e = .returned (.bool b) /\ Below w.heap.size w w' := by
 have H1 : Hid (l1 = ws.length) := h1
 have hs : Hid (SlI w a1 ws) := s1
 have B0 := bel_alloc w (.cells #[.int .i64 1, .int .i64 0, .int .i64 pl, .int .i64 nn, .slice a1 l1 c1, .slice a2 l2 c2] 89)
 have X0 := Blk.new w #[.int .i64 1, .int .i64 0, .int .i64 pl, .int .i64 nn, .slice a1 l1 c1, .slice a2 l2 c2] 89
 have S1 : Hid (SlI (w.alloc (.cells #[.int .i64 1, .int .i64 0, .int .i64 pl, .int .i64 nn, .slice a1 l1 c1, .slice a2 l2 c2] 89)) a1 ws) := s1.below B0
 clear h1 s1
 cases hZ : zr4 false false false true pl nn l1 l2
 ·skip
  have e : okA 1 0 pl nn ws l1 l2 = false := by simp [okA, okAK, hW, hP, hZ, kindB, inB_z]
  rw [e] at hb
  subst hb
  clear e
  go_enter Tryz.func75, Tryz.ntmps75
  go_wp2_with (first
   | (go_at_call 89; refine (l3Kind_any _ _ _ rfl).mono ?_; rintro e wx ⟨rfl, rfl⟩)
   | (go_at_call 72; refine (l3Words_any _ _ _ ws _ H1.out S1.out hl1 _ hW).mono ?_; rintro e wx ⟨rfl, rfl⟩)
   | (go_at_call 47; refine (l1In_any _ _ _ _ _ (by first | exact hP | exact (rfl : inB 0 0 255 = true) | fail)).mono ?_; rintro e wx ⟨rfl, rfl⟩)
   | (go_at_call 90; refine (l4Zero_ffft _ _ _ _ _ _ _ _ _ _ _ (by have := H1.out; omega) hl2 _ hZ).mono ?_; rintro e w1 ⟨rfl, b'⟩; have B1 := bel_next B0 b'; obtain ⟨y0, y1, y2, y3, y4, y5⟩ := (X0.below b').six; clear B0))
  go_ret
  exact ⟨rfl, B1⟩
 skip
 cases hN : inB l2 1 2000
 ·skip
  have e : okA 1 0 pl nn ws l1 l2 = false := by simp [okA, okAK, hW, hP, hZ, hN, kindB, inB_z]
  rw [e] at hb
  subst hb
  clear e
  go_enter Tryz.func75, Tryz.ntmps75
  go_wp2_with (first
   | (go_at_call 89; refine (l3Kind_any _ _ _ rfl).mono ?_; rintro e wx ⟨rfl, rfl⟩)
   | (go_at_call 72; refine (l3Words_any _ _ _ ws _ H1.out S1.out hl1 _ hW).mono ?_; rintro e wx ⟨rfl, rfl⟩)
   | (go_at_call 47; refine (l1In_any _ _ _ _ _ (by first | exact hP | exact hN | exact (rfl : inB 0 0 255 = true) | fail)).mono ?_; rintro e wx ⟨rfl, rfl⟩)
   | (go_at_call 90; refine (l4Zero_ffft _ _ _ _ _ _ _ _ _ _ _ (by have := H1.out; omega) hl2 _ hZ).mono ?_; rintro e w1 ⟨rfl, b'⟩; have B1 := bel_next B0 b'; obtain ⟨y0, y1, y2, y3, y4, y5⟩ := (X0.below b').six; clear B0))
  go_ret
  exact ⟨rfl, B1⟩
 skip
 by_cases hM : l2 % 8 = 0
 ·skip
  have e : okA 1 0 pl nn ws l1 l2 = true := by simp [okA, okAK, hW, hP, hZ, hN, hM, kindB, inB_z]
  rw [e] at hb
  subst hb
  clear e
  have hMi : (l2 : Int) % 8 = 0 := by omega
  have hMt : ((l2 : Int) % 8 == 0) = true := by simp; omega
  clear hM
  go_enter Tryz.func75, Tryz.ntmps75
  go_wp2_with (first
   | (go_at_call 89; refine (l3Kind_any _ _ _ rfl).mono ?_; rintro e wx ⟨rfl, rfl⟩)
   | (go_at_call 72; refine (l3Words_any _ _ _ ws _ H1.out S1.out hl1 _ hW).mono ?_; rintro e wx ⟨rfl, rfl⟩)
   | (go_at_call 47; refine (l1In_any _ _ _ _ _ (by first | exact hP | exact hN | exact (rfl : inB 0 0 255 = true) | fail)).mono ?_; rintro e wx ⟨rfl, rfl⟩)
   | (go_at_call 90; refine (l4Zero_ffft _ _ _ _ _ _ _ _ _ _ _ (by have := H1.out; omega) hl2 _ hZ).mono ?_; rintro e w1 ⟨rfl, b'⟩; have B1 := bel_next B0 b'; obtain ⟨y0, y1, y2, y3, y4, y5⟩ := (X0.below b').six; clear B0))
  go_ret
  exact ⟨rfl, B1⟩
 skip
 have e : okA 1 0 pl nn ws l1 l2 = false := by simp [okA, okAK, hW, hP, hZ, hN, hM, kindB, inB_z]
 rw [e] at hb
 subst hb
 clear e
 have hMi : ¬ (l2 : Int) % 8 = 0 := by omega
 have hMt : ((l2 : Int) % 8 == 0) = false := by simp; omega
 clear hM
 go_enter Tryz.func75, Tryz.ntmps75
 go_wp2_with (first
  | (go_at_call 89; refine (l3Kind_any _ _ _ rfl).mono ?_; rintro e wx ⟨rfl, rfl⟩)
  | (go_at_call 72; refine (l3Words_any _ _ _ ws _ H1.out S1.out hl1 _ hW).mono ?_; rintro e wx ⟨rfl, rfl⟩)
  | (go_at_call 47; refine (l1In_any _ _ _ _ _ (by first | exact hP | exact hN | exact (rfl : inB 0 0 255 = true) | fail)).mono ?_; rintro e wx ⟨rfl, rfl⟩)
  | (go_at_call 90; refine (l4Zero_ffft _ _ _ _ _ _ _ _ _ _ _ (by have := H1.out; omega) hl2 _ hZ).mono ?_; rintro e w1 ⟨rfl, b'⟩; have B1 := bel_next B0 b'; obtain ⟨y0, y1, y2, y3, y4, y5⟩ := (X0.below b').six; clear B0))
 go_ret
 exact ⟨rfl, B1⟩
theorem specRespOk_2 (pl nn : Int) (a1 a2 : Option Addr) (l1 l2 c1 c2 : Nat) (ws : List Int) (w : World) (h1 : l1 = ws.length) (s1 : SlI w a1 ws) (hl1 : ws.length <= 2000000) (hl2 : l2 <= 20000000) (hW : allW ws = true) (hP : inB pl 0 65535 = true) (b : Bool) (hb : okA 2 0 pl nn ws l1 l2 = b) :
 Calls Tryz.prog 75 #[rp 2 0 pl nn a1 a2 l1 l2 c1 c2] w fun e w' => e = .returned (.bool b) /\ Below w.heap.size w w' := by
 have H1 : Hid (l1 = ws.length) := h1
 have hs : Hid (SlI w a1 ws) := s1
 have B0 := bel_alloc w (.cells #[.int .i64 2, .int .i64 0, .int .i64 pl, .int .i64 nn, .slice a1 l1 c1, .slice a2 l2 c2] 89)
 have X0 := Blk.new w #[.int .i64 2, .int .i64 0, .int .i64 pl, .int .i64 nn, .slice a1 l1 c1, .slice a2 l2 c2] 89
 have S1 : Hid (SlI (w.alloc (.cells #[.int .i64 2, .int .i64 0, .int .i64 pl, .int .i64 nn, .slice a1 l1 c1, .slice a2 l2 c2] 89)) a1 ws) := s1.below B0
 clear h1 s1
 cases hZ : zr4 false false false true pl nn l1 l2
 ·skip
  have e : okA 2 0 pl nn ws l1 l2 = false := by simp [okA, okAK, hW, hP, hZ, kindB, inB_z]
  rw [e] at hb
  subst hb
  clear e
  go_enter Tryz.func75, Tryz.ntmps75
  go_wp2_with (first
   | (go_at_call 89; refine (l3Kind_any _ _ _ rfl).mono ?_; rintro e wx ⟨rfl, rfl⟩)
   | (go_at_call 72; refine (l3Words_any _ _ _ ws _ H1.out S1.out hl1 _ hW).mono ?_; rintro e wx ⟨rfl, rfl⟩)
   | (go_at_call 47; refine (l1In_any _ _ _ _ _ (by first | exact hP | exact (rfl : inB 0 0 255 = true) | fail)).mono ?_; rintro e wx ⟨rfl, rfl⟩)
   | (go_at_call 90; refine (l4Zero_ffft _ _ _ _ _ _ _ _ _ _ _ (by have := H1.out; omega) hl2 _ hZ).mono ?_; rintro e w1 ⟨rfl, b'⟩; have B1 := bel_next B0 b'; obtain ⟨y0, y1, y2, y3, y4, y5⟩ := (X0.below b').six; clear B0))
  go_ret
  exact ⟨rfl, B1⟩
 skip
 cases hN : inB l2 1 2000
 ·skip
  have e : okA 2 0 pl nn ws l1 l2 = false := by simp [okA, okAK, hW, hP, hZ, hN, kindB, inB_z]
  rw [e] at hb
  subst hb
  clear e
  go_enter Tryz.func75, Tryz.ntmps75
  go_wp2_with (first
   | (go_at_call 89; refine (l3Kind_any _ _ _ rfl).mono ?_; rintro e wx ⟨rfl, rfl⟩)
   | (go_at_call 72; refine (l3Words_any _ _ _ ws _ H1.out S1.out hl1 _ hW).mono ?_; rintro e wx ⟨rfl, rfl⟩)
   | (go_at_call 47; refine (l1In_any _ _ _ _ _ (by first | exact hP | exact hN | exact (rfl : inB 0 0 255 = true) | fail)).mono ?_; rintro e wx ⟨rfl, rfl⟩)
   | (go_at_call 90; refine (l4Zero_ffft _ _ _ _ _ _ _ _ _ _ _ (by have := H1.out; omega) hl2 _ hZ).mono ?_; rintro e w1 ⟨rfl, b'⟩; have B1 := bel_next B0 b'; obtain ⟨y0, y1, y2, y3, y4, y5⟩ := (X0.below b').six; clear B0))
  go_ret
  exact ⟨rfl, B1⟩
 skip
 by_cases hM : l2 % 8 = 0
 ·skip
  have e : okA 2 0 pl nn ws l1 l2 = true := by simp [okA, okAK, hW, hP, hZ, hN, hM, kindB, inB_z]
  rw [e] at hb
  subst hb
  clear e
  have hMi : (l2 : Int) % 8 = 0 := by omega
  have hMt : ((l2 : Int) % 8 == 0) = true := by simp; omega
  clear hM
  go_enter Tryz.func75, Tryz.ntmps75
  go_wp2_with (first
   | (go_at_call 89; refine (l3Kind_any _ _ _ rfl).mono ?_; rintro e wx ⟨rfl, rfl⟩)
   | (go_at_call 72; refine (l3Words_any _ _ _ ws _ H1.out S1.out hl1 _ hW).mono ?_; rintro e wx ⟨rfl, rfl⟩)
   | (go_at_call 47; refine (l1In_any _ _ _ _ _ (by first | exact hP | exact hN | exact (rfl : inB 0 0 255 = true) | fail)).mono ?_; rintro e wx ⟨rfl, rfl⟩)
   | (go_at_call 90; refine (l4Zero_ffft _ _ _ _ _ _ _ _ _ _ _ (by have := H1.out; omega) hl2 _ hZ).mono ?_; rintro e w1 ⟨rfl, b'⟩; have B1 := bel_next B0 b'; obtain ⟨y0, y1, y2, y3, y4, y5⟩ := (X0.below b').six; clear B0))
  go_ret
  exact ⟨rfl, B1⟩
 skip
 have e : okA 2 0 pl nn ws l1 l2 = false := by simp [okA, okAK, hW, hP, hZ, hN, hM, kindB, inB_z]
 rw [e] at hb
 subst hb
 clear e
 have hMi : ¬ (l2 : Int) % 8 = 0 := by omega
 have hMt : ((l2 : Int) % 8 == 0) = false := by simp; omega
 clear hM
 go_enter Tryz.func75, Tryz.ntmps75
 go_wp2_with (first
  | (go_at_call 89; refine (l3Kind_any _ _ _ rfl).mono ?_; rintro e wx ⟨rfl, rfl⟩)
  | (go_at_call 72; refine (l3Words_any _ _ _ ws _ H1.out S1.out hl1 _ hW).mono ?_; rintro e wx ⟨rfl, rfl⟩)
  | (go_at_call 47; refine (l1In_any _ _ _ _ _ (by first | exact hP | exact hN | exact (rfl : inB 0 0 255 = true) | fail)).mono ?_; rintro e wx ⟨rfl, rfl⟩)
  | (go_at_call 90; refine (l4Zero_ffft _ _ _ _ _ _ _ _ _ _ _ (by have := H1.out; omega) hl2 _ hZ).mono ?_; rintro e w1 ⟨rfl, b'⟩; have B1 := bel_next B0 b'; obtain ⟨y0, y1, y2, y3, y4, y5⟩ := (X0.below b').six; clear B0))
 go_ret
 exact ⟨rfl, B1⟩
theorem specRespOk_3 (pl nn : Int) (a1 a2 : Option Addr) (l1 l2 c1 c2 : Nat) (ws : List Int) (w : World) (h1 : l1 = ws.length) (s1 : SlI w a1 ws) (hl1 : ws.length <= 2000000) (hl2 : l2 <= 20000000) (hW : allW ws = true) (hP : inB pl 0 65535 = true) (b : Bool) (hb : okA 3 0 pl nn ws l1 l2 = b) :
 Calls Tryz.prog 75 #[rp 3 0 pl nn a1 a2 l1 l2 c1 c2] w fun e w' => e = .returned (.bool b) /\ Below w.heap.size w w' := by
 have H1 : Hid (l1 = ws.length) := h1
 have hs : Hid (SlI w a1 ws) := s1
 have B0 := bel_alloc w (.cells #[.int .i64 3, .int .i64 0, .int .i64 pl, .int .i64 nn, .slice a1 l1 c1, .slice a2 l2 c2] 89)
 have X0 := Blk.new w #[.int .i64 3, .int .i64 0, .int .i64 pl, .int .i64 nn, .slice a1 l1 c1, .slice a2 l2 c2] 89
 have S1 : Hid (SlI (w.alloc (.cells #[.int .i64 3, .int .i64 0, .int .i64 pl, .int .i64 nn, .slice a1 l1 c1, .slice a2 l2 c2] 89)) a1 ws) := s1.below B0
 clear h1 s1
 cases hZ : zr4 false false true false pl nn l1 l2
 ·skip
  have e : okA 3 0 pl nn ws l1 l2 = false := by simp [okA, okAK, hW, hP, hZ, kindB, inB_z]
  rw [e] at hb
  subst hb
  clear e
  go_enter Tryz.func75, Tryz.ntmps75
  go_wp2_with (first
   | (go_at_call 89; refine (l3Kind_any _ _ _ rfl).mono ?_; rintro e wx ⟨rfl, rfl⟩)
   | (go_at_call 72; refine (l3Words_any _ _ _ ws _ H1.out S1.out hl1 _ hW).mono ?_; rintro e wx ⟨rfl, rfl⟩)
   | (go_at_call 47; refine (l1In_any _ _ _ _ _ (by first | exact hP | exact (rfl : inB 0 0 255 = true) | fail)).mono ?_; rintro e wx ⟨rfl, rfl⟩)
   | (go_at_call 90; refine (l4Zero_fftf _ _ _ _ _ _ _ _ _ _ _ (by have := H1.out; omega) hl2 _ hZ).mono ?_; rintro e w1 ⟨rfl, b'⟩; have B1 := bel_next B0 b'; obtain ⟨y0, y1, y2, y3, y4, y5⟩ := (X0.below b').six; clear B0))
  go_ret
  exact ⟨rfl, B1⟩
 skip
 cases hN : inB l1 1 125
 ·skip
  have e : okA 3 0 pl nn ws l1 l2 = false := by simp [okA, okAK, hW, hP, hZ, hN, kindB, inB_z]
  rw [e] at hb
  subst hb
  clear e
  go_enter Tryz.func75, Tryz.ntmps75
  go_wp2_with (first
   | (go_at_call 89; refine (l3Kind_any _ _ _ rfl).mono ?_; rintro e wx ⟨rfl, rfl⟩)
   | (go_at_call 72; refine (l3Words_any _ _ _ ws _ H1.out S1.out hl1 _ hW).mono ?_; rintro e wx ⟨rfl, rfl⟩)
   | (go_at_call 47; refine (l1In_any _ _ _ _ _ (by first | exact hP | exact hN | exact (rfl : inB 0 0 255 = true) | fail)).mono ?_; rintro e wx ⟨rfl, rfl⟩)
   | (go_at_call 90; refine (l4Zero_fftf _ _ _ _ _ _ _ _ _ _ _ (by have := H1.out; omega) hl2 _ hZ).mono ?_; rintro e w1 ⟨rfl, b'⟩; have B1 := bel_next B0 b'; obtain ⟨y0, y1, y2, y3, y4, y5⟩ := (X0.below b').six; clear B0))
  go_ret
  exact ⟨rfl, B1⟩
 skip
 have e : okA 3 0 pl nn ws l1 l2 = true := by simp [okA, okAK, hW, hP, hZ, hN, kindB, inB_z]
 rw [e] at hb
 subst hb
 clear e
 go_enter Tryz.func75, Tryz.ntmps75
 go_wp2_with (first
  | (go_at_call 89; refine (l3Kind_any _ _ _ rfl).mono ?_; rintro e wx ⟨rfl, rfl⟩)
  | (go_at_call 72; refine (l3Words_any _ _ _ ws _ H1.out S1.out hl1 _ hW).mono ?_; rintro e wx ⟨rfl, rfl⟩)
  | (go_at_call 47; refine (l1In_any _ _ _ _ _ (by first | exact hP | exact hN | exact (rfl : inB 0 0 255 = true) | fail)).mono ?_; rintro e wx ⟨rfl, rfl⟩)
  | (go_at_call 90; refine (l4Zero_fftf _ _ _ _ _ _ _ _ _ _ _ (by have := H1.out; omega) hl2 _ hZ).mono ?_; rintro e w1 ⟨rfl, b'⟩; have B1 := bel_next B0 b'; obtain ⟨y0, y1, y2, y3, y4, y5⟩ := (X0.below b').six; clear B0))
 go_ret
 exact ⟨rfl, B1⟩
theorem specRespOk_4 (pl nn : Int) (a1 a2 : Option Addr) (l1 l2 c1 c2 : Nat) (ws : List Int) (w : World) (h1 : l1 = ws.length) (s1 : SlI w a1 ws) (hl1 : ws.length <= 2000000) (hl2 : l2 <= 20000000) (hW : allW ws = true) (hP : inB pl 0 65535 = true) (b : Bool) (hb : okA 4 0 pl nn ws l1 l2 = b) :
 Calls Tryz.prog 75 #[rp 4 0 pl nn a1 a2 l1 l2 c1 c2] w fun e w' => e = .returned (.bool b) /\ Below w.heap.size w w' := by
 have H1 : Hid (l1 = ws.length) := h1
 have hs : Hid (SlI w a1 ws) := s1
 have B0 := bel_alloc w (.cells #[.int .i64 4, .int .i64 0, .int .i64 pl, .int .i64 nn, .slice a1 l1 c1, .slice a2 l2 c2] 89)
 have X0 := Blk.new w #[.int .i64 4, .int .i64 0, .int .i64 pl, .int .i64 nn, .slice a1 l1 c1, .slice a2 l2 c2] 89
 have S1 : Hid (SlI (w.alloc (.cells #[.int .i64 4, .int .i64 0, .int .i64 pl, .int .i64 nn, .slice a1 l1 c1, .slice a2 l2 c2] 89)) a1 ws) := s1.below B0
 clear h1 s1
 cases hZ : zr4 false false true false pl nn l1 l2
 ·skip
  have e : okA 4 0 pl nn ws l1 l2 = false := by simp [okA, okAK, hW, hP, hZ, kindB, inB_z]
  rw [e] at hb
  subst hb
  clear e
  go_enter Tryz.func75, Tryz.ntmps75
  go_wp2_with (first
   | (go_at_call 89; refine (l3Kind_any _ _ _ rfl).mono ?_; rintro e wx ⟨rfl, rfl⟩)
   | (go_at_call 72; refine (l3Words_any _ _ _ ws _ H1.out S1.out hl1 _ hW).mono ?_; rintro e wx ⟨rfl, rfl⟩)
   | (go_at_call 47; refine (l1In_any _ _ _ _ _ (by first | exact hP | exact (rfl : inB 0 0 255 = true) | fail)).mono ?_; rintro e wx ⟨rfl, rfl⟩)
   | (go_at_call 90; refine (l4Zero_fftf _ _ _ _ _ _ _ _ _ _ _ (by have := H1.out; omega) hl2 _ hZ).mono ?_; rintro e w1 ⟨rfl, b'⟩; have B1 := bel_next B0 b'; obtain ⟨y0, y1, y2, y3, y4, y5⟩ := (X0.below b').six; clear B0))
  go_ret
  exact ⟨rfl, B1⟩
 skip
 cases hN : inB l1 1 125
 ·skip
  have e : okA 4 0 pl nn ws l1 l2 = false := by simp [okA, okAK, hW, hP, hZ, hN, kindB, inB_z]
  rw [e] at hb
  subst hb
  clear e
  go_enter Tryz.func75, Tryz.ntmps75
  go_wp2_with (first
   | (go_at_call 89; refine (l3Kind_any _ _ _ rfl).mono ?_; rintro e wx ⟨rfl, rfl⟩)
   | (go_at_call 72; refine (l3Words_any _ _ _ ws _ H1.out S1.out hl1 _ hW).mono ?_; rintro e wx ⟨rfl, rfl⟩)
   | (go_at_call 47; refine (l1In_any _ _ _ _ _ (by first | exact hP | exact hN | exact (rfl : inB 0 0 255 = true) | fail)).mono ?_; rintro e wx ⟨rfl, rfl⟩)
   | (go_at_call 90; refine (l4Zero_fftf _ _ _ _ _ _ _ _ _ _ _ (by have := H1.out; omega) hl2 _ hZ).mono ?_; rintro e w1 ⟨rfl, b'⟩; have B1 := bel_next B0 b'; obtain ⟨y0, y1, y2, y3, y4, y5⟩ := (X0.below b').six; clear B0))
  go_ret
  exact ⟨rfl, B1⟩
 skip
 have e : okA 4 0 pl nn ws l1 l2 = true := by simp [okA, okAK, hW, hP, hZ, hN, kindB, inB_z]
 rw [e] at hb
 subst hb
 clear e
 go_enter Tryz.func75, Tryz.ntmps75
 go_wp2_with (first
  | (go_at_call 89; refine (l3Kind_any _ _ _ rfl).mono ?_; rintro e wx ⟨rfl, rfl⟩)
  | (go_at_call 72; refine (l3Words_any _ _ _ ws _ H1.out S1.out hl1 _ hW).mono ?_; rintro e wx ⟨rfl, rfl⟩)
  | (go_at_call 47; refine (l1In_any _ _ _ _ _ (by first | exact hP | exact hN | exact (rfl : inB 0 0 255 = true) | fail)).mono ?_; rintro e wx ⟨rfl, rfl⟩)
  | (go_at_call 90; refine (l4Zero_fftf _ _ _ _ _ _ _ _ _ _ _ (by have := H1.out; omega) hl2 _ hZ).mono ?_; rintro e w1 ⟨rfl, b'⟩; have B1 := bel_next B0 b'; obtain ⟨y0, y1, y2, y3, y4, y5⟩ := (X0.below b').six; clear B0))
 go_ret
 exact ⟨rfl, B1⟩
theorem specRespOk_23 (pl nn : Int) (a1 a2 : Option Addr) (l1 l2 c1 c2 : Nat) (ws : List Int) (w : World) (h1 : l1 = ws.length) (s1 : SlI w a1 ws) (hl1 : ws.length <= 2000000) (hl2 : l2 <= 20000000) (hW : allW ws = true) (hP : inB pl 0 65535 = true) (b : Bool) (hb : okA 23 0 pl nn ws l1 l2 = b) :
 Calls Tryz.prog 75 #[rp 23 0 pl nn a1 a2 l1 l2 c1 c2] w fun e w' => e = .returned (.bool b) /\ Below w.heap.size w w' := by
 have H1 : Hid (l1 = ws.length) := h1
 have hs : Hid (SlI w a1 ws) := s1
 have B0 := bel_alloc w (.cells #[.int .i64 23, .int .i64 0, .int .i64 pl, .int .i64 nn, .slice a1 l1 c1, .slice a2 l2 c2] 89)
 have X0 := Blk.new w #[.int .i64 23, .int .i64 0, .int .i64 pl, .int .i64 nn, .slice a1 l1 c1, .slice a2 l2 c2] 89
 have S1 : Hid (SlI (w.alloc (.cells #[.int .i64 23, .int .i64 0, .int .i64 pl, .int .i64 nn, .slice a1 l1 c1, .slice a2 l2 c2] 89)) a1 ws) := s1.below B0
 clear h1 s1
 cases hZ : zr4 false false true false pl nn l1 l2
 ·skip
  have e : okA 23 0 pl nn ws l1 l2 = false := by simp [okA, okAK, hW, hP, hZ, kindB, inB_z]
  rw [e] at hb
  subst hb
  clear e
  go_enter Tryz.func75, Tryz.ntmps75
  go_wp2_with (first
   | (go_at_call 89; refine (l3Kind_any _ _ _ rfl).mono ?_; rintro e wx ⟨rfl, rfl⟩)
   | (go_at_call 72; refine (l3Words_any _ _ _ ws _ H1.out S1.out hl1 _ hW).mono ?_; rintro e wx ⟨rfl, rfl⟩)
   | (go_at_call 47; refine (l1In_any _ _ _ _ _ (by first | exact hP | exact (rfl : inB 0 0 255 = true) | fail)).mono ?_; rintro e wx ⟨rfl, rfl⟩)
   | (go_at_call 90; refine (l4Zero_fftf _ _ _ _ _ _ _ _ _ _ _ (by have := H1.out; omega) hl2 _ hZ).mono ?_; rintro e w1 ⟨rfl, b'⟩; have B1 := bel_next B0 b'; obtain ⟨y0, y1, y2, y3, y4, y5⟩ := (X0.below b').six; clear B0))
  go_ret
  exact ⟨rfl, B1⟩
 skip
 cases hN : inB l1 1 125
 ·skip
  have e : okA 23 0 pl nn ws l1 l2 = false := by simp [okA, okAK, hW, hP, hZ, hN, kindB, inB_z]
  rw [e] at hb
  subst hb
  clear e
  go_enter Tryz.func75, Tryz.ntmps75
  go_wp2_with (first
   | (go_at_call 89; refine (l3Kind_any _ _ _ rfl).mono ?_; rintro e wx ⟨rfl, rfl⟩)
   | (go_at_call 72; refine (l3Words_any _ _ _ ws _ H1.out S1.out hl1 _ hW).mono ?_; rintro e wx ⟨rfl, rfl⟩)
   | (go_at_call 47; refine (l1In_any _ _ _ _ _ (by first | exact hP | exact hN | exact (rfl : inB 0 0 255 = true) | fail)).mono ?_; rintro e wx ⟨rfl, rfl⟩)
   | (go_at_call 90; refine (l4Zero_fftf _ _ _ _ _ _ _ _ _ _ _ (by have := H1.out; omega) hl2 _ hZ).mono ?_; rintro e w1 ⟨rfl, b'⟩; have B1 := bel_next B0 b'; obtain ⟨y0, y1, y2, y3, y4, y5⟩ := (X0.below b').six; clear B0))
  go_ret
  exact ⟨rfl, B1⟩
 skip
 have e : okA 23 0 pl nn ws l1 l2 = true := by simp [okA, okAK, hW, hP, hZ, hN, kindB, inB_z]
 rw [e] at hb
 subst hb
 clear e
 go_enter Tryz.func75, Tryz.ntmps75
 go_wp2_with (first
  | (go_at_call 89; refine (l3Kind_any _ _ _ rfl).mono ?_; rintro e wx ⟨rfl, rfl⟩)
  | (go_at_call 72; refine (l3Words_any _ _ _ ws _ H1.out S1.out hl1 _ hW).mono ?_; rintro e wx ⟨rfl, rfl⟩)
  | (go_at_call 47; refine (l1In_any _ _ _ _ _ (by first | exact hP | exact hN | exact (rfl : inB 0 0 255 = true) | fail)).mono ?_; rintro e wx ⟨rfl, rfl⟩)
  | (go_at_call 90; refine (l4Zero_fftf _ _ _ _ _ _ _ _ _ _ _ (by have := H1.out; omega) hl2 _ hZ).mono ?_; rintro e w1 ⟨rfl, b'⟩; have B1 := bel_next B0 b'; obtain ⟨y0, y1, y2, y3, y4, y5⟩ := (X0.below b').six; clear B0))
 go_ret
 exact ⟨rfl, B1⟩
theorem specRespOk_5 (pl nn : Int) (a1 a2 : Option Addr) (l1 l2 c1 c2 : Nat) (ws : List Int) (w : World) (h1 : l1 = ws.length) (s1 : SlI w a1 ws) (hl1 : ws.length <= 2000000) (hl2 : l2 <= 20000000) (hW : allW ws = true) (hP : inB pl 0 65535 = true) (b : Bool) (hb : okA 5 0 pl nn ws l1 l2 = b) :
 Calls Tryz.prog 75 #[rp 5 0 pl nn a1 a2 l1 l2 c1 c2] w fun e w' => e = .returned (.bool b) /\ Below w.heap.size w w' := by
 have H1 : Hid (l1 = ws.length) := h1
 have hs : Hid (SlI w a1 ws) := s1
 have B0 := bel_alloc w (.cells #[.int .i64 5, .int .i64 0, .int .i64 pl, .int .i64 nn, .slice a1 l1 c1, .slice a2 l2 c2] 89)
 have X0 := Blk.new w #[.int .i64 5, .int .i64 0, .int .i64 pl, .int .i64 nn, .slice a1 l1 c1, .slice a2 l2 c2] 89
 have S1 : Hid (SlI (w.alloc (.cells #[.int .i64 5, .int .i64 0, .int .i64 pl, .int .i64 nn, .slice a1 l1 c1, .slice a2 l2 c2] 89)) a1 ws) := s1.below B0
 clear h1 s1
 cases hZ : zr4 true false false true pl nn l1 l2
 ·skip
  have e : okA 5 0 pl nn ws l1 l2 = false := by simp [okA, okAK, hW, hP, hZ, kindB, inB_z]
  rw [e] at hb
  subst hb
  clear e
  go_enter Tryz.func75, Tryz.ntmps75
  go_wp2_with (first
   | (go_at_call 89; refine (l3Kind_any _ _ _ rfl).mono ?_; rintro e wx ⟨rfl, rfl⟩)
   | (go_at_call 72; refine (l3Words_any _ _ _ ws _ H1.out S1.out hl1 _ hW).mono ?_; rintro e wx ⟨rfl, rfl⟩)
   | (go_at_call 47; refine (l1In_any _ _ _ _ _ (by first | exact hP | exact (rfl : inB 0 0 255 = true) | fail)).mono ?_; rintro e wx ⟨rfl, rfl⟩)
   | (go_at_call 90; refine (l4Zero_tfft _ _ _ _ _ _ _ _ _ _ _ (by have := H1.out; omega) hl2 _ hZ).mono ?_; rintro e w1 ⟨rfl, b'⟩; have B1 := bel_next B0 b'; obtain ⟨y0, y1, y2, y3, y4, y5⟩ := (X0.below b').six; clear B0))
  go_ret
  exact ⟨rfl, B1⟩
 skip
 by_cases hL : l2 = 1
 ·skip
  have e : okA 5 0 pl nn ws l1 l2 = true := by rw [hL] at hZ ⊢; simp [okA, okAK, hW, hP, hZ, kindB, inB_z]
  rw [e] at hb
  subst hb
  clear e
  have hLi : (l2 : Int) = 1 := by omega
  clear hL
  go_enter Tryz.func75, Tryz.ntmps75
  go_wp2_with (first
   | (go_at_call 89; refine (l3Kind_any _ _ _ rfl).mono ?_; rintro e wx ⟨rfl, rfl⟩)
   | (go_at_call 72; refine (l3Words_any _ _ _ ws _ H1.out S1.out hl1 _ hW).mono ?_; rintro e wx ⟨rfl, rfl⟩)
   | (go_at_call 47; refine (l1In_any _ _ _ _ _ (by first | exact hP | exact (rfl : inB 0 0 255 = true) | fail)).mono ?_; rintro e wx ⟨rfl, rfl⟩)
   | (go_at_call 90; refine (l4Zero_tfft _ _ _ _ _ _ _ _ _ _ _ (by have := H1.out; omega) hl2 _ hZ).mono ?_; rintro e w1 ⟨rfl, b'⟩; have B1 := bel_next B0 b'; obtain ⟨y0, y1, y2, y3, y4, y5⟩ := (X0.below b').six; clear B0))
  go_ret
  exact ⟨rfl, B1⟩
 skip
 have e : okA 5 0 pl nn ws l1 l2 = false := by simp [okA, okAK, hW, hP, hZ, hL, kindB, inB_z]
 rw [e] at hb
 subst hb
 clear e
 have hLi : ((l2 : Int) == 1) = false := by simp; omega
 clear hL
 go_enter Tryz.func75, Tryz.ntmps75
 go_wp2_with (first
  | (go_at_call 89; refine (l3Kind_any _ _ _ rfl).mono ?_; rintro e wx ⟨rfl, rfl⟩)
  | (go_at_call 72; refine (l3Words_any _ _ _ ws _ H1.out S1.out hl1 _ hW).mono ?_; rintro e wx ⟨rfl, rfl⟩)
  | (go_at_call 47; refine (l1In_any _ _ _ _ _ (by first | exact hP | exact (rfl : inB 0 0 255 = true) | fail)).mono ?_; rintro e wx ⟨rfl, rfl⟩)
  | (go_at_call 90; refine (l4Zero_tfft _ _ _ _ _ _ _ _ _ _ _ (by have := H1.out; omega) hl2 _ hZ).mono ?_; rintro e w1 ⟨rfl, b'⟩; have B1 := bel_next B0 b'; obtain ⟨y0, y1, y2, y3, y4, y5⟩ := (X0.below b').six; clear B0))
 go_ret
 exact ⟨rfl, B1⟩
theorem specRespOk_6 (pl nn : Int) (a1 a2 : Option Addr) (l1 l2 c1 c2 : Nat) (ws : List Int) (w : World) (h1 : l1 = ws.length) (s1 : SlI w a1 ws) (hl1 : ws.length <= 2000000) (hl2 : l2 <= 20000000) (hW : allW ws = true) (hP : inB pl 0 65535 = true) (b : Bool) (hb : okA 6 0 pl nn ws l1 l2 = b) :
 Calls Tryz.prog 75 #[rp 6 0 pl nn a1 a2 l1 l2 c1 c2] w fun e w' => e = .returned (.bool b) /\ Below w.heap.size w w' := by
 have H1 : Hid (l1 = ws.length) := h1
 have hs : Hid (SlI w a1 ws) := s1
 have B0 := bel_alloc w (.cells #[.int .i64 6, .int .i64 0, .int .i64 pl, .int .i64 nn, .slice a1 l1 c1, .slice a2 l2 c2] 89)
 have X0 := Blk.new w #[.int .i64 6, .int .i64 0, .int .i64 pl, .int .i64 nn, .slice a1 l1 c1, .slice a2 l2 c2] 89
 have S1 : Hid (SlI (w.alloc (.cells #[.int .i64 6, .int .i64 0, .int .i64 pl, .int .i64 nn, .slice a1 l1 c1, .slice a2 l2 c2] 89)) a1 ws) := s1.below B0
 clear h1 s1
 cases hZ : zr4 true false true false pl nn l1 l2
 ·skip
  have e : okA 6 0 pl nn ws l1 l2 = false := by simp [okA, okAK, hW, hP, hZ, kindB, inB_z]
  rw [e] at hb
  subst hb
  clear e
  go_enter Tryz.func75, Tryz.ntmps75
  go_wp2_with (first
   | (go_at_call 89; refine (l3Kind_any _ _ _ rfl).mono ?_; rintro e wx ⟨rfl, rfl⟩)
   | (go_at_call 72; refine (l3Words_any _ _ _ ws _ H1.out S1.out hl1 _ hW).mono ?_; rintro e wx ⟨rfl, rfl⟩)
   | (go_at_call 47; refine (l1In_any _ _ _ _ _ (by first | exact hP | exact (rfl : inB 0 0 255 = true) | fail)).mono ?_; rintro e wx ⟨rfl, rfl⟩)
   | (go_at_call 90; refine (l4Zero_tftf _ _ _ _ _ _ _ _ _ _ _ (by have := H1.out; omega) hl2 _ hZ).mono ?_; rintro e w1 ⟨rfl, b'⟩; have B1 := bel_next B0 b'; obtain ⟨y0, y1, y2, y3, y4, y5⟩ := (X0.below b').six; clear B0))
  go_ret
  exact ⟨rfl, B1⟩
 skip
 by_cases hL : l1 = 1
 ·skip
  have e : okA 6 0 pl nn ws l1 l2 = true := by rw [hL] at hZ ⊢; simp [okA, okAK, hW, hP, hZ, kindB, inB_z]
  rw [e] at hb
  subst hb
  clear e
  have hLi : (l1 : Int) = 1 := by omega
  clear hL
  go_enter Tryz.func75, Tryz.ntmps75
  go_wp2_with (first
   | (go_at_call 89; refine (l3Kind_any _ _ _ rfl).mono ?_; rintro e wx ⟨rfl, rfl⟩)
   | (go_at_call 72; refine (l3Words_any _ _ _ ws _ H1.out S1.out hl1 _ hW).mono ?_; rintro e wx ⟨rfl, rfl⟩)
   | (go_at_call 47; refine (l1In_any _ _ _ _ _ (by first | exact hP | exact (rfl : inB 0 0 255 = true) | fail)).mono ?_; rintro e wx ⟨rfl, rfl⟩)
   | (go_at_call 90; refine (l4Zero_tftf _ _ _ _ _ _ _ _ _ _ _ (by have := H1.out; omega) hl2 _ hZ).mono ?_; rintro e w1 ⟨rfl, b'⟩; have B1 := bel_next B0 b'; obtain ⟨y0, y1, y2, y3, y4, y5⟩ := (X0.below b').six; clear B0))
  go_ret
  exact ⟨rfl, B1⟩
 skip
 have e : okA 6 0 pl nn ws l1 l2 = false := by simp [okA, okAK, hW, hP, hZ, hL, kindB, inB_z]
 rw [e] at hb
 subst hb
 clear e
 have hLi : ((l1 : Int) == 1) = false := by simp; omega
 clear hL
 go_enter Tryz.func75, Tryz.ntmps75
 go_wp2_with (first
  | (go_at_call 89; refine (l3Kind_any _ _ _ rfl).mono ?_; rintro e wx ⟨rfl, rfl⟩)
  | (go_at_call 72; refine (l3Words_any _ _ _ ws _ H1.out S1.out hl1 _ hW).mono ?_; rintro e wx ⟨rfl, rfl⟩)
  | (go_at_call 47; refine (l1In_any _ _ _ _ _ (by first | exact hP | exact (rfl : inB 0 0 255 = true) | fail)).mono ?_; rintro e wx ⟨rfl, rfl⟩)
  | (go_at_call 90; refine (l4Zero_tftf _ _ _ _ _ _ _ _ _ _ _ (by have := H1.out; omega) hl2 _ hZ).mono ?_; rintro e w1 ⟨rfl, b'⟩; have B1 := bel_next B0 b'; obtain ⟨y0, y1, y2, y3, y4, y5⟩ := (X0.below b').six; clear B0))
 go_ret
 exact ⟨rfl, B1⟩
theorem specRespOk_22 (pl nn : Int) (a1 a2 : Option Addr) (l1 l2 c1 c2 : Nat) (ws : List Int) (w : World) (h1 : l1 = ws.length) (s1 : SlI w a1 ws) (hl1 : ws.length <= 2000000) (hl2 : l2 <= 20000000) (hW : allW ws = true) (hP : inB pl 0 65535 = true) (b : Bool) (hb : okA 22 0 pl nn ws l1 l2 = b) :
 Calls Tryz.prog 75 #[rp 22 0 pl nn a1 a2 l1 l2 c1 c2] w fun e w' => e = .returned (.bool b) /\ Below w.heap.size w w' := by
 have H1 : Hid (l1 = ws.length) := h1
 have hs : Hid (SlI w a1 ws) := s1
 have B0 := bel_alloc w (.cells #[.int .i64 22, .int .i64 0, .int .i64 pl, .int .i64 nn, .slice a1 l1 c1, .slice a2 l2 c2] 89)
 have X0 := Blk.new w #[.int .i64 22, .int .i64 0, .int .i64 pl, .int .i64 nn, .slice a1 l1 c1, .slice a2 l2 c2] 89
 have S1 : Hid (SlI (w.alloc (.cells #[.int .i64 22, .int .i64 0, .int .i64 pl, .int .i64 nn, .slice a1 l1 c1, .slice a2 l2 c2] 89)) a1 ws) := s1.below B0
 clear h1 s1
 cases hZ : zr4 true false true false pl nn l1 l2
 ·skip
  have e : okA 22 0 pl nn ws l1 l2 = false := by simp [okA, okAK, hW, hP, hZ, kindB, inB_z]
  rw [e] at hb
  subst hb
  clear e
  go_enter Tryz.func75, Tryz.ntmps75
  go_wp2_with (first
   | (go_at_call 89; refine (l3Kind_any _ _ _ rfl).mono ?_; rintro e wx ⟨rfl, rfl⟩)
   | (go_at_call 72; refine (l3Words_any _ _ _ ws _ H1.out S1.out hl1 _ hW).mono ?_; rintro e wx ⟨rfl, rfl⟩)
   | (go_at_call 47; refine (l1In_any _ _ _ _ _ (by first | exact hP | exact (rfl : inB 0 0 255 = true) | fail)).mono ?_; rintro e wx ⟨rfl, rfl⟩)
   | (go_at_call 90; refine (l4Zero_tftf _ _ _ _ _ _ _ _ _ _ _ (by have := H1.out; omega) hl2 _ hZ).mono ?_; rintro e w1 ⟨rfl, b'⟩; have B1 := bel_next B0 b'; obtain ⟨y0, y1, y2, y3, y4, y5⟩ := (X0.below b').six; clear B0))
  go_ret
  exact ⟨rfl, B1⟩
 skip
 by_cases hL : l1 = 2
 ·skip
  have e : okA 22 0 pl nn ws l1 l2 = true := by rw [hL] at hZ ⊢; simp [okA, okAK, hW, hP, hZ, kindB, inB_z]
  rw [e] at hb
  subst hb
  clear e
  have hLi : (l1 : Int) = 2 := by omega
  clear hL
  go_enter Tryz.func75, Tryz.ntmps75
  go_wp2_with (first
   | (go_at_call 89; refine (l3Kind_any _ _ _ rfl).mono ?_; rintro e wx ⟨rfl, rfl⟩)
   | (go_at_call 72; refine (l3Words_any _ _ _ ws _ H1.out S1.out hl1 _ hW).mono ?_; rintro e wx ⟨rfl, rfl⟩)
   | (go_at_call 47; refine (l1In_any _ _ _ _ _ (by first | exact hP | exact (rfl : inB 0 0 255 = true) | fail)).mono ?_; rintro e wx ⟨rfl, rfl⟩)
   | (go_at_call 90; refine (l4Zero_tftf _ _ _ _ _ _ _ _ _ _ _ (by have := H1.out; omega) hl2 _ hZ).mono ?_; rintro e w1 ⟨rfl, b'⟩; have B1 := bel_next B0 b'; obtain ⟨y0, y1, y2, y3, y4, y5⟩ := (X0.below b').six; clear B0))
  go_ret
  exact ⟨rfl, B1⟩
 skip
 have e : okA 22 0 pl nn ws l1 l2 = false := by simp [okA, okAK, hW, hP, hZ, hL, kindB, inB_z]
 rw [e] at hb
 subst hb
 clear e
 have hLi : ((l1 : Int) == 2) = false := by simp; omega
 clear hL
 go_enter Tryz.func75, Tryz.ntmps75
 go_wp2_with (first
  | (go_at_call 89; refine (l3Kind_any _ _ _ rfl).mono ?_; rintro e wx ⟨rfl, rfl⟩)
  | (go_at_call 72; refine (l3Words_any _ _ _ ws _ H1.out S1.out hl1 _ hW).mono ?_; rintro e wx ⟨rfl, rfl⟩)
  | (go_at_call 47; refine (l1In_any _ _ _ _ _ (by first | exact hP | exact (rfl : inB 0 0 255 = true) | fail)).mono ?_; rintro e wx ⟨rfl, rfl⟩)
  | (go_at_call 90; refine (l4Zero_tftf _ _ _ _ _ _ _ _ _ _ _ (by have := H1.out; omega) hl2 _ hZ).mono ?_; rintro e w1 ⟨rfl, b'⟩; have B1 := bel_next B0 b'; obtain ⟨y0, y1, y2, y3, y4, y5⟩ := (X0.below b').six; clear B0))
 go_ret
 exact ⟨rfl, B1⟩
theorem specRespOk_15 (pl nn : Int) (a1 a2 : Option Addr) (l1 l2 c1 c2 : Nat) (ws : List Int) (w : World) (h1 : l1 = ws.length) (s1 : SlI w a1 ws) (hl1 : ws.length <= 2000000) (hl2 : l2 <= 20000000) (hW : allW ws = true) (hP : inB pl 0 65535 = true) (b : Bool) (hb : okA 15 0 pl nn ws l1 l2 = b) :
 Calls Tryz.prog 75 #[rp 15 0 pl nn a1 a2 l1 l2 c1 c2] w fun e w' => e = .returned (.bool b) /\ Below w.heap.size w w' := by
 have H1 : Hid (l1 = ws.length) := h1
 have hs : Hid (SlI w a1 ws) := s1
 have B0 := bel_alloc w (.cells #[.int .i64 15, .int .i64 0, .int .i64 pl, .int .i64 nn, .slice a1 l1 c1, .slice a2 l2 c2] 89)
 have X0 := Blk.new w #[.int .i64 15, .int .i64 0, .int .i64 pl, .int .i64 nn, .slice a1 l1 c1, .slice a2 l2 c2] 89
 have S1 : Hid (SlI (w.alloc (.cells #[.int .i64 15, .int .i64 0, .int .i64 pl, .int .i64 nn, .slice a1 l1 c1, .slice a2 l2 c2] 89)) a1 ws) := s1.below B0
 clear h1 s1
 cases hZ : zr4 true true false false pl nn l1 l2
 ·skip
  have e : okA 15 0 pl nn ws l1 l2 = false := by simp [okA, okAK, hW, hP, hZ, kindB, inB_z]
  rw [e] at hb
  subst hb
  clear e
  go_enter Tryz.func75, Tryz.ntmps75
  go_wp2_with (first
   | (go_at_call 89; refine (l3Kind_any _ _ _ rfl).mono ?_; rintro e wx ⟨rfl, rfl⟩)
   | (go_at_call 72; refine (l3Words_any _ _ _ ws _ H1.out S1.out hl1 _ hW).mono ?_; rintro e wx ⟨rfl, rfl⟩)
   | (go_at_call 47; refine (l1In_any _ _ _ _ _ (by first | exact hP | exact (rfl : inB 0 0 255 = true) | fail)).mono ?_; rintro e wx ⟨rfl, rfl⟩)
   | (go_at_call 90; refine (l4Zero_ttff _ _ _ _ _ _ _ _ _ _ _ (by have := H1.out; omega) hl2 _ hZ).mono ?_; rintro e w1 ⟨rfl, b'⟩; have B1 := bel_next B0 b'; obtain ⟨y0, y1, y2, y3, y4, y5⟩ := (X0.below b').six; clear B0))
  go_ret
  exact ⟨rfl, B1⟩
 skip
 cases hN : inB nn 1 1968
 ·skip
  have e : okA 15 0 pl nn ws l1 l2 = false := by simp [okA, okAK, hW, hP, hZ, hN, kindB, inB_z]
  rw [e] at hb
  subst hb
  clear e
  go_enter Tryz.func75, Tryz.ntmps75
  go_wp2_with (first
   | (go_at_call 89; refine (l3Kind_any _ _ _ rfl).mono ?_; rintro e wx ⟨rfl, rfl⟩)
   | (go_at_call 72; refine (l3Words_any _ _ _ ws _ H1.out S1.out hl1 _ hW).mono ?_; rintro e wx ⟨rfl, rfl⟩)
   | (go_at_call 47; refine (l1In_any _ _ _ _ _ (by first | exact hP | exact hN | exact (rfl : inB 0 0 255 = true) | fail)).mono ?_; rintro e wx ⟨rfl, rfl⟩)
   | (go_at_call 90; refine (l4Zero_ttff _ _ _ _ _ _ _ _ _ _ _ (by have := H1.out; omega) hl2 _ hZ).mono ?_; rintro e w1 ⟨rfl, b'⟩; have B1 := bel_next B0 b'; obtain ⟨y0, y1, y2, y3, y4, y5⟩ := (X0.below b').six; clear B0))
  go_ret
  exact ⟨rfl, B1⟩
 skip
 have e : okA 15 0 pl nn ws l1 l2 = true := by simp [okA, okAK, hW, hP, hZ, hN, kindB, inB_z]
 rw [e] at hb
 subst hb
 clear e
 go_enter Tryz.func75, Tryz.ntmps75
 go_wp2_with (first
  | (go_at_call 89; refine (l3Kind_any _ _ _ rfl).mono ?_; rintro e wx ⟨rfl, rfl⟩)
  | (go_at_call 72; refine (l3Words_any _ _ _ ws _ H1.out S1.out hl1 _ hW).mono ?_; rintro e wx ⟨rfl, rfl⟩)
  | (go_at_call 47; refine (l1In_any _ _ _ _ _ (by first | exact hP | exact hN | exact (rfl : inB 0 0 255 = true) | fail)).mono ?_; rintro e wx ⟨rfl, rfl⟩)
  | (go_at_call 90; refine (l4Zero_ttff _ _ _ _ _ _ _ _ _ _ _ (by have := H1.out; omega) hl2 _ hZ).mono ?_; rintro e w1 ⟨rfl, b'⟩; have B1 := bel_next B0 b'; obtain ⟨y0, y1, y2, y3, y4, y5⟩ := (X0.below b').six; clear B0))
 go_ret
 exact ⟨rfl, B1⟩
theorem specRespOk_16 (pl nn : Int) (a1 a2 : Option Addr) (l1 l2 c1 c2 : Nat) (ws : List Int) (w : World) (h1 : l1 = ws.length) (s1 : SlI w a1 ws) (hl1 : ws.length <= 2000000) (hl2 : l2 <= 20000000) (hW : allW ws = true) (hP : inB pl 0 65535 = true) (b : Bool) (hb : okA 16 0 pl nn ws l1 l2 = b) :
 Calls Tryz.prog 75 #[rp 16 0 pl nn a1 a2 l1 l2 c1 c2] w fun e w' => e = .returned (.bool b) /\ Below w.heap.size w w' := by
 have H1 : Hid (l1 = ws.length) := h1
 have hs : Hid (SlI w a1 ws) := s1
 have B0 := bel_alloc w (.cells #[.int .i64 16, .int .i64 0, .int .i64 pl, .int .i64 nn, .slice a1 l1 c1, .slice a2 l2 c2] 89)
 have X0 := Blk.new w #[.int .i64 16, .int .i64 0, .int .i64 pl, .int .i64 nn, .slice a1 l1 c1, .slice a2 l2 c2] 89
 have S1 : Hid (SlI (w.alloc (.cells #[.int .i64 16, .int .i64 0, .int .i64 pl, .int .i64 nn, .slice a1 l1 c1, .slice a2 l2 c2] 89)) a1 ws) := s1.below B0
 clear h1 s1
 cases hZ : zr4 true true false false pl nn l1 l2
 ·skip
  have e : okA 16 0 pl nn ws l1 l2 = false := by simp [okA, okAK, hW, hP, hZ, kindB, inB_z]
  rw [e] at hb
  subst hb
  clear e
  go_enter Tryz.func75, Tryz.ntmps75
  go_wp2_with (first
   | (go_at_call 89; refine (l3Kind_any _ _ _ rfl).mono ?_; rintro e wx ⟨rfl, rfl⟩)
   | (go_at_call 72; refine (l3Words_any _ _ _ ws _ H1.out S1.out hl1 _ hW).mono ?_; rintro e wx ⟨rfl, rfl⟩)
   | (go_at_call 47; refine (l1In_any _ _ _ _ _ (by first | exact hP | exact (rfl : inB 0 0 255 = true) | fail)).mono ?_; rintro e wx ⟨rfl, rfl⟩)
   | (go_at_call 90; refine (l4Zero_ttff _ _ _ _ _ _ _ _ _ _ _ (by have := H1.out; omega) hl2 _ hZ).mono ?_; rintro e w1 ⟨rfl, b'⟩; have B1 := bel_next B0 b'; obtain ⟨y0, y1, y2, y3, y4, y5⟩ := (X0.below b').six; clear B0))
  go_ret
  exact ⟨rfl, B1⟩
 skip
 cases hN : inB nn 1 123
 ·skip
  have e : okA 16 0 pl nn ws l1 l2 = false := by simp [okA, okAK, hW, hP, hZ, hN, kindB, inB_z]
  rw [e] at hb
  subst hb
  clear e
  go_enter Tryz.func75, Tryz.ntmps75
  go_wp2_with (first
   | (go_at_call 89; refine (l3Kind_any _ _ _ rfl).mono ?_; rintro e wx ⟨rfl, rfl⟩)
   | (go_at_call 72; refine (l3Words_any _ _ _ ws _ H1.out S1.out hl1 _ hW).mono ?_; rintro e wx ⟨rfl, rfl⟩)
   | (go_at_call 47; refine (l1In_any _ _ _ _ _ (by first | exact hP | exact hN | exact (rfl : inB 0 0 255 = true) | fail)).mono ?_; rintro e wx ⟨rfl, rfl⟩)
   | (go_at_call 90; refine (l4Zero_ttff _ _ _ _ _ _ _ _ _ _ _ (by have := H1.out; omega) hl2 _ hZ).mono ?_; rintro e w1 ⟨rfl, b'⟩; have B1 := bel_next B0 b'; obtain ⟨y0, y1, y2, y3, y4, y5⟩ := (X0.below b').six; clear B0))
  go_ret
  exact ⟨rfl, B1⟩
 skip
 have e : okA 16 0 pl nn ws l1 l2 = true := by simp [okA, okAK, hW, hP, hZ, hN, kindB, inB_z]
 rw [e] at hb
 subst hb
 clear e
 go_enter Tryz.func75, Tryz.ntmps75
 go_wp2_with (first
  | (go_at_call 89; refine (l3Kind_any _ _ _ rfl).mono ?_; rintro e wx ⟨rfl, rfl⟩)
  | (go_at_call 72; refine (l3Words_any _ _ _ ws _ H1.out S1.out hl1 _ hW).mono ?_; rintro e wx ⟨rfl, rfl⟩)
  | (go_at_call 47; refine (l1In_any _ _ _ _ _ (by first | exact hP | exact hN | exact (rfl : inB 0 0 255 = true) | fail)).mono ?_; rintro e wx ⟨rfl, rfl⟩)
  | (go_at_call 90; refine (l4Zero_ttff _ _ _ _ _ _ _ _ _ _ _ (by have := H1.out; omega) hl2 _ hZ).mono ?_; rintro e w1 ⟨rfl, b'⟩; have B1 := bel_next B0 b'; obtain ⟨y0, y1, y2, y3, y4, y5⟩ := (X0.below b').six; clear B0))
 go_ret
 exact ⟨rfl, B1⟩
theorem specRespOk_any (kd fl pl nn : Int) (a1 a2 : Option Addr) (l1 l2 c1 c2 : Nat) (ws : List Int) (w : World) (h1 : l1 = ws.length) (s1 : SlI w a1 ws) (hl1 : ws.length <= 2000000) (hl2 : l2 <= 20000000) (b : Bool) (hb : okA kd fl pl nn ws l1 l2 = b) :
 Calls Tryz.prog 75 #[rp kd fl pl nn a1 a2 l1 l2 c1 c2] w fun e w' => e = .returned (.bool b) /\ Below w.heap.size w w' := by
 have H1 : Hid (l1 = ws.length) := h1
 have hs : Hid (SlI w a1 ws) := s1
 have B0 := bel_alloc w (.cells #[.int .i64 kd, .int .i64 fl, .int .i64 pl, .int .i64 nn, .slice a1 l1 c1, .slice a2 l2 c2] 89)
 have X0 := Blk.new w #[.int .i64 kd, .int .i64 fl, .int .i64 pl, .int .i64 nn, .slice a1 l1 c1, .slice a2 l2 c2] 89
 have S1 : Hid (SlI (w.alloc (.cells #[.int .i64 kd, .int .i64 fl, .int .i64 pl, .int .i64 nn, .slice a1 l1 c1, .slice a2 l2 c2] 89)) a1 ws) := s1.below B0
 clear h1 s1
 cases hK : kindB kd
 ·skip
  have e : okA kd fl pl nn ws l1 l2 = false := by simp [okA, okAK, hK]
  rw [e] at hb
  subst hb
  clear e
  go_enter Tryz.func75, Tryz.ntmps75
  go_wp2_with (first
   | (go_at_call 89; refine (l3Kind_any _ _ _ hK).mono ?_; rintro e wx ⟨rfl, rfl⟩)
   | (go_at_call 47; refine (l1In_any _ _ _ _ _ (by first | fail)).mono ?_; rintro e wx ⟨rfl, rfl⟩))
  go_ret
  exact ⟨rfl, B0⟩
 skip
 cases hF : inB fl 0 255
 ·skip
  have e : okA kd fl pl nn ws l1 l2 = false := by simp [okA, okAK, hK, hF]
  rw [e] at hb
  subst hb
  clear e
  go_enter Tryz.func75, Tryz.ntmps75
  go_wp2_with (first
   | (go_at_call 89; refine (l3Kind_any _ _ _ hK).mono ?_; rintro e wx ⟨rfl, rfl⟩)
   | (go_at_call 47; refine (l1In_any _ _ _ _ _ (by first | exact hF | fail)).mono ?_; rintro e wx ⟨rfl, rfl⟩))
  go_ret
  exact ⟨rfl, B0⟩
 skip
 cases hW : allW ws
 ·skip
  have e : okA kd fl pl nn ws l1 l2 = false := by simp [okA, okAK, hK, hF, hW]
  rw [e] at hb
  subst hb
  clear e
  go_enter Tryz.func75, Tryz.ntmps75
  go_wp2_with (first
   | (go_at_call 89; refine (l3Kind_any _ _ _ hK).mono ?_; rintro e wx ⟨rfl, rfl⟩)
   | (go_at_call 72; refine (l3Words_any _ _ _ ws _ H1.out S1.out hl1 _ hW).mono ?_; rintro e wx ⟨rfl, rfl⟩)
   | (go_at_call 47; refine (l1In_any _ _ _ _ _ (by first | exact hF | fail)).mono ?_; rintro e wx ⟨rfl, rfl⟩))
  go_ret
  exact ⟨rfl, B0⟩
 skip
 cases hP : inB pl 0 65535
 ·skip
  have e : okA kd fl pl nn ws l1 l2 = false := by simp [okA, okAK, hK, hF, hW, hP]
  rw [e] at hb
  subst hb
  clear e
  go_enter Tryz.func75, Tryz.ntmps75
  go_wp2_with (first
   | (go_at_call 89; refine (l3Kind_any _ _ _ hK).mono ?_; rintro e wx ⟨rfl, rfl⟩)
   | (go_at_call 72; refine (l3Words_any _ _ _ ws _ H1.out S1.out hl1 _ hW).mono ?_; rintro e wx ⟨rfl, rfl⟩)
   | (go_at_call 47; refine (l1In_any _ _ _ _ _ (by first | exact hF | exact hP | fail)).mono ?_; rintro e wx ⟨rfl, rfl⟩))
  go_ret
  exact ⟨rfl, B0⟩
 skip
 by_cases h0 : 0 < fl
 ·skip
  cases hZ : zr4 false false false false pl nn l1 l2
  ·skip
   have e : okA kd fl pl nn ws l1 l2 = false := by simp [okA, okAK, hK, hF, hW, hP, h0, hZ]
   rw [e] at hb
   subst hb
   clear e
   go_enter Tryz.func75, Tryz.ntmps75
   go_wp2_with (first
    | (go_at_call 89; refine (l3Kind_any _ _ _ hK).mono ?_; rintro e wx ⟨rfl, rfl⟩)
    | (go_at_call 72; refine (l3Words_any _ _ _ ws _ H1.out S1.out hl1 _ hW).mono ?_; rintro e wx ⟨rfl, rfl⟩)
    | (go_at_call 47; refine (l1In_any _ _ _ _ _ (by first | exact hF | exact hP | fail)).mono ?_; rintro e wx ⟨rfl, rfl⟩)
    | (go_at_call 90; refine (l4Zero_ffff _ _ _ _ _ _ _ _ _ _ _ (by have := H1.out; omega) hl2 _ hZ).mono ?_; rintro e w1 ⟨rfl, b'⟩; have B1 := bel_next B0 b'; obtain ⟨y0, y1, y2, y3, y4, y5⟩ := (X0.below b').six; clear B0))
   go_ret
   exact ⟨rfl, B1⟩
  skip
  have e : okA kd fl pl nn ws l1 l2 = true := by simp [okA, okAK, hK, hF, hW, hP, h0, hZ]
  rw [e] at hb
  subst hb
  clear e
  go_enter Tryz.func75, Tryz.ntmps75
  go_wp2_with (first
   | (go_at_call 89; refine (l3Kind_any _ _ _ hK).mono ?_; rintro e wx ⟨rfl, rfl⟩)
   | (go_at_call 72; refine (l3Words_any _ _ _ ws _ H1.out S1.out hl1 _ hW).mono ?_; rintro e wx ⟨rfl, rfl⟩)
   | (go_at_call 47; refine (l1In_any _ _ _ _ _ (by first | exact hF | exact hP | fail)).mono ?_; rintro e wx ⟨rfl, rfl⟩)
   | (go_at_call 90; refine (l4Zero_ffff _ _ _ _ _ _ _ _ _ _ _ (by have := H1.out; omega) hl2 _ hZ).mono ?_; rintro e w1 ⟨rfl, b'⟩; have B1 := bel_next B0 b'; obtain ⟨y0, y1, y2, y3, y4, y5⟩ := (X0.below b').six; clear B0))
  go_ret
  exact ⟨rfl, B1⟩
 skip
 obtain rfl : fl = 0 := by have := inB_yes hF; omega
 clear X0 S1 B0
 obtain rfl | rfl | rfl | rfl | rfl | rfl | rfl | rfl | rfl | rfl := of_decide_eq_true hK
 ·exact specRespOk_1 pl nn a1 a2 l1 l2 c1 c2 ws w H1.out hs.out hl1 hl2 hW hP b hb
 ·exact specRespOk_2 pl nn a1 a2 l1 l2 c1 c2 ws w H1.out hs.out hl1 hl2 hW hP b hb
 ·exact specRespOk_3 pl nn a1 a2 l1 l2 c1 c2 ws w H1.out hs.out hl1 hl2 hW hP b hb
 ·exact specRespOk_4 pl nn a1 a2 l1 l2 c1 c2 ws w H1.out hs.out hl1 hl2 hW hP b hb
 ·exact specRespOk_5 pl nn a1 a2 l1 l2 c1 c2 ws w H1.out hs.out hl1 hl2 hW hP b hb
 ·exact specRespOk_6 pl nn a1 a2 l1 l2 c1 c2 ws w H1.out hs.out hl1 hl2 hW hP b hb
 ·exact specRespOk_15 pl nn a1 a2 l1 l2 c1 c2 ws w H1.out hs.out hl1 hl2 hW hP b hb
 ·exact specRespOk_16 pl nn a1 a2 l1 l2 c1 c2 ws w H1.out hs.out hl1 hl2 hW hP b hb
 ·exact specRespOk_22 pl nn a1 a2 l1 l2 c1 c2 ws w H1.out hs.out hl1 hl2 hW hP b hb
 exact specRespOk_23 pl nn a1 a2 l1 l2 c1 c2 ws w H1.out hs.out hl1 hl2 hW hP b hb
theorem specRespOk_q (kd fl pl nn : Int) (a1 a2 : Option Addr) (l1 l2 c1 c2 : Nat) (ws : List Int) (bs : List Bool) (w : World) (h1 : l1 = ws.length) (h2 : l2 = bs.length) (s1 : SlI w a1 ws) (s2 : SlB w a2 bs) (hl1 : ws.length <= 2000000) (hl2 : bs.length <= 2000000) :
 Calls Tryz.prog 75 #[rp kd fl pl nn a1 a2 l1 l2 c1 c2] w fun e w' => e = .returned (.bool (okA kd fl pl nn ws l1 l2)) /\ Below w.heap.size w w' :=
 specRespOk_any kd fl pl nn a1 a2 l1 l2 c1 c2 ws w h1 s1 hl1 (by omega) _ rfl
end Go.Proofs.YtlhjiiifmfgnoaaGreat
namespace Go.Proofs.YtlhjiiifmfgnoaaGreat
open Go.RowKit
def anB (kd pl nn : Int) (m1 m2 : Nat) (qs : List Int) (qb : List Bool) (ap an : Int) (l1 l2 : Nat) (ws : List Int) (bs : List Bool) : Bool :=
 if kd = 1 \/ kd = 2 then nfB bs nn.toNat && decide (l2 = (nn.toNat + 7) / 8 * 8)
 else if kd = 3 \/ kd = 4 \/ kd = 23 then decide ((l1 : Int) = nn)
 else if kd = 5 then decide (ap = pl) && decide (bs = qb)
 else if kd = 6 \/ kd = 22 then decide (ap = pl) && decide (ws = qs)
 else if kd = 15 then decide (ap = pl) && decide (an = (m2 : Int))
 else decide (ap = pl) && decide (an = (m1 : Int))
def suB (kd pl nn wa : Int) (m1 m2 : Nat) (qs : List Int) (qb : List Bool) (kd' fl ap an : Int) (l1 l2 : Nat) (ws : List Int) (bs : List Bool) : Bool :=
 okR kd pl nn wa qs m1 m2 && (okA kd' fl ap an ws l1 l2 && (decide (kd = kd') && (!decide (fl = 0) || anB kd pl nn m1 m2 qs qb ap an l1 l2 ws bs)))
end Go.Proofs.YtlhjiiifmfgnoaaGreat
namespace Go.Proofs.YtlhjiiifmfgnoaaGreat
open Go.RowKit Go.Joins
def okQ (Q : VQ) : Bool := okR Q.kd Q.pl Q.n Q.wa Q.ws Q.ws.length Q.bs.length
def suQ (Q : VQ) (A : VA) : Bool := suB Q.kd Q.pl Q.n Q.wa Q.ws.length Q.bs.length Q.ws Q.bs A.kd A.fl A.pl A.n A.ws.length A.bs.length A.ws A.bs
def okPt (P : VP) : Bool := inB P.p 0 5 && (inB P.t 1 247 && okQ P.q)
def noA (A : VA) : Bool := (A.kd == 0) && ((A.fl == 0) && ((A.pl == 0) && ((A.n == 0) && (((A.ws.length : Int) == 0) && ((A.bs.length : Int) == 0)))))
def allN (g : Nat -> Bool) : Nat -> Bool
 | 0 => true
 | n + 1 => allN g n && g n
theorem allN_iff {g : Nat -> Bool} : ∀ {n : Nat}, allN g n = true ↔ ∀ k, k < n -> g k = true
 | 0 => by simp [allN]
 | n + 1 => by
  simp only [allN, Bool.and_eq_true, allN_iff (n := n)]
  constructor
  ·rintro ⟨h1, h2⟩ k hk
   by_cases e : k = n
   ·subst e; exact h2
   exact h1 k (by omega)
  intro h
  exact ⟨fun k hk => h k (by omega), h n (by omega)⟩
theorem allN_no {g : Nat -> Bool} {n k : Nat} (hk : k < n) (h : g k = false) : allN g n = false := by
 cases e : allN g n with
 | false => rfl
 | true => rw [allN_iff.1 e k hk] at h; cases h
theorem allN_succ {g : Nat -> Bool} {n : Nat} (h : allN g n = true) (hk : g n = true) : allN g (n + 1) = true := by
 simp [allN, h, hk]
def cntF (bs : List Bool) : Nat -> Nat
 | 0 => 0
 | n + 1 => cntF bs n + (if bs.getD n false then 0 else 1)
theorem cntF_le (bs : List Bool) : ∀ n, cntF bs n <= n
 | 0 => Nat.le_refl _
 | n + 1 => by
  have := cntF_le bs n
  simp only [cntF]
  split <;> omega
theorem cntF_all {bs : List Bool} : ∀ {n : Nat}, cntF bs n = 0 ↔ allN (fun i => bs.getD i false) n = true
 | 0 => by simp [cntF, allN]
 | n + 1 => by
  simp only [cntF, allN, Bool.and_eq_true, <- cntF_all (n := n)]
  split <;> simp_all
def tdB (D : VD) (i : Nat) : Bool := if D.hs.getD i false then suQ (D.pt i).q (D.tl i) else noA (D.tl i)
def okPd (D : VD) : Bool :=
 inB D.so 0 1000000000 && (inB D.ta 0 1000000000 && (okQ D.q && (decide (1 <= D.np /\ D.np <= 8) && (allN (fun i => okPt (D.pt i)) D.np && (decide (D.hs.length = D.np) && (decide (D.nt = D.np) && (allN (tdB D) D.np && decide (0 < cntF D.hs D.hs.length))))))))
def rowB (X : VT) (i : Nat) : Bool := okPd (X.f i) && (inB (X.f i).id 0 (X.nx - 1) && (decide (i = 0) || decide ((X.f (i - 1)).id < (X.f i).id)))
def okTb (X : VT) : Bool := inB X.nx 0 1000000000 && (decide (X.m <= 16) && allN (rowB X) X.m)
def wtT (X : VT) : Nat -> Nat := fun n => sumN n (fun i => cntF (X.f i).hs (X.f i).hs.length)
def BdQ (Q : VQ) : Prop := Q.ws.length <= 2000000 /\ Q.bs.length <= 2000000
def BdA (A : VA) : Prop := A.ws.length <= 2000000 /\ A.bs.length <= 2000000
def BdD (D : VD) : Prop := BdQ D.q /\ D.np <= 2000000 /\ D.hs.length <= 2000000 /\ D.nt <= 2000000 /\ (∀ i, i < D.np -> BdQ (D.pt i).q) /\ (∀ i, i < D.nt -> BdA (D.tl i))
def BdT (X : VT) : Prop := X.m <= 2000000 /\ ∀ i, i < X.m -> BdD (X.f i)
theorem list_bd {s n N : Nat} {f : Nat -> Nat -> Tr} (h : (Tr.list s n f).sz <= N) : n <= N /\ ∀ k, k < n -> szT s (f k) <= N := by
 rw [Tr.sz_list] at h
 refine ⟨by omega, fun k hk => ?_⟩
 have := sumN_at (fun k => szT s (f k)) hk
 omega
theorem VD.bd {D : VD} (h : szT 13 (trs (dT D)) <= 2000000) : BdD D := by
 rw [szT_d] at h
 have h1 := list_bd (s := 8) (n := D.np) (f := fun i => trs (pT (D.pt i))) (N := 2000000) (by omega)
 have h2 := list_bd (s := 6) (n := D.nt) (f := fun i => trs (aT (D.tl i))) (N := 2000000) (by omega)
 refine ⟨⟨by omega, by omega⟩, h1.1, by omega, h2.1, fun i hi => ?_, fun i hi => ?_⟩
 ·have := h1.2 i hi
  rw [szT_p] at this
  exact ⟨by omega, by omega⟩
 have := h2.2 i hi
 rw [szT_a] at this
 exact ⟨by omega, by omega⟩
theorem VT.bd {X : VT} (h : szT 2 (trs (tT X)) <= 2000000) : BdT X := by
 rw [szT_t] at h
 have h1 := list_bd (s := 13) (n := X.m) (f := fun i => trs (dT (X.f i))) (N := 2000000) (by omega)
 exact ⟨h1.1, fun i hi => VD.bd (h1.2 i hi)⟩
def PdAt (w : World) (g o : Nat) (D : VD) : Prop := g < w.heap.size /\ ∃ vs, vs.length = 13 /\ w.rangeAt g o vs /\ RdL w 0 (trs (dT D)) vs
theorem PdAt.below {w w' : World} {g o : Nat} {D : VD} (h : PdAt w g o D) (hb : Below w.heap.size w w') : PdAt w' g o D := by
 obtain ⟨h1, vs, h2, h3, h4⟩ := h
 exact ⟨Nat.lt_of_lt_of_le h1 hb.size, vs, h2, fun j v hv => (hb.cell (p := ⟨g, o + j, none⟩) h1).trans (h3 j v hv), h4.below hb⟩
theorem PdAt.cells {w : World} {g o : Nat} {D : VD} (h : PdAt w g o D) : g < w.heap.size /\ ∃ a1 c1 a2 c2 a3 c3 a4 c4 a5 c5, w.rangeAt g o (dL D a1 D.q.ws.length c1 a2 D.q.bs.length c2 a3 D.np c3 a4 D.hs.length c4 a5 D.nt c5) /\ Rd w 0 (intsT D.q.ws) (.slice a1 D.q.ws.length c1) /\ Rd w 0 (boolsT D.q.bs) (.slice a2 D.q.bs.length c2) /\ Rd w 0 (.list 8 D.np (fun i => trs (pT (D.pt i)))) (.slice a3 D.np c3) /\ Rd w 0 (boolsT D.hs) (.slice a4 D.hs.length c4) /\ Rd w 0 (.list 6 D.nt (fun i => trs (aT (D.tl i)))) (.slice a5 D.nt c5) := by
 obtain ⟨h1, vs, h2, h3, h4⟩ := h
 obtain ⟨a1, c1, a2, c2, a3, c3, a4, c4, a5, c5, rfl, r1, r2, r3, r4, r5⟩ := VD.cells h4 h2
 exact ⟨h1, a1, c1, a2, c2, a3, c3, a4, c4, a5, c5, h3, r1, r2, r3, r4, r5⟩
end Go.Proofs.YtlhjiiifmfgnoaaGreat
namespace Go.Proofs.YtlhjiiifmfgnoaaGreat
open Go.RowKit Go.Joins
theorem Rd.int3 {w : World} {lo n c : Nat} {a : Option Addr} {ws : List Int} (h : Rd w lo (intsT ws) (.slice a n c)) : n = ws.length /\ n <= c /\ SlI w a ws := by
 obtain ⟨a', c', h1, h2, h3, h4⟩ := h.ints
 simp only [Value.slice.injEq] at h1
 obtain ⟨rfl, rfl, rfl⟩ := h1
 exact ⟨rfl, h2, h4⟩
theorem Rd.bool3 {w : World} {lo n c : Nat} {a : Option Addr} {ws : List Bool} (h : Rd w lo (boolsT ws) (.slice a n c)) : n = ws.length /\ n <= c /\ SlB w a ws := by
 obtain ⟨a', c', h1, h2, h3, h4⟩ := h.bools
 simp only [Value.slice.injEq] at h1
 obtain ⟨rfl, rfl, rfl⟩ := h1
 exact ⟨rfl, h2, h4⟩
theorem Rd.bit {w : World} {lo n m c : Nat} {a : Option Addr} {bs : List Bool} {k : Nat} (h : Rd w lo (boolsT bs) (.slice a m c)) (hk : k < bs.length) : ∃ b off, a = some ⟨b, off, none⟩ /\ b < w.heap.size /\ w.cell? ⟨b, off + k, none⟩ = some (.bool (bs.getD k false)) := by
 rcases h.bool3.2.2 with h0 | ⟨b, off, ha, hb, hc⟩
 ·subst h0; simp at hk
 exact ⟨b, off, ha, hb, hc k hk⟩
theorem isCntT (x hi : Int) (w : World) (b : Bool) (hb : inB x 1 hi = b) : Calls Tryz.prog 93 #[.int .i64 x, .int .i64 hi] w fun e w' => e = .returned (.bool b) /\ w' = w := by
 subst hb
 unfold inB
 by_cases h1 : 1 <= x
 ·by_cases h2 : x <= hi
  ·rw [decide_eq_true (show 1 <= x /\ x <= hi from ⟨h1, h2⟩)]
   go_enter Tryz.func93, Tryz.ntmps93
   go_wp2
   go_ret
   exact ⟨rfl, rfl⟩
  rw [decide_eq_false (show ¬ (1 <= x /\ x <= hi) from fun h => h2 h.2)]
  go_enter Tryz.func93, Tryz.ntmps93
  go_wp2
  go_ret
  exact ⟨rfl, rfl⟩
 rw [decide_eq_false (show ¬ (1 <= x /\ x <= hi) from fun h => h1 h.1)]
 go_enter Tryz.func93, Tryz.ntmps93
 go_wp2
 go_ret
 exact ⟨rfl, rfl⟩
theorem isUnitT (x : Int) (w : World) (b : Bool) (hb : inB x 1 247 = b) : Calls Tryz.prog 116 #[.int .i64 x] w fun e w' => e = .returned (.bool b) /\ w' = w := by
 go_enter Tryz.func116, Tryz.ntmps116
 go_wp2_with fail
 refine (isCntT _ _ _ _ hb).mono ?_
 rintro e wx ⟨rfl, rfl⟩
 go_wp2
 go_ret
 exact ⟨rfl, rfl⟩
theorem isIdT (x : Int) (w : World) (b : Bool) (hb : inB x 0 1000000000 = b) : Calls Tryz.prog 53 #[.int .i64 x] w fun e w' => e = .returned (.bool b) /\ w' = w := by
 subst hb
 unfold inB
 by_cases h1 : 0 <= x
 ·by_cases h2 : x <= 1000000000
  ·rw [decide_eq_true ⟨h1, h2⟩]
   have h3 : x < 1000000000 + 1 := by omega
   simp only [Int.reduceAdd] at h3
   go_enter Tryz.func53, Tryz.ntmps53
   go_wp2
   go_ret
   exact ⟨rfl, rfl⟩
  rw [decide_eq_false (fun h => h2 h.2)]
  have h3 : ¬ x < 1000000000 + 1 := by omega
  simp only [Int.reduceAdd] at h3
  go_enter Tryz.func53, Tryz.ntmps53
  go_wp2
  go_ret
  exact ⟨rfl, rfl⟩
 rw [decide_eq_false (fun h => h1 h.1)]
 go_enter Tryz.func53, Tryz.ntmps53
 go_wp2
 go_ret
 exact ⟨rfl, rfl⟩
theorem isPortT (x : Int) (w : World) (b : Bool) (hb : inB x 0 5 = b) : Calls Tryz.prog 115 #[.int .i64 x] w fun e w' => e = .returned (.bool b) /\ w' = w := by
 subst hb
 unfold inB
 by_cases h1 : 0 <= x
 ·by_cases h2 : x <= 5
  ·rw [decide_eq_true ⟨h1, h2⟩]
   have h3 : x < 5 + 1 := by omega
   simp only [Int.reduceAdd] at h3
   go_enter Tryz.func115, Tryz.ntmps115
   go_wp2
   go_ret
   exact ⟨rfl, rfl⟩
  rw [decide_eq_false (fun h => h2 h.2)]
  have h3 : ¬ x < 5 + 1 := by omega
  simp only [Int.reduceAdd] at h3
  go_enter Tryz.func115, Tryz.ntmps115
  go_wp2
  go_ret
  exact ⟨rfl, rfl⟩
 rw [decide_eq_false (fun h => h1 h.1)]
 go_enter Tryz.func115, Tryz.ntmps115
 go_wp2
 go_ret
 exact ⟨rfl, rfl⟩
theorem implOkQ (X : VQ) (a1 : Option Addr) (l1 c1 : Nat) (a2 : Option Addr) (l2 c2 : Nat) (w : World) (r1 : Rd w 0 (intsT X.ws) (.slice a1 l1 c1)) (r2 : Rd w 0 (boolsT X.bs) (.slice a2 l2 c2)) (hb : BdQ X) :
 Calls Tryz.prog 78 #[.agg (qL X a1 l1 c1 a2 l2 c2).toArray] w fun e w' => e = .returned (.bool (okQ X)) /\ Below w.heap.size w w' := by
 obtain ⟨e1, _, s1⟩ := r1.int3
 obtain ⟨e2, _, s2⟩ := r2.bool3
 unfold okQ
 rw [<- e1, <- e2]
 exact implReqOk_q X.kd X.pl X.n X.wa a1 a2 l1 l2 c1 c2 X.ws X.bs w e1 e2 s1 s2 hb.1 hb.2
theorem specOkQ (X : VQ) (a1 : Option Addr) (l1 c1 : Nat) (a2 : Option Addr) (l2 c2 : Nat) (w : World) (r1 : Rd w 0 (intsT X.ws) (.slice a1 l1 c1)) (r2 : Rd w 0 (boolsT X.bs) (.slice a2 l2 c2)) (hb : BdQ X) :
 Calls Tryz.prog 48 #[.agg (qL X a1 l1 c1 a2 l2 c2).toArray] w fun e w' => e = .returned (.bool (okQ X)) /\ Below w.heap.size w w' := by
 obtain ⟨e1, _, s1⟩ := r1.int3
 obtain ⟨e2, _, s2⟩ := r2.bool3
 unfold okQ
 rw [<- e1, <- e2]
 exact specReqOk_q X.kd X.pl X.n X.wa a1 a2 l1 l2 c1 c2 X.ws X.bs w e1 e2 s1 s2 hb.1 hb.2
theorem implPart_any (X : VP) (a1 : Option Addr) (c1 : Nat) (a2 : Option Addr) (c2 : Nat) (w : World) (r1 : Rd w 0 (intsT X.q.ws) (.slice a1 X.q.ws.length c1)) (r2 : Rd w 0 (boolsT X.q.bs) (.slice a2 X.q.bs.length c2)) (hb : BdQ X.q) :
 Calls Tryz.prog 96 #[.agg (pL X a1 X.q.ws.length c1 a2 X.q.bs.length c2).toArray] w fun e w' => e = .returned (.bool (okPt X)) /\ Below w.heap.size w w' := by
 obtain ⟨x0, hx0⟩ : ∃ x, inB X.p 0 5 = x := ⟨_, rfl⟩
 obtain ⟨x1, hx1⟩ : ∃ x, inB X.t 1 247 = x := ⟨_, rfl⟩
 obtain ⟨x2, hx2⟩ : ∃ x, okQ X.q = x := ⟨_, rfl⟩
 obtain ⟨W, hW⟩ : ∃ W, W = w.alloc (.cells (pL X a1 X.q.ws.length c1 a2 X.q.bs.length c2).toArray 68) := ⟨_, rfl⟩
 have HE : Hid (okPt X = (x0 && (x1 && x2)) /\ inB X.p 0 5 = x0 /\ inB X.t 1 247 = x1 /\ okQ X.q = x2 /\ Rd W 0 (intsT X.q.ws) (.slice a1 X.q.ws.length c1) /\ Rd W 0 (boolsT X.q.bs) (.slice a2 X.q.bs.length c2) /\ Below w.heap.size w W) := ⟨by unfold okPt; rw [hx0, hx1, hx2], hx0, hx1, hx2, r1.below (by rw [hW]; exact bel_alloc _ _), r2.below (by rw [hW]; exact bel_alloc _ _), by rw [hW]; exact bel_alloc _ _⟩
 have A0 : Blk W w.heap.size 68 (pL X a1 X.q.ws.length c1 a2 X.q.bs.length c2).toArray := by rw [hW]; exact Blk.new _ _ _
 obtain ⟨⟨y0, y1, y2, y3, y4, y5, y6, y7⟩, yf⟩ := A0.tc8
 rw [HE.out.1]
 clear hx0 hx1 hx2 r1 r2 yf A0
 go_enter Tryz.func96, Tryz.ntmps96
 go_upto_region 1 with fail
 rw [<- hW]
 clear hW
 go_wp2_with fail
 refine (isPortT _ _ _ HE.out.2.1).mono ?_
 rintro e w1 ⟨rfl, hw⟩
 have hw := hw.symm
 subst hw
 cases x0
 case false =>
  go_wp2
  go_ret
  exact ⟨rfl, HE.out.2.2.2.2.2.2⟩
 go_wp2_with fail
 refine (isUnitT _ _ _ HE.out.2.2.1).mono ?_
 rintro e w1 ⟨rfl, hw⟩
 have hw := hw.symm
 subst hw
 cases x1
 case false =>
  go_wp2
  go_ret
  exact ⟨rfl, HE.out.2.2.2.2.2.2⟩
 go_wp2_with fail
 refine (implOkQ X.q a1 _ c1 a2 _ c2 _ HE.out.2.2.2.2.1 HE.out.2.2.2.2.2.1 hb).mono ?_
 rintro e w1 ⟨rfl, b1⟩
 rw [HE.out.2.2.2.1]
 have B1 := bel_nx HE.out.2.2.2.2.2.2 b1
 clear b1 y0 y1 y2 y3 y4 y5 y6 y7
 go_wp2
 go_ret
 exact ⟨rfl, B1⟩
theorem specPart_any (X : VP) (a1 : Option Addr) (c1 : Nat) (a2 : Option Addr) (c2 : Nat) (w : World) (r1 : Rd w 0 (intsT X.q.ws) (.slice a1 X.q.ws.length c1)) (r2 : Rd w 0 (boolsT X.q.bs) (.slice a2 X.q.bs.length c2)) (hb : BdQ X.q) :
 Calls Tryz.prog 49 #[.agg (pL X a1 X.q.ws.length c1 a2 X.q.bs.length c2).toArray] w fun e w' => e = .returned (.bool (okPt X)) /\ Below w.heap.size w w' := by
 obtain ⟨x0, hx0⟩ : ∃ x, inB X.p 0 5 = x := ⟨_, rfl⟩
 obtain ⟨x1, hx1⟩ : ∃ x, inB X.t 1 247 = x := ⟨_, rfl⟩
 obtain ⟨x2, hx2⟩ : ∃ x, okQ X.q = x := ⟨_, rfl⟩
 obtain ⟨W, hW⟩ : ∃ W, W = w.alloc (.cells (pL X a1 X.q.ws.length c1 a2 X.q.bs.length c2).toArray 68) := ⟨_, rfl⟩
 have HE : Hid (okPt X = (x0 && (x1 && x2)) /\ inB X.p 0 5 = x0 /\ inB X.t 1 247 = x1 /\ okQ X.q = x2 /\ Rd W 0 (intsT X.q.ws) (.slice a1 X.q.ws.length c1) /\ Rd W 0 (boolsT X.q.bs) (.slice a2 X.q.bs.length c2) /\ Below w.heap.size w W) := ⟨by unfold okPt; rw [hx0, hx1, hx2], hx0, hx1, hx2, r1.below (by rw [hW]; exact bel_alloc _ _), r2.below (by rw [hW]; exact bel_alloc _ _), by rw [hW]; exact bel_alloc _ _⟩
 have A0 : Blk W w.heap.size 68 (pL X a1 X.q.ws.length c1 a2 X.q.bs.length c2).toArray := by rw [hW]; exact Blk.new _ _ _
 obtain ⟨⟨y0, y1, y2, y3, y4, y5, y6, y7⟩, yf⟩ := A0.tc8
 rw [HE.out.1]
 clear hx0 hx1 hx2 r1 r2 yf A0
 go_enter Tryz.func49, Tryz.ntmps49
 go_upto_region 1 with fail
 rw [<- hW]
 clear hW
 go_wp2_with fail
 refine (l1In_any _ _ _ _ _ HE.out.2.1).mono ?_
 rintro e w1 ⟨rfl, hw⟩
 have hw := hw.symm
 subst hw
 cases x0
 case false =>
  go_wp2
  go_ret
  exact ⟨rfl, HE.out.2.2.2.2.2.2⟩
 go_wp2_with fail
 refine (l1In_any _ _ _ _ _ HE.out.2.2.1).mono ?_
 rintro e w1 ⟨rfl, hw⟩
 have hw := hw.symm
 subst hw
 cases x1
 case false =>
  go_wp2
  go_ret
  exact ⟨rfl, HE.out.2.2.2.2.2.2⟩
 go_wp2_with fail
 refine (specOkQ X.q a1 _ c1 a2 _ c2 _ HE.out.2.2.2.2.1 HE.out.2.2.2.2.2.1 hb).mono ?_
 rintro e w1 ⟨rfl, b1⟩
 rw [HE.out.2.2.2.1]
 have B1 := bel_nx HE.out.2.2.2.2.2.2 b1
 clear b1 y0 y1 y2 y3 y4 y5 y6 y7
 go_wp2
 go_ret
 exact ⟨rfl, B1⟩
theorem partNo_any (X : VP) (a1 : Option Addr) (c1 : Nat) (a2 : Option Addr) (c2 : Nat) (w : World) (r1 : Rd w 0 (intsT X.q.ws) (.slice a1 X.q.ws.length c1)) (r2 : Rd w 0 (boolsT X.q.bs) (.slice a2 X.q.bs.length c2)) (hb : BdQ X.q) (x : Bool) (hx : okPt X = x) :
 Calls Tryz.prog 95 #[.agg (pL X a1 X.q.ws.length c1 a2 X.q.bs.length c2).toArray] w fun e w' => e = .returned (.bool (!x)) /\ Below w.heap.size w w' := by
 obtain ⟨W, hW⟩ : ∃ W, W = w.alloc (.cells (pL X a1 X.q.ws.length c1 a2 X.q.bs.length c2).toArray 68) := ⟨_, rfl⟩
 have HE : Hid (okPt X = x /\ Rd W 0 (intsT X.q.ws) (.slice a1 X.q.ws.length c1) /\ Rd W 0 (boolsT X.q.bs) (.slice a2 X.q.bs.length c2) /\ Below w.heap.size w W) := ⟨hx, r1.below (by rw [hW]; exact bel_alloc _ _), r2.below (by rw [hW]; exact bel_alloc _ _), by rw [hW]; exact bel_alloc _ _⟩
 have A0 : Blk W w.heap.size 68 (pL X a1 X.q.ws.length c1 a2 X.q.bs.length c2).toArray := by rw [hW]; exact Blk.new _ _ _
 obtain ⟨⟨y0, y1, y2, y3, y4, y5, y6, y7⟩, yf⟩ := A0.tc8
 clear hx r1 r2 yf A0
 go_enter Tryz.func95, Tryz.ntmps95
 go_upto_region 1 with fail
 rw [<- hW]
 clear hW
 go_wp2_with fail
 refine (implPart_any X a1 c1 a2 c2 _ HE.out.2.1 HE.out.2.2.1 hb).mono ?_
 rintro e w1 ⟨rfl, b1⟩
 rw [HE.out.1]
 have B1 := bel_nx HE.out.2.2.2 b1
 clear b1 y0 y1 y2 y3 y4 y5 y6 y7
 go_wp2
 go_ret
 exact ⟨rfl, B1⟩
def IxP (n : Nat) (f : Nat -> VP) (r : Int) : Prop := (r = -1 /\ allN (fun i => okPt (f i)) n = true) \/ (0 <= r /\ allN (fun i => okPt (f i)) n = false)
theorem indexNo_any (n : Nat) (f : Nat -> VP) (a : Option Addr) (c : Nat) (w : World) (hs : Rd w 0 (.list 8 n (fun i => trs (pT (f i)))) (.slice a n c)) (hn : n <= 2000000) (hb : ∀ i, i < n -> BdQ (f i).q) :
 Calls Tryz.prog 114 #[.slice a n c, .func (.func 95) #[] #[]] w fun e w' => ∃ r, e = .returned (.int .i64 r) /\ IxP n f r /\ Below w.heap.size w w' := by
 have HS : Hid (Rd w 0 (.list 8 n (fun i => trs (pT (f i)))) (.slice a n c) /\ ∀ i, i < n -> BdQ (f i).q) := ⟨hs, hb⟩
 clear hs hb
 go_enter Tryz.func114, Tryz.ntmps114
 go_wp2
 go_loopw [8] (fun i wr => ∃ k : Nat, k <= n /\ i = .int .i64 k /\ allN (fun i => okPt (f i)) k = true /\ Below w.heap.size w wr) (fun i _ => n - (intOf i).toNat)
 case atStart => exact ⟨0, Nat.zero_le _, rfl, rfl, Below.refl _ _⟩
 case round =>
  obtain ⟨k, hk, rfl, hall, hbl⟩ := hrel
  by_cases hlt : k < n
  ·have hi : (k : Int) < (n : Int) := by omega
   obtain ⟨b, off, vs, rfl, _, hb0, hlen, hr, hrd⟩ := (HS.out.1.below hbl).at hlt
   obtain ⟨a1, c1, a2, c2, rfl, r1, r2⟩ := VP.cells hrd hlen
   clear hlen hrd hb0
   have d0 : wr.cell? ⟨b, off + k * 8, none⟩ = _ := hr 0 _ rfl
   have d1 : wr.cell? ⟨b, off + k * 8 + 1, none⟩ = _ := hr 1 _ rfl
   have d2 : wr.cell? ⟨b, off + k * 8 + 2, none⟩ = _ := hr 2 _ rfl
   have d3 : wr.cell? ⟨b, off + k * 8 + 3, none⟩ = _ := hr 3 _ rfl
   have d4 : wr.cell? ⟨b, off + k * 8 + 4, none⟩ = _ := hr 4 _ rfl
   have d5 : wr.cell? ⟨b, off + k * 8 + 5, none⟩ = _ := hr 5 _ rfl
   have d6 : wr.cell? ⟨b, off + k * 8 + 6, none⟩ = _ := hr 6 _ rfl
   have d7 : wr.cell? ⟨b, off + k * 8 + 7, none⟩ = _ := hr 7 _ rfl
   obtain ⟨x, hx⟩ : ∃ x, okPt (f k) = x := ⟨_, rfl⟩
   have HK : Hid (Rd wr 0 (intsT (f k).q.ws) (.slice a1 (f k).q.ws.length c1) /\ Rd wr 0 (boolsT (f k).q.bs) (.slice a2 (f k).q.bs.length c2) /\ okPt (f k) = x /\ allN (fun i => okPt (f i)) k = true /\ Below w.heap.size w wr) := ⟨r1, r2, hx, hall, hbl⟩
   clear r1 r2 hx hall hbl hr
   go_wp2_with fail
   refine (partNo_any (f k) a1 c1 a2 c2 _ HK.out.1 HK.out.2.1 (HS.out.2 k hlt) x HK.out.2.2.1).mono ?_
   rintro e w1 ⟨rfl, b1⟩
   have B1 := bel_nx HK.out.2.2.2.2 b1
   clear b1 d0 d1 d2 d3 d4 d5 d6 d7
   cases x with
   | true =>
    have HF : Hid (allN (fun i => okPt (f i)) (k + 1) = true) := allN_succ HK.out.2.2.2.1 HK.out.2.2.1
    clear HK
    go_wp2
    go_roundw
    case rel => exact ⟨k + 1, by omega, by go_num, HF.out, B1⟩
    case measure => simp [intOf]; omega
   | false =>
    have HF : Hid (allN (fun i => okPt (f i)) n = false) := allN_no hlt HK.out.2.2.1
    clear HK
    go_wp2
    go_ret
    exact ⟨_, rfl, .inr ⟨by omega, HF.out⟩, B1⟩
  have hi : ¬ (k : Int) < (n : Int) := by omega
  have e9 : k = n := by omega
  subst e9
  have HF : Hid (allN (fun i => okPt (f i)) k = true) := hall
  clear hall
  go_wp2
  go_ret
  exact ⟨_, rfl, .inl ⟨rfl, HF.out⟩, hbl⟩
theorem containsNo_any (n : Nat) (f : Nat -> VP) (a : Option Addr) (c : Nat) (w : World) (hs : Rd w 0 (.list 8 n (fun i => trs (pT (f i)))) (.slice a n c)) (hn : n <= 2000000) (hb : ∀ i, i < n -> BdQ (f i).q) (x : Bool) (hx : allN (fun i => okPt (f i)) n = x) :
 Calls Tryz.prog 94 #[.slice a n c, .func (.func 95) #[] #[]] w fun e w' => e = .returned (.bool (!x)) /\ Below w.heap.size w w' := by
 have HX : Hid (allN (fun i => okPt (f i)) n = x) := hx
 clear hx
 go_enter Tryz.func94, Tryz.ntmps94
 go_wp2_with fail
 refine (indexNo_any n f a c _ hs hn hb).mono ?_
 rintro e w1 ⟨r, rfl, hr, b1⟩
 have HR : Hid (IxP n f r) := hr
 clear hr
 cases x with
 | true =>
  have h0 : ¬ (0 <= r) := by
   rcases HR.out with h | h
   ·omega
   have := HX.out; rw [h.2] at this; cases this
  have HD : Hid (decide (0 <= r) = false) := decide_eq_false h0
  go_wp2
  go_ret
  exact ⟨by show Ending.returned (.bool (decide (0 <= r))) = _; rw [HD.out]; rfl, b1⟩
 | false =>
  have h0 : 0 <= r := by
   rcases HR.out with h | h
   ·have := HX.out; rw [h.2] at this; cases this
   exact h.1
  have HD : Hid (decide (0 <= r) = true) := decide_eq_true h0
  go_wp2
  go_ret
  exact ⟨rfl, b1⟩
theorem partsRight_any (D : VD) (g o : Nat) (w : World) (h : PdAt w g o D) (hb : BdD D) :
 Calls Tryz.prog 79 #[.pointer (some ⟨g, o, none⟩)] w fun e w' => e = .returned (.bool (decide (1 <= D.np /\ D.np <= 8) && allN (fun i => okPt (D.pt i)) D.np)) /\ Below w.heap.size w w' := by
 obtain ⟨hg, a1, c1, a2, c2, a3, c3, a4, c4, a5, c5, hr, r1, r2, r3, r4, r5⟩ := h.cells
 obtain ⟨x0, hx0⟩ : ∃ x, inB (D.np : Int) 1 8 = x := ⟨_, rfl⟩
 obtain ⟨x1, hx1⟩ : ∃ x, allN (fun i => okPt (D.pt i)) D.np = x := ⟨_, rfl⟩
 have hx2 : decide (1 <= D.np /\ D.np <= 8) = x0 := by rw [<- hx0]; unfold inB; exact decide_eq_decide.2 (by omega)
 rw [hx2]
 have HX : Hid (inB (D.np : Int) 1 8 = x0 /\ allN (fun i => okPt (D.pt i)) D.np = x1 /\ Rd w 0 (.list 8 D.np (fun i => trs (pT (D.pt i)))) (.slice a3 D.np c3) /\ BdD D) := ⟨hx0, hx1, r3, hb⟩
 rw [hx1]
 have hn2 : D.np <= 2000000 := hb.2.1
 have y10 : w.cell? ⟨g, o + 10, none⟩ = _ := hr 10 _ rfl
 clear hr r1 r2 r3 r4 r5 hx0 hx1 hx2 hb
 go_enter Tryz.func79, Tryz.ntmps79
 go_wp2_with fail
 refine (isCntT _ _ _ _ HX.out.1).mono ?_
 rintro e w1 ⟨rfl, hw⟩
 have hw := hw.symm
 subst hw
 cases x0
 case false =>
  go_wp2
  go_ret
  exact ⟨rfl, Below.refl _ _⟩
 go_wp2_with fail
 refine (containsNo_any D.np D.pt a3 c3 _ HX.out.2.2.1 hn2 HX.out.2.2.2.2.2.2.2.1 x1 HX.out.2.1).mono ?_
 rintro e w1 ⟨rfl, b1⟩
 clear y10
 cases x1
 case false =>
  go_wp2
  go_ret
  exact ⟨rfl, b1⟩
 go_wp2
 go_ret
 exact ⟨rfl, b1⟩
theorem waits_any (D : VD) (g o : Nat) (w : World) (h : PdAt w g o D) (hb : BdD D) :
 Calls Tryz.prog 81 #[.pointer (some ⟨g, o, none⟩)] w fun e w' => e = .returned (.int .i64 (cntF D.hs D.hs.length : Int)) /\ w' = w := by
 obtain ⟨hg, a1, c1, a2, c2, a3, c3, a4, c4, a5, c5, hr, r1, r2, r3, r4, r5⟩ := h.cells
 obtain ⟨n, hn⟩ : ∃ n, n = D.hs.length := ⟨_, rfl⟩
 have y11 : w.cell? ⟨g, o + 11, none⟩ = _ := hr 11 _ rfl
 rw [<- hn] at y11 r4 ⊢
 have HX : Hid (Rd w 0 (boolsT D.hs) (.slice a4 n c4) /\ n = D.hs.length) := ⟨r4, hn⟩
 have hn2 : n <= 2000000 := by rw [hn]; exact hb.2.2.1
 clear hr r1 r2 r3 r4 r5 hb hn
 go_enter Tryz.func81, Tryz.ntmps81
 go_wp2
 go_loopw [3, 11] (fun c i wr => ∃ k : Nat, k <= n /\ i = .int .i64 k /\ c = .int .i64 (cntF D.hs k : Int) /\ wr = w) (fun _ i _ => n - (intOf i).toNat)
 case atStart => exact ⟨0, Nat.zero_le _, rfl, rfl, rfl⟩
 case round =>
  obtain ⟨k, hk, rfl, rfl, hw⟩ := hrel
  subst hw
  have hc := cntF_le D.hs k
  obtain ⟨m, hm⟩ : ∃ m, m = cntF D.hs k := ⟨_, rfl⟩
  rw [<- hm] at hc ⊢
  have HM : Hid (m = cntF D.hs k) := hm
  clear hm
  by_cases hlt : k < n
  ·have hi : (k : Int) < (n : Int) := by omega
   obtain ⟨b, off, rfl, hb0, d0⟩ := HX.out.1.bit (k := k) (n := n) (by rw [<- HX.out.2]; exact hlt)
   obtain ⟨x, hx⟩ : ∃ x, D.hs.getD k false = x := ⟨_, rfl⟩
   rw [hx] at d0
   have HK : Hid (cntF D.hs (k + 1) = m + (if x then 0 else 1)) := by show cntF D.hs (k + 1) = _; simp only [cntF]; rw [hx, HM.out]
   clear hx
   cases x with
   | true =>
    go_wp2
    go_roundw
    case rel => exact ⟨k + 1, by omega, by go_num, by rw [HK.out]; rfl, trivial⟩
    case measure => simp [intOf]; omega
   | false =>
    go_wp2
    go_roundw
    case rel => exact ⟨k + 1, by omega, by go_num, by rw [HK.out]; go_num, trivial⟩
    case measure => simp [intOf]; omega
  have hi : ¬ (k : Int) < (n : Int) := by omega
  have e9 : k = n := by omega
  subst e9
  go_wp2
  go_ret
  exact ⟨by rw [HM.out]; rfl, rfl⟩
end Go.Proofs.YtlhjiiifmfgnoaaGreat
namespace Go.Proofs.YtlhjiiifmfgnoaaGreat
open Go.RowKit
theorem nog {ops : Array Oper} {o : Oper} {ρ : Operand -> Value} {j : Nat} {want : Bool} {d : Tmp} {x : Value} (hg : o.guard = some (j, want)) (hd : dstOf ops j = some d) (h : ρ (.tmp d) = x) (hx : (match (generalizing := false) x with | .bool b => b == want | _ => false) = false) : wantV ops o ρ = false := by
 unfold wantV
 rw [hg]
 simp only [hd, h]
 exact hx
end Go.Proofs.YtlhjiiifmfgnoaaGreat
