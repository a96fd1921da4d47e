/- Texts that the proof needs, joined: Cf1 P3 P4 P5 S3. -/
import Derived.Test.YtplaoagcedgdfaaGreatW16
import Derived.Test.YtplaoagcedgdfaaGreatW17
import Derived.Test.YtplaoagcedgdfaaGreatW7
import Derived.Test.YtplaoagcedgdfaaGreatW10
import Derived.Test.YtplaoagcedgdfaaGreatW8
import Derived.Deep.RegionHeld3
import Derived.BigQuiet
set_option linter.unusedVariables false
set_option linter.unusedSimpArgs false
set_option maxHeartbeats 8000000
set_option maxRecDepth 20000
namespace Go.Proofs.YtplaoagcedgdfaaGreat
open Go.RowKit Go.Proofs.Tryz
abbrev cfc (wt tr : Int) (a : Option Addr) (n c : Nat) : Array Value := #[.int .i64 wt, .int .i64 tr, .slice a n c]
def okC (wt tr : Int) (b : Bool) : Bool := (inB wt 1 100 && inB tr 0 5) && b
theorem specConfigOk_any (wt tr : Int) (a : Option Addr) (n cap : Nat) (f : Nat -> Ru) (w : World) (hs : SlU w a n f) (hl : n <= 2000000) (b : Bool) (hb : b = true ↔ OkRs f n) :
 Calls prog 34 #[.agg (cfc wt tr a n cap)] w fun e w' => e = .returned (.bool (okC wt tr b)) /\ Below w.heap.size w w' := by
 have bW := bel_alloc w (.cells (cfc wt tr a n cap) 35)
 have HS : Hid (SlU (w.alloc (.cells (cfc wt tr a n cap) 35)) a n f /\ Below w.heap.size w (w.alloc (.cells (cfc wt tr a n cap) 35))) := ⟨SlS.below hs bW, bW⟩
 have HB : Hid (b = true ↔ OkRs f n) := hb
 clear hs bW hb
 obtain ⟨c1, hc1⟩ : ∃ c1, c1 = inB wt 1 100 := ⟨_, rfl⟩
 obtain ⟨c2, hc2⟩ : ∃ c2, c2 = inB tr 0 5 := ⟨_, rfl⟩
 have HE : Hid (okC wt tr b = (c1 && c2 && b) /\ inB wt 1 100 = c1 /\ inB tr 0 5 = c2) := ⟨by unfold okC; rw [hc1, hc2], hc1.symm, hc2.symm⟩
 rw [HE.out.1]
 clear hc1 hc2
 go_enter func34, ntmps34
 go_wp2_with fail
 refine (l1In_any _ _ _ _ c1 HE.out.2.1).mono ?_
 rintro e w1 ⟨rfl, rfl⟩
 cases c1
 case false =>
  go_wp2
  go_ret
  exact ⟨rfl, HS.out.2⟩
 go_wp2_with fail
 refine (l1In_any _ _ _ _ c2 HE.out.2.2).mono ?_
 rintro e w1 ⟨rfl, rfl⟩
 cases c2
 case false =>
  go_wp2
  go_ret
  exact ⟨rfl, HS.out.2⟩
 go_wp2_with fail
 refine (specRulesOk_any a n cap f _ HS.out.1 hl b HB.out).mono ?_
 rintro e w2 ⟨rfl, b2⟩
 have B2 := bel_next HS.out.2 b2
 clear b2
 go_wp2
 go_ret
 exact ⟨rfl, B2⟩
theorem isWait_any (x : Int) (w : World) (b : Bool) (hb : inB x 1 100 = b) : Calls prog 142 #[.int .i64 x] w fun e w' => e = .returned (.bool b) /\ w' = w := by
 subst hb
 unfold inB
 by_cases h1 : 1 <= x
 ·by_cases h2 : x <= 100
  ·rw [decide_eq_true ⟨h1, h2⟩]
   go_enter func142, ntmps142
   go_wp2_with (go_at_call 199; go_in)
   go_ret
   exact ⟨rfl, rfl⟩
  rw [decide_eq_false (fun h => h2 h.2)]
  go_enter func142, ntmps142
  go_wp2_with (go_at_call 199; go_in)
  go_ret
  exact ⟨rfl, rfl⟩
 rw [decide_eq_false (fun h => h1 h.1)]
 go_enter func142, ntmps142
 go_wp2_with (go_at_call 199; go_in)
 go_ret
 exact ⟨rfl, rfl⟩
theorem isTries_any (x : Int) (w : World) (b : Bool) (hb : inB x 0 5 = b) : Calls prog 143 #[.int .i64 x] w fun e w' => e = .returned (.bool b) /\ w' = w := by
 subst hb
 unfold inB
 by_cases h1 : 0 <= x
 ·by_cases h2 : x <= 5
  ·rw [decide_eq_true ⟨h1, h2⟩]
   go_enter func143, ntmps143
   go_wp2
   go_ret
   exact ⟨rfl, rfl⟩
  rw [decide_eq_false (fun h => h2 h.2)]
  go_enter func143, ntmps143
  go_wp2
  go_ret
  exact ⟨rfl, rfl⟩
 rw [decide_eq_false (fun h => h1 h.1)]
 go_enter func143, ntmps143
 go_wp2
 go_ret
 exact ⟨rfl, rfl⟩
theorem implConfigOk_any (wt tr : Int) (a : Option Addr) (n cap : Nat) (f : Nat -> Ru) (w : World) (hs : SlU w a n f) (hl : n <= 2000000) (h64 : ∀ k, k < n -> -9223372036854775808 <= (f k).sh /\ (f k).sh <= 9223372036854775807) (b : Bool) (hb : b = true ↔ OkRs f n) :
 Calls prog 88 #[.agg (cfc wt tr a n cap)] w fun e w' => e = .returned (.bool (okC wt tr b)) /\ Below w.heap.size w w' := by
 have bW := bel_alloc w (.cells (cfc wt tr a n cap) 35)
 have HS : Hid (SlU (w.alloc (.cells (cfc wt tr a n cap) 35)) a n f /\ Below w.heap.size w (w.alloc (.cells (cfc wt tr a n cap) 35))) := ⟨SlS.below hs bW, bW⟩
 have HB : Hid ((b = true ↔ OkRs f n) /\ ∀ k, k < n -> -9223372036854775808 <= (f k).sh /\ (f k).sh <= 9223372036854775807) := ⟨hb, h64⟩
 clear hs bW hb h64
 obtain ⟨c1, hc1⟩ : ∃ c1, c1 = inB wt 1 100 := ⟨_, rfl⟩
 obtain ⟨c2, hc2⟩ : ∃ c2, c2 = inB tr 0 5 := ⟨_, rfl⟩
 have HE : Hid (okC wt tr b = (c1 && c2 && b) /\ inB wt 1 100 = c1 /\ inB tr 0 5 = c2) := ⟨by unfold okC; rw [hc1, hc2], hc1.symm, hc2.symm⟩
 rw [HE.out.1]
 clear hc1 hc2
 go_enter func88, ntmps88
 go_wp2_with fail
 refine (isWait_any _ _ c1 HE.out.2.1).mono ?_
 rintro e w1 ⟨rfl, rfl⟩
 cases c1
 case false =>
  go_wp2
  go_ret
  exact ⟨rfl, HS.out.2⟩
 go_wp2_with fail
 refine (isTries_any _ _ c2 HE.out.2.2).mono ?_
 rintro e w1 ⟨rfl, rfl⟩
 cases c2
 case false =>
  go_wp2
  go_ret
  exact ⟨rfl, HS.out.2⟩
 go_wp2_with fail
 refine (implRulesOk_any a n cap f _ HS.out.1 hl HB.out.2 b HB.out.1).mono ?_
 rintro e w2 ⟨rfl, b2⟩
 have B2 := bel_next HS.out.2 b2
 clear b2
 go_wp2
 go_ret
 exact ⟨rfl, B2⟩
theorem isCount_any (x most : Int) (w : World) (b : Bool) (hb : inB x 1 most = b) : Calls prog 199 #[.int .i64 x, .int .i64 most] w fun e w' => e = .returned (.bool b) /\ w' = w := by
 subst hb
 unfold inB
 by_cases h1 : 1 <= x
 ·by_cases h2 : x <= most
  ·rw [decide_eq_true (show 1 <= x /\ x <= most from ⟨h1, h2⟩)]
   go_enter func199, ntmps199
   go_wp2
   go_ret
   exact ⟨rfl, rfl⟩
  rw [decide_eq_false (show ¬ (1 <= x /\ x <= most) from fun h => h2 h.2)]
  go_enter func199, ntmps199
  go_wp2
  go_ret
  exact ⟨rfl, rfl⟩
 rw [decide_eq_false (show ¬ (1 <= x /\ x <= most) from fun h => h1 h.1)]
 go_enter func199, ntmps199
 go_wp2
 go_ret
 exact ⟨rfl, rfl⟩
theorem isFault_any (x : Int) (w : World) (b : Bool) (hb : inB x 1 255 = b) : Calls prog 265 #[.int .i64 x] w fun e w' => e = .returned (.bool b) /\ w' = w := by
 go_enter func265, ntmps265
 go_wp2_with fail
 refine (isCount_any _ _ _ _ hb).mono ?_
 rintro e wx ⟨rfl, rfl⟩
 go_wp2
 go_ret
 exact ⟨rfl, rfl⟩
def tB (kd fl pl nn : Int) (ws : List Int) (l1 l2 : Nat) : Bool :=
 if fl = 0 then
  if kd = 1 \/ kd = 2 then inB l2 1 2000 && decide (l2 % 8 = 0)
  else if kd = 3 \/ kd = 4 \/ kd = 23 then inB l1 1 125 && allW ws
  else if kd = 5 then inB pl 0 65535 && decide (l2 = 1)
  else if kd = 6 then inB pl 0 65535 && (decide (l1 = 1) && allW ws)
  else if kd = 22 then inB pl 0 65535 && (decide (l1 = 2) && allW ws)
  else if kd = 15 then inB pl 0 65535 && inB nn 1 1968
  else inB pl 0 65535 && inB nn 1 123
 else inB fl 1 255
def zrA (kd fl pl nn : Int) (l1 l2 : Nat) : Bool :=
 if fl = 0 then
  if kd = 1 \/ kd = 2 then zr4 false false false true pl nn l1 l2
  else if kd = 3 \/ kd = 4 \/ kd = 23 then zr4 false false true false pl nn l1 l2
  else if kd = 5 then zr4 true false false true pl nn l1 l2
  else if kd = 6 \/ kd = 22 then zr4 true false true false pl nn l1 l2
  else zr4 true true false false pl nn l1 l2
 else zr4 false false false false pl nn l1 l2
theorem allW_nil {ws : List Int} {l1 : Nat} (h1 : l1 = ws.length) (h : l1 = 0) : allW ws = true := by
 rw [h] at h1
 rw [List.eq_nil_of_length_eq_zero h1.symm]
 rfl
theorem okA_told (kd fl pl nn : Int) (ws : List Int) (l1 l2 : Nat) (h1 : l1 = ws.length) (hk : kindB kd = true) : okA kd fl pl nn ws l1 l2 = (tB kd fl pl nn ws l1 l2 && zrA kd fl pl nn l1 l2) := by
 have hnil := allW_nil h1
 clear h1
 have hk' := of_decide_eq_true hk
 rw [Bool.eq_iff_iff]
 by_cases hf : fl = 0
 ·subst hf
  obtain rfl | rfl | rfl | rfl | rfl | rfl | rfl | rfl | rfl | rfl := hk'
  all_goals (
   simp [okA, okAK, tB, zrA, kindB, inB, zr4]
   cases hW : allW ws
   ·rw [hW] at hnil; simp at hnil; simp <;> omega
   simp; omega)
 by_cases hp : 0 < fl
 ·simp [okA, tB, zrA, hk, inB, zr4, hf, hp]
  cases hW : allW ws
  ·rw [hW] at hnil; simp at hnil; simp <;> omega
  simp; omega
 have e1 : inB fl 0 255 = false := decide_eq_false (by omega)
 have e2 : inB fl 1 255 = false := decide_eq_false (by omega)
 simp [okA, tB, hk, e1, e2, hf]
theorem isTold_any (kd fl pl nn : Int) (a1 a2 : Option Addr) (l1 l2 c1 c2 : Nat) (ws : List Int) (w : World) (h1 : l1 = ws.length) (s1 : SlI w a1 ws) (hl1 : ws.length <= 2000000) (hl2 : l2 <= 20000000) (hk : kindB kd = true) (b : Bool) (hb : tB kd fl pl nn ws l1 l2 = b) :
 Calls prog 261 #[rp kd fl pl nn a1 a2 l1 l2 c1 c2] w fun e w' => e = .returned (.bool b) /\ Below w.heap.size w w' := by
 have H1 : Hid (l1 = ws.length) := h1
 have B0 := bel_alloc w (.cells #[.int .i64 kd, .int .i64 fl, .int .i64 pl, .int .i64 nn, .slice a1 l1 c1, .slice a2 l2 c2] 118)
 have S1 := hide (s1.below B0)
 clear h1 s1
 subst hb
 by_cases h0 : fl = 0
 rotate_left
 ·go_enter func261, ntmps261
  go_wp2_with (go_at_call 265; refine (isFault_any _ _ _ rfl).mono ?_; rintro e wx ⟨rfl, rfl⟩)
  go_ret
  exact ⟨by simp [tB, h0], B0⟩
 subst h0
 rcases of_decide_eq_true hk with rfl | rfl | rfl | rfl | rfl | rfl | rfl | rfl | rfl | rfl
 all_goals
  go_enter func261, ntmps261
  go_wp2_with (first
   | (go_at_call 199; refine (bo (isCount_any _ _ _ _ rfl)).mono ?_; rintro e wx ⟨rfl, ⟨hN, rfl⟩ | ⟨hN, rfl⟩⟩)
   | (go_at_call 161; refine (bo (isWord_any _ _ _ rfl)).mono ?_; rintro e wx ⟨rfl, ⟨hN, rfl⟩ | ⟨hN, rfl⟩⟩)
   | (go_at_call 225; refine (bo (areWords_any _ _ _ ws _ H1.out S1.out hl1 _ rfl)).mono ?_; rintro e wx ⟨rfl, ⟨hN, rfl⟩ | ⟨hN, rfl⟩⟩))
  all_goals
   go_ret
   refine ⟨?_, B0⟩
   first | (simp [tB, *]; done) | (simp [tB, *]; omega) | (simp [tB, *]; intro; omega) | (simp [tB, *]; rw [Bool.eq_iff_iff]; simp; omega)
theorem namedOf_g (kd fl pl nn : Int) (a1 a2 : Option Addr) (l1 l2 c1 c2 : Nat) (w : World) (v : Value) (h : ¬ fl = 0 /\ v = rp kd fl 0 0 none none 0 0 0 0 \/ fl = 0 /\ ((kd = 1 \/ kd = 2) /\ v = rp kd 0 0 0 none a2 0 l2 0 c2 \/ (kd = 3 \/ kd = 4 \/ kd = 23) /\ v = rp kd 0 0 0 a1 none l1 0 c1 0 \/ kd = 5 /\ v = rp kd 0 pl 0 none a2 0 l2 0 c2 \/ (kd = 6 \/ kd = 22) /\ v = rp kd 0 pl 0 a1 none l1 0 c1 0 \/ (kd = 15 \/ kd = 16) /\ v = rp kd 0 pl nn none none 0 0 0 0)) :
 Calls prog 262 #[rp kd fl pl nn a1 a2 l1 l2 c1 c2] w fun e w' => e = .returned v /\ Below w.heap.size w w' := by
 obtain ⟨W0, hW0⟩ : ∃ W0, W0 = (w.alloc (.cells #[.int .i64 kd, .int .i64 fl, .int .i64 pl, .int .i64 nn, .slice a1 l1 c1, .slice a2 l2 c2] 118)).alloc (.cells #[.int .i64 0, .int .i64 0, .int .i64 0, .int .i64 0, .slice none 0 0, .slice none 0 0] 118) := ⟨_, rfl⟩
 have HW : Hid (W0 = _) := hW0
 have B0 : Below w.heap.size w W0 := by rw [hW0]; exact bel_next (bel_alloc w _) (bel_alloc _ _)
 have X0 : Blk W0 w.heap.size 118 #[.int .i64 kd, .int .i64 fl, .int .i64 pl, .int .i64 nn, .slice a1 l1 c1, .slice a2 l2 c2] := by rw [hW0]; exact (Blk.new w _ _).below (bel_alloc _ _)
 have R0 : Blk W0 (w.heap.size + 1) 118 #[.int .i64 0, .int .i64 0, .int .i64 0, .int .i64 0, .slice none 0 0, .slice none 0 0] := by
  rw [hW0]; have := Blk.new (w.alloc (.cells #[.int .i64 kd, .int .i64 fl, .int .i64 pl, .int .i64 nn, .slice a1 l1 c1, .slice a2 l2 c2] 118)) #[.int .i64 0, .int .i64 0, .int .i64 0, .int .i64 0, .slice none 0 0, .slice none 0 0] 118; simpa using this
 obtain ⟨x0, x1, x2, x3, x4, x5⟩ := X0.six
 obtain ⟨y0, y1, y2, y3, y4, y5⟩ := R0.six
 have fy := R0.fro
 clear hW0 X0 R0
 rcases h with ⟨h0, hv⟩ | ⟨rfl, ⟨rfl | rfl, hv⟩ | ⟨rfl | rfl | rfl, hv⟩ | ⟨rfl, hv⟩ | ⟨rfl | rfl, hv⟩ | ⟨rfl | rfl, hv⟩⟩
 all_goals
  have HV : Hid (v = _) := hv
  clear hv
  go_enter func262, ntmps262
  go_upto_region 1 with fail
  rw [<- HW.out]
  go_wp2
  refine bodyPost_ret (v := v) (by rw [HV.out]; simp [results, results262, go_sem, y0, y1, y2, y3, y4, y5]) rfl ?_
  exact ⟨rfl, belp_set6 B0 (Nat.le_succ _)⟩
theorem sameResp_any (kd fl pl nn pl' nn' : Int) (a1 a2 a1' a2' : Option Addr) (l1 l2 c1 c2 l1' l2' c1' c2' : Nat) (ws : List Int) (bs : List Bool) (w : World) (h1 : l1 = ws.length) (h2 : l2 = bs.length) (s1 : SlI w a1 ws) (s2 : SlB w a2 bs) (hl1 : ws.length <= 2000000) (hl2 : bs.length <= 2000000) (hm1 : l1' <= 2000000) (hm2 : l2' <= 2000000)
 (s1' : l1' = l1 -> SlI w a1' ws) (s2' : l2' = l2 -> SlB w a2' bs) (b : Bool) (hb : (decide (pl' = pl) && (decide (nn' = nn) && (decide (l1' = l1) && decide (l2' = l2)))) = b) :
 Calls prog 238 #[rp kd fl pl' nn' a1' a2' l1' l2' c1' c2', rp kd fl pl nn a1 a2 l1 l2 c1 c2] w fun e w' => e = .returned (.bool b) /\ Below w.heap.size w w' := by
 obtain ⟨W0, hW0'⟩ : ∃ W0, W0 = (w.alloc (.cells #[.int .i64 kd, .int .i64 fl, .int .i64 pl', .int .i64 nn', .slice a1' l1' c1', .slice a2' l2' c2'] 118)).alloc (.cells #[.int .i64 kd, .int .i64 fl, .int .i64 pl, .int .i64 nn, .slice a1 l1 c1, .slice a2 l2 c2] 118) := ⟨_, rfl⟩
 have hW0 : Hid (W0 = _) := hW0'
 have B0 : Below w.heap.size w W0 := by rw [hW0']; exact bel_next (bel_alloc w _) (bel_alloc _ _)
 have X0 : Blk W0 w.heap.size 118 #[.int .i64 kd, .int .i64 fl, .int .i64 pl', .int .i64 nn', .slice a1' l1' c1', .slice a2' l2' c2'] := by rw [hW0']; exact (Blk.new w _ _).below (bel_alloc _ _)
 have Y0 : Blk W0 (w.heap.size + 1) 118 #[.int .i64 kd, .int .i64 fl, .int .i64 pl, .int .i64 nn, .slice a1 l1 c1, .slice a2 l2 c2] := by
  rw [hW0']; have := Blk.new (w.alloc (.cells #[.int .i64 kd, .int .i64 fl, .int .i64 pl', .int .i64 nn', .slice a1' l1' c1', .slice a2' l2' c2'] 118)) #[.int .i64 kd, .int .i64 fl, .int .i64 pl, .int .i64 nn, .slice a1 l1 c1, .slice a2 l2 c2] 118; simpa using this
 have HL : Hid (l1 = ws.length /\ l2 = bs.length) := ⟨h1, h2⟩
 have HS : Hid (SlI W0 a1 ws /\ SlB W0 a2 bs) := ⟨s1.below B0, s2.below B0⟩
 have HS' : Hid ((l1' = l1 -> SlI W0 a1' ws) /\ (l2' = l2 -> SlB W0 a2' bs)) := ⟨fun h => (s1' h).below B0, fun h => (s2' h).below B0⟩
 have HM : Hid (l1 <= 20000000 /\ l2 <= 20000000) := by show _ /\ _; omega
 obtain ⟨x0, x1, x2, x3, x4, x5⟩ := X0.six
 obtain ⟨y0, y1, y2, y3, y4, y5⟩ := Y0.six
 clear hW0' h1 h2 s1 s2 s1' s2'
 by_cases hA : pl' = pl
 ·by_cases hN : nn' = nn
  ·subst hA hN
   by_cases hw : l1' = l1
   ·by_cases hq : l2' = l2
    ·have e : b = true := by rw [<- hb]; simp [hw, hq]
     subst e
     clear hb
     subst hw hq
     have T1 : Hid (SlI W0 a1' ws /\ SlB W0 a2' bs) := ⟨HS'.out.1 rfl, HS'.out.2 rfl⟩
     go_enter func238, ntmps238
     go_upto_region 1 with fail
     rw [<- hW0.out]
     go_wp2_with fail
     refine (equal_int _ _ _ _ _ _ ws _ HL.out.1 HL.out.1 T1.out.1 HS.out.1 hl1).mono ?_
     rintro e w1 ⟨rfl, b'⟩
     have b1 := bel_next B0 b'
     obtain ⟨x0, x1, x2, x3, x4, x5⟩ := (X0.below b').six
     obtain ⟨y0, y1, y2, y3, y4, y5⟩ := (Y0.below b').six
     go_wp2_with fail
     refine (equal_bool _ _ _ _ _ _ bs _ HL.out.2 HL.out.2 (T1.out.2.below b') (HS.out.2.below b') hl2).mono ?_
     rintro e w2 ⟨rfl, b2'⟩
     go_wp2
     go_ret
     exact ⟨rfl, bel_next b1 b2'⟩
    have e : b = false := by rw [<- hb]; simp [hq]
    subst e
    have hqi : ¬ (l2' : Int) = (l2 : Int) := by omega
    clear hb
    subst hw
    have T1 : Hid (SlI W0 a1' ws) := HS'.out.1 rfl
    go_enter func238, ntmps238
    go_upto_region 1 with fail
    rw [<- hW0.out]
    go_wp2_with fail
    refine (equal_int _ _ _ _ _ _ ws _ HL.out.1 HL.out.1 T1.out HS.out.1 hl1).mono ?_
    rintro e w1 ⟨rfl, b'⟩
    have b1 := bel_next B0 b'
    obtain ⟨x0, x1, x2, x3, x4, x5⟩ := (X0.below b').six
    obtain ⟨y0, y1, y2, y3, y4, y5⟩ := (Y0.below b').six
    go_wp2_with fail
    refine (equal_bool_len _ _ _ _ _ _ _ hqi (by omega) HM.out.2).mono ?_
    rintro e w2 ⟨rfl, b2'⟩
    go_wp2
    go_ret
    exact ⟨rfl, bel_next b1 b2'⟩
   have e : b = false := by rw [<- hb]; simp [hw]
   subst e
   have hwi : ¬ (l1' : Int) = (l1 : Int) := by omega
   clear hb
   go_enter func238, ntmps238
   go_upto_region 1 with fail
   rw [<- hW0.out]
   go_wp2_with fail
   refine (equal_int_len _ _ _ _ _ _ _ hwi (by omega) HM.out.1).mono ?_
   rintro e w1 ⟨rfl, b'⟩
   go_wp2
   go_ret
   exact ⟨rfl, bel_next B0 b'⟩
  have e : b = false := by rw [<- hb]; simp [hN]
  subst e
  subst hA
  clear hb
  go_enter func238, ntmps238
  go_upto_region 1 with fail
  rw [<- hW0.out]
  go_wp2
  go_ret
  exact ⟨rfl, B0⟩
 have e : b = false := by rw [<- hb]; simp [hA]
 subst e
 clear hb
 go_enter func238, ntmps238
 go_upto_region 1 with fail
 rw [<- hW0.out]
 go_wp2
 go_ret
 exact ⟨rfl, B0⟩
abbrev ansE (c : Int) : Value := .iface 311 (.agg #[.int .i64 c])
theorem slI_none {w : World} {a : Option Addr} {ws : List Int} (h : ws.length = 0) : SlI w a ws := .inl (List.eq_nil_of_length_eq_zero h)
theorem slB_none {w : World} {a : Option Addr} {bs : List Bool} (h : bs.length = 0) : SlB w a bs := .inl (List.eq_nil_of_length_eq_zero h)
def chk (kd : Int) (b : Bool) : Value := bif b then .nilIface else bif kindB kd then ansE 3 else ansE 1
theorem checkAnswer_no (kd fl pl nn : Int) (a1 a2 : Option Addr) (l1 l2 c1 c2 : Nat) (w : World) (hk : kindB kd = false) :
 Calls prog 255 #[rp kd fl pl nn a1 a2 l1 l2 c1 c2] w fun e w' => e = .returned (ansE 1) /\ Below w.heap.size w w' := by
 have B0 := bel_alloc w (.cells #[.int .i64 kd, .int .i64 fl, .int .i64 pl, .int .i64 nn, .slice a1 l1 c1, .slice a2 l2 c2] 118)
 go_enter func255, ntmps255
 go_wp2_with (go_at_call 260; refine (isKind_any _ _ _ hk).mono ?_; rintro e wx ⟨rfl, rfl⟩)
 go_ret
 exact ⟨rfl, B0⟩
theorem checkAnswer_f (kd fl pl nn : Int) (a1 a2 : Option Addr) (l1 l2 c1 c2 : Nat) (ws : List Int) (w : World) (h1 : l1 = ws.length) (s1 : SlI w a1 ws) (hl1 : ws.length <= 2000000) (hl2 : l2 <= 20000000) (hk : kindB kd = true) (hT : tB kd fl pl nn ws l1 l2 = false) :
 Calls prog 255 #[rp kd fl pl nn a1 a2 l1 l2 c1 c2] w fun e w' => e = .returned (ansE 3) /\ Below w.heap.size w w' := by
 obtain ⟨B0, X0⟩ := bx w #[.int .i64 kd, .int .i64 fl, .int .i64 pl, .int .i64 nn, .slice a1 l1 c1, .slice a2 l2 c2] 118
 have HS := hide (s1.below B0)
 have HL : Hid (l1 = ws.length) := h1
 have HT : Hid (tB kd fl pl nn ws l1 l2 = false) := hT
 obtain ⟨W0, hW0⟩ : ∃ W0, W0 = w.alloc (.cells #[.int .i64 kd, .int .i64 fl, .int .i64 pl, .int .i64 nn, .slice a1 l1 c1, .slice a2 l2 c2] 118) := ⟨_, rfl⟩
 rw [<- hW0] at B0 X0 HS
 have HW : Hid (W0 = _) := hW0
 have d0 : Below W0.heap.size W0 W0.drew := (Below.refl _ _).drew
 obtain ⟨x0, x1, x2, x3, x4, x5⟩ := X0.six
 clear hW0 h1 s1 hT
 go_enter func255, ntmps255
 go_upto_region 1 with fail
 rw [<- HW.out]
 go_upto_region 3 with (go_at_call 260; refine (isKind_any _ _ _ hk).mono ?_; rintro e wx ⟨rfl, rfl⟩)
 go_region_with (first
  | (go_at_call 261; refine (isTold_any kd fl pl nn a1 a2 l1 l2 c1 c2 ws _ HL.out (by first | exact HS.out | exact HS.out.below d0) hl1 hl2 hk _ HT.out).mono ?_; rintro e wA ⟨rfl, bA⟩; have BA := bel_next (w0 := w) (by first | exact B0 | exact B0.drew) bA; have XA := Blk.below (by first | exact X0 | exact X0.below d0) bA; obtain ⟨xa0, xa1, xa2, xa3, xa4, xa5⟩ := XA.six; clear bA))
 all_goals (go_wp2; go_ret; exact ⟨rfl, BA⟩)
theorem checkAnswer_if (kd fl pl nn : Int) (a1 a2 : Option Addr) (l1 l2 c1 c2 : Nat) (ws : List Int) (bs : List Bool) (w : World) (h1 : l1 = ws.length) (h2 : l2 = bs.length) (s1 : SlI w a1 ws) (s2 : SlB w a2 bs) (hl1 : ws.length <= 2000000) (hl2 : bs.length <= 2000000) (hk : kindB kd = true) (hT : tB kd fl pl nn ws l1 l2 = true)
 (pl' nn' : Int) (a1' a2' : Option Addr) (l1' l2' c1' c2' : Nat) (hm1 : l1' <= 2000000) (hm2 : l2' <= 2000000) (s1' : l1' = l1 -> SlI w a1' ws) (s2' : l2' = l2 -> SlB w a2' bs)
 (hnm : ∀ u, Calls prog 262 #[rp kd fl pl nn a1 a2 l1 l2 c1 c2] u fun e u' => e = .returned (rp kd fl pl' nn' a1' a2' l1' l2' c1' c2') /\ Below u.heap.size u u')
 (b : Bool) (hb : (decide (pl' = pl) && (decide (nn' = nn) && (decide (l1' = l1) && decide (l2' = l2)))) = b) :
 Calls prog 255 #[rp kd fl pl nn a1 a2 l1 l2 c1 c2] w fun e w' => e = .returned (bif b then .nilIface else ansE 3) /\ Below w.heap.size w w' := by
 obtain ⟨B0, X0⟩ := bx w #[.int .i64 kd, .int .i64 fl, .int .i64 pl, .int .i64 nn, .slice a1 l1 c1, .slice a2 l2 c2] 118
 have HS : Hid (SlI w a1 ws /\ SlB w a2 bs) := ⟨s1, s2⟩
 have HS' : Hid ((l1' = l1 -> SlI w a1' ws) /\ (l2' = l2 -> SlB w a2' bs)) := ⟨s1', s2'⟩
 have HL : Hid (l1 = ws.length /\ l2 = bs.length) := ⟨h1, h2⟩
 have HT : Hid (tB kd fl pl nn ws l1 l2 = true) := hT
 have HNM : Hid (∀ u, Calls prog 262 #[rp kd fl pl nn a1 a2 l1 l2 c1 c2] u fun e u' => e = .returned (rp kd fl pl' nn' a1' a2' l1' l2' c1' c2') /\ Below u.heap.size u u') := hnm
 have HB : Hid ((decide (pl' = pl) && (decide (nn' = nn) && (decide (l1' = l1) && decide (l2' = l2)))) = b) := hb
 obtain ⟨W0, hW0⟩ : ∃ W0, W0 = w.alloc (.cells #[.int .i64 kd, .int .i64 fl, .int .i64 pl, .int .i64 nn, .slice a1 l1 c1, .slice a2 l2 c2] 118) := ⟨_, rfl⟩
 rw [<- hW0] at B0 X0
 have HW : Hid (W0 = _) := hW0
 have d0 : Below W0.heap.size W0 W0.drew := (Below.refl _ _).drew
 have B0d : Below w.heap.size w W0.drew := B0.drew
 obtain ⟨x0, x1, x2, x3, x4, x5⟩ := X0.six
 clear hW0 h1 h2 s1 s2 s1' s2' hT hnm hb
 go_enter func255, ntmps255
 go_upto_region 1 with fail
 rw [<- HW.out]
 go_upto_region 3 with (go_at_call 260; refine (isKind_any _ _ _ hk).mono ?_; rintro e wx ⟨rfl, rfl⟩)
 cases b
 all_goals (
  go_region_held3 (fun w' => w'.cell? ⟨w.heap.size, 0, none⟩ = some (.int .i64 kd) /\ w'.cell? ⟨w.heap.size, 1, none⟩ = some (.int .i64 fl) /\ w'.cell? ⟨w.heap.size, 2, none⟩ = some (.int .i64 pl) /\ w'.cell? ⟨w.heap.size, 3, none⟩ = some (.int .i64 nn) /\ w'.cell? ⟨w.heap.size, 4, none⟩ = some (.slice a1 l1 c1) /\ w'.cell? ⟨w.heap.size, 5, none⟩ = some (.slice a2 l2 c2)) (go_keep)
   (first
    | (go_at_call 261; refine (isTold_any kd fl pl nn a1 a2 l1 l2 c1 c2 ws _ HL.out.1 (HS.out.1.below (by first | exact B0 | exact B0d)) hl1 (by have := HL.out; omega) hk _ HT.out).mono ?_; rintro e wA ⟨rfl, bA⟩; have BA := bel_next (w0 := w) (by first | exact B0 | exact B0d) bA; have XA := Blk.below (by first | exact X0 | exact X0.below d0) bA; obtain ⟨xa0, xa1, xa2, xa3, xa4, xa5⟩ := XA.six; clear bA)
    | (go_at_call 262; refine (HNM.out _).mono ?_; rintro e wB ⟨rfl, bB⟩; have BB := bel_next BA bB; have XB := XA.below bB; obtain ⟨xb0, xb1, xb2, xb3, xb4, xb5⟩ := XB.six; clear bB)
    | (go_at_call 238; refine (sameResp_any kd fl pl nn pl' nn' a1 a2 a1' a2' l1 l2 c1 c2 l1' l2' c1' c2' ws bs _ HL.out.1 HL.out.2 (HS.out.1.below BB) (HS.out.2.below BB) hl1 hl2 hm1 hm2 (fun h => (HS'.out.1 h).below BB) (fun h => (HS'.out.2 h).below BB) _ HB.out).mono ?_; rintro e wC ⟨rfl, bC⟩; have BC := bel_next BB bC; obtain ⟨xc0, xc1, xc2, xc3, xc4, xc5⟩ := (XB.below bC).six; clear bC))
  all_goals (go_wp2; go_ret; exact ⟨rfl, BC⟩))
theorem checkAnswer_q (kd fl pl nn : Int) (a1 a2 : Option Addr) (l1 l2 c1 c2 : Nat) (ws : List Int) (bs : List Bool) (w : World) (h1 : l1 = ws.length) (h2 : l2 = bs.length) (s1 : SlI w a1 ws) (s2 : SlB w a2 bs) (hl1 : ws.length <= 2000000) (hl2 : bs.length <= 2000000) :
 Calls prog 255 #[rp kd fl pl nn a1 a2 l1 l2 c1 c2] w fun e w' => e = .returned (chk kd (okA kd fl pl nn ws l1 l2)) /\ Below w.heap.size w w' := by
 cases hk : kindB kd
 ·have e : chk kd (okA kd fl pl nn ws l1 l2) = ansE 1 := by simp [chk, okA, hk]
  rw [e]
  exact checkAnswer_no kd fl pl nn a1 a2 l1 l2 c1 c2 w hk
 have e : chk kd (okA kd fl pl nn ws l1 l2) = (bif okA kd fl pl nn ws l1 l2 then .nilIface else ansE 3) := by simp [chk, hk]
 rw [e, okA_told kd fl pl nn ws l1 l2 h1 hk]
 clear e
 cases hT : tB kd fl pl nn ws l1 l2
 ·exact checkAnswer_f kd fl pl nn a1 a2 l1 l2 c1 c2 ws w h1 s1 hl1 (by omega) hk hT
 rw [Bool.true_and]
 by_cases h0 : fl = 0
 ·subst h0
  obtain rfl | rfl | rfl | rfl | rfl | rfl | rfl | rfl | rfl | rfl := of_decide_eq_true hk
  ·exact checkAnswer_if 1 0 pl nn a1 a2 l1 l2 c1 c2 ws bs w h1 h2 s1 s2 hl1 hl2 hk hT 0 0 none a2 0 l2 0 c2 (by omega) (by omega) (fun h => slI_none (h1.symm.trans h.symm)) (fun h => s2) (fun u => namedOf_g 1 0 pl nn a1 a2 l1 l2 c1 c2 u _ (by simp)) _ (by simp [zrA, zr4, eq_comm])
  ·exact checkAnswer_if 2 0 pl nn a1 a2 l1 l2 c1 c2 ws bs w h1 h2 s1 s2 hl1 hl2 hk hT 0 0 none a2 0 l2 0 c2 (by omega) (by omega) (fun h => slI_none (h1.symm.trans h.symm)) (fun h => s2) (fun u => namedOf_g 2 0 pl nn a1 a2 l1 l2 c1 c2 u _ (by simp)) _ (by simp [zrA, zr4, eq_comm])
  ·exact checkAnswer_if 3 0 pl nn a1 a2 l1 l2 c1 c2 ws bs w h1 h2 s1 s2 hl1 hl2 hk hT 0 0 a1 none l1 0 c1 0 (by omega) (by omega) (fun h => s1) (fun h => slB_none (h2.symm.trans h.symm)) (fun u => namedOf_g 3 0 pl nn a1 a2 l1 l2 c1 c2 u _ (by simp)) _ (by simp [zrA, zr4, eq_comm])
  ·exact checkAnswer_if 4 0 pl nn a1 a2 l1 l2 c1 c2 ws bs w h1 h2 s1 s2 hl1 hl2 hk hT 0 0 a1 none l1 0 c1 0 (by omega) (by omega) (fun h => s1) (fun h => slB_none (h2.symm.trans h.symm)) (fun u => namedOf_g 4 0 pl nn a1 a2 l1 l2 c1 c2 u _ (by simp)) _ (by simp [zrA, zr4, eq_comm])
  ·exact checkAnswer_if 5 0 pl nn a1 a2 l1 l2 c1 c2 ws bs w h1 h2 s1 s2 hl1 hl2 hk hT pl 0 none a2 0 l2 0 c2 (by omega) (by omega) (fun h => slI_none (h1.symm.trans h.symm)) (fun h => s2) (fun u => namedOf_g 5 0 pl nn a1 a2 l1 l2 c1 c2 u _ (by simp)) _ (by simp [zrA, zr4, eq_comm])
  ·exact checkAnswer_if 6 0 pl nn a1 a2 l1 l2 c1 c2 ws bs w h1 h2 s1 s2 hl1 hl2 hk hT pl 0 a1 none l1 0 c1 0 (by omega) (by omega) (fun h => s1) (fun h => slB_none (h2.symm.trans h.symm)) (fun u => namedOf_g 6 0 pl nn a1 a2 l1 l2 c1 c2 u _ (by simp)) _ (by simp [zrA, zr4, eq_comm])
  ·exact checkAnswer_if 15 0 pl nn a1 a2 l1 l2 c1 c2 ws bs w h1 h2 s1 s2 hl1 hl2 hk hT pl nn none none 0 0 0 0 (by omega) (by omega) (fun h => slI_none (h1.symm.trans h.symm)) (fun h => slB_none (h2.symm.trans h.symm)) (fun u => namedOf_g 15 0 pl nn a1 a2 l1 l2 c1 c2 u _ (by simp)) _ (by simp [zrA, zr4, eq_comm])
  ·exact checkAnswer_if 16 0 pl nn a1 a2 l1 l2 c1 c2 ws bs w h1 h2 s1 s2 hl1 hl2 hk hT pl nn none none 0 0 0 0 (by omega) (by omega) (fun h => slI_none (h1.symm.trans h.symm)) (fun h => slB_none (h2.symm.trans h.symm)) (fun u => namedOf_g 16 0 pl nn a1 a2 l1 l2 c1 c2 u _ (by simp)) _ (by simp [zrA, zr4, eq_comm])
  ·exact checkAnswer_if 22 0 pl nn a1 a2 l1 l2 c1 c2 ws bs w h1 h2 s1 s2 hl1 hl2 hk hT pl 0 a1 none l1 0 c1 0 (by omega) (by omega) (fun h => s1) (fun h => slB_none (h2.symm.trans h.symm)) (fun u => namedOf_g 22 0 pl nn a1 a2 l1 l2 c1 c2 u _ (by simp)) _ (by simp [zrA, zr4, eq_comm])
  exact checkAnswer_if 23 0 pl nn a1 a2 l1 l2 c1 c2 ws bs w h1 h2 s1 s2 hl1 hl2 hk hT 0 0 a1 none l1 0 c1 0 (by omega) (by omega) (fun h => s1) (fun h => slB_none (h2.symm.trans h.symm)) (fun u => namedOf_g 23 0 pl nn a1 a2 l1 l2 c1 c2 u _ (by simp)) _ (by simp [zrA, zr4, eq_comm])
 exact checkAnswer_if kd fl pl nn a1 a2 l1 l2 c1 c2 ws bs w h1 h2 s1 s2 hl1 hl2 hk hT 0 0 none none 0 0 0 0 (by omega) (by omega) (fun h => slI_none (h1.symm.trans h.symm)) (fun h => slB_none (h2.symm.trans h.symm)) (fun u => namedOf_g kd fl pl nn a1 a2 l1 l2 c1 c2 u _ (.inl ⟨h0, rfl⟩)) _ (by simp [zrA, zr4, eq_comm, h0])
theorem eql_if (T : TypeId) (v : Value) (w : World) : (binOp .eql 288 (.iface T v) .nilIface).run prog w = .ok (.bool false) w := by kernel_rfl
theorem eql_nil (w : World) : (binOp .eql 288 .nilIface .nilIface).run prog w = .ok (.bool true) w := by kernel_rfl
theorem implRespOk_q (kd fl pl nn : Int) (a1 a2 : Option Addr) (l1 l2 c1 c2 : Nat) (ws : List Int) (bs : List Bool) (w : World) (h1 : l1 = ws.length) (h2 : l2 = bs.length) (s1 : SlI w a1 ws) (s2 : SlB w a2 bs) (hl1 : ws.length <= 2000000) (hl2 : bs.length <= 2000000) :
 Calls prog 247 #[rp kd fl pl nn a1 a2 l1 l2 c1 c2] w fun e w' => e = .returned (.bool (okA kd fl pl nn ws l1 l2)) /\ Below w.heap.size w w' := by
 obtain ⟨B0, X0⟩ := bx w #[.int .i64 kd, .int .i64 fl, .int .i64 pl, .int .i64 nn, .slice a1 l1 c1, .slice a2 l2 c2] 118
 have HS : Hid (SlI w a1 ws /\ SlB w a2 bs) := ⟨s1, s2⟩
 have HL : Hid (l1 = ws.length /\ l2 = bs.length) := ⟨h1, h2⟩
 obtain ⟨x0, x1, x2, x3, x4, x5⟩ := X0.six
 clear h1 h2 s1 s2 X0
 have q1 := eql_if
 have q2 := eql_nil
 go_enter func247, ntmps247
 go_wp2_with fail
 refine (checkAnswer_q kd fl pl nn a1 a2 l1 l2 c1 c2 ws bs _ HL.out.1 HL.out.2 (HS.out.1.below B0) (HS.out.2.below B0) hl1 hl2).mono ?_
 rintro e w1 ⟨rfl, b'⟩
 have B1 := bel_next B0 b'
 clear b' B0
 cases hok : okA kd fl pl nn ws l1 l2
 ·cases hk : kindB kd
  ·simp only [chk, hk, cond_false, cond_true]
   go_wp2
   go_ret
   exact ⟨by rw [hok]; rfl, B1⟩
  simp only [chk, hk, cond_false, cond_true]
  go_wp2
  go_ret
  exact ⟨by rw [hok]; rfl, B1⟩
 simp only [chk, cond_true]
 go_wp2
 go_ret
 exact ⟨by rw [hok]; rfl, B1⟩
theorem slB_drop {w : World} {b off : Nat} {bs : List Bool} (N : Nat) (hlt : N < bs.length) (h : SlB w (some ⟨b, off, none⟩) bs) : SlB w (some ⟨b, off + N, none⟩) (bs.drop N) := by
 rcases h with h | ⟨b', off', e, hb, hc⟩
 ·subst h; simp at hlt
 simp at e
 obtain ⟨rfl, rfl⟩ := e
 refine .inr ⟨b, off + N, rfl, hb, fun i hi => ?_⟩
 rw [List.length_drop] at hi
 have := hc (N + i) (by omega)
 rw [show off + N + i = off + (N + i) by omega, this]
 simp [List.getD_eq_getElem?_getD, List.getElem?_drop]
theorem bytesForM (N : Nat) (M : Int) (w : World) (hn : (N : Int) <= 9223372036854775807) (hM : M = ((N : Int) + 7) / 8) : Calls prog 257 #[.int .i64 (N : Int)] w fun e w' => e = .returned (.int .i64 M) /\ w' = w := by
 rw [hM]
 exact bytesFor_any (N : Int) w (by omega) hn
theorem nfB_drop (bs : List Bool) (N : Nat) : nfB (bs.drop N) 0 = nfB bs N := by
 unfold nfB
 rw [decide_eq_decide]
 constructor
 ·intro h k hk hn
  have := h (k - N) (by rw [List.length_drop]; omega) (Nat.zero_le _)
  simpa [List.getD_eq_getElem?_getD, List.getElem?_drop, show N + (k - N) = k by omega] using this
 intro h k hk _
 rw [List.length_drop] at hk
 have := h (N + k) (by omega) (by omega)
 simpa [List.getD_eq_getElem?_getD, List.getElem?_drop] using this
theorem anB_w {kd pl nn wa ap an : Int} {qs ws : List Int} {qb bs : List Bool} {m1 m2 l1 l2 : Nat} (hk : kd = 5 \/ kd = 6 \/ kd = 22) (hL : m1 = qs.length /\ m2 = qb.length /\ l1 = ws.length /\ l2 = bs.length) (hq : okR kd pl nn wa qs m1 m2 = true) (ha : okA kd 0 ap an ws l1 l2 = true) : anB kd pl nn m1 m2 qs qb ap an l1 l2 ws bs = (decide (ap = pl) && (decide (bs = qb) && decide (ws = qs))) := by
 obtain rfl | rfl | rfl := hk
 ·have h : ws = qs := by
   simp [okR, okK, zrB, inB, fitB] at hq
   simp [okA, okAK, kindB, inB, zr4] at ha
   rw [List.eq_nil_of_length_eq_zero (show ws.length = 0 by omega), List.eq_nil_of_length_eq_zero (show qs.length = 0 by omega)]
  simp [anB, h]
 all_goals
  have h : bs = qb := by
   simp [okR, okK, zrB, inB, fitB] at hq
   simp [okA, okAK, kindB, inB, zr4] at ha
   rw [List.eq_nil_of_length_eq_zero (show bs.length = 0 by omega), List.eq_nil_of_length_eq_zero (show qb.length = 0 by omega)]
  simp [anB, h]
theorem answers_q (kd : Int) (pl nn wa : Int) (q1 q2 : Option Addr) (m1 m2 k1 k2 : Nat) (qs : List Int) (qb : List Bool) (ap an : Int) (a1 a2 : Option Addr) (l1 l2 c1 c2 : Nat) (ws : List Int) (bs : List Bool) (w : World) (g1 : m1 = qs.length) (g2 : m2 = qb.length) (t1 : SlI w q1 qs) (t2 : SlB w q2 qb) (hm1 : qs.length <= 2000000) (hm2 : qb.length <= 2000000) (h1 : l1 = ws.length) (h2 : l2 = bs.length) (s1 : SlI w a1 ws) (s2 : SlB w a2 bs) (hl1 : ws.length <= 2000000) (hl2 : bs.length <= 2000000) (hcap : l2 <= c2) (hq : okR kd pl nn wa qs m1 m2 = true) (ha : okA kd 0 ap an ws l1 l2 = true) :
 Calls prog 251 #[rq kd pl nn wa q1 q2 m1 m2 k1 k2, rp kd 0 ap an a1 a2 l1 l2 c1 c2] w fun e w' => e = .returned (.bool (anB kd pl nn m1 m2 qs qb ap an l1 l2 ws bs)) /\ Below w.heap.size w w' := by
 obtain ⟨W0, hW0⟩ : ∃ W0, W0 = (w.alloc (.cells #[.int .i64 kd, .int .i64 pl, .int .i64 nn, .slice q1 m1 k1, .slice q2 m2 k2, .int .i64 wa] 84)).alloc (.cells #[.int .i64 kd, .int .i64 0, .int .i64 ap, .int .i64 an, .slice a1 l1 c1, .slice a2 l2 c2] 118) := ⟨_, rfl⟩
 have HW : Hid (W0 = _) := hW0
 have B0 : Below w.heap.size w W0 := by rw [hW0]; exact bel_next (bel_alloc w _) (bel_alloc _ _)
 have X0 : Blk W0 w.heap.size 84 #[.int .i64 kd, .int .i64 pl, .int .i64 nn, .slice q1 m1 k1, .slice q2 m2 k2, .int .i64 wa] := by rw [hW0]; exact (Blk.new w _ _).below (bel_alloc _ _)
 have Y0 : Blk W0 (w.heap.size + 1) 118 #[.int .i64 kd, .int .i64 0, .int .i64 ap, .int .i64 an, .slice a1 l1 c1, .slice a2 l2 c2] := by
  rw [hW0]; have := Blk.new (w.alloc (.cells #[.int .i64 kd, .int .i64 pl, .int .i64 nn, .slice q1 m1 k1, .slice q2 m2 k2, .int .i64 wa] 84)) #[.int .i64 kd, .int .i64 0, .int .i64 ap, .int .i64 an, .slice a1 l1 c1, .slice a2 l2 c2] 118; simpa using this
 have HL := hid4 g1 g2 h1 h2
 have HS := hid4 (t1.below B0) (t2.below B0) (s1.below B0) (s2.below B0)
 obtain ⟨x0, x1, x2, x3, x4, x5⟩ := X0.six
 obtain ⟨y0, y1, y2, y3, y4, y5⟩ := Y0.six
 clear hW0 g1 g2 h1 h2 t1 t2 s1 s2
 have hK := okR_kind hq
 by_cases h12 : kd = 1 \/ kd = 2
 ·have hN : 1 <= nn /\ nn <= 2000 := by obtain rfl | rfl := h12 <;> simp [okR, okK, zrB, inB, fitB] at hq <;> omega
  have hB : 1 <= l2 /\ l2 <= 2000 := by obtain rfl | rfl := h12 <;> simp [okA, okAK, kindB, inB, zr4] at ha <;> omega
  obtain ⟨N, rfl⟩ : ∃ N : Nat, nn = (N : Int) := ⟨nn.toNat, by omega⟩
  rw [show anB kd pl (N : Int) m1 m2 qs qb ap an l1 l2 ws bs = (nfB bs N && decide (l2 = (N + 7) / 8 * 8)) by simp [anB, h12]]
  obtain ⟨bb, hbb⟩ : ∃ b, (nfB bs N && decide (l2 = (N + 7) / 8 * 8)) = b := ⟨_, rfl⟩
  rw [hbb]
  have HBB : Hid (_ = bb) := hbb
  clear hq ha hK hbb
  obtain rfl | rfl := h12
  all_goals
   have d0 : Below W0.heap.size W0 W0.drew := (Below.refl _ _).drew
   obtain ⟨M, hM⟩ : ∃ M : Int, M = ((N : Int) + 7) / 8 := ⟨_, rfl⟩
   have HM : Hid (M = ((N : Int) + 7) / 8 /\ 0 <= M /\ M <= 1000) := ⟨hM, by omega, by omega⟩
   have hw8 : IntKind.i64.wrap (8 * M) = 8 * M := wraps_i64' _ (by omega) (by omega)
   obtain ⟨bk, off, ea, hbk, hc⟩ := cell_atB (k := 0) HS.out.2.2.2 (by have := HL.out; omega)
   subst ea
   clear hc
   by_cases he : (l2 : Int) = 8 * M
   ·have hle : N <= l2 := by omega
    have heb : ((l2 : Int) == 8 * M) = true := by simp [he]
    have heb2 : decide ((l2 : Int) = 8 * M) = true := by simp [he]
    have HEQ : Hid (l2 = (N + 7) / 8 * 8) := by show l2 = _; omega
    have hci : (l2 : Int) <= (c2 : Int) := by omega
    have hn0 : (0 : Int) <= (N : Int) := by omega
    have hnl2 : (N : Int) <= (l2 : Int) := by omega
    clear hM he
    by_cases hnl : N = l2
    ·have hz : nfB bs N = true := decide_eq_true (fun k h1 h2 => by have := HL.out; omega)
     have HE : Hid (bb = true) := by show _ = true; rw [<- HBB.out]; simp [hz, HEQ.out]
     have HZ : Hid (nfB [] 0 = true) := rfl
     clear hz
     have hnl' := hnl.symm
     clear hnl HEQ
     subst hnl'
     by_cases hcl : c2 = l2
     ·subst hcl
      go_enter func251, ntmps251
      go_upto_region 1 with fail
      rw [<- HW.out]
      go_upto_region 4 with fail
      go_region_held3 (fun w' => w'.cell? ⟨w.heap.size, 2, none⟩ = some (.int .i64 (c2 : Int)) /\ w'.cell? ⟨w.heap.size + 1, 5, none⟩ = some (.slice (some ⟨bk, off, none⟩) c2 c2)) (go_keep)
       (first
        | (go_at_call 257; refine (bytesFor_any (c2 : Int) _ (by omega) (by omega)).mono ?_; rintro e wx ⟨he, rfl⟩; rw [<- HM.out.1] at he; subst he)
        | (go_at_call 258; refine (containsB_any _ 0 _ [] _ rfl (.inl rfl) (by simp) _ HZ.out).mono ?_; rintro e wC ⟨rfl, bC⟩; have BC := bel_next (w0 := w) (by first | exact B0 | exact B0.drew) bC; have XC := (Blk.below (by first | exact X0 | exact X0.below d0) bC).six; have YC := (Blk.below (by first | exact Y0 | exact Y0.below d0) bC).six; obtain ⟨xc0, xc1, xc2, xc3, xc4, xc5⟩ := XC; obtain ⟨yc0, yc1, yc2, yc3, yc4, yc5⟩ := YC; clear bC))
      all_goals (go_wp2; go_ret; exact ⟨by rw [HE.out]; rfl, BC⟩)
     skip
     go_enter func251, ntmps251
     go_upto_region 1 with fail
     rw [<- HW.out]
     go_upto_region 4 with fail
     go_region_held3 (fun w' => w'.cell? ⟨w.heap.size, 2, none⟩ = some (.int .i64 (l2 : Int)) /\ w'.cell? ⟨w.heap.size + 1, 5, none⟩ = some (.slice (some ⟨bk, off, none⟩) l2 c2)) (go_keep)
      (first
       | (go_at_call 257; refine (bytesFor_any (l2 : Int) _ (by omega) (by omega)).mono ?_; rintro e wx ⟨he, rfl⟩; rw [<- HM.out.1] at he; subst he)
       | (go_at_call 258; refine (containsB_any _ 0 _ [] _ rfl (.inl rfl) (by simp) _ HZ.out).mono ?_; rintro e wC ⟨rfl, bC⟩; have BC := bel_next (w0 := w) (by first | exact B0 | exact B0.drew) bC; have XC := (Blk.below (by first | exact X0 | exact X0.below d0) bC).six; have YC := (Blk.below (by first | exact Y0 | exact Y0.below d0) bC).six; obtain ⟨xc0, xc1, xc2, xc3, xc4, xc5⟩ := XC; obtain ⟨yc0, yc1, yc2, yc3, yc4, yc5⟩ := YC; clear bC))
     all_goals (go_wp2; go_ret; exact ⟨by rw [HE.out]; rfl, BC⟩)
    have hlt : N < l2 := by omega
    have HSl : Hid (SlB W0 (some ⟨bk, off + N, none⟩) (bs.drop N)) := slB_drop N (by have := HL.out; omega) HS.out.2.2.2
    have HLd : Hid (l2 - N = (bs.drop N).length) := by show _ = _; rw [List.length_drop]; have := HL.out; omega
    have hnz : ¬ l2 - N = 0 := by omega
    have hcn : ¬ c2 = N := by omega
    cases hz : nfB bs N
    ·have HE : Hid (bb = false) := by show _ = false; rw [<- HBB.out]; simp [hz, HEQ.out]
     have HZ : Hid (nfB (bs.drop N) 0 = false) := by show _ = false; rw [nfB_drop]; exact hz
     clear hz
     go_enter func251, ntmps251
     go_upto_region 1 with fail
     rw [<- HW.out]
     go_upto_region 4 with fail
     go_region_held3 (fun w' => w'.cell? ⟨w.heap.size, 2, none⟩ = some (.int .i64 (N : Int)) /\ w'.cell? ⟨w.heap.size + 1, 5, none⟩ = some (.slice (some ⟨bk, off, none⟩) l2 c2)) (go_keep)
      (first
       | (go_at_call 257; refine (bytesFor_any (N : Int) _ (by omega) (by omega)).mono ?_; rintro e wx ⟨he, rfl⟩; rw [<- HM.out.1] at he; subst he)
       | (go_at_call 258; refine (containsB_any _ (l2 - N) _ (bs.drop N) _ HLd.out (by first | exact HSl.out | exact HSl.out.below d0) (by rw [List.length_drop]; omega) _ HZ.out).mono ?_; rintro e wC ⟨rfl, bC⟩; have BC := bel_next (w0 := w) (by first | exact B0 | exact B0.drew) bC; have XC := (Blk.below (by first | exact X0 | exact X0.below d0) bC).six; have YC := (Blk.below (by first | exact Y0 | exact Y0.below d0) bC).six; obtain ⟨xc0, xc1, xc2, xc3, xc4, xc5⟩ := XC; obtain ⟨yc0, yc1, yc2, yc3, yc4, yc5⟩ := YC; clear bC))
     all_goals (go_wp2; go_ret; exact ⟨by rw [HE.out]; rfl, BC⟩)
    have HE : Hid (bb = true) := by show _ = true; rw [<- HBB.out]; simp [hz, HEQ.out]
    have HZ : Hid (nfB (bs.drop N) 0 = true) := by show _ = true; rw [nfB_drop]; exact hz
    clear hz
    go_enter func251, ntmps251
    go_upto_region 1 with fail
    rw [<- HW.out]
    go_upto_region 4 with fail
    go_region_held3 (fun w' => w'.cell? ⟨w.heap.size, 2, none⟩ = some (.int .i64 (N : Int)) /\ w'.cell? ⟨w.heap.size + 1, 5, none⟩ = some (.slice (some ⟨bk, off, none⟩) l2 c2)) (go_keep)
     (first
      | (go_at_call 257; refine (bytesFor_any (N : Int) _ (by omega) (by omega)).mono ?_; rintro e wx ⟨he, rfl⟩; rw [<- HM.out.1] at he; subst he)
      | (go_at_call 258; refine (containsB_any _ (l2 - N) _ (bs.drop N) _ HLd.out (by first | exact HSl.out | exact HSl.out.below d0) (by rw [List.length_drop]; omega) _ HZ.out).mono ?_; rintro e wC ⟨rfl, bC⟩; have BC := bel_next (w0 := w) (by first | exact B0 | exact B0.drew) bC; have XC := (Blk.below (by first | exact X0 | exact X0.below d0) bC).six; have YC := (Blk.below (by first | exact Y0 | exact Y0.below d0) bC).six; obtain ⟨xc0, xc1, xc2, xc3, xc4, xc5⟩ := XC; obtain ⟨yc0, yc1, yc2, yc3, yc4, yc5⟩ := YC; clear bC))
    all_goals (go_wp2; go_ret; exact ⟨by rw [HE.out]; rfl, BC⟩)
   have HE : Hid (bb = false) := by show _ = false; rw [<- HBB.out]; have : ¬ l2 = (N + 7) / 8 * 8 := (by omega); simp [this]
   have heb : decide ((l2 : Int) = IntKind.i64.wrap (8 * M)) = false := by rw [hw8]; simp [he]
   have hea : decide ((l2 : Int) = 8 * M) = false := by simp [he]
   have hed : ((l2 : Int) == 8 * M) = false := by simp [he]
   have hec : ¬ (l2 : Int) = IntKind.i64.wrap (8 * M) := by rw [hw8]; exact he
   clear hM
   go_enter func251, ntmps251
   go_upto_region 1 with fail
   rw [<- HW.out]
   go_upto_region 4 with fail
   go_quiet ((go_at_call 257; refine Calls.quiet_of_same (bytesForM N M _ (by omega) HM.out.1)))
   go_wp2
   go_ret
   exact ⟨by rw [HE.out]; rfl, bel_drewN B0 _⟩
 obtain (rfl | rfl | rfl) | hw | (rfl | rfl) : (kd = 3 \/ kd = 4 \/ kd = 23) \/ (kd = 5 \/ kd = 6 \/ kd = 22) \/ (kd = 15 \/ kd = 16) := by omega
 iterate 3
  focus
   clear hq ha
   go_enter func251, ntmps251
   go_upto_region 1 with fail
   rw [<- HW.out]
   go_wp2
   go_ret
   refine ⟨?_, B0⟩
   simp [anB]
   first | done | rfl
 ·rw [anB_w hw HL.out hq ha]
  clear hq ha
  obtain rfl | rfl | rfl := hw
  all_goals
   go_enter func251, ntmps251
   go_upto_region 1 with fail
   rw [<- HW.out]
   by_cases hA : ap = pl
   rotate_left
   ·have hAb : (ap == pl) = false := by simp [hA]
    go_wp2
    go_ret
    exact ⟨by simp [hA], B0⟩
   subst hA
   go_wp2_with fail
   refine (bo (equal_bool_any _ _ _ _ _ _ bs qb _ HL.out.2.2.2 HL.out.2.1 HS.out.2.2.2 HS.out.2.1 hl2 hm2 _ rfl)).mono ?_
   rintro e w1 ⟨b', ⟨hE, rfl⟩ | ⟨hE, rfl⟩⟩
   rotate_left
   ·have B1 := bel_next B0 b'
    go_wp2
    go_ret
    exact ⟨by simp [hE], B1⟩
   have HE : Hid (decide (bs = qb) = true) := hE
   have B1 := bel_next B0 b'
   have X1 := X0.below b'
   have Y1 := Y0.below b'
   have HS1 : Hid (SlI w1 q1 qs /\ SlI w1 a1 ws) := ⟨HS.out.1.below b', HS.out.2.2.1.below b'⟩
   clear hE b' B0 X0 Y0 x0 x1 x2 x3 x4 x5 y0 y1 y2 y3 y4 y5
   obtain ⟨x0, x1, x2, x3, x4, x5⟩ := X1.six
   obtain ⟨y0, y1, y2, y3, y4, y5⟩ := Y1.six
   go_wp2_with fail
   refine (equal_int_any _ _ _ _ _ _ ws qs _ HL.out.2.2.1 HL.out.1 HS1.out.2 HS1.out.1 hl1 hm1 _ rfl).mono ?_
   rintro e w2 ⟨rfl, b'⟩
   have B2 := bel_next B1 b'
   clear b'
   go_wp2
   go_ret
   exact ⟨by rw [HE.out]; simp, B2⟩
 all_goals
  clear hq ha
  go_enter func251, ntmps251
  go_upto_region 1 with fail
  rw [<- HW.out]
  by_cases hA : ap = pl
  rotate_left
  ·have hAb : (ap == pl) = false := by simp [hA]
   go_wp2
   go_ret
   exact ⟨by simp [anB, hA], B0⟩
  subst hA
  go_wp2
  go_ret
  refine ⟨?_, B0⟩
  simp [anB]
  first | done | rfl
theorem implSuits_q (kd kd' fl : Int) (pl nn wa : Int) (q1 q2 : Option Addr) (m1 m2 k1 k2 : Nat) (qs : List Int) (qb : List Bool) (ap an : Int) (a1 a2 : Option Addr) (l1 l2 c1 c2 : Nat) (ws : List Int) (bs : List Bool) (w : World) (g1 : m1 = qs.length) (g2 : m2 = qb.length) (t1 : SlI w q1 qs) (t2 : SlB w q2 qb) (hm1 : qs.length <= 2000000) (hm2 : qb.length <= 2000000) (h1 : l1 = ws.length) (h2 : l2 = bs.length) (s1 : SlI w a1 ws) (s2 : SlB w a2 bs) (hl1 : ws.length <= 2000000) (hl2 : bs.length <= 2000000) (hcap : l2 <= c2) :
 Calls prog 237 #[rq kd pl nn wa q1 q2 m1 m2 k1 k2, rp kd' fl ap an a1 a2 l1 l2 c1 c2] w fun e w' => e = .returned (.bool (suB kd pl nn wa m1 m2 qs qb kd' fl ap an l1 l2 ws bs)) /\ Below w.heap.size w w' := by
 obtain ⟨W0, hW0⟩ : ∃ W0, W0 = (w.alloc (.cells #[.int .i64 kd, .int .i64 pl, .int .i64 nn, .slice q1 m1 k1, .slice q2 m2 k2, .int .i64 wa] 84)).alloc (.cells #[.int .i64 kd', .int .i64 fl, .int .i64 ap, .int .i64 an, .slice a1 l1 c1, .slice a2 l2 c2] 118) := ⟨_, rfl⟩
 have HW : Hid (W0 = _) := hW0
 have B0 : Below w.heap.size w W0 := by rw [hW0]; exact bel_next (bel_alloc w _) (bel_alloc _ _)
 have X0 : Blk W0 w.heap.size 84 #[.int .i64 kd, .int .i64 pl, .int .i64 nn, .slice q1 m1 k1, .slice q2 m2 k2, .int .i64 wa] := by rw [hW0]; exact (Blk.new w _ _).below (bel_alloc _ _)
 have Y0 : Blk W0 (w.heap.size + 1) 118 #[.int .i64 kd', .int .i64 fl, .int .i64 ap, .int .i64 an, .slice a1 l1 c1, .slice a2 l2 c2] := by
  rw [hW0]; have := Blk.new (w.alloc (.cells #[.int .i64 kd, .int .i64 pl, .int .i64 nn, .slice q1 m1 k1, .slice q2 m2 k2, .int .i64 wa] 84)) #[.int .i64 kd', .int .i64 fl, .int .i64 ap, .int .i64 an, .slice a1 l1 c1, .slice a2 l2 c2] 118; simpa using this
 have HL := hid4 g1 g2 h1 h2
 have HS := hid4 (t1.below B0) (t2.below B0) (s1.below B0) (s2.below B0)
 obtain ⟨x0, x1, x2, x3, x4, x5⟩ := X0.six
 obtain ⟨y0, y1, y2, y3, y4, y5⟩ := Y0.six
 clear hW0 g1 g2 h1 h2 t1 t2 s1 s2
 go_enter func237, ntmps237
 go_upto_region 1 with fail
 rw [<- HW.out]
 go_wp2_with fail
 refine (bo (implReqOk_q kd pl nn wa q1 q2 m1 m2 k1 k2 qs qb _ HL.out.1 HL.out.2.1 HS.out.1 HS.out.2.1 hm1 hm2)).mono ?_
 rintro e w1 ⟨b', ⟨hq, rfl⟩ | ⟨hq, rfl⟩⟩
 rotate_left
 ·have B1 := bel_next B0 b'
  go_wp2
  go_ret
  exact ⟨by simp [suB, hq], B1⟩
 have HQ : Hid (okR kd pl nn wa qs m1 m2 = true) := hq
 have B1 := bel_next B0 b'
 have X1 := X0.below b'
 have Y1 := Y0.below b'
 have HS1 := hid4 (HS.out.1.below b') (HS.out.2.1.below b') (HS.out.2.2.1.below b') (HS.out.2.2.2.below b')
 clear hq b' B0 X0 Y0 x0 x1 x2 x3 x4 x5 y0 y1 y2 y3 y4 y5
 obtain ⟨x0, x1, x2, x3, x4, x5⟩ := X1.six
 obtain ⟨y0, y1, y2, y3, y4, y5⟩ := Y1.six
 go_wp2_with fail
 refine (bo (implRespOk_q kd' fl ap an a1 a2 l1 l2 c1 c2 ws bs _ HL.out.2.2.1 HL.out.2.2.2 HS1.out.2.2.1 HS1.out.2.2.2 hl1 hl2)).mono ?_
 rintro e w2 ⟨b', ⟨ha, rfl⟩ | ⟨ha, rfl⟩⟩
 rotate_left
 ·have B2 := bel_next B1 b'
  go_wp2
  go_ret
  exact ⟨by simp [suB, ha], B2⟩
 have B2 := bel_next B1 b'
 have X2 := X1.below b'
 have Y2 := Y1.below b'
 have HS2 := hid4 (HS1.out.1.below b') (HS1.out.2.1.below b') (HS1.out.2.2.1.below b') (HS1.out.2.2.2.below b')
 have HA : Hid (okA kd' fl ap an ws l1 l2 = true) := ha
 clear b' B1 X1 Y1 x0 x1 x2 x3 x4 x5 y0 y1 y2 y3 y4 y5
 obtain ⟨x0, x1, x2, x3, x4, x5⟩ := X2.six
 obtain ⟨y0, y1, y2, y3, y4, y5⟩ := Y2.six
 by_cases hk : kd = kd'
 rotate_left
 ·have hkb : (kd == kd') = false := by simp [hk]
  clear ha
  go_wp2
  go_ret
  exact ⟨by simp [suB, hk], B2⟩
 subst hk
 clear ha
 by_cases h0 : fl = 0
 rotate_left
 ·go_wp2
  go_ret
  exact ⟨by simp [suB, HQ.out, HA.out, h0], B2⟩
 subst h0
 go_wp2_with fail
 refine (answers_q kd pl nn wa q1 q2 m1 m2 k1 k2 qs qb ap an a1 a2 l1 l2 c1 c2 ws bs _ HL.out.1 HL.out.2.1 HS2.out.1 HS2.out.2.1 hm1 hm2 HL.out.2.2.1 HL.out.2.2.2 HS2.out.2.2.1 HS2.out.2.2.2 hl1 hl2 hcap HQ.out HA.out).mono ?_
 rintro e w3 ⟨rfl, b'⟩
 have B3 := bel_next B2 b'
 clear b'
 go_wp2
 go_ret
 exact ⟨by simp [suB, HQ.out, HA.out], B3⟩
end Go.Proofs.YtplaoagcedgdfaaGreat
