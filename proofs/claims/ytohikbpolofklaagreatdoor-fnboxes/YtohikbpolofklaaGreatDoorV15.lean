/- Texts that the proof needs, joined: P3 P4 P5. -/
import Derived.Test.YtohikbpolofklaaGreatDoorV13
import Derived.Test.YtohikbpolofklaaGreatDoorV3
import Derived.Deep.RegionHeld3
namespace Go.Proofs.YtohikbpolofklaaGreatDoor
open Go.RowKit
set_option linter.unusedVariables false
set_option linter.unusedSimpArgs false
set_option maxHeartbeats 1000000 in
theorem isCount_any (x most : Int) (w : World) (b : Bool) (hb : inB x 1 most = b) : Calls Tryz.prog 83 #[.int .i64 x, .int .i64 most] w fun e w' => e = .returned (.bool b) ∧ w' = w := by
  subst hb
  unfold inB
  by_cases h1 : 1 ≤ x
  · by_cases h2 : x ≤ most
    · rw [decide_eq_true (show 1 ≤ x ∧ x ≤ most from ⟨h1, h2⟩)]
      go_enter Tryz.func83, Tryz.ntmps83
      go_wp2
      go_ret
      exact ⟨rfl, rfl⟩
    · rw [decide_eq_false (show ¬ (1 ≤ x ∧ x ≤ most) from fun h => h2 h.2)]
      go_enter Tryz.func83, Tryz.ntmps83
      go_wp2
      go_ret
      exact ⟨rfl, rfl⟩
  · rw [decide_eq_false (show ¬ (1 ≤ x ∧ x ≤ most) from fun h => h1 h.1)]
    go_enter Tryz.func83, Tryz.ntmps83
    go_wp2
    go_ret
    exact ⟨rfl, rfl⟩
set_option maxHeartbeats 1000000 in
theorem isFault_any (x : Int) (w : World) (b : Bool) (hb : inB x 1 255 = b) : Calls Tryz.prog 82 #[.int .i64 x] w fun e w' => e = .returned (.bool b) ∧ w' = w := by
  go_enter Tryz.func82, Tryz.ntmps82
  go_wp2_with fail
  refine (isCount_any _ _ _ _ hb).mono ?_
  rintro e wx ⟨rfl, rfl⟩
  go_wp2
  go_ret
  exact ⟨rfl, rfl⟩
def tB (kd fl pl nn : Int) (ws : List Int) (l1 l2 : Nat) : Bool :=
  if fl = 0 then
    if kd = 1 ∨ kd = 2 then inB l2 1 2000 && decide (l2 % 8 = 0)
    else if kd = 3 ∨ kd = 4 ∨ kd = 23 then inB l1 1 125 && allW ws
    else if kd = 5 then inB pl 0 65535 && decide (l2 = 1)
    else if kd = 6 then inB pl 0 65535 && (decide (l1 = 1) && allW ws)
    else if kd = 22 then inB pl 0 65535 && (decide (l1 = 2) && allW ws)
    else if kd = 15 then inB pl 0 65535 && inB nn 1 1968
    else inB pl 0 65535 && inB nn 1 123
  else inB fl 1 255
def zrA (kd fl pl nn : Int) (l1 l2 : Nat) : Bool :=
  if fl = 0 then
    if kd = 1 ∨ kd = 2 then zr4 false false false true pl nn l1 l2
    else if kd = 3 ∨ kd = 4 ∨ kd = 23 then zr4 false false true false pl nn l1 l2
    else if kd = 5 then zr4 true false false true pl nn l1 l2
    else if kd = 6 ∨ kd = 22 then zr4 true false true false pl nn l1 l2
    else zr4 true true false false pl nn l1 l2
  else zr4 false false false false pl nn l1 l2
theorem allW_nil {ws : List Int} {l1 : Nat} (h1 : l1 = ws.length) (h : l1 = 0) : allW ws = true := by
  rw [h] at h1
  rw [List.eq_nil_of_length_eq_zero h1.symm]
  rfl
theorem okA_told (kd fl pl nn : Int) (ws : List Int) (l1 l2 : Nat) (h1 : l1 = ws.length) (hk : kindB kd = true) : okA kd fl pl nn ws l1 l2 = (tB kd fl pl nn ws l1 l2 && zrA kd fl pl nn l1 l2) := by
  have hnil := allW_nil h1
  clear h1
  have hk' := of_decide_eq_true hk
  rw [Bool.eq_iff_iff]
  by_cases hf : fl = 0
  · subst hf
    obtain rfl | rfl | rfl | rfl | rfl | rfl | rfl | rfl | rfl | rfl := hk'
    all_goals (
      simp [okA, okAK, tB, zrA, kindB, inB, zr4]
      cases hW : allW ws
      · rw [hW] at hnil; simp at hnil; simp <;> omega
      · simp; omega)
  · by_cases hp : 0 < fl
    · simp [okA, tB, zrA, hk, inB, zr4, hf, hp]
      cases hW : allW ws
      · rw [hW] at hnil; simp at hnil; simp <;> omega
      · simp; omega
    · have e1 : inB fl 0 255 = false := decide_eq_false (by omega)
      have e2 : inB fl 1 255 = false := decide_eq_false (by omega)
      simp [okA, tB, hk, e1, e2, hf]
set_option maxHeartbeats 8000000 in
theorem isTold_any (kd fl pl nn : Int) (a1 a2 : Option Addr) (l1 l2 c1 c2 : Nat) (ws : List Int) (w : World) (h1 : l1 = ws.length) (s1 : SlI w a1 ws) (hl1 : ws.length ≤ 2000000) (hl2 : l2 ≤ 20000000) (hk : kindB kd = true) (b : Bool) (hb : tB kd fl pl nn ws l1 l2 = b) :
    Calls Tryz.prog 77 #[rp kd fl pl nn a1 a2 l1 l2 c1 c2] w fun e w' => e = .returned (.bool b) ∧ Below w.heap.size w w' := by
  have H1 : Hid (l1 = ws.length) := h1
  have B0 := bel_alloc w (.cells #[.int .i64 kd, .int .i64 fl, .int .i64 pl, .int .i64 nn, .slice a1 l1 c1, .slice a2 l2 c2] 36)
  have S1 : Hid (SlI (w.alloc (.cells #[.int .i64 kd, .int .i64 fl, .int .i64 pl, .int .i64 nn, .slice a1 l1 c1, .slice a2 l2 c2] 36)) a1 ws) := s1.below B0
  clear h1 s1
  subst hb
  by_cases h0 : fl = 0
  rotate_left
  · go_enter Tryz.func77, Tryz.ntmps77
    go_wp2_with (go_at_call 82; refine (isFault_any _ _ _ rfl).mono ?_; rintro e wx ⟨rfl, rfl⟩)
    go_ret
    exact ⟨by simp [tB, h0], B0⟩
  subst h0
  rcases of_decide_eq_true hk with rfl | rfl | rfl | rfl | rfl | rfl | rfl | rfl | rfl | rfl
  all_goals
    go_enter Tryz.func77, Tryz.ntmps77
    go_wp2_with (first
      | (go_at_call 83; refine (bo (isCount_any _ _ _ _ rfl)).mono ?_; rintro e wx ⟨rfl, ⟨hN, rfl⟩ | ⟨hN, rfl⟩⟩)
      | (go_at_call 70; refine (bo (isWord_any _ _ _ rfl)).mono ?_; rintro e wx ⟨rfl, ⟨hN, rfl⟩ | ⟨hN, rfl⟩⟩)
      | (go_at_call 71; refine (bo (areWords_any _ _ _ ws _ H1.out S1.out hl1 _ rfl)).mono ?_; rintro e wx ⟨rfl, ⟨hN, rfl⟩ | ⟨hN, rfl⟩⟩))
    all_goals
      go_ret
      refine ⟨?_, B0⟩
      first | (simp [tB, *]; done) | (simp [tB, *]; omega) | (simp [tB, *]; intro; omega) | (simp [tB, *]; rw [Bool.eq_iff_iff]; simp; omega)
end Go.Proofs.YtohikbpolofklaaGreatDoor
namespace Go.Proofs.YtohikbpolofklaaGreatDoor
open Go.RowKit
set_option linter.unusedVariables false
set_option linter.unusedSimpArgs false
set_option maxHeartbeats 8000000 in
theorem namedOf_g (kd fl pl nn : Int) (a1 a2 : Option Addr) (l1 l2 c1 c2 : Nat) (w : World) (v : Value) (h : ¬ fl = 0 ∧ v = rp kd fl 0 0 none none 0 0 0 0 ∨ fl = 0 ∧ ((kd = 1 ∨ kd = 2) ∧ v = rp kd 0 0 0 none a2 0 l2 0 c2 ∨ (kd = 3 ∨ kd = 4 ∨ kd = 23) ∧ v = rp kd 0 0 0 a1 none l1 0 c1 0 ∨ kd = 5 ∧ v = rp kd 0 pl 0 none a2 0 l2 0 c2 ∨ (kd = 6 ∨ kd = 22) ∧ v = rp kd 0 pl 0 a1 none l1 0 c1 0 ∨ (kd = 15 ∨ kd = 16) ∧ v = rp kd 0 pl nn none none 0 0 0 0)) :
    Calls Tryz.prog 79 #[rp kd fl pl nn a1 a2 l1 l2 c1 c2] w fun e w' => e = .returned v ∧ Below w.heap.size w w' := by
  obtain ⟨W0, hW0⟩ : ∃ W0, W0 = (w.alloc (.cells #[.int .i64 kd, .int .i64 fl, .int .i64 pl, .int .i64 nn, .slice a1 l1 c1, .slice a2 l2 c2] 36)).alloc (.cells #[.int .i64 0, .int .i64 0, .int .i64 0, .int .i64 0, .slice none 0 0, .slice none 0 0] 36) := ⟨_, rfl⟩
  have HW : Hid (W0 = _) := hW0
  have B0 : Below w.heap.size w W0 := by rw [hW0]; exact bel_next (bel_alloc w _) (bel_alloc _ _)
  have X0 : Blk W0 w.heap.size 36 #[.int .i64 kd, .int .i64 fl, .int .i64 pl, .int .i64 nn, .slice a1 l1 c1, .slice a2 l2 c2] := by rw [hW0]; exact (Blk.new w _ _).below (bel_alloc _ _)
  have R0 : Blk W0 (w.heap.size + 1) 36 #[.int .i64 0, .int .i64 0, .int .i64 0, .int .i64 0, .slice none 0 0, .slice none 0 0] := by
    rw [hW0]; have := Blk.new (w.alloc (.cells #[.int .i64 kd, .int .i64 fl, .int .i64 pl, .int .i64 nn, .slice a1 l1 c1, .slice a2 l2 c2] 36)) #[.int .i64 0, .int .i64 0, .int .i64 0, .int .i64 0, .slice none 0 0, .slice none 0 0] 36; simpa using this
  obtain ⟨x0, x1, x2, x3, x4, x5⟩ := X0.six
  obtain ⟨y0, y1, y2, y3, y4, y5⟩ := R0.six
  have fy := R0.fro
  clear hW0 X0 R0
  rcases h with ⟨h0, hv⟩ | ⟨rfl, ⟨rfl | rfl, hv⟩ | ⟨rfl | rfl | rfl, hv⟩ | ⟨rfl, hv⟩ | ⟨rfl | rfl, hv⟩ | ⟨rfl | rfl, hv⟩⟩
  all_goals
    have HV : Hid (v = _) := hv
    clear hv
    go_enter Tryz.func79, Tryz.ntmps79
    go_upto_region 1 with fail
    rw [← HW.out]
    go_wp2
    refine bodyPost_ret (v := v) (by rw [HV.out]; simp [results, Tryz.results79, go_sem, y0, y1, y2, y3, y4, y5]) rfl ?_
    exact ⟨rfl, belp_set6 B0 (Nat.le_succ _)⟩
set_option maxHeartbeats 4000000 in
theorem sameResp_any (kd fl pl nn pl' nn' : Int) (a1 a2 a1' a2' : Option Addr) (l1 l2 c1 c2 l1' l2' c1' c2' : Nat) (ws : List Int) (bs : List Bool) (w : World) (h1 : l1 = ws.length) (h2 : l2 = bs.length) (s1 : SlI w a1 ws) (s2 : SlB w a2 bs) (hl1 : ws.length ≤ 2000000) (hl2 : bs.length ≤ 2000000) (hm1 : l1' ≤ 2000000) (hm2 : l2' ≤ 2000000)
    (s1' : l1' = l1 → SlI w a1' ws) (s2' : l2' = l2 → SlB w a2' bs) (b : Bool) (hb : (decide (pl' = pl) && (decide (nn' = nn) && (decide (l1' = l1) && decide (l2' = l2)))) = b) :
    Calls Tryz.prog 78 #[rp kd fl pl' nn' a1' a2' l1' l2' c1' c2', rp kd fl pl nn a1 a2 l1 l2 c1 c2] w fun e w' => e = .returned (.bool b) ∧ Below w.heap.size w w' := by
  obtain ⟨W0, hW0'⟩ : ∃ W0, W0 = (w.alloc (.cells #[.int .i64 kd, .int .i64 fl, .int .i64 pl', .int .i64 nn', .slice a1' l1' c1', .slice a2' l2' c2'] 36)).alloc (.cells #[.int .i64 kd, .int .i64 fl, .int .i64 pl, .int .i64 nn, .slice a1 l1 c1, .slice a2 l2 c2] 36) := ⟨_, rfl⟩
  have hW0 : Hid (W0 = _) := hW0'
  have B0 : Below w.heap.size w W0 := by rw [hW0']; exact bel_next (bel_alloc w _) (bel_alloc _ _)
  have X0 : Blk W0 w.heap.size 36 #[.int .i64 kd, .int .i64 fl, .int .i64 pl', .int .i64 nn', .slice a1' l1' c1', .slice a2' l2' c2'] := by rw [hW0']; exact (Blk.new w _ _).below (bel_alloc _ _)
  have Y0 : Blk W0 (w.heap.size + 1) 36 #[.int .i64 kd, .int .i64 fl, .int .i64 pl, .int .i64 nn, .slice a1 l1 c1, .slice a2 l2 c2] := by
    rw [hW0']; have := Blk.new (w.alloc (.cells #[.int .i64 kd, .int .i64 fl, .int .i64 pl', .int .i64 nn', .slice a1' l1' c1', .slice a2' l2' c2'] 36)) #[.int .i64 kd, .int .i64 fl, .int .i64 pl, .int .i64 nn, .slice a1 l1 c1, .slice a2 l2 c2] 36; simpa using this
  have HL : Hid (l1 = ws.length ∧ l2 = bs.length) := ⟨h1, h2⟩
  have HS : Hid (SlI W0 a1 ws ∧ SlB W0 a2 bs) := ⟨s1.below B0, s2.below B0⟩
  have HS' : Hid ((l1' = l1 → SlI W0 a1' ws) ∧ (l2' = l2 → SlB W0 a2' bs)) := ⟨fun h => (s1' h).below B0, fun h => (s2' h).below B0⟩
  have HM : Hid (l1 ≤ 20000000 ∧ l2 ≤ 20000000) := by show _ ∧ _; omega
  obtain ⟨x0, x1, x2, x3, x4, x5⟩ := X0.six
  obtain ⟨y0, y1, y2, y3, y4, y5⟩ := Y0.six
  clear hW0' h1 h2 s1 s2 s1' s2'
  by_cases hA : pl' = pl
  · by_cases hN : nn' = nn
    · subst hA hN
      by_cases hw : l1' = l1
      · by_cases hq : l2' = l2
        · have e : b = true := by rw [← hb]; simp [hw, hq]
          subst e
          clear hb
          subst hw hq
          have T1 : Hid (SlI W0 a1' ws ∧ SlB W0 a2' bs) := ⟨HS'.out.1 rfl, HS'.out.2 rfl⟩
          go_enter Tryz.func78, Tryz.ntmps78
          go_upto_region 1 with fail
          rw [← hW0.out]
          go_wp2_with fail
          refine (equal_int _ _ _ _ _ _ ws _ HL.out.1 HL.out.1 T1.out.1 HS.out.1 hl1).mono ?_
          rintro e w1 ⟨rfl, b'⟩
          have b1 := bel_next B0 b'
          obtain ⟨x0, x1, x2, x3, x4, x5⟩ := (X0.below b').six
          obtain ⟨y0, y1, y2, y3, y4, y5⟩ := (Y0.below b').six
          go_wp2_with fail
          refine (equal_bool _ _ _ _ _ _ bs _ HL.out.2 HL.out.2 (T1.out.2.below b') (HS.out.2.below b') hl2).mono ?_
          rintro e w2 ⟨rfl, b2'⟩
          go_wp2
          go_ret
          exact ⟨rfl, bel_next b1 b2'⟩
        · have e : b = false := by rw [← hb]; simp [hq]
          subst e
          have hqi : ¬ (l2' : Int) = (l2 : Int) := by omega
          clear hb
          subst hw
          have T1 : Hid (SlI W0 a1' ws) := HS'.out.1 rfl
          go_enter Tryz.func78, Tryz.ntmps78
          go_upto_region 1 with fail
          rw [← hW0.out]
          go_wp2_with fail
          refine (equal_int _ _ _ _ _ _ ws _ HL.out.1 HL.out.1 T1.out HS.out.1 hl1).mono ?_
          rintro e w1 ⟨rfl, b'⟩
          have b1 := bel_next B0 b'
          obtain ⟨x0, x1, x2, x3, x4, x5⟩ := (X0.below b').six
          obtain ⟨y0, y1, y2, y3, y4, y5⟩ := (Y0.below b').six
          go_wp2_with fail
          refine (equal_bool_len _ _ _ _ _ _ _ hqi (by omega) HM.out.2).mono ?_
          rintro e w2 ⟨rfl, b2'⟩
          go_wp2
          go_ret
          exact ⟨rfl, bel_next b1 b2'⟩
      · have e : b = false := by rw [← hb]; simp [hw]
        subst e
        have hwi : ¬ (l1' : Int) = (l1 : Int) := by omega
        clear hb
        go_enter Tryz.func78, Tryz.ntmps78
        go_upto_region 1 with fail
        rw [← hW0.out]
        go_wp2_with fail
        refine (equal_int_len _ _ _ _ _ _ _ hwi (by omega) HM.out.1).mono ?_
        rintro e w1 ⟨rfl, b'⟩
        go_wp2
        go_ret
        exact ⟨rfl, bel_next B0 b'⟩
    · have e : b = false := by rw [← hb]; simp [hN]
      subst e
      subst hA
      clear hb
      go_enter Tryz.func78, Tryz.ntmps78
      go_upto_region 1 with fail
      rw [← hW0.out]
      go_wp2
      go_ret
      exact ⟨rfl, B0⟩
  · have e : b = false := by rw [← hb]; simp [hA]
    subst e
    clear hb
    go_enter Tryz.func78, Tryz.ntmps78
    go_upto_region 1 with fail
    rw [← hW0.out]
    go_wp2
    go_ret
    exact ⟨rfl, B0⟩
end Go.Proofs.YtohikbpolofklaaGreatDoor
namespace Go.Proofs.YtohikbpolofklaaGreatDoor
open Go.RowKit
set_option linter.unusedVariables false
set_option linter.unusedSimpArgs false
abbrev ansE (c : Int) : Value := .iface 138 (.agg #[.int .i64 c])
theorem slI_none {w : World} {a : Option Addr} {ws : List Int} (h : ws.length = 0) : SlI w a ws := .inl (List.eq_nil_of_length_eq_zero h)
theorem slB_none {w : World} {a : Option Addr} {bs : List Bool} (h : bs.length = 0) : SlB w a bs := .inl (List.eq_nil_of_length_eq_zero h)
def chk (kd : Int) (b : Bool) : Value := bif b then .nilIface else bif kindB kd then ansE 3 else ansE 1
set_option maxHeartbeats 4000000 in
theorem checkAnswer_no (kd fl pl nn : Int) (a1 a2 : Option Addr) (l1 l2 c1 c2 : Nat) (w : World) (hk : kindB kd = false) :
    Calls Tryz.prog 66 #[rp kd fl pl nn a1 a2 l1 l2 c1 c2] w fun e w' => e = .returned (ansE 1) ∧ Below w.heap.size w w' := by
  have B0 := bel_alloc w (.cells #[.int .i64 kd, .int .i64 fl, .int .i64 pl, .int .i64 nn, .slice a1 l1 c1, .slice a2 l2 c2] 36)
  go_enter Tryz.func66, Tryz.ntmps66
  go_wp2_with (go_at_call 61; refine (isKind_any _ _ _ hk).mono ?_; rintro e wx ⟨rfl, rfl⟩)
  go_ret
  exact ⟨rfl, B0⟩
set_option maxRecDepth 20000 in
set_option maxHeartbeats 8000000 in
theorem checkAnswer_f (kd fl pl nn : Int) (a1 a2 : Option Addr) (l1 l2 c1 c2 : Nat) (ws : List Int) (w : World) (h1 : l1 = ws.length) (s1 : SlI w a1 ws) (hl1 : ws.length ≤ 2000000) (hl2 : l2 ≤ 20000000) (hk : kindB kd = true) (hT : tB kd fl pl nn ws l1 l2 = false) :
    Calls Tryz.prog 66 #[rp kd fl pl nn a1 a2 l1 l2 c1 c2] w fun e w' => e = .returned (ansE 3) ∧ Below w.heap.size w w' := by
  have B0 := bel_alloc w (.cells #[.int .i64 kd, .int .i64 fl, .int .i64 pl, .int .i64 nn, .slice a1 l1 c1, .slice a2 l2 c2] 36)
  have X0 := Blk.new w #[.int .i64 kd, .int .i64 fl, .int .i64 pl, .int .i64 nn, .slice a1 l1 c1, .slice a2 l2 c2] 36
  have HS : Hid (SlI (w.alloc (.cells #[.int .i64 kd, .int .i64 fl, .int .i64 pl, .int .i64 nn, .slice a1 l1 c1, .slice a2 l2 c2] 36)) a1 ws) := s1.below B0
  have HL : Hid (l1 = ws.length) := h1
  have HT : Hid (tB kd fl pl nn ws l1 l2 = false) := hT
  obtain ⟨W0, hW0⟩ : ∃ W0, W0 = w.alloc (.cells #[.int .i64 kd, .int .i64 fl, .int .i64 pl, .int .i64 nn, .slice a1 l1 c1, .slice a2 l2 c2] 36) := ⟨_, rfl⟩
  rw [← hW0] at B0 X0 HS
  have HW : Hid (W0 = _) := hW0
  have d0 : Below W0.heap.size W0 W0.drew := (Below.refl _ _).drew
  obtain ⟨x0, x1, x2, x3, x4, x5⟩ := X0.six
  clear hW0 h1 s1 hT
  go_enter Tryz.func66, Tryz.ntmps66
  go_upto_region 1 with fail
  rw [← HW.out]
  go_upto_region 3 with (go_at_call 61; refine (isKind_any _ _ _ hk).mono ?_; rintro e wx ⟨rfl, rfl⟩)
  go_region_with (first
      | (go_at_call 77; refine (isTold_any kd fl pl nn a1 a2 l1 l2 c1 c2 ws _ HL.out (by first | exact HS.out | exact HS.out.below d0) hl1 hl2 hk _ HT.out).mono ?_; rintro e wA ⟨rfl, bA⟩; have BA := bel_next (w0 := w) (by first | exact B0 | exact B0.drew) bA; have XA := Blk.below (by first | exact X0 | exact X0.below d0) bA; obtain ⟨xa0, xa1, xa2, xa3, xa4, xa5⟩ := XA.six; clear bA))
  all_goals (go_wp2; go_ret; exact ⟨rfl, BA⟩)
set_option maxRecDepth 20000 in
set_option maxHeartbeats 8000000 in
theorem checkAnswer_if (kd fl pl nn : Int) (a1 a2 : Option Addr) (l1 l2 c1 c2 : Nat) (ws : List Int) (bs : List Bool) (w : World) (h1 : l1 = ws.length) (h2 : l2 = bs.length) (s1 : SlI w a1 ws) (s2 : SlB w a2 bs) (hl1 : ws.length ≤ 2000000) (hl2 : bs.length ≤ 2000000) (hk : kindB kd = true) (hT : tB kd fl pl nn ws l1 l2 = true)
    (pl' nn' : Int) (a1' a2' : Option Addr) (l1' l2' c1' c2' : Nat) (hm1 : l1' ≤ 2000000) (hm2 : l2' ≤ 2000000) (s1' : l1' = l1 → SlI w a1' ws) (s2' : l2' = l2 → SlB w a2' bs)
    (hnm : ∀ u, Calls Tryz.prog 79 #[rp kd fl pl nn a1 a2 l1 l2 c1 c2] u fun e u' => e = .returned (rp kd fl pl' nn' a1' a2' l1' l2' c1' c2') ∧ Below u.heap.size u u')
    (b : Bool) (hb : (decide (pl' = pl) && (decide (nn' = nn) && (decide (l1' = l1) && decide (l2' = l2)))) = b) :
    Calls Tryz.prog 66 #[rp kd fl pl nn a1 a2 l1 l2 c1 c2] w fun e w' => e = .returned (bif b then .nilIface else ansE 3) ∧ Below w.heap.size w w' := by
  have B0 := bel_alloc w (.cells #[.int .i64 kd, .int .i64 fl, .int .i64 pl, .int .i64 nn, .slice a1 l1 c1, .slice a2 l2 c2] 36)
  have X0 := Blk.new w #[.int .i64 kd, .int .i64 fl, .int .i64 pl, .int .i64 nn, .slice a1 l1 c1, .slice a2 l2 c2] 36
  have HS : Hid (SlI w a1 ws ∧ SlB w a2 bs) := ⟨s1, s2⟩
  have HS' : Hid ((l1' = l1 → SlI w a1' ws) ∧ (l2' = l2 → SlB w a2' bs)) := ⟨s1', s2'⟩
  have HL : Hid (l1 = ws.length ∧ l2 = bs.length) := ⟨h1, h2⟩
  have HT : Hid (tB kd fl pl nn ws l1 l2 = true) := hT
  have HNM : Hid (∀ u, Calls Tryz.prog 79 #[rp kd fl pl nn a1 a2 l1 l2 c1 c2] u fun e u' => e = .returned (rp kd fl pl' nn' a1' a2' l1' l2' c1' c2') ∧ Below u.heap.size u u') := hnm
  have HB : Hid ((decide (pl' = pl) && (decide (nn' = nn) && (decide (l1' = l1) && decide (l2' = l2)))) = b) := hb
  obtain ⟨W0, hW0⟩ : ∃ W0, W0 = w.alloc (.cells #[.int .i64 kd, .int .i64 fl, .int .i64 pl, .int .i64 nn, .slice a1 l1 c1, .slice a2 l2 c2] 36) := ⟨_, rfl⟩
  rw [← hW0] at B0 X0
  have HW : Hid (W0 = _) := hW0
  have d0 : Below W0.heap.size W0 W0.drew := (Below.refl _ _).drew
  have B0d : Below w.heap.size w W0.drew := B0.drew
  obtain ⟨x0, x1, x2, x3, x4, x5⟩ := X0.six
  clear hW0 h1 h2 s1 s2 s1' s2' hT hnm hb
  go_enter Tryz.func66, Tryz.ntmps66
  go_upto_region 1 with fail
  rw [← HW.out]
  go_upto_region 3 with (go_at_call 61; refine (isKind_any _ _ _ hk).mono ?_; rintro e wx ⟨rfl, rfl⟩)
  cases b
  all_goals (
    go_region_held3 (fun w' => w'.cell? ⟨w.heap.size, 0, none⟩ = some (.int .i64 kd) ∧ w'.cell? ⟨w.heap.size, 1, none⟩ = some (.int .i64 fl) ∧ w'.cell? ⟨w.heap.size, 2, none⟩ = some (.int .i64 pl) ∧ w'.cell? ⟨w.heap.size, 3, none⟩ = some (.int .i64 nn) ∧ w'.cell? ⟨w.heap.size, 4, none⟩ = some (.slice a1 l1 c1) ∧ w'.cell? ⟨w.heap.size, 5, none⟩ = some (.slice a2 l2 c2)) (go_keep)
      (first
        | (go_at_call 77; refine (isTold_any kd fl pl nn a1 a2 l1 l2 c1 c2 ws _ HL.out.1 (HS.out.1.below (by first | exact B0 | exact B0d)) hl1 (by have := HL.out; omega) hk _ HT.out).mono ?_; rintro e wA ⟨rfl, bA⟩; have BA := bel_next (w0 := w) (by first | exact B0 | exact B0d) bA; have XA := Blk.below (by first | exact X0 | exact X0.below d0) bA; obtain ⟨xa0, xa1, xa2, xa3, xa4, xa5⟩ := XA.six; clear bA)
        | (go_at_call 79; refine (HNM.out _).mono ?_; rintro e wB ⟨rfl, bB⟩; have BB := bel_next BA bB; have XB := XA.below bB; obtain ⟨xb0, xb1, xb2, xb3, xb4, xb5⟩ := XB.six; clear bB)
        | (go_at_call 78; refine (sameResp_any kd fl pl nn pl' nn' a1 a2 a1' a2' l1 l2 c1 c2 l1' l2' c1' c2' ws bs _ HL.out.1 HL.out.2 (HS.out.1.below BB) (HS.out.2.below BB) hl1 hl2 hm1 hm2 (fun h => (HS'.out.1 h).below BB) (fun h => (HS'.out.2 h).below BB) _ HB.out).mono ?_; rintro e wC ⟨rfl, bC⟩; have BC := bel_next BB bC; obtain ⟨xc0, xc1, xc2, xc3, xc4, xc5⟩ := (XB.below bC).six; clear bC))
    all_goals (go_wp2; go_ret; exact ⟨rfl, BC⟩))
theorem checkAnswer_q (kd fl pl nn : Int) (a1 a2 : Option Addr) (l1 l2 c1 c2 : Nat) (ws : List Int) (bs : List Bool) (w : World) (h1 : l1 = ws.length) (h2 : l2 = bs.length) (s1 : SlI w a1 ws) (s2 : SlB w a2 bs) (hl1 : ws.length ≤ 2000000) (hl2 : bs.length ≤ 2000000) :
    Calls Tryz.prog 66 #[rp kd fl pl nn a1 a2 l1 l2 c1 c2] w fun e w' => e = .returned (chk kd (okA kd fl pl nn ws l1 l2)) ∧ Below w.heap.size w w' := by
  cases hk : kindB kd
  · have e : chk kd (okA kd fl pl nn ws l1 l2) = ansE 1 := by simp [chk, okA, hk]
    rw [e]
    exact checkAnswer_no kd fl pl nn a1 a2 l1 l2 c1 c2 w hk
  · have e : chk kd (okA kd fl pl nn ws l1 l2) = (bif okA kd fl pl nn ws l1 l2 then .nilIface else ansE 3) := by simp [chk, hk]
    rw [e, okA_told kd fl pl nn ws l1 l2 h1 hk]
    clear e
    cases hT : tB kd fl pl nn ws l1 l2
    · exact checkAnswer_f kd fl pl nn a1 a2 l1 l2 c1 c2 ws w h1 s1 hl1 (by omega) hk hT
    · rw [Bool.true_and]
      by_cases h0 : fl = 0
      · subst h0
        obtain rfl | rfl | rfl | rfl | rfl | rfl | rfl | rfl | rfl | rfl := of_decide_eq_true hk
        · exact checkAnswer_if 1 0 pl nn a1 a2 l1 l2 c1 c2 ws bs w h1 h2 s1 s2 hl1 hl2 hk hT 0 0 none a2 0 l2 0 c2 (by omega) (by omega) (fun h => slI_none (h1.symm.trans h.symm)) (fun h => s2) (fun u => namedOf_g 1 0 pl nn a1 a2 l1 l2 c1 c2 u _ (by simp)) _ (by simp [zrA, zr4, eq_comm])
        · exact checkAnswer_if 2 0 pl nn a1 a2 l1 l2 c1 c2 ws bs w h1 h2 s1 s2 hl1 hl2 hk hT 0 0 none a2 0 l2 0 c2 (by omega) (by omega) (fun h => slI_none (h1.symm.trans h.symm)) (fun h => s2) (fun u => namedOf_g 2 0 pl nn a1 a2 l1 l2 c1 c2 u _ (by simp)) _ (by simp [zrA, zr4, eq_comm])
        · exact checkAnswer_if 3 0 pl nn a1 a2 l1 l2 c1 c2 ws bs w h1 h2 s1 s2 hl1 hl2 hk hT 0 0 a1 none l1 0 c1 0 (by omega) (by omega) (fun h => s1) (fun h => slB_none (h2.symm.trans h.symm)) (fun u => namedOf_g 3 0 pl nn a1 a2 l1 l2 c1 c2 u _ (by simp)) _ (by simp [zrA, zr4, eq_comm])
        · exact checkAnswer_if 4 0 pl nn a1 a2 l1 l2 c1 c2 ws bs w h1 h2 s1 s2 hl1 hl2 hk hT 0 0 a1 none l1 0 c1 0 (by omega) (by omega) (fun h => s1) (fun h => slB_none (h2.symm.trans h.symm)) (fun u => namedOf_g 4 0 pl nn a1 a2 l1 l2 c1 c2 u _ (by simp)) _ (by simp [zrA, zr4, eq_comm])
        · exact checkAnswer_if 5 0 pl nn a1 a2 l1 l2 c1 c2 ws bs w h1 h2 s1 s2 hl1 hl2 hk hT pl 0 none a2 0 l2 0 c2 (by omega) (by omega) (fun h => slI_none (h1.symm.trans h.symm)) (fun h => s2) (fun u => namedOf_g 5 0 pl nn a1 a2 l1 l2 c1 c2 u _ (by simp)) _ (by simp [zrA, zr4, eq_comm])
        · exact checkAnswer_if 6 0 pl nn a1 a2 l1 l2 c1 c2 ws bs w h1 h2 s1 s2 hl1 hl2 hk hT pl 0 a1 none l1 0 c1 0 (by omega) (by omega) (fun h => s1) (fun h => slB_none (h2.symm.trans h.symm)) (fun u => namedOf_g 6 0 pl nn a1 a2 l1 l2 c1 c2 u _ (by simp)) _ (by simp [zrA, zr4, eq_comm])
        · exact checkAnswer_if 15 0 pl nn a1 a2 l1 l2 c1 c2 ws bs w h1 h2 s1 s2 hl1 hl2 hk hT pl nn none none 0 0 0 0 (by omega) (by omega) (fun h => slI_none (h1.symm.trans h.symm)) (fun h => slB_none (h2.symm.trans h.symm)) (fun u => namedOf_g 15 0 pl nn a1 a2 l1 l2 c1 c2 u _ (by simp)) _ (by simp [zrA, zr4, eq_comm])
        · exact checkAnswer_if 16 0 pl nn a1 a2 l1 l2 c1 c2 ws bs w h1 h2 s1 s2 hl1 hl2 hk hT pl nn none none 0 0 0 0 (by omega) (by omega) (fun h => slI_none (h1.symm.trans h.symm)) (fun h => slB_none (h2.symm.trans h.symm)) (fun u => namedOf_g 16 0 pl nn a1 a2 l1 l2 c1 c2 u _ (by simp)) _ (by simp [zrA, zr4, eq_comm])
        · exact checkAnswer_if 22 0 pl nn a1 a2 l1 l2 c1 c2 ws bs w h1 h2 s1 s2 hl1 hl2 hk hT pl 0 a1 none l1 0 c1 0 (by omega) (by omega) (fun h => s1) (fun h => slB_none (h2.symm.trans h.symm)) (fun u => namedOf_g 22 0 pl nn a1 a2 l1 l2 c1 c2 u _ (by simp)) _ (by simp [zrA, zr4, eq_comm])
        · exact checkAnswer_if 23 0 pl nn a1 a2 l1 l2 c1 c2 ws bs w h1 h2 s1 s2 hl1 hl2 hk hT 0 0 a1 none l1 0 c1 0 (by omega) (by omega) (fun h => s1) (fun h => slB_none (h2.symm.trans h.symm)) (fun u => namedOf_g 23 0 pl nn a1 a2 l1 l2 c1 c2 u _ (by simp)) _ (by simp [zrA, zr4, eq_comm])
      · exact checkAnswer_if kd fl pl nn a1 a2 l1 l2 c1 c2 ws bs w h1 h2 s1 s2 hl1 hl2 hk hT 0 0 none none 0 0 0 0 (by omega) (by omega) (fun h => slI_none (h1.symm.trans h.symm)) (fun h => slB_none (h2.symm.trans h.symm)) (fun u => namedOf_g kd fl pl nn a1 a2 l1 l2 c1 c2 u _ (.inl ⟨h0, rfl⟩)) _ (by simp [zrA, zr4, eq_comm, h0])
theorem eql_if (T : TypeId) (v : Value) (w : World) : (binOp .eql 47 (.iface T v) .nilIface).run Tryz.prog w = .ok (.bool false) w := by kernel_rfl
theorem eql_nil (w : World) : (binOp .eql 47 .nilIface .nilIface).run Tryz.prog w = .ok (.bool true) w := by kernel_rfl
set_option maxHeartbeats 4000000 in
theorem implRespOk_q (kd fl pl nn : Int) (a1 a2 : Option Addr) (l1 l2 c1 c2 : Nat) (ws : List Int) (bs : List Bool) (w : World) (h1 : l1 = ws.length) (h2 : l2 = bs.length) (s1 : SlI w a1 ws) (s2 : SlB w a2 bs) (hl1 : ws.length ≤ 2000000) (hl2 : bs.length ≤ 2000000) :
    Calls Tryz.prog 46 #[rp kd fl pl nn a1 a2 l1 l2 c1 c2] w fun e w' => e = .returned (.bool (okA kd fl pl nn ws l1 l2)) ∧ Below w.heap.size w w' := by
  have B0 := bel_alloc w (.cells #[.int .i64 kd, .int .i64 fl, .int .i64 pl, .int .i64 nn, .slice a1 l1 c1, .slice a2 l2 c2] 36)
  have X0 := Blk.new w #[.int .i64 kd, .int .i64 fl, .int .i64 pl, .int .i64 nn, .slice a1 l1 c1, .slice a2 l2 c2] 36
  have HS : Hid (SlI w a1 ws ∧ SlB w a2 bs) := ⟨s1, s2⟩
  have HL : Hid (l1 = ws.length ∧ l2 = bs.length) := ⟨h1, h2⟩
  obtain ⟨x0, x1, x2, x3, x4, x5⟩ := X0.six
  clear h1 h2 s1 s2 X0
  have q1 := eql_if
  have q2 := eql_nil
  go_enter Tryz.func46, Tryz.ntmps46
  go_wp2_with fail
  refine (checkAnswer_q kd fl pl nn a1 a2 l1 l2 c1 c2 ws bs _ HL.out.1 HL.out.2 (HS.out.1.below B0) (HS.out.2.below B0) hl1 hl2).mono ?_
  rintro e w1 ⟨rfl, b'⟩
  have B1 := bel_next B0 b'
  clear b' B0
  cases hok : okA kd fl pl nn ws l1 l2
  · cases hk : kindB kd
    · simp only [chk, hk, cond_false, cond_true]
      go_wp2
      go_ret
      exact ⟨by rw [hok]; rfl, B1⟩
    · simp only [chk, hk, cond_false, cond_true]
      go_wp2
      go_ret
      exact ⟨by rw [hok]; rfl, B1⟩
  · simp only [chk, cond_true]
    go_wp2
    go_ret
    exact ⟨by rw [hok]; rfl, B1⟩
end Go.Proofs.YtohikbpolofklaaGreatDoor
