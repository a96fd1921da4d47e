/- Texts that the proof needs, joined: P3. -/
import Derived.Test.YtegckbfbmbiogaaV13
namespace Go.Proofs.Ytegckbfbmbiogaa
open Go.RowKit
set_option linter.unusedVariables false
set_option linter.unusedSimpArgs false
set_option maxHeartbeats 1000000 in
theorem isCount_any (x most : Int) (w : World) (b : Bool) (hb : inB x 1 most = b) : Calls Try.prog 119 #[.int .i64 x, .int .i64 most] w fun e w' => e = .returned (.bool b) ∧ w' = w := by
  subst hb
  unfold inB
  by_cases h1 : 1 ≤ x
  · by_cases h2 : x ≤ most
    · rw [decide_eq_true (show 1 ≤ x ∧ x ≤ most from ⟨h1, h2⟩)]
      go_enter Try.func119, Try.ntmps119
      go_wp2
      go_ret
      exact ⟨rfl, rfl⟩
    · rw [decide_eq_false (show ¬ (1 ≤ x ∧ x ≤ most) from fun h => h2 h.2)]
      go_enter Try.func119, Try.ntmps119
      go_wp2
      go_ret
      exact ⟨rfl, rfl⟩
  · rw [decide_eq_false (show ¬ (1 ≤ x ∧ x ≤ most) from fun h => h1 h.1)]
    go_enter Try.func119, Try.ntmps119
    go_wp2
    go_ret
    exact ⟨rfl, rfl⟩
set_option maxHeartbeats 1000000 in
theorem isFault_any (x : Int) (w : World) (b : Bool) (hb : inB x 1 255 = b) : Calls Try.prog 103 #[.int .i64 x] w fun e w' => e = .returned (.bool b) ∧ w' = w := by
  go_enter Try.func103, Try.ntmps103
  go_wp2_with fail
  refine (isCount_any _ _ _ _ hb).mono ?_
  rintro e wx ⟨rfl, rfl⟩
  go_wp2
  go_ret
  exact ⟨rfl, rfl⟩
def tB (kd fl pl nn : Int) (ws : List Int) (l1 l2 : Nat) : Bool :=
  if fl = 0 then
    if kd = 1 ∨ kd = 2 then inB l2 1 2000 && decide (l2 % 8 = 0)
    else if kd = 3 ∨ kd = 4 ∨ kd = 23 then inB l1 1 125 && allW ws
    else if kd = 5 then inB pl 0 65535 && decide (l2 = 1)
    else if kd = 6 then inB pl 0 65535 && (decide (l1 = 1) && allW ws)
    else if kd = 22 then inB pl 0 65535 && (decide (l1 = 2) && allW ws)
    else if kd = 15 then inB pl 0 65535 && inB nn 1 1968
    else inB pl 0 65535 && inB nn 1 123
  else inB fl 1 255
def zrA (kd fl pl nn : Int) (l1 l2 : Nat) : Bool :=
  if fl = 0 then
    if kd = 1 ∨ kd = 2 then zr4 false false false true pl nn l1 l2
    else if kd = 3 ∨ kd = 4 ∨ kd = 23 then zr4 false false true false pl nn l1 l2
    else if kd = 5 then zr4 true false false true pl nn l1 l2
    else if kd = 6 ∨ kd = 22 then zr4 true false true false pl nn l1 l2
    else zr4 true true false false pl nn l1 l2
  else zr4 false false false false pl nn l1 l2
theorem allW_nil {ws : List Int} {l1 : Nat} (h1 : l1 = ws.length) (h : l1 = 0) : allW ws = true := by
  rw [h] at h1
  rw [List.eq_nil_of_length_eq_zero h1.symm]
  rfl
theorem okA_told (kd fl pl nn : Int) (ws : List Int) (l1 l2 : Nat) (h1 : l1 = ws.length) (hk : kindB kd = true) : okA kd fl pl nn ws l1 l2 = (tB kd fl pl nn ws l1 l2 && zrA kd fl pl nn l1 l2) := by
  have hnil := allW_nil h1
  clear h1
  have hk' := of_decide_eq_true hk
  rw [Bool.eq_iff_iff]
  by_cases hf : fl = 0
  · subst hf
    obtain rfl | rfl | rfl | rfl | rfl | rfl | rfl | rfl | rfl | rfl := hk'
    all_goals (
      simp [okA, okAK, tB, zrA, kindB, inB, zr4]
      cases hW : allW ws
      · rw [hW] at hnil; simp at hnil; simp <;> omega
      · simp; omega)
  · by_cases hp : 0 < fl
    · simp [okA, tB, zrA, hk, inB, zr4, hf, hp]
      cases hW : allW ws
      · rw [hW] at hnil; simp at hnil; simp <;> omega
      · simp; omega
    · have e1 : inB fl 0 255 = false := decide_eq_false (by omega)
      have e2 : inB fl 1 255 = false := decide_eq_false (by omega)
      simp [okA, tB, hk, e1, e2, hf]
set_option maxHeartbeats 4000000 in
theorem isTold_1 (pl nn : Int) (a1 a2 : Option Addr) (l1 l2 c1 c2 : Nat) (ws : List Int) (w : World) (h1 : l1 = ws.length) (s1 : SlI w a1 ws) (hl1 : ws.length ≤ 2000000) (hl2 : l2 ≤ 20000000) (b : Bool) (hb : tB 1 0 pl nn ws l1 l2 = b) :
    Calls Try.prog 126 #[rp 1 0 pl nn a1 a2 l1 l2 c1 c2] w fun e w' => e = .returned (.bool b) ∧ Below w.heap.size w w' := by
  have H1 : Hid (l1 = ws.length) := h1
  have hs : Hid (SlI w a1 ws) := s1
  have B0 := bel_alloc w (.cells #[.int .i64 1, .int .i64 0, .int .i64 pl, .int .i64 nn, .slice a1 l1 c1, .slice a2 l2 c2] 49)
  have S1 : Hid (SlI (w.alloc (.cells #[.int .i64 1, .int .i64 0, .int .i64 pl, .int .i64 nn, .slice a1 l1 c1, .slice a2 l2 c2] 49)) a1 ws) := s1.below B0
  clear h1 s1
  cases hN : inB l2 1 2000
  · skip
    have e : tB 1 0 pl nn ws l1 l2 = false := by simp [tB, hN]
    rw [e] at hb
    subst hb
    clear e
    go_enter Try.func126, Try.ntmps126
    go_wp2_with (first
      | (go_at_call 119; refine (isCount_any _ _ _ _ hN).mono ?_; rintro e wx ⟨rfl, rfl⟩))
    go_ret
    exact ⟨rfl, B0⟩
  · skip
    by_cases hM : l2 % 8 = 0
    · skip
      have e : tB 1 0 pl nn ws l1 l2 = true := by simp [tB, hN, hM]
      rw [e] at hb
      subst hb
      clear e
      have hMt : ((l2 : Int) % 8 == 0) = true := by simp; omega
      clear hM
      go_enter Try.func126, Try.ntmps126
      go_wp2_with (first
        | (go_at_call 119; refine (isCount_any _ _ _ _ hN).mono ?_; rintro e wx ⟨rfl, rfl⟩))
      go_ret
      exact ⟨rfl, B0⟩
    · skip
      have e : tB 1 0 pl nn ws l1 l2 = false := by simp [tB, hN, hM]
      rw [e] at hb
      subst hb
      clear e
      have hMt : ((l2 : Int) % 8 == 0) = false := by simp; omega
      clear hM
      go_enter Try.func126, Try.ntmps126
      go_wp2_with (first
        | (go_at_call 119; refine (isCount_any _ _ _ _ hN).mono ?_; rintro e wx ⟨rfl, rfl⟩))
      go_ret
      exact ⟨rfl, B0⟩
set_option maxHeartbeats 4000000 in
theorem isTold_2 (pl nn : Int) (a1 a2 : Option Addr) (l1 l2 c1 c2 : Nat) (ws : List Int) (w : World) (h1 : l1 = ws.length) (s1 : SlI w a1 ws) (hl1 : ws.length ≤ 2000000) (hl2 : l2 ≤ 20000000) (b : Bool) (hb : tB 2 0 pl nn ws l1 l2 = b) :
    Calls Try.prog 126 #[rp 2 0 pl nn a1 a2 l1 l2 c1 c2] w fun e w' => e = .returned (.bool b) ∧ Below w.heap.size w w' := by
  have H1 : Hid (l1 = ws.length) := h1
  have hs : Hid (SlI w a1 ws) := s1
  have B0 := bel_alloc w (.cells #[.int .i64 2, .int .i64 0, .int .i64 pl, .int .i64 nn, .slice a1 l1 c1, .slice a2 l2 c2] 49)
  have S1 : Hid (SlI (w.alloc (.cells #[.int .i64 2, .int .i64 0, .int .i64 pl, .int .i64 nn, .slice a1 l1 c1, .slice a2 l2 c2] 49)) a1 ws) := s1.below B0
  clear h1 s1
  cases hN : inB l2 1 2000
  · skip
    have e : tB 2 0 pl nn ws l1 l2 = false := by simp [tB, hN]
    rw [e] at hb
    subst hb
    clear e
    go_enter Try.func126, Try.ntmps126
    go_wp2_with (first
      | (go_at_call 119; refine (isCount_any _ _ _ _ hN).mono ?_; rintro e wx ⟨rfl, rfl⟩))
    go_ret
    exact ⟨rfl, B0⟩
  · skip
    by_cases hM : l2 % 8 = 0
    · skip
      have e : tB 2 0 pl nn ws l1 l2 = true := by simp [tB, hN, hM]
      rw [e] at hb
      subst hb
      clear e
      have hMt : ((l2 : Int) % 8 == 0) = true := by simp; omega
      clear hM
      go_enter Try.func126, Try.ntmps126
      go_wp2_with (first
        | (go_at_call 119; refine (isCount_any _ _ _ _ hN).mono ?_; rintro e wx ⟨rfl, rfl⟩))
      go_ret
      exact ⟨rfl, B0⟩
    · skip
      have e : tB 2 0 pl nn ws l1 l2 = false := by simp [tB, hN, hM]
      rw [e] at hb
      subst hb
      clear e
      have hMt : ((l2 : Int) % 8 == 0) = false := by simp; omega
      clear hM
      go_enter Try.func126, Try.ntmps126
      go_wp2_with (first
        | (go_at_call 119; refine (isCount_any _ _ _ _ hN).mono ?_; rintro e wx ⟨rfl, rfl⟩))
      go_ret
      exact ⟨rfl, B0⟩
set_option maxHeartbeats 4000000 in
theorem isTold_3 (pl nn : Int) (a1 a2 : Option Addr) (l1 l2 c1 c2 : Nat) (ws : List Int) (w : World) (h1 : l1 = ws.length) (s1 : SlI w a1 ws) (hl1 : ws.length ≤ 2000000) (hl2 : l2 ≤ 20000000) (b : Bool) (hb : tB 3 0 pl nn ws l1 l2 = b) :
    Calls Try.prog 126 #[rp 3 0 pl nn a1 a2 l1 l2 c1 c2] w fun e w' => e = .returned (.bool b) ∧ Below w.heap.size w w' := by
  have H1 : Hid (l1 = ws.length) := h1
  have hs : Hid (SlI w a1 ws) := s1
  have B0 := bel_alloc w (.cells #[.int .i64 3, .int .i64 0, .int .i64 pl, .int .i64 nn, .slice a1 l1 c1, .slice a2 l2 c2] 49)
  have S1 : Hid (SlI (w.alloc (.cells #[.int .i64 3, .int .i64 0, .int .i64 pl, .int .i64 nn, .slice a1 l1 c1, .slice a2 l2 c2] 49)) a1 ws) := s1.below B0
  clear h1 s1
  cases hN : inB l1 1 125
  · skip
    have e : tB 3 0 pl nn ws l1 l2 = false := by simp [tB, hN]
    rw [e] at hb
    subst hb
    clear e
    go_enter Try.func126, Try.ntmps126
    go_wp2_with (first
      | (go_at_call 119; refine (isCount_any _ _ _ _ hN).mono ?_; rintro e wx ⟨rfl, rfl⟩))
    go_ret
    exact ⟨rfl, B0⟩
  · skip
    cases hW : allW ws
    · skip
      have e : tB 3 0 pl nn ws l1 l2 = false := by simp [tB, hN, hW]
      rw [e] at hb
      subst hb
      clear e
      go_enter Try.func126, Try.ntmps126
      go_wp2_with (first
        | (go_at_call 119; refine (isCount_any _ _ _ _ hN).mono ?_; rintro e wx ⟨rfl, rfl⟩)
        | (go_at_call 118; refine (areWords_any _ _ _ ws _ H1.out S1.out hl1 _ hW).mono ?_; rintro e wx ⟨rfl, rfl⟩))
      go_ret
      exact ⟨rfl, B0⟩
    · skip
      have e : tB 3 0 pl nn ws l1 l2 = true := by simp [tB, hN, hW]
      rw [e] at hb
      subst hb
      clear e
      go_enter Try.func126, Try.ntmps126
      go_wp2_with (first
        | (go_at_call 119; refine (isCount_any _ _ _ _ hN).mono ?_; rintro e wx ⟨rfl, rfl⟩)
        | (go_at_call 118; refine (areWords_any _ _ _ ws _ H1.out S1.out hl1 _ hW).mono ?_; rintro e wx ⟨rfl, rfl⟩))
      go_ret
      exact ⟨rfl, B0⟩
set_option maxHeartbeats 4000000 in
theorem isTold_4 (pl nn : Int) (a1 a2 : Option Addr) (l1 l2 c1 c2 : Nat) (ws : List Int) (w : World) (h1 : l1 = ws.length) (s1 : SlI w a1 ws) (hl1 : ws.length ≤ 2000000) (hl2 : l2 ≤ 20000000) (b : Bool) (hb : tB 4 0 pl nn ws l1 l2 = b) :
    Calls Try.prog 126 #[rp 4 0 pl nn a1 a2 l1 l2 c1 c2] w fun e w' => e = .returned (.bool b) ∧ Below w.heap.size w w' := by
  have H1 : Hid (l1 = ws.length) := h1
  have hs : Hid (SlI w a1 ws) := s1
  have B0 := bel_alloc w (.cells #[.int .i64 4, .int .i64 0, .int .i64 pl, .int .i64 nn, .slice a1 l1 c1, .slice a2 l2 c2] 49)
  have S1 : Hid (SlI (w.alloc (.cells #[.int .i64 4, .int .i64 0, .int .i64 pl, .int .i64 nn, .slice a1 l1 c1, .slice a2 l2 c2] 49)) a1 ws) := s1.below B0
  clear h1 s1
  cases hN : inB l1 1 125
  · skip
    have e : tB 4 0 pl nn ws l1 l2 = false := by simp [tB, hN]
    rw [e] at hb
    subst hb
    clear e
    go_enter Try.func126, Try.ntmps126
    go_wp2_with (first
      | (go_at_call 119; refine (isCount_any _ _ _ _ hN).mono ?_; rintro e wx ⟨rfl, rfl⟩))
    go_ret
    exact ⟨rfl, B0⟩
  · skip
    cases hW : allW ws
    · skip
      have e : tB 4 0 pl nn ws l1 l2 = false := by simp [tB, hN, hW]
      rw [e] at hb
      subst hb
      clear e
      go_enter Try.func126, Try.ntmps126
      go_wp2_with (first
        | (go_at_call 119; refine (isCount_any _ _ _ _ hN).mono ?_; rintro e wx ⟨rfl, rfl⟩)
        | (go_at_call 118; refine (areWords_any _ _ _ ws _ H1.out S1.out hl1 _ hW).mono ?_; rintro e wx ⟨rfl, rfl⟩))
      go_ret
      exact ⟨rfl, B0⟩
    · skip
      have e : tB 4 0 pl nn ws l1 l2 = true := by simp [tB, hN, hW]
      rw [e] at hb
      subst hb
      clear e
      go_enter Try.func126, Try.ntmps126
      go_wp2_with (first
        | (go_at_call 119; refine (isCount_any _ _ _ _ hN).mono ?_; rintro e wx ⟨rfl, rfl⟩)
        | (go_at_call 118; refine (areWords_any _ _ _ ws _ H1.out S1.out hl1 _ hW).mono ?_; rintro e wx ⟨rfl, rfl⟩))
      go_ret
      exact ⟨rfl, B0⟩
set_option maxHeartbeats 4000000 in
theorem isTold_23 (pl nn : Int) (a1 a2 : Option Addr) (l1 l2 c1 c2 : Nat) (ws : List Int) (w : World) (h1 : l1 = ws.length) (s1 : SlI w a1 ws) (hl1 : ws.length ≤ 2000000) (hl2 : l2 ≤ 20000000) (b : Bool) (hb : tB 23 0 pl nn ws l1 l2 = b) :
    Calls Try.prog 126 #[rp 23 0 pl nn a1 a2 l1 l2 c1 c2] w fun e w' => e = .returned (.bool b) ∧ Below w.heap.size w w' := by
  have H1 : Hid (l1 = ws.length) := h1
  have hs : Hid (SlI w a1 ws) := s1
  have B0 := bel_alloc w (.cells #[.int .i64 23, .int .i64 0, .int .i64 pl, .int .i64 nn, .slice a1 l1 c1, .slice a2 l2 c2] 49)
  have S1 : Hid (SlI (w.alloc (.cells #[.int .i64 23, .int .i64 0, .int .i64 pl, .int .i64 nn, .slice a1 l1 c1, .slice a2 l2 c2] 49)) a1 ws) := s1.below B0
  clear h1 s1
  cases hN : inB l1 1 125
  · skip
    have e : tB 23 0 pl nn ws l1 l2 = false := by simp [tB, hN]
    rw [e] at hb
    subst hb
    clear e
    go_enter Try.func126, Try.ntmps126
    go_wp2_with (first
      | (go_at_call 119; refine (isCount_any _ _ _ _ hN).mono ?_; rintro e wx ⟨rfl, rfl⟩))
    go_ret
    exact ⟨rfl, B0⟩
  · skip
    cases hW : allW ws
    · skip
      have e : tB 23 0 pl nn ws l1 l2 = false := by simp [tB, hN, hW]
      rw [e] at hb
      subst hb
      clear e
      go_enter Try.func126, Try.ntmps126
      go_wp2_with (first
        | (go_at_call 119; refine (isCount_any _ _ _ _ hN).mono ?_; rintro e wx ⟨rfl, rfl⟩)
        | (go_at_call 118; refine (areWords_any _ _ _ ws _ H1.out S1.out hl1 _ hW).mono ?_; rintro e wx ⟨rfl, rfl⟩))
      go_ret
      exact ⟨rfl, B0⟩
    · skip
      have e : tB 23 0 pl nn ws l1 l2 = true := by simp [tB, hN, hW]
      rw [e] at hb
      subst hb
      clear e
      go_enter Try.func126, Try.ntmps126
      go_wp2_with (first
        | (go_at_call 119; refine (isCount_any _ _ _ _ hN).mono ?_; rintro e wx ⟨rfl, rfl⟩)
        | (go_at_call 118; refine (areWords_any _ _ _ ws _ H1.out S1.out hl1 _ hW).mono ?_; rintro e wx ⟨rfl, rfl⟩))
      go_ret
      exact ⟨rfl, B0⟩
set_option maxHeartbeats 4000000 in
theorem isTold_5 (pl nn : Int) (a1 a2 : Option Addr) (l1 l2 c1 c2 : Nat) (ws : List Int) (w : World) (h1 : l1 = ws.length) (s1 : SlI w a1 ws) (hl1 : ws.length ≤ 2000000) (hl2 : l2 ≤ 20000000) (b : Bool) (hb : tB 5 0 pl nn ws l1 l2 = b) :
    Calls Try.prog 126 #[rp 5 0 pl nn a1 a2 l1 l2 c1 c2] w fun e w' => e = .returned (.bool b) ∧ Below w.heap.size w w' := by
  have H1 : Hid (l1 = ws.length) := h1
  have hs : Hid (SlI w a1 ws) := s1
  have B0 := bel_alloc w (.cells #[.int .i64 5, .int .i64 0, .int .i64 pl, .int .i64 nn, .slice a1 l1 c1, .slice a2 l2 c2] 49)
  have S1 : Hid (SlI (w.alloc (.cells #[.int .i64 5, .int .i64 0, .int .i64 pl, .int .i64 nn, .slice a1 l1 c1, .slice a2 l2 c2] 49)) a1 ws) := s1.below B0
  clear h1 s1
  cases hP : inB pl 0 65535
  · skip
    have e : tB 5 0 pl nn ws l1 l2 = false := by simp [tB, hP]
    rw [e] at hb
    subst hb
    clear e
    go_enter Try.func126, Try.ntmps126
    go_wp2_with (first
      | (go_at_call 97; refine (isWord_any _ _ _ hP).mono ?_; rintro e wx ⟨rfl, rfl⟩))
    go_ret
    exact ⟨rfl, B0⟩
  · skip
    by_cases hL : l2 = 1
    · skip
      have e : tB 5 0 pl nn ws l1 l2 = true := by simp [tB, hP, hL]
      rw [e] at hb
      subst hb
      clear e
      have hLi : (l2 : Int) = 1 := by omega
      clear hL
      go_enter Try.func126, Try.ntmps126
      go_wp2_with (first
        | (go_at_call 97; refine (isWord_any _ _ _ hP).mono ?_; rintro e wx ⟨rfl, rfl⟩))
      go_ret
      exact ⟨rfl, B0⟩
    · skip
      have e : tB 5 0 pl nn ws l1 l2 = false := by simp [tB, hP, hL]
      rw [e] at hb
      subst hb
      clear e
      have hLi : ((l2 : Int) == 1) = false := by simp; omega
      clear hL
      go_enter Try.func126, Try.ntmps126
      go_wp2_with (first
        | (go_at_call 97; refine (isWord_any _ _ _ hP).mono ?_; rintro e wx ⟨rfl, rfl⟩))
      go_ret
      exact ⟨rfl, B0⟩
set_option maxHeartbeats 4000000 in
theorem isTold_6 (pl nn : Int) (a1 a2 : Option Addr) (l1 l2 c1 c2 : Nat) (ws : List Int) (w : World) (h1 : l1 = ws.length) (s1 : SlI w a1 ws) (hl1 : ws.length ≤ 2000000) (hl2 : l2 ≤ 20000000) (b : Bool) (hb : tB 6 0 pl nn ws l1 l2 = b) :
    Calls Try.prog 126 #[rp 6 0 pl nn a1 a2 l1 l2 c1 c2] w fun e w' => e = .returned (.bool b) ∧ Below w.heap.size w w' := by
  have H1 : Hid (l1 = ws.length) := h1
  have hs : Hid (SlI w a1 ws) := s1
  have B0 := bel_alloc w (.cells #[.int .i64 6, .int .i64 0, .int .i64 pl, .int .i64 nn, .slice a1 l1 c1, .slice a2 l2 c2] 49)
  have S1 : Hid (SlI (w.alloc (.cells #[.int .i64 6, .int .i64 0, .int .i64 pl, .int .i64 nn, .slice a1 l1 c1, .slice a2 l2 c2] 49)) a1 ws) := s1.below B0
  clear h1 s1
  cases hP : inB pl 0 65535
  · skip
    have e : tB 6 0 pl nn ws l1 l2 = false := by simp [tB, hP]
    rw [e] at hb
    subst hb
    clear e
    go_enter Try.func126, Try.ntmps126
    go_wp2_with (first
      | (go_at_call 97; refine (isWord_any _ _ _ hP).mono ?_; rintro e wx ⟨rfl, rfl⟩))
    go_ret
    exact ⟨rfl, B0⟩
  · skip
    by_cases hL : l1 = 1
    · skip
      cases hW : allW ws
      · skip
        have e : tB 6 0 pl nn ws l1 l2 = false := by simp [tB, hP, hL, hW]
        rw [e] at hb
        subst hb
        clear e
        have hLi : (l1 : Int) = 1 := by omega
        clear hL
        go_enter Try.func126, Try.ntmps126
        go_wp2_with (first
          | (go_at_call 97; refine (isWord_any _ _ _ hP).mono ?_; rintro e wx ⟨rfl, rfl⟩)
          | (go_at_call 118; refine (areWords_any _ _ _ ws _ H1.out S1.out hl1 _ hW).mono ?_; rintro e wx ⟨rfl, rfl⟩))
        go_ret
        exact ⟨rfl, B0⟩
      · skip
        have e : tB 6 0 pl nn ws l1 l2 = true := by simp [tB, hP, hL, hW]
        rw [e] at hb
        subst hb
        clear e
        have hLi : (l1 : Int) = 1 := by omega
        clear hL
        go_enter Try.func126, Try.ntmps126
        go_wp2_with (first
          | (go_at_call 97; refine (isWord_any _ _ _ hP).mono ?_; rintro e wx ⟨rfl, rfl⟩)
          | (go_at_call 118; refine (areWords_any _ _ _ ws _ H1.out S1.out hl1 _ hW).mono ?_; rintro e wx ⟨rfl, rfl⟩))
        go_ret
        exact ⟨rfl, B0⟩
    · skip
      have e : tB 6 0 pl nn ws l1 l2 = false := by simp [tB, hP, hL]
      rw [e] at hb
      subst hb
      clear e
      have hLi : ((l1 : Int) == 1) = false := by simp; omega
      clear hL
      go_enter Try.func126, Try.ntmps126
      go_wp2_with (first
        | (go_at_call 97; refine (isWord_any _ _ _ hP).mono ?_; rintro e wx ⟨rfl, rfl⟩))
      go_ret
      exact ⟨rfl, B0⟩
set_option maxHeartbeats 4000000 in
theorem isTold_22 (pl nn : Int) (a1 a2 : Option Addr) (l1 l2 c1 c2 : Nat) (ws : List Int) (w : World) (h1 : l1 = ws.length) (s1 : SlI w a1 ws) (hl1 : ws.length ≤ 2000000) (hl2 : l2 ≤ 20000000) (b : Bool) (hb : tB 22 0 pl nn ws l1 l2 = b) :
    Calls Try.prog 126 #[rp 22 0 pl nn a1 a2 l1 l2 c1 c2] w fun e w' => e = .returned (.bool b) ∧ Below w.heap.size w w' := by
  have H1 : Hid (l1 = ws.length) := h1
  have hs : Hid (SlI w a1 ws) := s1
  have B0 := bel_alloc w (.cells #[.int .i64 22, .int .i64 0, .int .i64 pl, .int .i64 nn, .slice a1 l1 c1, .slice a2 l2 c2] 49)
  have S1 : Hid (SlI (w.alloc (.cells #[.int .i64 22, .int .i64 0, .int .i64 pl, .int .i64 nn, .slice a1 l1 c1, .slice a2 l2 c2] 49)) a1 ws) := s1.below B0
  clear h1 s1
  cases hP : inB pl 0 65535
  · skip
    have e : tB 22 0 pl nn ws l1 l2 = false := by simp [tB, hP]
    rw [e] at hb
    subst hb
    clear e
    go_enter Try.func126, Try.ntmps126
    go_wp2_with (first
      | (go_at_call 97; refine (isWord_any _ _ _ hP).mono ?_; rintro e wx ⟨rfl, rfl⟩))
    go_ret
    exact ⟨rfl, B0⟩
  · skip
    by_cases hL : l1 = 2
    · skip
      cases hW : allW ws
      · skip
        have e : tB 22 0 pl nn ws l1 l2 = false := by simp [tB, hP, hL, hW]
        rw [e] at hb
        subst hb
        clear e
        have hLi : (l1 : Int) = 2 := by omega
        clear hL
        go_enter Try.func126, Try.ntmps126
        go_wp2_with (first
          | (go_at_call 97; refine (isWord_any _ _ _ hP).mono ?_; rintro e wx ⟨rfl, rfl⟩)
          | (go_at_call 118; refine (areWords_any _ _ _ ws _ H1.out S1.out hl1 _ hW).mono ?_; rintro e wx ⟨rfl, rfl⟩))
        go_ret
        exact ⟨rfl, B0⟩
      · skip
        have e : tB 22 0 pl nn ws l1 l2 = true := by simp [tB, hP, hL, hW]
        rw [e] at hb
        subst hb
        clear e
        have hLi : (l1 : Int) = 2 := by omega
        clear hL
        go_enter Try.func126, Try.ntmps126
        go_wp2_with (first
          | (go_at_call 97; refine (isWord_any _ _ _ hP).mono ?_; rintro e wx ⟨rfl, rfl⟩)
          | (go_at_call 118; refine (areWords_any _ _ _ ws _ H1.out S1.out hl1 _ hW).mono ?_; rintro e wx ⟨rfl, rfl⟩))
        go_ret
        exact ⟨rfl, B0⟩
    · skip
      have e : tB 22 0 pl nn ws l1 l2 = false := by simp [tB, hP, hL]
      rw [e] at hb
      subst hb
      clear e
      have hLi : ((l1 : Int) == 2) = false := by simp; omega
      clear hL
      go_enter Try.func126, Try.ntmps126
      go_wp2_with (first
        | (go_at_call 97; refine (isWord_any _ _ _ hP).mono ?_; rintro e wx ⟨rfl, rfl⟩))
      go_ret
      exact ⟨rfl, B0⟩
set_option maxHeartbeats 4000000 in
theorem isTold_15 (pl nn : Int) (a1 a2 : Option Addr) (l1 l2 c1 c2 : Nat) (ws : List Int) (w : World) (h1 : l1 = ws.length) (s1 : SlI w a1 ws) (hl1 : ws.length ≤ 2000000) (hl2 : l2 ≤ 20000000) (b : Bool) (hb : tB 15 0 pl nn ws l1 l2 = b) :
    Calls Try.prog 126 #[rp 15 0 pl nn a1 a2 l1 l2 c1 c2] w fun e w' => e = .returned (.bool b) ∧ Below w.heap.size w w' := by
  have H1 : Hid (l1 = ws.length) := h1
  have hs : Hid (SlI w a1 ws) := s1
  have B0 := bel_alloc w (.cells #[.int .i64 15, .int .i64 0, .int .i64 pl, .int .i64 nn, .slice a1 l1 c1, .slice a2 l2 c2] 49)
  have S1 : Hid (SlI (w.alloc (.cells #[.int .i64 15, .int .i64 0, .int .i64 pl, .int .i64 nn, .slice a1 l1 c1, .slice a2 l2 c2] 49)) a1 ws) := s1.below B0
  clear h1 s1
  cases hP : inB pl 0 65535
  · skip
    have e : tB 15 0 pl nn ws l1 l2 = false := by simp [tB, hP]
    rw [e] at hb
    subst hb
    clear e
    go_enter Try.func126, Try.ntmps126
    go_wp2_with (first
      | (go_at_call 97; refine (isWord_any _ _ _ hP).mono ?_; rintro e wx ⟨rfl, rfl⟩))
    go_ret
    exact ⟨rfl, B0⟩
  · skip
    cases hN : inB nn 1 1968
    · skip
      have e : tB 15 0 pl nn ws l1 l2 = false := by simp [tB, hP, hN]
      rw [e] at hb
      subst hb
      clear e
      go_enter Try.func126, Try.ntmps126
      go_wp2_with (first
        | (go_at_call 119; refine (isCount_any _ _ _ _ hN).mono ?_; rintro e wx ⟨rfl, rfl⟩)
        | (go_at_call 97; refine (isWord_any _ _ _ hP).mono ?_; rintro e wx ⟨rfl, rfl⟩))
      go_ret
      exact ⟨rfl, B0⟩
    · skip
      have e : tB 15 0 pl nn ws l1 l2 = true := by simp [tB, hP, hN]
      rw [e] at hb
      subst hb
      clear e
      go_enter Try.func126, Try.ntmps126
      go_wp2_with (first
        | (go_at_call 119; refine (isCount_any _ _ _ _ hN).mono ?_; rintro e wx ⟨rfl, rfl⟩)
        | (go_at_call 97; refine (isWord_any _ _ _ hP).mono ?_; rintro e wx ⟨rfl, rfl⟩))
      go_ret
      exact ⟨rfl, B0⟩
set_option maxHeartbeats 4000000 in
theorem isTold_16 (pl nn : Int) (a1 a2 : Option Addr) (l1 l2 c1 c2 : Nat) (ws : List Int) (w : World) (h1 : l1 = ws.length) (s1 : SlI w a1 ws) (hl1 : ws.length ≤ 2000000) (hl2 : l2 ≤ 20000000) (b : Bool) (hb : tB 16 0 pl nn ws l1 l2 = b) :
    Calls Try.prog 126 #[rp 16 0 pl nn a1 a2 l1 l2 c1 c2] w fun e w' => e = .returned (.bool b) ∧ Below w.heap.size w w' := by
  have H1 : Hid (l1 = ws.length) := h1
  have hs : Hid (SlI w a1 ws) := s1
  have B0 := bel_alloc w (.cells #[.int .i64 16, .int .i64 0, .int .i64 pl, .int .i64 nn, .slice a1 l1 c1, .slice a2 l2 c2] 49)
  have S1 : Hid (SlI (w.alloc (.cells #[.int .i64 16, .int .i64 0, .int .i64 pl, .int .i64 nn, .slice a1 l1 c1, .slice a2 l2 c2] 49)) a1 ws) := s1.below B0
  clear h1 s1
  cases hP : inB pl 0 65535
  · skip
    have e : tB 16 0 pl nn ws l1 l2 = false := by simp [tB, hP]
    rw [e] at hb
    subst hb
    clear e
    go_enter Try.func126, Try.ntmps126
    go_wp2_with (first
      | (go_at_call 97; refine (isWord_any _ _ _ hP).mono ?_; rintro e wx ⟨rfl, rfl⟩))
    go_ret
    exact ⟨rfl, B0⟩
  · skip
    cases hN : inB nn 1 123
    · skip
      have e : tB 16 0 pl nn ws l1 l2 = false := by simp [tB, hP, hN]
      rw [e] at hb
      subst hb
      clear e
      go_enter Try.func126, Try.ntmps126
      go_wp2_with (first
        | (go_at_call 119; refine (isCount_any _ _ _ _ hN).mono ?_; rintro e wx ⟨rfl, rfl⟩)
        | (go_at_call 97; refine (isWord_any _ _ _ hP).mono ?_; rintro e wx ⟨rfl, rfl⟩))
      go_ret
      exact ⟨rfl, B0⟩
    · skip
      have e : tB 16 0 pl nn ws l1 l2 = true := by simp [tB, hP, hN]
      rw [e] at hb
      subst hb
      clear e
      go_enter Try.func126, Try.ntmps126
      go_wp2_with (first
        | (go_at_call 119; refine (isCount_any _ _ _ _ hN).mono ?_; rintro e wx ⟨rfl, rfl⟩)
        | (go_at_call 97; refine (isWord_any _ _ _ hP).mono ?_; rintro e wx ⟨rfl, rfl⟩))
      go_ret
      exact ⟨rfl, B0⟩
set_option maxHeartbeats 4000000 in
theorem isTold_any (kd fl pl nn : Int) (a1 a2 : Option Addr) (l1 l2 c1 c2 : Nat) (ws : List Int) (w : World) (h1 : l1 = ws.length) (s1 : SlI w a1 ws) (hl1 : ws.length ≤ 2000000) (hl2 : l2 ≤ 20000000) (hk : kindB kd = true) (b : Bool) (hb : tB kd fl pl nn ws l1 l2 = b) :
    Calls Try.prog 126 #[rp kd fl pl nn a1 a2 l1 l2 c1 c2] w fun e w' => e = .returned (.bool b) ∧ Below w.heap.size w w' := by
  have H1 : Hid (l1 = ws.length) := h1
  have hs : Hid (SlI w a1 ws) := s1
  have B0 := bel_alloc w (.cells #[.int .i64 kd, .int .i64 fl, .int .i64 pl, .int .i64 nn, .slice a1 l1 c1, .slice a2 l2 c2] 49)
  have S1 : Hid (SlI (w.alloc (.cells #[.int .i64 kd, .int .i64 fl, .int .i64 pl, .int .i64 nn, .slice a1 l1 c1, .slice a2 l2 c2] 49)) a1 ws) := s1.below B0
  clear h1 s1
  by_cases h0 : fl = 0
  · skip
    subst h0
    clear S1 B0
    obtain rfl | rfl | rfl | rfl | rfl | rfl | rfl | rfl | rfl | rfl := of_decide_eq_true hk
    · exact isTold_1 pl nn a1 a2 l1 l2 c1 c2 ws w H1.out hs.out hl1 hl2 b hb
    · exact isTold_2 pl nn a1 a2 l1 l2 c1 c2 ws w H1.out hs.out hl1 hl2 b hb
    · exact isTold_3 pl nn a1 a2 l1 l2 c1 c2 ws w H1.out hs.out hl1 hl2 b hb
    · exact isTold_4 pl nn a1 a2 l1 l2 c1 c2 ws w H1.out hs.out hl1 hl2 b hb
    · exact isTold_5 pl nn a1 a2 l1 l2 c1 c2 ws w H1.out hs.out hl1 hl2 b hb
    · exact isTold_6 pl nn a1 a2 l1 l2 c1 c2 ws w H1.out hs.out hl1 hl2 b hb
    · exact isTold_15 pl nn a1 a2 l1 l2 c1 c2 ws w H1.out hs.out hl1 hl2 b hb
    · exact isTold_16 pl nn a1 a2 l1 l2 c1 c2 ws w H1.out hs.out hl1 hl2 b hb
    · exact isTold_22 pl nn a1 a2 l1 l2 c1 c2 ws w H1.out hs.out hl1 hl2 b hb
    · exact isTold_23 pl nn a1 a2 l1 l2 c1 c2 ws w H1.out hs.out hl1 hl2 b hb
  · skip
    have h0i : ¬ fl = 0 := h0
    cases hN : inB fl 1 255
    · skip
      have e : tB kd fl pl nn ws l1 l2 = false := by simp [tB, h0, hN]
      rw [e] at hb
      subst hb
      clear e
      go_enter Try.func126, Try.ntmps126
      go_wp2_with (first
        | (go_at_call 103; refine (isFault_any _ _ _ hN).mono ?_; rintro e wx ⟨rfl, rfl⟩))
      go_ret
      exact ⟨rfl, B0⟩
    · skip
      have e : tB kd fl pl nn ws l1 l2 = true := by simp [tB, h0, hN]
      rw [e] at hb
      subst hb
      clear e
      go_enter Try.func126, Try.ntmps126
      go_wp2_with (first
        | (go_at_call 103; refine (isFault_any _ _ _ hN).mono ?_; rintro e wx ⟨rfl, rfl⟩))
      go_ret
      exact ⟨rfl, B0⟩
end Go.Proofs.Ytegckbfbmbiogaa
