/- Texts that the proof needs, joined: Q2. -/
import Derived.Test.YtfdddkjonjpgpaaV4
namespace Go.Proofs.Ytfdddkjonjpgpaa
open Go.RowKit
set_option linter.unusedVariables false
def okK (kd pl nn wa : Int) (l1 l2 : Nat) : Bool :=
  if kd = 1 ∨ kd = 2 then zrB true false false false nn l1 l2 wa && (inB nn 1 2000 && fitB pl nn)
  else if kd = 3 ∨ kd = 4 then zrB true false false false nn l1 l2 wa && (inB nn 1 125 && fitB pl nn)
  else if kd = 5 then zrB false false true false nn l1 l2 wa && decide (l2 = 1)
  else if kd = 6 then zrB false true false false nn l1 l2 wa && decide (l1 = 1)
  else if kd = 15 then zrB false false true false nn l1 l2 wa && (inB l2 1 1968 && fitB pl l2)
  else if kd = 16 then zrB false true false false nn l1 l2 wa && (inB l1 1 123 && fitB pl l1)
  else if kd = 22 then zrB false true false false nn l1 l2 wa && decide (l1 = 2)
  else if kd = 23 then zrB true true false true nn l1 l2 wa && (inB nn 1 125 && (fitB pl nn && (inB l1 1 121 && fitB wa l1)))
  else false
def okR (kd pl nn wa : Int) (ws : List Int) (l1 l2 : Nat) : Bool := allW ws && (inB pl 0 65535 && okK kd pl nn wa l1 l2)
theorem inB_yes {x lo hi : Int} (h : inB x lo hi = true) : lo ≤ x ∧ x ≤ hi := by unfold inB at h; exact of_decide_eq_true h
set_option maxHeartbeats 4000000 in
theorem specReqOk_1 (pl nn wa : Int) (a1 a2 : Option Addr) (l1 l2 c1 c2 : Nat) (ws : List Int) (w : World) (h1 : l1 = ws.length) (s1 : SlI w a1 ws) (hl1 : ws.length ≤ 2000000) (hl2 : l2 ≤ 20000000) (hW : allW ws = true) (hP : inB pl 0 65535 = true) (b : Bool) (hb : okR 1 pl nn wa ws l1 l2 = b) :
    Calls Try.prog 68 #[rq 1 pl nn wa a1 a2 l1 l2 c1 c2] w fun e w' => e = .returned (.bool b) ∧ Below w.heap.size w w' := by
  have H1 : Hid (l1 = ws.length) := h1
  have B0 := bel_alloc w (.cells #[.int .i64 1, .int .i64 pl, .int .i64 nn, .slice a1 l1 c1, .slice a2 l2 c2, .int .i64 wa] 57)
  have X0 := Blk.new w #[.int .i64 1, .int .i64 pl, .int .i64 nn, .slice a1 l1 c1, .slice a2 l2 c2, .int .i64 wa] 57
  have S1 : Hid (SlI (w.alloc (.cells #[.int .i64 1, .int .i64 pl, .int .i64 nn, .slice a1 l1 c1, .slice a2 l2 c2, .int .i64 wa] 57)) a1 ws) := s1.below B0
  clear h1 s1
  cases hZ : zrB true false false false nn l1 l2 wa
  · skip
    have e : okR 1 pl nn wa ws l1 l2 = false := by simp [okR, okK, hW, hP, hZ]
    rw [e] at hb
    subst hb
    clear e
    go_enter Try.func68, Try.ntmps68
    go_wp2_with (first
      | (go_at_call 87; refine (l3Words_any _ _ _ ws _ H1.out S1.out hl1 _ hW).mono ?_; rintro e wx ⟨rfl, rfl⟩)
      | (go_at_call 73; refine (l1In_any _ _ _ _ _ (by first | exact hP)).mono ?_; rintro e wx ⟨rfl, rfl⟩)
      | (go_at_call 88; refine (l3Zero_tfff _ _ _ _ _ _ _ _ _ _ _ (by have := H1.out; omega) hl2 _ hZ).mono ?_; rintro e w1 ⟨rfl, b'⟩; have B1 := bel_next B0 b'; obtain ⟨y0, y1, y2, y3, y4, y5⟩ := (X0.below b').six; clear B0))
    go_ret
    exact ⟨rfl, B1⟩
  · skip
    cases hN : inB nn 1 2000
    · skip
      have e : okR 1 pl nn wa ws l1 l2 = false := by simp [okR, okK, hW, hP, hZ, hN]
      rw [e] at hb
      subst hb
      clear e
      go_enter Try.func68, Try.ntmps68
      go_wp2_with (first
        | (go_at_call 87; refine (l3Words_any _ _ _ ws _ H1.out S1.out hl1 _ hW).mono ?_; rintro e wx ⟨rfl, rfl⟩)
        | (go_at_call 73; refine (l1In_any _ _ _ _ _ (by first | exact hP | exact hN)).mono ?_; rintro e wx ⟨rfl, rfl⟩)
        | (go_at_call 88; refine (l3Zero_tfff _ _ _ _ _ _ _ _ _ _ _ (by have := H1.out; omega) hl2 _ hZ).mono ?_; rintro e w1 ⟨rfl, b'⟩; have B1 := bel_next B0 b'; obtain ⟨y0, y1, y2, y3, y4, y5⟩ := (X0.below b').six; clear B0))
      go_ret
      exact ⟨rfl, B1⟩
    · skip
      cases hF : fitB pl nn
      · skip
        have e : okR 1 pl nn wa ws l1 l2 = false := by simp [okR, okK, hW, hP, hZ, hN, hF]
        rw [e] at hb
        subst hb
        clear e
        have qhN := inB_yes hN
        go_enter Try.func68, Try.ntmps68
        go_wp2_with (first
          | (go_at_call 87; refine (l3Words_any _ _ _ ws _ H1.out S1.out hl1 _ hW).mono ?_; rintro e wx ⟨rfl, rfl⟩)
          | (go_at_call 73; refine (l1In_any _ _ _ _ _ (by first | exact hP | exact hN)).mono ?_; rintro e wx ⟨rfl, rfl⟩)
          | (go_at_call 88; refine (l3Zero_tfff _ _ _ _ _ _ _ _ _ _ _ (by have := H1.out; omega) hl2 _ hZ).mono ?_; rintro e w1 ⟨rfl, b'⟩; have B1 := bel_next B0 b'; obtain ⟨y0, y1, y2, y3, y4, y5⟩ := (X0.below b').six; clear B0)
          | (go_at_call 89; refine (l3Fits_any _ _ _ (by omega) (by omega) _ (by first | exact hF)).mono ?_; rintro e wx ⟨rfl, rfl⟩))
        go_ret
        exact ⟨rfl, B1⟩
      · skip
        have e : okR 1 pl nn wa ws l1 l2 = true := by simp [okR, okK, hW, hP, hZ, hN, hF]
        rw [e] at hb
        subst hb
        clear e
        have qhN := inB_yes hN
        go_enter Try.func68, Try.ntmps68
        go_wp2_with (first
          | (go_at_call 87; refine (l3Words_any _ _ _ ws _ H1.out S1.out hl1 _ hW).mono ?_; rintro e wx ⟨rfl, rfl⟩)
          | (go_at_call 73; refine (l1In_any _ _ _ _ _ (by first | exact hP | exact hN)).mono ?_; rintro e wx ⟨rfl, rfl⟩)
          | (go_at_call 88; refine (l3Zero_tfff _ _ _ _ _ _ _ _ _ _ _ (by have := H1.out; omega) hl2 _ hZ).mono ?_; rintro e w1 ⟨rfl, b'⟩; have B1 := bel_next B0 b'; obtain ⟨y0, y1, y2, y3, y4, y5⟩ := (X0.below b').six; clear B0)
          | (go_at_call 89; refine (l3Fits_any _ _ _ (by omega) (by omega) _ (by first | exact hF)).mono ?_; rintro e wx ⟨rfl, rfl⟩))
        go_ret
        exact ⟨rfl, B1⟩
set_option maxHeartbeats 4000000 in
theorem specReqOk_2 (pl nn wa : Int) (a1 a2 : Option Addr) (l1 l2 c1 c2 : Nat) (ws : List Int) (w : World) (h1 : l1 = ws.length) (s1 : SlI w a1 ws) (hl1 : ws.length ≤ 2000000) (hl2 : l2 ≤ 20000000) (hW : allW ws = true) (hP : inB pl 0 65535 = true) (b : Bool) (hb : okR 2 pl nn wa ws l1 l2 = b) :
    Calls Try.prog 68 #[rq 2 pl nn wa a1 a2 l1 l2 c1 c2] w fun e w' => e = .returned (.bool b) ∧ Below w.heap.size w w' := by
  have H1 : Hid (l1 = ws.length) := h1
  have B0 := bel_alloc w (.cells #[.int .i64 2, .int .i64 pl, .int .i64 nn, .slice a1 l1 c1, .slice a2 l2 c2, .int .i64 wa] 57)
  have X0 := Blk.new w #[.int .i64 2, .int .i64 pl, .int .i64 nn, .slice a1 l1 c1, .slice a2 l2 c2, .int .i64 wa] 57
  have S1 : Hid (SlI (w.alloc (.cells #[.int .i64 2, .int .i64 pl, .int .i64 nn, .slice a1 l1 c1, .slice a2 l2 c2, .int .i64 wa] 57)) a1 ws) := s1.below B0
  clear h1 s1
  cases hZ : zrB true false false false nn l1 l2 wa
  · skip
    have e : okR 2 pl nn wa ws l1 l2 = false := by simp [okR, okK, hW, hP, hZ]
    rw [e] at hb
    subst hb
    clear e
    go_enter Try.func68, Try.ntmps68
    go_wp2_with (first
      | (go_at_call 87; refine (l3Words_any _ _ _ ws _ H1.out S1.out hl1 _ hW).mono ?_; rintro e wx ⟨rfl, rfl⟩)
      | (go_at_call 73; refine (l1In_any _ _ _ _ _ (by first | exact hP)).mono ?_; rintro e wx ⟨rfl, rfl⟩)
      | (go_at_call 88; refine (l3Zero_tfff _ _ _ _ _ _ _ _ _ _ _ (by have := H1.out; omega) hl2 _ hZ).mono ?_; rintro e w1 ⟨rfl, b'⟩; have B1 := bel_next B0 b'; obtain ⟨y0, y1, y2, y3, y4, y5⟩ := (X0.below b').six; clear B0))
    go_ret
    exact ⟨rfl, B1⟩
  · skip
    cases hN : inB nn 1 2000
    · skip
      have e : okR 2 pl nn wa ws l1 l2 = false := by simp [okR, okK, hW, hP, hZ, hN]
      rw [e] at hb
      subst hb
      clear e
      go_enter Try.func68, Try.ntmps68
      go_wp2_with (first
        | (go_at_call 87; refine (l3Words_any _ _ _ ws _ H1.out S1.out hl1 _ hW).mono ?_; rintro e wx ⟨rfl, rfl⟩)
        | (go_at_call 73; refine (l1In_any _ _ _ _ _ (by first | exact hP | exact hN)).mono ?_; rintro e wx ⟨rfl, rfl⟩)
        | (go_at_call 88; refine (l3Zero_tfff _ _ _ _ _ _ _ _ _ _ _ (by have := H1.out; omega) hl2 _ hZ).mono ?_; rintro e w1 ⟨rfl, b'⟩; have B1 := bel_next B0 b'; obtain ⟨y0, y1, y2, y3, y4, y5⟩ := (X0.below b').six; clear B0))
      go_ret
      exact ⟨rfl, B1⟩
    · skip
      cases hF : fitB pl nn
      · skip
        have e : okR 2 pl nn wa ws l1 l2 = false := by simp [okR, okK, hW, hP, hZ, hN, hF]
        rw [e] at hb
        subst hb
        clear e
        have qhN := inB_yes hN
        go_enter Try.func68, Try.ntmps68
        go_wp2_with (first
          | (go_at_call 87; refine (l3Words_any _ _ _ ws _ H1.out S1.out hl1 _ hW).mono ?_; rintro e wx ⟨rfl, rfl⟩)
          | (go_at_call 73; refine (l1In_any _ _ _ _ _ (by first | exact hP | exact hN)).mono ?_; rintro e wx ⟨rfl, rfl⟩)
          | (go_at_call 88; refine (l3Zero_tfff _ _ _ _ _ _ _ _ _ _ _ (by have := H1.out; omega) hl2 _ hZ).mono ?_; rintro e w1 ⟨rfl, b'⟩; have B1 := bel_next B0 b'; obtain ⟨y0, y1, y2, y3, y4, y5⟩ := (X0.below b').six; clear B0)
          | (go_at_call 89; refine (l3Fits_any _ _ _ (by omega) (by omega) _ (by first | exact hF)).mono ?_; rintro e wx ⟨rfl, rfl⟩))
        go_ret
        exact ⟨rfl, B1⟩
      · skip
        have e : okR 2 pl nn wa ws l1 l2 = true := by simp [okR, okK, hW, hP, hZ, hN, hF]
        rw [e] at hb
        subst hb
        clear e
        have qhN := inB_yes hN
        go_enter Try.func68, Try.ntmps68
        go_wp2_with (first
          | (go_at_call 87; refine (l3Words_any _ _ _ ws _ H1.out S1.out hl1 _ hW).mono ?_; rintro e wx ⟨rfl, rfl⟩)
          | (go_at_call 73; refine (l1In_any _ _ _ _ _ (by first | exact hP | exact hN)).mono ?_; rintro e wx ⟨rfl, rfl⟩)
          | (go_at_call 88; refine (l3Zero_tfff _ _ _ _ _ _ _ _ _ _ _ (by have := H1.out; omega) hl2 _ hZ).mono ?_; rintro e w1 ⟨rfl, b'⟩; have B1 := bel_next B0 b'; obtain ⟨y0, y1, y2, y3, y4, y5⟩ := (X0.below b').six; clear B0)
          | (go_at_call 89; refine (l3Fits_any _ _ _ (by omega) (by omega) _ (by first | exact hF)).mono ?_; rintro e wx ⟨rfl, rfl⟩))
        go_ret
        exact ⟨rfl, B1⟩
set_option maxHeartbeats 4000000 in
theorem specReqOk_3 (pl nn wa : Int) (a1 a2 : Option Addr) (l1 l2 c1 c2 : Nat) (ws : List Int) (w : World) (h1 : l1 = ws.length) (s1 : SlI w a1 ws) (hl1 : ws.length ≤ 2000000) (hl2 : l2 ≤ 20000000) (hW : allW ws = true) (hP : inB pl 0 65535 = true) (b : Bool) (hb : okR 3 pl nn wa ws l1 l2 = b) :
    Calls Try.prog 68 #[rq 3 pl nn wa a1 a2 l1 l2 c1 c2] w fun e w' => e = .returned (.bool b) ∧ Below w.heap.size w w' := by
  have H1 : Hid (l1 = ws.length) := h1
  have B0 := bel_alloc w (.cells #[.int .i64 3, .int .i64 pl, .int .i64 nn, .slice a1 l1 c1, .slice a2 l2 c2, .int .i64 wa] 57)
  have X0 := Blk.new w #[.int .i64 3, .int .i64 pl, .int .i64 nn, .slice a1 l1 c1, .slice a2 l2 c2, .int .i64 wa] 57
  have S1 : Hid (SlI (w.alloc (.cells #[.int .i64 3, .int .i64 pl, .int .i64 nn, .slice a1 l1 c1, .slice a2 l2 c2, .int .i64 wa] 57)) a1 ws) := s1.below B0
  clear h1 s1
  cases hZ : zrB true false false false nn l1 l2 wa
  · skip
    have e : okR 3 pl nn wa ws l1 l2 = false := by simp [okR, okK, hW, hP, hZ]
    rw [e] at hb
    subst hb
    clear e
    go_enter Try.func68, Try.ntmps68
    go_wp2_with (first
      | (go_at_call 87; refine (l3Words_any _ _ _ ws _ H1.out S1.out hl1 _ hW).mono ?_; rintro e wx ⟨rfl, rfl⟩)
      | (go_at_call 73; refine (l1In_any _ _ _ _ _ (by first | exact hP)).mono ?_; rintro e wx ⟨rfl, rfl⟩)
      | (go_at_call 88; refine (l3Zero_tfff _ _ _ _ _ _ _ _ _ _ _ (by have := H1.out; omega) hl2 _ hZ).mono ?_; rintro e w1 ⟨rfl, b'⟩; have B1 := bel_next B0 b'; obtain ⟨y0, y1, y2, y3, y4, y5⟩ := (X0.below b').six; clear B0))
    go_ret
    exact ⟨rfl, B1⟩
  · skip
    cases hN : inB nn 1 125
    · skip
      have e : okR 3 pl nn wa ws l1 l2 = false := by simp [okR, okK, hW, hP, hZ, hN]
      rw [e] at hb
      subst hb
      clear e
      go_enter Try.func68, Try.ntmps68
      go_wp2_with (first
        | (go_at_call 87; refine (l3Words_any _ _ _ ws _ H1.out S1.out hl1 _ hW).mono ?_; rintro e wx ⟨rfl, rfl⟩)
        | (go_at_call 73; refine (l1In_any _ _ _ _ _ (by first | exact hP | exact hN)).mono ?_; rintro e wx ⟨rfl, rfl⟩)
        | (go_at_call 88; refine (l3Zero_tfff _ _ _ _ _ _ _ _ _ _ _ (by have := H1.out; omega) hl2 _ hZ).mono ?_; rintro e w1 ⟨rfl, b'⟩; have B1 := bel_next B0 b'; obtain ⟨y0, y1, y2, y3, y4, y5⟩ := (X0.below b').six; clear B0))
      go_ret
      exact ⟨rfl, B1⟩
    · skip
      cases hF : fitB pl nn
      · skip
        have e : okR 3 pl nn wa ws l1 l2 = false := by simp [okR, okK, hW, hP, hZ, hN, hF]
        rw [e] at hb
        subst hb
        clear e
        have qhN := inB_yes hN
        go_enter Try.func68, Try.ntmps68
        go_wp2_with (first
          | (go_at_call 87; refine (l3Words_any _ _ _ ws _ H1.out S1.out hl1 _ hW).mono ?_; rintro e wx ⟨rfl, rfl⟩)
          | (go_at_call 73; refine (l1In_any _ _ _ _ _ (by first | exact hP | exact hN)).mono ?_; rintro e wx ⟨rfl, rfl⟩)
          | (go_at_call 88; refine (l3Zero_tfff _ _ _ _ _ _ _ _ _ _ _ (by have := H1.out; omega) hl2 _ hZ).mono ?_; rintro e w1 ⟨rfl, b'⟩; have B1 := bel_next B0 b'; obtain ⟨y0, y1, y2, y3, y4, y5⟩ := (X0.below b').six; clear B0)
          | (go_at_call 89; refine (l3Fits_any _ _ _ (by omega) (by omega) _ (by first | exact hF)).mono ?_; rintro e wx ⟨rfl, rfl⟩))
        go_ret
        exact ⟨rfl, B1⟩
      · skip
        have e : okR 3 pl nn wa ws l1 l2 = true := by simp [okR, okK, hW, hP, hZ, hN, hF]
        rw [e] at hb
        subst hb
        clear e
        have qhN := inB_yes hN
        go_enter Try.func68, Try.ntmps68
        go_wp2_with (first
          | (go_at_call 87; refine (l3Words_any _ _ _ ws _ H1.out S1.out hl1 _ hW).mono ?_; rintro e wx ⟨rfl, rfl⟩)
          | (go_at_call 73; refine (l1In_any _ _ _ _ _ (by first | exact hP | exact hN)).mono ?_; rintro e wx ⟨rfl, rfl⟩)
          | (go_at_call 88; refine (l3Zero_tfff _ _ _ _ _ _ _ _ _ _ _ (by have := H1.out; omega) hl2 _ hZ).mono ?_; rintro e w1 ⟨rfl, b'⟩; have B1 := bel_next B0 b'; obtain ⟨y0, y1, y2, y3, y4, y5⟩ := (X0.below b').six; clear B0)
          | (go_at_call 89; refine (l3Fits_any _ _ _ (by omega) (by omega) _ (by first | exact hF)).mono ?_; rintro e wx ⟨rfl, rfl⟩))
        go_ret
        exact ⟨rfl, B1⟩
set_option maxHeartbeats 4000000 in
theorem specReqOk_4 (pl nn wa : Int) (a1 a2 : Option Addr) (l1 l2 c1 c2 : Nat) (ws : List Int) (w : World) (h1 : l1 = ws.length) (s1 : SlI w a1 ws) (hl1 : ws.length ≤ 2000000) (hl2 : l2 ≤ 20000000) (hW : allW ws = true) (hP : inB pl 0 65535 = true) (b : Bool) (hb : okR 4 pl nn wa ws l1 l2 = b) :
    Calls Try.prog 68 #[rq 4 pl nn wa a1 a2 l1 l2 c1 c2] w fun e w' => e = .returned (.bool b) ∧ Below w.heap.size w w' := by
  have H1 : Hid (l1 = ws.length) := h1
  have B0 := bel_alloc w (.cells #[.int .i64 4, .int .i64 pl, .int .i64 nn, .slice a1 l1 c1, .slice a2 l2 c2, .int .i64 wa] 57)
  have X0 := Blk.new w #[.int .i64 4, .int .i64 pl, .int .i64 nn, .slice a1 l1 c1, .slice a2 l2 c2, .int .i64 wa] 57
  have S1 : Hid (SlI (w.alloc (.cells #[.int .i64 4, .int .i64 pl, .int .i64 nn, .slice a1 l1 c1, .slice a2 l2 c2, .int .i64 wa] 57)) a1 ws) := s1.below B0
  clear h1 s1
  cases hZ : zrB true false false false nn l1 l2 wa
  · skip
    have e : okR 4 pl nn wa ws l1 l2 = false := by simp [okR, okK, hW, hP, hZ]
    rw [e] at hb
    subst hb
    clear e
    go_enter Try.func68, Try.ntmps68
    go_wp2_with (first
      | (go_at_call 87; refine (l3Words_any _ _ _ ws _ H1.out S1.out hl1 _ hW).mono ?_; rintro e wx ⟨rfl, rfl⟩)
      | (go_at_call 73; refine (l1In_any _ _ _ _ _ (by first | exact hP)).mono ?_; rintro e wx ⟨rfl, rfl⟩)
      | (go_at_call 88; refine (l3Zero_tfff _ _ _ _ _ _ _ _ _ _ _ (by have := H1.out; omega) hl2 _ hZ).mono ?_; rintro e w1 ⟨rfl, b'⟩; have B1 := bel_next B0 b'; obtain ⟨y0, y1, y2, y3, y4, y5⟩ := (X0.below b').six; clear B0))
    go_ret
    exact ⟨rfl, B1⟩
  · skip
    cases hN : inB nn 1 125
    · skip
      have e : okR 4 pl nn wa ws l1 l2 = false := by simp [okR, okK, hW, hP, hZ, hN]
      rw [e] at hb
      subst hb
      clear e
      go_enter Try.func68, Try.ntmps68
      go_wp2_with (first
        | (go_at_call 87; refine (l3Words_any _ _ _ ws _ H1.out S1.out hl1 _ hW).mono ?_; rintro e wx ⟨rfl, rfl⟩)
        | (go_at_call 73; refine (l1In_any _ _ _ _ _ (by first | exact hP | exact hN)).mono ?_; rintro e wx ⟨rfl, rfl⟩)
        | (go_at_call 88; refine (l3Zero_tfff _ _ _ _ _ _ _ _ _ _ _ (by have := H1.out; omega) hl2 _ hZ).mono ?_; rintro e w1 ⟨rfl, b'⟩; have B1 := bel_next B0 b'; obtain ⟨y0, y1, y2, y3, y4, y5⟩ := (X0.below b').six; clear B0))
      go_ret
      exact ⟨rfl, B1⟩
    · skip
      cases hF : fitB pl nn
      · skip
        have e : okR 4 pl nn wa ws l1 l2 = false := by simp [okR, okK, hW, hP, hZ, hN, hF]
        rw [e] at hb
        subst hb
        clear e
        have qhN := inB_yes hN
        go_enter Try.func68, Try.ntmps68
        go_wp2_with (first
          | (go_at_call 87; refine (l3Words_any _ _ _ ws _ H1.out S1.out hl1 _ hW).mono ?_; rintro e wx ⟨rfl, rfl⟩)
          | (go_at_call 73; refine (l1In_any _ _ _ _ _ (by first | exact hP | exact hN)).mono ?_; rintro e wx ⟨rfl, rfl⟩)
          | (go_at_call 88; refine (l3Zero_tfff _ _ _ _ _ _ _ _ _ _ _ (by have := H1.out; omega) hl2 _ hZ).mono ?_; rintro e w1 ⟨rfl, b'⟩; have B1 := bel_next B0 b'; obtain ⟨y0, y1, y2, y3, y4, y5⟩ := (X0.below b').six; clear B0)
          | (go_at_call 89; refine (l3Fits_any _ _ _ (by omega) (by omega) _ (by first | exact hF)).mono ?_; rintro e wx ⟨rfl, rfl⟩))
        go_ret
        exact ⟨rfl, B1⟩
      · skip
        have e : okR 4 pl nn wa ws l1 l2 = true := by simp [okR, okK, hW, hP, hZ, hN, hF]
        rw [e] at hb
        subst hb
        clear e
        have qhN := inB_yes hN
        go_enter Try.func68, Try.ntmps68
        go_wp2_with (first
          | (go_at_call 87; refine (l3Words_any _ _ _ ws _ H1.out S1.out hl1 _ hW).mono ?_; rintro e wx ⟨rfl, rfl⟩)
          | (go_at_call 73; refine (l1In_any _ _ _ _ _ (by first | exact hP | exact hN)).mono ?_; rintro e wx ⟨rfl, rfl⟩)
          | (go_at_call 88; refine (l3Zero_tfff _ _ _ _ _ _ _ _ _ _ _ (by have := H1.out; omega) hl2 _ hZ).mono ?_; rintro e w1 ⟨rfl, b'⟩; have B1 := bel_next B0 b'; obtain ⟨y0, y1, y2, y3, y4, y5⟩ := (X0.below b').six; clear B0)
          | (go_at_call 89; refine (l3Fits_any _ _ _ (by omega) (by omega) _ (by first | exact hF)).mono ?_; rintro e wx ⟨rfl, rfl⟩))
        go_ret
        exact ⟨rfl, B1⟩
set_option maxHeartbeats 4000000 in
theorem specReqOk_5 (pl nn wa : Int) (a1 a2 : Option Addr) (l1 l2 c1 c2 : Nat) (ws : List Int) (w : World) (h1 : l1 = ws.length) (s1 : SlI w a1 ws) (hl1 : ws.length ≤ 2000000) (hl2 : l2 ≤ 20000000) (hW : allW ws = true) (hP : inB pl 0 65535 = true) (b : Bool) (hb : okR 5 pl nn wa ws l1 l2 = b) :
    Calls Try.prog 68 #[rq 5 pl nn wa a1 a2 l1 l2 c1 c2] w fun e w' => e = .returned (.bool b) ∧ Below w.heap.size w w' := by
  have H1 : Hid (l1 = ws.length) := h1
  have B0 := bel_alloc w (.cells #[.int .i64 5, .int .i64 pl, .int .i64 nn, .slice a1 l1 c1, .slice a2 l2 c2, .int .i64 wa] 57)
  have X0 := Blk.new w #[.int .i64 5, .int .i64 pl, .int .i64 nn, .slice a1 l1 c1, .slice a2 l2 c2, .int .i64 wa] 57
  have S1 : Hid (SlI (w.alloc (.cells #[.int .i64 5, .int .i64 pl, .int .i64 nn, .slice a1 l1 c1, .slice a2 l2 c2, .int .i64 wa] 57)) a1 ws) := s1.below B0
  clear h1 s1
  cases hZ : zrB false false true false nn l1 l2 wa
  · skip
    have e : okR 5 pl nn wa ws l1 l2 = false := by simp [okR, okK, hW, hP, hZ]
    rw [e] at hb
    subst hb
    clear e
    go_enter Try.func68, Try.ntmps68
    go_wp2_with (first
      | (go_at_call 87; refine (l3Words_any _ _ _ ws _ H1.out S1.out hl1 _ hW).mono ?_; rintro e wx ⟨rfl, rfl⟩)
      | (go_at_call 73; refine (l1In_any _ _ _ _ _ (by first | exact hP)).mono ?_; rintro e wx ⟨rfl, rfl⟩)
      | (go_at_call 88; refine (l3Zero_fftf _ _ _ _ _ _ _ _ _ _ _ (by have := H1.out; omega) hl2 _ hZ).mono ?_; rintro e w1 ⟨rfl, b'⟩; have B1 := bel_next B0 b'; obtain ⟨y0, y1, y2, y3, y4, y5⟩ := (X0.below b').six; clear B0))
    go_ret
    exact ⟨rfl, B1⟩
  · skip
    by_cases hL : l2 = 1
    · skip
      have e : okR 5 pl nn wa ws l1 l2 = true := by have q := hZ; rw [hL] at q ⊢; simp [okR, okK, hW, hP, q]
      rw [e] at hb
      subst hb
      clear e
      have hLi : (l2 : Int) = 1 := by omega
      have HL : Hid (l2 = 1) := hL
      clear hL
      go_enter Try.func68, Try.ntmps68
      go_wp2_with (first
        | (go_at_call 87; refine (l3Words_any _ _ _ ws _ H1.out S1.out hl1 _ hW).mono ?_; rintro e wx ⟨rfl, rfl⟩)
        | (go_at_call 73; refine (l1In_any _ _ _ _ _ (by first | exact hP)).mono ?_; rintro e wx ⟨rfl, rfl⟩)
        | (go_at_call 88; refine (l3Zero_fftf _ _ _ _ _ _ _ _ _ _ _ (by have := H1.out; omega) hl2 _ hZ).mono ?_; rintro e w1 ⟨rfl, b'⟩; have B1 := bel_next B0 b'; obtain ⟨y0, y1, y2, y3, y4, y5⟩ := (X0.below b').six; clear B0))
      go_ret
      exact ⟨rfl, B1⟩
    · skip
      have e : okR 5 pl nn wa ws l1 l2 = false := by simp [okR, okK, hW, hP, hZ, hL]
      rw [e] at hb
      subst hb
      clear e
      have hLi : ((l2 : Int) == 1) = false := by simp; omega
      clear hL
      go_enter Try.func68, Try.ntmps68
      go_wp2_with (first
        | (go_at_call 87; refine (l3Words_any _ _ _ ws _ H1.out S1.out hl1 _ hW).mono ?_; rintro e wx ⟨rfl, rfl⟩)
        | (go_at_call 73; refine (l1In_any _ _ _ _ _ (by first | exact hP)).mono ?_; rintro e wx ⟨rfl, rfl⟩)
        | (go_at_call 88; refine (l3Zero_fftf _ _ _ _ _ _ _ _ _ _ _ (by have := H1.out; omega) hl2 _ hZ).mono ?_; rintro e w1 ⟨rfl, b'⟩; have B1 := bel_next B0 b'; obtain ⟨y0, y1, y2, y3, y4, y5⟩ := (X0.below b').six; clear B0))
      go_ret
      exact ⟨rfl, B1⟩
set_option maxHeartbeats 4000000 in
theorem specReqOk_6 (pl nn wa : Int) (a1 a2 : Option Addr) (l1 l2 c1 c2 : Nat) (ws : List Int) (w : World) (h1 : l1 = ws.length) (s1 : SlI w a1 ws) (hl1 : ws.length ≤ 2000000) (hl2 : l2 ≤ 20000000) (hW : allW ws = true) (hP : inB pl 0 65535 = true) (b : Bool) (hb : okR 6 pl nn wa ws l1 l2 = b) :
    Calls Try.prog 68 #[rq 6 pl nn wa a1 a2 l1 l2 c1 c2] w fun e w' => e = .returned (.bool b) ∧ Below w.heap.size w w' := by
  have H1 : Hid (l1 = ws.length) := h1
  have B0 := bel_alloc w (.cells #[.int .i64 6, .int .i64 pl, .int .i64 nn, .slice a1 l1 c1, .slice a2 l2 c2, .int .i64 wa] 57)
  have X0 := Blk.new w #[.int .i64 6, .int .i64 pl, .int .i64 nn, .slice a1 l1 c1, .slice a2 l2 c2, .int .i64 wa] 57
  have S1 : Hid (SlI (w.alloc (.cells #[.int .i64 6, .int .i64 pl, .int .i64 nn, .slice a1 l1 c1, .slice a2 l2 c2, .int .i64 wa] 57)) a1 ws) := s1.below B0
  clear h1 s1
  cases hZ : zrB false true false false nn l1 l2 wa
  · skip
    have e : okR 6 pl nn wa ws l1 l2 = false := by simp [okR, okK, hW, hP, hZ]
    rw [e] at hb
    subst hb
    clear e
    go_enter Try.func68, Try.ntmps68
    go_wp2_with (first
      | (go_at_call 87; refine (l3Words_any _ _ _ ws _ H1.out S1.out hl1 _ hW).mono ?_; rintro e wx ⟨rfl, rfl⟩)
      | (go_at_call 73; refine (l1In_any _ _ _ _ _ (by first | exact hP)).mono ?_; rintro e wx ⟨rfl, rfl⟩)
      | (go_at_call 88; refine (l3Zero_ftff _ _ _ _ _ _ _ _ _ _ _ (by have := H1.out; omega) hl2 _ hZ).mono ?_; rintro e w1 ⟨rfl, b'⟩; have B1 := bel_next B0 b'; obtain ⟨y0, y1, y2, y3, y4, y5⟩ := (X0.below b').six; clear B0))
    go_ret
    exact ⟨rfl, B1⟩
  · skip
    by_cases hL : l1 = 1
    · skip
      have e : okR 6 pl nn wa ws l1 l2 = true := by have q := hZ; rw [hL] at q ⊢; simp [okR, okK, hW, hP, q]
      rw [e] at hb
      subst hb
      clear e
      have hLi : (l1 : Int) = 1 := by omega
      have HL : Hid (l1 = 1) := hL
      clear hL
      go_enter Try.func68, Try.ntmps68
      go_wp2_with (first
        | (go_at_call 87; refine (l3Words_any _ _ _ ws _ H1.out S1.out hl1 _ hW).mono ?_; rintro e wx ⟨rfl, rfl⟩)
        | (go_at_call 73; refine (l1In_any _ _ _ _ _ (by first | exact hP)).mono ?_; rintro e wx ⟨rfl, rfl⟩)
        | (go_at_call 88; refine (l3Zero_ftff _ _ _ _ _ _ _ _ _ _ _ (by have := H1.out; omega) hl2 _ hZ).mono ?_; rintro e w1 ⟨rfl, b'⟩; have B1 := bel_next B0 b'; obtain ⟨y0, y1, y2, y3, y4, y5⟩ := (X0.below b').six; clear B0))
      go_ret
      exact ⟨rfl, B1⟩
    · skip
      have e : okR 6 pl nn wa ws l1 l2 = false := by simp [okR, okK, hW, hP, hZ, hL]
      rw [e] at hb
      subst hb
      clear e
      have hLi : ((l1 : Int) == 1) = false := by simp; omega
      clear hL
      go_enter Try.func68, Try.ntmps68
      go_wp2_with (first
        | (go_at_call 87; refine (l3Words_any _ _ _ ws _ H1.out S1.out hl1 _ hW).mono ?_; rintro e wx ⟨rfl, rfl⟩)
        | (go_at_call 73; refine (l1In_any _ _ _ _ _ (by first | exact hP)).mono ?_; rintro e wx ⟨rfl, rfl⟩)
        | (go_at_call 88; refine (l3Zero_ftff _ _ _ _ _ _ _ _ _ _ _ (by have := H1.out; omega) hl2 _ hZ).mono ?_; rintro e w1 ⟨rfl, b'⟩; have B1 := bel_next B0 b'; obtain ⟨y0, y1, y2, y3, y4, y5⟩ := (X0.below b').six; clear B0))
      go_ret
      exact ⟨rfl, B1⟩
set_option maxHeartbeats 4000000 in
theorem specReqOk_15 (pl nn wa : Int) (a1 a2 : Option Addr) (l1 l2 c1 c2 : Nat) (ws : List Int) (w : World) (h1 : l1 = ws.length) (s1 : SlI w a1 ws) (hl1 : ws.length ≤ 2000000) (hl2 : l2 ≤ 20000000) (hW : allW ws = true) (hP : inB pl 0 65535 = true) (b : Bool) (hb : okR 15 pl nn wa ws l1 l2 = b) :
    Calls Try.prog 68 #[rq 15 pl nn wa a1 a2 l1 l2 c1 c2] w fun e w' => e = .returned (.bool b) ∧ Below w.heap.size w w' := by
  have H1 : Hid (l1 = ws.length) := h1
  have B0 := bel_alloc w (.cells #[.int .i64 15, .int .i64 pl, .int .i64 nn, .slice a1 l1 c1, .slice a2 l2 c2, .int .i64 wa] 57)
  have X0 := Blk.new w #[.int .i64 15, .int .i64 pl, .int .i64 nn, .slice a1 l1 c1, .slice a2 l2 c2, .int .i64 wa] 57
  have S1 : Hid (SlI (w.alloc (.cells #[.int .i64 15, .int .i64 pl, .int .i64 nn, .slice a1 l1 c1, .slice a2 l2 c2, .int .i64 wa] 57)) a1 ws) := s1.below B0
  clear h1 s1
  cases hZ : zrB false false true false nn l1 l2 wa
  · skip
    have e : okR 15 pl nn wa ws l1 l2 = false := by simp [okR, okK, hW, hP, hZ]
    rw [e] at hb
    subst hb
    clear e
    go_enter Try.func68, Try.ntmps68
    go_wp2_with (first
      | (go_at_call 87; refine (l3Words_any _ _ _ ws _ H1.out S1.out hl1 _ hW).mono ?_; rintro e wx ⟨rfl, rfl⟩)
      | (go_at_call 73; refine (l1In_any _ _ _ _ _ (by first | exact hP)).mono ?_; rintro e wx ⟨rfl, rfl⟩)
      | (go_at_call 88; refine (l3Zero_fftf _ _ _ _ _ _ _ _ _ _ _ (by have := H1.out; omega) hl2 _ hZ).mono ?_; rintro e w1 ⟨rfl, b'⟩; have B1 := bel_next B0 b'; obtain ⟨y0, y1, y2, y3, y4, y5⟩ := (X0.below b').six; clear B0))
    go_ret
    exact ⟨rfl, B1⟩
  · skip
    cases hN : inB l2 1 1968
    · skip
      have e : okR 15 pl nn wa ws l1 l2 = false := by simp [okR, okK, hW, hP, hZ, hN]
      rw [e] at hb
      subst hb
      clear e
      go_enter Try.func68, Try.ntmps68
      go_wp2_with (first
        | (go_at_call 87; refine (l3Words_any _ _ _ ws _ H1.out S1.out hl1 _ hW).mono ?_; rintro e wx ⟨rfl, rfl⟩)
        | (go_at_call 73; refine (l1In_any _ _ _ _ _ (by first | exact hP | exact hN)).mono ?_; rintro e wx ⟨rfl, rfl⟩)
        | (go_at_call 88; refine (l3Zero_fftf _ _ _ _ _ _ _ _ _ _ _ (by have := H1.out; omega) hl2 _ hZ).mono ?_; rintro e w1 ⟨rfl, b'⟩; have B1 := bel_next B0 b'; obtain ⟨y0, y1, y2, y3, y4, y5⟩ := (X0.below b').six; clear B0))
      go_ret
      exact ⟨rfl, B1⟩
    · skip
      cases hF : fitB pl l2
      · skip
        have e : okR 15 pl nn wa ws l1 l2 = false := by simp [okR, okK, hW, hP, hZ, hN, hF]
        rw [e] at hb
        subst hb
        clear e
        have qhN := inB_yes hN
        go_enter Try.func68, Try.ntmps68
        go_wp2_with (first
          | (go_at_call 87; refine (l3Words_any _ _ _ ws _ H1.out S1.out hl1 _ hW).mono ?_; rintro e wx ⟨rfl, rfl⟩)
          | (go_at_call 73; refine (l1In_any _ _ _ _ _ (by first | exact hP | exact hN)).mono ?_; rintro e wx ⟨rfl, rfl⟩)
          | (go_at_call 88; refine (l3Zero_fftf _ _ _ _ _ _ _ _ _ _ _ (by have := H1.out; omega) hl2 _ hZ).mono ?_; rintro e w1 ⟨rfl, b'⟩; have B1 := bel_next B0 b'; obtain ⟨y0, y1, y2, y3, y4, y5⟩ := (X0.below b').six; clear B0)
          | (go_at_call 89; refine (l3Fits_any _ _ _ (by omega) (by omega) _ (by first | exact hF)).mono ?_; rintro e wx ⟨rfl, rfl⟩))
        go_ret
        exact ⟨rfl, B1⟩
      · skip
        have e : okR 15 pl nn wa ws l1 l2 = true := by simp [okR, okK, hW, hP, hZ, hN, hF]
        rw [e] at hb
        subst hb
        clear e
        have qhN := inB_yes hN
        go_enter Try.func68, Try.ntmps68
        go_wp2_with (first
          | (go_at_call 87; refine (l3Words_any _ _ _ ws _ H1.out S1.out hl1 _ hW).mono ?_; rintro e wx ⟨rfl, rfl⟩)
          | (go_at_call 73; refine (l1In_any _ _ _ _ _ (by first | exact hP | exact hN)).mono ?_; rintro e wx ⟨rfl, rfl⟩)
          | (go_at_call 88; refine (l3Zero_fftf _ _ _ _ _ _ _ _ _ _ _ (by have := H1.out; omega) hl2 _ hZ).mono ?_; rintro e w1 ⟨rfl, b'⟩; have B1 := bel_next B0 b'; obtain ⟨y0, y1, y2, y3, y4, y5⟩ := (X0.below b').six; clear B0)
          | (go_at_call 89; refine (l3Fits_any _ _ _ (by omega) (by omega) _ (by first | exact hF)).mono ?_; rintro e wx ⟨rfl, rfl⟩))
        go_ret
        exact ⟨rfl, B1⟩
set_option maxHeartbeats 4000000 in
theorem specReqOk_16 (pl nn wa : Int) (a1 a2 : Option Addr) (l1 l2 c1 c2 : Nat) (ws : List Int) (w : World) (h1 : l1 = ws.length) (s1 : SlI w a1 ws) (hl1 : ws.length ≤ 2000000) (hl2 : l2 ≤ 20000000) (hW : allW ws = true) (hP : inB pl 0 65535 = true) (b : Bool) (hb : okR 16 pl nn wa ws l1 l2 = b) :
    Calls Try.prog 68 #[rq 16 pl nn wa a1 a2 l1 l2 c1 c2] w fun e w' => e = .returned (.bool b) ∧ Below w.heap.size w w' := by
  have H1 : Hid (l1 = ws.length) := h1
  have B0 := bel_alloc w (.cells #[.int .i64 16, .int .i64 pl, .int .i64 nn, .slice a1 l1 c1, .slice a2 l2 c2, .int .i64 wa] 57)
  have X0 := Blk.new w #[.int .i64 16, .int .i64 pl, .int .i64 nn, .slice a1 l1 c1, .slice a2 l2 c2, .int .i64 wa] 57
  have S1 : Hid (SlI (w.alloc (.cells #[.int .i64 16, .int .i64 pl, .int .i64 nn, .slice a1 l1 c1, .slice a2 l2 c2, .int .i64 wa] 57)) a1 ws) := s1.below B0
  clear h1 s1
  cases hZ : zrB false true false false nn l1 l2 wa
  · skip
    have e : okR 16 pl nn wa ws l1 l2 = false := by simp [okR, okK, hW, hP, hZ]
    rw [e] at hb
    subst hb
    clear e
    go_enter Try.func68, Try.ntmps68
    go_wp2_with (first
      | (go_at_call 87; refine (l3Words_any _ _ _ ws _ H1.out S1.out hl1 _ hW).mono ?_; rintro e wx ⟨rfl, rfl⟩)
      | (go_at_call 73; refine (l1In_any _ _ _ _ _ (by first | exact hP)).mono ?_; rintro e wx ⟨rfl, rfl⟩)
      | (go_at_call 88; refine (l3Zero_ftff _ _ _ _ _ _ _ _ _ _ _ (by have := H1.out; omega) hl2 _ hZ).mono ?_; rintro e w1 ⟨rfl, b'⟩; have B1 := bel_next B0 b'; obtain ⟨y0, y1, y2, y3, y4, y5⟩ := (X0.below b').six; clear B0))
    go_ret
    exact ⟨rfl, B1⟩
  · skip
    cases hN : inB l1 1 123
    · skip
      have e : okR 16 pl nn wa ws l1 l2 = false := by simp [okR, okK, hW, hP, hZ, hN]
      rw [e] at hb
      subst hb
      clear e
      go_enter Try.func68, Try.ntmps68
      go_wp2_with (first
        | (go_at_call 87; refine (l3Words_any _ _ _ ws _ H1.out S1.out hl1 _ hW).mono ?_; rintro e wx ⟨rfl, rfl⟩)
        | (go_at_call 73; refine (l1In_any _ _ _ _ _ (by first | exact hP | exact hN)).mono ?_; rintro e wx ⟨rfl, rfl⟩)
        | (go_at_call 88; refine (l3Zero_ftff _ _ _ _ _ _ _ _ _ _ _ (by have := H1.out; omega) hl2 _ hZ).mono ?_; rintro e w1 ⟨rfl, b'⟩; have B1 := bel_next B0 b'; obtain ⟨y0, y1, y2, y3, y4, y5⟩ := (X0.below b').six; clear B0))
      go_ret
      exact ⟨rfl, B1⟩
    · skip
      cases hF : fitB pl l1
      · skip
        have e : okR 16 pl nn wa ws l1 l2 = false := by simp [okR, okK, hW, hP, hZ, hN, hF]
        rw [e] at hb
        subst hb
        clear e
        have qhN := inB_yes hN
        go_enter Try.func68, Try.ntmps68
        go_wp2_with (first
          | (go_at_call 87; refine (l3Words_any _ _ _ ws _ H1.out S1.out hl1 _ hW).mono ?_; rintro e wx ⟨rfl, rfl⟩)
          | (go_at_call 73; refine (l1In_any _ _ _ _ _ (by first | exact hP | exact hN)).mono ?_; rintro e wx ⟨rfl, rfl⟩)
          | (go_at_call 88; refine (l3Zero_ftff _ _ _ _ _ _ _ _ _ _ _ (by have := H1.out; omega) hl2 _ hZ).mono ?_; rintro e w1 ⟨rfl, b'⟩; have B1 := bel_next B0 b'; obtain ⟨y0, y1, y2, y3, y4, y5⟩ := (X0.below b').six; clear B0)
          | (go_at_call 89; refine (l3Fits_any _ _ _ (by omega) (by omega) _ (by first | exact hF)).mono ?_; rintro e wx ⟨rfl, rfl⟩))
        go_ret
        exact ⟨rfl, B1⟩
      · skip
        have e : okR 16 pl nn wa ws l1 l2 = true := by simp [okR, okK, hW, hP, hZ, hN, hF]
        rw [e] at hb
        subst hb
        clear e
        have qhN := inB_yes hN
        go_enter Try.func68, Try.ntmps68
        go_wp2_with (first
          | (go_at_call 87; refine (l3Words_any _ _ _ ws _ H1.out S1.out hl1 _ hW).mono ?_; rintro e wx ⟨rfl, rfl⟩)
          | (go_at_call 73; refine (l1In_any _ _ _ _ _ (by first | exact hP | exact hN)).mono ?_; rintro e wx ⟨rfl, rfl⟩)
          | (go_at_call 88; refine (l3Zero_ftff _ _ _ _ _ _ _ _ _ _ _ (by have := H1.out; omega) hl2 _ hZ).mono ?_; rintro e w1 ⟨rfl, b'⟩; have B1 := bel_next B0 b'; obtain ⟨y0, y1, y2, y3, y4, y5⟩ := (X0.below b').six; clear B0)
          | (go_at_call 89; refine (l3Fits_any _ _ _ (by omega) (by omega) _ (by first | exact hF)).mono ?_; rintro e wx ⟨rfl, rfl⟩))
        go_ret
        exact ⟨rfl, B1⟩
set_option maxHeartbeats 4000000 in
theorem specReqOk_22 (pl nn wa : Int) (a1 a2 : Option Addr) (l1 l2 c1 c2 : Nat) (ws : List Int) (w : World) (h1 : l1 = ws.length) (s1 : SlI w a1 ws) (hl1 : ws.length ≤ 2000000) (hl2 : l2 ≤ 20000000) (hW : allW ws = true) (hP : inB pl 0 65535 = true) (b : Bool) (hb : okR 22 pl nn wa ws l1 l2 = b) :
    Calls Try.prog 68 #[rq 22 pl nn wa a1 a2 l1 l2 c1 c2] w fun e w' => e = .returned (.bool b) ∧ Below w.heap.size w w' := by
  have H1 : Hid (l1 = ws.length) := h1
  have B0 := bel_alloc w (.cells #[.int .i64 22, .int .i64 pl, .int .i64 nn, .slice a1 l1 c1, .slice a2 l2 c2, .int .i64 wa] 57)
  have X0 := Blk.new w #[.int .i64 22, .int .i64 pl, .int .i64 nn, .slice a1 l1 c1, .slice a2 l2 c2, .int .i64 wa] 57
  have S1 : Hid (SlI (w.alloc (.cells #[.int .i64 22, .int .i64 pl, .int .i64 nn, .slice a1 l1 c1, .slice a2 l2 c2, .int .i64 wa] 57)) a1 ws) := s1.below B0
  clear h1 s1
  cases hZ : zrB false true false false nn l1 l2 wa
  · skip
    have e : okR 22 pl nn wa ws l1 l2 = false := by simp [okR, okK, hW, hP, hZ]
    rw [e] at hb
    subst hb
    clear e
    go_enter Try.func68, Try.ntmps68
    go_wp2_with (first
      | (go_at_call 87; refine (l3Words_any _ _ _ ws _ H1.out S1.out hl1 _ hW).mono ?_; rintro e wx ⟨rfl, rfl⟩)
      | (go_at_call 73; refine (l1In_any _ _ _ _ _ (by first | exact hP)).mono ?_; rintro e wx ⟨rfl, rfl⟩)
      | (go_at_call 88; refine (l3Zero_ftff _ _ _ _ _ _ _ _ _ _ _ (by have := H1.out; omega) hl2 _ hZ).mono ?_; rintro e w1 ⟨rfl, b'⟩; have B1 := bel_next B0 b'; obtain ⟨y0, y1, y2, y3, y4, y5⟩ := (X0.below b').six; clear B0))
    go_ret
    exact ⟨rfl, B1⟩
  · skip
    by_cases hL : l1 = 2
    · skip
      have e : okR 22 pl nn wa ws l1 l2 = true := by have q := hZ; rw [hL] at q ⊢; simp [okR, okK, hW, hP, q]
      rw [e] at hb
      subst hb
      clear e
      have hLi : (l1 : Int) = 2 := by omega
      have HL : Hid (l1 = 2) := hL
      clear hL
      go_enter Try.func68, Try.ntmps68
      go_wp2_with (first
        | (go_at_call 87; refine (l3Words_any _ _ _ ws _ H1.out S1.out hl1 _ hW).mono ?_; rintro e wx ⟨rfl, rfl⟩)
        | (go_at_call 73; refine (l1In_any _ _ _ _ _ (by first | exact hP)).mono ?_; rintro e wx ⟨rfl, rfl⟩)
        | (go_at_call 88; refine (l3Zero_ftff _ _ _ _ _ _ _ _ _ _ _ (by have := H1.out; omega) hl2 _ hZ).mono ?_; rintro e w1 ⟨rfl, b'⟩; have B1 := bel_next B0 b'; obtain ⟨y0, y1, y2, y3, y4, y5⟩ := (X0.below b').six; clear B0))
      go_ret
      exact ⟨rfl, B1⟩
    · skip
      have e : okR 22 pl nn wa ws l1 l2 = false := by simp [okR, okK, hW, hP, hZ, hL]
      rw [e] at hb
      subst hb
      clear e
      have hLi : ((l1 : Int) == 2) = false := by simp; omega
      clear hL
      go_enter Try.func68, Try.ntmps68
      go_wp2_with (first
        | (go_at_call 87; refine (l3Words_any _ _ _ ws _ H1.out S1.out hl1 _ hW).mono ?_; rintro e wx ⟨rfl, rfl⟩)
        | (go_at_call 73; refine (l1In_any _ _ _ _ _ (by first | exact hP)).mono ?_; rintro e wx ⟨rfl, rfl⟩)
        | (go_at_call 88; refine (l3Zero_ftff _ _ _ _ _ _ _ _ _ _ _ (by have := H1.out; omega) hl2 _ hZ).mono ?_; rintro e w1 ⟨rfl, b'⟩; have B1 := bel_next B0 b'; obtain ⟨y0, y1, y2, y3, y4, y5⟩ := (X0.below b').six; clear B0))
      go_ret
      exact ⟨rfl, B1⟩
set_option maxHeartbeats 4000000 in
theorem specReqOk_23 (pl nn wa : Int) (a1 a2 : Option Addr) (l1 l2 c1 c2 : Nat) (ws : List Int) (w : World) (h1 : l1 = ws.length) (s1 : SlI w a1 ws) (hl1 : ws.length ≤ 2000000) (hl2 : l2 ≤ 20000000) (hW : allW ws = true) (hP : inB pl 0 65535 = true) (b : Bool) (hb : okR 23 pl nn wa ws l1 l2 = b) :
    Calls Try.prog 68 #[rq 23 pl nn wa a1 a2 l1 l2 c1 c2] w fun e w' => e = .returned (.bool b) ∧ Below w.heap.size w w' := by
  have H1 : Hid (l1 = ws.length) := h1
  have B0 := bel_alloc w (.cells #[.int .i64 23, .int .i64 pl, .int .i64 nn, .slice a1 l1 c1, .slice a2 l2 c2, .int .i64 wa] 57)
  have X0 := Blk.new w #[.int .i64 23, .int .i64 pl, .int .i64 nn, .slice a1 l1 c1, .slice a2 l2 c2, .int .i64 wa] 57
  have S1 : Hid (SlI (w.alloc (.cells #[.int .i64 23, .int .i64 pl, .int .i64 nn, .slice a1 l1 c1, .slice a2 l2 c2, .int .i64 wa] 57)) a1 ws) := s1.below B0
  clear h1 s1
  cases hZ : zrB true true false true nn l1 l2 wa
  · skip
    have e : okR 23 pl nn wa ws l1 l2 = false := by simp [okR, okK, hW, hP, hZ]
    rw [e] at hb
    subst hb
    clear e
    go_enter Try.func68, Try.ntmps68
    go_wp2_with (first
      | (go_at_call 87; refine (l3Words_any _ _ _ ws _ H1.out S1.out hl1 _ hW).mono ?_; rintro e wx ⟨rfl, rfl⟩)
      | (go_at_call 73; refine (l1In_any _ _ _ _ _ (by first | exact hP)).mono ?_; rintro e wx ⟨rfl, rfl⟩)
      | (go_at_call 88; refine (l3Zero_ttft _ _ _ _ _ _ _ _ _ _ _ (by have := H1.out; omega) hl2 _ hZ).mono ?_; rintro e w1 ⟨rfl, b'⟩; have B1 := bel_next B0 b'; obtain ⟨y0, y1, y2, y3, y4, y5⟩ := (X0.below b').six; clear B0))
    go_ret
    exact ⟨rfl, B1⟩
  · skip
    cases hN : inB nn 1 125
    · skip
      have e : okR 23 pl nn wa ws l1 l2 = false := by simp [okR, okK, hW, hP, hZ, hN]
      rw [e] at hb
      subst hb
      clear e
      go_enter Try.func68, Try.ntmps68
      go_wp2_with (first
        | (go_at_call 87; refine (l3Words_any _ _ _ ws _ H1.out S1.out hl1 _ hW).mono ?_; rintro e wx ⟨rfl, rfl⟩)
        | (go_at_call 73; refine (l1In_any _ _ _ _ _ (by first | exact hP | exact hN)).mono ?_; rintro e wx ⟨rfl, rfl⟩)
        | (go_at_call 88; refine (l3Zero_ttft _ _ _ _ _ _ _ _ _ _ _ (by have := H1.out; omega) hl2 _ hZ).mono ?_; rintro e w1 ⟨rfl, b'⟩; have B1 := bel_next B0 b'; obtain ⟨y0, y1, y2, y3, y4, y5⟩ := (X0.below b').six; clear B0))
      go_ret
      exact ⟨rfl, B1⟩
    · skip
      cases hF : fitB pl nn
      · skip
        have e : okR 23 pl nn wa ws l1 l2 = false := by simp [okR, okK, hW, hP, hZ, hN, hF]
        rw [e] at hb
        subst hb
        clear e
        have qhN := inB_yes hN
        go_enter Try.func68, Try.ntmps68
        go_wp2_with (first
          | (go_at_call 87; refine (l3Words_any _ _ _ ws _ H1.out S1.out hl1 _ hW).mono ?_; rintro e wx ⟨rfl, rfl⟩)
          | (go_at_call 73; refine (l1In_any _ _ _ _ _ (by first | exact hP | exact hN)).mono ?_; rintro e wx ⟨rfl, rfl⟩)
          | (go_at_call 88; refine (l3Zero_ttft _ _ _ _ _ _ _ _ _ _ _ (by have := H1.out; omega) hl2 _ hZ).mono ?_; rintro e w1 ⟨rfl, b'⟩; have B1 := bel_next B0 b'; obtain ⟨y0, y1, y2, y3, y4, y5⟩ := (X0.below b').six; clear B0)
          | (go_at_call 89; refine (l3Fits_any _ _ _ (by omega) (by omega) _ (by first | exact hF)).mono ?_; rintro e wx ⟨rfl, rfl⟩))
        go_ret
        exact ⟨rfl, B1⟩
      · skip
        cases hM : inB l1 1 121
        · skip
          have e : okR 23 pl nn wa ws l1 l2 = false := by simp [okR, okK, hW, hP, hZ, hN, hF, hM]
          rw [e] at hb
          subst hb
          clear e
          have qhN := inB_yes hN
          go_enter Try.func68, Try.ntmps68
          go_wp2_with (first
            | (go_at_call 87; refine (l3Words_any _ _ _ ws _ H1.out S1.out hl1 _ hW).mono ?_; rintro e wx ⟨rfl, rfl⟩)
            | (go_at_call 73; refine (l1In_any _ _ _ _ _ (by first | exact hP | exact hN | exact hM)).mono ?_; rintro e wx ⟨rfl, rfl⟩)
            | (go_at_call 88; refine (l3Zero_ttft _ _ _ _ _ _ _ _ _ _ _ (by have := H1.out; omega) hl2 _ hZ).mono ?_; rintro e w1 ⟨rfl, b'⟩; have B1 := bel_next B0 b'; obtain ⟨y0, y1, y2, y3, y4, y5⟩ := (X0.below b').six; clear B0)
            | (go_at_call 89; refine (l3Fits_any _ _ _ (by omega) (by omega) _ (by first | exact hF)).mono ?_; rintro e wx ⟨rfl, rfl⟩))
          go_ret
          exact ⟨rfl, B1⟩
        · skip
          cases hG : fitB wa l1
          · skip
            have e : okR 23 pl nn wa ws l1 l2 = false := by simp [okR, okK, hW, hP, hZ, hN, hF, hM, hG]
            rw [e] at hb
            subst hb
            clear e
            have qhN := inB_yes hN
            have qhM := inB_yes hM
            go_enter Try.func68, Try.ntmps68
            go_wp2_with (first
              | (go_at_call 87; refine (l3Words_any _ _ _ ws _ H1.out S1.out hl1 _ hW).mono ?_; rintro e wx ⟨rfl, rfl⟩)
              | (go_at_call 73; refine (l1In_any _ _ _ _ _ (by first | exact hP | exact hN | exact hM)).mono ?_; rintro e wx ⟨rfl, rfl⟩)
              | (go_at_call 88; refine (l3Zero_ttft _ _ _ _ _ _ _ _ _ _ _ (by have := H1.out; omega) hl2 _ hZ).mono ?_; rintro e w1 ⟨rfl, b'⟩; have B1 := bel_next B0 b'; obtain ⟨y0, y1, y2, y3, y4, y5⟩ := (X0.below b').six; clear B0)
              | (go_at_call 89; refine (l3Fits_any _ _ _ (by omega) (by omega) _ (by first | exact hF | exact hG)).mono ?_; rintro e wx ⟨rfl, rfl⟩))
            go_ret
            exact ⟨rfl, B1⟩
          · skip
            have e : okR 23 pl nn wa ws l1 l2 = true := by simp [okR, okK, hW, hP, hZ, hN, hF, hM, hG]
            rw [e] at hb
            subst hb
            clear e
            have qhN := inB_yes hN
            have qhM := inB_yes hM
            go_enter Try.func68, Try.ntmps68
            go_wp2_with (first
              | (go_at_call 87; refine (l3Words_any _ _ _ ws _ H1.out S1.out hl1 _ hW).mono ?_; rintro e wx ⟨rfl, rfl⟩)
              | (go_at_call 73; refine (l1In_any _ _ _ _ _ (by first | exact hP | exact hN | exact hM)).mono ?_; rintro e wx ⟨rfl, rfl⟩)
              | (go_at_call 88; refine (l3Zero_ttft _ _ _ _ _ _ _ _ _ _ _ (by have := H1.out; omega) hl2 _ hZ).mono ?_; rintro e w1 ⟨rfl, b'⟩; have B1 := bel_next B0 b'; obtain ⟨y0, y1, y2, y3, y4, y5⟩ := (X0.below b').six; clear B0)
              | (go_at_call 89; refine (l3Fits_any _ _ _ (by omega) (by omega) _ (by first | exact hF | exact hG)).mono ?_; rintro e wx ⟨rfl, rfl⟩))
            go_ret
            exact ⟨rfl, B1⟩
set_option maxHeartbeats 4000000 in
theorem specReqOk_any (kd : Int) (pl nn wa : Int) (a1 a2 : Option Addr) (l1 l2 c1 c2 : Nat) (ws : List Int) (w : World) (h1 : l1 = ws.length) (s1 : SlI w a1 ws) (hl1 : ws.length ≤ 2000000) (hl2 : l2 ≤ 20000000) (b : Bool) (hb : okR kd pl nn wa ws l1 l2 = b) :
    Calls Try.prog 68 #[rq kd pl nn wa a1 a2 l1 l2 c1 c2] w fun e w' => e = .returned (.bool b) ∧ Below w.heap.size w w' := by
  have H1 : Hid (l1 = ws.length) := h1
  have B0 := bel_alloc w (.cells #[.int .i64 kd, .int .i64 pl, .int .i64 nn, .slice a1 l1 c1, .slice a2 l2 c2, .int .i64 wa] 57)
  have X0 := Blk.new w #[.int .i64 kd, .int .i64 pl, .int .i64 nn, .slice a1 l1 c1, .slice a2 l2 c2, .int .i64 wa] 57
  have S1 : Hid (SlI (w.alloc (.cells #[.int .i64 kd, .int .i64 pl, .int .i64 nn, .slice a1 l1 c1, .slice a2 l2 c2, .int .i64 wa] 57)) a1 ws) := s1.below B0
  have hs : Hid (SlI w a1 ws) := s1
  clear h1 s1
  cases hW : allW ws
  · skip
    have e : okR kd pl nn wa ws l1 l2 = false := by simp [okR, okK, hW]
    rw [e] at hb
    subst hb
    clear e
    have hP : True := trivial
    go_enter Try.func68, Try.ntmps68
    go_wp2_with (first
      | (go_at_call 87; refine (l3Words_any _ _ _ ws _ H1.out S1.out hl1 _ hW).mono ?_; rintro e wx ⟨rfl, rfl⟩)
      | (go_at_call 73; refine (l1In_any _ _ _ _ _ (by first | exact hP)).mono ?_; rintro e wx ⟨rfl, rfl⟩))
    go_ret
    exact ⟨rfl, B0⟩
  · cases hP : inB pl 0 65535
    · skip
      have e : okR kd pl nn wa ws l1 l2 = false := by simp [okR, okK, hW, hP]
      rw [e] at hb
      subst hb
      clear e
      go_enter Try.func68, Try.ntmps68
      go_wp2_with (first
        | (go_at_call 87; refine (l3Words_any _ _ _ ws _ H1.out S1.out hl1 _ hW).mono ?_; rintro e wx ⟨rfl, rfl⟩)
        | (go_at_call 73; refine (l1In_any _ _ _ _ _ (by first | exact hP)).mono ?_; rintro e wx ⟨rfl, rfl⟩))
      go_ret
      exact ⟨rfl, B0⟩
    · by_cases hk : kd = 1 ∨ kd = 2 ∨ kd = 3 ∨ kd = 4 ∨ kd = 5 ∨ kd = 6 ∨ kd = 15 ∨ kd = 16 ∨ kd = 22 ∨ kd = 23
      · clear X0 S1 B0
        obtain rfl | rfl | rfl | rfl | rfl | rfl | rfl | rfl | rfl | rfl := hk
        · exact specReqOk_1 pl nn wa a1 a2 l1 l2 c1 c2 ws w H1.out hs.out hl1 hl2 hW hP b hb
        · exact specReqOk_2 pl nn wa a1 a2 l1 l2 c1 c2 ws w H1.out hs.out hl1 hl2 hW hP b hb
        · exact specReqOk_3 pl nn wa a1 a2 l1 l2 c1 c2 ws w H1.out hs.out hl1 hl2 hW hP b hb
        · exact specReqOk_4 pl nn wa a1 a2 l1 l2 c1 c2 ws w H1.out hs.out hl1 hl2 hW hP b hb
        · exact specReqOk_5 pl nn wa a1 a2 l1 l2 c1 c2 ws w H1.out hs.out hl1 hl2 hW hP b hb
        · exact specReqOk_6 pl nn wa a1 a2 l1 l2 c1 c2 ws w H1.out hs.out hl1 hl2 hW hP b hb
        · exact specReqOk_15 pl nn wa a1 a2 l1 l2 c1 c2 ws w H1.out hs.out hl1 hl2 hW hP b hb
        · exact specReqOk_16 pl nn wa a1 a2 l1 l2 c1 c2 ws w H1.out hs.out hl1 hl2 hW hP b hb
        · exact specReqOk_22 pl nn wa a1 a2 l1 l2 c1 c2 ws w H1.out hs.out hl1 hl2 hW hP b hb
        · exact specReqOk_23 pl nn wa a1 a2 l1 l2 c1 c2 ws w H1.out hs.out hl1 hl2 hW hP b hb
      · skip
        have k1 : ¬ kd = 1 := by omega
        have k2 : ¬ kd = 2 := by omega
        have k3 : ¬ kd = 3 := by omega
        have k4 : ¬ kd = 4 := by omega
        have k5 : ¬ kd = 5 := by omega
        have k6 : ¬ kd = 6 := by omega
        have k15 : ¬ kd = 15 := by omega
        have k16 : ¬ kd = 16 := by omega
        have k22 : ¬ kd = 22 := by omega
        have k23 : ¬ kd = 23 := by omega
        clear hk
        have e : okR kd pl nn wa ws l1 l2 = false := by simp [okR, okK, hW, hP, k1, k2, k3, k4, k5, k6, k15, k16, k22, k23]
        rw [e] at hb
        subst hb
        clear e
        go_enter Try.func68, Try.ntmps68
        go_wp2_with (first
          | (go_at_call 87; refine (l3Words_any _ _ _ ws _ H1.out S1.out hl1 _ hW).mono ?_; rintro e wx ⟨rfl, rfl⟩)
          | (go_at_call 73; refine (l1In_any _ _ _ _ _ (by first | exact hP)).mono ?_; rintro e wx ⟨rfl, rfl⟩))
        go_ret
        exact ⟨rfl, B0⟩
end Go.Proofs.Ytfdddkjonjpgpaa
