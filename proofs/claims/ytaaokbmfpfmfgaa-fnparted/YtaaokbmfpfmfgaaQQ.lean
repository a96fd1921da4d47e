/- Texts that the proof needs, joined. -/
import Derived.Test.YtaaokbmfpfmfgaaQ1
import Derived.Deep.RegionWith
namespace Go.Proofs.Ytaaokbmfpfmfgaa
open Go.RowKit

set_option linter.unusedVariables false

def okK (kd pl nn wa : Int) (l1 l2 : Nat) : Bool :=
  if kd = 1 ∨ kd = 2 then zrB true false false false nn l1 l2 wa && (inB nn 1 2000 && fitB pl nn)
  else if kd = 3 ∨ kd = 4 then zrB true false false false nn l1 l2 wa && (inB nn 1 125 && fitB pl nn)
  else if kd = 5 then zrB false false true false nn l1 l2 wa && decide (l2 = 1)
  else if kd = 6 then zrB false true false false nn l1 l2 wa && decide (l1 = 1)
  else if kd = 15 then zrB false false true false nn l1 l2 wa && (inB l2 1 1968 && fitB pl l2)
  else if kd = 16 then zrB false true false false nn l1 l2 wa && (inB l1 1 123 && fitB pl l1)
  else if kd = 22 then zrB false true false false nn l1 l2 wa && decide (l1 = 2)
  else if kd = 23 then zrB true true false true nn l1 l2 wa && (inB nn 1 125 && (fitB pl nn && (inB l1 1 121 && fitB wa l1)))
  else false

def okR (kd pl nn wa : Int) (ws : List Int) (l1 l2 : Nat) : Bool := allW ws && (inB pl 0 65535 && okK kd pl nn wa l1 l2)

theorem inB_yes {x lo hi : Int} (h : inB x lo hi = true) : lo ≤ x ∧ x ≤ hi := by unfold inB at h; exact of_decide_eq_true h

set_option maxHeartbeats 4000000 in
theorem specReqOk_1 (pl nn wa : Int) (a1 a2 : Option Addr) (l1 l2 c1 c2 : Nat) (ws : List Int) (w : World) (h1 : l1 = ws.length) (s1 : SlI w a1 ws) (hl1 : ws.length ≤ 2000000) (hl2 : l2 ≤ 20000000) (hW : allW ws = true) (hP : inB pl 0 65535 = true) (b : Bool) (hb : okR 1 pl nn wa ws l1 l2 = b) :
    Calls Try.prog 20 #[rq 1 pl nn wa a1 a2 l1 l2 c1 c2] w fun e w' => e = .returned (.bool b) ∧ Below w.heap.size w w' := by
  have H1 : Hid (l1 = ws.length) := h1
  have B0 := bel_alloc w (.cells #[.int .i64 1, .int .i64 pl, .int .i64 nn, .slice a1 l1 c1, .slice a2 l2 c2, .int .i64 wa] 28)
  have X0 := Blk.new w #[.int .i64 1, .int .i64 pl, .int .i64 nn, .slice a1 l1 c1, .slice a2 l2 c2, .int .i64 wa] 28
  have S1 : Hid (SlI (w.alloc (.cells #[.int .i64 1, .int .i64 pl, .int .i64 nn, .slice a1 l1 c1, .slice a2 l2 c2, .int .i64 wa] 28)) a1 ws) := s1.below B0
  clear h1 s1
  cases hZ : zrB true false false false nn l1 l2 wa
  · skip
    have e : okR 1 pl nn wa ws l1 l2 = false := by simp [okR, okK, hW, hP, hZ]
    rw [e] at hb
    subst hb
    clear e
    go_enter Try.func20, Try.ntmps20
    go_wp2_with (first
      | (go_at_call 62; refine (l3Words_any _ _ _ ws _ H1.out S1.out hl1 _ hW).mono ?_; rintro e wx ⟨rfl, rfl⟩)
      | (go_at_call 63; refine (l1In_any _ _ _ _ _ (by first | exact hP)).mono ?_; rintro e wx ⟨rfl, rfl⟩)
      | (go_at_call 64; refine (l3Zero_tfff _ _ _ _ _ _ _ _ _ _ _ (by have := H1.out; omega) hl2 _ hZ).mono ?_; rintro e w1 ⟨rfl, b'⟩; have B1 := bel_next B0 b'; obtain ⟨y0, y1, y2, y3, y4, y5⟩ := (X0.below b').six; clear B0))
    go_ret
    exact ⟨rfl, B1⟩
  · skip
    cases hN : inB nn 1 2000
    · skip
      have e : okR 1 pl nn wa ws l1 l2 = false := by simp [okR, okK, hW, hP, hZ, hN]
      rw [e] at hb
      subst hb
      clear e
      go_enter Try.func20, Try.ntmps20
      go_wp2_with (first
        | (go_at_call 62; refine (l3Words_any _ _ _ ws _ H1.out S1.out hl1 _ hW).mono ?_; rintro e wx ⟨rfl, rfl⟩)
        | (go_at_call 63; refine (l1In_any _ _ _ _ _ (by first | exact hP | exact hN)).mono ?_; rintro e wx ⟨rfl, rfl⟩)
        | (go_at_call 64; refine (l3Zero_tfff _ _ _ _ _ _ _ _ _ _ _ (by have := H1.out; omega) hl2 _ hZ).mono ?_; rintro e w1 ⟨rfl, b'⟩; have B1 := bel_next B0 b'; obtain ⟨y0, y1, y2, y3, y4, y5⟩ := (X0.below b').six; clear B0))
      go_ret
      exact ⟨rfl, B1⟩
    · skip
      cases hF : fitB pl nn
      · skip
        have e : okR 1 pl nn wa ws l1 l2 = false := by simp [okR, okK, hW, hP, hZ, hN, hF]
        rw [e] at hb
        subst hb
        clear e
        have qhN := inB_yes hN
        go_enter Try.func20, Try.ntmps20
        go_wp2_with (first
          | (go_at_call 62; refine (l3Words_any _ _ _ ws _ H1.out S1.out hl1 _ hW).mono ?_; rintro e wx ⟨rfl, rfl⟩)
          | (go_at_call 63; refine (l1In_any _ _ _ _ _ (by first | exact hP | exact hN)).mono ?_; rintro e wx ⟨rfl, rfl⟩)
          | (go_at_call 64; refine (l3Zero_tfff _ _ _ _ _ _ _ _ _ _ _ (by have := H1.out; omega) hl2 _ hZ).mono ?_; rintro e w1 ⟨rfl, b'⟩; have B1 := bel_next B0 b'; obtain ⟨y0, y1, y2, y3, y4, y5⟩ := (X0.below b').six; clear B0)
          | (go_at_call 65; refine (l3Fits_any _ _ _ (by omega) (by omega) _ (by first | exact hF)).mono ?_; rintro e wx ⟨rfl, rfl⟩))
        go_ret
        exact ⟨rfl, B1⟩
      · skip
        have e : okR 1 pl nn wa ws l1 l2 = true := by simp [okR, okK, hW, hP, hZ, hN, hF]
        rw [e] at hb
        subst hb
        clear e
        have qhN := inB_yes hN
        go_enter Try.func20, Try.ntmps20
        go_wp2_with (first
          | (go_at_call 62; refine (l3Words_any _ _ _ ws _ H1.out S1.out hl1 _ hW).mono ?_; rintro e wx ⟨rfl, rfl⟩)
          | (go_at_call 63; refine (l1In_any _ _ _ _ _ (by first | exact hP | exact hN)).mono ?_; rintro e wx ⟨rfl, rfl⟩)
          | (go_at_call 64; refine (l3Zero_tfff _ _ _ _ _ _ _ _ _ _ _ (by have := H1.out; omega) hl2 _ hZ).mono ?_; rintro e w1 ⟨rfl, b'⟩; have B1 := bel_next B0 b'; obtain ⟨y0, y1, y2, y3, y4, y5⟩ := (X0.below b').six; clear B0)
          | (go_at_call 65; refine (l3Fits_any _ _ _ (by omega) (by omega) _ (by first | exact hF)).mono ?_; rintro e wx ⟨rfl, rfl⟩))
        go_ret
        exact ⟨rfl, B1⟩

set_option maxHeartbeats 4000000 in
theorem specReqOk_2 (pl nn wa : Int) (a1 a2 : Option Addr) (l1 l2 c1 c2 : Nat) (ws : List Int) (w : World) (h1 : l1 = ws.length) (s1 : SlI w a1 ws) (hl1 : ws.length ≤ 2000000) (hl2 : l2 ≤ 20000000) (hW : allW ws = true) (hP : inB pl 0 65535 = true) (b : Bool) (hb : okR 2 pl nn wa ws l1 l2 = b) :
    Calls Try.prog 20 #[rq 2 pl nn wa a1 a2 l1 l2 c1 c2] w fun e w' => e = .returned (.bool b) ∧ Below w.heap.size w w' := by
  have H1 : Hid (l1 = ws.length) := h1
  have B0 := bel_alloc w (.cells #[.int .i64 2, .int .i64 pl, .int .i64 nn, .slice a1 l1 c1, .slice a2 l2 c2, .int .i64 wa] 28)
  have X0 := Blk.new w #[.int .i64 2, .int .i64 pl, .int .i64 nn, .slice a1 l1 c1, .slice a2 l2 c2, .int .i64 wa] 28
  have S1 : Hid (SlI (w.alloc (.cells #[.int .i64 2, .int .i64 pl, .int .i64 nn, .slice a1 l1 c1, .slice a2 l2 c2, .int .i64 wa] 28)) a1 ws) := s1.below B0
  clear h1 s1
  cases hZ : zrB true false false false nn l1 l2 wa
  · skip
    have e : okR 2 pl nn wa ws l1 l2 = false := by simp [okR, okK, hW, hP, hZ]
    rw [e] at hb
    subst hb
    clear e
    go_enter Try.func20, Try.ntmps20
    go_wp2_with (first
      | (go_at_call 62; refine (l3Words_any _ _ _ ws _ H1.out S1.out hl1 _ hW).mono ?_; rintro e wx ⟨rfl, rfl⟩)
      | (go_at_call 63; refine (l1In_any _ _ _ _ _ (by first | exact hP)).mono ?_; rintro e wx ⟨rfl, rfl⟩)
      | (go_at_call 64; refine (l3Zero_tfff _ _ _ _ _ _ _ _ _ _ _ (by have := H1.out; omega) hl2 _ hZ).mono ?_; rintro e w1 ⟨rfl, b'⟩; have B1 := bel_next B0 b'; obtain ⟨y0, y1, y2, y3, y4, y5⟩ := (X0.below b').six; clear B0))
    go_ret
    exact ⟨rfl, B1⟩
  · skip
    cases hN : inB nn 1 2000
    · skip
      have e : okR 2 pl nn wa ws l1 l2 = false := by simp [okR, okK, hW, hP, hZ, hN]
      rw [e] at hb
      subst hb
      clear e
      go_enter Try.func20, Try.ntmps20
      go_wp2_with (first
        | (go_at_call 62; refine (l3Words_any _ _ _ ws _ H1.out S1.out hl1 _ hW).mono ?_; rintro e wx ⟨rfl, rfl⟩)
        | (go_at_call 63; refine (l1In_any _ _ _ _ _ (by first | exact hP | exact hN)).mono ?_; rintro e wx ⟨rfl, rfl⟩)
        | (go_at_call 64; refine (l3Zero_tfff _ _ _ _ _ _ _ _ _ _ _ (by have := H1.out; omega) hl2 _ hZ).mono ?_; rintro e w1 ⟨rfl, b'⟩; have B1 := bel_next B0 b'; obtain ⟨y0, y1, y2, y3, y4, y5⟩ := (X0.below b').six; clear B0))
      go_ret
      exact ⟨rfl, B1⟩
    · skip
      cases hF : fitB pl nn
      · skip
        have e : okR 2 pl nn wa ws l1 l2 = false := by simp [okR, okK, hW, hP, hZ, hN, hF]
        rw [e] at hb
        subst hb
        clear e
        have qhN := inB_yes hN
        go_enter Try.func20, Try.ntmps20
        go_wp2_with (first
          | (go_at_call 62; refine (l3Words_any _ _ _ ws _ H1.out S1.out hl1 _ hW).mono ?_; rintro e wx ⟨rfl, rfl⟩)
          | (go_at_call 63; refine (l1In_any _ _ _ _ _ (by first | exact hP | exact hN)).mono ?_; rintro e wx ⟨rfl, rfl⟩)
          | (go_at_call 64; refine (l3Zero_tfff _ _ _ _ _ _ _ _ _ _ _ (by have := H1.out; omega) hl2 _ hZ).mono ?_; rintro e w1 ⟨rfl, b'⟩; have B1 := bel_next B0 b'; obtain ⟨y0, y1, y2, y3, y4, y5⟩ := (X0.below b').six; clear B0)
          | (go_at_call 65; refine (l3Fits_any _ _ _ (by omega) (by omega) _ (by first | exact hF)).mono ?_; rintro e wx ⟨rfl, rfl⟩))
        go_ret
        exact ⟨rfl, B1⟩
      · skip
        have e : okR 2 pl nn wa ws l1 l2 = true := by simp [okR, okK, hW, hP, hZ, hN, hF]
        rw [e] at hb
        subst hb
        clear e
        have qhN := inB_yes hN
        go_enter Try.func20, Try.ntmps20
        go_wp2_with (first
          | (go_at_call 62; refine (l3Words_any _ _ _ ws _ H1.out S1.out hl1 _ hW).mono ?_; rintro e wx ⟨rfl, rfl⟩)
          | (go_at_call 63; refine (l1In_any _ _ _ _ _ (by first | exact hP | exact hN)).mono ?_; rintro e wx ⟨rfl, rfl⟩)
          | (go_at_call 64; refine (l3Zero_tfff _ _ _ _ _ _ _ _ _ _ _ (by have := H1.out; omega) hl2 _ hZ).mono ?_; rintro e w1 ⟨rfl, b'⟩; have B1 := bel_next B0 b'; obtain ⟨y0, y1, y2, y3, y4, y5⟩ := (X0.below b').six; clear B0)
          | (go_at_call 65; refine (l3Fits_any _ _ _ (by omega) (by omega) _ (by first | exact hF)).mono ?_; rintro e wx ⟨rfl, rfl⟩))
        go_ret
        exact ⟨rfl, B1⟩

set_option maxHeartbeats 4000000 in
theorem specReqOk_3 (pl nn wa : Int) (a1 a2 : Option Addr) (l1 l2 c1 c2 : Nat) (ws : List Int) (w : World) (h1 : l1 = ws.length) (s1 : SlI w a1 ws) (hl1 : ws.length ≤ 2000000) (hl2 : l2 ≤ 20000000) (hW : allW ws = true) (hP : inB pl 0 65535 = true) (b : Bool) (hb : okR 3 pl nn wa ws l1 l2 = b) :
    Calls Try.prog 20 #[rq 3 pl nn wa a1 a2 l1 l2 c1 c2] w fun e w' => e = .returned (.bool b) ∧ Below w.heap.size w w' := by
  have H1 : Hid (l1 = ws.length) := h1
  have B0 := bel_alloc w (.cells #[.int .i64 3, .int .i64 pl, .int .i64 nn, .slice a1 l1 c1, .slice a2 l2 c2, .int .i64 wa] 28)
  have X0 := Blk.new w #[.int .i64 3, .int .i64 pl, .int .i64 nn, .slice a1 l1 c1, .slice a2 l2 c2, .int .i64 wa] 28
  have S1 : Hid (SlI (w.alloc (.cells #[.int .i64 3, .int .i64 pl, .int .i64 nn, .slice a1 l1 c1, .slice a2 l2 c2, .int .i64 wa] 28)) a1 ws) := s1.below B0
  clear h1 s1
  cases hZ : zrB true false false false nn l1 l2 wa
  · skip
    have e : okR 3 pl nn wa ws l1 l2 = false := by simp [okR, okK, hW, hP, hZ]
    rw [e] at hb
    subst hb
    clear e
    go_enter Try.func20, Try.ntmps20
    go_wp2_with (first
      | (go_at_call 62; refine (l3Words_any _ _ _ ws _ H1.out S1.out hl1 _ hW).mono ?_; rintro e wx ⟨rfl, rfl⟩)
      | (go_at_call 63; refine (l1In_any _ _ _ _ _ (by first | exact hP)).mono ?_; rintro e wx ⟨rfl, rfl⟩)
      | (go_at_call 64; refine (l3Zero_tfff _ _ _ _ _ _ _ _ _ _ _ (by have := H1.out; omega) hl2 _ hZ).mono ?_; rintro e w1 ⟨rfl, b'⟩; have B1 := bel_next B0 b'; obtain ⟨y0, y1, y2, y3, y4, y5⟩ := (X0.below b').six; clear B0))
    go_ret
    exact ⟨rfl, B1⟩
  · skip
    cases hN : inB nn 1 125
    · skip
      have e : okR 3 pl nn wa ws l1 l2 = false := by simp [okR, okK, hW, hP, hZ, hN]
      rw [e] at hb
      subst hb
      clear e
      go_enter Try.func20, Try.ntmps20
      go_wp2_with (first
        | (go_at_call 62; refine (l3Words_any _ _ _ ws _ H1.out S1.out hl1 _ hW).mono ?_; rintro e wx ⟨rfl, rfl⟩)
        | (go_at_call 63; refine (l1In_any _ _ _ _ _ (by first | exact hP | exact hN)).mono ?_; rintro e wx ⟨rfl, rfl⟩)
        | (go_at_call 64; refine (l3Zero_tfff _ _ _ _ _ _ _ _ _ _ _ (by have := H1.out; omega) hl2 _ hZ).mono ?_; rintro e w1 ⟨rfl, b'⟩; have B1 := bel_next B0 b'; obtain ⟨y0, y1, y2, y3, y4, y5⟩ := (X0.below b').six; clear B0))
      go_ret
      exact ⟨rfl, B1⟩
    · skip
      cases hF : fitB pl nn
      · skip
        have e : okR 3 pl nn wa ws l1 l2 = false := by simp [okR, okK, hW, hP, hZ, hN, hF]
        rw [e] at hb
        subst hb
        clear e
        have qhN := inB_yes hN
        go_enter Try.func20, Try.ntmps20
        go_wp2_with (first
          | (go_at_call 62; refine (l3Words_any _ _ _ ws _ H1.out S1.out hl1 _ hW).mono ?_; rintro e wx ⟨rfl, rfl⟩)
          | (go_at_call 63; refine (l1In_any _ _ _ _ _ (by first | exact hP | exact hN)).mono ?_; rintro e wx ⟨rfl, rfl⟩)
          | (go_at_call 64; refine (l3Zero_tfff _ _ _ _ _ _ _ _ _ _ _ (by have := H1.out; omega) hl2 _ hZ).mono ?_; rintro e w1 ⟨rfl, b'⟩; have B1 := bel_next B0 b'; obtain ⟨y0, y1, y2, y3, y4, y5⟩ := (X0.below b').six; clear B0)
          | (go_at_call 65; refine (l3Fits_any _ _ _ (by omega) (by omega) _ (by first | exact hF)).mono ?_; rintro e wx ⟨rfl, rfl⟩))
        go_ret
        exact ⟨rfl, B1⟩
      · skip
        have e : okR 3 pl nn wa ws l1 l2 = true := by simp [okR, okK, hW, hP, hZ, hN, hF]
        rw [e] at hb
        subst hb
        clear e
        have qhN := inB_yes hN
        go_enter Try.func20, Try.ntmps20
        go_wp2_with (first
          | (go_at_call 62; refine (l3Words_any _ _ _ ws _ H1.out S1.out hl1 _ hW).mono ?_; rintro e wx ⟨rfl, rfl⟩)
          | (go_at_call 63; refine (l1In_any _ _ _ _ _ (by first | exact hP | exact hN)).mono ?_; rintro e wx ⟨rfl, rfl⟩)
          | (go_at_call 64; refine (l3Zero_tfff _ _ _ _ _ _ _ _ _ _ _ (by have := H1.out; omega) hl2 _ hZ).mono ?_; rintro e w1 ⟨rfl, b'⟩; have B1 := bel_next B0 b'; obtain ⟨y0, y1, y2, y3, y4, y5⟩ := (X0.below b').six; clear B0)
          | (go_at_call 65; refine (l3Fits_any _ _ _ (by omega) (by omega) _ (by first | exact hF)).mono ?_; rintro e wx ⟨rfl, rfl⟩))
        go_ret
        exact ⟨rfl, B1⟩

set_option maxHeartbeats 4000000 in
theorem specReqOk_4 (pl nn wa : Int) (a1 a2 : Option Addr) (l1 l2 c1 c2 : Nat) (ws : List Int) (w : World) (h1 : l1 = ws.length) (s1 : SlI w a1 ws) (hl1 : ws.length ≤ 2000000) (hl2 : l2 ≤ 20000000) (hW : allW ws = true) (hP : inB pl 0 65535 = true) (b : Bool) (hb : okR 4 pl nn wa ws l1 l2 = b) :
    Calls Try.prog 20 #[rq 4 pl nn wa a1 a2 l1 l2 c1 c2] w fun e w' => e = .returned (.bool b) ∧ Below w.heap.size w w' := by
  have H1 : Hid (l1 = ws.length) := h1
  have B0 := bel_alloc w (.cells #[.int .i64 4, .int .i64 pl, .int .i64 nn, .slice a1 l1 c1, .slice a2 l2 c2, .int .i64 wa] 28)
  have X0 := Blk.new w #[.int .i64 4, .int .i64 pl, .int .i64 nn, .slice a1 l1 c1, .slice a2 l2 c2, .int .i64 wa] 28
  have S1 : Hid (SlI (w.alloc (.cells #[.int .i64 4, .int .i64 pl, .int .i64 nn, .slice a1 l1 c1, .slice a2 l2 c2, .int .i64 wa] 28)) a1 ws) := s1.below B0
  clear h1 s1
  cases hZ : zrB true false false false nn l1 l2 wa
  · skip
    have e : okR 4 pl nn wa ws l1 l2 = false := by simp [okR, okK, hW, hP, hZ]
    rw [e] at hb
    subst hb
    clear e
    go_enter Try.func20, Try.ntmps20
    go_wp2_with (first
      | (go_at_call 62; refine (l3Words_any _ _ _ ws _ H1.out S1.out hl1 _ hW).mono ?_; rintro e wx ⟨rfl, rfl⟩)
      | (go_at_call 63; refine (l1In_any _ _ _ _ _ (by first | exact hP)).mono ?_; rintro e wx ⟨rfl, rfl⟩)
      | (go_at_call 64; refine (l3Zero_tfff _ _ _ _ _ _ _ _ _ _ _ (by have := H1.out; omega) hl2 _ hZ).mono ?_; rintro e w1 ⟨rfl, b'⟩; have B1 := bel_next B0 b'; obtain ⟨y0, y1, y2, y3, y4, y5⟩ := (X0.below b').six; clear B0))
    go_ret
    exact ⟨rfl, B1⟩
  · skip
    cases hN : inB nn 1 125
    · skip
      have e : okR 4 pl nn wa ws l1 l2 = false := by simp [okR, okK, hW, hP, hZ, hN]
      rw [e] at hb
      subst hb
      clear e
      go_enter Try.func20, Try.ntmps20
      go_wp2_with (first
        | (go_at_call 62; refine (l3Words_any _ _ _ ws _ H1.out S1.out hl1 _ hW).mono ?_; rintro e wx ⟨rfl, rfl⟩)
        | (go_at_call 63; refine (l1In_any _ _ _ _ _ (by first | exact hP | exact hN)).mono ?_; rintro e wx ⟨rfl, rfl⟩)
        | (go_at_call 64; refine (l3Zero_tfff _ _ _ _ _ _ _ _ _ _ _ (by have := H1.out; omega) hl2 _ hZ).mono ?_; rintro e w1 ⟨rfl, b'⟩; have B1 := bel_next B0 b'; obtain ⟨y0, y1, y2, y3, y4, y5⟩ := (X0.below b').six; clear B0))
      go_ret
      exact ⟨rfl, B1⟩
    · skip
      cases hF : fitB pl nn
      · skip
        have e : okR 4 pl nn wa ws l1 l2 = false := by simp [okR, okK, hW, hP, hZ, hN, hF]
        rw [e] at hb
        subst hb
        clear e
        have qhN := inB_yes hN
        go_enter Try.func20, Try.ntmps20
        go_wp2_with (first
          | (go_at_call 62; refine (l3Words_any _ _ _ ws _ H1.out S1.out hl1 _ hW).mono ?_; rintro e wx ⟨rfl, rfl⟩)
          | (go_at_call 63; refine (l1In_any _ _ _ _ _ (by first | exact hP | exact hN)).mono ?_; rintro e wx ⟨rfl, rfl⟩)
          | (go_at_call 64; refine (l3Zero_tfff _ _ _ _ _ _ _ _ _ _ _ (by have := H1.out; omega) hl2 _ hZ).mono ?_; rintro e w1 ⟨rfl, b'⟩; have B1 := bel_next B0 b'; obtain ⟨y0, y1, y2, y3, y4, y5⟩ := (X0.below b').six; clear B0)
          | (go_at_call 65; refine (l3Fits_any _ _ _ (by omega) (by omega) _ (by first | exact hF)).mono ?_; rintro e wx ⟨rfl, rfl⟩))
        go_ret
        exact ⟨rfl, B1⟩
      · skip
        have e : okR 4 pl nn wa ws l1 l2 = true := by simp [okR, okK, hW, hP, hZ, hN, hF]
        rw [e] at hb
        subst hb
        clear e
        have qhN := inB_yes hN
        go_enter Try.func20, Try.ntmps20
        go_wp2_with (first
          | (go_at_call 62; refine (l3Words_any _ _ _ ws _ H1.out S1.out hl1 _ hW).mono ?_; rintro e wx ⟨rfl, rfl⟩)
          | (go_at_call 63; refine (l1In_any _ _ _ _ _ (by first | exact hP | exact hN)).mono ?_; rintro e wx ⟨rfl, rfl⟩)
          | (go_at_call 64; refine (l3Zero_tfff _ _ _ _ _ _ _ _ _ _ _ (by have := H1.out; omega) hl2 _ hZ).mono ?_; rintro e w1 ⟨rfl, b'⟩; have B1 := bel_next B0 b'; obtain ⟨y0, y1, y2, y3, y4, y5⟩ := (X0.below b').six; clear B0)
          | (go_at_call 65; refine (l3Fits_any _ _ _ (by omega) (by omega) _ (by first | exact hF)).mono ?_; rintro e wx ⟨rfl, rfl⟩))
        go_ret
        exact ⟨rfl, B1⟩

set_option maxHeartbeats 4000000 in
theorem specReqOk_5 (pl nn wa : Int) (a1 a2 : Option Addr) (l1 l2 c1 c2 : Nat) (ws : List Int) (w : World) (h1 : l1 = ws.length) (s1 : SlI w a1 ws) (hl1 : ws.length ≤ 2000000) (hl2 : l2 ≤ 20000000) (hW : allW ws = true) (hP : inB pl 0 65535 = true) (b : Bool) (hb : okR 5 pl nn wa ws l1 l2 = b) :
    Calls Try.prog 20 #[rq 5 pl nn wa a1 a2 l1 l2 c1 c2] w fun e w' => e = .returned (.bool b) ∧ Below w.heap.size w w' := by
  have H1 : Hid (l1 = ws.length) := h1
  have B0 := bel_alloc w (.cells #[.int .i64 5, .int .i64 pl, .int .i64 nn, .slice a1 l1 c1, .slice a2 l2 c2, .int .i64 wa] 28)
  have X0 := Blk.new w #[.int .i64 5, .int .i64 pl, .int .i64 nn, .slice a1 l1 c1, .slice a2 l2 c2, .int .i64 wa] 28
  have S1 : Hid (SlI (w.alloc (.cells #[.int .i64 5, .int .i64 pl, .int .i64 nn, .slice a1 l1 c1, .slice a2 l2 c2, .int .i64 wa] 28)) a1 ws) := s1.below B0
  clear h1 s1
  cases hZ : zrB false false true false nn l1 l2 wa
  · skip
    have e : okR 5 pl nn wa ws l1 l2 = false := by simp [okR, okK, hW, hP, hZ]
    rw [e] at hb
    subst hb
    clear e
    go_enter Try.func20, Try.ntmps20
    go_wp2_with (first
      | (go_at_call 62; refine (l3Words_any _ _ _ ws _ H1.out S1.out hl1 _ hW).mono ?_; rintro e wx ⟨rfl, rfl⟩)
      | (go_at_call 63; refine (l1In_any _ _ _ _ _ (by first | exact hP)).mono ?_; rintro e wx ⟨rfl, rfl⟩)
      | (go_at_call 64; refine (l3Zero_fftf _ _ _ _ _ _ _ _ _ _ _ (by have := H1.out; omega) hl2 _ hZ).mono ?_; rintro e w1 ⟨rfl, b'⟩; have B1 := bel_next B0 b'; obtain ⟨y0, y1, y2, y3, y4, y5⟩ := (X0.below b').six; clear B0))
    go_ret
    exact ⟨rfl, B1⟩
  · skip
    by_cases hL : l2 = 1
    · skip
      have e : okR 5 pl nn wa ws l1 l2 = true := by have q := hZ; rw [hL] at q ⊢; simp [okR, okK, hW, hP, q]
      rw [e] at hb
      subst hb
      clear e
      have hLi : (l2 : Int) = 1 := by omega
      have HL : Hid (l2 = 1) := hL
      clear hL
      go_enter Try.func20, Try.ntmps20
      go_wp2_with (first
        | (go_at_call 62; refine (l3Words_any _ _ _ ws _ H1.out S1.out hl1 _ hW).mono ?_; rintro e wx ⟨rfl, rfl⟩)
        | (go_at_call 63; refine (l1In_any _ _ _ _ _ (by first | exact hP)).mono ?_; rintro e wx ⟨rfl, rfl⟩)
        | (go_at_call 64; refine (l3Zero_fftf _ _ _ _ _ _ _ _ _ _ _ (by have := H1.out; omega) hl2 _ hZ).mono ?_; rintro e w1 ⟨rfl, b'⟩; have B1 := bel_next B0 b'; obtain ⟨y0, y1, y2, y3, y4, y5⟩ := (X0.below b').six; clear B0))
      go_ret
      exact ⟨rfl, B1⟩
    · skip
      have e : okR 5 pl nn wa ws l1 l2 = false := by simp [okR, okK, hW, hP, hZ, hL]
      rw [e] at hb
      subst hb
      clear e
      have hLi : ((l2 : Int) == 1) = false := by simp; omega
      clear hL
      go_enter Try.func20, Try.ntmps20
      go_wp2_with (first
        | (go_at_call 62; refine (l3Words_any _ _ _ ws _ H1.out S1.out hl1 _ hW).mono ?_; rintro e wx ⟨rfl, rfl⟩)
        | (go_at_call 63; refine (l1In_any _ _ _ _ _ (by first | exact hP)).mono ?_; rintro e wx ⟨rfl, rfl⟩)
        | (go_at_call 64; refine (l3Zero_fftf _ _ _ _ _ _ _ _ _ _ _ (by have := H1.out; omega) hl2 _ hZ).mono ?_; rintro e w1 ⟨rfl, b'⟩; have B1 := bel_next B0 b'; obtain ⟨y0, y1, y2, y3, y4, y5⟩ := (X0.below b').six; clear B0))
      go_ret
      exact ⟨rfl, B1⟩

set_option maxHeartbeats 4000000 in
theorem specReqOk_6 (pl nn wa : Int) (a1 a2 : Option Addr) (l1 l2 c1 c2 : Nat) (ws : List Int) (w : World) (h1 : l1 = ws.length) (s1 : SlI w a1 ws) (hl1 : ws.length ≤ 2000000) (hl2 : l2 ≤ 20000000) (hW : allW ws = true) (hP : inB pl 0 65535 = true) (b : Bool) (hb : okR 6 pl nn wa ws l1 l2 = b) :
    Calls Try.prog 20 #[rq 6 pl nn wa a1 a2 l1 l2 c1 c2] w fun e w' => e = .returned (.bool b) ∧ Below w.heap.size w w' := by
  have H1 : Hid (l1 = ws.length) := h1
  have B0 := bel_alloc w (.cells #[.int .i64 6, .int .i64 pl, .int .i64 nn, .slice a1 l1 c1, .slice a2 l2 c2, .int .i64 wa] 28)
  have X0 := Blk.new w #[.int .i64 6, .int .i64 pl, .int .i64 nn, .slice a1 l1 c1, .slice a2 l2 c2, .int .i64 wa] 28
  have S1 : Hid (SlI (w.alloc (.cells #[.int .i64 6, .int .i64 pl, .int .i64 nn, .slice a1 l1 c1, .slice a2 l2 c2, .int .i64 wa] 28)) a1 ws) := s1.below B0
  clear h1 s1
  cases hZ : zrB false true false false nn l1 l2 wa
  · skip
    have e : okR 6 pl nn wa ws l1 l2 = false := by simp [okR, okK, hW, hP, hZ]
    rw [e] at hb
    subst hb
    clear e
    go_enter Try.func20, Try.ntmps20
    go_wp2_with (first
      | (go_at_call 62; refine (l3Words_any _ _ _ ws _ H1.out S1.out hl1 _ hW).mono ?_; rintro e wx ⟨rfl, rfl⟩)
      | (go_at_call 63; refine (l1In_any _ _ _ _ _ (by first | exact hP)).mono ?_; rintro e wx ⟨rfl, rfl⟩)
      | (go_at_call 64; refine (l3Zero_ftff _ _ _ _ _ _ _ _ _ _ _ (by have := H1.out; omega) hl2 _ hZ).mono ?_; rintro e w1 ⟨rfl, b'⟩; have B1 := bel_next B0 b'; obtain ⟨y0, y1, y2, y3, y4, y5⟩ := (X0.below b').six; clear B0))
    go_ret
    exact ⟨rfl, B1⟩
  · skip
    by_cases hL : l1 = 1
    · skip
      have e : okR 6 pl nn wa ws l1 l2 = true := by have q := hZ; rw [hL] at q ⊢; simp [okR, okK, hW, hP, q]
      rw [e] at hb
      subst hb
      clear e
      have hLi : (l1 : Int) = 1 := by omega
      have HL : Hid (l1 = 1) := hL
      clear hL
      go_enter Try.func20, Try.ntmps20
      go_wp2_with (first
        | (go_at_call 62; refine (l3Words_any _ _ _ ws _ H1.out S1.out hl1 _ hW).mono ?_; rintro e wx ⟨rfl, rfl⟩)
        | (go_at_call 63; refine (l1In_any _ _ _ _ _ (by first | exact hP)).mono ?_; rintro e wx ⟨rfl, rfl⟩)
        | (go_at_call 64; refine (l3Zero_ftff _ _ _ _ _ _ _ _ _ _ _ (by have := H1.out; omega) hl2 _ hZ).mono ?_; rintro e w1 ⟨rfl, b'⟩; have B1 := bel_next B0 b'; obtain ⟨y0, y1, y2, y3, y4, y5⟩ := (X0.below b').six; clear B0))
      go_ret
      exact ⟨rfl, B1⟩
    · skip
      have e : okR 6 pl nn wa ws l1 l2 = false := by simp [okR, okK, hW, hP, hZ, hL]
      rw [e] at hb
      subst hb
      clear e
      have hLi : ((l1 : Int) == 1) = false := by simp; omega
      clear hL
      go_enter Try.func20, Try.ntmps20
      go_wp2_with (first
        | (go_at_call 62; refine (l3Words_any _ _ _ ws _ H1.out S1.out hl1 _ hW).mono ?_; rintro e wx ⟨rfl, rfl⟩)
        | (go_at_call 63; refine (l1In_any _ _ _ _ _ (by first | exact hP)).mono ?_; rintro e wx ⟨rfl, rfl⟩)
        | (go_at_call 64; refine (l3Zero_ftff _ _ _ _ _ _ _ _ _ _ _ (by have := H1.out; omega) hl2 _ hZ).mono ?_; rintro e w1 ⟨rfl, b'⟩; have B1 := bel_next B0 b'; obtain ⟨y0, y1, y2, y3, y4, y5⟩ := (X0.below b').six; clear B0))
      go_ret
      exact ⟨rfl, B1⟩

set_option maxHeartbeats 4000000 in
theorem specReqOk_15 (pl nn wa : Int) (a1 a2 : Option Addr) (l1 l2 c1 c2 : Nat) (ws : List Int) (w : World) (h1 : l1 = ws.length) (s1 : SlI w a1 ws) (hl1 : ws.length ≤ 2000000) (hl2 : l2 ≤ 20000000) (hW : allW ws = true) (hP : inB pl 0 65535 = true) (b : Bool) (hb : okR 15 pl nn wa ws l1 l2 = b) :
    Calls Try.prog 20 #[rq 15 pl nn wa a1 a2 l1 l2 c1 c2] w fun e w' => e = .returned (.bool b) ∧ Below w.heap.size w w' := by
  have H1 : Hid (l1 = ws.length) := h1
  have B0 := bel_alloc w (.cells #[.int .i64 15, .int .i64 pl, .int .i64 nn, .slice a1 l1 c1, .slice a2 l2 c2, .int .i64 wa] 28)
  have X0 := Blk.new w #[.int .i64 15, .int .i64 pl, .int .i64 nn, .slice a1 l1 c1, .slice a2 l2 c2, .int .i64 wa] 28
  have S1 : Hid (SlI (w.alloc (.cells #[.int .i64 15, .int .i64 pl, .int .i64 nn, .slice a1 l1 c1, .slice a2 l2 c2, .int .i64 wa] 28)) a1 ws) := s1.below B0
  clear h1 s1
  cases hZ : zrB false false true false nn l1 l2 wa
  · skip
    have e : okR 15 pl nn wa ws l1 l2 = false := by simp [okR, okK, hW, hP, hZ]
    rw [e] at hb
    subst hb
    clear e
    go_enter Try.func20, Try.ntmps20
    go_wp2_with (first
      | (go_at_call 62; refine (l3Words_any _ _ _ ws _ H1.out S1.out hl1 _ hW).mono ?_; rintro e wx ⟨rfl, rfl⟩)
      | (go_at_call 63; refine (l1In_any _ _ _ _ _ (by first | exact hP)).mono ?_; rintro e wx ⟨rfl, rfl⟩)
      | (go_at_call 64; refine (l3Zero_fftf _ _ _ _ _ _ _ _ _ _ _ (by have := H1.out; omega) hl2 _ hZ).mono ?_; rintro e w1 ⟨rfl, b'⟩; have B1 := bel_next B0 b'; obtain ⟨y0, y1, y2, y3, y4, y5⟩ := (X0.below b').six; clear B0))
    go_ret
    exact ⟨rfl, B1⟩
  · skip
    cases hN : inB l2 1 1968
    · skip
      have e : okR 15 pl nn wa ws l1 l2 = false := by simp [okR, okK, hW, hP, hZ, hN]
      rw [e] at hb
      subst hb
      clear e
      go_enter Try.func20, Try.ntmps20
      go_wp2_with (first
        | (go_at_call 62; refine (l3Words_any _ _ _ ws _ H1.out S1.out hl1 _ hW).mono ?_; rintro e wx ⟨rfl, rfl⟩)
        | (go_at_call 63; refine (l1In_any _ _ _ _ _ (by first | exact hP | exact hN)).mono ?_; rintro e wx ⟨rfl, rfl⟩)
        | (go_at_call 64; refine (l3Zero_fftf _ _ _ _ _ _ _ _ _ _ _ (by have := H1.out; omega) hl2 _ hZ).mono ?_; rintro e w1 ⟨rfl, b'⟩; have B1 := bel_next B0 b'; obtain ⟨y0, y1, y2, y3, y4, y5⟩ := (X0.below b').six; clear B0))
      go_ret
      exact ⟨rfl, B1⟩
    · skip
      cases hF : fitB pl l2
      · skip
        have e : okR 15 pl nn wa ws l1 l2 = false := by simp [okR, okK, hW, hP, hZ, hN, hF]
        rw [e] at hb
        subst hb
        clear e
        have qhN := inB_yes hN
        go_enter Try.func20, Try.ntmps20
        go_wp2_with (first
          | (go_at_call 62; refine (l3Words_any _ _ _ ws _ H1.out S1.out hl1 _ hW).mono ?_; rintro e wx ⟨rfl, rfl⟩)
          | (go_at_call 63; refine (l1In_any _ _ _ _ _ (by first | exact hP | exact hN)).mono ?_; rintro e wx ⟨rfl, rfl⟩)
          | (go_at_call 64; refine (l3Zero_fftf _ _ _ _ _ _ _ _ _ _ _ (by have := H1.out; omega) hl2 _ hZ).mono ?_; rintro e w1 ⟨rfl, b'⟩; have B1 := bel_next B0 b'; obtain ⟨y0, y1, y2, y3, y4, y5⟩ := (X0.below b').six; clear B0)
          | (go_at_call 65; refine (l3Fits_any _ _ _ (by omega) (by omega) _ (by first | exact hF)).mono ?_; rintro e wx ⟨rfl, rfl⟩))
        go_ret
        exact ⟨rfl, B1⟩
      · skip
        have e : okR 15 pl nn wa ws l1 l2 = true := by simp [okR, okK, hW, hP, hZ, hN, hF]
        rw [e] at hb
        subst hb
        clear e
        have qhN := inB_yes hN
        go_enter Try.func20, Try.ntmps20
        go_wp2_with (first
          | (go_at_call 62; refine (l3Words_any _ _ _ ws _ H1.out S1.out hl1 _ hW).mono ?_; rintro e wx ⟨rfl, rfl⟩)
          | (go_at_call 63; refine (l1In_any _ _ _ _ _ (by first | exact hP | exact hN)).mono ?_; rintro e wx ⟨rfl, rfl⟩)
          | (go_at_call 64; refine (l3Zero_fftf _ _ _ _ _ _ _ _ _ _ _ (by have := H1.out; omega) hl2 _ hZ).mono ?_; rintro e w1 ⟨rfl, b'⟩; have B1 := bel_next B0 b'; obtain ⟨y0, y1, y2, y3, y4, y5⟩ := (X0.below b').six; clear B0)
          | (go_at_call 65; refine (l3Fits_any _ _ _ (by omega) (by omega) _ (by first | exact hF)).mono ?_; rintro e wx ⟨rfl, rfl⟩))
        go_ret
        exact ⟨rfl, B1⟩

set_option maxHeartbeats 4000000 in
theorem specReqOk_16 (pl nn wa : Int) (a1 a2 : Option Addr) (l1 l2 c1 c2 : Nat) (ws : List Int) (w : World) (h1 : l1 = ws.length) (s1 : SlI w a1 ws) (hl1 : ws.length ≤ 2000000) (hl2 : l2 ≤ 20000000) (hW : allW ws = true) (hP : inB pl 0 65535 = true) (b : Bool) (hb : okR 16 pl nn wa ws l1 l2 = b) :
    Calls Try.prog 20 #[rq 16 pl nn wa a1 a2 l1 l2 c1 c2] w fun e w' => e = .returned (.bool b) ∧ Below w.heap.size w w' := by
  have H1 : Hid (l1 = ws.length) := h1
  have B0 := bel_alloc w (.cells #[.int .i64 16, .int .i64 pl, .int .i64 nn, .slice a1 l1 c1, .slice a2 l2 c2, .int .i64 wa] 28)
  have X0 := Blk.new w #[.int .i64 16, .int .i64 pl, .int .i64 nn, .slice a1 l1 c1, .slice a2 l2 c2, .int .i64 wa] 28
  have S1 : Hid (SlI (w.alloc (.cells #[.int .i64 16, .int .i64 pl, .int .i64 nn, .slice a1 l1 c1, .slice a2 l2 c2, .int .i64 wa] 28)) a1 ws) := s1.below B0
  clear h1 s1
  cases hZ : zrB false true false false nn l1 l2 wa
  · skip
    have e : okR 16 pl nn wa ws l1 l2 = false := by simp [okR, okK, hW, hP, hZ]
    rw [e] at hb
    subst hb
    clear e
    go_enter Try.func20, Try.ntmps20
    go_wp2_with (first
      | (go_at_call 62; refine (l3Words_any _ _ _ ws _ H1.out S1.out hl1 _ hW).mono ?_; rintro e wx ⟨rfl, rfl⟩)
      | (go_at_call 63; refine (l1In_any _ _ _ _ _ (by first | exact hP)).mono ?_; rintro e wx ⟨rfl, rfl⟩)
      | (go_at_call 64; refine (l3Zero_ftff _ _ _ _ _ _ _ _ _ _ _ (by have := H1.out; omega) hl2 _ hZ).mono ?_; rintro e w1 ⟨rfl, b'⟩; have B1 := bel_next B0 b'; obtain ⟨y0, y1, y2, y3, y4, y5⟩ := (X0.below b').six; clear B0))
    go_ret
    exact ⟨rfl, B1⟩
  · skip
    cases hN : inB l1 1 123
    · skip
      have e : okR 16 pl nn wa ws l1 l2 = false := by simp [okR, okK, hW, hP, hZ, hN]
      rw [e] at hb
      subst hb
      clear e
      go_enter Try.func20, Try.ntmps20
      go_wp2_with (first
        | (go_at_call 62; refine (l3Words_any _ _ _ ws _ H1.out S1.out hl1 _ hW).mono ?_; rintro e wx ⟨rfl, rfl⟩)
        | (go_at_call 63; refine (l1In_any _ _ _ _ _ (by first | exact hP | exact hN)).mono ?_; rintro e wx ⟨rfl, rfl⟩)
        | (go_at_call 64; refine (l3Zero_ftff _ _ _ _ _ _ _ _ _ _ _ (by have := H1.out; omega) hl2 _ hZ).mono ?_; rintro e w1 ⟨rfl, b'⟩; have B1 := bel_next B0 b'; obtain ⟨y0, y1, y2, y3, y4, y5⟩ := (X0.below b').six; clear B0))
      go_ret
      exact ⟨rfl, B1⟩
    · skip
      cases hF : fitB pl l1
      · skip
        have e : okR 16 pl nn wa ws l1 l2 = false := by simp [okR, okK, hW, hP, hZ, hN, hF]
        rw [e] at hb
        subst hb
        clear e
        have qhN := inB_yes hN
        go_enter Try.func20, Try.ntmps20
        go_wp2_with (first
          | (go_at_call 62; refine (l3Words_any _ _ _ ws _ H1.out S1.out hl1 _ hW).mono ?_; rintro e wx ⟨rfl, rfl⟩)
          | (go_at_call 63; refine (l1In_any _ _ _ _ _ (by first | exact hP | exact hN)).mono ?_; rintro e wx ⟨rfl, rfl⟩)
          | (go_at_call 64; refine (l3Zero_ftff _ _ _ _ _ _ _ _ _ _ _ (by have := H1.out; omega) hl2 _ hZ).mono ?_; rintro e w1 ⟨rfl, b'⟩; have B1 := bel_next B0 b'; obtain ⟨y0, y1, y2, y3, y4, y5⟩ := (X0.below b').six; clear B0)
          | (go_at_call 65; refine (l3Fits_any _ _ _ (by omega) (by omega) _ (by first | exact hF)).mono ?_; rintro e wx ⟨rfl, rfl⟩))
        go_ret
        exact ⟨rfl, B1⟩
      · skip
        have e : okR 16 pl nn wa ws l1 l2 = true := by simp [okR, okK, hW, hP, hZ, hN, hF]
        rw [e] at hb
        subst hb
        clear e
        have qhN := inB_yes hN
        go_enter Try.func20, Try.ntmps20
        go_wp2_with (first
          | (go_at_call 62; refine (l3Words_any _ _ _ ws _ H1.out S1.out hl1 _ hW).mono ?_; rintro e wx ⟨rfl, rfl⟩)
          | (go_at_call 63; refine (l1In_any _ _ _ _ _ (by first | exact hP | exact hN)).mono ?_; rintro e wx ⟨rfl, rfl⟩)
          | (go_at_call 64; refine (l3Zero_ftff _ _ _ _ _ _ _ _ _ _ _ (by have := H1.out; omega) hl2 _ hZ).mono ?_; rintro e w1 ⟨rfl, b'⟩; have B1 := bel_next B0 b'; obtain ⟨y0, y1, y2, y3, y4, y5⟩ := (X0.below b').six; clear B0)
          | (go_at_call 65; refine (l3Fits_any _ _ _ (by omega) (by omega) _ (by first | exact hF)).mono ?_; rintro e wx ⟨rfl, rfl⟩))
        go_ret
        exact ⟨rfl, B1⟩

set_option maxHeartbeats 4000000 in
theorem specReqOk_22 (pl nn wa : Int) (a1 a2 : Option Addr) (l1 l2 c1 c2 : Nat) (ws : List Int) (w : World) (h1 : l1 = ws.length) (s1 : SlI w a1 ws) (hl1 : ws.length ≤ 2000000) (hl2 : l2 ≤ 20000000) (hW : allW ws = true) (hP : inB pl 0 65535 = true) (b : Bool) (hb : okR 22 pl nn wa ws l1 l2 = b) :
    Calls Try.prog 20 #[rq 22 pl nn wa a1 a2 l1 l2 c1 c2] w fun e w' => e = .returned (.bool b) ∧ Below w.heap.size w w' := by
  have H1 : Hid (l1 = ws.length) := h1
  have B0 := bel_alloc w (.cells #[.int .i64 22, .int .i64 pl, .int .i64 nn, .slice a1 l1 c1, .slice a2 l2 c2, .int .i64 wa] 28)
  have X0 := Blk.new w #[.int .i64 22, .int .i64 pl, .int .i64 nn, .slice a1 l1 c1, .slice a2 l2 c2, .int .i64 wa] 28
  have S1 : Hid (SlI (w.alloc (.cells #[.int .i64 22, .int .i64 pl, .int .i64 nn, .slice a1 l1 c1, .slice a2 l2 c2, .int .i64 wa] 28)) a1 ws) := s1.below B0
  clear h1 s1
  cases hZ : zrB false true false false nn l1 l2 wa
  · skip
    have e : okR 22 pl nn wa ws l1 l2 = false := by simp [okR, okK, hW, hP, hZ]
    rw [e] at hb
    subst hb
    clear e
    go_enter Try.func20, Try.ntmps20
    go_wp2_with (first
      | (go_at_call 62; refine (l3Words_any _ _ _ ws _ H1.out S1.out hl1 _ hW).mono ?_; rintro e wx ⟨rfl, rfl⟩)
      | (go_at_call 63; refine (l1In_any _ _ _ _ _ (by first | exact hP)).mono ?_; rintro e wx ⟨rfl, rfl⟩)
      | (go_at_call 64; refine (l3Zero_ftff _ _ _ _ _ _ _ _ _ _ _ (by have := H1.out; omega) hl2 _ hZ).mono ?_; rintro e w1 ⟨rfl, b'⟩; have B1 := bel_next B0 b'; obtain ⟨y0, y1, y2, y3, y4, y5⟩ := (X0.below b').six; clear B0))
    go_ret
    exact ⟨rfl, B1⟩
  · skip
    by_cases hL : l1 = 2
    · skip
      have e : okR 22 pl nn wa ws l1 l2 = true := by have q := hZ; rw [hL] at q ⊢; simp [okR, okK, hW, hP, q]
      rw [e] at hb
      subst hb
      clear e
      have hLi : (l1 : Int) = 2 := by omega
      have HL : Hid (l1 = 2) := hL
      clear hL
      go_enter Try.func20, Try.ntmps20
      go_wp2_with (first
        | (go_at_call 62; refine (l3Words_any _ _ _ ws _ H1.out S1.out hl1 _ hW).mono ?_; rintro e wx ⟨rfl, rfl⟩)
        | (go_at_call 63; refine (l1In_any _ _ _ _ _ (by first | exact hP)).mono ?_; rintro e wx ⟨rfl, rfl⟩)
        | (go_at_call 64; refine (l3Zero_ftff _ _ _ _ _ _ _ _ _ _ _ (by have := H1.out; omega) hl2 _ hZ).mono ?_; rintro e w1 ⟨rfl, b'⟩; have B1 := bel_next B0 b'; obtain ⟨y0, y1, y2, y3, y4, y5⟩ := (X0.below b').six; clear B0))
      go_ret
      exact ⟨rfl, B1⟩
    · skip
      have e : okR 22 pl nn wa ws l1 l2 = false := by simp [okR, okK, hW, hP, hZ, hL]
      rw [e] at hb
      subst hb
      clear e
      have hLi : ((l1 : Int) == 2) = false := by simp; omega
      clear hL
      go_enter Try.func20, Try.ntmps20
      go_wp2_with (first
        | (go_at_call 62; refine (l3Words_any _ _ _ ws _ H1.out S1.out hl1 _ hW).mono ?_; rintro e wx ⟨rfl, rfl⟩)
        | (go_at_call 63; refine (l1In_any _ _ _ _ _ (by first | exact hP)).mono ?_; rintro e wx ⟨rfl, rfl⟩)
        | (go_at_call 64; refine (l3Zero_ftff _ _ _ _ _ _ _ _ _ _ _ (by have := H1.out; omega) hl2 _ hZ).mono ?_; rintro e w1 ⟨rfl, b'⟩; have B1 := bel_next B0 b'; obtain ⟨y0, y1, y2, y3, y4, y5⟩ := (X0.below b').six; clear B0))
      go_ret
      exact ⟨rfl, B1⟩

set_option maxHeartbeats 4000000 in
theorem specReqOk_23 (pl nn wa : Int) (a1 a2 : Option Addr) (l1 l2 c1 c2 : Nat) (ws : List Int) (w : World) (h1 : l1 = ws.length) (s1 : SlI w a1 ws) (hl1 : ws.length ≤ 2000000) (hl2 : l2 ≤ 20000000) (hW : allW ws = true) (hP : inB pl 0 65535 = true) (b : Bool) (hb : okR 23 pl nn wa ws l1 l2 = b) :
    Calls Try.prog 20 #[rq 23 pl nn wa a1 a2 l1 l2 c1 c2] w fun e w' => e = .returned (.bool b) ∧ Below w.heap.size w w' := by
  have H1 : Hid (l1 = ws.length) := h1
  have B0 := bel_alloc w (.cells #[.int .i64 23, .int .i64 pl, .int .i64 nn, .slice a1 l1 c1, .slice a2 l2 c2, .int .i64 wa] 28)
  have X0 := Blk.new w #[.int .i64 23, .int .i64 pl, .int .i64 nn, .slice a1 l1 c1, .slice a2 l2 c2, .int .i64 wa] 28
  have S1 : Hid (SlI (w.alloc (.cells #[.int .i64 23, .int .i64 pl, .int .i64 nn, .slice a1 l1 c1, .slice a2 l2 c2, .int .i64 wa] 28)) a1 ws) := s1.below B0
  clear h1 s1
  cases hZ : zrB true true false true nn l1 l2 wa
  · skip
    have e : okR 23 pl nn wa ws l1 l2 = false := by simp [okR, okK, hW, hP, hZ]
    rw [e] at hb
    subst hb
    clear e
    go_enter Try.func20, Try.ntmps20
    go_wp2_with (first
      | (go_at_call 62; refine (l3Words_any _ _ _ ws _ H1.out S1.out hl1 _ hW).mono ?_; rintro e wx ⟨rfl, rfl⟩)
      | (go_at_call 63; refine (l1In_any _ _ _ _ _ (by first | exact hP)).mono ?_; rintro e wx ⟨rfl, rfl⟩)
      | (go_at_call 64; refine (l3Zero_ttft _ _ _ _ _ _ _ _ _ _ _ (by have := H1.out; omega) hl2 _ hZ).mono ?_; rintro e w1 ⟨rfl, b'⟩; have B1 := bel_next B0 b'; obtain ⟨y0, y1, y2, y3, y4, y5⟩ := (X0.below b').six; clear B0))
    go_ret
    exact ⟨rfl, B1⟩
  · skip
    cases hN : inB nn 1 125
    · skip
      have e : okR 23 pl nn wa ws l1 l2 = false := by simp [okR, okK, hW, hP, hZ, hN]
      rw [e] at hb
      subst hb
      clear e
      go_enter Try.func20, Try.ntmps20
      go_wp2_with (first
        | (go_at_call 62; refine (l3Words_any _ _ _ ws _ H1.out S1.out hl1 _ hW).mono ?_; rintro e wx ⟨rfl, rfl⟩)
        | (go_at_call 63; refine (l1In_any _ _ _ _ _ (by first | exact hP | exact hN)).mono ?_; rintro e wx ⟨rfl, rfl⟩)
        | (go_at_call 64; refine (l3Zero_ttft _ _ _ _ _ _ _ _ _ _ _ (by have := H1.out; omega) hl2 _ hZ).mono ?_; rintro e w1 ⟨rfl, b'⟩; have B1 := bel_next B0 b'; obtain ⟨y0, y1, y2, y3, y4, y5⟩ := (X0.below b').six; clear B0))
      go_ret
      exact ⟨rfl, B1⟩
    · skip
      cases hF : fitB pl nn
      · skip
        have e : okR 23 pl nn wa ws l1 l2 = false := by simp [okR, okK, hW, hP, hZ, hN, hF]
        rw [e] at hb
        subst hb
        clear e
        have qhN := inB_yes hN
        go_enter Try.func20, Try.ntmps20
        go_wp2_with (first
          | (go_at_call 62; refine (l3Words_any _ _ _ ws _ H1.out S1.out hl1 _ hW).mono ?_; rintro e wx ⟨rfl, rfl⟩)
          | (go_at_call 63; refine (l1In_any _ _ _ _ _ (by first | exact hP | exact hN)).mono ?_; rintro e wx ⟨rfl, rfl⟩)
          | (go_at_call 64; refine (l3Zero_ttft _ _ _ _ _ _ _ _ _ _ _ (by have := H1.out; omega) hl2 _ hZ).mono ?_; rintro e w1 ⟨rfl, b'⟩; have B1 := bel_next B0 b'; obtain ⟨y0, y1, y2, y3, y4, y5⟩ := (X0.below b').six; clear B0)
          | (go_at_call 65; refine (l3Fits_any _ _ _ (by omega) (by omega) _ (by first | exact hF)).mono ?_; rintro e wx ⟨rfl, rfl⟩))
        go_ret
        exact ⟨rfl, B1⟩
      · skip
        cases hM : inB l1 1 121
        · skip
          have e : okR 23 pl nn wa ws l1 l2 = false := by simp [okR, okK, hW, hP, hZ, hN, hF, hM]
          rw [e] at hb
          subst hb
          clear e
          have qhN := inB_yes hN
          go_enter Try.func20, Try.ntmps20
          go_wp2_with (first
            | (go_at_call 62; refine (l3Words_any _ _ _ ws _ H1.out S1.out hl1 _ hW).mono ?_; rintro e wx ⟨rfl, rfl⟩)
            | (go_at_call 63; refine (l1In_any _ _ _ _ _ (by first | exact hP | exact hN | exact hM)).mono ?_; rintro e wx ⟨rfl, rfl⟩)
            | (go_at_call 64; refine (l3Zero_ttft _ _ _ _ _ _ _ _ _ _ _ (by have := H1.out; omega) hl2 _ hZ).mono ?_; rintro e w1 ⟨rfl, b'⟩; have B1 := bel_next B0 b'; obtain ⟨y0, y1, y2, y3, y4, y5⟩ := (X0.below b').six; clear B0)
            | (go_at_call 65; refine (l3Fits_any _ _ _ (by omega) (by omega) _ (by first | exact hF)).mono ?_; rintro e wx ⟨rfl, rfl⟩))
          go_ret
          exact ⟨rfl, B1⟩
        · skip
          cases hG : fitB wa l1
          · skip
            have e : okR 23 pl nn wa ws l1 l2 = false := by simp [okR, okK, hW, hP, hZ, hN, hF, hM, hG]
            rw [e] at hb
            subst hb
            clear e
            have qhN := inB_yes hN
            have qhM := inB_yes hM
            go_enter Try.func20, Try.ntmps20
            go_wp2_with (first
              | (go_at_call 62; refine (l3Words_any _ _ _ ws _ H1.out S1.out hl1 _ hW).mono ?_; rintro e wx ⟨rfl, rfl⟩)
              | (go_at_call 63; refine (l1In_any _ _ _ _ _ (by first | exact hP | exact hN | exact hM)).mono ?_; rintro e wx ⟨rfl, rfl⟩)
              | (go_at_call 64; refine (l3Zero_ttft _ _ _ _ _ _ _ _ _ _ _ (by have := H1.out; omega) hl2 _ hZ).mono ?_; rintro e w1 ⟨rfl, b'⟩; have B1 := bel_next B0 b'; obtain ⟨y0, y1, y2, y3, y4, y5⟩ := (X0.below b').six; clear B0)
              | (go_at_call 65; refine (l3Fits_any _ _ _ (by omega) (by omega) _ (by first | exact hF | exact hG)).mono ?_; rintro e wx ⟨rfl, rfl⟩))
            go_ret
            exact ⟨rfl, B1⟩
          · skip
            have e : okR 23 pl nn wa ws l1 l2 = true := by simp [okR, okK, hW, hP, hZ, hN, hF, hM, hG]
            rw [e] at hb
            subst hb
            clear e
            have qhN := inB_yes hN
            have qhM := inB_yes hM
            go_enter Try.func20, Try.ntmps20
            go_wp2_with (first
              | (go_at_call 62; refine (l3Words_any _ _ _ ws _ H1.out S1.out hl1 _ hW).mono ?_; rintro e wx ⟨rfl, rfl⟩)
              | (go_at_call 63; refine (l1In_any _ _ _ _ _ (by first | exact hP | exact hN | exact hM)).mono ?_; rintro e wx ⟨rfl, rfl⟩)
              | (go_at_call 64; refine (l3Zero_ttft _ _ _ _ _ _ _ _ _ _ _ (by have := H1.out; omega) hl2 _ hZ).mono ?_; rintro e w1 ⟨rfl, b'⟩; have B1 := bel_next B0 b'; obtain ⟨y0, y1, y2, y3, y4, y5⟩ := (X0.below b').six; clear B0)
              | (go_at_call 65; refine (l3Fits_any _ _ _ (by omega) (by omega) _ (by first | exact hF | exact hG)).mono ?_; rintro e wx ⟨rfl, rfl⟩))
            go_ret
            exact ⟨rfl, B1⟩

set_option maxHeartbeats 4000000 in
theorem specReqOk_any (kd : Int) (pl nn wa : Int) (a1 a2 : Option Addr) (l1 l2 c1 c2 : Nat) (ws : List Int) (w : World) (h1 : l1 = ws.length) (s1 : SlI w a1 ws) (hl1 : ws.length ≤ 2000000) (hl2 : l2 ≤ 20000000) (b : Bool) (hb : okR kd pl nn wa ws l1 l2 = b) :
    Calls Try.prog 20 #[rq kd pl nn wa a1 a2 l1 l2 c1 c2] w fun e w' => e = .returned (.bool b) ∧ Below w.heap.size w w' := by
  have H1 : Hid (l1 = ws.length) := h1
  have B0 := bel_alloc w (.cells #[.int .i64 kd, .int .i64 pl, .int .i64 nn, .slice a1 l1 c1, .slice a2 l2 c2, .int .i64 wa] 28)
  have X0 := Blk.new w #[.int .i64 kd, .int .i64 pl, .int .i64 nn, .slice a1 l1 c1, .slice a2 l2 c2, .int .i64 wa] 28
  have S1 : Hid (SlI (w.alloc (.cells #[.int .i64 kd, .int .i64 pl, .int .i64 nn, .slice a1 l1 c1, .slice a2 l2 c2, .int .i64 wa] 28)) a1 ws) := s1.below B0
  have hs : Hid (SlI w a1 ws) := s1
  clear h1 s1
  cases hW : allW ws
  · skip
    have e : okR kd pl nn wa ws l1 l2 = false := by simp [okR, okK, hW]
    rw [e] at hb
    subst hb
    clear e
    have hP : True := trivial
    go_enter Try.func20, Try.ntmps20
    go_wp2_with (first
      | (go_at_call 62; refine (l3Words_any _ _ _ ws _ H1.out S1.out hl1 _ hW).mono ?_; rintro e wx ⟨rfl, rfl⟩)
      | (go_at_call 63; refine (l1In_any _ _ _ _ _ (by first | exact hP)).mono ?_; rintro e wx ⟨rfl, rfl⟩))
    go_ret
    exact ⟨rfl, B0⟩
  · cases hP : inB pl 0 65535
    · skip
      have e : okR kd pl nn wa ws l1 l2 = false := by simp [okR, okK, hW, hP]
      rw [e] at hb
      subst hb
      clear e
      go_enter Try.func20, Try.ntmps20
      go_wp2_with (first
        | (go_at_call 62; refine (l3Words_any _ _ _ ws _ H1.out S1.out hl1 _ hW).mono ?_; rintro e wx ⟨rfl, rfl⟩)
        | (go_at_call 63; refine (l1In_any _ _ _ _ _ (by first | exact hP)).mono ?_; rintro e wx ⟨rfl, rfl⟩))
      go_ret
      exact ⟨rfl, B0⟩
    · by_cases hk : kd = 1 ∨ kd = 2 ∨ kd = 3 ∨ kd = 4 ∨ kd = 5 ∨ kd = 6 ∨ kd = 15 ∨ kd = 16 ∨ kd = 22 ∨ kd = 23
      · clear X0 S1 B0
        obtain rfl | rfl | rfl | rfl | rfl | rfl | rfl | rfl | rfl | rfl := hk
        · exact specReqOk_1 pl nn wa a1 a2 l1 l2 c1 c2 ws w H1.out hs.out hl1 hl2 hW hP b hb
        · exact specReqOk_2 pl nn wa a1 a2 l1 l2 c1 c2 ws w H1.out hs.out hl1 hl2 hW hP b hb
        · exact specReqOk_3 pl nn wa a1 a2 l1 l2 c1 c2 ws w H1.out hs.out hl1 hl2 hW hP b hb
        · exact specReqOk_4 pl nn wa a1 a2 l1 l2 c1 c2 ws w H1.out hs.out hl1 hl2 hW hP b hb
        · exact specReqOk_5 pl nn wa a1 a2 l1 l2 c1 c2 ws w H1.out hs.out hl1 hl2 hW hP b hb
        · exact specReqOk_6 pl nn wa a1 a2 l1 l2 c1 c2 ws w H1.out hs.out hl1 hl2 hW hP b hb
        · exact specReqOk_15 pl nn wa a1 a2 l1 l2 c1 c2 ws w H1.out hs.out hl1 hl2 hW hP b hb
        · exact specReqOk_16 pl nn wa a1 a2 l1 l2 c1 c2 ws w H1.out hs.out hl1 hl2 hW hP b hb
        · exact specReqOk_22 pl nn wa a1 a2 l1 l2 c1 c2 ws w H1.out hs.out hl1 hl2 hW hP b hb
        · exact specReqOk_23 pl nn wa a1 a2 l1 l2 c1 c2 ws w H1.out hs.out hl1 hl2 hW hP b hb
      · skip
        have k1 : ¬ kd = 1 := by omega
        have k2 : ¬ kd = 2 := by omega
        have k3 : ¬ kd = 3 := by omega
        have k4 : ¬ kd = 4 := by omega
        have k5 : ¬ kd = 5 := by omega
        have k6 : ¬ kd = 6 := by omega
        have k15 : ¬ kd = 15 := by omega
        have k16 : ¬ kd = 16 := by omega
        have k22 : ¬ kd = 22 := by omega
        have k23 : ¬ kd = 23 := by omega
        clear hk
        have e : okR kd pl nn wa ws l1 l2 = false := by simp [okR, okK, hW, hP, k1, k2, k3, k4, k5, k6, k15, k16, k22, k23]
        rw [e] at hb
        subst hb
        clear e
        go_enter Try.func20, Try.ntmps20
        go_wp2_with (first
          | (go_at_call 62; refine (l3Words_any _ _ _ ws _ H1.out S1.out hl1 _ hW).mono ?_; rintro e wx ⟨rfl, rfl⟩)
          | (go_at_call 63; refine (l1In_any _ _ _ _ _ (by first | exact hP)).mono ?_; rintro e wx ⟨rfl, rfl⟩))
        go_ret
        exact ⟨rfl, B0⟩

end Go.Proofs.Ytaaokbmfpfmfgaa

namespace Go.Proofs.Ytaaokbmfpfmfgaa
open Go.RowKit

set_option linter.unusedVariables false

theorem ta_1_1 (w : World) (v : Value) : (Instr.typeAssert (.iface 116 v) 76 116 true).run Try.prog w = .ok (.tuple #[v, .bool true]) w := by kernel_rfl

theorem ta_2_1 (w : World) (v : Value) : (Instr.typeAssert (.iface 117 v) 76 116 true).run Try.prog w = .ok (.tuple #[.agg #[.int .i64 0, .int .i64 0], .bool false]) w := by kernel_rfl

theorem ta_2_2 (w : World) (v : Value) : (Instr.typeAssert (.iface 117 v) 76 117 true).run Try.prog w = .ok (.tuple #[v, .bool true]) w := by kernel_rfl

theorem ta_3_1 (w : World) (v : Value) : (Instr.typeAssert (.iface 118 v) 76 116 true).run Try.prog w = .ok (.tuple #[.agg #[.int .i64 0, .int .i64 0], .bool false]) w := by kernel_rfl

theorem ta_3_2 (w : World) (v : Value) : (Instr.typeAssert (.iface 118 v) 76 117 true).run Try.prog w = .ok (.tuple #[.agg #[.int .i64 0, .int .i64 0], .bool false]) w := by kernel_rfl

theorem ta_3_3 (w : World) (v : Value) : (Instr.typeAssert (.iface 118 v) 76 118 true).run Try.prog w = .ok (.tuple #[v, .bool true]) w := by kernel_rfl

theorem ta_4_1 (w : World) (v : Value) : (Instr.typeAssert (.iface 119 v) 76 116 true).run Try.prog w = .ok (.tuple #[.agg #[.int .i64 0, .int .i64 0], .bool false]) w := by kernel_rfl

theorem ta_4_2 (w : World) (v : Value) : (Instr.typeAssert (.iface 119 v) 76 117 true).run Try.prog w = .ok (.tuple #[.agg #[.int .i64 0, .int .i64 0], .bool false]) w := by kernel_rfl

theorem ta_4_3 (w : World) (v : Value) : (Instr.typeAssert (.iface 119 v) 76 118 true).run Try.prog w = .ok (.tuple #[.agg #[.int .i64 0, .int .i64 0], .bool false]) w := by kernel_rfl

theorem ta_4_4 (w : World) (v : Value) : (Instr.typeAssert (.iface 119 v) 76 119 true).run Try.prog w = .ok (.tuple #[v, .bool true]) w := by kernel_rfl

theorem ta_5_1 (w : World) (v : Value) : (Instr.typeAssert (.iface 121 v) 76 116 true).run Try.prog w = .ok (.tuple #[.agg #[.int .i64 0, .int .i64 0], .bool false]) w := by kernel_rfl

theorem ta_5_2 (w : World) (v : Value) : (Instr.typeAssert (.iface 121 v) 76 117 true).run Try.prog w = .ok (.tuple #[.agg #[.int .i64 0, .int .i64 0], .bool false]) w := by kernel_rfl

theorem ta_5_3 (w : World) (v : Value) : (Instr.typeAssert (.iface 121 v) 76 118 true).run Try.prog w = .ok (.tuple #[.agg #[.int .i64 0, .int .i64 0], .bool false]) w := by kernel_rfl

theorem ta_5_4 (w : World) (v : Value) : (Instr.typeAssert (.iface 121 v) 76 119 true).run Try.prog w = .ok (.tuple #[.agg #[.int .i64 0, .int .i64 0], .bool false]) w := by kernel_rfl

theorem ta_5_5 (w : World) (v : Value) : (Instr.typeAssert (.iface 121 v) 76 121 true).run Try.prog w = .ok (.tuple #[v, .bool true]) w := by kernel_rfl

theorem ta_6_1 (w : World) (v : Value) : (Instr.typeAssert (.iface 123 v) 76 116 true).run Try.prog w = .ok (.tuple #[.agg #[.int .i64 0, .int .i64 0], .bool false]) w := by kernel_rfl

theorem ta_6_2 (w : World) (v : Value) : (Instr.typeAssert (.iface 123 v) 76 117 true).run Try.prog w = .ok (.tuple #[.agg #[.int .i64 0, .int .i64 0], .bool false]) w := by kernel_rfl

theorem ta_6_3 (w : World) (v : Value) : (Instr.typeAssert (.iface 123 v) 76 118 true).run Try.prog w = .ok (.tuple #[.agg #[.int .i64 0, .int .i64 0], .bool false]) w := by kernel_rfl

theorem ta_6_4 (w : World) (v : Value) : (Instr.typeAssert (.iface 123 v) 76 119 true).run Try.prog w = .ok (.tuple #[.agg #[.int .i64 0, .int .i64 0], .bool false]) w := by kernel_rfl

theorem ta_6_5 (w : World) (v : Value) : (Instr.typeAssert (.iface 123 v) 76 121 true).run Try.prog w = .ok (.tuple #[.agg #[.int .i64 0, .bool false], .bool false]) w := by kernel_rfl

theorem ta_6_6 (w : World) (v : Value) : (Instr.typeAssert (.iface 123 v) 76 123 true).run Try.prog w = .ok (.tuple #[v, .bool true]) w := by kernel_rfl

theorem ta_15_1 (w : World) (v : Value) : (Instr.typeAssert (.iface 125 v) 76 116 true).run Try.prog w = .ok (.tuple #[.agg #[.int .i64 0, .int .i64 0], .bool false]) w := by kernel_rfl

theorem ta_15_2 (w : World) (v : Value) : (Instr.typeAssert (.iface 125 v) 76 117 true).run Try.prog w = .ok (.tuple #[.agg #[.int .i64 0, .int .i64 0], .bool false]) w := by kernel_rfl

theorem ta_15_3 (w : World) (v : Value) : (Instr.typeAssert (.iface 125 v) 76 118 true).run Try.prog w = .ok (.tuple #[.agg #[.int .i64 0, .int .i64 0], .bool false]) w := by kernel_rfl

theorem ta_15_4 (w : World) (v : Value) : (Instr.typeAssert (.iface 125 v) 76 119 true).run Try.prog w = .ok (.tuple #[.agg #[.int .i64 0, .int .i64 0], .bool false]) w := by kernel_rfl

theorem ta_15_5 (w : World) (v : Value) : (Instr.typeAssert (.iface 125 v) 76 121 true).run Try.prog w = .ok (.tuple #[.agg #[.int .i64 0, .bool false], .bool false]) w := by kernel_rfl

theorem ta_15_6 (w : World) (v : Value) : (Instr.typeAssert (.iface 125 v) 76 123 true).run Try.prog w = .ok (.tuple #[.agg #[.int .i64 0, .int .i64 0], .bool false]) w := by kernel_rfl

theorem ta_15_15 (w : World) (v : Value) : (Instr.typeAssert (.iface 125 v) 76 125 true).run Try.prog w = .ok (.tuple #[v, .bool true]) w := by kernel_rfl

theorem ta_16_1 (w : World) (v : Value) : (Instr.typeAssert (.iface 127 v) 76 116 true).run Try.prog w = .ok (.tuple #[.agg #[.int .i64 0, .int .i64 0], .bool false]) w := by kernel_rfl

theorem ta_16_2 (w : World) (v : Value) : (Instr.typeAssert (.iface 127 v) 76 117 true).run Try.prog w = .ok (.tuple #[.agg #[.int .i64 0, .int .i64 0], .bool false]) w := by kernel_rfl

theorem ta_16_3 (w : World) (v : Value) : (Instr.typeAssert (.iface 127 v) 76 118 true).run Try.prog w = .ok (.tuple #[.agg #[.int .i64 0, .int .i64 0], .bool false]) w := by kernel_rfl

theorem ta_16_4 (w : World) (v : Value) : (Instr.typeAssert (.iface 127 v) 76 119 true).run Try.prog w = .ok (.tuple #[.agg #[.int .i64 0, .int .i64 0], .bool false]) w := by kernel_rfl

theorem ta_16_5 (w : World) (v : Value) : (Instr.typeAssert (.iface 127 v) 76 121 true).run Try.prog w = .ok (.tuple #[.agg #[.int .i64 0, .bool false], .bool false]) w := by kernel_rfl

theorem ta_16_6 (w : World) (v : Value) : (Instr.typeAssert (.iface 127 v) 76 123 true).run Try.prog w = .ok (.tuple #[.agg #[.int .i64 0, .int .i64 0], .bool false]) w := by kernel_rfl

theorem ta_16_15 (w : World) (v : Value) : (Instr.typeAssert (.iface 127 v) 76 125 true).run Try.prog w = .ok (.tuple #[.agg #[.int .i64 0, .slice none 0 0], .bool false]) w := by kernel_rfl

theorem ta_16_16 (w : World) (v : Value) : (Instr.typeAssert (.iface 127 v) 76 127 true).run Try.prog w = .ok (.tuple #[v, .bool true]) w := by kernel_rfl

theorem ta_22_1 (w : World) (v : Value) : (Instr.typeAssert (.iface 129 v) 76 116 true).run Try.prog w = .ok (.tuple #[.agg #[.int .i64 0, .int .i64 0], .bool false]) w := by kernel_rfl

theorem ta_22_2 (w : World) (v : Value) : (Instr.typeAssert (.iface 129 v) 76 117 true).run Try.prog w = .ok (.tuple #[.agg #[.int .i64 0, .int .i64 0], .bool false]) w := by kernel_rfl

theorem ta_22_3 (w : World) (v : Value) : (Instr.typeAssert (.iface 129 v) 76 118 true).run Try.prog w = .ok (.tuple #[.agg #[.int .i64 0, .int .i64 0], .bool false]) w := by kernel_rfl

theorem ta_22_4 (w : World) (v : Value) : (Instr.typeAssert (.iface 129 v) 76 119 true).run Try.prog w = .ok (.tuple #[.agg #[.int .i64 0, .int .i64 0], .bool false]) w := by kernel_rfl

theorem ta_22_5 (w : World) (v : Value) : (Instr.typeAssert (.iface 129 v) 76 121 true).run Try.prog w = .ok (.tuple #[.agg #[.int .i64 0, .bool false], .bool false]) w := by kernel_rfl

theorem ta_22_6 (w : World) (v : Value) : (Instr.typeAssert (.iface 129 v) 76 123 true).run Try.prog w = .ok (.tuple #[.agg #[.int .i64 0, .int .i64 0], .bool false]) w := by kernel_rfl

theorem ta_22_15 (w : World) (v : Value) : (Instr.typeAssert (.iface 129 v) 76 125 true).run Try.prog w = .ok (.tuple #[.agg #[.int .i64 0, .slice none 0 0], .bool false]) w := by kernel_rfl

theorem ta_22_16 (w : World) (v : Value) : (Instr.typeAssert (.iface 129 v) 76 127 true).run Try.prog w = .ok (.tuple #[.agg #[.int .i64 0, .slice none 0 0], .bool false]) w := by kernel_rfl

theorem ta_22_22 (w : World) (v : Value) : (Instr.typeAssert (.iface 129 v) 76 129 true).run Try.prog w = .ok (.tuple #[v, .bool true]) w := by kernel_rfl

theorem ta_23_1 (w : World) (v : Value) : (Instr.typeAssert (.iface 131 v) 76 116 true).run Try.prog w = .ok (.tuple #[.agg #[.int .i64 0, .int .i64 0], .bool false]) w := by kernel_rfl

theorem ta_23_2 (w : World) (v : Value) : (Instr.typeAssert (.iface 131 v) 76 117 true).run Try.prog w = .ok (.tuple #[.agg #[.int .i64 0, .int .i64 0], .bool false]) w := by kernel_rfl

theorem ta_23_3 (w : World) (v : Value) : (Instr.typeAssert (.iface 131 v) 76 118 true).run Try.prog w = .ok (.tuple #[.agg #[.int .i64 0, .int .i64 0], .bool false]) w := by kernel_rfl

theorem ta_23_4 (w : World) (v : Value) : (Instr.typeAssert (.iface 131 v) 76 119 true).run Try.prog w = .ok (.tuple #[.agg #[.int .i64 0, .int .i64 0], .bool false]) w := by kernel_rfl

theorem ta_23_5 (w : World) (v : Value) : (Instr.typeAssert (.iface 131 v) 76 121 true).run Try.prog w = .ok (.tuple #[.agg #[.int .i64 0, .bool false], .bool false]) w := by kernel_rfl

theorem ta_23_6 (w : World) (v : Value) : (Instr.typeAssert (.iface 131 v) 76 123 true).run Try.prog w = .ok (.tuple #[.agg #[.int .i64 0, .int .i64 0], .bool false]) w := by kernel_rfl

theorem ta_23_15 (w : World) (v : Value) : (Instr.typeAssert (.iface 131 v) 76 125 true).run Try.prog w = .ok (.tuple #[.agg #[.int .i64 0, .slice none 0 0], .bool false]) w := by kernel_rfl

theorem ta_23_16 (w : World) (v : Value) : (Instr.typeAssert (.iface 131 v) 76 127 true).run Try.prog w = .ok (.tuple #[.agg #[.int .i64 0, .slice none 0 0], .bool false]) w := by kernel_rfl

theorem ta_23_22 (w : World) (v : Value) : (Instr.typeAssert (.iface 131 v) 76 129 true).run Try.prog w = .ok (.tuple #[.agg #[.int .i64 0, .int .i64 0, .int .i64 0], .bool false]) w := by kernel_rfl

theorem ta_23_23 (w : World) (v : Value) : (Instr.typeAssert (.iface 131 v) 76 131 true).run Try.prog w = .ok (.tuple #[v, .bool true]) w := by kernel_rfl

theorem ta_n_1 (w : World) : (Instr.typeAssert .nilIface 76 116 true).run Try.prog w = .ok (.tuple #[.agg #[.int .i64 0, .int .i64 0], .bool false]) w := by kernel_rfl

theorem ta_n_2 (w : World) : (Instr.typeAssert .nilIface 76 117 true).run Try.prog w = .ok (.tuple #[.agg #[.int .i64 0, .int .i64 0], .bool false]) w := by kernel_rfl

theorem ta_n_3 (w : World) : (Instr.typeAssert .nilIface 76 118 true).run Try.prog w = .ok (.tuple #[.agg #[.int .i64 0, .int .i64 0], .bool false]) w := by kernel_rfl

theorem ta_n_4 (w : World) : (Instr.typeAssert .nilIface 76 119 true).run Try.prog w = .ok (.tuple #[.agg #[.int .i64 0, .int .i64 0], .bool false]) w := by kernel_rfl

theorem ta_n_5 (w : World) : (Instr.typeAssert .nilIface 76 121 true).run Try.prog w = .ok (.tuple #[.agg #[.int .i64 0, .bool false], .bool false]) w := by kernel_rfl

theorem ta_n_6 (w : World) : (Instr.typeAssert .nilIface 76 123 true).run Try.prog w = .ok (.tuple #[.agg #[.int .i64 0, .int .i64 0], .bool false]) w := by kernel_rfl

theorem ta_n_15 (w : World) : (Instr.typeAssert .nilIface 76 125 true).run Try.prog w = .ok (.tuple #[.agg #[.int .i64 0, .slice none 0 0], .bool false]) w := by kernel_rfl

theorem ta_n_16 (w : World) : (Instr.typeAssert .nilIface 76 127 true).run Try.prog w = .ok (.tuple #[.agg #[.int .i64 0, .slice none 0 0], .bool false]) w := by kernel_rfl

theorem ta_n_22 (w : World) : (Instr.typeAssert .nilIface 76 129 true).run Try.prog w = .ok (.tuple #[.agg #[.int .i64 0, .int .i64 0, .int .i64 0], .bool false]) w := by kernel_rfl

theorem ta_n_23 (w : World) : (Instr.typeAssert .nilIface 76 131 true).run Try.prog w = .ok (.tuple #[.agg #[.int .i64 0, .int .i64 0, .int .i64 0, .slice none 0 0], .bool false]) w := by kernel_rfl

set_option maxHeartbeats 2000000 in
theorem questionOf_1 (pl nn wa : Int) (a1 a2 : Option Addr) (l1 l2 c1 c2 : Nat) (w : World) :
    Calls Try.prog 91 #[rq 1 pl nn wa a1 a2 l1 l2 c1 c2] w fun e w' => e = .returned (.iface 116 (.agg #[.int .i64 pl, .int .i64 nn])) ∧ Below w.heap.size w w' := by
  have B0 := bel_alloc w (.cells #[.int .i64 1, .int .i64 pl, .int .i64 nn, .slice a1 l1 c1, .slice a2 l2 c2, .int .i64 wa] 28)
  go_enter Try.func91, Try.ntmps91
  go_wp2
  go_ret
  exact ⟨rfl, B0⟩

set_option maxHeartbeats 2000000 in
theorem questionOf_2 (pl nn wa : Int) (a1 a2 : Option Addr) (l1 l2 c1 c2 : Nat) (w : World) :
    Calls Try.prog 91 #[rq 2 pl nn wa a1 a2 l1 l2 c1 c2] w fun e w' => e = .returned (.iface 117 (.agg #[.int .i64 pl, .int .i64 nn])) ∧ Below w.heap.size w w' := by
  have B0 := bel_alloc w (.cells #[.int .i64 2, .int .i64 pl, .int .i64 nn, .slice a1 l1 c1, .slice a2 l2 c2, .int .i64 wa] 28)
  go_enter Try.func91, Try.ntmps91
  go_wp2
  go_ret
  exact ⟨rfl, B0⟩

set_option maxHeartbeats 2000000 in
theorem questionOf_3 (pl nn wa : Int) (a1 a2 : Option Addr) (l1 l2 c1 c2 : Nat) (w : World) :
    Calls Try.prog 91 #[rq 3 pl nn wa a1 a2 l1 l2 c1 c2] w fun e w' => e = .returned (.iface 118 (.agg #[.int .i64 pl, .int .i64 nn])) ∧ Below w.heap.size w w' := by
  have B0 := bel_alloc w (.cells #[.int .i64 3, .int .i64 pl, .int .i64 nn, .slice a1 l1 c1, .slice a2 l2 c2, .int .i64 wa] 28)
  go_enter Try.func91, Try.ntmps91
  go_wp2
  go_ret
  exact ⟨rfl, B0⟩

set_option maxHeartbeats 2000000 in
theorem questionOf_4 (pl nn wa : Int) (a1 a2 : Option Addr) (l1 l2 c1 c2 : Nat) (w : World) :
    Calls Try.prog 91 #[rq 4 pl nn wa a1 a2 l1 l2 c1 c2] w fun e w' => e = .returned (.iface 119 (.agg #[.int .i64 pl, .int .i64 nn])) ∧ Below w.heap.size w w' := by
  have B0 := bel_alloc w (.cells #[.int .i64 4, .int .i64 pl, .int .i64 nn, .slice a1 l1 c1, .slice a2 l2 c2, .int .i64 wa] 28)
  go_enter Try.func91, Try.ntmps91
  go_wp2
  go_ret
  exact ⟨rfl, B0⟩

set_option maxHeartbeats 2000000 in
theorem questionOf_15 (pl nn wa : Int) (a1 a2 : Option Addr) (l1 l2 c1 c2 : Nat) (w : World) :
    Calls Try.prog 91 #[rq 15 pl nn wa a1 a2 l1 l2 c1 c2] w fun e w' => e = .returned (.iface 125 (.agg #[.int .i64 pl, .slice a2 l2 c2])) ∧ Below w.heap.size w w' := by
  have B0 := bel_alloc w (.cells #[.int .i64 15, .int .i64 pl, .int .i64 nn, .slice a1 l1 c1, .slice a2 l2 c2, .int .i64 wa] 28)
  go_enter Try.func91, Try.ntmps91
  go_wp2
  go_ret
  exact ⟨rfl, B0⟩

set_option maxHeartbeats 2000000 in
theorem questionOf_16 (pl nn wa : Int) (a1 a2 : Option Addr) (l1 l2 c1 c2 : Nat) (w : World) :
    Calls Try.prog 91 #[rq 16 pl nn wa a1 a2 l1 l2 c1 c2] w fun e w' => e = .returned (.iface 127 (.agg #[.int .i64 pl, .slice a1 l1 c1])) ∧ Below w.heap.size w w' := by
  have B0 := bel_alloc w (.cells #[.int .i64 16, .int .i64 pl, .int .i64 nn, .slice a1 l1 c1, .slice a2 l2 c2, .int .i64 wa] 28)
  go_enter Try.func91, Try.ntmps91
  go_wp2
  go_ret
  exact ⟨rfl, B0⟩

set_option maxHeartbeats 2000000 in
theorem questionOf_23 (pl nn wa : Int) (a1 a2 : Option Addr) (l1 l2 c1 c2 : Nat) (w : World) :
    Calls Try.prog 91 #[rq 23 pl nn wa a1 a2 l1 l2 c1 c2] w fun e w' => e = .returned (.iface 131 (.agg #[.int .i64 pl, .int .i64 nn, .int .i64 wa, .slice a1 l1 c1])) ∧ Below w.heap.size w w' := by
  have B0 := bel_alloc w (.cells #[.int .i64 23, .int .i64 pl, .int .i64 nn, .slice a1 l1 c1, .slice a2 l2 c2, .int .i64 wa] 28)
  go_enter Try.func91, Try.ntmps91
  go_wp2
  go_ret
  exact ⟨rfl, B0⟩

set_option maxHeartbeats 2000000 in
theorem questionOf_5 (pl nn wa : Int) (a1 a2 : Option Addr) (l1 l2 c1 c2 : Nat) (w : World) (bs : List Bool) (h2 : l2 = bs.length) (hL : (l2 : Int) = 1) (s2 : SlB w a2 bs) :
    Calls Try.prog 91 #[rq 5 pl nn wa a1 a2 l1 l2 c1 c2] w fun e w' => e = .returned (.iface 121 (.agg #[.int .i64 pl, .bool (bs.getD 0 false)])) ∧ Below w.heap.size w w' := by
  have B0 := bel_alloc w (.cells #[.int .i64 5, .int .i64 pl, .int .i64 nn, .slice a1 l1 c1, .slice a2 l2 c2, .int .i64 wa] 28)
  obtain ⟨b, off, rfl, hb, hc⟩ := cell_atB (s2.below B0) (show 0 < bs.length by omega)
  have hc0 : (w.alloc (.cells #[.int .i64 5, .int .i64 pl, .int .i64 nn, .slice a1 l1 c1, .slice (some ⟨b, off, none⟩) l2 c2, .int .i64 wa] 28)).cell? ⟨b, off, none⟩ = some (.bool (bs.getD 0 false)) := by simpa using hc
  clear hc h2 s2
  go_enter Try.func91, Try.ntmps91
  go_wp2
  go_quiet (fail)
  go_wp2
  go_ret
  exact ⟨rfl, bel_next B0 (drew_refl _ _)⟩

set_option maxHeartbeats 2000000 in
theorem questionOf_6 (pl nn wa : Int) (a1 a2 : Option Addr) (l1 l2 c1 c2 : Nat) (w : World) (ws : List Int) (h1 : l1 = ws.length) (hL : (l1 : Int) = 1) (s1 : SlI w a1 ws) :
    Calls Try.prog 91 #[rq 6 pl nn wa a1 a2 l1 l2 c1 c2] w fun e w' => e = .returned (.iface 123 (.agg #[.int .i64 pl, .int .i64 (ws.getD 0 0)])) ∧ Below w.heap.size w w' := by
  have B0 := bel_alloc w (.cells #[.int .i64 6, .int .i64 pl, .int .i64 nn, .slice a1 l1 c1, .slice a2 l2 c2, .int .i64 wa] 28)
  obtain ⟨b, off, rfl, hb, hc⟩ := cell_atI (s1.below B0) (show 0 < ws.length by omega)
  have hc0 : (w.alloc (.cells #[.int .i64 6, .int .i64 pl, .int .i64 nn, .slice (some ⟨b, off, none⟩) l1 c1, .slice a2 l2 c2, .int .i64 wa] 28)).cell? ⟨b, off, none⟩ = some (.int .i64 (ws.getD 0 0)) := by simpa using hc
  clear hc h1 s1
  go_enter Try.func91, Try.ntmps91
  go_wp2
  go_quiet (fail)
  go_wp2
  go_ret
  exact ⟨rfl, bel_next B0 (drew_refl _ _)⟩

set_option maxHeartbeats 2000000 in
theorem questionOf_22 (pl nn wa : Int) (a1 a2 : Option Addr) (l1 l2 c1 c2 : Nat) (w : World) (ws : List Int) (h1 : l1 = ws.length) (hL : (l1 : Int) = 2) (s1 : SlI w a1 ws) :
    Calls Try.prog 91 #[rq 22 pl nn wa a1 a2 l1 l2 c1 c2] w fun e w' => e = .returned (.iface 129 (.agg #[.int .i64 pl, .int .i64 (ws.getD 0 0), .int .i64 (ws.getD 1 0)])) ∧ Below w.heap.size w w' := by
  have B0 := bel_alloc w (.cells #[.int .i64 22, .int .i64 pl, .int .i64 nn, .slice a1 l1 c1, .slice a2 l2 c2, .int .i64 wa] 28)
  obtain ⟨b, off, rfl, hb, hc⟩ := cell_atI (s1.below B0) (show 0 < ws.length by omega)
  obtain ⟨b2, off2, e2, hb2, hc2⟩ := cell_atI (s1.below B0) (show 1 < ws.length by omega)
  simp at e2
  obtain ⟨rfl, rfl⟩ := e2
  have hc0 : (w.alloc (.cells #[.int .i64 22, .int .i64 pl, .int .i64 nn, .slice (some ⟨b, off, none⟩) l1 c1, .slice a2 l2 c2, .int .i64 wa] 28)).cell? ⟨b, off, none⟩ = some (.int .i64 (ws.getD 0 0)) := by simpa using hc
  clear hc h1 s1
  go_enter Try.func91, Try.ntmps91
  go_wp2
  go_quiet (fail)
  go_wp2
  go_ret
  exact ⟨rfl, bel_next B0 (drew_refl _ _)⟩

set_option maxHeartbeats 2000000 in
theorem questionOf_5n (pl nn wa : Int) (a1 a2 : Option Addr) (l1 l2 c1 c2 : Nat) (w : World) (hL : ((l2 : Int) == 1) = false) :
    Calls Try.prog 91 #[rq 5 pl nn wa a1 a2 l1 l2 c1 c2] w fun e w' => e = .returned (.nilIface) ∧ Below w.heap.size w w' := by
  have B0 := bel_alloc w (.cells #[.int .i64 5, .int .i64 pl, .int .i64 nn, .slice a1 l1 c1, .slice a2 l2 c2, .int .i64 wa] 28)
  go_enter Try.func91, Try.ntmps91
  go_wp2
  go_ret
  exact ⟨rfl, B0⟩

set_option maxHeartbeats 2000000 in
theorem questionOf_6n (pl nn wa : Int) (a1 a2 : Option Addr) (l1 l2 c1 c2 : Nat) (w : World) (hL : ((l1 : Int) == 1) = false) :
    Calls Try.prog 91 #[rq 6 pl nn wa a1 a2 l1 l2 c1 c2] w fun e w' => e = .returned (.nilIface) ∧ Below w.heap.size w w' := by
  have B0 := bel_alloc w (.cells #[.int .i64 6, .int .i64 pl, .int .i64 nn, .slice a1 l1 c1, .slice a2 l2 c2, .int .i64 wa] 28)
  go_enter Try.func91, Try.ntmps91
  go_wp2
  go_ret
  exact ⟨rfl, B0⟩

set_option maxHeartbeats 2000000 in
theorem questionOf_22n (pl nn wa : Int) (a1 a2 : Option Addr) (l1 l2 c1 c2 : Nat) (w : World) (hL : ((l1 : Int) == 2) = false) :
    Calls Try.prog 91 #[rq 22 pl nn wa a1 a2 l1 l2 c1 c2] w fun e w' => e = .returned (.nilIface) ∧ Below w.heap.size w w' := by
  have B0 := bel_alloc w (.cells #[.int .i64 22, .int .i64 pl, .int .i64 nn, .slice a1 l1 c1, .slice a2 l2 c2, .int .i64 wa] 28)
  go_enter Try.func91, Try.ntmps91
  go_wp2
  go_ret
  exact ⟨rfl, B0⟩

set_option maxHeartbeats 2000000 in
theorem questionOf_none (kd : Int) (pl nn wa : Int) (a1 a2 : Option Addr) (l1 l2 c1 c2 : Nat) (w : World) (k1 : ¬ kd = 1) (k2 : ¬ kd = 2) (k3 : ¬ kd = 3) (k4 : ¬ kd = 4) (k5 : ¬ kd = 5) (k6 : ¬ kd = 6) (k15 : ¬ kd = 15) (k16 : ¬ kd = 16) (k22 : ¬ kd = 22) (k23 : ¬ kd = 23) :
    Calls Try.prog 91 #[rq kd pl nn wa a1 a2 l1 l2 c1 c2] w fun e w' => e = .returned (.nilIface) ∧ Below w.heap.size w w' := by
  have B0 := bel_alloc w (.cells #[.int .i64 kd, .int .i64 pl, .int .i64 nn, .slice a1 l1 c1, .slice a2 l2 c2, .int .i64 wa] 28)
  go_enter Try.func91, Try.ntmps91
  go_wp2
  go_ret
  exact ⟨rfl, B0⟩

set_option maxRecDepth 20000 in
set_option maxHeartbeats 4000000 in
theorem isRight_1 (pl nn : Int) (w : World) (b : Bool) (hb : (rnB pl nn 2000) = b) :
    Calls Try.prog 92 #[.iface 116 (.agg #[.int .i64 pl, .int .i64 nn])] w fun e w' => e = .returned (.bool b) ∧ Below w.heap.size w w' := by
  have t1 := ta_1_1
  cases hR : rnB pl nn 2000
  · skip
    have e : (rnB pl nn 2000) = false := by simp [hR]
    rw [e] at hb
    subst hb
    clear e
    go_enter Try.func92, Try.ntmps92
    go_wp2_with (first | (go_at_call 117; refine (isRun_any _ _ _ _ (by decide) _ (by first | exact hR)).mono ?_; rintro e wx ⟨rfl, rfl⟩))
    go_ret
    exact ⟨rfl, bel_alloc _ _⟩
  · skip
    have e : (rnB pl nn 2000) = true := by simp [hR]
    rw [e] at hb
    subst hb
    clear e
    go_enter Try.func92, Try.ntmps92
    go_wp2_with (first | (go_at_call 117; refine (isRun_any _ _ _ _ (by decide) _ (by first | exact hR)).mono ?_; rintro e wx ⟨rfl, rfl⟩))
    go_ret
    exact ⟨rfl, bel_alloc _ _⟩

set_option maxRecDepth 20000 in
set_option maxHeartbeats 4000000 in
theorem isRight_2 (pl nn : Int) (w : World) (b : Bool) (hb : (rnB pl nn 2000) = b) :
    Calls Try.prog 92 #[.iface 117 (.agg #[.int .i64 pl, .int .i64 nn])] w fun e w' => e = .returned (.bool b) ∧ Below w.heap.size w w' := by
  have t1 := ta_2_1
  have t2 := ta_2_2
  cases hR : rnB pl nn 2000
  · skip
    have e : (rnB pl nn 2000) = false := by simp [hR]
    rw [e] at hb
    subst hb
    clear e
    go_enter Try.func92, Try.ntmps92
    go_wp2_with (first | (go_at_call 117; refine (isRun_any _ _ _ _ (by decide) _ (by first | exact hR)).mono ?_; rintro e wx ⟨rfl, rfl⟩))
    go_ret
    exact ⟨rfl, bel_alloc _ _⟩
  · skip
    have e : (rnB pl nn 2000) = true := by simp [hR]
    rw [e] at hb
    subst hb
    clear e
    go_enter Try.func92, Try.ntmps92
    go_wp2_with (first | (go_at_call 117; refine (isRun_any _ _ _ _ (by decide) _ (by first | exact hR)).mono ?_; rintro e wx ⟨rfl, rfl⟩))
    go_ret
    exact ⟨rfl, bel_alloc _ _⟩

set_option maxRecDepth 20000 in
set_option maxHeartbeats 4000000 in
theorem isRight_3 (pl nn : Int) (w : World) (b : Bool) (hb : (rnB pl nn 125) = b) :
    Calls Try.prog 92 #[.iface 118 (.agg #[.int .i64 pl, .int .i64 nn])] w fun e w' => e = .returned (.bool b) ∧ Below w.heap.size w w' := by
  have t1 := ta_3_1
  have t2 := ta_3_2
  have t3 := ta_3_3
  cases hR : rnB pl nn 125
  · skip
    have e : (rnB pl nn 125) = false := by simp [hR]
    rw [e] at hb
    subst hb
    clear e
    go_enter Try.func92, Try.ntmps92
    go_wp2_with (first | (go_at_call 117; refine (isRun_any _ _ _ _ (by decide) _ (by first | exact hR)).mono ?_; rintro e wx ⟨rfl, rfl⟩))
    go_ret
    exact ⟨rfl, bel_alloc _ _⟩
  · skip
    have e : (rnB pl nn 125) = true := by simp [hR]
    rw [e] at hb
    subst hb
    clear e
    go_enter Try.func92, Try.ntmps92
    go_wp2_with (first | (go_at_call 117; refine (isRun_any _ _ _ _ (by decide) _ (by first | exact hR)).mono ?_; rintro e wx ⟨rfl, rfl⟩))
    go_ret
    exact ⟨rfl, bel_alloc _ _⟩

set_option maxRecDepth 20000 in
set_option maxHeartbeats 4000000 in
theorem isRight_4 (pl nn : Int) (w : World) (b : Bool) (hb : (rnB pl nn 125) = b) :
    Calls Try.prog 92 #[.iface 119 (.agg #[.int .i64 pl, .int .i64 nn])] w fun e w' => e = .returned (.bool b) ∧ Below w.heap.size w w' := by
  have t1 := ta_4_1
  have t2 := ta_4_2
  have t3 := ta_4_3
  have t4 := ta_4_4
  cases hR : rnB pl nn 125
  · skip
    have e : (rnB pl nn 125) = false := by simp [hR]
    rw [e] at hb
    subst hb
    clear e
    go_enter Try.func92, Try.ntmps92
    go_wp2_with (first | (go_at_call 117; refine (isRun_any _ _ _ _ (by decide) _ (by first | exact hR)).mono ?_; rintro e wx ⟨rfl, rfl⟩))
    go_ret
    exact ⟨rfl, bel_alloc _ _⟩
  · skip
    have e : (rnB pl nn 125) = true := by simp [hR]
    rw [e] at hb
    subst hb
    clear e
    go_enter Try.func92, Try.ntmps92
    go_wp2_with (first | (go_at_call 117; refine (isRun_any _ _ _ _ (by decide) _ (by first | exact hR)).mono ?_; rintro e wx ⟨rfl, rfl⟩))
    go_ret
    exact ⟨rfl, bel_alloc _ _⟩

set_option maxRecDepth 20000 in
set_option maxHeartbeats 4000000 in
theorem isRight_5 (pl : Int) (x : Bool) (w : World) (b : Bool) (hb : (inB pl 0 65535) = b) :
    Calls Try.prog 92 #[.iface 121 (.agg #[.int .i64 pl, .bool x])] w fun e w' => e = .returned (.bool b) ∧ Below w.heap.size w w' := by
  have t1 := ta_5_1
  have t2 := ta_5_2
  have t3 := ta_5_3
  have t4 := ta_5_4
  have t5 := ta_5_5
  cases hP : inB pl 0 65535
  · skip
    have e : (inB pl 0 65535) = false := by simp [hP]
    rw [e] at hb
    subst hb
    clear e
    go_enter Try.func92, Try.ntmps92
    go_wp2_with (first | (go_at_call 97; refine (isWord_any _ _ _ (by first | exact hP)).mono ?_; rintro e wx ⟨rfl, rfl⟩))
    go_ret
    exact ⟨rfl, bel_alloc _ _⟩
  · skip
    have e : (inB pl 0 65535) = true := by simp [hP]
    rw [e] at hb
    subst hb
    clear e
    go_enter Try.func92, Try.ntmps92
    go_wp2_with (first | (go_at_call 97; refine (isWord_any _ _ _ (by first | exact hP)).mono ?_; rintro e wx ⟨rfl, rfl⟩))
    go_ret
    exact ⟨rfl, bel_alloc _ _⟩

set_option maxRecDepth 20000 in
set_option maxHeartbeats 4000000 in
theorem isRight_6 (pl x : Int) (w : World) (b : Bool) (hb : (inB pl 0 65535 && inB x 0 65535) = b) :
    Calls Try.prog 92 #[.iface 123 (.agg #[.int .i64 pl, .int .i64 x])] w fun e w' => e = .returned (.bool b) ∧ Below w.heap.size w w' := by
  have t1 := ta_6_1
  have t2 := ta_6_2
  have t3 := ta_6_3
  have t4 := ta_6_4
  have t5 := ta_6_5
  have t6 := ta_6_6
  cases hP : inB pl 0 65535
  · skip
    have e : (inB pl 0 65535 && inB x 0 65535) = false := by simp [hP]
    rw [e] at hb
    subst hb
    clear e
    go_enter Try.func92, Try.ntmps92
    go_wp2_with (first | (go_at_call 97; refine (isWord_any _ _ _ (by first | exact hP)).mono ?_; rintro e wx ⟨rfl, rfl⟩))
    go_ret
    exact ⟨rfl, bel_alloc _ _⟩
  · skip
    cases hX : inB x 0 65535
    · skip
      have e : (inB pl 0 65535 && inB x 0 65535) = false := by simp [hP, hX]
      rw [e] at hb
      subst hb
      clear e
      go_enter Try.func92, Try.ntmps92
      go_wp2_with (first | (go_at_call 97; refine (isWord_any _ _ _ (by first | exact hP | exact hX)).mono ?_; rintro e wx ⟨rfl, rfl⟩))
      go_ret
      exact ⟨rfl, bel_alloc _ _⟩
    · skip
      have e : (inB pl 0 65535 && inB x 0 65535) = true := by simp [hP, hX]
      rw [e] at hb
      subst hb
      clear e
      go_enter Try.func92, Try.ntmps92
      go_wp2_with (first | (go_at_call 97; refine (isWord_any _ _ _ (by first | exact hP | exact hX)).mono ?_; rintro e wx ⟨rfl, rfl⟩))
      go_ret
      exact ⟨rfl, bel_alloc _ _⟩

set_option maxRecDepth 20000 in
set_option maxHeartbeats 4000000 in
theorem isRight_15 (pl : Int) (a2 : Option Addr) (l2 c2 : Nat) (w : World) (b : Bool) (hb : (rnB pl (l2 : Int) 1968) = b) :
    Calls Try.prog 92 #[.iface 125 (.agg #[.int .i64 pl, .slice a2 l2 c2])] w fun e w' => e = .returned (.bool b) ∧ Below w.heap.size w w' := by
  have t1 := ta_15_1
  have t2 := ta_15_2
  have t3 := ta_15_3
  have t4 := ta_15_4
  have t5 := ta_15_5
  have t6 := ta_15_6
  have t15 := ta_15_15
  cases hR : rnB pl (l2 : Int) 1968
  · skip
    have e : (rnB pl (l2 : Int) 1968) = false := by simp [hR]
    rw [e] at hb
    subst hb
    clear e
    go_enter Try.func92, Try.ntmps92
    go_wp2_with (first | (go_at_call 117; refine (isRun_any _ _ _ _ (by decide) _ (by first | exact hR)).mono ?_; rintro e wx ⟨rfl, rfl⟩))
    go_ret
    exact ⟨rfl, bel_alloc _ _⟩
  · skip
    have e : (rnB pl (l2 : Int) 1968) = true := by simp [hR]
    rw [e] at hb
    subst hb
    clear e
    go_enter Try.func92, Try.ntmps92
    go_wp2_with (first | (go_at_call 117; refine (isRun_any _ _ _ _ (by decide) _ (by first | exact hR)).mono ?_; rintro e wx ⟨rfl, rfl⟩))
    go_ret
    exact ⟨rfl, bel_alloc _ _⟩

set_option maxRecDepth 20000 in
set_option maxHeartbeats 4000000 in
theorem isRight_16 (pl : Int) (a1 : Option Addr) (l1 c1 : Nat) (ws : List Int) (w : World) (h1 : l1 = ws.length) (s1 : SlI w a1 ws) (hl1 : ws.length ≤ 2000000) (b : Bool) (hb : (rnB pl (l1 : Int) 123 && allW ws) = b) :
    Calls Try.prog 92 #[.iface 127 (.agg #[.int .i64 pl, .slice a1 l1 c1])] w fun e w' => e = .returned (.bool b) ∧ Below w.heap.size w w' := by
  have t1 := ta_16_1
  have t2 := ta_16_2
  have t3 := ta_16_3
  have t4 := ta_16_4
  have t5 := ta_16_5
  have t6 := ta_16_6
  have t15 := ta_16_15
  have t16 := ta_16_16
  have H1 : Hid (l1 = ws.length) := h1
  have S1 : Hid (SlI (w.alloc (.cells #[.int .i64 pl, .slice a1 l1 c1] 127)) a1 ws) := s1.below (bel_alloc _ _)
  clear h1 s1
  cases hR : rnB pl (l1 : Int) 123
  · skip
    have e : (rnB pl (l1 : Int) 123 && allW ws) = false := by simp [hR]
    rw [e] at hb
    subst hb
    clear e
    go_enter Try.func92, Try.ntmps92
    go_wp2_with (first | (go_at_call 117; refine (isRun_any _ _ _ _ (by decide) _ (by first | exact hR)).mono ?_; rintro e wx ⟨rfl, rfl⟩))
    go_ret
    exact ⟨rfl, bel_alloc _ _⟩
  · skip
    cases hW : allW ws
    · skip
      have e : (rnB pl (l1 : Int) 123 && allW ws) = false := by simp [hR, hW]
      rw [e] at hb
      subst hb
      clear e
      go_enter Try.func92, Try.ntmps92
      go_wp2_with (first | (go_at_call 117; refine (isRun_any _ _ _ _ (by decide) _ (by first | exact hR)).mono ?_; rintro e wx ⟨rfl, rfl⟩) | (go_at_call 118; refine (areWords_any _ _ _ ws _ H1.out S1.out hl1 _ hW).mono ?_; rintro e wx ⟨rfl, rfl⟩))
      go_ret
      exact ⟨rfl, bel_alloc _ _⟩
    · skip
      have e : (rnB pl (l1 : Int) 123 && allW ws) = true := by simp [hR, hW]
      rw [e] at hb
      subst hb
      clear e
      go_enter Try.func92, Try.ntmps92
      go_wp2_with (first | (go_at_call 117; refine (isRun_any _ _ _ _ (by decide) _ (by first | exact hR)).mono ?_; rintro e wx ⟨rfl, rfl⟩) | (go_at_call 118; refine (areWords_any _ _ _ ws _ H1.out S1.out hl1 _ hW).mono ?_; rintro e wx ⟨rfl, rfl⟩))
      go_ret
      exact ⟨rfl, bel_alloc _ _⟩

set_option maxRecDepth 20000 in
set_option maxHeartbeats 4000000 in
theorem isRight_22 (pl x y : Int) (w : World) (b : Bool) (hb : (inB pl 0 65535 && (inB x 0 65535 && inB y 0 65535)) = b) :
    Calls Try.prog 92 #[.iface 129 (.agg #[.int .i64 pl, .int .i64 x, .int .i64 y])] w fun e w' => e = .returned (.bool b) ∧ Below w.heap.size w w' := by
  have t1 := ta_22_1
  have t2 := ta_22_2
  have t3 := ta_22_3
  have t4 := ta_22_4
  have t5 := ta_22_5
  have t6 := ta_22_6
  have t15 := ta_22_15
  have t16 := ta_22_16
  have t22 := ta_22_22
  cases hP : inB pl 0 65535
  · skip
    have e : (inB pl 0 65535 && (inB x 0 65535 && inB y 0 65535)) = false := by simp [hP]
    rw [e] at hb
    subst hb
    clear e
    go_enter Try.func92, Try.ntmps92
    go_wp2_with (first | (go_at_call 97; refine (isWord_any _ _ _ (by first | exact hP)).mono ?_; rintro e wx ⟨rfl, rfl⟩))
    go_ret
    exact ⟨rfl, bel_alloc _ _⟩
  · skip
    cases hX : inB x 0 65535
    · skip
      have e : (inB pl 0 65535 && (inB x 0 65535 && inB y 0 65535)) = false := by simp [hP, hX]
      rw [e] at hb
      subst hb
      clear e
      go_enter Try.func92, Try.ntmps92
      go_wp2_with (first | (go_at_call 97; refine (isWord_any _ _ _ (by first | exact hP | exact hX)).mono ?_; rintro e wx ⟨rfl, rfl⟩))
      go_ret
      exact ⟨rfl, bel_alloc _ _⟩
    · skip
      cases hY : inB y 0 65535
      · skip
        have e : (inB pl 0 65535 && (inB x 0 65535 && inB y 0 65535)) = false := by simp [hP, hX, hY]
        rw [e] at hb
        subst hb
        clear e
        go_enter Try.func92, Try.ntmps92
        go_wp2_with (first | (go_at_call 97; refine (isWord_any _ _ _ (by first | exact hP | exact hX | exact hY)).mono ?_; rintro e wx ⟨rfl, rfl⟩))
        go_ret
        exact ⟨rfl, bel_alloc _ _⟩
      · skip
        have e : (inB pl 0 65535 && (inB x 0 65535 && inB y 0 65535)) = true := by simp [hP, hX, hY]
        rw [e] at hb
        subst hb
        clear e
        go_enter Try.func92, Try.ntmps92
        go_wp2_with (first | (go_at_call 97; refine (isWord_any _ _ _ (by first | exact hP | exact hX | exact hY)).mono ?_; rintro e wx ⟨rfl, rfl⟩))
        go_ret
        exact ⟨rfl, bel_alloc _ _⟩

set_option maxRecDepth 20000 in
set_option maxHeartbeats 4000000 in
theorem isRight_23 (pl nn wa : Int) (a1 : Option Addr) (l1 c1 : Nat) (ws : List Int) (w : World) (h1 : l1 = ws.length) (s1 : SlI w a1 ws) (hl1 : ws.length ≤ 2000000) (b : Bool) (hb : (rnB pl nn 125 && (rnB wa (l1 : Int) 121 && allW ws)) = b) :
    Calls Try.prog 92 #[.iface 131 (.agg #[.int .i64 pl, .int .i64 nn, .int .i64 wa, .slice a1 l1 c1])] w fun e w' => e = .returned (.bool b) ∧ Below w.heap.size w w' := by
  have t1 := ta_23_1
  have t2 := ta_23_2
  have t3 := ta_23_3
  have t4 := ta_23_4
  have t5 := ta_23_5
  have t6 := ta_23_6
  have t15 := ta_23_15
  have t16 := ta_23_16
  have t22 := ta_23_22
  have t23 := ta_23_23
  have H1 : Hid (l1 = ws.length) := h1
  have S1 : Hid (SlI (w.alloc (.cells #[.int .i64 pl, .int .i64 nn, .int .i64 wa, .slice a1 l1 c1] 131)) a1 ws) := s1.below (bel_alloc _ _)
  clear h1 s1
  cases hR : rnB pl nn 125
  · skip
    have e : (rnB pl nn 125 && (rnB wa (l1 : Int) 121 && allW ws)) = false := by simp [hR]
    rw [e] at hb
    subst hb
    clear e
    go_enter Try.func92, Try.ntmps92
    go_wp2_with (first | (go_at_call 117; refine (isRun_any _ _ _ _ (by decide) _ (by first | exact hR)).mono ?_; rintro e wx ⟨rfl, rfl⟩))
    go_ret
    exact ⟨rfl, bel_alloc _ _⟩
  · skip
    cases hQ : rnB wa (l1 : Int) 121
    · skip
      have e : (rnB pl nn 125 && (rnB wa (l1 : Int) 121 && allW ws)) = false := by simp [hR, hQ]
      rw [e] at hb
      subst hb
      clear e
      go_enter Try.func92, Try.ntmps92
      go_wp2_with (first | (go_at_call 117; refine (isRun_any _ _ _ _ (by decide) _ (by first | exact hR | exact hQ)).mono ?_; rintro e wx ⟨rfl, rfl⟩))
      go_ret
      exact ⟨rfl, bel_alloc _ _⟩
    · skip
      cases hW : allW ws
      · skip
        have e : (rnB pl nn 125 && (rnB wa (l1 : Int) 121 && allW ws)) = false := by simp [hR, hQ, hW]
        rw [e] at hb
        subst hb
        clear e
        go_enter Try.func92, Try.ntmps92
        go_wp2_with (first | (go_at_call 117; refine (isRun_any _ _ _ _ (by decide) _ (by first | exact hR | exact hQ)).mono ?_; rintro e wx ⟨rfl, rfl⟩) | (go_at_call 118; refine (areWords_any _ _ _ ws _ H1.out S1.out hl1 _ hW).mono ?_; rintro e wx ⟨rfl, rfl⟩))
        go_ret
        exact ⟨rfl, bel_alloc _ _⟩
      · skip
        have e : (rnB pl nn 125 && (rnB wa (l1 : Int) 121 && allW ws)) = true := by simp [hR, hQ, hW]
        rw [e] at hb
        subst hb
        clear e
        go_enter Try.func92, Try.ntmps92
        go_wp2_with (first | (go_at_call 117; refine (isRun_any _ _ _ _ (by decide) _ (by first | exact hR | exact hQ)).mono ?_; rintro e wx ⟨rfl, rfl⟩) | (go_at_call 118; refine (areWords_any _ _ _ ws _ H1.out S1.out hl1 _ hW).mono ?_; rintro e wx ⟨rfl, rfl⟩))
        go_ret
        exact ⟨rfl, bel_alloc _ _⟩

set_option maxRecDepth 20000 in
set_option maxHeartbeats 4000000 in
theorem isRight_n (w : World) : Calls Try.prog 92 #[.nilIface] w fun e w' => e = .returned (.bool false) ∧ Below w.heap.size w w' := by
  have t1 := ta_n_1
  have t2 := ta_n_2
  have t3 := ta_n_3
  have t4 := ta_n_4
  have t5 := ta_n_5
  have t6 := ta_n_6
  have t15 := ta_n_15
  have t16 := ta_n_16
  have t22 := ta_n_22
  have t23 := ta_n_23
  go_enter Try.func92, Try.ntmps92
  go_wp2
  go_ret
  exact ⟨rfl, Below.refl _ _⟩

end Go.Proofs.Ytaaokbmfpfmfgaa

namespace Go.Proofs.Ytaaokbmfpfmfgaa
open Go.RowKit

set_option linter.unusedVariables false

theorem lit_slB1 (w : World) (x : Bool) {g : Nat} (hg : g = w.heap.size) : SlB (w.alloc (.cells #[.bool x] 4)) (some ⟨g, 0, none⟩) [x] := hg ▸
  .inr ⟨_, 0, rfl, by simp, fun i hi => by
    have : i = 0 := by simp at hi; omega
    subst this; simp⟩

theorem lit_slI1 (w : World) (x : Int) {g : Nat} (hg : g = w.heap.size) : SlI (w.alloc (.cells #[.int .i64 x] 3)) (some ⟨g, 0, none⟩) [x] := hg ▸
  .inr ⟨_, 0, rfl, by simp, fun i hi => by
    have : i = 0 := by simp at hi; omega
    subst this; simp⟩

theorem lit_slI2 (w : World) (x y : Int) {g : Nat} (hg : g = w.heap.size) : SlI (w.alloc (.cells #[.int .i64 x, .int .i64 y] 3)) (some ⟨g, 0, none⟩) [x, y] := hg ▸
  .inr ⟨_, 0, rfl, by simp, fun i hi => by
    have : i = 0 ∨ i = 1 := by simp at hi; omega
    rcases this with rfl | rfl <;> simp⟩

set_option maxHeartbeats 2000000 in
theorem req_1 (pl nn : Int) (w : World) :
    Calls Try.prog 151 #[.agg #[.int .i64 pl, .int .i64 nn]] w fun e w' => e = .returned (rq 1 pl nn 0 none none 0 0 0 0) ∧ Below w.heap.size w w' := by
  go_enter Try.func151, Try.ntmps151
  go_wp2
  refine bodyPost_ret (v := rq 1 pl nn 0 none none 0 0 0 0) (by simp [results, Try.results151, go_sem]) rfl ?_
  exact ⟨rfl, bel_next (bel_alloc _ _) (bel_alloc _ _)⟩

set_option maxHeartbeats 2000000 in
theorem req_2 (pl nn : Int) (w : World) :
    Calls Try.prog 152 #[.agg #[.int .i64 pl, .int .i64 nn]] w fun e w' => e = .returned (rq 2 pl nn 0 none none 0 0 0 0) ∧ Below w.heap.size w w' := by
  go_enter Try.func152, Try.ntmps152
  go_wp2
  refine bodyPost_ret (v := rq 2 pl nn 0 none none 0 0 0 0) (by simp [results, Try.results152, go_sem]) rfl ?_
  exact ⟨rfl, bel_next (bel_alloc _ _) (bel_alloc _ _)⟩

set_option maxHeartbeats 2000000 in
theorem req_3 (pl nn : Int) (w : World) :
    Calls Try.prog 153 #[.agg #[.int .i64 pl, .int .i64 nn]] w fun e w' => e = .returned (rq 3 pl nn 0 none none 0 0 0 0) ∧ Below w.heap.size w w' := by
  go_enter Try.func153, Try.ntmps153
  go_wp2
  refine bodyPost_ret (v := rq 3 pl nn 0 none none 0 0 0 0) (by simp [results, Try.results153, go_sem]) rfl ?_
  exact ⟨rfl, bel_next (bel_alloc _ _) (bel_alloc _ _)⟩

set_option maxHeartbeats 2000000 in
theorem req_4 (pl nn : Int) (w : World) :
    Calls Try.prog 154 #[.agg #[.int .i64 pl, .int .i64 nn]] w fun e w' => e = .returned (rq 4 pl nn 0 none none 0 0 0 0) ∧ Below w.heap.size w w' := by
  go_enter Try.func154, Try.ntmps154
  go_wp2
  refine bodyPost_ret (v := rq 4 pl nn 0 none none 0 0 0 0) (by simp [results, Try.results154, go_sem]) rfl ?_
  exact ⟨rfl, bel_next (bel_alloc _ _) (bel_alloc _ _)⟩

set_option maxHeartbeats 2000000 in
theorem req_5 (pl : Int) (x : Bool) (w : World) :
    Calls Try.prog 155 #[.agg #[.int .i64 pl, .bool x]] w fun e w' => e = .returned (rq 5 pl 0 0 none (some ⟨w.heap.size + 1 + 1, 0, none⟩) 0 1 0 1) ∧ SlB w' (some ⟨w.heap.size + 1 + 1, 0, none⟩) [x] ∧ Below w.heap.size w w' := by
  go_enter Try.func155, Try.ntmps155
  go_wp2
  refine bodyPost_ret (v := rq 5 pl 0 0 none (some ⟨w.heap.size + 1 + 1, 0, none⟩) 0 1 0 1) (by simp [results, Try.results155, go_sem]) rfl ?_
  exact ⟨rfl, lit_slB1 _ x (by simp), bel_next (bel_next (bel_alloc _ _) (bel_alloc _ _)) (bel_alloc _ _)⟩

set_option maxHeartbeats 2000000 in
theorem req_6 (pl x : Int) (w : World) :
    Calls Try.prog 156 #[.agg #[.int .i64 pl, .int .i64 x]] w fun e w' => e = .returned (rq 6 pl 0 0 (some ⟨w.heap.size + 1 + 1, 0, none⟩) none 1 0 1 0) ∧ SlI w' (some ⟨w.heap.size + 1 + 1, 0, none⟩) [x] ∧ Below w.heap.size w w' := by
  go_enter Try.func156, Try.ntmps156
  go_wp2
  refine bodyPost_ret (v := rq 6 pl 0 0 (some ⟨w.heap.size + 1 + 1, 0, none⟩) none 1 0 1 0) (by simp [results, Try.results156, go_sem]) rfl ?_
  exact ⟨rfl, lit_slI1 _ x (by simp), bel_next (bel_next (bel_alloc _ _) (bel_alloc _ _)) (bel_alloc _ _)⟩

set_option maxHeartbeats 2000000 in
theorem req_15 (pl : Int) (a2 : Option Addr) (l2 c2 : Nat) (w : World) :
    Calls Try.prog 157 #[.agg #[.int .i64 pl, .slice a2 l2 c2]] w fun e w' => e = .returned (rq 15 pl 0 0 none a2 0 l2 0 c2) ∧ Below w.heap.size w w' := by
  go_enter Try.func157, Try.ntmps157
  go_wp2
  refine bodyPost_ret (v := rq 15 pl 0 0 none a2 0 l2 0 c2) (by simp [results, Try.results157, go_sem]) rfl ?_
  exact ⟨rfl, bel_next (bel_alloc _ _) (bel_alloc _ _)⟩

set_option maxHeartbeats 2000000 in
theorem req_16 (pl : Int) (a1 : Option Addr) (l1 c1 : Nat) (w : World) :
    Calls Try.prog 158 #[.agg #[.int .i64 pl, .slice a1 l1 c1]] w fun e w' => e = .returned (rq 16 pl 0 0 a1 none l1 0 c1 0) ∧ Below w.heap.size w w' := by
  go_enter Try.func158, Try.ntmps158
  go_wp2
  refine bodyPost_ret (v := rq 16 pl 0 0 a1 none l1 0 c1 0) (by simp [results, Try.results158, go_sem]) rfl ?_
  exact ⟨rfl, bel_next (bel_alloc _ _) (bel_alloc _ _)⟩

set_option maxHeartbeats 2000000 in
theorem req_22 (pl x y : Int) (w : World) :
    Calls Try.prog 159 #[.agg #[.int .i64 pl, .int .i64 x, .int .i64 y]] w fun e w' => e = .returned (rq 22 pl 0 0 (some ⟨w.heap.size + 1 + 1, 0, none⟩) none 2 0 2 0) ∧ SlI w' (some ⟨w.heap.size + 1 + 1, 0, none⟩) [x, y] ∧ Below w.heap.size w w' := by
  go_enter Try.func159, Try.ntmps159
  go_wp2
  refine bodyPost_ret (v := rq 22 pl 0 0 (some ⟨w.heap.size + 1 + 1, 0, none⟩) none 2 0 2 0) (by simp [results, Try.results159, go_sem]) rfl ?_
  exact ⟨rfl, lit_slI2 _ x y (by simp), bel_next (bel_next (bel_alloc _ _) (bel_alloc _ _)) (bel_alloc _ _)⟩

set_option maxHeartbeats 2000000 in
theorem req_23 (pl nn wa : Int) (a1 : Option Addr) (l1 c1 : Nat) (w : World) :
    Calls Try.prog 160 #[.agg #[.int .i64 pl, .int .i64 nn, .int .i64 wa, .slice a1 l1 c1]] w fun e w' => e = .returned (rq 23 pl nn wa a1 none l1 0 c1 0) ∧ Below w.heap.size w w' := by
  go_enter Try.func160, Try.ntmps160
  go_wp2
  refine bodyPost_ret (v := rq 23 pl nn wa a1 none l1 0 c1 0) (by simp [results, Try.results160, go_sem]) rfl ?_
  exact ⟨rfl, bel_next (bel_alloc _ _) (bel_alloc _ _)⟩

set_option maxHeartbeats 4000000 in
theorem sameReq_n (kd pl nn wa nn' wa' : Int) (a1 a2 a1' a2' : Option Addr) (l1 l2 c1 c2 l1' l2' c1' c2' : Nat) (w : World) (hne : ¬ nn = nn') :
    Calls Try.prog 93 #[rq kd pl nn wa a1 a2 l1 l2 c1 c2, rq kd pl nn' wa' a1' a2' l1' l2' c1' c2'] w fun e w' => e = .returned (.bool false) ∧ Below w.heap.size w w' := by
  obtain ⟨W0, hW0'⟩ : ∃ W0, W0 = (w.alloc (.cells #[.int .i64 kd, .int .i64 pl, .int .i64 nn, .slice a1 l1 c1, .slice a2 l2 c2, .int .i64 wa] 28)).alloc (.cells #[.int .i64 kd, .int .i64 pl, .int .i64 nn', .slice a1' l1' c1', .slice a2' l2' c2', .int .i64 wa'] 28) := ⟨_, rfl⟩
  have hW0 : Hid (W0 = _) := hW0'
  have B0 : Below w.heap.size w W0 := by rw [hW0']; exact bel_next (bel_alloc w _) (bel_alloc _ _)
  have X0 : Blk W0 w.heap.size 28 #[.int .i64 kd, .int .i64 pl, .int .i64 nn, .slice a1 l1 c1, .slice a2 l2 c2, .int .i64 wa] := by rw [hW0']; exact (Blk.new w _ _).below (bel_alloc _ _)
  have Y0 : Blk W0 (w.heap.size + 1) 28 #[.int .i64 kd, .int .i64 pl, .int .i64 nn', .slice a1' l1' c1', .slice a2' l2' c2', .int .i64 wa'] := by
    rw [hW0']; have := Blk.new (w.alloc (.cells #[.int .i64 kd, .int .i64 pl, .int .i64 nn, .slice a1 l1 c1, .slice a2 l2 c2, .int .i64 wa] 28)) #[.int .i64 kd, .int .i64 pl, .int .i64 nn', .slice a1' l1' c1', .slice a2' l2' c2', .int .i64 wa'] 28; simpa using this
  obtain ⟨x0, x1, x2, x3, x4, x5⟩ := X0.six
  obtain ⟨y0, y1, y2, y3, y4, y5⟩ := Y0.six
  clear hW0'
  go_enter Try.func93, Try.ntmps93
  go_upto_region 1 with fail
  rw [← hW0.out]
  go_wp2
  go_ret
  exact ⟨rfl, B0⟩

set_option maxHeartbeats 4000000 in
theorem sameReq_w (kd pl nn wa nn' wa' : Int) (a1 a2 a1' a2' : Option Addr) (l1 l2 c1 c2 l1' l2' c1' c2' : Nat) (w : World) (hn : nn' = nn) (hne : ¬ wa = wa') :
    Calls Try.prog 93 #[rq kd pl nn wa a1 a2 l1 l2 c1 c2, rq kd pl nn' wa' a1' a2' l1' l2' c1' c2'] w fun e w' => e = .returned (.bool false) ∧ Below w.heap.size w w' := by
  obtain ⟨W0, hW0'⟩ : ∃ W0, W0 = (w.alloc (.cells #[.int .i64 kd, .int .i64 pl, .int .i64 nn, .slice a1 l1 c1, .slice a2 l2 c2, .int .i64 wa] 28)).alloc (.cells #[.int .i64 kd, .int .i64 pl, .int .i64 nn', .slice a1' l1' c1', .slice a2' l2' c2', .int .i64 wa'] 28) := ⟨_, rfl⟩
  have hW0 : Hid (W0 = _) := hW0'
  have B0 : Below w.heap.size w W0 := by rw [hW0']; exact bel_next (bel_alloc w _) (bel_alloc _ _)
  have X0 : Blk W0 w.heap.size 28 #[.int .i64 kd, .int .i64 pl, .int .i64 nn, .slice a1 l1 c1, .slice a2 l2 c2, .int .i64 wa] := by rw [hW0']; exact (Blk.new w _ _).below (bel_alloc _ _)
  have Y0 : Blk W0 (w.heap.size + 1) 28 #[.int .i64 kd, .int .i64 pl, .int .i64 nn', .slice a1' l1' c1', .slice a2' l2' c2', .int .i64 wa'] := by
    rw [hW0']; have := Blk.new (w.alloc (.cells #[.int .i64 kd, .int .i64 pl, .int .i64 nn, .slice a1 l1 c1, .slice a2 l2 c2, .int .i64 wa] 28)) #[.int .i64 kd, .int .i64 pl, .int .i64 nn', .slice a1' l1' c1', .slice a2' l2' c2', .int .i64 wa'] 28; simpa using this
  obtain ⟨x0, x1, x2, x3, x4, x5⟩ := X0.six
  obtain ⟨y0, y1, y2, y3, y4, y5⟩ := Y0.six
  subst hn
  clear hW0'
  go_enter Try.func93, Try.ntmps93
  go_upto_region 1 with fail
  rw [← hW0.out]
  go_wp2
  go_ret
  exact ⟨rfl, B0⟩

set_option maxHeartbeats 4000000 in
theorem sameReq_1 (kd pl nn wa nn' wa' : Int) (a1 a2 a1' a2' : Option Addr) (l1 l2 c1 c2 l1' l2' c1' c2' : Nat) (w : World) (hn : nn' = nn) (hw : wa' = wa) (hne : ¬ (l1 : Int) = (l1' : Int)) (h1 : l1 ≤ 20000000) (h1' : l1' ≤ 20000000) :
    Calls Try.prog 93 #[rq kd pl nn wa a1 a2 l1 l2 c1 c2, rq kd pl nn' wa' a1' a2' l1' l2' c1' c2'] w fun e w' => e = .returned (.bool false) ∧ Below w.heap.size w w' := by
  obtain ⟨W0, hW0'⟩ : ∃ W0, W0 = (w.alloc (.cells #[.int .i64 kd, .int .i64 pl, .int .i64 nn, .slice a1 l1 c1, .slice a2 l2 c2, .int .i64 wa] 28)).alloc (.cells #[.int .i64 kd, .int .i64 pl, .int .i64 nn', .slice a1' l1' c1', .slice a2' l2' c2', .int .i64 wa'] 28) := ⟨_, rfl⟩
  have hW0 : Hid (W0 = _) := hW0'
  have B0 : Below w.heap.size w W0 := by rw [hW0']; exact bel_next (bel_alloc w _) (bel_alloc _ _)
  have X0 : Blk W0 w.heap.size 28 #[.int .i64 kd, .int .i64 pl, .int .i64 nn, .slice a1 l1 c1, .slice a2 l2 c2, .int .i64 wa] := by rw [hW0']; exact (Blk.new w _ _).below (bel_alloc _ _)
  have Y0 : Blk W0 (w.heap.size + 1) 28 #[.int .i64 kd, .int .i64 pl, .int .i64 nn', .slice a1' l1' c1', .slice a2' l2' c2', .int .i64 wa'] := by
    rw [hW0']; have := Blk.new (w.alloc (.cells #[.int .i64 kd, .int .i64 pl, .int .i64 nn, .slice a1 l1 c1, .slice a2 l2 c2, .int .i64 wa] 28)) #[.int .i64 kd, .int .i64 pl, .int .i64 nn', .slice a1' l1' c1', .slice a2' l2' c2', .int .i64 wa'] 28; simpa using this
  obtain ⟨x0, x1, x2, x3, x4, x5⟩ := X0.six
  obtain ⟨y0, y1, y2, y3, y4, y5⟩ := Y0.six
  subst hn hw
  clear hW0'
  go_enter Try.func93, Try.ntmps93
  go_upto_region 1 with fail
  rw [← hW0.out]
  go_wp2_with fail
  refine (equal_int_len _ _ _ _ _ _ _ hne h1 h1').mono ?_
  rintro e w1 ⟨rfl, b'⟩
  go_wp2
  go_ret
  exact ⟨rfl, bel_next B0 b'⟩

set_option maxHeartbeats 4000000 in
theorem sameReq_2 (kd pl nn wa nn' wa' : Int) (a1 a2 a1' a2' : Option Addr) (l1 l2 c1 c2 l1' l2' c1' c2' : Nat) (w : World) (hn : nn' = nn) (hw : wa' = wa) (ws : List Int) (h1 : l1 = ws.length) (h1' : l1' = ws.length) (s1 : SlI w a1 ws) (s1' : SlI w a1' ws) (hl1 : ws.length ≤ 2000000) (hne : ¬ (l2 : Int) = (l2' : Int)) (h2 : l2 ≤ 20000000) (h2' : l2' ≤ 20000000) :
    Calls Try.prog 93 #[rq kd pl nn wa a1 a2 l1 l2 c1 c2, rq kd pl nn' wa' a1' a2' l1' l2' c1' c2'] w fun e w' => e = .returned (.bool false) ∧ Below w.heap.size w w' := by
  obtain ⟨W0, hW0'⟩ : ∃ W0, W0 = (w.alloc (.cells #[.int .i64 kd, .int .i64 pl, .int .i64 nn, .slice a1 l1 c1, .slice a2 l2 c2, .int .i64 wa] 28)).alloc (.cells #[.int .i64 kd, .int .i64 pl, .int .i64 nn', .slice a1' l1' c1', .slice a2' l2' c2', .int .i64 wa'] 28) := ⟨_, rfl⟩
  have hW0 : Hid (W0 = _) := hW0'
  have B0 : Below w.heap.size w W0 := by rw [hW0']; exact bel_next (bel_alloc w _) (bel_alloc _ _)
  have X0 : Blk W0 w.heap.size 28 #[.int .i64 kd, .int .i64 pl, .int .i64 nn, .slice a1 l1 c1, .slice a2 l2 c2, .int .i64 wa] := by rw [hW0']; exact (Blk.new w _ _).below (bel_alloc _ _)
  have Y0 : Blk W0 (w.heap.size + 1) 28 #[.int .i64 kd, .int .i64 pl, .int .i64 nn', .slice a1' l1' c1', .slice a2' l2' c2', .int .i64 wa'] := by
    rw [hW0']; have := Blk.new (w.alloc (.cells #[.int .i64 kd, .int .i64 pl, .int .i64 nn, .slice a1 l1 c1, .slice a2 l2 c2, .int .i64 wa] 28)) #[.int .i64 kd, .int .i64 pl, .int .i64 nn', .slice a1' l1' c1', .slice a2' l2' c2', .int .i64 wa'] 28; simpa using this
  obtain ⟨x0, x1, x2, x3, x4, x5⟩ := X0.six
  obtain ⟨y0, y1, y2, y3, y4, y5⟩ := Y0.six
  subst hn hw
  have HH : Hid (l1 = ws.length ∧ l1' = ws.length ∧ SlI W0 a1 ws ∧ SlI W0 a1' ws) := ⟨h1, h1', s1.below B0, s1'.below B0⟩
  clear h1 h1' s1 s1'
  clear hW0'
  go_enter Try.func93, Try.ntmps93
  go_upto_region 1 with fail
  rw [← hW0.out]
  go_wp2_with fail
  refine (equal_int _ _ _ _ _ _ ws _ HH.out.1 HH.out.2.1 HH.out.2.2.1 HH.out.2.2.2 hl1).mono ?_
  rintro e w1 ⟨rfl, b'⟩
  have b1 := bel_next B0 b'
  obtain ⟨x0, x1, x2, x3, x4, x5⟩ := (X0.below b').six
  obtain ⟨y0, y1, y2, y3, y4, y5⟩ := (Y0.below b').six
  go_wp2_with fail
  refine (equal_bool_len _ _ _ _ _ _ _ hne h2 h2').mono ?_
  rintro e w2 ⟨rfl, b2'⟩
  go_wp2
  go_ret
  exact ⟨rfl, bel_next b1 b2'⟩

set_option maxHeartbeats 4000000 in
theorem sameReq_t (kd pl nn wa nn' wa' : Int) (a1 a2 a1' a2' : Option Addr) (l1 l2 c1 c2 l1' l2' c1' c2' : Nat) (w : World) (hn : nn' = nn) (hw : wa' = wa) (ws : List Int) (h1 : l1 = ws.length) (h1' : l1' = ws.length) (s1 : SlI w a1 ws) (s1' : SlI w a1' ws) (hl1 : ws.length ≤ 2000000) (bs : List Bool) (h2 : l2 = bs.length) (h2' : l2' = bs.length) (s2 : SlB w a2 bs) (s2' : SlB w a2' bs) (hl2 : bs.length ≤ 2000000) :
    Calls Try.prog 93 #[rq kd pl nn wa a1 a2 l1 l2 c1 c2, rq kd pl nn' wa' a1' a2' l1' l2' c1' c2'] w fun e w' => e = .returned (.bool true) ∧ Below w.heap.size w w' := by
  obtain ⟨W0, hW0'⟩ : ∃ W0, W0 = (w.alloc (.cells #[.int .i64 kd, .int .i64 pl, .int .i64 nn, .slice a1 l1 c1, .slice a2 l2 c2, .int .i64 wa] 28)).alloc (.cells #[.int .i64 kd, .int .i64 pl, .int .i64 nn', .slice a1' l1' c1', .slice a2' l2' c2', .int .i64 wa'] 28) := ⟨_, rfl⟩
  have hW0 : Hid (W0 = _) := hW0'
  have B0 : Below w.heap.size w W0 := by rw [hW0']; exact bel_next (bel_alloc w _) (bel_alloc _ _)
  have X0 : Blk W0 w.heap.size 28 #[.int .i64 kd, .int .i64 pl, .int .i64 nn, .slice a1 l1 c1, .slice a2 l2 c2, .int .i64 wa] := by rw [hW0']; exact (Blk.new w _ _).below (bel_alloc _ _)
  have Y0 : Blk W0 (w.heap.size + 1) 28 #[.int .i64 kd, .int .i64 pl, .int .i64 nn', .slice a1' l1' c1', .slice a2' l2' c2', .int .i64 wa'] := by
    rw [hW0']; have := Blk.new (w.alloc (.cells #[.int .i64 kd, .int .i64 pl, .int .i64 nn, .slice a1 l1 c1, .slice a2 l2 c2, .int .i64 wa] 28)) #[.int .i64 kd, .int .i64 pl, .int .i64 nn', .slice a1' l1' c1', .slice a2' l2' c2', .int .i64 wa'] 28; simpa using this
  obtain ⟨x0, x1, x2, x3, x4, x5⟩ := X0.six
  obtain ⟨y0, y1, y2, y3, y4, y5⟩ := Y0.six
  subst hn hw
  have HH : Hid (l1 = ws.length ∧ l1' = ws.length ∧ SlI W0 a1 ws ∧ SlI W0 a1' ws) := ⟨h1, h1', s1.below B0, s1'.below B0⟩
  clear h1 h1' s1 s1'
  have HB : Hid (l2 = bs.length ∧ l2' = bs.length ∧ SlB W0 a2 bs ∧ SlB W0 a2' bs) := ⟨h2, h2', s2.below B0, s2'.below B0⟩
  clear h2 h2' s2 s2'
  clear hW0'
  go_enter Try.func93, Try.ntmps93
  go_upto_region 1 with fail
  rw [← hW0.out]
  go_wp2_with fail
  refine (equal_int _ _ _ _ _ _ ws _ HH.out.1 HH.out.2.1 HH.out.2.2.1 HH.out.2.2.2 hl1).mono ?_
  rintro e w1 ⟨rfl, b'⟩
  have b1 := bel_next B0 b'
  obtain ⟨x0, x1, x2, x3, x4, x5⟩ := (X0.below b').six
  obtain ⟨y0, y1, y2, y3, y4, y5⟩ := (Y0.below b').six
  go_wp2_with fail
  refine (equal_bool _ _ _ _ _ _ bs _ HB.out.1 HB.out.2.1 (HB.out.2.2.1.below b') (HB.out.2.2.2.below b') hl2).mono ?_
  rintro e w2 ⟨rfl, b2'⟩
  go_wp2
  go_ret
  exact ⟨rfl, bel_next b1 b2'⟩

end Go.Proofs.Ytaaokbmfpfmfgaa

namespace Go.Proofs.Ytaaokbmfpfmfgaa
open Go.RowKit

set_option linter.unusedVariables false

set_option linter.unusedSimpArgs false

theorem meth_1 (v : Value) (w : World) : (method 276 116 v "loop.example/g00129/impl.req").run Try.prog w = .ok (151, v) w := by kernel_rfl

theorem callf_1 (v : Value) (w : World) : (callFunc 151 #[v]).run Try.prog w = .ok (.enter 151 #[v]) w := by kernel_rfl

theorem meth_2 (v : Value) (w : World) : (method 276 117 v "loop.example/g00129/impl.req").run Try.prog w = .ok (152, v) w := by kernel_rfl

theorem callf_2 (v : Value) (w : World) : (callFunc 152 #[v]).run Try.prog w = .ok (.enter 152 #[v]) w := by kernel_rfl

theorem meth_3 (v : Value) (w : World) : (method 276 118 v "loop.example/g00129/impl.req").run Try.prog w = .ok (153, v) w := by kernel_rfl

theorem callf_3 (v : Value) (w : World) : (callFunc 153 #[v]).run Try.prog w = .ok (.enter 153 #[v]) w := by kernel_rfl

theorem meth_4 (v : Value) (w : World) : (method 276 119 v "loop.example/g00129/impl.req").run Try.prog w = .ok (154, v) w := by kernel_rfl

theorem callf_4 (v : Value) (w : World) : (callFunc 154 #[v]).run Try.prog w = .ok (.enter 154 #[v]) w := by kernel_rfl

theorem meth_5 (v : Value) (w : World) : (method 276 121 v "loop.example/g00129/impl.req").run Try.prog w = .ok (155, v) w := by kernel_rfl

theorem callf_5 (v : Value) (w : World) : (callFunc 155 #[v]).run Try.prog w = .ok (.enter 155 #[v]) w := by kernel_rfl

theorem meth_6 (v : Value) (w : World) : (method 276 123 v "loop.example/g00129/impl.req").run Try.prog w = .ok (156, v) w := by kernel_rfl

theorem callf_6 (v : Value) (w : World) : (callFunc 156 #[v]).run Try.prog w = .ok (.enter 156 #[v]) w := by kernel_rfl

theorem meth_15 (v : Value) (w : World) : (method 276 125 v "loop.example/g00129/impl.req").run Try.prog w = .ok (157, v) w := by kernel_rfl

theorem callf_15 (v : Value) (w : World) : (callFunc 157 #[v]).run Try.prog w = .ok (.enter 157 #[v]) w := by kernel_rfl

theorem meth_16 (v : Value) (w : World) : (method 276 127 v "loop.example/g00129/impl.req").run Try.prog w = .ok (158, v) w := by kernel_rfl

theorem callf_16 (v : Value) (w : World) : (callFunc 158 #[v]).run Try.prog w = .ok (.enter 158 #[v]) w := by kernel_rfl

theorem meth_22 (v : Value) (w : World) : (method 276 129 v "loop.example/g00129/impl.req").run Try.prog w = .ok (159, v) w := by kernel_rfl

theorem callf_22 (v : Value) (w : World) : (callFunc 159 #[v]).run Try.prog w = .ok (.enter 159 #[v]) w := by kernel_rfl

theorem meth_23 (v : Value) (w : World) : (method 276 131 v "loop.example/g00129/impl.req").run Try.prog w = .ok (160, v) w := by kernel_rfl

theorem callf_23 (v : Value) (w : World) : (callFunc 160 #[v]).run Try.prog w = .ok (.enter 160 #[v]) w := by kernel_rfl

theorem allW_one {ws : List Int} (h : ws.length = 1) : allW ws = inB (ws.getD 0 0) 0 65535 := by
  unfold allW inB
  rw [Bool.eq_iff_iff]
  simp only [decide_eq_true_eq]
  constructor
  · intro hh; exact hh 0 (by omega)
  · intro hh k hk
    obtain rfl : k = 0 := by omega
    exact hh

theorem allW_two {ws : List Int} (h : ws.length = 2) : allW ws = (inB (ws.getD 0 0) 0 65535 && inB (ws.getD 1 0) 0 65535) := by
  unfold allW inB
  rw [Bool.eq_iff_iff]
  simp only [decide_eq_true_eq, Bool.and_eq_true]
  constructor
  · intro hh; exact ⟨hh 0 (by omega), hh 1 (by omega)⟩
  · intro hh k hk
    obtain rfl | rfl : k = 0 ∨ k = 1 := by omega
    · exact hh.1
    · exact hh.2

theorem list_one {bs : List Bool} (h : bs.length = 1) : bs = [bs.getD 0 false] := by
  match bs, h with
  | [x], _ => rfl

theorem ints_one {ws : List Int} (h : ws.length = 1) : ws = [ws.getD 0 0] := by
  match ws, h with
  | [x], _ => rfl

theorem ints_two {ws : List Int} (h : ws.length = 2) : ws = [ws.getD 0 0, ws.getD 1 0] := by
  match ws, h with
  | [x, y], _ => rfl

theorem okI_1 (pl nn wa : Int) (ws : List Int) (l1 l2 : Nat) (h1 : l1 = ws.length) : okR 1 pl nn wa ws l1 l2 = (rnB pl nn 2000 && (decide (wa = 0) && (decide (l1 = 0) && (decide (l2 = 0))))) := by
  by_cases hl : l1 = 0
  · have hW : allW ws = true := allW_good (fun k hk => by omega)
    rw [Bool.eq_iff_iff]; simp [okR, okK, zrB, inB, fitB, rnB, hW, hl]; omega
  · rw [Bool.eq_iff_iff]; simp [okR, okK, zrB, hl]

theorem okI_2 (pl nn wa : Int) (ws : List Int) (l1 l2 : Nat) (h1 : l1 = ws.length) : okR 2 pl nn wa ws l1 l2 = (rnB pl nn 2000 && (decide (wa = 0) && (decide (l1 = 0) && (decide (l2 = 0))))) := by
  by_cases hl : l1 = 0
  · have hW : allW ws = true := allW_good (fun k hk => by omega)
    rw [Bool.eq_iff_iff]; simp [okR, okK, zrB, inB, fitB, rnB, hW, hl]; omega
  · rw [Bool.eq_iff_iff]; simp [okR, okK, zrB, hl]

theorem okI_3 (pl nn wa : Int) (ws : List Int) (l1 l2 : Nat) (h1 : l1 = ws.length) : okR 3 pl nn wa ws l1 l2 = (rnB pl nn 125 && (decide (wa = 0) && (decide (l1 = 0) && (decide (l2 = 0))))) := by
  by_cases hl : l1 = 0
  · have hW : allW ws = true := allW_good (fun k hk => by omega)
    rw [Bool.eq_iff_iff]; simp [okR, okK, zrB, inB, fitB, rnB, hW, hl]; omega
  · rw [Bool.eq_iff_iff]; simp [okR, okK, zrB, hl]

theorem okI_4 (pl nn wa : Int) (ws : List Int) (l1 l2 : Nat) (h1 : l1 = ws.length) : okR 4 pl nn wa ws l1 l2 = (rnB pl nn 125 && (decide (wa = 0) && (decide (l1 = 0) && (decide (l2 = 0))))) := by
  by_cases hl : l1 = 0
  · have hW : allW ws = true := allW_good (fun k hk => by omega)
    rw [Bool.eq_iff_iff]; simp [okR, okK, zrB, inB, fitB, rnB, hW, hl]; omega
  · rw [Bool.eq_iff_iff]; simp [okR, okK, zrB, hl]

theorem okI_5 (pl nn wa : Int) (ws : List Int) (l1 l2 : Nat) (h1 : l1 = ws.length) : okR 5 pl nn wa ws l1 l2 = (decide (l2 = 1) && (inB pl 0 65535 && (decide (nn = 0) && (decide (wa = 0) && (decide (l1 = 0)))))) := by
  by_cases hl : l1 = 0
  · have hW : allW ws = true := allW_good (fun k hk => by omega)
    rw [Bool.eq_iff_iff]; simp [okR, okK, zrB, inB, fitB, rnB, hW, hl]; omega
  · rw [Bool.eq_iff_iff]; simp [okR, okK, zrB, hl]

theorem okI_6 (pl nn wa : Int) (ws : List Int) (l1 l2 : Nat) (h1 : l1 = ws.length) : okR 6 pl nn wa ws l1 l2 = (decide (l1 = 1) && (inB pl 0 65535 && (inB (ws.getD 0 0) 0 65535 && (decide (nn = 0) && (decide (wa = 0) && (decide (l2 = 0))))))) := by
  by_cases hl : l1 = 1
  · rw [Bool.eq_iff_iff, okR, allW_one (by omega)]; simp [okR, okK, zrB, inB, fitB, rnB, hl]; omega
  · rw [Bool.eq_iff_iff]; simp [okR, okK, zrB, hl]

theorem okI_15 (pl nn wa : Int) (ws : List Int) (l1 l2 : Nat) (h1 : l1 = ws.length) : okR 15 pl nn wa ws l1 l2 = (rnB pl (l2 : Int) 1968 && (decide (nn = 0) && (decide (wa = 0) && (decide (l1 = 0))))) := by
  by_cases hl : l1 = 0
  · have hW : allW ws = true := allW_good (fun k hk => by omega)
    rw [Bool.eq_iff_iff]; simp [okR, okK, zrB, inB, fitB, rnB, hW, hl]; omega
  · rw [Bool.eq_iff_iff]; simp [okR, okK, zrB, hl]

theorem okI_16 (pl nn wa : Int) (ws : List Int) (l1 l2 : Nat) (h1 : l1 = ws.length) : okR 16 pl nn wa ws l1 l2 = (rnB pl (l1 : Int) 123 && (allW ws && (decide (nn = 0) && (decide (wa = 0) && (decide (l2 = 0)))))) := by
  cases hW : allW ws
  · simp [okR, hW]
  · rw [Bool.eq_iff_iff]; simp [okR, okK, zrB, inB, fitB, rnB, hW]; omega

theorem okI_22 (pl nn wa : Int) (ws : List Int) (l1 l2 : Nat) (h1 : l1 = ws.length) : okR 22 pl nn wa ws l1 l2 = (decide (l1 = 2) && (inB pl 0 65535 && (inB (ws.getD 0 0) 0 65535 && (inB (ws.getD 1 0) 0 65535 && (decide (nn = 0) && (decide (wa = 0) && (decide (l2 = 0)))))))) := by
  by_cases hl : l1 = 2
  · rw [Bool.eq_iff_iff, okR, allW_two (by omega)]; simp [okR, okK, zrB, inB, fitB, rnB, hl]; omega
  · rw [Bool.eq_iff_iff]; simp [okR, okK, zrB, hl]

theorem okI_23 (pl nn wa : Int) (ws : List Int) (l1 l2 : Nat) (h1 : l1 = ws.length) : okR 23 pl nn wa ws l1 l2 = (rnB pl nn 125 && (rnB wa (l1 : Int) 121 && (allW ws && (decide (l2 = 0))))) := by
  cases hW : allW ws
  · simp [okR, hW]
  · rw [Bool.eq_iff_iff]; simp [okR, okK, zrB, inB, fitB, rnB, hW]; omega

set_option maxRecDepth 20000 in
set_option maxHeartbeats 8000000 in
theorem rq_false (kd pl nn wa : Int) (a1 a2 : Option Addr) (l1 l2 c1 c2 : Nat) (w : World) (q : Value)
    (hq : ∀ u, Below w.heap.size w u → Calls Try.prog 91 #[rq kd pl nn wa a1 a2 l1 l2 c1 c2] u fun e u' => e = .returned q ∧ Below u.heap.size u u')
    (hi : ∀ u, Below w.heap.size w u → Calls Try.prog 92 #[q] u fun e u' => e = .returned (.bool false) ∧ Below u.heap.size u u')
    : Calls Try.prog 44 #[rq kd pl nn wa a1 a2 l1 l2 c1 c2] w fun e w' => e = .returned .nilIface ∧ Below w.heap.size w w' := by
  have B0 := bel_alloc w (.cells #[.int .i64 kd, .int .i64 pl, .int .i64 nn, .slice a1 l1 c1, .slice a2 l2 c2, .int .i64 wa] 28)
  have X0 := Blk.new w #[.int .i64 kd, .int .i64 pl, .int .i64 nn, .slice a1 l1 c1, .slice a2 l2 c2, .int .i64 wa] 28
  obtain ⟨x0, x1, x2, x3, x4, x5⟩ := X0.six
  go_enter Try.func44, Try.ntmps44
  go_wp2_with fail
  refine (hq _ B0).mono ?_
  rintro e w1 ⟨rfl, b'⟩
  have B1 := bel_next B0 b'
  have Y := X0.below b'
  clear X0 x0 x1 x2 x3 x4 x5 hq
  go_upto_region 2 with fail
  refine wp_region_any (by kernel_rfl) ?_
  (try (change wpAny _ _ _ _ _ _ _ (World.drew _)))
  refine wpAny_ready (rs := [0]) (by kernel_rfl) (by simp) ?_
  refine AllReady.cons rfl (fun K hK => ?_) AllReady.nil
  go_simp
  refine hK _ _ ?_
  clear hK K
  refine wpAny_ready (rs := [1]) (by kernel_rfl) (by simp) ?_
  refine AllReady.cons rfl (fun K hK => ?_) AllReady.nil
  go_simp
  go_wp2_with (go_at_call 92; refine (hi _ (by first | exact B1 | exact B1.drew)).mono ?_; rintro e w2 ⟨rfl, b2'⟩; have B2 := bel_next (by first | exact B1 | exact B1.drew) b2'; have Y2 := (Y.below (Below.refl _ _).drew).below b2'; clear b2' Y hi)
  try (refine hK _ _ ?_; clear hK K)
  obtain ⟨y0, y1, y2, y3, y4, y5⟩ := Y2.six
  refine wpAny_ready (rs := [2]) (by kernel_rfl) (by simp) ?_
  refine AllReady.cons rfl (fun K hK => ?_) AllReady.nil
  go_simp
  refine hK _ _ ?_
  clear hK K
  refine wpAny_ready (rs := [3, 5]) (by kernel_rfl) (by simp) ?_
  refine AllReady.cons rfl (fun K hK => ?_) ?_
  · skip
    go_simp
    refine hK _ _ ?_
    clear hK K
    refine wpAny_ready (rs := [4, 5]) (by kernel_rfl) (by simp) ?_
    refine AllReady.cons rfl (fun K hK => ?_) ?_
    · skip
      go_simp
      refine hK _ _ ?_
      clear hK K
      refine wpAny_ready (rs := [5]) (by kernel_rfl) (by simp) ?_
      refine AllReady.cons rfl (fun K hK => ?_) AllReady.nil
      go_simp
      refine hK _ _ ?_
      clear hK K
      refine wpAny_ready (rs := [6]) (by kernel_rfl) (by simp) ?_
      refine AllReady.cons rfl (fun K hK => ?_) AllReady.nil
      go_simp
      refine hK _ _ ?_
      clear hK K
      refine wpAny_ready (rs := [7]) (by kernel_rfl) (by simp) ?_
      refine AllReady.cons rfl (fun K hK => ?_) AllReady.nil
      go_simp
      refine hK _ _ ?_
      clear hK K
      refine wpAny_done (by kernel_rfl) ?_ _
      go_wp2
      go_ret
      exact ⟨rfl, B2⟩
    · refine AllReady.cons rfl (fun K hK => ?_) AllReady.nil
      go_simp
      refine hK _ _ ?_
      clear hK K
      refine wpAny_ready (rs := [4]) (by kernel_rfl) (by simp) ?_
      refine AllReady.cons rfl (fun K hK => ?_) AllReady.nil
      go_simp
      refine hK _ _ ?_
      clear hK K
      refine wpAny_ready (rs := [6]) (by kernel_rfl) (by simp) ?_
      refine AllReady.cons rfl (fun K hK => ?_) AllReady.nil
      go_simp
      refine hK _ _ ?_
      clear hK K
      refine wpAny_ready (rs := [7]) (by kernel_rfl) (by simp) ?_
      refine AllReady.cons rfl (fun K hK => ?_) AllReady.nil
      go_simp
      refine hK _ _ ?_
      clear hK K
      refine wpAny_done (by kernel_rfl) ?_ _
      go_wp2
      go_ret
      exact ⟨rfl, B2⟩
  · refine AllReady.cons rfl (fun K hK => ?_) AllReady.nil
    go_simp
    refine hK _ _ ?_
    clear hK K
    refine wpAny_ready (rs := [3]) (by kernel_rfl) (by simp) ?_
    refine AllReady.cons rfl (fun K hK => ?_) AllReady.nil
    go_simp
    refine hK _ _ ?_
    clear hK K
    refine wpAny_ready (rs := [4]) (by kernel_rfl) (by simp) ?_
    refine AllReady.cons rfl (fun K hK => ?_) AllReady.nil
    go_simp
    refine hK _ _ ?_
    clear hK K
    refine wpAny_ready (rs := [6]) (by kernel_rfl) (by simp) ?_
    refine AllReady.cons rfl (fun K hK => ?_) AllReady.nil
    go_simp
    refine hK _ _ ?_
    clear hK K
    refine wpAny_ready (rs := [7]) (by kernel_rfl) (by simp) ?_
    refine AllReady.cons rfl (fun K hK => ?_) AllReady.nil
    go_simp
    refine hK _ _ ?_
    clear hK K
    refine wpAny_done (by kernel_rfl) ?_ _
    go_wp2
    go_ret
    exact ⟨rfl, B2⟩

set_option maxRecDepth 20000 in
set_option maxHeartbeats 8000000 in
theorem rq_true (kd pl nn wa : Int) (a1 a2 : Option Addr) (l1 l2 c1 c2 : Nat) (w : World) (T : TypeId) (v : Value) (F : Nat) (bsm : Bool)
    (hq : ∀ u, Below w.heap.size w u → Calls Try.prog 91 #[rq kd pl nn wa a1 a2 l1 l2 c1 c2] u fun e u' => e = .returned (.iface T v) ∧ Below u.heap.size u u')
    (hi : ∀ u, Below w.heap.size w u → Calls Try.prog 92 #[(.iface T v)] u fun e u' => e = .returned (.bool true) ∧ Below u.heap.size u u')
    (hc : ∀ u, (callFunc F #[v]).run Try.prog u = .ok (.enter F #[v]) u)
    (hm : ∀ u, (method 276 T v "loop.example/g00129/impl.req").run Try.prog u = .ok (F, v) u)
    (hr : ∀ u, Below w.heap.size w u → Calls Try.prog F #[v] u fun e u' => ∃ x, e = .returned x ∧ Below u.heap.size u u' ∧ Calls Try.prog 93 #[x, rq kd pl nn wa a1 a2 l1 l2 c1 c2] u' fun e u3 => e = .returned (.bool bsm) ∧ Below u'.heap.size u' u3) :
    Calls Try.prog 44 #[rq kd pl nn wa a1 a2 l1 l2 c1 c2] w fun e w' => e = .returned (bif bsm then .iface T v else .nilIface) ∧ Below w.heap.size w w' := by
  have B0 := bel_alloc w (.cells #[.int .i64 kd, .int .i64 pl, .int .i64 nn, .slice a1 l1 c1, .slice a2 l2 c2, .int .i64 wa] 28)
  have X0 := Blk.new w #[.int .i64 kd, .int .i64 pl, .int .i64 nn, .slice a1 l1 c1, .slice a2 l2 c2, .int .i64 wa] 28
  obtain ⟨x0, x1, x2, x3, x4, x5⟩ := X0.six
  go_enter Try.func44, Try.ntmps44
  go_wp2_with fail
  refine (hq _ B0).mono ?_
  rintro e w1 ⟨rfl, b'⟩
  have B1 := bel_next B0 b'
  have Y := X0.below b'
  clear X0 x0 x1 x2 x3 x4 x5 hq
  go_upto_region 2 with fail
  refine wp_region_any (by kernel_rfl) ?_
  (try (change wpAny _ _ _ _ _ _ _ (World.drew _)))
  refine wpAny_ready (rs := [0]) (by kernel_rfl) (by simp) ?_
  refine AllReady.cons rfl (fun K hK => ?_) AllReady.nil
  go_simp
  refine hK _ _ ?_
  clear hK K
  refine wpAny_ready (rs := [1]) (by kernel_rfl) (by simp) ?_
  refine AllReady.cons rfl (fun K hK => ?_) AllReady.nil
  go_simp
  go_wp2_with (go_at_call 92; refine (hi _ (by first | exact B1 | exact B1.drew)).mono ?_; rintro e w2 ⟨rfl, b2'⟩; have B2 := bel_next (by first | exact B1 | exact B1.drew) b2'; have Y2 := (Y.below (Below.refl _ _).drew).below b2'; clear b2' Y hi)
  try (refine hK _ _ ?_; clear hK K)
  obtain ⟨y0, y1, y2, y3, y4, y5⟩ := Y2.six
  refine wpAny_ready (rs := [2]) (by kernel_rfl) (by simp) ?_
  refine AllReady.cons rfl (fun K hK => ?_) AllReady.nil
  go_simp
  refine hK _ _ ?_
  clear hK K
  refine wpAny_ready (rs := [3, 5]) (by kernel_rfl) (by simp) ?_
  refine AllReady.cons rfl (fun K hK => ?_) ?_
  · skip
    go_simp
    refine hK _ _ ?_
    clear hK K
    refine wpAny_ready (rs := [4, 5]) (by kernel_rfl) (by simp) ?_
    refine AllReady.cons rfl (fun K hK => ?_) ?_
    · skip
      go_simp
      go_wp2_with (refine (hr _ B2).mono ?_; rintro e w3 ⟨x, rfl, b3', hs⟩; have B3 := bel_next B2 b3'; have Y3 := Y2.below b3'; clear b3' Y2 y0 y1 y2 y3 y4 y5)
      try (refine hK _ _ ?_; clear hK K)
      obtain ⟨y0, y1, y2, y3, y4, y5⟩ := Y3.six
      refine wpAny_ready (rs := [5]) (by kernel_rfl) (by simp) ?_
      refine AllReady.cons rfl (fun K hK => ?_) AllReady.nil
      go_simp
      refine hK _ _ ?_
      clear hK K
      refine wpAny_ready (rs := [6]) (by kernel_rfl) (by simp) ?_
      refine AllReady.cons rfl (fun K hK => ?_) AllReady.nil
      go_simp
      go_wp2_with (go_at_call 93; refine hs.mono ?_; rintro e w4 ⟨rfl, b4'⟩; have B4 := bel_next B3 b4'; clear b4' hs)
      try (refine hK _ _ ?_; clear hK K)
      refine wpAny_ready (rs := [7]) (by kernel_rfl) (by simp) ?_
      refine AllReady.cons rfl (fun K hK => ?_) AllReady.nil
      go_simp
      refine hK _ _ ?_
      clear hK K
      refine wpAny_done (by kernel_rfl) ?_ _
      cases bsm
      · go_wp2
        go_ret
        exact ⟨rfl, B4⟩
      · go_wp2
        go_ret
        exact ⟨rfl, B4⟩
    · refine AllReady.cons rfl (fun K hK => ?_) AllReady.nil
      go_simp
      refine hK _ _ ?_
      clear hK K
      refine wpAny_ready (rs := [4]) (by kernel_rfl) (by simp) ?_
      refine AllReady.cons rfl (fun K hK => ?_) AllReady.nil
      go_simp
      go_wp2_with (refine (hr _ B2).mono ?_; rintro e w3 ⟨x, rfl, b3', hs⟩; have B3 := bel_next B2 b3'; have Y3 := Y2.below b3'; clear b3' Y2 y0 y1 y2 y3 y4 y5)
      try (refine hK _ _ ?_; clear hK K)
      obtain ⟨y0, y1, y2, y3, y4, y5⟩ := Y3.six
      refine wpAny_ready (rs := [6]) (by kernel_rfl) (by simp) ?_
      refine AllReady.cons rfl (fun K hK => ?_) AllReady.nil
      go_simp
      go_wp2_with (go_at_call 93; refine hs.mono ?_; rintro e w4 ⟨rfl, b4'⟩; have B4 := bel_next B3 b4'; clear b4' hs)
      try (refine hK _ _ ?_; clear hK K)
      refine wpAny_ready (rs := [7]) (by kernel_rfl) (by simp) ?_
      refine AllReady.cons rfl (fun K hK => ?_) AllReady.nil
      go_simp
      refine hK _ _ ?_
      clear hK K
      refine wpAny_done (by kernel_rfl) ?_ _
      cases bsm
      · go_wp2
        go_ret
        exact ⟨rfl, B4⟩
      · go_wp2
        go_ret
        exact ⟨rfl, B4⟩
  · refine AllReady.cons rfl (fun K hK => ?_) AllReady.nil
    go_simp
    refine hK _ _ ?_
    clear hK K
    refine wpAny_ready (rs := [3]) (by kernel_rfl) (by simp) ?_
    refine AllReady.cons rfl (fun K hK => ?_) AllReady.nil
    go_simp
    refine hK _ _ ?_
    clear hK K
    refine wpAny_ready (rs := [4]) (by kernel_rfl) (by simp) ?_
    refine AllReady.cons rfl (fun K hK => ?_) AllReady.nil
    go_simp
    go_wp2_with (refine (hr _ B2).mono ?_; rintro e w3 ⟨x, rfl, b3', hs⟩; have B3 := bel_next B2 b3'; have Y3 := Y2.below b3'; clear b3' Y2 y0 y1 y2 y3 y4 y5)
    try (refine hK _ _ ?_; clear hK K)
    obtain ⟨y0, y1, y2, y3, y4, y5⟩ := Y3.six
    refine wpAny_ready (rs := [6]) (by kernel_rfl) (by simp) ?_
    refine AllReady.cons rfl (fun K hK => ?_) AllReady.nil
    go_simp
    go_wp2_with (go_at_call 93; refine hs.mono ?_; rintro e w4 ⟨rfl, b4'⟩; have B4 := bel_next B3 b4'; clear b4' hs)
    try (refine hK _ _ ?_; clear hK K)
    refine wpAny_ready (rs := [7]) (by kernel_rfl) (by simp) ?_
    refine AllReady.cons rfl (fun K hK => ?_) AllReady.nil
    go_simp
    refine hK _ _ ?_
    clear hK K
    refine wpAny_done (by kernel_rfl) ?_ _
    cases bsm
    · go_wp2
      go_ret
      exact ⟨rfl, B4⟩
    · go_wp2
      go_ret
      exact ⟨rfl, B4⟩

set_option maxRecDepth 20000 in
set_option maxHeartbeats 2000000 in
theorem rightQuestion_1 (pl nn wa : Int) (a1 a2 : Option Addr) (l1 l2 c1 c2 : Nat) (ws : List Int) (bs : List Bool) (w : World) (h1 : l1 = ws.length) (h2 : l2 = bs.length) (s1 : SlI w a1 ws) (s2 : SlB w a2 bs) (hl1 : ws.length ≤ 2000000) (hl2 : bs.length ≤ 2000000) (b : Bool) (hb : okR 1 pl nn wa ws l1 l2 = b) :
    Calls Try.prog 44 #[rq 1 pl nn wa a1 a2 l1 l2 c1 c2] w fun e w' => e = .returned (bif b then .iface 116 (.agg #[.int .i64 pl, .int .i64 nn]) else .nilIface) ∧ Below w.heap.size w w' := by
  subst hb
  rw [okI_1 _ _ _ _ _ _ h1]
  rw [show (rnB pl nn 2000 && (decide (wa = 0) && (decide (l1 = 0) && (decide (l2 = 0))))) = ((rnB pl nn 2000) && (decide (wa = 0) && (decide (l1 = 0) && (decide (l2 = 0))))) from by simp only [Bool.and_assoc]]
  cases hI : (rnB pl nn 2000)
  · rw [Bool.false_and]
    exact rq_false 1 pl nn wa a1 a2 l1 l2 c1 c2 w _ (fun u hu => questionOf_1 pl nn wa a1 a2 l1 l2 c1 c2 u) (fun u hu => isRight_1 _ _ u _ hI)
  · rw [Bool.true_and]
    refine rq_true 1 pl nn wa a1 a2 l1 l2 c1 c2 w _ _ 151 _ (fun u hu => questionOf_1 pl nn wa a1 a2 l1 l2 c1 c2 u) (fun u hu => isRight_1 _ _ u _ hI) (callf_1 _) (meth_1 _) (fun u hu => (req_1 _ _ u).mono ?_)
    rintro e u' ⟨rfl, bu⟩
    refine ⟨_, rfl, bu, ?_⟩
    have hu2 := bel_next hu bu
    by_cases hww : wa = 0
    rotate_left
    · rw [decide_eq_false hww]
      exact sameReq_w _ _ _ _ _ _ _ _ _ _ _ _ _ _ _ _ _ _ _ rfl (fun h => hww h.symm)
    rw [decide_eq_true hww, Bool.true_and]
    by_cases hll1 : l1 = 0
    rotate_left
    · rw [decide_eq_false hll1]
      exact sameReq_1 _ _ _ _ _ _ _ _ _ _ _ _ _ _ _ _ _ _ _ rfl hww (by omega) (by omega) (by omega)
    rw [decide_eq_true hll1, Bool.true_and]
    by_cases hll2 : l2 = 0
    rotate_left
    · rw [decide_eq_false hll2]
      exact sameReq_2 _ _ _ _ _ _ _ _ _ _ _ _ _ _ _ _ _ _ _ rfl hww [] rfl hll1 (.inl rfl) (.inl rfl) (by simp) (by omega) (by omega) (by omega)
    rw [decide_eq_true hll2]
    exact sameReq_t _ _ _ _ _ _ _ _ _ _ _ _ _ _ _ _ _ _ _ rfl hww [] rfl hll1 (.inl rfl) (.inl rfl) (by simp) [] rfl hll2 (.inl rfl) (.inl rfl) (by simp)

set_option maxRecDepth 20000 in
set_option maxHeartbeats 2000000 in
theorem rightQuestion_2 (pl nn wa : Int) (a1 a2 : Option Addr) (l1 l2 c1 c2 : Nat) (ws : List Int) (bs : List Bool) (w : World) (h1 : l1 = ws.length) (h2 : l2 = bs.length) (s1 : SlI w a1 ws) (s2 : SlB w a2 bs) (hl1 : ws.length ≤ 2000000) (hl2 : bs.length ≤ 2000000) (b : Bool) (hb : okR 2 pl nn wa ws l1 l2 = b) :
    Calls Try.prog 44 #[rq 2 pl nn wa a1 a2 l1 l2 c1 c2] w fun e w' => e = .returned (bif b then .iface 117 (.agg #[.int .i64 pl, .int .i64 nn]) else .nilIface) ∧ Below w.heap.size w w' := by
  subst hb
  rw [okI_2 _ _ _ _ _ _ h1]
  rw [show (rnB pl nn 2000 && (decide (wa = 0) && (decide (l1 = 0) && (decide (l2 = 0))))) = ((rnB pl nn 2000) && (decide (wa = 0) && (decide (l1 = 0) && (decide (l2 = 0))))) from by simp only [Bool.and_assoc]]
  cases hI : (rnB pl nn 2000)
  · rw [Bool.false_and]
    exact rq_false 2 pl nn wa a1 a2 l1 l2 c1 c2 w _ (fun u hu => questionOf_2 pl nn wa a1 a2 l1 l2 c1 c2 u) (fun u hu => isRight_2 _ _ u _ hI)
  · rw [Bool.true_and]
    refine rq_true 2 pl nn wa a1 a2 l1 l2 c1 c2 w _ _ 152 _ (fun u hu => questionOf_2 pl nn wa a1 a2 l1 l2 c1 c2 u) (fun u hu => isRight_2 _ _ u _ hI) (callf_2 _) (meth_2 _) (fun u hu => (req_2 _ _ u).mono ?_)
    rintro e u' ⟨rfl, bu⟩
    refine ⟨_, rfl, bu, ?_⟩
    have hu2 := bel_next hu bu
    by_cases hww : wa = 0
    rotate_left
    · rw [decide_eq_false hww]
      exact sameReq_w _ _ _ _ _ _ _ _ _ _ _ _ _ _ _ _ _ _ _ rfl (fun h => hww h.symm)
    rw [decide_eq_true hww, Bool.true_and]
    by_cases hll1 : l1 = 0
    rotate_left
    · rw [decide_eq_false hll1]
      exact sameReq_1 _ _ _ _ _ _ _ _ _ _ _ _ _ _ _ _ _ _ _ rfl hww (by omega) (by omega) (by omega)
    rw [decide_eq_true hll1, Bool.true_and]
    by_cases hll2 : l2 = 0
    rotate_left
    · rw [decide_eq_false hll2]
      exact sameReq_2 _ _ _ _ _ _ _ _ _ _ _ _ _ _ _ _ _ _ _ rfl hww [] rfl hll1 (.inl rfl) (.inl rfl) (by simp) (by omega) (by omega) (by omega)
    rw [decide_eq_true hll2]
    exact sameReq_t _ _ _ _ _ _ _ _ _ _ _ _ _ _ _ _ _ _ _ rfl hww [] rfl hll1 (.inl rfl) (.inl rfl) (by simp) [] rfl hll2 (.inl rfl) (.inl rfl) (by simp)

set_option maxRecDepth 20000 in
set_option maxHeartbeats 2000000 in
theorem rightQuestion_3 (pl nn wa : Int) (a1 a2 : Option Addr) (l1 l2 c1 c2 : Nat) (ws : List Int) (bs : List Bool) (w : World) (h1 : l1 = ws.length) (h2 : l2 = bs.length) (s1 : SlI w a1 ws) (s2 : SlB w a2 bs) (hl1 : ws.length ≤ 2000000) (hl2 : bs.length ≤ 2000000) (b : Bool) (hb : okR 3 pl nn wa ws l1 l2 = b) :
    Calls Try.prog 44 #[rq 3 pl nn wa a1 a2 l1 l2 c1 c2] w fun e w' => e = .returned (bif b then .iface 118 (.agg #[.int .i64 pl, .int .i64 nn]) else .nilIface) ∧ Below w.heap.size w w' := by
  subst hb
  rw [okI_3 _ _ _ _ _ _ h1]
  rw [show (rnB pl nn 125 && (decide (wa = 0) && (decide (l1 = 0) && (decide (l2 = 0))))) = ((rnB pl nn 125) && (decide (wa = 0) && (decide (l1 = 0) && (decide (l2 = 0))))) from by simp only [Bool.and_assoc]]
  cases hI : (rnB pl nn 125)
  · rw [Bool.false_and]
    exact rq_false 3 pl nn wa a1 a2 l1 l2 c1 c2 w _ (fun u hu => questionOf_3 pl nn wa a1 a2 l1 l2 c1 c2 u) (fun u hu => isRight_3 _ _ u _ hI)
  · rw [Bool.true_and]
    refine rq_true 3 pl nn wa a1 a2 l1 l2 c1 c2 w _ _ 153 _ (fun u hu => questionOf_3 pl nn wa a1 a2 l1 l2 c1 c2 u) (fun u hu => isRight_3 _ _ u _ hI) (callf_3 _) (meth_3 _) (fun u hu => (req_3 _ _ u).mono ?_)
    rintro e u' ⟨rfl, bu⟩
    refine ⟨_, rfl, bu, ?_⟩
    have hu2 := bel_next hu bu
    by_cases hww : wa = 0
    rotate_left
    · rw [decide_eq_false hww]
      exact sameReq_w _ _ _ _ _ _ _ _ _ _ _ _ _ _ _ _ _ _ _ rfl (fun h => hww h.symm)
    rw [decide_eq_true hww, Bool.true_and]
    by_cases hll1 : l1 = 0
    rotate_left
    · rw [decide_eq_false hll1]
      exact sameReq_1 _ _ _ _ _ _ _ _ _ _ _ _ _ _ _ _ _ _ _ rfl hww (by omega) (by omega) (by omega)
    rw [decide_eq_true hll1, Bool.true_and]
    by_cases hll2 : l2 = 0
    rotate_left
    · rw [decide_eq_false hll2]
      exact sameReq_2 _ _ _ _ _ _ _ _ _ _ _ _ _ _ _ _ _ _ _ rfl hww [] rfl hll1 (.inl rfl) (.inl rfl) (by simp) (by omega) (by omega) (by omega)
    rw [decide_eq_true hll2]
    exact sameReq_t _ _ _ _ _ _ _ _ _ _ _ _ _ _ _ _ _ _ _ rfl hww [] rfl hll1 (.inl rfl) (.inl rfl) (by simp) [] rfl hll2 (.inl rfl) (.inl rfl) (by simp)

set_option maxRecDepth 20000 in
set_option maxHeartbeats 2000000 in
theorem rightQuestion_4 (pl nn wa : Int) (a1 a2 : Option Addr) (l1 l2 c1 c2 : Nat) (ws : List Int) (bs : List Bool) (w : World) (h1 : l1 = ws.length) (h2 : l2 = bs.length) (s1 : SlI w a1 ws) (s2 : SlB w a2 bs) (hl1 : ws.length ≤ 2000000) (hl2 : bs.length ≤ 2000000) (b : Bool) (hb : okR 4 pl nn wa ws l1 l2 = b) :
    Calls Try.prog 44 #[rq 4 pl nn wa a1 a2 l1 l2 c1 c2] w fun e w' => e = .returned (bif b then .iface 119 (.agg #[.int .i64 pl, .int .i64 nn]) else .nilIface) ∧ Below w.heap.size w w' := by
  subst hb
  rw [okI_4 _ _ _ _ _ _ h1]
  rw [show (rnB pl nn 125 && (decide (wa = 0) && (decide (l1 = 0) && (decide (l2 = 0))))) = ((rnB pl nn 125) && (decide (wa = 0) && (decide (l1 = 0) && (decide (l2 = 0))))) from by simp only [Bool.and_assoc]]
  cases hI : (rnB pl nn 125)
  · rw [Bool.false_and]
    exact rq_false 4 pl nn wa a1 a2 l1 l2 c1 c2 w _ (fun u hu => questionOf_4 pl nn wa a1 a2 l1 l2 c1 c2 u) (fun u hu => isRight_4 _ _ u _ hI)
  · rw [Bool.true_and]
    refine rq_true 4 pl nn wa a1 a2 l1 l2 c1 c2 w _ _ 154 _ (fun u hu => questionOf_4 pl nn wa a1 a2 l1 l2 c1 c2 u) (fun u hu => isRight_4 _ _ u _ hI) (callf_4 _) (meth_4 _) (fun u hu => (req_4 _ _ u).mono ?_)
    rintro e u' ⟨rfl, bu⟩
    refine ⟨_, rfl, bu, ?_⟩
    have hu2 := bel_next hu bu
    by_cases hww : wa = 0
    rotate_left
    · rw [decide_eq_false hww]
      exact sameReq_w _ _ _ _ _ _ _ _ _ _ _ _ _ _ _ _ _ _ _ rfl (fun h => hww h.symm)
    rw [decide_eq_true hww, Bool.true_and]
    by_cases hll1 : l1 = 0
    rotate_left
    · rw [decide_eq_false hll1]
      exact sameReq_1 _ _ _ _ _ _ _ _ _ _ _ _ _ _ _ _ _ _ _ rfl hww (by omega) (by omega) (by omega)
    rw [decide_eq_true hll1, Bool.true_and]
    by_cases hll2 : l2 = 0
    rotate_left
    · rw [decide_eq_false hll2]
      exact sameReq_2 _ _ _ _ _ _ _ _ _ _ _ _ _ _ _ _ _ _ _ rfl hww [] rfl hll1 (.inl rfl) (.inl rfl) (by simp) (by omega) (by omega) (by omega)
    rw [decide_eq_true hll2]
    exact sameReq_t _ _ _ _ _ _ _ _ _ _ _ _ _ _ _ _ _ _ _ rfl hww [] rfl hll1 (.inl rfl) (.inl rfl) (by simp) [] rfl hll2 (.inl rfl) (.inl rfl) (by simp)

set_option maxRecDepth 20000 in
set_option maxHeartbeats 2000000 in
theorem rightQuestion_5 (pl nn wa : Int) (a1 a2 : Option Addr) (l1 l2 c1 c2 : Nat) (ws : List Int) (bs : List Bool) (w : World) (h1 : l1 = ws.length) (h2 : l2 = bs.length) (s1 : SlI w a1 ws) (s2 : SlB w a2 bs) (hl1 : ws.length ≤ 2000000) (hl2 : bs.length ≤ 2000000) (b : Bool) (hb : okR 5 pl nn wa ws l1 l2 = b) :
    Calls Try.prog 44 #[rq 5 pl nn wa a1 a2 l1 l2 c1 c2] w fun e w' => e = .returned (bif b then .iface 121 (.agg #[.int .i64 pl, .bool (bs.getD 0 false)]) else .nilIface) ∧ Below w.heap.size w w' := by
  subst hb
  rw [okI_5 _ _ _ _ _ _ h1]
  by_cases hL : l2 = 1
  rotate_left
  · rw [decide_eq_false hL]
    exact rq_false 5 pl nn wa a1 a2 l1 l2 c1 c2 w .nilIface (fun u hu => questionOf_5n pl nn wa a1 a2 l1 l2 c1 c2 u (by simp; omega)) (fun u hu => isRight_n u)
  rw [decide_eq_true hL, Bool.true_and]
  rw [show (inB pl 0 65535 && (decide (nn = 0) && (decide (wa = 0) && (decide (l1 = 0))))) = ((inB pl 0 65535) && (decide (nn = 0) && (decide (wa = 0) && (decide (l1 = 0))))) from by simp only [Bool.and_assoc]]
  cases hI : (inB pl 0 65535)
  · rw [Bool.false_and]
    exact rq_false 5 pl nn wa a1 a2 l1 l2 c1 c2 w _ (fun u hu => questionOf_5 pl nn wa a1 a2 l1 l2 c1 c2 u bs h2 (by omega) (s2.below hu)) (fun u hu => isRight_5 _ _ u _ hI)
  · rw [Bool.true_and]
    refine rq_true 5 pl nn wa a1 a2 l1 l2 c1 c2 w _ _ 155 _ (fun u hu => questionOf_5 pl nn wa a1 a2 l1 l2 c1 c2 u bs h2 (by omega) (s2.below hu)) (fun u hu => isRight_5 _ _ u _ hI) (callf_5 _) (meth_5 _) (fun u hu => (req_5 _ _ u).mono ?_)
    rintro e u' ⟨rfl, n3, bu⟩
    refine ⟨_, rfl, bu, ?_⟩
    have hu2 := bel_next hu bu
    by_cases hnn : nn = 0
    rotate_left
    · rw [decide_eq_false hnn]
      exact sameReq_n _ _ _ _ _ _ _ _ _ _ _ _ _ _ _ _ _ _ _ (fun h => hnn h.symm)
    rw [decide_eq_true hnn, Bool.true_and]
    by_cases hww : wa = 0
    rotate_left
    · rw [decide_eq_false hww]
      exact sameReq_w _ _ _ _ _ _ _ _ _ _ _ _ _ _ _ _ _ _ _ hnn (fun h => hww h.symm)
    rw [decide_eq_true hww, Bool.true_and]
    by_cases hll1 : l1 = 0
    rotate_left
    · rw [decide_eq_false hll1]
      exact sameReq_1 _ _ _ _ _ _ _ _ _ _ _ _ _ _ _ _ _ _ _ hnn hww (by omega) (by omega) (by omega)
    rw [decide_eq_true hll1]
    exact sameReq_t _ _ _ _ _ _ _ _ _ _ _ _ _ _ _ _ _ _ _ hnn hww [] rfl hll1 (.inl rfl) (.inl rfl) (by simp) [bs.getD 0 false] rfl hL n3 (by have := s2.below hu2; rw [list_one (bs := bs) (by omega)] at this; exact this) (by simp)

set_option maxRecDepth 20000 in
set_option maxHeartbeats 2000000 in
theorem rightQuestion_6 (pl nn wa : Int) (a1 a2 : Option Addr) (l1 l2 c1 c2 : Nat) (ws : List Int) (bs : List Bool) (w : World) (h1 : l1 = ws.length) (h2 : l2 = bs.length) (s1 : SlI w a1 ws) (s2 : SlB w a2 bs) (hl1 : ws.length ≤ 2000000) (hl2 : bs.length ≤ 2000000) (b : Bool) (hb : okR 6 pl nn wa ws l1 l2 = b) :
    Calls Try.prog 44 #[rq 6 pl nn wa a1 a2 l1 l2 c1 c2] w fun e w' => e = .returned (bif b then .iface 123 (.agg #[.int .i64 pl, .int .i64 (ws.getD 0 0)]) else .nilIface) ∧ Below w.heap.size w w' := by
  subst hb
  rw [okI_6 _ _ _ _ _ _ h1]
  by_cases hL : l1 = 1
  rotate_left
  · rw [decide_eq_false hL]
    exact rq_false 6 pl nn wa a1 a2 l1 l2 c1 c2 w .nilIface (fun u hu => questionOf_6n pl nn wa a1 a2 l1 l2 c1 c2 u (by simp; omega)) (fun u hu => isRight_n u)
  rw [decide_eq_true hL, Bool.true_and]
  rw [show (inB pl 0 65535 && (inB (ws.getD 0 0) 0 65535 && (decide (nn = 0) && (decide (wa = 0) && (decide (l2 = 0)))))) = ((inB pl 0 65535 && inB (ws.getD 0 0) 0 65535) && (decide (nn = 0) && (decide (wa = 0) && (decide (l2 = 0))))) from by simp only [Bool.and_assoc]]
  cases hI : (inB pl 0 65535 && inB (ws.getD 0 0) 0 65535)
  · rw [Bool.false_and]
    exact rq_false 6 pl nn wa a1 a2 l1 l2 c1 c2 w _ (fun u hu => questionOf_6 pl nn wa a1 a2 l1 l2 c1 c2 u ws h1 (by omega) (s1.below hu)) (fun u hu => isRight_6 _ _ u _ hI)
  · rw [Bool.true_and]
    refine rq_true 6 pl nn wa a1 a2 l1 l2 c1 c2 w _ _ 156 _ (fun u hu => questionOf_6 pl nn wa a1 a2 l1 l2 c1 c2 u ws h1 (by omega) (s1.below hu)) (fun u hu => isRight_6 _ _ u _ hI) (callf_6 _) (meth_6 _) (fun u hu => (req_6 _ _ u).mono ?_)
    rintro e u' ⟨rfl, n3, bu⟩
    refine ⟨_, rfl, bu, ?_⟩
    have hu2 := bel_next hu bu
    by_cases hnn : nn = 0
    rotate_left
    · rw [decide_eq_false hnn]
      exact sameReq_n _ _ _ _ _ _ _ _ _ _ _ _ _ _ _ _ _ _ _ (fun h => hnn h.symm)
    rw [decide_eq_true hnn, Bool.true_and]
    by_cases hww : wa = 0
    rotate_left
    · rw [decide_eq_false hww]
      exact sameReq_w _ _ _ _ _ _ _ _ _ _ _ _ _ _ _ _ _ _ _ hnn (fun h => hww h.symm)
    rw [decide_eq_true hww, Bool.true_and]
    by_cases hll2 : l2 = 0
    rotate_left
    · rw [decide_eq_false hll2]
      exact sameReq_2 _ _ _ _ _ _ _ _ _ _ _ _ _ _ _ _ _ _ _ hnn hww [ws.getD 0 0] rfl hL n3 (by have := s1.below hu2; rw [ints_one (ws := ws) (by omega)] at this; exact this) (by simp) (by omega) (by omega) (by omega)
    rw [decide_eq_true hll2]
    exact sameReq_t _ _ _ _ _ _ _ _ _ _ _ _ _ _ _ _ _ _ _ hnn hww [ws.getD 0 0] rfl hL n3 (by have := s1.below hu2; rw [ints_one (ws := ws) (by omega)] at this; exact this) (by simp) [] rfl hll2 (.inl rfl) (.inl rfl) (by simp)

set_option maxRecDepth 20000 in
set_option maxHeartbeats 2000000 in
theorem rightQuestion_15 (pl nn wa : Int) (a1 a2 : Option Addr) (l1 l2 c1 c2 : Nat) (ws : List Int) (bs : List Bool) (w : World) (h1 : l1 = ws.length) (h2 : l2 = bs.length) (s1 : SlI w a1 ws) (s2 : SlB w a2 bs) (hl1 : ws.length ≤ 2000000) (hl2 : bs.length ≤ 2000000) (b : Bool) (hb : okR 15 pl nn wa ws l1 l2 = b) :
    Calls Try.prog 44 #[rq 15 pl nn wa a1 a2 l1 l2 c1 c2] w fun e w' => e = .returned (bif b then .iface 125 (.agg #[.int .i64 pl, .slice a2 l2 c2]) else .nilIface) ∧ Below w.heap.size w w' := by
  subst hb
  rw [okI_15 _ _ _ _ _ _ h1]
  rw [show (rnB pl (l2 : Int) 1968 && (decide (nn = 0) && (decide (wa = 0) && (decide (l1 = 0))))) = ((rnB pl (l2 : Int) 1968) && (decide (nn = 0) && (decide (wa = 0) && (decide (l1 = 0))))) from by simp only [Bool.and_assoc]]
  cases hI : (rnB pl (l2 : Int) 1968)
  · rw [Bool.false_and]
    exact rq_false 15 pl nn wa a1 a2 l1 l2 c1 c2 w _ (fun u hu => questionOf_15 pl nn wa a1 a2 l1 l2 c1 c2 u) (fun u hu => isRight_15 _ _ _ _ u _ hI)
  · rw [Bool.true_and]
    refine rq_true 15 pl nn wa a1 a2 l1 l2 c1 c2 w _ _ 157 _ (fun u hu => questionOf_15 pl nn wa a1 a2 l1 l2 c1 c2 u) (fun u hu => isRight_15 _ _ _ _ u _ hI) (callf_15 _) (meth_15 _) (fun u hu => (req_15 _ _ _ _ u).mono ?_)
    rintro e u' ⟨rfl, bu⟩
    refine ⟨_, rfl, bu, ?_⟩
    have hu2 := bel_next hu bu
    by_cases hnn : nn = 0
    rotate_left
    · rw [decide_eq_false hnn]
      exact sameReq_n _ _ _ _ _ _ _ _ _ _ _ _ _ _ _ _ _ _ _ (fun h => hnn h.symm)
    rw [decide_eq_true hnn, Bool.true_and]
    by_cases hww : wa = 0
    rotate_left
    · rw [decide_eq_false hww]
      exact sameReq_w _ _ _ _ _ _ _ _ _ _ _ _ _ _ _ _ _ _ _ hnn (fun h => hww h.symm)
    rw [decide_eq_true hww, Bool.true_and]
    by_cases hll1 : l1 = 0
    rotate_left
    · rw [decide_eq_false hll1]
      exact sameReq_1 _ _ _ _ _ _ _ _ _ _ _ _ _ _ _ _ _ _ _ hnn hww (by omega) (by omega) (by omega)
    rw [decide_eq_true hll1]
    exact sameReq_t _ _ _ _ _ _ _ _ _ _ _ _ _ _ _ _ _ _ _ hnn hww [] rfl hll1 (.inl rfl) (.inl rfl) (by simp) bs h2 h2 (s2.below hu2) (s2.below hu2) hl2

set_option maxRecDepth 20000 in
set_option maxHeartbeats 2000000 in
theorem rightQuestion_16 (pl nn wa : Int) (a1 a2 : Option Addr) (l1 l2 c1 c2 : Nat) (ws : List Int) (bs : List Bool) (w : World) (h1 : l1 = ws.length) (h2 : l2 = bs.length) (s1 : SlI w a1 ws) (s2 : SlB w a2 bs) (hl1 : ws.length ≤ 2000000) (hl2 : bs.length ≤ 2000000) (b : Bool) (hb : okR 16 pl nn wa ws l1 l2 = b) :
    Calls Try.prog 44 #[rq 16 pl nn wa a1 a2 l1 l2 c1 c2] w fun e w' => e = .returned (bif b then .iface 127 (.agg #[.int .i64 pl, .slice a1 l1 c1]) else .nilIface) ∧ Below w.heap.size w w' := by
  subst hb
  rw [okI_16 _ _ _ _ _ _ h1]
  rw [show (rnB pl (l1 : Int) 123 && (allW ws && (decide (nn = 0) && (decide (wa = 0) && (decide (l2 = 0)))))) = ((rnB pl (l1 : Int) 123 && allW ws) && (decide (nn = 0) && (decide (wa = 0) && (decide (l2 = 0))))) from by simp only [Bool.and_assoc]]
  cases hI : (rnB pl (l1 : Int) 123 && allW ws)
  · rw [Bool.false_and]
    exact rq_false 16 pl nn wa a1 a2 l1 l2 c1 c2 w _ (fun u hu => questionOf_16 pl nn wa a1 a2 l1 l2 c1 c2 u) (fun u hu => isRight_16 _ _ _ _ ws u h1 (s1.below hu) hl1 _ hI)
  · rw [Bool.true_and]
    refine rq_true 16 pl nn wa a1 a2 l1 l2 c1 c2 w _ _ 158 _ (fun u hu => questionOf_16 pl nn wa a1 a2 l1 l2 c1 c2 u) (fun u hu => isRight_16 _ _ _ _ ws u h1 (s1.below hu) hl1 _ hI) (callf_16 _) (meth_16 _) (fun u hu => (req_16 _ _ _ _ u).mono ?_)
    rintro e u' ⟨rfl, bu⟩
    refine ⟨_, rfl, bu, ?_⟩
    have hu2 := bel_next hu bu
    by_cases hnn : nn = 0
    rotate_left
    · rw [decide_eq_false hnn]
      exact sameReq_n _ _ _ _ _ _ _ _ _ _ _ _ _ _ _ _ _ _ _ (fun h => hnn h.symm)
    rw [decide_eq_true hnn, Bool.true_and]
    by_cases hww : wa = 0
    rotate_left
    · rw [decide_eq_false hww]
      exact sameReq_w _ _ _ _ _ _ _ _ _ _ _ _ _ _ _ _ _ _ _ hnn (fun h => hww h.symm)
    rw [decide_eq_true hww, Bool.true_and]
    by_cases hll2 : l2 = 0
    rotate_left
    · rw [decide_eq_false hll2]
      exact sameReq_2 _ _ _ _ _ _ _ _ _ _ _ _ _ _ _ _ _ _ _ hnn hww ws h1 h1 (s1.below hu2) (s1.below hu2) hl1 (by omega) (by omega) (by omega)
    rw [decide_eq_true hll2]
    exact sameReq_t _ _ _ _ _ _ _ _ _ _ _ _ _ _ _ _ _ _ _ hnn hww ws h1 h1 (s1.below hu2) (s1.below hu2) hl1 [] rfl hll2 (.inl rfl) (.inl rfl) (by simp)

set_option maxRecDepth 20000 in
set_option maxHeartbeats 2000000 in
theorem rightQuestion_22 (pl nn wa : Int) (a1 a2 : Option Addr) (l1 l2 c1 c2 : Nat) (ws : List Int) (bs : List Bool) (w : World) (h1 : l1 = ws.length) (h2 : l2 = bs.length) (s1 : SlI w a1 ws) (s2 : SlB w a2 bs) (hl1 : ws.length ≤ 2000000) (hl2 : bs.length ≤ 2000000) (b : Bool) (hb : okR 22 pl nn wa ws l1 l2 = b) :
    Calls Try.prog 44 #[rq 22 pl nn wa a1 a2 l1 l2 c1 c2] w fun e w' => e = .returned (bif b then .iface 129 (.agg #[.int .i64 pl, .int .i64 (ws.getD 0 0), .int .i64 (ws.getD 1 0)]) else .nilIface) ∧ Below w.heap.size w w' := by
  subst hb
  rw [okI_22 _ _ _ _ _ _ h1]
  by_cases hL : l1 = 2
  rotate_left
  · rw [decide_eq_false hL]
    exact rq_false 22 pl nn wa a1 a2 l1 l2 c1 c2 w .nilIface (fun u hu => questionOf_22n pl nn wa a1 a2 l1 l2 c1 c2 u (by simp; omega)) (fun u hu => isRight_n u)
  rw [decide_eq_true hL, Bool.true_and]
  rw [show (inB pl 0 65535 && (inB (ws.getD 0 0) 0 65535 && (inB (ws.getD 1 0) 0 65535 && (decide (nn = 0) && (decide (wa = 0) && (decide (l2 = 0))))))) = ((inB pl 0 65535 && (inB (ws.getD 0 0) 0 65535 && inB (ws.getD 1 0) 0 65535)) && (decide (nn = 0) && (decide (wa = 0) && (decide (l2 = 0))))) from by simp only [Bool.and_assoc]]
  cases hI : (inB pl 0 65535 && (inB (ws.getD 0 0) 0 65535 && inB (ws.getD 1 0) 0 65535))
  · rw [Bool.false_and]
    exact rq_false 22 pl nn wa a1 a2 l1 l2 c1 c2 w _ (fun u hu => questionOf_22 pl nn wa a1 a2 l1 l2 c1 c2 u ws h1 (by omega) (s1.below hu)) (fun u hu => isRight_22 _ _ _ u _ hI)
  · rw [Bool.true_and]
    refine rq_true 22 pl nn wa a1 a2 l1 l2 c1 c2 w _ _ 159 _ (fun u hu => questionOf_22 pl nn wa a1 a2 l1 l2 c1 c2 u ws h1 (by omega) (s1.below hu)) (fun u hu => isRight_22 _ _ _ u _ hI) (callf_22 _) (meth_22 _) (fun u hu => (req_22 _ _ _ u).mono ?_)
    rintro e u' ⟨rfl, n3, bu⟩
    refine ⟨_, rfl, bu, ?_⟩
    have hu2 := bel_next hu bu
    by_cases hnn : nn = 0
    rotate_left
    · rw [decide_eq_false hnn]
      exact sameReq_n _ _ _ _ _ _ _ _ _ _ _ _ _ _ _ _ _ _ _ (fun h => hnn h.symm)
    rw [decide_eq_true hnn, Bool.true_and]
    by_cases hww : wa = 0
    rotate_left
    · rw [decide_eq_false hww]
      exact sameReq_w _ _ _ _ _ _ _ _ _ _ _ _ _ _ _ _ _ _ _ hnn (fun h => hww h.symm)
    rw [decide_eq_true hww, Bool.true_and]
    by_cases hll2 : l2 = 0
    rotate_left
    · rw [decide_eq_false hll2]
      exact sameReq_2 _ _ _ _ _ _ _ _ _ _ _ _ _ _ _ _ _ _ _ hnn hww [ws.getD 0 0, ws.getD 1 0] rfl hL n3 (by have := s1.below hu2; rw [ints_two (ws := ws) (by omega)] at this; exact this) (by simp) (by omega) (by omega) (by omega)
    rw [decide_eq_true hll2]
    exact sameReq_t _ _ _ _ _ _ _ _ _ _ _ _ _ _ _ _ _ _ _ hnn hww [ws.getD 0 0, ws.getD 1 0] rfl hL n3 (by have := s1.below hu2; rw [ints_two (ws := ws) (by omega)] at this; exact this) (by simp) [] rfl hll2 (.inl rfl) (.inl rfl) (by simp)

set_option maxRecDepth 20000 in
set_option maxHeartbeats 2000000 in
theorem rightQuestion_23 (pl nn wa : Int) (a1 a2 : Option Addr) (l1 l2 c1 c2 : Nat) (ws : List Int) (bs : List Bool) (w : World) (h1 : l1 = ws.length) (h2 : l2 = bs.length) (s1 : SlI w a1 ws) (s2 : SlB w a2 bs) (hl1 : ws.length ≤ 2000000) (hl2 : bs.length ≤ 2000000) (b : Bool) (hb : okR 23 pl nn wa ws l1 l2 = b) :
    Calls Try.prog 44 #[rq 23 pl nn wa a1 a2 l1 l2 c1 c2] w fun e w' => e = .returned (bif b then .iface 131 (.agg #[.int .i64 pl, .int .i64 nn, .int .i64 wa, .slice a1 l1 c1]) else .nilIface) ∧ Below w.heap.size w w' := by
  subst hb
  rw [okI_23 _ _ _ _ _ _ h1]
  rw [show (rnB pl nn 125 && (rnB wa (l1 : Int) 121 && (allW ws && (decide (l2 = 0))))) = ((rnB pl nn 125 && (rnB wa (l1 : Int) 121 && allW ws)) && (decide (l2 = 0))) from by simp only [Bool.and_assoc]]
  cases hI : (rnB pl nn 125 && (rnB wa (l1 : Int) 121 && allW ws))
  · rw [Bool.false_and]
    exact rq_false 23 pl nn wa a1 a2 l1 l2 c1 c2 w _ (fun u hu => questionOf_23 pl nn wa a1 a2 l1 l2 c1 c2 u) (fun u hu => isRight_23 _ _ _ _ _ _ ws u h1 (s1.below hu) hl1 _ hI)
  · rw [Bool.true_and]
    refine rq_true 23 pl nn wa a1 a2 l1 l2 c1 c2 w _ _ 160 _ (fun u hu => questionOf_23 pl nn wa a1 a2 l1 l2 c1 c2 u) (fun u hu => isRight_23 _ _ _ _ _ _ ws u h1 (s1.below hu) hl1 _ hI) (callf_23 _) (meth_23 _) (fun u hu => (req_23 _ _ _ _ _ _ u).mono ?_)
    rintro e u' ⟨rfl, bu⟩
    refine ⟨_, rfl, bu, ?_⟩
    have hu2 := bel_next hu bu
    by_cases hll2 : l2 = 0
    rotate_left
    · rw [decide_eq_false hll2]
      exact sameReq_2 _ _ _ _ _ _ _ _ _ _ _ _ _ _ _ _ _ _ _ rfl rfl ws h1 h1 (s1.below hu2) (s1.below hu2) hl1 (by omega) (by omega) (by omega)
    rw [decide_eq_true hll2]
    exact sameReq_t _ _ _ _ _ _ _ _ _ _ _ _ _ _ _ _ _ _ _ rfl rfl ws h1 h1 (s1.below hu2) (s1.below hu2) hl1 [] rfl hll2 (.inl rfl) (.inl rfl) (by simp)

theorem rightQuestion_none (kd : Int) (pl nn wa : Int) (a1 a2 : Option Addr) (l1 l2 c1 c2 : Nat) (ws : List Int) (bs : List Bool) (w : World) (h1 : l1 = ws.length) (h2 : l2 = bs.length) (s1 : SlI w a1 ws) (s2 : SlB w a2 bs) (hl1 : ws.length ≤ 2000000) (hl2 : bs.length ≤ 2000000) (k1 : ¬ kd = 1) (k2 : ¬ kd = 2) (k3 : ¬ kd = 3) (k4 : ¬ kd = 4) (k5 : ¬ kd = 5) (k6 : ¬ kd = 6) (k15 : ¬ kd = 15) (k16 : ¬ kd = 16) (k22 : ¬ kd = 22) (k23 : ¬ kd = 23) :
    Calls Try.prog 44 #[rq kd pl nn wa a1 a2 l1 l2 c1 c2] w fun e w' => e = .returned .nilIface ∧ Below w.heap.size w w' :=
  rq_false kd pl nn wa a1 a2 l1 l2 c1 c2 w .nilIface (fun u hu => questionOf_none kd pl nn wa a1 a2 l1 l2 c1 c2 u k1 k2 k3 k4 k5 k6 k15 k16 k22 k23) (fun u hu => isRight_n u)

end Go.Proofs.Ytaaokbmfpfmfgaa

namespace Go.Proofs.Ytaaokbmfpfmfgaa
open Go.RowKit

set_option linter.unusedVariables false

set_option linter.unusedSimpArgs false

abbrev WfQ (kd pl nn wa : Int) (ws : List Int) : Prop := (∀ n ∈ ws, -9223372036854775808 ≤ n ∧ n ≤ 9223372036854775807) ∧ (Lit.int .i64 kd).wf = true ∧ (Lit.int .i64 pl).wf = true ∧ (Lit.int .i64 nn).wf = true ∧ (Lit.int .i64 wa).wf = true

theorem specReqOk_q (kd pl nn wa : Int) (a1 a2 : Option Addr) (l1 l2 c1 c2 : Nat) (ws : List Int) (bs : List Bool) (w : World) (h1 : l1 = ws.length) (h2 : l2 = bs.length) (s1 : SlI w a1 ws) (s2 : SlB w a2 bs) (hl1 : ws.length ≤ 2000000) (hl2 : bs.length ≤ 2000000) :
    Calls Try.prog 20 #[rq kd pl nn wa a1 a2 l1 l2 c1 c2] w fun e w' => e = .returned (.bool (okR kd pl nn wa ws l1 l2)) ∧ Below w.heap.size w w' :=
  specReqOk_any kd pl nn wa a1 a2 l1 l2 c1 c2 ws w h1 s1 hl1 (by omega) _ rfl

theorem neq_if (T : TypeId) (v : Value) (w : World) : (binOp .neq 76 (.iface T v) .nilIface).run Try.prog w = .ok (.bool true) w := by kernel_rfl

theorem neq_nil (w : World) : (binOp .neq 76 .nilIface .nilIface).run Try.prog w = .ok (.bool false) w := by kernel_rfl

set_option maxHeartbeats 2000000 in
theorem implReqOk_if (kd pl nn wa : Int) (a1 a2 : Option Addr) (l1 l2 c1 c2 : Nat) (w : World) (b : Bool) (T : TypeId) (v : Value)
    (hq : ∀ u, Below w.heap.size w u → Calls Try.prog 44 #[rq kd pl nn wa a1 a2 l1 l2 c1 c2] u fun e u' => e = .returned (bif b then .iface T v else .nilIface) ∧ Below u.heap.size u u') :
    Calls Try.prog 12 #[rq kd pl nn wa a1 a2 l1 l2 c1 c2] w fun e w' => e = .returned (.bool b) ∧ Below w.heap.size w w' := by
  have B0 := bel_alloc w (.cells #[.int .i64 kd, .int .i64 pl, .int .i64 nn, .slice a1 l1 c1, .slice a2 l2 c2, .int .i64 wa] 28)
  have q1 := neq_if T v
  have q2 := neq_nil
  go_enter Try.func12, Try.ntmps12
  go_wp2_with fail
  refine (hq _ B0).mono ?_
  rintro e w1 ⟨rfl, b'⟩
  have B1 := bel_next B0 b'
  clear hq
  cases b
  · simp only [cond_false]
    go_wp2
    go_ret
    exact ⟨rfl, B1⟩
  · simp only [cond_true]
    go_wp2
    go_ret
    exact ⟨rfl, B1⟩

theorem okR_kind {kd pl nn wa : Int} {ws : List Int} {l1 l2 : Nat} (h : okR kd pl nn wa ws l1 l2 = true) : kd = 1 ∨ kd = 2 ∨ kd = 3 ∨ kd = 4 ∨ kd = 5 ∨ kd = 6 ∨ kd = 15 ∨ kd = 16 ∨ kd = 22 ∨ kd = 23 := by
  by_cases hk : kd = 1 ∨ kd = 2 ∨ kd = 3 ∨ kd = 4 ∨ kd = 5 ∨ kd = 6 ∨ kd = 15 ∨ kd = 16 ∨ kd = 22 ∨ kd = 23
  · exact hk
  · have e : okR kd pl nn wa ws l1 l2 = false := by
      have k1 : ¬ kd = 1 := by omega
      have k2 : ¬ kd = 2 := by omega
      have k3 : ¬ kd = 3 := by omega
      have k4 : ¬ kd = 4 := by omega
      have k5 : ¬ kd = 5 := by omega
      have k6 : ¬ kd = 6 := by omega
      have k7 : ¬ kd = 15 := by omega
      have k8 : ¬ kd = 16 := by omega
      have k9 : ¬ kd = 22 := by omega
      have k10 : ¬ kd = 23 := by omega
      simp [okR, okK, k1, k2, k3, k4, k5, k6, k7, k8, k9, k10]
    rw [e] at h
    cases h

theorem implReqOk_q (kd pl nn wa : Int) (a1 a2 : Option Addr) (l1 l2 c1 c2 : Nat) (ws : List Int) (bs : List Bool) (w : World) (h1 : l1 = ws.length) (h2 : l2 = bs.length) (s1 : SlI w a1 ws) (s2 : SlB w a2 bs) (hl1 : ws.length ≤ 2000000) (hl2 : bs.length ≤ 2000000) :
    Calls Try.prog 12 #[rq kd pl nn wa a1 a2 l1 l2 c1 c2] w fun e w' => e = .returned (.bool (okR kd pl nn wa ws l1 l2)) ∧ Below w.heap.size w w' := by
  by_cases hk : kd = 1 ∨ kd = 2 ∨ kd = 3 ∨ kd = 4 ∨ kd = 5 ∨ kd = 6 ∨ kd = 15 ∨ kd = 16 ∨ kd = 22 ∨ kd = 23
  · obtain rfl | rfl | rfl | rfl | rfl | rfl | rfl | rfl | rfl | rfl := hk
    · exact implReqOk_if 1 pl nn wa a1 a2 l1 l2 c1 c2 w _ _ _ (fun u hu => rightQuestion_1 pl nn wa a1 a2 l1 l2 c1 c2 ws bs u h1 h2 (s1.below hu) (s2.below hu) hl1 hl2 _ rfl)
    · exact implReqOk_if 2 pl nn wa a1 a2 l1 l2 c1 c2 w _ _ _ (fun u hu => rightQuestion_2 pl nn wa a1 a2 l1 l2 c1 c2 ws bs u h1 h2 (s1.below hu) (s2.below hu) hl1 hl2 _ rfl)
    · exact implReqOk_if 3 pl nn wa a1 a2 l1 l2 c1 c2 w _ _ _ (fun u hu => rightQuestion_3 pl nn wa a1 a2 l1 l2 c1 c2 ws bs u h1 h2 (s1.below hu) (s2.below hu) hl1 hl2 _ rfl)
    · exact implReqOk_if 4 pl nn wa a1 a2 l1 l2 c1 c2 w _ _ _ (fun u hu => rightQuestion_4 pl nn wa a1 a2 l1 l2 c1 c2 ws bs u h1 h2 (s1.below hu) (s2.below hu) hl1 hl2 _ rfl)
    · exact implReqOk_if 5 pl nn wa a1 a2 l1 l2 c1 c2 w _ _ _ (fun u hu => rightQuestion_5 pl nn wa a1 a2 l1 l2 c1 c2 ws bs u h1 h2 (s1.below hu) (s2.below hu) hl1 hl2 _ rfl)
    · exact implReqOk_if 6 pl nn wa a1 a2 l1 l2 c1 c2 w _ _ _ (fun u hu => rightQuestion_6 pl nn wa a1 a2 l1 l2 c1 c2 ws bs u h1 h2 (s1.below hu) (s2.below hu) hl1 hl2 _ rfl)
    · exact implReqOk_if 15 pl nn wa a1 a2 l1 l2 c1 c2 w _ _ _ (fun u hu => rightQuestion_15 pl nn wa a1 a2 l1 l2 c1 c2 ws bs u h1 h2 (s1.below hu) (s2.below hu) hl1 hl2 _ rfl)
    · exact implReqOk_if 16 pl nn wa a1 a2 l1 l2 c1 c2 w _ _ _ (fun u hu => rightQuestion_16 pl nn wa a1 a2 l1 l2 c1 c2 ws bs u h1 h2 (s1.below hu) (s2.below hu) hl1 hl2 _ rfl)
    · exact implReqOk_if 22 pl nn wa a1 a2 l1 l2 c1 c2 w _ _ _ (fun u hu => rightQuestion_22 pl nn wa a1 a2 l1 l2 c1 c2 ws bs u h1 h2 (s1.below hu) (s2.below hu) hl1 hl2 _ rfl)
    · exact implReqOk_if 23 pl nn wa a1 a2 l1 l2 c1 c2 w _ _ _ (fun u hu => rightQuestion_23 pl nn wa a1 a2 l1 l2 c1 c2 ws bs u h1 h2 (s1.below hu) (s2.below hu) hl1 hl2 _ rfl)
  · have e : okR kd pl nn wa ws l1 l2 = false := by
      cases e : okR kd pl nn wa ws l1 l2
      · rfl
      · exact absurd (okR_kind e) hk
    rw [e]
    exact implReqOk_if kd pl nn wa a1 a2 l1 l2 c1 c2 w false 0 .nilIface (fun u hu => rightQuestion_none kd pl nn wa a1 a2 l1 l2 c1 c2 ws bs u h1 h2 (s1.below hu) (s2.below hu) hl1 hl2 (by omega) (by omega) (by omega) (by omega) (by omega) (by omega) (by omega) (by omega) (by omega) (by omega))

def spcN (kd nn : Int) (l1 l2 : Nat) : Int := if kd = 5 ∨ kd = 15 then l2 else if kd = 6 ∨ kd = 22 then 1 else if kd = 16 then l1 else nn

def spc0 (kd : Int) : Int := if kd = 1 ∨ kd = 5 ∨ kd = 15 then 0 else if kd = 2 then 1 else if kd = 4 then 3 else 2

/-- What Spaces tells. -/
def spcV (b : Bool) (kd pl nn : Int) (l1 l2 : Nat) : Value := bif b then .tuple #[.int .i64 (spc0 kd), .int .i64 pl, .int .i64 (spcN kd nn l1 l2)] else .tuple #[.int .i64 (-1), .int .i64 0, .int .i64 0]

set_option maxHeartbeats 2000000 in
theorem specSpaces_no (kd : Int) (pl nn wa : Int) (a1 a2 : Option Addr) (l1 l2 c1 c2 : Nat) (ws : List Int) (bs : List Bool) (w : World) (h1 : l1 = ws.length) (h2 : l2 = bs.length) (s1 : SlI w a1 ws) (s2 : SlB w a2 bs) (hl1 : ws.length ≤ 2000000) (hl2 : bs.length ≤ 2000000) (hb : okR kd pl nn wa ws l1 l2 = false) :
    Calls Try.prog 40 #[rq kd pl nn wa a1 a2 l1 l2 c1 c2] w fun e w' => e = .returned (spcV false kd pl nn l1 l2) ∧ Below w.heap.size w w' := by
  have B0 := bel_alloc w (.cells #[.int .i64 kd, .int .i64 pl, .int .i64 nn, .slice a1 l1 c1, .slice a2 l2 c2, .int .i64 wa] 28)
  have X0 := Blk.new w #[.int .i64 kd, .int .i64 pl, .int .i64 nn, .slice a1 l1 c1, .slice a2 l2 c2, .int .i64 wa] 28
  have H1 : Hid (l1 = ws.length ∧ l2 = bs.length) := ⟨h1, h2⟩
  have S1 : Hid (SlI w a1 ws ∧ SlB w a2 bs) := ⟨s1, s2⟩
  obtain ⟨x0, x1, x2, x3, x4, x5⟩ := X0.six
  clear h1 h2 s1 s2
  go_enter Try.func40, Try.ntmps40
  go_wp2_with fail
  refine (specReqOk_q kd pl nn wa a1 a2 l1 l2 c1 c2 ws bs _ H1.out.1 H1.out.2 (S1.out.1.below B0) (S1.out.2.below B0) hl1 hl2).mono ?_
  rintro e w1 ⟨rfl, b'⟩
  rw [hb]
  have B1 := bel_next B0 b'
  obtain ⟨y0, y1, y2, y3, y4, y5⟩ := (X0.below b').six
  clear X0 x0 x1 x2 x3 x4 x5
  go_wp2
  refine bodyPost_ret (v := .tuple #[.int .i64 (-1), .int .i64 0, .int .i64 0]) (by simp [results, Try.results40, go_sem]) rfl ?_
  exact ⟨rfl, B1⟩

set_option maxHeartbeats 2000000 in
theorem specSpaces_1 (pl nn wa : Int) (a1 a2 : Option Addr) (l1 l2 c1 c2 : Nat) (ws : List Int) (bs : List Bool) (w : World) (h1 : l1 = ws.length) (h2 : l2 = bs.length) (s1 : SlI w a1 ws) (s2 : SlB w a2 bs) (hl1 : ws.length ≤ 2000000) (hl2 : bs.length ≤ 2000000) (hb : okR 1 pl nn wa ws l1 l2 = true) :
    Calls Try.prog 40 #[rq 1 pl nn wa a1 a2 l1 l2 c1 c2] w fun e w' => e = .returned (spcV true 1 pl nn l1 l2) ∧ Below w.heap.size w w' := by
  have B0 := bel_alloc w (.cells #[.int .i64 1, .int .i64 pl, .int .i64 nn, .slice a1 l1 c1, .slice a2 l2 c2, .int .i64 wa] 28)
  have X0 := Blk.new w #[.int .i64 1, .int .i64 pl, .int .i64 nn, .slice a1 l1 c1, .slice a2 l2 c2, .int .i64 wa] 28
  have H1 : Hid (l1 = ws.length ∧ l2 = bs.length) := ⟨h1, h2⟩
  have S1 : Hid (SlI w a1 ws ∧ SlB w a2 bs) := ⟨s1, s2⟩
  obtain ⟨x0, x1, x2, x3, x4, x5⟩ := X0.six
  clear h1 h2 s1 s2
  go_enter Try.func40, Try.ntmps40
  go_wp2_with fail
  refine (specReqOk_q 1 pl nn wa a1 a2 l1 l2 c1 c2 ws bs _ H1.out.1 H1.out.2 (S1.out.1.below B0) (S1.out.2.below B0) hl1 hl2).mono ?_
  rintro e w1 ⟨rfl, b'⟩
  rw [hb]
  have B1 := bel_next B0 b'
  obtain ⟨y0, y1, y2, y3, y4, y5⟩ := (X0.below b').six
  clear X0 x0 x1 x2 x3 x4 x5
  go_wp2
  go_quiet (fail)
  go_wp2
  refine bodyPost_ret (v := .tuple #[.int .i64 0, .int .i64 pl, .int .i64 nn]) (by simp [results, Try.results40, go_sem]) rfl ?_
  exact ⟨rfl, bel_next B1 (drew_refl _ _)⟩

set_option maxHeartbeats 2000000 in
theorem specSpaces_2 (pl nn wa : Int) (a1 a2 : Option Addr) (l1 l2 c1 c2 : Nat) (ws : List Int) (bs : List Bool) (w : World) (h1 : l1 = ws.length) (h2 : l2 = bs.length) (s1 : SlI w a1 ws) (s2 : SlB w a2 bs) (hl1 : ws.length ≤ 2000000) (hl2 : bs.length ≤ 2000000) (hb : okR 2 pl nn wa ws l1 l2 = true) :
    Calls Try.prog 40 #[rq 2 pl nn wa a1 a2 l1 l2 c1 c2] w fun e w' => e = .returned (spcV true 2 pl nn l1 l2) ∧ Below w.heap.size w w' := by
  have B0 := bel_alloc w (.cells #[.int .i64 2, .int .i64 pl, .int .i64 nn, .slice a1 l1 c1, .slice a2 l2 c2, .int .i64 wa] 28)
  have X0 := Blk.new w #[.int .i64 2, .int .i64 pl, .int .i64 nn, .slice a1 l1 c1, .slice a2 l2 c2, .int .i64 wa] 28
  have H1 : Hid (l1 = ws.length ∧ l2 = bs.length) := ⟨h1, h2⟩
  have S1 : Hid (SlI w a1 ws ∧ SlB w a2 bs) := ⟨s1, s2⟩
  obtain ⟨x0, x1, x2, x3, x4, x5⟩ := X0.six
  clear h1 h2 s1 s2
  go_enter Try.func40, Try.ntmps40
  go_wp2_with fail
  refine (specReqOk_q 2 pl nn wa a1 a2 l1 l2 c1 c2 ws bs _ H1.out.1 H1.out.2 (S1.out.1.below B0) (S1.out.2.below B0) hl1 hl2).mono ?_
  rintro e w1 ⟨rfl, b'⟩
  rw [hb]
  have B1 := bel_next B0 b'
  obtain ⟨y0, y1, y2, y3, y4, y5⟩ := (X0.below b').six
  clear X0 x0 x1 x2 x3 x4 x5
  go_wp2
  go_quiet (fail)
  go_wp2
  refine bodyPost_ret (v := .tuple #[.int .i64 1, .int .i64 pl, .int .i64 nn]) (by simp [results, Try.results40, go_sem]) rfl ?_
  exact ⟨rfl, bel_next B1 (drew_refl _ _)⟩

set_option maxHeartbeats 2000000 in
theorem specSpaces_3 (pl nn wa : Int) (a1 a2 : Option Addr) (l1 l2 c1 c2 : Nat) (ws : List Int) (bs : List Bool) (w : World) (h1 : l1 = ws.length) (h2 : l2 = bs.length) (s1 : SlI w a1 ws) (s2 : SlB w a2 bs) (hl1 : ws.length ≤ 2000000) (hl2 : bs.length ≤ 2000000) (hb : okR 3 pl nn wa ws l1 l2 = true) :
    Calls Try.prog 40 #[rq 3 pl nn wa a1 a2 l1 l2 c1 c2] w fun e w' => e = .returned (spcV true 3 pl nn l1 l2) ∧ Below w.heap.size w w' := by
  have B0 := bel_alloc w (.cells #[.int .i64 3, .int .i64 pl, .int .i64 nn, .slice a1 l1 c1, .slice a2 l2 c2, .int .i64 wa] 28)
  have X0 := Blk.new w #[.int .i64 3, .int .i64 pl, .int .i64 nn, .slice a1 l1 c1, .slice a2 l2 c2, .int .i64 wa] 28
  have H1 : Hid (l1 = ws.length ∧ l2 = bs.length) := ⟨h1, h2⟩
  have S1 : Hid (SlI w a1 ws ∧ SlB w a2 bs) := ⟨s1, s2⟩
  obtain ⟨x0, x1, x2, x3, x4, x5⟩ := X0.six
  clear h1 h2 s1 s2
  go_enter Try.func40, Try.ntmps40
  go_wp2_with fail
  refine (specReqOk_q 3 pl nn wa a1 a2 l1 l2 c1 c2 ws bs _ H1.out.1 H1.out.2 (S1.out.1.below B0) (S1.out.2.below B0) hl1 hl2).mono ?_
  rintro e w1 ⟨rfl, b'⟩
  rw [hb]
  have B1 := bel_next B0 b'
  obtain ⟨y0, y1, y2, y3, y4, y5⟩ := (X0.below b').six
  clear X0 x0 x1 x2 x3 x4 x5
  go_wp2
  go_quiet (fail)
  go_wp2
  refine bodyPost_ret (v := .tuple #[.int .i64 2, .int .i64 pl, .int .i64 nn]) (by simp [results, Try.results40, go_sem]) rfl ?_
  exact ⟨rfl, bel_next B1 (drew_refl _ _)⟩

set_option maxHeartbeats 2000000 in
theorem specSpaces_4 (pl nn wa : Int) (a1 a2 : Option Addr) (l1 l2 c1 c2 : Nat) (ws : List Int) (bs : List Bool) (w : World) (h1 : l1 = ws.length) (h2 : l2 = bs.length) (s1 : SlI w a1 ws) (s2 : SlB w a2 bs) (hl1 : ws.length ≤ 2000000) (hl2 : bs.length ≤ 2000000) (hb : okR 4 pl nn wa ws l1 l2 = true) :
    Calls Try.prog 40 #[rq 4 pl nn wa a1 a2 l1 l2 c1 c2] w fun e w' => e = .returned (spcV true 4 pl nn l1 l2) ∧ Below w.heap.size w w' := by
  have B0 := bel_alloc w (.cells #[.int .i64 4, .int .i64 pl, .int .i64 nn, .slice a1 l1 c1, .slice a2 l2 c2, .int .i64 wa] 28)
  have X0 := Blk.new w #[.int .i64 4, .int .i64 pl, .int .i64 nn, .slice a1 l1 c1, .slice a2 l2 c2, .int .i64 wa] 28
  have H1 : Hid (l1 = ws.length ∧ l2 = bs.length) := ⟨h1, h2⟩
  have S1 : Hid (SlI w a1 ws ∧ SlB w a2 bs) := ⟨s1, s2⟩
  obtain ⟨x0, x1, x2, x3, x4, x5⟩ := X0.six
  clear h1 h2 s1 s2
  go_enter Try.func40, Try.ntmps40
  go_wp2_with fail
  refine (specReqOk_q 4 pl nn wa a1 a2 l1 l2 c1 c2 ws bs _ H1.out.1 H1.out.2 (S1.out.1.below B0) (S1.out.2.below B0) hl1 hl2).mono ?_
  rintro e w1 ⟨rfl, b'⟩
  rw [hb]
  have B1 := bel_next B0 b'
  obtain ⟨y0, y1, y2, y3, y4, y5⟩ := (X0.below b').six
  clear X0 x0 x1 x2 x3 x4 x5
  go_wp2
  go_quiet (fail)
  go_wp2
  refine bodyPost_ret (v := .tuple #[.int .i64 3, .int .i64 pl, .int .i64 nn]) (by simp [results, Try.results40, go_sem]) rfl ?_
  exact ⟨rfl, bel_next B1 (drew_refl _ _)⟩

set_option maxHeartbeats 2000000 in
theorem specSpaces_5 (pl nn wa : Int) (a1 a2 : Option Addr) (l1 l2 c1 c2 : Nat) (ws : List Int) (bs : List Bool) (w : World) (h1 : l1 = ws.length) (h2 : l2 = bs.length) (s1 : SlI w a1 ws) (s2 : SlB w a2 bs) (hl1 : ws.length ≤ 2000000) (hl2 : bs.length ≤ 2000000) (hb : okR 5 pl nn wa ws l1 l2 = true) :
    Calls Try.prog 40 #[rq 5 pl nn wa a1 a2 l1 l2 c1 c2] w fun e w' => e = .returned (spcV true 5 pl nn l1 l2) ∧ Below w.heap.size w w' := by
  have B0 := bel_alloc w (.cells #[.int .i64 5, .int .i64 pl, .int .i64 nn, .slice a1 l1 c1, .slice a2 l2 c2, .int .i64 wa] 28)
  have X0 := Blk.new w #[.int .i64 5, .int .i64 pl, .int .i64 nn, .slice a1 l1 c1, .slice a2 l2 c2, .int .i64 wa] 28
  have H1 : Hid (l1 = ws.length ∧ l2 = bs.length) := ⟨h1, h2⟩
  have S1 : Hid (SlI w a1 ws ∧ SlB w a2 bs) := ⟨s1, s2⟩
  obtain ⟨x0, x1, x2, x3, x4, x5⟩ := X0.six
  clear h1 h2 s1 s2
  go_enter Try.func40, Try.ntmps40
  go_wp2_with fail
  refine (specReqOk_q 5 pl nn wa a1 a2 l1 l2 c1 c2 ws bs _ H1.out.1 H1.out.2 (S1.out.1.below B0) (S1.out.2.below B0) hl1 hl2).mono ?_
  rintro e w1 ⟨rfl, b'⟩
  rw [hb]
  have B1 := bel_next B0 b'
  obtain ⟨y0, y1, y2, y3, y4, y5⟩ := (X0.below b').six
  clear X0 x0 x1 x2 x3 x4 x5
  go_wp2
  go_quiet (fail)
  go_wp2
  refine bodyPost_ret (v := .tuple #[.int .i64 0, .int .i64 pl, .int .i64 (l2 : Int)]) (by simp [results, Try.results40, go_sem]) rfl ?_
  exact ⟨rfl, bel_next B1 (drew_refl _ _)⟩

set_option maxHeartbeats 2000000 in
theorem specSpaces_6 (pl nn wa : Int) (a1 a2 : Option Addr) (l1 l2 c1 c2 : Nat) (ws : List Int) (bs : List Bool) (w : World) (h1 : l1 = ws.length) (h2 : l2 = bs.length) (s1 : SlI w a1 ws) (s2 : SlB w a2 bs) (hl1 : ws.length ≤ 2000000) (hl2 : bs.length ≤ 2000000) (hb : okR 6 pl nn wa ws l1 l2 = true) :
    Calls Try.prog 40 #[rq 6 pl nn wa a1 a2 l1 l2 c1 c2] w fun e w' => e = .returned (spcV true 6 pl nn l1 l2) ∧ Below w.heap.size w w' := by
  have B0 := bel_alloc w (.cells #[.int .i64 6, .int .i64 pl, .int .i64 nn, .slice a1 l1 c1, .slice a2 l2 c2, .int .i64 wa] 28)
  have X0 := Blk.new w #[.int .i64 6, .int .i64 pl, .int .i64 nn, .slice a1 l1 c1, .slice a2 l2 c2, .int .i64 wa] 28
  have H1 : Hid (l1 = ws.length ∧ l2 = bs.length) := ⟨h1, h2⟩
  have S1 : Hid (SlI w a1 ws ∧ SlB w a2 bs) := ⟨s1, s2⟩
  obtain ⟨x0, x1, x2, x3, x4, x5⟩ := X0.six
  clear h1 h2 s1 s2
  go_enter Try.func40, Try.ntmps40
  go_wp2_with fail
  refine (specReqOk_q 6 pl nn wa a1 a2 l1 l2 c1 c2 ws bs _ H1.out.1 H1.out.2 (S1.out.1.below B0) (S1.out.2.below B0) hl1 hl2).mono ?_
  rintro e w1 ⟨rfl, b'⟩
  rw [hb]
  have B1 := bel_next B0 b'
  obtain ⟨y0, y1, y2, y3, y4, y5⟩ := (X0.below b').six
  clear X0 x0 x1 x2 x3 x4 x5
  go_wp2
  go_quiet (fail)
  go_wp2
  refine bodyPost_ret (v := .tuple #[.int .i64 2, .int .i64 pl, .int .i64 1]) (by simp [results, Try.results40, go_sem]) rfl ?_
  exact ⟨rfl, bel_next B1 (drew_refl _ _)⟩

set_option maxHeartbeats 2000000 in
theorem specSpaces_15 (pl nn wa : Int) (a1 a2 : Option Addr) (l1 l2 c1 c2 : Nat) (ws : List Int) (bs : List Bool) (w : World) (h1 : l1 = ws.length) (h2 : l2 = bs.length) (s1 : SlI w a1 ws) (s2 : SlB w a2 bs) (hl1 : ws.length ≤ 2000000) (hl2 : bs.length ≤ 2000000) (hb : okR 15 pl nn wa ws l1 l2 = true) :
    Calls Try.prog 40 #[rq 15 pl nn wa a1 a2 l1 l2 c1 c2] w fun e w' => e = .returned (spcV true 15 pl nn l1 l2) ∧ Below w.heap.size w w' := by
  have B0 := bel_alloc w (.cells #[.int .i64 15, .int .i64 pl, .int .i64 nn, .slice a1 l1 c1, .slice a2 l2 c2, .int .i64 wa] 28)
  have X0 := Blk.new w #[.int .i64 15, .int .i64 pl, .int .i64 nn, .slice a1 l1 c1, .slice a2 l2 c2, .int .i64 wa] 28
  have H1 : Hid (l1 = ws.length ∧ l2 = bs.length) := ⟨h1, h2⟩
  have S1 : Hid (SlI w a1 ws ∧ SlB w a2 bs) := ⟨s1, s2⟩
  obtain ⟨x0, x1, x2, x3, x4, x5⟩ := X0.six
  clear h1 h2 s1 s2
  go_enter Try.func40, Try.ntmps40
  go_wp2_with fail
  refine (specReqOk_q 15 pl nn wa a1 a2 l1 l2 c1 c2 ws bs _ H1.out.1 H1.out.2 (S1.out.1.below B0) (S1.out.2.below B0) hl1 hl2).mono ?_
  rintro e w1 ⟨rfl, b'⟩
  rw [hb]
  have B1 := bel_next B0 b'
  obtain ⟨y0, y1, y2, y3, y4, y5⟩ := (X0.below b').six
  clear X0 x0 x1 x2 x3 x4 x5
  go_wp2
  go_quiet (fail)
  go_wp2
  refine bodyPost_ret (v := .tuple #[.int .i64 0, .int .i64 pl, .int .i64 (l2 : Int)]) (by simp [results, Try.results40, go_sem]) rfl ?_
  exact ⟨rfl, bel_next B1 (drew_refl _ _)⟩

set_option maxHeartbeats 2000000 in
theorem specSpaces_16 (pl nn wa : Int) (a1 a2 : Option Addr) (l1 l2 c1 c2 : Nat) (ws : List Int) (bs : List Bool) (w : World) (h1 : l1 = ws.length) (h2 : l2 = bs.length) (s1 : SlI w a1 ws) (s2 : SlB w a2 bs) (hl1 : ws.length ≤ 2000000) (hl2 : bs.length ≤ 2000000) (hb : okR 16 pl nn wa ws l1 l2 = true) :
    Calls Try.prog 40 #[rq 16 pl nn wa a1 a2 l1 l2 c1 c2] w fun e w' => e = .returned (spcV true 16 pl nn l1 l2) ∧ Below w.heap.size w w' := by
  have B0 := bel_alloc w (.cells #[.int .i64 16, .int .i64 pl, .int .i64 nn, .slice a1 l1 c1, .slice a2 l2 c2, .int .i64 wa] 28)
  have X0 := Blk.new w #[.int .i64 16, .int .i64 pl, .int .i64 nn, .slice a1 l1 c1, .slice a2 l2 c2, .int .i64 wa] 28
  have H1 : Hid (l1 = ws.length ∧ l2 = bs.length) := ⟨h1, h2⟩
  have S1 : Hid (SlI w a1 ws ∧ SlB w a2 bs) := ⟨s1, s2⟩
  obtain ⟨x0, x1, x2, x3, x4, x5⟩ := X0.six
  clear h1 h2 s1 s2
  go_enter Try.func40, Try.ntmps40
  go_wp2_with fail
  refine (specReqOk_q 16 pl nn wa a1 a2 l1 l2 c1 c2 ws bs _ H1.out.1 H1.out.2 (S1.out.1.below B0) (S1.out.2.below B0) hl1 hl2).mono ?_
  rintro e w1 ⟨rfl, b'⟩
  rw [hb]
  have B1 := bel_next B0 b'
  obtain ⟨y0, y1, y2, y3, y4, y5⟩ := (X0.below b').six
  clear X0 x0 x1 x2 x3 x4 x5
  go_wp2
  go_quiet (fail)
  go_wp2
  refine bodyPost_ret (v := .tuple #[.int .i64 2, .int .i64 pl, .int .i64 (l1 : Int)]) (by simp [results, Try.results40, go_sem]) rfl ?_
  exact ⟨rfl, bel_next B1 (drew_refl _ _)⟩

set_option maxHeartbeats 2000000 in
theorem specSpaces_22 (pl nn wa : Int) (a1 a2 : Option Addr) (l1 l2 c1 c2 : Nat) (ws : List Int) (bs : List Bool) (w : World) (h1 : l1 = ws.length) (h2 : l2 = bs.length) (s1 : SlI w a1 ws) (s2 : SlB w a2 bs) (hl1 : ws.length ≤ 2000000) (hl2 : bs.length ≤ 2000000) (hb : okR 22 pl nn wa ws l1 l2 = true) :
    Calls Try.prog 40 #[rq 22 pl nn wa a1 a2 l1 l2 c1 c2] w fun e w' => e = .returned (spcV true 22 pl nn l1 l2) ∧ Below w.heap.size w w' := by
  have B0 := bel_alloc w (.cells #[.int .i64 22, .int .i64 pl, .int .i64 nn, .slice a1 l1 c1, .slice a2 l2 c2, .int .i64 wa] 28)
  have X0 := Blk.new w #[.int .i64 22, .int .i64 pl, .int .i64 nn, .slice a1 l1 c1, .slice a2 l2 c2, .int .i64 wa] 28
  have H1 : Hid (l1 = ws.length ∧ l2 = bs.length) := ⟨h1, h2⟩
  have S1 : Hid (SlI w a1 ws ∧ SlB w a2 bs) := ⟨s1, s2⟩
  obtain ⟨x0, x1, x2, x3, x4, x5⟩ := X0.six
  clear h1 h2 s1 s2
  go_enter Try.func40, Try.ntmps40
  go_wp2_with fail
  refine (specReqOk_q 22 pl nn wa a1 a2 l1 l2 c1 c2 ws bs _ H1.out.1 H1.out.2 (S1.out.1.below B0) (S1.out.2.below B0) hl1 hl2).mono ?_
  rintro e w1 ⟨rfl, b'⟩
  rw [hb]
  have B1 := bel_next B0 b'
  obtain ⟨y0, y1, y2, y3, y4, y5⟩ := (X0.below b').six
  clear X0 x0 x1 x2 x3 x4 x5
  go_wp2
  go_quiet (fail)
  go_wp2
  refine bodyPost_ret (v := .tuple #[.int .i64 2, .int .i64 pl, .int .i64 1]) (by simp [results, Try.results40, go_sem]) rfl ?_
  exact ⟨rfl, bel_next B1 (drew_refl _ _)⟩

set_option maxHeartbeats 2000000 in
theorem specSpaces_23 (pl nn wa : Int) (a1 a2 : Option Addr) (l1 l2 c1 c2 : Nat) (ws : List Int) (bs : List Bool) (w : World) (h1 : l1 = ws.length) (h2 : l2 = bs.length) (s1 : SlI w a1 ws) (s2 : SlB w a2 bs) (hl1 : ws.length ≤ 2000000) (hl2 : bs.length ≤ 2000000) (hb : okR 23 pl nn wa ws l1 l2 = true) :
    Calls Try.prog 40 #[rq 23 pl nn wa a1 a2 l1 l2 c1 c2] w fun e w' => e = .returned (spcV true 23 pl nn l1 l2) ∧ Below w.heap.size w w' := by
  have B0 := bel_alloc w (.cells #[.int .i64 23, .int .i64 pl, .int .i64 nn, .slice a1 l1 c1, .slice a2 l2 c2, .int .i64 wa] 28)
  have X0 := Blk.new w #[.int .i64 23, .int .i64 pl, .int .i64 nn, .slice a1 l1 c1, .slice a2 l2 c2, .int .i64 wa] 28
  have H1 : Hid (l1 = ws.length ∧ l2 = bs.length) := ⟨h1, h2⟩
  have S1 : Hid (SlI w a1 ws ∧ SlB w a2 bs) := ⟨s1, s2⟩
  obtain ⟨x0, x1, x2, x3, x4, x5⟩ := X0.six
  clear h1 h2 s1 s2
  go_enter Try.func40, Try.ntmps40
  go_wp2_with fail
  refine (specReqOk_q 23 pl nn wa a1 a2 l1 l2 c1 c2 ws bs _ H1.out.1 H1.out.2 (S1.out.1.below B0) (S1.out.2.below B0) hl1 hl2).mono ?_
  rintro e w1 ⟨rfl, b'⟩
  rw [hb]
  have B1 := bel_next B0 b'
  obtain ⟨y0, y1, y2, y3, y4, y5⟩ := (X0.below b').six
  clear X0 x0 x1 x2 x3 x4 x5
  go_wp2
  go_quiet (fail)
  go_wp2
  refine bodyPost_ret (v := .tuple #[.int .i64 2, .int .i64 pl, .int .i64 nn]) (by simp [results, Try.results40, go_sem]) rfl ?_
  exact ⟨rfl, bel_next B1 (drew_refl _ _)⟩

theorem specSpaces_q (kd pl nn wa : Int) (a1 a2 : Option Addr) (l1 l2 c1 c2 : Nat) (ws : List Int) (bs : List Bool) (w : World) (h1 : l1 = ws.length) (h2 : l2 = bs.length) (s1 : SlI w a1 ws) (s2 : SlB w a2 bs) (hl1 : ws.length ≤ 2000000) (hl2 : bs.length ≤ 2000000) :
    Calls Try.prog 40 #[rq kd pl nn wa a1 a2 l1 l2 c1 c2] w fun e w' => e = .returned (spcV (okR kd pl nn wa ws l1 l2) kd pl nn l1 l2) ∧ Below w.heap.size w w' := by
  cases hb : okR kd pl nn wa ws l1 l2
  · exact specSpaces_no kd pl nn wa a1 a2 l1 l2 c1 c2 ws bs w h1 h2 s1 s2 hl1 hl2 hb
  · obtain rfl | rfl | rfl | rfl | rfl | rfl | rfl | rfl | rfl | rfl := okR_kind hb
    · exact specSpaces_1 pl nn wa a1 a2 l1 l2 c1 c2 ws bs w h1 h2 s1 s2 hl1 hl2 hb
    · exact specSpaces_2 pl nn wa a1 a2 l1 l2 c1 c2 ws bs w h1 h2 s1 s2 hl1 hl2 hb
    · exact specSpaces_3 pl nn wa a1 a2 l1 l2 c1 c2 ws bs w h1 h2 s1 s2 hl1 hl2 hb
    · exact specSpaces_4 pl nn wa a1 a2 l1 l2 c1 c2 ws bs w h1 h2 s1 s2 hl1 hl2 hb
    · exact specSpaces_5 pl nn wa a1 a2 l1 l2 c1 c2 ws bs w h1 h2 s1 s2 hl1 hl2 hb
    · exact specSpaces_6 pl nn wa a1 a2 l1 l2 c1 c2 ws bs w h1 h2 s1 s2 hl1 hl2 hb
    · exact specSpaces_15 pl nn wa a1 a2 l1 l2 c1 c2 ws bs w h1 h2 s1 s2 hl1 hl2 hb
    · exact specSpaces_16 pl nn wa a1 a2 l1 l2 c1 c2 ws bs w h1 h2 s1 s2 hl1 hl2 hb
    · exact specSpaces_22 pl nn wa a1 a2 l1 l2 c1 c2 ws bs w h1 h2 s1 s2 hl1 hl2 hb
    · exact specSpaces_23 pl nn wa a1 a2 l1 l2 c1 c2 ws bs w h1 h2 s1 s2 hl1 hl2 hb

set_option maxRecDepth 20000 in
set_option maxHeartbeats 2000000 in
theorem placesOf_1 (pl nn : Int) (w : World) : Calls Try.prog 43 #[.iface 116 (.agg #[.int .i64 pl, .int .i64 nn])] w fun e w' => e = .returned (.tuple #[.int .i64 0, .int .i64 pl, .int .i64 nn]) ∧ Below w.heap.size w w' := by
  have B0 := bel_alloc w (.cells #[.int .i64 pl, .int .i64 nn] 116)
  have t1 := ta_1_1
  go_enter Try.func43, Try.ntmps43
  go_wp2
  go_quiet (fail)
  go_wp2
  refine bodyPost_ret (v := .tuple #[.int .i64 0, .int .i64 pl, .int .i64 nn]) (by simp [results, Try.results43, go_sem]) rfl ?_
  exact ⟨rfl, bel_next B0 (drew_refl _ _)⟩

set_option maxRecDepth 20000 in
set_option maxHeartbeats 2000000 in
theorem placesOf_2 (pl nn : Int) (w : World) : Calls Try.prog 43 #[.iface 117 (.agg #[.int .i64 pl, .int .i64 nn])] w fun e w' => e = .returned (.tuple #[.int .i64 1, .int .i64 pl, .int .i64 nn]) ∧ Below w.heap.size w w' := by
  have B0 := bel_alloc w (.cells #[.int .i64 pl, .int .i64 nn] 117)
  have t1 := ta_2_1
  have t2 := ta_2_2
  go_enter Try.func43, Try.ntmps43
  go_wp2
  go_quiet (fail)
  go_wp2
  refine bodyPost_ret (v := .tuple #[.int .i64 1, .int .i64 pl, .int .i64 nn]) (by simp [results, Try.results43, go_sem]) rfl ?_
  exact ⟨rfl, bel_next B0 (drew_refl _ _)⟩

set_option maxRecDepth 20000 in
set_option maxHeartbeats 2000000 in
theorem placesOf_3 (pl nn : Int) (w : World) : Calls Try.prog 43 #[.iface 118 (.agg #[.int .i64 pl, .int .i64 nn])] w fun e w' => e = .returned (.tuple #[.int .i64 2, .int .i64 pl, .int .i64 nn]) ∧ Below w.heap.size w w' := by
  have B0 := bel_alloc w (.cells #[.int .i64 pl, .int .i64 nn] 118)
  have t1 := ta_3_1
  have t2 := ta_3_2
  have t3 := ta_3_3
  go_enter Try.func43, Try.ntmps43
  go_wp2
  go_quiet (fail)
  go_wp2
  refine bodyPost_ret (v := .tuple #[.int .i64 2, .int .i64 pl, .int .i64 nn]) (by simp [results, Try.results43, go_sem]) rfl ?_
  exact ⟨rfl, bel_next B0 (drew_refl _ _)⟩

set_option maxRecDepth 20000 in
set_option maxHeartbeats 2000000 in
theorem placesOf_4 (pl nn : Int) (w : World) : Calls Try.prog 43 #[.iface 119 (.agg #[.int .i64 pl, .int .i64 nn])] w fun e w' => e = .returned (.tuple #[.int .i64 3, .int .i64 pl, .int .i64 nn]) ∧ Below w.heap.size w w' := by
  have B0 := bel_alloc w (.cells #[.int .i64 pl, .int .i64 nn] 119)
  have t1 := ta_4_1
  have t2 := ta_4_2
  have t3 := ta_4_3
  have t4 := ta_4_4
  go_enter Try.func43, Try.ntmps43
  go_wp2
  go_quiet (fail)
  go_wp2
  refine bodyPost_ret (v := .tuple #[.int .i64 3, .int .i64 pl, .int .i64 nn]) (by simp [results, Try.results43, go_sem]) rfl ?_
  exact ⟨rfl, bel_next B0 (drew_refl _ _)⟩

set_option maxRecDepth 20000 in
set_option maxHeartbeats 2000000 in
theorem placesOf_5 (pl : Int) (x : Bool) (w : World) : Calls Try.prog 43 #[.iface 121 (.agg #[.int .i64 pl, .bool x])] w fun e w' => e = .returned (.tuple #[.int .i64 0, .int .i64 pl, .int .i64 1]) ∧ Below w.heap.size w w' := by
  have B0 := bel_alloc w (.cells #[.int .i64 pl, .bool x] 121)
  have t1 := ta_5_1
  have t2 := ta_5_2
  have t3 := ta_5_3
  have t4 := ta_5_4
  have t5 := ta_5_5
  go_enter Try.func43, Try.ntmps43
  go_wp2
  go_quiet (fail)
  go_wp2
  refine bodyPost_ret (v := .tuple #[.int .i64 0, .int .i64 pl, .int .i64 1]) (by simp [results, Try.results43, go_sem]) rfl ?_
  exact ⟨rfl, bel_next B0 (drew_refl _ _)⟩

set_option maxRecDepth 20000 in
set_option maxHeartbeats 2000000 in
theorem placesOf_6 (pl x : Int) (w : World) : Calls Try.prog 43 #[.iface 123 (.agg #[.int .i64 pl, .int .i64 x])] w fun e w' => e = .returned (.tuple #[.int .i64 2, .int .i64 pl, .int .i64 1]) ∧ Below w.heap.size w w' := by
  have B0 := bel_alloc w (.cells #[.int .i64 pl, .int .i64 x] 123)
  have t1 := ta_6_1
  have t2 := ta_6_2
  have t3 := ta_6_3
  have t4 := ta_6_4
  have t5 := ta_6_5
  have t6 := ta_6_6
  go_enter Try.func43, Try.ntmps43
  go_wp2
  go_quiet (fail)
  go_wp2
  refine bodyPost_ret (v := .tuple #[.int .i64 2, .int .i64 pl, .int .i64 1]) (by simp [results, Try.results43, go_sem]) rfl ?_
  exact ⟨rfl, bel_next B0 (drew_refl _ _)⟩

set_option maxRecDepth 20000 in
set_option maxHeartbeats 2000000 in
theorem placesOf_15 (pl : Int) (a2 : Option Addr) (l2 c2 : Nat) (w : World) : Calls Try.prog 43 #[.iface 125 (.agg #[.int .i64 pl, .slice a2 l2 c2])] w fun e w' => e = .returned (.tuple #[.int .i64 0, .int .i64 pl, .int .i64 (l2 : Int)]) ∧ Below w.heap.size w w' := by
  have B0 := bel_alloc w (.cells #[.int .i64 pl, .slice a2 l2 c2] 125)
  have t1 := ta_15_1
  have t2 := ta_15_2
  have t3 := ta_15_3
  have t4 := ta_15_4
  have t5 := ta_15_5
  have t6 := ta_15_6
  have t15 := ta_15_15
  go_enter Try.func43, Try.ntmps43
  go_wp2
  go_quiet (fail)
  go_wp2
  refine bodyPost_ret (v := .tuple #[.int .i64 0, .int .i64 pl, .int .i64 (l2 : Int)]) (by simp [results, Try.results43, go_sem]) rfl ?_
  exact ⟨rfl, bel_next B0 (drew_refl _ _)⟩

set_option maxRecDepth 20000 in
set_option maxHeartbeats 2000000 in
theorem placesOf_16 (pl : Int) (a1 : Option Addr) (l1 c1 : Nat) (w : World) : Calls Try.prog 43 #[.iface 127 (.agg #[.int .i64 pl, .slice a1 l1 c1])] w fun e w' => e = .returned (.tuple #[.int .i64 2, .int .i64 pl, .int .i64 (l1 : Int)]) ∧ Below w.heap.size w w' := by
  have B0 := bel_alloc w (.cells #[.int .i64 pl, .slice a1 l1 c1] 127)
  have t1 := ta_16_1
  have t2 := ta_16_2
  have t3 := ta_16_3
  have t4 := ta_16_4
  have t5 := ta_16_5
  have t6 := ta_16_6
  have t15 := ta_16_15
  have t16 := ta_16_16
  go_enter Try.func43, Try.ntmps43
  go_wp2
  go_quiet (fail)
  go_wp2
  refine bodyPost_ret (v := .tuple #[.int .i64 2, .int .i64 pl, .int .i64 (l1 : Int)]) (by simp [results, Try.results43, go_sem]) rfl ?_
  exact ⟨rfl, bel_next B0 (drew_refl _ _)⟩

set_option maxRecDepth 20000 in
set_option maxHeartbeats 2000000 in
theorem placesOf_22 (pl x y : Int) (w : World) : Calls Try.prog 43 #[.iface 129 (.agg #[.int .i64 pl, .int .i64 x, .int .i64 y])] w fun e w' => e = .returned (.tuple #[.int .i64 2, .int .i64 pl, .int .i64 1]) ∧ Below w.heap.size w w' := by
  have B0 := bel_alloc w (.cells #[.int .i64 pl, .int .i64 x, .int .i64 y] 129)
  have t1 := ta_22_1
  have t2 := ta_22_2
  have t3 := ta_22_3
  have t4 := ta_22_4
  have t5 := ta_22_5
  have t6 := ta_22_6
  have t15 := ta_22_15
  have t16 := ta_22_16
  have t22 := ta_22_22
  go_enter Try.func43, Try.ntmps43
  go_wp2
  go_quiet (fail)
  go_wp2
  refine bodyPost_ret (v := .tuple #[.int .i64 2, .int .i64 pl, .int .i64 1]) (by simp [results, Try.results43, go_sem]) rfl ?_
  exact ⟨rfl, bel_next B0 (drew_refl _ _)⟩

set_option maxRecDepth 20000 in
set_option maxHeartbeats 2000000 in
theorem placesOf_23 (pl nn wa : Int) (a1 : Option Addr) (l1 c1 : Nat) (w : World) : Calls Try.prog 43 #[.iface 131 (.agg #[.int .i64 pl, .int .i64 nn, .int .i64 wa, .slice a1 l1 c1])] w fun e w' => e = .returned (.tuple #[.int .i64 2, .int .i64 pl, .int .i64 nn]) ∧ Below w.heap.size w w' := by
  have B0 := bel_alloc w (.cells #[.int .i64 pl, .int .i64 nn, .int .i64 wa, .slice a1 l1 c1] 131)
  have t1 := ta_23_1
  have t2 := ta_23_2
  have t3 := ta_23_3
  have t4 := ta_23_4
  have t5 := ta_23_5
  have t6 := ta_23_6
  have t15 := ta_23_15
  have t16 := ta_23_16
  have t22 := ta_23_22
  have t23 := ta_23_23
  go_enter Try.func43, Try.ntmps43
  go_wp2
  go_quiet (fail)
  go_wp2
  refine bodyPost_ret (v := .tuple #[.int .i64 2, .int .i64 pl, .int .i64 nn]) (by simp [results, Try.results43, go_sem]) rfl ?_
  exact ⟨rfl, bel_next B0 (drew_refl _ _)⟩

set_option maxRecDepth 20000 in
set_option maxHeartbeats 2000000 in
theorem placesOf_n (w : World) : Calls Try.prog 43 #[.nilIface] w fun e w' => e = .returned (.tuple #[.int .i64 (-1), .int .i64 0, .int .i64 0]) ∧ Below w.heap.size w w' := by
  have t1 := ta_n_1
  have t2 := ta_n_2
  have t3 := ta_n_3
  have t4 := ta_n_4
  have t5 := ta_n_5
  have t6 := ta_n_6
  have t15 := ta_n_15
  have t16 := ta_n_16
  have t22 := ta_n_22
  have t23 := ta_n_23
  go_enter Try.func43, Try.ntmps43
  go_wp2
  refine bodyPost_ret (v := .tuple #[.int .i64 (-1), .int .i64 0, .int .i64 0]) (by simp [results, Try.results43, go_sem]) rfl ?_
  exact ⟨rfl, Below.refl _ _⟩

set_option maxHeartbeats 2000000 in
theorem implSpaces_if (kd pl nn wa : Int) (a1 a2 : Option Addr) (l1 l2 c1 c2 : Nat) (w : World) (q : Value) (i j k : Int)
    (hq : ∀ u, Below w.heap.size w u → Calls Try.prog 44 #[rq kd pl nn wa a1 a2 l1 l2 c1 c2] u fun e u' => e = .returned q ∧ Below u.heap.size u u')
    (hp : ∀ u, Calls Try.prog 43 #[q] u fun e u' => e = .returned (.tuple #[.int .i64 i, .int .i64 j, .int .i64 k]) ∧ Below u.heap.size u u') :
    Calls Try.prog 10 #[rq kd pl nn wa a1 a2 l1 l2 c1 c2] w fun e w' => e = .returned (.tuple #[.int .i64 i, .int .i64 j, .int .i64 k]) ∧ Below w.heap.size w w' := by
  have B0 := bel_alloc w (.cells #[.int .i64 kd, .int .i64 pl, .int .i64 nn, .slice a1 l1 c1, .slice a2 l2 c2, .int .i64 wa] 28)
  go_enter Try.func10, Try.ntmps10
  go_wp2_with fail
  refine (hq _ B0).mono ?_
  rintro e w1 ⟨rfl, b'⟩
  have B1 := bel_next B0 b'
  clear hq
  go_wp2_with fail
  refine (hp _).mono ?_
  rintro e w2 ⟨rfl, b2'⟩
  have B2 := bel_next B1 b2'
  clear hp
  go_wp2
  refine bodyPost_ret (v := .tuple #[.int .i64 i, .int .i64 j, .int .i64 k]) (by simp [results, Try.results10, go_sem]) rfl ?_
  exact ⟨rfl, B2⟩

theorem implSpaces_q (kd pl nn wa : Int) (a1 a2 : Option Addr) (l1 l2 c1 c2 : Nat) (ws : List Int) (bs : List Bool) (w : World) (h1 : l1 = ws.length) (h2 : l2 = bs.length) (s1 : SlI w a1 ws) (s2 : SlB w a2 bs) (hl1 : ws.length ≤ 2000000) (hl2 : bs.length ≤ 2000000) :
    Calls Try.prog 10 #[rq kd pl nn wa a1 a2 l1 l2 c1 c2] w fun e w' => e = .returned (spcV (okR kd pl nn wa ws l1 l2) kd pl nn l1 l2) ∧ Below w.heap.size w w' := by
  by_cases hk : kd = 1 ∨ kd = 2 ∨ kd = 3 ∨ kd = 4 ∨ kd = 5 ∨ kd = 6 ∨ kd = 15 ∨ kd = 16 ∨ kd = 22 ∨ kd = 23
  · cases hb : okR kd pl nn wa ws l1 l2
    · obtain rfl | rfl | rfl | rfl | rfl | rfl | rfl | rfl | rfl | rfl := hk
      · exact implSpaces_if 1 pl nn wa a1 a2 l1 l2 c1 c2 w .nilIface (-1) 0 0 (fun u hu => rightQuestion_1 pl nn wa a1 a2 l1 l2 c1 c2 ws bs u h1 h2 (s1.below hu) (s2.below hu) hl1 hl2 _ hb) (fun u => placesOf_n u)
      · exact implSpaces_if 2 pl nn wa a1 a2 l1 l2 c1 c2 w .nilIface (-1) 0 0 (fun u hu => rightQuestion_2 pl nn wa a1 a2 l1 l2 c1 c2 ws bs u h1 h2 (s1.below hu) (s2.below hu) hl1 hl2 _ hb) (fun u => placesOf_n u)
      · exact implSpaces_if 3 pl nn wa a1 a2 l1 l2 c1 c2 w .nilIface (-1) 0 0 (fun u hu => rightQuestion_3 pl nn wa a1 a2 l1 l2 c1 c2 ws bs u h1 h2 (s1.below hu) (s2.below hu) hl1 hl2 _ hb) (fun u => placesOf_n u)
      · exact implSpaces_if 4 pl nn wa a1 a2 l1 l2 c1 c2 w .nilIface (-1) 0 0 (fun u hu => rightQuestion_4 pl nn wa a1 a2 l1 l2 c1 c2 ws bs u h1 h2 (s1.below hu) (s2.below hu) hl1 hl2 _ hb) (fun u => placesOf_n u)
      · exact implSpaces_if 5 pl nn wa a1 a2 l1 l2 c1 c2 w .nilIface (-1) 0 0 (fun u hu => rightQuestion_5 pl nn wa a1 a2 l1 l2 c1 c2 ws bs u h1 h2 (s1.below hu) (s2.below hu) hl1 hl2 _ hb) (fun u => placesOf_n u)
      · exact implSpaces_if 6 pl nn wa a1 a2 l1 l2 c1 c2 w .nilIface (-1) 0 0 (fun u hu => rightQuestion_6 pl nn wa a1 a2 l1 l2 c1 c2 ws bs u h1 h2 (s1.below hu) (s2.below hu) hl1 hl2 _ hb) (fun u => placesOf_n u)
      · exact implSpaces_if 15 pl nn wa a1 a2 l1 l2 c1 c2 w .nilIface (-1) 0 0 (fun u hu => rightQuestion_15 pl nn wa a1 a2 l1 l2 c1 c2 ws bs u h1 h2 (s1.below hu) (s2.below hu) hl1 hl2 _ hb) (fun u => placesOf_n u)
      · exact implSpaces_if 16 pl nn wa a1 a2 l1 l2 c1 c2 w .nilIface (-1) 0 0 (fun u hu => rightQuestion_16 pl nn wa a1 a2 l1 l2 c1 c2 ws bs u h1 h2 (s1.below hu) (s2.below hu) hl1 hl2 _ hb) (fun u => placesOf_n u)
      · exact implSpaces_if 22 pl nn wa a1 a2 l1 l2 c1 c2 w .nilIface (-1) 0 0 (fun u hu => rightQuestion_22 pl nn wa a1 a2 l1 l2 c1 c2 ws bs u h1 h2 (s1.below hu) (s2.below hu) hl1 hl2 _ hb) (fun u => placesOf_n u)
      · exact implSpaces_if 23 pl nn wa a1 a2 l1 l2 c1 c2 w .nilIface (-1) 0 0 (fun u hu => rightQuestion_23 pl nn wa a1 a2 l1 l2 c1 c2 ws bs u h1 h2 (s1.below hu) (s2.below hu) hl1 hl2 _ hb) (fun u => placesOf_n u)
    · obtain rfl | rfl | rfl | rfl | rfl | rfl | rfl | rfl | rfl | rfl := hk
      · exact implSpaces_if 1 pl nn wa a1 a2 l1 l2 c1 c2 w _ 0 pl nn (fun u hu => rightQuestion_1 pl nn wa a1 a2 l1 l2 c1 c2 ws bs u h1 h2 (s1.below hu) (s2.below hu) hl1 hl2 _ hb) (fun u => placesOf_1 _ _ u)
      · exact implSpaces_if 2 pl nn wa a1 a2 l1 l2 c1 c2 w _ 1 pl nn (fun u hu => rightQuestion_2 pl nn wa a1 a2 l1 l2 c1 c2 ws bs u h1 h2 (s1.below hu) (s2.below hu) hl1 hl2 _ hb) (fun u => placesOf_2 _ _ u)
      · exact implSpaces_if 3 pl nn wa a1 a2 l1 l2 c1 c2 w _ 2 pl nn (fun u hu => rightQuestion_3 pl nn wa a1 a2 l1 l2 c1 c2 ws bs u h1 h2 (s1.below hu) (s2.below hu) hl1 hl2 _ hb) (fun u => placesOf_3 _ _ u)
      · exact implSpaces_if 4 pl nn wa a1 a2 l1 l2 c1 c2 w _ 3 pl nn (fun u hu => rightQuestion_4 pl nn wa a1 a2 l1 l2 c1 c2 ws bs u h1 h2 (s1.below hu) (s2.below hu) hl1 hl2 _ hb) (fun u => placesOf_4 _ _ u)
      · have e1 : l2 = 1 := by rw [okI_5 _ _ _ _ _ _ h1] at hb; simp at hb; omega
        have e2 : spcV true 5 pl nn l1 l2 = .tuple #[.int .i64 0, .int .i64 pl, .int .i64 1] := by rw [e1]; rfl
        rw [e2]
        exact implSpaces_if 5 pl nn wa a1 a2 l1 l2 c1 c2 w _ 0 pl 1 (fun u hu => rightQuestion_5 pl nn wa a1 a2 l1 l2 c1 c2 ws bs u h1 h2 (s1.below hu) (s2.below hu) hl1 hl2 _ hb) (fun u => placesOf_5 _ _ u)
      · exact implSpaces_if 6 pl nn wa a1 a2 l1 l2 c1 c2 w _ 2 pl 1 (fun u hu => rightQuestion_6 pl nn wa a1 a2 l1 l2 c1 c2 ws bs u h1 h2 (s1.below hu) (s2.below hu) hl1 hl2 _ hb) (fun u => placesOf_6 _ _ u)
      · exact implSpaces_if 15 pl nn wa a1 a2 l1 l2 c1 c2 w _ 0 pl (l2 : Int) (fun u hu => rightQuestion_15 pl nn wa a1 a2 l1 l2 c1 c2 ws bs u h1 h2 (s1.below hu) (s2.below hu) hl1 hl2 _ hb) (fun u => placesOf_15 _ _ _ _ u)
      · exact implSpaces_if 16 pl nn wa a1 a2 l1 l2 c1 c2 w _ 2 pl (l1 : Int) (fun u hu => rightQuestion_16 pl nn wa a1 a2 l1 l2 c1 c2 ws bs u h1 h2 (s1.below hu) (s2.below hu) hl1 hl2 _ hb) (fun u => placesOf_16 _ _ _ _ u)
      · exact implSpaces_if 22 pl nn wa a1 a2 l1 l2 c1 c2 w _ 2 pl 1 (fun u hu => rightQuestion_22 pl nn wa a1 a2 l1 l2 c1 c2 ws bs u h1 h2 (s1.below hu) (s2.below hu) hl1 hl2 _ hb) (fun u => placesOf_22 _ _ _ u)
      · exact implSpaces_if 23 pl nn wa a1 a2 l1 l2 c1 c2 w _ 2 pl nn (fun u hu => rightQuestion_23 pl nn wa a1 a2 l1 l2 c1 c2 ws bs u h1 h2 (s1.below hu) (s2.below hu) hl1 hl2 _ hb) (fun u => placesOf_23 _ _ _ _ _ _ u)
  · have e : okR kd pl nn wa ws l1 l2 = false := by
      cases e : okR kd pl nn wa ws l1 l2
      · rfl
      · exact absurd (okR_kind e) hk
    rw [e]
    exact implSpaces_if kd pl nn wa a1 a2 l1 l2 c1 c2 w .nilIface (-1) 0 0 (fun u hu => rightQuestion_none kd pl nn wa a1 a2 l1 l2 c1 c2 ws bs u h1 h2 (s1.below hu) (s2.below hu) hl1 hl2 (by omega) (by omega) (by omega) (by omega) (by omega) (by omega) (by omega) (by omega) (by omega) (by omega)) (fun u => placesOf_n u)

theorem spcV_form (b : Bool) (kd pl nn : Int) (l1 l2 : Nat) : ∃ i j k, spcV b kd pl nn l1 l2 = .tuple #[.int .i64 i, .int .i64 j, .int .i64 k] := by
  cases b
  · exact ⟨_, _, _, rfl⟩
  · exact ⟨_, _, _, rfl⟩

theorem specSpaces_t (kd pl nn wa : Int) (a1 a2 : Option Addr) (l1 l2 c1 c2 : Nat) (ws : List Int) (bs : List Bool) (w : World) (h1 : l1 = ws.length) (h2 : l2 = bs.length) (s1 : SlI w a1 ws) (s2 : SlB w a2 bs) (hl1 : ws.length ≤ 2000000) (hl2 : bs.length ≤ 2000000) (i j k : Int) (hv : spcV (okR kd pl nn wa ws l1 l2) kd pl nn l1 l2 = .tuple #[.int .i64 i, .int .i64 j, .int .i64 k]) :
    Calls Try.prog 40 #[rq kd pl nn wa a1 a2 l1 l2 c1 c2] w fun e w' => e = .returned (.tuple #[.int .i64 i, .int .i64 j, .int .i64 k]) ∧ Below w.heap.size w w' := by
  rw [← hv]; exact specSpaces_q kd pl nn wa a1 a2 l1 l2 c1 c2 ws bs w h1 h2 s1 s2 hl1 hl2

theorem implSpaces_t (kd pl nn wa : Int) (a1 a2 : Option Addr) (l1 l2 c1 c2 : Nat) (ws : List Int) (bs : List Bool) (w : World) (h1 : l1 = ws.length) (h2 : l2 = bs.length) (s1 : SlI w a1 ws) (s2 : SlB w a2 bs) (hl1 : ws.length ≤ 2000000) (hl2 : bs.length ≤ 2000000) (i j k : Int) (hv : spcV (okR kd pl nn wa ws l1 l2) kd pl nn l1 l2 = .tuple #[.int .i64 i, .int .i64 j, .int .i64 k]) :
    Calls Try.prog 10 #[rq kd pl nn wa a1 a2 l1 l2 c1 c2] w fun e w' => e = .returned (.tuple #[.int .i64 i, .int .i64 j, .int .i64 k]) ∧ Below w.heap.size w w' := by
  rw [← hv]; exact implSpaces_q kd pl nn wa a1 a2 l1 l2 c1 c2 ws bs w h1 h2 s1 s2 hl1 hl2

end Go.Proofs.Ytaaokbmfpfmfgaa
