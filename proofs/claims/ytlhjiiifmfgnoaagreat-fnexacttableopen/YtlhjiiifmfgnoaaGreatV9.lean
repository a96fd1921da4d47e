/- Texts that the proof needs, joined: Q2 Q3. -/
import Derived.Test.YtlhjiiifmfgnoaaGreatV5
set_option linter.unusedVariables false
set_option maxHeartbeats 4000000
set_option maxRecDepth 20000
namespace Go.Proofs.YtlhjiiifmfgnoaaGreat
open Go.RowKit
def okK (kd pl nn wa : Int) (l1 l2 : Nat) : Bool :=
 if kd = 1 \/ kd = 2 then zrB true false false false nn l1 l2 wa && (inB nn 1 2000 && fitB pl nn)
 else if kd = 3 \/ kd = 4 then zrB true false false false nn l1 l2 wa && (inB nn 1 125 && fitB pl nn)
 else if kd = 5 then zrB false false true false nn l1 l2 wa && decide (l2 = 1)
 else if kd = 6 then zrB false true false false nn l1 l2 wa && decide (l1 = 1)
 else if kd = 15 then zrB false false true false nn l1 l2 wa && (inB l2 1 1968 && fitB pl l2)
 else if kd = 16 then zrB false true false false nn l1 l2 wa && (inB l1 1 123 && fitB pl l1)
 else if kd = 22 then zrB false true false false nn l1 l2 wa && decide (l1 = 2)
 else if kd = 23 then zrB true true false true nn l1 l2 wa && (inB nn 1 125 && (fitB pl nn && (inB l1 1 121 && fitB wa l1)))
 else false
def okR (kd pl nn wa : Int) (ws : List Int) (l1 l2 : Nat) : Bool := allW ws && (inB pl 0 65535 && okK kd pl nn wa l1 l2)
theorem inB_yes {x lo hi : Int} (h : inB x lo hi = true) : lo <= x /\ x <= hi := by unfold inB at h; exact of_decide_eq_true h
theorem specReqOk_1 (pl nn wa : Int) (a1 a2 : Option Addr) (l1 l2 c1 c2 : Nat) (ws : List Int) (w : World) (h1 : l1 = ws.length) (s1 : SlI w a1 ws) (hl1 : ws.length <= 2000000) (hl2 : l2 <= 20000000) (hW : allW ws = true) (hP : inB pl 0 65535 = true) (b : Bool) (hb : okR 1 pl nn wa ws l1 l2 = b) :
 Calls Tryz.prog 48 #[rq 1 pl nn wa a1 a2 l1 l2 c1 c2] w fun e w' => e = .returned (.bool b) /\ Below w.heap.size w w' := by
 have H1 : Hid (l1 = ws.length) := h1
 have B0 := bel_alloc w (.cells #[.int .i64 1, .int .i64 pl, .int .i64 nn, .slice a1 l1 c1, .slice a2 l2 c2, .int .i64 wa] 39)
 have X0 := Blk.new w #[.int .i64 1, .int .i64 pl, .int .i64 nn, .slice a1 l1 c1, .slice a2 l2 c2, .int .i64 wa] 39
 have S1 : Hid (SlI (w.alloc (.cells #[.int .i64 1, .int .i64 pl, .int .i64 nn, .slice a1 l1 c1, .slice a2 l2 c2, .int .i64 wa] 39)) a1 ws) := s1.below B0
 clear h1 s1
 cases hZ : zrB true false false false nn l1 l2 wa
 ·skip
  have e : okR 1 pl nn wa ws l1 l2 = false := by simp [okR, okK, hW, hP, hZ]
  rw [e] at hb
  subst hb
  clear e
  go_enter Tryz.func48, Tryz.ntmps48
  go_wp2_with (first
   | (go_at_call 72; refine (l3Words_any _ _ _ ws _ H1.out S1.out hl1 _ hW).mono ?_; rintro e wx ⟨rfl, rfl⟩)
   | (go_at_call 47; refine (l1In_any _ _ _ _ _ (by first | exact hP)).mono ?_; rintro e wx ⟨rfl, rfl⟩)
   | (go_at_call 73; refine (l3Zero_tfff _ _ _ _ _ _ _ _ _ _ _ (by have := H1.out; omega) hl2 _ hZ).mono ?_; rintro e w1 ⟨rfl, b'⟩; have B1 := bel_next B0 b'; obtain ⟨y0, y1, y2, y3, y4, y5⟩ := (X0.below b').six; clear B0))
  go_ret
  exact ⟨rfl, B1⟩
 skip
 cases hN : inB nn 1 2000
 ·skip
  have e : okR 1 pl nn wa ws l1 l2 = false := by simp [okR, okK, hW, hP, hZ, hN]
  rw [e] at hb
  subst hb
  clear e
  go_enter Tryz.func48, Tryz.ntmps48
  go_wp2_with (first
   | (go_at_call 72; refine (l3Words_any _ _ _ ws _ H1.out S1.out hl1 _ hW).mono ?_; rintro e wx ⟨rfl, rfl⟩)
   | (go_at_call 47; refine (l1In_any _ _ _ _ _ (by first | exact hP | exact hN)).mono ?_; rintro e wx ⟨rfl, rfl⟩)
   | (go_at_call 73; refine (l3Zero_tfff _ _ _ _ _ _ _ _ _ _ _ (by have := H1.out; omega) hl2 _ hZ).mono ?_; rintro e w1 ⟨rfl, b'⟩; have B1 := bel_next B0 b'; obtain ⟨y0, y1, y2, y3, y4, y5⟩ := (X0.below b').six; clear B0))
  go_ret
  exact ⟨rfl, B1⟩
 skip
 cases hF : fitB pl nn
 ·skip
  have e : okR 1 pl nn wa ws l1 l2 = false := by simp [okR, okK, hW, hP, hZ, hN, hF]
  rw [e] at hb
  subst hb
  clear e
  have qhN := inB_yes hN
  go_enter Tryz.func48, Tryz.ntmps48
  go_wp2_with (first
   | (go_at_call 72; refine (l3Words_any _ _ _ ws _ H1.out S1.out hl1 _ hW).mono ?_; rintro e wx ⟨rfl, rfl⟩)
   | (go_at_call 47; refine (l1In_any _ _ _ _ _ (by first | exact hP | exact hN)).mono ?_; rintro e wx ⟨rfl, rfl⟩)
   | (go_at_call 73; refine (l3Zero_tfff _ _ _ _ _ _ _ _ _ _ _ (by have := H1.out; omega) hl2 _ hZ).mono ?_; rintro e w1 ⟨rfl, b'⟩; have B1 := bel_next B0 b'; obtain ⟨y0, y1, y2, y3, y4, y5⟩ := (X0.below b').six; clear B0)
   | (go_at_call 74; refine (l3Fits_any _ _ _ (by omega) (by omega) _ (by first | exact hF)).mono ?_; rintro e wx ⟨rfl, rfl⟩))
  go_ret
  exact ⟨rfl, B1⟩
 skip
 have e : okR 1 pl nn wa ws l1 l2 = true := by simp [okR, okK, hW, hP, hZ, hN, hF]
 rw [e] at hb
 subst hb
 clear e
 have qhN := inB_yes hN
 go_enter Tryz.func48, Tryz.ntmps48
 go_wp2_with (first
  | (go_at_call 72; refine (l3Words_any _ _ _ ws _ H1.out S1.out hl1 _ hW).mono ?_; rintro e wx ⟨rfl, rfl⟩)
  | (go_at_call 47; refine (l1In_any _ _ _ _ _ (by first | exact hP | exact hN)).mono ?_; rintro e wx ⟨rfl, rfl⟩)
  | (go_at_call 73; refine (l3Zero_tfff _ _ _ _ _ _ _ _ _ _ _ (by have := H1.out; omega) hl2 _ hZ).mono ?_; rintro e w1 ⟨rfl, b'⟩; have B1 := bel_next B0 b'; obtain ⟨y0, y1, y2, y3, y4, y5⟩ := (X0.below b').six; clear B0)
  | (go_at_call 74; refine (l3Fits_any _ _ _ (by omega) (by omega) _ (by first | exact hF)).mono ?_; rintro e wx ⟨rfl, rfl⟩))
 go_ret
 exact ⟨rfl, B1⟩
theorem specReqOk_2 (pl nn wa : Int) (a1 a2 : Option Addr) (l1 l2 c1 c2 : Nat) (ws : List Int) (w : World) (h1 : l1 = ws.length) (s1 : SlI w a1 ws) (hl1 : ws.length <= 2000000) (hl2 : l2 <= 20000000) (hW : allW ws = true) (hP : inB pl 0 65535 = true) (b : Bool) (hb : okR 2 pl nn wa ws l1 l2 = b) :
 Calls Tryz.prog 48 #[rq 2 pl nn wa a1 a2 l1 l2 c1 c2] w fun e w' => e = .returned (.bool b) /\ Below w.heap.size w w' := by
 have H1 : Hid (l1 = ws.length) := h1
 have B0 := bel_alloc w (.cells #[.int .i64 2, .int .i64 pl, .int .i64 nn, .slice a1 l1 c1, .slice a2 l2 c2, .int .i64 wa] 39)
 have X0 := Blk.new w #[.int .i64 2, .int .i64 pl, .int .i64 nn, .slice a1 l1 c1, .slice a2 l2 c2, .int .i64 wa] 39
 have S1 : Hid (SlI (w.alloc (.cells #[.int .i64 2, .int .i64 pl, .int .i64 nn, .slice a1 l1 c1, .slice a2 l2 c2, .int .i64 wa] 39)) a1 ws) := s1.below B0
 clear h1 s1
 cases hZ : zrB true false false false nn l1 l2 wa
 ·skip
  have e : okR 2 pl nn wa ws l1 l2 = false := by simp [okR, okK, hW, hP, hZ]
  rw [e] at hb
  subst hb
  clear e
  go_enter Tryz.func48, Tryz.ntmps48
  go_wp2_with (first
   | (go_at_call 72; refine (l3Words_any _ _ _ ws _ H1.out S1.out hl1 _ hW).mono ?_; rintro e wx ⟨rfl, rfl⟩)
   | (go_at_call 47; refine (l1In_any _ _ _ _ _ (by first | exact hP)).mono ?_; rintro e wx ⟨rfl, rfl⟩)
   | (go_at_call 73; refine (l3Zero_tfff _ _ _ _ _ _ _ _ _ _ _ (by have := H1.out; omega) hl2 _ hZ).mono ?_; rintro e w1 ⟨rfl, b'⟩; have B1 := bel_next B0 b'; obtain ⟨y0, y1, y2, y3, y4, y5⟩ := (X0.below b').six; clear B0))
  go_ret
  exact ⟨rfl, B1⟩
 skip
 cases hN : inB nn 1 2000
 ·skip
  have e : okR 2 pl nn wa ws l1 l2 = false := by simp [okR, okK, hW, hP, hZ, hN]
  rw [e] at hb
  subst hb
  clear e
  go_enter Tryz.func48, Tryz.ntmps48
  go_wp2_with (first
   | (go_at_call 72; refine (l3Words_any _ _ _ ws _ H1.out S1.out hl1 _ hW).mono ?_; rintro e wx ⟨rfl, rfl⟩)
   | (go_at_call 47; refine (l1In_any _ _ _ _ _ (by first | exact hP | exact hN)).mono ?_; rintro e wx ⟨rfl, rfl⟩)
   | (go_at_call 73; refine (l3Zero_tfff _ _ _ _ _ _ _ _ _ _ _ (by have := H1.out; omega) hl2 _ hZ).mono ?_; rintro e w1 ⟨rfl, b'⟩; have B1 := bel_next B0 b'; obtain ⟨y0, y1, y2, y3, y4, y5⟩ := (X0.below b').six; clear B0))
  go_ret
  exact ⟨rfl, B1⟩
 skip
 cases hF : fitB pl nn
 ·skip
  have e : okR 2 pl nn wa ws l1 l2 = false := by simp [okR, okK, hW, hP, hZ, hN, hF]
  rw [e] at hb
  subst hb
  clear e
  have qhN := inB_yes hN
  go_enter Tryz.func48, Tryz.ntmps48
  go_wp2_with (first
   | (go_at_call 72; refine (l3Words_any _ _ _ ws _ H1.out S1.out hl1 _ hW).mono ?_; rintro e wx ⟨rfl, rfl⟩)
   | (go_at_call 47; refine (l1In_any _ _ _ _ _ (by first | exact hP | exact hN)).mono ?_; rintro e wx ⟨rfl, rfl⟩)
   | (go_at_call 73; refine (l3Zero_tfff _ _ _ _ _ _ _ _ _ _ _ (by have := H1.out; omega) hl2 _ hZ).mono ?_; rintro e w1 ⟨rfl, b'⟩; have B1 := bel_next B0 b'; obtain ⟨y0, y1, y2, y3, y4, y5⟩ := (X0.below b').six; clear B0)
   | (go_at_call 74; refine (l3Fits_any _ _ _ (by omega) (by omega) _ (by first | exact hF)).mono ?_; rintro e wx ⟨rfl, rfl⟩))
  go_ret
  exact ⟨rfl, B1⟩
 skip
 have e : okR 2 pl nn wa ws l1 l2 = true := by simp [okR, okK, hW, hP, hZ, hN, hF]
 rw [e] at hb
 subst hb
 clear e
 have qhN := inB_yes hN
 go_enter Tryz.func48, Tryz.ntmps48
 go_wp2_with (first
  | (go_at_call 72; refine (l3Words_any _ _ _ ws _ H1.out S1.out hl1 _ hW).mono ?_; rintro e wx ⟨rfl, rfl⟩)
  | (go_at_call 47; refine (l1In_any _ _ _ _ _ (by first | exact hP | exact hN)).mono ?_; rintro e wx ⟨rfl, rfl⟩)
  | (go_at_call 73; refine (l3Zero_tfff _ _ _ _ _ _ _ _ _ _ _ (by have := H1.out; omega) hl2 _ hZ).mono ?_; rintro e w1 ⟨rfl, b'⟩; have B1 := bel_next B0 b'; obtain ⟨y0, y1, y2, y3, y4, y5⟩ := (X0.below b').six; clear B0)
  | (go_at_call 74; refine (l3Fits_any _ _ _ (by omega) (by omega) _ (by first | exact hF)).mono ?_; rintro e wx ⟨rfl, rfl⟩))
 go_ret
 exact ⟨rfl, B1⟩
theorem specReqOk_3 (pl nn wa : Int) (a1 a2 : Option Addr) (l1 l2 c1 c2 : Nat) (ws : List Int) (w : World) (h1 : l1 = ws.length) (s1 : SlI w a1 ws) (hl1 : ws.length <= 2000000) (hl2 : l2 <= 20000000) (hW : allW ws = true) (hP : inB pl 0 65535 = true) (b : Bool) (hb : okR 3 pl nn wa ws l1 l2 = b) :
 Calls Tryz.prog 48 #[rq 3 pl nn wa a1 a2 l1 l2 c1 c2] w fun e w' => e = .returned (.bool b) /\ Below w.heap.size w w' := by
 have H1 : Hid (l1 = ws.length) := h1
 have B0 := bel_alloc w (.cells #[.int .i64 3, .int .i64 pl, .int .i64 nn, .slice a1 l1 c1, .slice a2 l2 c2, .int .i64 wa] 39)
 have X0 := Blk.new w #[.int .i64 3, .int .i64 pl, .int .i64 nn, .slice a1 l1 c1, .slice a2 l2 c2, .int .i64 wa] 39
 have S1 : Hid (SlI (w.alloc (.cells #[.int .i64 3, .int .i64 pl, .int .i64 nn, .slice a1 l1 c1, .slice a2 l2 c2, .int .i64 wa] 39)) a1 ws) := s1.below B0
 clear h1 s1
 cases hZ : zrB true false false false nn l1 l2 wa
 ·skip
  have e : okR 3 pl nn wa ws l1 l2 = false := by simp [okR, okK, hW, hP, hZ]
  rw [e] at hb
  subst hb
  clear e
  go_enter Tryz.func48, Tryz.ntmps48
  go_wp2_with (first
   | (go_at_call 72; refine (l3Words_any _ _ _ ws _ H1.out S1.out hl1 _ hW).mono ?_; rintro e wx ⟨rfl, rfl⟩)
   | (go_at_call 47; refine (l1In_any _ _ _ _ _ (by first | exact hP)).mono ?_; rintro e wx ⟨rfl, rfl⟩)
   | (go_at_call 73; refine (l3Zero_tfff _ _ _ _ _ _ _ _ _ _ _ (by have := H1.out; omega) hl2 _ hZ).mono ?_; rintro e w1 ⟨rfl, b'⟩; have B1 := bel_next B0 b'; obtain ⟨y0, y1, y2, y3, y4, y5⟩ := (X0.below b').six; clear B0))
  go_ret
  exact ⟨rfl, B1⟩
 skip
 cases hN : inB nn 1 125
 ·skip
  have e : okR 3 pl nn wa ws l1 l2 = false := by simp [okR, okK, hW, hP, hZ, hN]
  rw [e] at hb
  subst hb
  clear e
  go_enter Tryz.func48, Tryz.ntmps48
  go_wp2_with (first
   | (go_at_call 72; refine (l3Words_any _ _ _ ws _ H1.out S1.out hl1 _ hW).mono ?_; rintro e wx ⟨rfl, rfl⟩)
   | (go_at_call 47; refine (l1In_any _ _ _ _ _ (by first | exact hP | exact hN)).mono ?_; rintro e wx ⟨rfl, rfl⟩)
   | (go_at_call 73; refine (l3Zero_tfff _ _ _ _ _ _ _ _ _ _ _ (by have := H1.out; omega) hl2 _ hZ).mono ?_; rintro e w1 ⟨rfl, b'⟩; have B1 := bel_next B0 b'; obtain ⟨y0, y1, y2, y3, y4, y5⟩ := (X0.below b').six; clear B0))
  go_ret
  exact ⟨rfl, B1⟩
 skip
 cases hF : fitB pl nn
 ·skip
  have e : okR 3 pl nn wa ws l1 l2 = false := by simp [okR, okK, hW, hP, hZ, hN, hF]
  rw [e] at hb
  subst hb
  clear e
  have qhN := inB_yes hN
  go_enter Tryz.func48, Tryz.ntmps48
  go_wp2_with (first
   | (go_at_call 72; refine (l3Words_any _ _ _ ws _ H1.out S1.out hl1 _ hW).mono ?_; rintro e wx ⟨rfl, rfl⟩)
   | (go_at_call 47; refine (l1In_any _ _ _ _ _ (by first | exact hP | exact hN)).mono ?_; rintro e wx ⟨rfl, rfl⟩)
   | (go_at_call 73; refine (l3Zero_tfff _ _ _ _ _ _ _ _ _ _ _ (by have := H1.out; omega) hl2 _ hZ).mono ?_; rintro e w1 ⟨rfl, b'⟩; have B1 := bel_next B0 b'; obtain ⟨y0, y1, y2, y3, y4, y5⟩ := (X0.below b').six; clear B0)
   | (go_at_call 74; refine (l3Fits_any _ _ _ (by omega) (by omega) _ (by first | exact hF)).mono ?_; rintro e wx ⟨rfl, rfl⟩))
  go_ret
  exact ⟨rfl, B1⟩
 skip
 have e : okR 3 pl nn wa ws l1 l2 = true := by simp [okR, okK, hW, hP, hZ, hN, hF]
 rw [e] at hb
 subst hb
 clear e
 have qhN := inB_yes hN
 go_enter Tryz.func48, Tryz.ntmps48
 go_wp2_with (first
  | (go_at_call 72; refine (l3Words_any _ _ _ ws _ H1.out S1.out hl1 _ hW).mono ?_; rintro e wx ⟨rfl, rfl⟩)
  | (go_at_call 47; refine (l1In_any _ _ _ _ _ (by first | exact hP | exact hN)).mono ?_; rintro e wx ⟨rfl, rfl⟩)
  | (go_at_call 73; refine (l3Zero_tfff _ _ _ _ _ _ _ _ _ _ _ (by have := H1.out; omega) hl2 _ hZ).mono ?_; rintro e w1 ⟨rfl, b'⟩; have B1 := bel_next B0 b'; obtain ⟨y0, y1, y2, y3, y4, y5⟩ := (X0.below b').six; clear B0)
  | (go_at_call 74; refine (l3Fits_any _ _ _ (by omega) (by omega) _ (by first | exact hF)).mono ?_; rintro e wx ⟨rfl, rfl⟩))
 go_ret
 exact ⟨rfl, B1⟩
theorem specReqOk_4 (pl nn wa : Int) (a1 a2 : Option Addr) (l1 l2 c1 c2 : Nat) (ws : List Int) (w : World) (h1 : l1 = ws.length) (s1 : SlI w a1 ws) (hl1 : ws.length <= 2000000) (hl2 : l2 <= 20000000) (hW : allW ws = true) (hP : inB pl 0 65535 = true) (b : Bool) (hb : okR 4 pl nn wa ws l1 l2 = b) :
 Calls Tryz.prog 48 #[rq 4 pl nn wa a1 a2 l1 l2 c1 c2] w fun e w' => e = .returned (.bool b) /\ Below w.heap.size w w' := by
 have H1 : Hid (l1 = ws.length) := h1
 have B0 := bel_alloc w (.cells #[.int .i64 4, .int .i64 pl, .int .i64 nn, .slice a1 l1 c1, .slice a2 l2 c2, .int .i64 wa] 39)
 have X0 := Blk.new w #[.int .i64 4, .int .i64 pl, .int .i64 nn, .slice a1 l1 c1, .slice a2 l2 c2, .int .i64 wa] 39
 have S1 : Hid (SlI (w.alloc (.cells #[.int .i64 4, .int .i64 pl, .int .i64 nn, .slice a1 l1 c1, .slice a2 l2 c2, .int .i64 wa] 39)) a1 ws) := s1.below B0
 clear h1 s1
 cases hZ : zrB true false false false nn l1 l2 wa
 ·skip
  have e : okR 4 pl nn wa ws l1 l2 = false := by simp [okR, okK, hW, hP, hZ]
  rw [e] at hb
  subst hb
  clear e
  go_enter Tryz.func48, Tryz.ntmps48
  go_wp2_with (first
   | (go_at_call 72; refine (l3Words_any _ _ _ ws _ H1.out S1.out hl1 _ hW).mono ?_; rintro e wx ⟨rfl, rfl⟩)
   | (go_at_call 47; refine (l1In_any _ _ _ _ _ (by first | exact hP)).mono ?_; rintro e wx ⟨rfl, rfl⟩)
   | (go_at_call 73; refine (l3Zero_tfff _ _ _ _ _ _ _ _ _ _ _ (by have := H1.out; omega) hl2 _ hZ).mono ?_; rintro e w1 ⟨rfl, b'⟩; have B1 := bel_next B0 b'; obtain ⟨y0, y1, y2, y3, y4, y5⟩ := (X0.below b').six; clear B0))
  go_ret
  exact ⟨rfl, B1⟩
 skip
 cases hN : inB nn 1 125
 ·skip
  have e : okR 4 pl nn wa ws l1 l2 = false := by simp [okR, okK, hW, hP, hZ, hN]
  rw [e] at hb
  subst hb
  clear e
  go_enter Tryz.func48, Tryz.ntmps48
  go_wp2_with (first
   | (go_at_call 72; refine (l3Words_any _ _ _ ws _ H1.out S1.out hl1 _ hW).mono ?_; rintro e wx ⟨rfl, rfl⟩)
   | (go_at_call 47; refine (l1In_any _ _ _ _ _ (by first | exact hP | exact hN)).mono ?_; rintro e wx ⟨rfl, rfl⟩)
   | (go_at_call 73; refine (l3Zero_tfff _ _ _ _ _ _ _ _ _ _ _ (by have := H1.out; omega) hl2 _ hZ).mono ?_; rintro e w1 ⟨rfl, b'⟩; have B1 := bel_next B0 b'; obtain ⟨y0, y1, y2, y3, y4, y5⟩ := (X0.below b').six; clear B0))
  go_ret
  exact ⟨rfl, B1⟩
 skip
 cases hF : fitB pl nn
 ·skip
  have e : okR 4 pl nn wa ws l1 l2 = false := by simp [okR, okK, hW, hP, hZ, hN, hF]
  rw [e] at hb
  subst hb
  clear e
  have qhN := inB_yes hN
  go_enter Tryz.func48, Tryz.ntmps48
  go_wp2_with (first
   | (go_at_call 72; refine (l3Words_any _ _ _ ws _ H1.out S1.out hl1 _ hW).mono ?_; rintro e wx ⟨rfl, rfl⟩)
   | (go_at_call 47; refine (l1In_any _ _ _ _ _ (by first | exact hP | exact hN)).mono ?_; rintro e wx ⟨rfl, rfl⟩)
   | (go_at_call 73; refine (l3Zero_tfff _ _ _ _ _ _ _ _ _ _ _ (by have := H1.out; omega) hl2 _ hZ).mono ?_; rintro e w1 ⟨rfl, b'⟩; have B1 := bel_next B0 b'; obtain ⟨y0, y1, y2, y3, y4, y5⟩ := (X0.below b').six; clear B0)
   | (go_at_call 74; refine (l3Fits_any _ _ _ (by omega) (by omega) _ (by first | exact hF)).mono ?_; rintro e wx ⟨rfl, rfl⟩))
  go_ret
  exact ⟨rfl, B1⟩
 skip
 have e : okR 4 pl nn wa ws l1 l2 = true := by simp [okR, okK, hW, hP, hZ, hN, hF]
 rw [e] at hb
 subst hb
 clear e
 have qhN := inB_yes hN
 go_enter Tryz.func48, Tryz.ntmps48
 go_wp2_with (first
  | (go_at_call 72; refine (l3Words_any _ _ _ ws _ H1.out S1.out hl1 _ hW).mono ?_; rintro e wx ⟨rfl, rfl⟩)
  | (go_at_call 47; refine (l1In_any _ _ _ _ _ (by first | exact hP | exact hN)).mono ?_; rintro e wx ⟨rfl, rfl⟩)
  | (go_at_call 73; refine (l3Zero_tfff _ _ _ _ _ _ _ _ _ _ _ (by have := H1.out; omega) hl2 _ hZ).mono ?_; rintro e w1 ⟨rfl, b'⟩; have B1 := bel_next B0 b'; obtain ⟨y0, y1, y2, y3, y4, y5⟩ := (X0.below b').six; clear B0)
  | (go_at_call 74; refine (l3Fits_any _ _ _ (by omega) (by omega) _ (by first | exact hF)).mono ?_; rintro e wx ⟨rfl, rfl⟩))
 go_ret
 exact ⟨rfl, B1⟩
theorem specReqOk_5 (pl nn wa : Int) (a1 a2 : Option Addr) (l1 l2 c1 c2 : Nat) (ws : List Int) (w : World) (h1 : l1 = ws.length) (s1 : SlI w a1 ws) (hl1 : ws.length <= 2000000) (hl2 : l2 <= 20000000) (hW : allW ws = true) (hP : inB pl 0 65535 = true) (b : Bool) (hb : okR 5 pl nn wa ws l1 l2 = b) :
 Calls Tryz.prog 48 #[rq 5 pl nn wa a1 a2 l1 l2 c1 c2] w fun e w' => e = .returned (.bool b) /\ Below w.heap.size w w' := by
 have H1 : Hid (l1 = ws.length) := h1
 have B0 := bel_alloc w (.cells #[.int .i64 5, .int .i64 pl, .int .i64 nn, .slice a1 l1 c1, .slice a2 l2 c2, .int .i64 wa] 39)
 have X0 := Blk.new w #[.int .i64 5, .int .i64 pl, .int .i64 nn, .slice a1 l1 c1, .slice a2 l2 c2, .int .i64 wa] 39
 have S1 : Hid (SlI (w.alloc (.cells #[.int .i64 5, .int .i64 pl, .int .i64 nn, .slice a1 l1 c1, .slice a2 l2 c2, .int .i64 wa] 39)) a1 ws) := s1.below B0
 clear h1 s1
 cases hZ : zrB false false true false nn l1 l2 wa
 ·skip
  have e : okR 5 pl nn wa ws l1 l2 = false := by simp [okR, okK, hW, hP, hZ]
  rw [e] at hb
  subst hb
  clear e
  go_enter Tryz.func48, Tryz.ntmps48
  go_wp2_with (first
   | (go_at_call 72; refine (l3Words_any _ _ _ ws _ H1.out S1.out hl1 _ hW).mono ?_; rintro e wx ⟨rfl, rfl⟩)
   | (go_at_call 47; refine (l1In_any _ _ _ _ _ (by first | exact hP)).mono ?_; rintro e wx ⟨rfl, rfl⟩)
   | (go_at_call 73; refine (l3Zero_fftf _ _ _ _ _ _ _ _ _ _ _ (by have := H1.out; omega) hl2 _ hZ).mono ?_; rintro e w1 ⟨rfl, b'⟩; have B1 := bel_next B0 b'; obtain ⟨y0, y1, y2, y3, y4, y5⟩ := (X0.below b').six; clear B0))
  go_ret
  exact ⟨rfl, B1⟩
 skip
 by_cases hL : l2 = 1
 ·skip
  have e : okR 5 pl nn wa ws l1 l2 = true := by have q := hZ; rw [hL] at q ⊢; simp [okR, okK, hW, hP, q]
  rw [e] at hb
  subst hb
  clear e
  have hLi : (l2 : Int) = 1 := by omega
  have HL : Hid (l2 = 1) := hL
  clear hL
  go_enter Tryz.func48, Tryz.ntmps48
  go_wp2_with (first
   | (go_at_call 72; refine (l3Words_any _ _ _ ws _ H1.out S1.out hl1 _ hW).mono ?_; rintro e wx ⟨rfl, rfl⟩)
   | (go_at_call 47; refine (l1In_any _ _ _ _ _ (by first | exact hP)).mono ?_; rintro e wx ⟨rfl, rfl⟩)
   | (go_at_call 73; refine (l3Zero_fftf _ _ _ _ _ _ _ _ _ _ _ (by have := H1.out; omega) hl2 _ hZ).mono ?_; rintro e w1 ⟨rfl, b'⟩; have B1 := bel_next B0 b'; obtain ⟨y0, y1, y2, y3, y4, y5⟩ := (X0.below b').six; clear B0))
  go_ret
  exact ⟨rfl, B1⟩
 skip
 have e : okR 5 pl nn wa ws l1 l2 = false := by simp [okR, okK, hW, hP, hZ, hL]
 rw [e] at hb
 subst hb
 clear e
 have hLi : ((l2 : Int) == 1) = false := by simp; omega
 clear hL
 go_enter Tryz.func48, Tryz.ntmps48
 go_wp2_with (first
  | (go_at_call 72; refine (l3Words_any _ _ _ ws _ H1.out S1.out hl1 _ hW).mono ?_; rintro e wx ⟨rfl, rfl⟩)
  | (go_at_call 47; refine (l1In_any _ _ _ _ _ (by first | exact hP)).mono ?_; rintro e wx ⟨rfl, rfl⟩)
  | (go_at_call 73; refine (l3Zero_fftf _ _ _ _ _ _ _ _ _ _ _ (by have := H1.out; omega) hl2 _ hZ).mono ?_; rintro e w1 ⟨rfl, b'⟩; have B1 := bel_next B0 b'; obtain ⟨y0, y1, y2, y3, y4, y5⟩ := (X0.below b').six; clear B0))
 go_ret
 exact ⟨rfl, B1⟩
theorem specReqOk_6 (pl nn wa : Int) (a1 a2 : Option Addr) (l1 l2 c1 c2 : Nat) (ws : List Int) (w : World) (h1 : l1 = ws.length) (s1 : SlI w a1 ws) (hl1 : ws.length <= 2000000) (hl2 : l2 <= 20000000) (hW : allW ws = true) (hP : inB pl 0 65535 = true) (b : Bool) (hb : okR 6 pl nn wa ws l1 l2 = b) :
 Calls Tryz.prog 48 #[rq 6 pl nn wa a1 a2 l1 l2 c1 c2] w fun e w' => e = .returned (.bool b) /\ Below w.heap.size w w' := by
 have H1 : Hid (l1 = ws.length) := h1
 have B0 := bel_alloc w (.cells #[.int .i64 6, .int .i64 pl, .int .i64 nn, .slice a1 l1 c1, .slice a2 l2 c2, .int .i64 wa] 39)
 have X0 := Blk.new w #[.int .i64 6, .int .i64 pl, .int .i64 nn, .slice a1 l1 c1, .slice a2 l2 c2, .int .i64 wa] 39
 have S1 : Hid (SlI (w.alloc (.cells #[.int .i64 6, .int .i64 pl, .int .i64 nn, .slice a1 l1 c1, .slice a2 l2 c2, .int .i64 wa] 39)) a1 ws) := s1.below B0
 clear h1 s1
 cases hZ : zrB false true false false nn l1 l2 wa
 ·skip
  have e : okR 6 pl nn wa ws l1 l2 = false := by simp [okR, okK, hW, hP, hZ]
  rw [e] at hb
  subst hb
  clear e
  go_enter Tryz.func48, Tryz.ntmps48
  go_wp2_with (first
   | (go_at_call 72; refine (l3Words_any _ _ _ ws _ H1.out S1.out hl1 _ hW).mono ?_; rintro e wx ⟨rfl, rfl⟩)
   | (go_at_call 47; refine (l1In_any _ _ _ _ _ (by first | exact hP)).mono ?_; rintro e wx ⟨rfl, rfl⟩)
   | (go_at_call 73; refine (l3Zero_ftff _ _ _ _ _ _ _ _ _ _ _ (by have := H1.out; omega) hl2 _ hZ).mono ?_; rintro e w1 ⟨rfl, b'⟩; have B1 := bel_next B0 b'; obtain ⟨y0, y1, y2, y3, y4, y5⟩ := (X0.below b').six; clear B0))
  go_ret
  exact ⟨rfl, B1⟩
 skip
 by_cases hL : l1 = 1
 ·skip
  have e : okR 6 pl nn wa ws l1 l2 = true := by have q := hZ; rw [hL] at q ⊢; simp [okR, okK, hW, hP, q]
  rw [e] at hb
  subst hb
  clear e
  have hLi : (l1 : Int) = 1 := by omega
  have HL : Hid (l1 = 1) := hL
  clear hL
  go_enter Tryz.func48, Tryz.ntmps48
  go_wp2_with (first
   | (go_at_call 72; refine (l3Words_any _ _ _ ws _ H1.out S1.out hl1 _ hW).mono ?_; rintro e wx ⟨rfl, rfl⟩)
   | (go_at_call 47; refine (l1In_any _ _ _ _ _ (by first | exact hP)).mono ?_; rintro e wx ⟨rfl, rfl⟩)
   | (go_at_call 73; refine (l3Zero_ftff _ _ _ _ _ _ _ _ _ _ _ (by have := H1.out; omega) hl2 _ hZ).mono ?_; rintro e w1 ⟨rfl, b'⟩; have B1 := bel_next B0 b'; obtain ⟨y0, y1, y2, y3, y4, y5⟩ := (X0.below b').six; clear B0))
  go_ret
  exact ⟨rfl, B1⟩
 skip
 have e : okR 6 pl nn wa ws l1 l2 = false := by simp [okR, okK, hW, hP, hZ, hL]
 rw [e] at hb
 subst hb
 clear e
 have hLi : ((l1 : Int) == 1) = false := by simp; omega
 clear hL
 go_enter Tryz.func48, Tryz.ntmps48
 go_wp2_with (first
  | (go_at_call 72; refine (l3Words_any _ _ _ ws _ H1.out S1.out hl1 _ hW).mono ?_; rintro e wx ⟨rfl, rfl⟩)
  | (go_at_call 47; refine (l1In_any _ _ _ _ _ (by first | exact hP)).mono ?_; rintro e wx ⟨rfl, rfl⟩)
  | (go_at_call 73; refine (l3Zero_ftff _ _ _ _ _ _ _ _ _ _ _ (by have := H1.out; omega) hl2 _ hZ).mono ?_; rintro e w1 ⟨rfl, b'⟩; have B1 := bel_next B0 b'; obtain ⟨y0, y1, y2, y3, y4, y5⟩ := (X0.below b').six; clear B0))
 go_ret
 exact ⟨rfl, B1⟩
theorem specReqOk_15 (pl nn wa : Int) (a1 a2 : Option Addr) (l1 l2 c1 c2 : Nat) (ws : List Int) (w : World) (h1 : l1 = ws.length) (s1 : SlI w a1 ws) (hl1 : ws.length <= 2000000) (hl2 : l2 <= 20000000) (hW : allW ws = true) (hP : inB pl 0 65535 = true) (b : Bool) (hb : okR 15 pl nn wa ws l1 l2 = b) :
 Calls Tryz.prog 48 #[rq 15 pl nn wa a1 a2 l1 l2 c1 c2] w fun e w' => e = .returned (.bool b) /\ Below w.heap.size w w' := by
 have H1 : Hid (l1 = ws.length) := h1
 have B0 := bel_alloc w (.cells #[.int .i64 15, .int .i64 pl, .int .i64 nn, .slice a1 l1 c1, .slice a2 l2 c2, .int .i64 wa] 39)
 have X0 := Blk.new w #[.int .i64 15, .int .i64 pl, .int .i64 nn, .slice a1 l1 c1, .slice a2 l2 c2, .int .i64 wa] 39
 have S1 : Hid (SlI (w.alloc (.cells #[.int .i64 15, .int .i64 pl, .int .i64 nn, .slice a1 l1 c1, .slice a2 l2 c2, .int .i64 wa] 39)) a1 ws) := s1.below B0
 clear h1 s1
 cases hZ : zrB false false true false nn l1 l2 wa
 ·skip
  have e : okR 15 pl nn wa ws l1 l2 = false := by simp [okR, okK, hW, hP, hZ]
  rw [e] at hb
  subst hb
  clear e
  go_enter Tryz.func48, Tryz.ntmps48
  go_wp2_with (first
   | (go_at_call 72; refine (l3Words_any _ _ _ ws _ H1.out S1.out hl1 _ hW).mono ?_; rintro e wx ⟨rfl, rfl⟩)
   | (go_at_call 47; refine (l1In_any _ _ _ _ _ (by first | exact hP)).mono ?_; rintro e wx ⟨rfl, rfl⟩)
   | (go_at_call 73; refine (l3Zero_fftf _ _ _ _ _ _ _ _ _ _ _ (by have := H1.out; omega) hl2 _ hZ).mono ?_; rintro e w1 ⟨rfl, b'⟩; have B1 := bel_next B0 b'; obtain ⟨y0, y1, y2, y3, y4, y5⟩ := (X0.below b').six; clear B0))
  go_ret
  exact ⟨rfl, B1⟩
 skip
 cases hN : inB l2 1 1968
 ·skip
  have e : okR 15 pl nn wa ws l1 l2 = false := by simp [okR, okK, hW, hP, hZ, hN]
  rw [e] at hb
  subst hb
  clear e
  go_enter Tryz.func48, Tryz.ntmps48
  go_wp2_with (first
   | (go_at_call 72; refine (l3Words_any _ _ _ ws _ H1.out S1.out hl1 _ hW).mono ?_; rintro e wx ⟨rfl, rfl⟩)
   | (go_at_call 47; refine (l1In_any _ _ _ _ _ (by first | exact hP | exact hN)).mono ?_; rintro e wx ⟨rfl, rfl⟩)
   | (go_at_call 73; refine (l3Zero_fftf _ _ _ _ _ _ _ _ _ _ _ (by have := H1.out; omega) hl2 _ hZ).mono ?_; rintro e w1 ⟨rfl, b'⟩; have B1 := bel_next B0 b'; obtain ⟨y0, y1, y2, y3, y4, y5⟩ := (X0.below b').six; clear B0))
  go_ret
  exact ⟨rfl, B1⟩
 skip
 cases hF : fitB pl l2
 ·skip
  have e : okR 15 pl nn wa ws l1 l2 = false := by simp [okR, okK, hW, hP, hZ, hN, hF]
  rw [e] at hb
  subst hb
  clear e
  have qhN := inB_yes hN
  go_enter Tryz.func48, Tryz.ntmps48
  go_wp2_with (first
   | (go_at_call 72; refine (l3Words_any _ _ _ ws _ H1.out S1.out hl1 _ hW).mono ?_; rintro e wx ⟨rfl, rfl⟩)
   | (go_at_call 47; refine (l1In_any _ _ _ _ _ (by first | exact hP | exact hN)).mono ?_; rintro e wx ⟨rfl, rfl⟩)
   | (go_at_call 73; refine (l3Zero_fftf _ _ _ _ _ _ _ _ _ _ _ (by have := H1.out; omega) hl2 _ hZ).mono ?_; rintro e w1 ⟨rfl, b'⟩; have B1 := bel_next B0 b'; obtain ⟨y0, y1, y2, y3, y4, y5⟩ := (X0.below b').six; clear B0)
   | (go_at_call 74; refine (l3Fits_any _ _ _ (by omega) (by omega) _ (by first | exact hF)).mono ?_; rintro e wx ⟨rfl, rfl⟩))
  go_ret
  exact ⟨rfl, B1⟩
 skip
 have e : okR 15 pl nn wa ws l1 l2 = true := by simp [okR, okK, hW, hP, hZ, hN, hF]
 rw [e] at hb
 subst hb
 clear e
 have qhN := inB_yes hN
 go_enter Tryz.func48, Tryz.ntmps48
 go_wp2_with (first
  | (go_at_call 72; refine (l3Words_any _ _ _ ws _ H1.out S1.out hl1 _ hW).mono ?_; rintro e wx ⟨rfl, rfl⟩)
  | (go_at_call 47; refine (l1In_any _ _ _ _ _ (by first | exact hP | exact hN)).mono ?_; rintro e wx ⟨rfl, rfl⟩)
  | (go_at_call 73; refine (l3Zero_fftf _ _ _ _ _ _ _ _ _ _ _ (by have := H1.out; omega) hl2 _ hZ).mono ?_; rintro e w1 ⟨rfl, b'⟩; have B1 := bel_next B0 b'; obtain ⟨y0, y1, y2, y3, y4, y5⟩ := (X0.below b').six; clear B0)
  | (go_at_call 74; refine (l3Fits_any _ _ _ (by omega) (by omega) _ (by first | exact hF)).mono ?_; rintro e wx ⟨rfl, rfl⟩))
 go_ret
 exact ⟨rfl, B1⟩
theorem specReqOk_16 (pl nn wa : Int) (a1 a2 : Option Addr) (l1 l2 c1 c2 : Nat) (ws : List Int) (w : World) (h1 : l1 = ws.length) (s1 : SlI w a1 ws) (hl1 : ws.length <= 2000000) (hl2 : l2 <= 20000000) (hW : allW ws = true) (hP : inB pl 0 65535 = true) (b : Bool) (hb : okR 16 pl nn wa ws l1 l2 = b) :
 Calls Tryz.prog 48 #[rq 16 pl nn wa a1 a2 l1 l2 c1 c2] w fun e w' => e = .returned (.bool b) /\ Below w.heap.size w w' := by
 have H1 : Hid (l1 = ws.length) := h1
 have B0 := bel_alloc w (.cells #[.int .i64 16, .int .i64 pl, .int .i64 nn, .slice a1 l1 c1, .slice a2 l2 c2, .int .i64 wa] 39)
 have X0 := Blk.new w #[.int .i64 16, .int .i64 pl, .int .i64 nn, .slice a1 l1 c1, .slice a2 l2 c2, .int .i64 wa] 39
 have S1 : Hid (SlI (w.alloc (.cells #[.int .i64 16, .int .i64 pl, .int .i64 nn, .slice a1 l1 c1, .slice a2 l2 c2, .int .i64 wa] 39)) a1 ws) := s1.below B0
 clear h1 s1
 cases hZ : zrB false true false false nn l1 l2 wa
 ·skip
  have e : okR 16 pl nn wa ws l1 l2 = false := by simp [okR, okK, hW, hP, hZ]
  rw [e] at hb
  subst hb
  clear e
  go_enter Tryz.func48, Tryz.ntmps48
  go_wp2_with (first
   | (go_at_call 72; refine (l3Words_any _ _ _ ws _ H1.out S1.out hl1 _ hW).mono ?_; rintro e wx ⟨rfl, rfl⟩)
   | (go_at_call 47; refine (l1In_any _ _ _ _ _ (by first | exact hP)).mono ?_; rintro e wx ⟨rfl, rfl⟩)
   | (go_at_call 73; refine (l3Zero_ftff _ _ _ _ _ _ _ _ _ _ _ (by have := H1.out; omega) hl2 _ hZ).mono ?_; rintro e w1 ⟨rfl, b'⟩; have B1 := bel_next B0 b'; obtain ⟨y0, y1, y2, y3, y4, y5⟩ := (X0.below b').six; clear B0))
  go_ret
  exact ⟨rfl, B1⟩
 skip
 cases hN : inB l1 1 123
 ·skip
  have e : okR 16 pl nn wa ws l1 l2 = false := by simp [okR, okK, hW, hP, hZ, hN]
  rw [e] at hb
  subst hb
  clear e
  go_enter Tryz.func48, Tryz.ntmps48
  go_wp2_with (first
   | (go_at_call 72; refine (l3Words_any _ _ _ ws _ H1.out S1.out hl1 _ hW).mono ?_; rintro e wx ⟨rfl, rfl⟩)
   | (go_at_call 47; refine (l1In_any _ _ _ _ _ (by first | exact hP | exact hN)).mono ?_; rintro e wx ⟨rfl, rfl⟩)
   | (go_at_call 73; refine (l3Zero_ftff _ _ _ _ _ _ _ _ _ _ _ (by have := H1.out; omega) hl2 _ hZ).mono ?_; rintro e w1 ⟨rfl, b'⟩; have B1 := bel_next B0 b'; obtain ⟨y0, y1, y2, y3, y4, y5⟩ := (X0.below b').six; clear B0))
  go_ret
  exact ⟨rfl, B1⟩
 skip
 cases hF : fitB pl l1
 ·skip
  have e : okR 16 pl nn wa ws l1 l2 = false := by simp [okR, okK, hW, hP, hZ, hN, hF]
  rw [e] at hb
  subst hb
  clear e
  have qhN := inB_yes hN
  go_enter Tryz.func48, Tryz.ntmps48
  go_wp2_with (first
   | (go_at_call 72; refine (l3Words_any _ _ _ ws _ H1.out S1.out hl1 _ hW).mono ?_; rintro e wx ⟨rfl, rfl⟩)
   | (go_at_call 47; refine (l1In_any _ _ _ _ _ (by first | exact hP | exact hN)).mono ?_; rintro e wx ⟨rfl, rfl⟩)
   | (go_at_call 73; refine (l3Zero_ftff _ _ _ _ _ _ _ _ _ _ _ (by have := H1.out; omega) hl2 _ hZ).mono ?_; rintro e w1 ⟨rfl, b'⟩; have B1 := bel_next B0 b'; obtain ⟨y0, y1, y2, y3, y4, y5⟩ := (X0.below b').six; clear B0)
   | (go_at_call 74; refine (l3Fits_any _ _ _ (by omega) (by omega) _ (by first | exact hF)).mono ?_; rintro e wx ⟨rfl, rfl⟩))
  go_ret
  exact ⟨rfl, B1⟩
 skip
 have e : okR 16 pl nn wa ws l1 l2 = true := by simp [okR, okK, hW, hP, hZ, hN, hF]
 rw [e] at hb
 subst hb
 clear e
 have qhN := inB_yes hN
 go_enter Tryz.func48, Tryz.ntmps48
 go_wp2_with (first
  | (go_at_call 72; refine (l3Words_any _ _ _ ws _ H1.out S1.out hl1 _ hW).mono ?_; rintro e wx ⟨rfl, rfl⟩)
  | (go_at_call 47; refine (l1In_any _ _ _ _ _ (by first | exact hP | exact hN)).mono ?_; rintro e wx ⟨rfl, rfl⟩)
  | (go_at_call 73; refine (l3Zero_ftff _ _ _ _ _ _ _ _ _ _ _ (by have := H1.out; omega) hl2 _ hZ).mono ?_; rintro e w1 ⟨rfl, b'⟩; have B1 := bel_next B0 b'; obtain ⟨y0, y1, y2, y3, y4, y5⟩ := (X0.below b').six; clear B0)
  | (go_at_call 74; refine (l3Fits_any _ _ _ (by omega) (by omega) _ (by first | exact hF)).mono ?_; rintro e wx ⟨rfl, rfl⟩))
 go_ret
 exact ⟨rfl, B1⟩
theorem specReqOk_22 (pl nn wa : Int) (a1 a2 : Option Addr) (l1 l2 c1 c2 : Nat) (ws : List Int) (w : World) (h1 : l1 = ws.length) (s1 : SlI w a1 ws) (hl1 : ws.length <= 2000000) (hl2 : l2 <= 20000000) (hW : allW ws = true) (hP : inB pl 0 65535 = true) (b : Bool) (hb : okR 22 pl nn wa ws l1 l2 = b) :
 Calls Tryz.prog 48 #[rq 22 pl nn wa a1 a2 l1 l2 c1 c2] w fun e w' => e = .returned (.bool b) /\ Below w.heap.size w w' := by
 have H1 : Hid (l1 = ws.length) := h1
 have B0 := bel_alloc w (.cells #[.int .i64 22, .int .i64 pl, .int .i64 nn, .slice a1 l1 c1, .slice a2 l2 c2, .int .i64 wa] 39)
 have X0 := Blk.new w #[.int .i64 22, .int .i64 pl, .int .i64 nn, .slice a1 l1 c1, .slice a2 l2 c2, .int .i64 wa] 39
 have S1 : Hid (SlI (w.alloc (.cells #[.int .i64 22, .int .i64 pl, .int .i64 nn, .slice a1 l1 c1, .slice a2 l2 c2, .int .i64 wa] 39)) a1 ws) := s1.below B0
 clear h1 s1
 cases hZ : zrB false true false false nn l1 l2 wa
 ·skip
  have e : okR 22 pl nn wa ws l1 l2 = false := by simp [okR, okK, hW, hP, hZ]
  rw [e] at hb
  subst hb
  clear e
  go_enter Tryz.func48, Tryz.ntmps48
  go_wp2_with (first
   | (go_at_call 72; refine (l3Words_any _ _ _ ws _ H1.out S1.out hl1 _ hW).mono ?_; rintro e wx ⟨rfl, rfl⟩)
   | (go_at_call 47; refine (l1In_any _ _ _ _ _ (by first | exact hP)).mono ?_; rintro e wx ⟨rfl, rfl⟩)
   | (go_at_call 73; refine (l3Zero_ftff _ _ _ _ _ _ _ _ _ _ _ (by have := H1.out; omega) hl2 _ hZ).mono ?_; rintro e w1 ⟨rfl, b'⟩; have B1 := bel_next B0 b'; obtain ⟨y0, y1, y2, y3, y4, y5⟩ := (X0.below b').six; clear B0))
  go_ret
  exact ⟨rfl, B1⟩
 skip
 by_cases hL : l1 = 2
 ·skip
  have e : okR 22 pl nn wa ws l1 l2 = true := by have q := hZ; rw [hL] at q ⊢; simp [okR, okK, hW, hP, q]
  rw [e] at hb
  subst hb
  clear e
  have hLi : (l1 : Int) = 2 := by omega
  have HL : Hid (l1 = 2) := hL
  clear hL
  go_enter Tryz.func48, Tryz.ntmps48
  go_wp2_with (first
   | (go_at_call 72; refine (l3Words_any _ _ _ ws _ H1.out S1.out hl1 _ hW).mono ?_; rintro e wx ⟨rfl, rfl⟩)
   | (go_at_call 47; refine (l1In_any _ _ _ _ _ (by first | exact hP)).mono ?_; rintro e wx ⟨rfl, rfl⟩)
   | (go_at_call 73; refine (l3Zero_ftff _ _ _ _ _ _ _ _ _ _ _ (by have := H1.out; omega) hl2 _ hZ).mono ?_; rintro e w1 ⟨rfl, b'⟩; have B1 := bel_next B0 b'; obtain ⟨y0, y1, y2, y3, y4, y5⟩ := (X0.below b').six; clear B0))
  go_ret
  exact ⟨rfl, B1⟩
 skip
 have e : okR 22 pl nn wa ws l1 l2 = false := by simp [okR, okK, hW, hP, hZ, hL]
 rw [e] at hb
 subst hb
 clear e
 have hLi : ((l1 : Int) == 2) = false := by simp; omega
 clear hL
 go_enter Tryz.func48, Tryz.ntmps48
 go_wp2_with (first
  | (go_at_call 72; refine (l3Words_any _ _ _ ws _ H1.out S1.out hl1 _ hW).mono ?_; rintro e wx ⟨rfl, rfl⟩)
  | (go_at_call 47; refine (l1In_any _ _ _ _ _ (by first | exact hP)).mono ?_; rintro e wx ⟨rfl, rfl⟩)
  | (go_at_call 73; refine (l3Zero_ftff _ _ _ _ _ _ _ _ _ _ _ (by have := H1.out; omega) hl2 _ hZ).mono ?_; rintro e w1 ⟨rfl, b'⟩; have B1 := bel_next B0 b'; obtain ⟨y0, y1, y2, y3, y4, y5⟩ := (X0.below b').six; clear B0))
 go_ret
 exact ⟨rfl, B1⟩
theorem specReqOk_23 (pl nn wa : Int) (a1 a2 : Option Addr) (l1 l2 c1 c2 : Nat) (ws : List Int) (w : World) (h1 : l1 = ws.length) (s1 : SlI w a1 ws) (hl1 : ws.length <= 2000000) (hl2 : l2 <= 20000000) (hW : allW ws = true) (hP : inB pl 0 65535 = true) (b : Bool) (hb : okR 23 pl nn wa ws l1 l2 = b) :
 Calls Tryz.prog 48 #[rq 23 pl nn wa a1 a2 l1 l2 c1 c2] w fun e w' => e = .returned (.bool b) /\ Below w.heap.size w w' := by
 have H1 : Hid (l1 = ws.length) := h1
 have B0 := bel_alloc w (.cells #[.int .i64 23, .int .i64 pl, .int .i64 nn, .slice a1 l1 c1, .slice a2 l2 c2, .int .i64 wa] 39)
 have X0 := Blk.new w #[.int .i64 23, .int .i64 pl, .int .i64 nn, .slice a1 l1 c1, .slice a2 l2 c2, .int .i64 wa] 39
 have S1 : Hid (SlI (w.alloc (.cells #[.int .i64 23, .int .i64 pl, .int .i64 nn, .slice a1 l1 c1, .slice a2 l2 c2, .int .i64 wa] 39)) a1 ws) := s1.below B0
 clear h1 s1
 cases hZ : zrB true true false true nn l1 l2 wa
 ·skip
  have e : okR 23 pl nn wa ws l1 l2 = false := by simp [okR, okK, hW, hP, hZ]
  rw [e] at hb
  subst hb
  clear e
  go_enter Tryz.func48, Tryz.ntmps48
  go_wp2_with (first
   | (go_at_call 72; refine (l3Words_any _ _ _ ws _ H1.out S1.out hl1 _ hW).mono ?_; rintro e wx ⟨rfl, rfl⟩)
   | (go_at_call 47; refine (l1In_any _ _ _ _ _ (by first | exact hP)).mono ?_; rintro e wx ⟨rfl, rfl⟩)
   | (go_at_call 73; refine (l3Zero_ttft _ _ _ _ _ _ _ _ _ _ _ (by have := H1.out; omega) hl2 _ hZ).mono ?_; rintro e w1 ⟨rfl, b'⟩; have B1 := bel_next B0 b'; obtain ⟨y0, y1, y2, y3, y4, y5⟩ := (X0.below b').six; clear B0))
  go_ret
  exact ⟨rfl, B1⟩
 skip
 cases hN : inB nn 1 125
 ·skip
  have e : okR 23 pl nn wa ws l1 l2 = false := by simp [okR, okK, hW, hP, hZ, hN]
  rw [e] at hb
  subst hb
  clear e
  go_enter Tryz.func48, Tryz.ntmps48
  go_wp2_with (first
   | (go_at_call 72; refine (l3Words_any _ _ _ ws _ H1.out S1.out hl1 _ hW).mono ?_; rintro e wx ⟨rfl, rfl⟩)
   | (go_at_call 47; refine (l1In_any _ _ _ _ _ (by first | exact hP | exact hN)).mono ?_; rintro e wx ⟨rfl, rfl⟩)
   | (go_at_call 73; refine (l3Zero_ttft _ _ _ _ _ _ _ _ _ _ _ (by have := H1.out; omega) hl2 _ hZ).mono ?_; rintro e w1 ⟨rfl, b'⟩; have B1 := bel_next B0 b'; obtain ⟨y0, y1, y2, y3, y4, y5⟩ := (X0.below b').six; clear B0))
  go_ret
  exact ⟨rfl, B1⟩
 skip
 cases hF : fitB pl nn
 ·skip
  have e : okR 23 pl nn wa ws l1 l2 = false := by simp [okR, okK, hW, hP, hZ, hN, hF]
  rw [e] at hb
  subst hb
  clear e
  have qhN := inB_yes hN
  go_enter Tryz.func48, Tryz.ntmps48
  go_wp2_with (first
   | (go_at_call 72; refine (l3Words_any _ _ _ ws _ H1.out S1.out hl1 _ hW).mono ?_; rintro e wx ⟨rfl, rfl⟩)
   | (go_at_call 47; refine (l1In_any _ _ _ _ _ (by first | exact hP | exact hN)).mono ?_; rintro e wx ⟨rfl, rfl⟩)
   | (go_at_call 73; refine (l3Zero_ttft _ _ _ _ _ _ _ _ _ _ _ (by have := H1.out; omega) hl2 _ hZ).mono ?_; rintro e w1 ⟨rfl, b'⟩; have B1 := bel_next B0 b'; obtain ⟨y0, y1, y2, y3, y4, y5⟩ := (X0.below b').six; clear B0)
   | (go_at_call 74; refine (l3Fits_any _ _ _ (by omega) (by omega) _ (by first | exact hF)).mono ?_; rintro e wx ⟨rfl, rfl⟩))
  go_ret
  exact ⟨rfl, B1⟩
 skip
 cases hM : inB l1 1 121
 ·skip
  have e : okR 23 pl nn wa ws l1 l2 = false := by simp [okR, okK, hW, hP, hZ, hN, hF, hM]
  rw [e] at hb
  subst hb
  clear e
  have qhN := inB_yes hN
  go_enter Tryz.func48, Tryz.ntmps48
  go_wp2_with (first
   | (go_at_call 72; refine (l3Words_any _ _ _ ws _ H1.out S1.out hl1 _ hW).mono ?_; rintro e wx ⟨rfl, rfl⟩)
   | (go_at_call 47; refine (l1In_any _ _ _ _ _ (by first | exact hP | exact hN | exact hM)).mono ?_; rintro e wx ⟨rfl, rfl⟩)
   | (go_at_call 73; refine (l3Zero_ttft _ _ _ _ _ _ _ _ _ _ _ (by have := H1.out; omega) hl2 _ hZ).mono ?_; rintro e w1 ⟨rfl, b'⟩; have B1 := bel_next B0 b'; obtain ⟨y0, y1, y2, y3, y4, y5⟩ := (X0.below b').six; clear B0)
   | (go_at_call 74; refine (l3Fits_any _ _ _ (by omega) (by omega) _ (by first | exact hF)).mono ?_; rintro e wx ⟨rfl, rfl⟩))
  go_ret
  exact ⟨rfl, B1⟩
 skip
 cases hG : fitB wa l1
 ·skip
  have e : okR 23 pl nn wa ws l1 l2 = false := by simp [okR, okK, hW, hP, hZ, hN, hF, hM, hG]
  rw [e] at hb
  subst hb
  clear e
  have qhN := inB_yes hN
  have qhM := inB_yes hM
  go_enter Tryz.func48, Tryz.ntmps48
  go_wp2_with (first
   | (go_at_call 72; refine (l3Words_any _ _ _ ws _ H1.out S1.out hl1 _ hW).mono ?_; rintro e wx ⟨rfl, rfl⟩)
   | (go_at_call 47; refine (l1In_any _ _ _ _ _ (by first | exact hP | exact hN | exact hM)).mono ?_; rintro e wx ⟨rfl, rfl⟩)
   | (go_at_call 73; refine (l3Zero_ttft _ _ _ _ _ _ _ _ _ _ _ (by have := H1.out; omega) hl2 _ hZ).mono ?_; rintro e w1 ⟨rfl, b'⟩; have B1 := bel_next B0 b'; obtain ⟨y0, y1, y2, y3, y4, y5⟩ := (X0.below b').six; clear B0)
   | (go_at_call 74; refine (l3Fits_any _ _ _ (by omega) (by omega) _ (by first | exact hF | exact hG)).mono ?_; rintro e wx ⟨rfl, rfl⟩))
  go_ret
  exact ⟨rfl, B1⟩
 skip
 have e : okR 23 pl nn wa ws l1 l2 = true := by simp [okR, okK, hW, hP, hZ, hN, hF, hM, hG]
 rw [e] at hb
 subst hb
 clear e
 have qhN := inB_yes hN
 have qhM := inB_yes hM
 go_enter Tryz.func48, Tryz.ntmps48
 go_wp2_with (first
  | (go_at_call 72; refine (l3Words_any _ _ _ ws _ H1.out S1.out hl1 _ hW).mono ?_; rintro e wx ⟨rfl, rfl⟩)
  | (go_at_call 47; refine (l1In_any _ _ _ _ _ (by first | exact hP | exact hN | exact hM)).mono ?_; rintro e wx ⟨rfl, rfl⟩)
  | (go_at_call 73; refine (l3Zero_ttft _ _ _ _ _ _ _ _ _ _ _ (by have := H1.out; omega) hl2 _ hZ).mono ?_; rintro e w1 ⟨rfl, b'⟩; have B1 := bel_next B0 b'; obtain ⟨y0, y1, y2, y3, y4, y5⟩ := (X0.below b').six; clear B0)
  | (go_at_call 74; refine (l3Fits_any _ _ _ (by omega) (by omega) _ (by first | exact hF | exact hG)).mono ?_; rintro e wx ⟨rfl, rfl⟩))
 go_ret
 exact ⟨rfl, B1⟩
theorem specReqOk_any (kd : Int) (pl nn wa : Int) (a1 a2 : Option Addr) (l1 l2 c1 c2 : Nat) (ws : List Int) (w : World) (h1 : l1 = ws.length) (s1 : SlI w a1 ws) (hl1 : ws.length <= 2000000) (hl2 : l2 <= 20000000) (b : Bool) (hb : okR kd pl nn wa ws l1 l2 = b) :
 Calls Tryz.prog 48 #[rq kd pl nn wa a1 a2 l1 l2 c1 c2] w fun e w' => e = .returned (.bool b) /\ Below w.heap.size w w' := by
 have H1 : Hid (l1 = ws.length) := h1
 have B0 := bel_alloc w (.cells #[.int .i64 kd, .int .i64 pl, .int .i64 nn, .slice a1 l1 c1, .slice a2 l2 c2, .int .i64 wa] 39)
 have X0 := Blk.new w #[.int .i64 kd, .int .i64 pl, .int .i64 nn, .slice a1 l1 c1, .slice a2 l2 c2, .int .i64 wa] 39
 have S1 : Hid (SlI (w.alloc (.cells #[.int .i64 kd, .int .i64 pl, .int .i64 nn, .slice a1 l1 c1, .slice a2 l2 c2, .int .i64 wa] 39)) a1 ws) := s1.below B0
 have hs : Hid (SlI w a1 ws) := s1
 clear h1 s1
 cases hW : allW ws
 ·skip
  have e : okR kd pl nn wa ws l1 l2 = false := by simp [okR, okK, hW]
  rw [e] at hb
  subst hb
  clear e
  have hP : True := trivial
  go_enter Tryz.func48, Tryz.ntmps48
  go_wp2_with (first
   | (go_at_call 72; refine (l3Words_any _ _ _ ws _ H1.out S1.out hl1 _ hW).mono ?_; rintro e wx ⟨rfl, rfl⟩)
   | (go_at_call 47; refine (l1In_any _ _ _ _ _ (by first | exact hP)).mono ?_; rintro e wx ⟨rfl, rfl⟩))
  go_ret
  exact ⟨rfl, B0⟩
 cases hP : inB pl 0 65535
 ·skip
  have e : okR kd pl nn wa ws l1 l2 = false := by simp [okR, okK, hW, hP]
  rw [e] at hb
  subst hb
  clear e
  go_enter Tryz.func48, Tryz.ntmps48
  go_wp2_with (first
   | (go_at_call 72; refine (l3Words_any _ _ _ ws _ H1.out S1.out hl1 _ hW).mono ?_; rintro e wx ⟨rfl, rfl⟩)
   | (go_at_call 47; refine (l1In_any _ _ _ _ _ (by first | exact hP)).mono ?_; rintro e wx ⟨rfl, rfl⟩))
  go_ret
  exact ⟨rfl, B0⟩
 by_cases hk : kd = 1 \/ kd = 2 \/ kd = 3 \/ kd = 4 \/ kd = 5 \/ kd = 6 \/ kd = 15 \/ kd = 16 \/ kd = 22 \/ kd = 23
 ·clear X0 S1 B0
  obtain rfl | rfl | rfl | rfl | rfl | rfl | rfl | rfl | rfl | rfl := hk
  ·exact specReqOk_1 pl nn wa a1 a2 l1 l2 c1 c2 ws w H1.out hs.out hl1 hl2 hW hP b hb
  ·exact specReqOk_2 pl nn wa a1 a2 l1 l2 c1 c2 ws w H1.out hs.out hl1 hl2 hW hP b hb
  ·exact specReqOk_3 pl nn wa a1 a2 l1 l2 c1 c2 ws w H1.out hs.out hl1 hl2 hW hP b hb
  ·exact specReqOk_4 pl nn wa a1 a2 l1 l2 c1 c2 ws w H1.out hs.out hl1 hl2 hW hP b hb
  ·exact specReqOk_5 pl nn wa a1 a2 l1 l2 c1 c2 ws w H1.out hs.out hl1 hl2 hW hP b hb
  ·exact specReqOk_6 pl nn wa a1 a2 l1 l2 c1 c2 ws w H1.out hs.out hl1 hl2 hW hP b hb
  ·exact specReqOk_15 pl nn wa a1 a2 l1 l2 c1 c2 ws w H1.out hs.out hl1 hl2 hW hP b hb
  ·exact specReqOk_16 pl nn wa a1 a2 l1 l2 c1 c2 ws w H1.out hs.out hl1 hl2 hW hP b hb
  ·exact specReqOk_22 pl nn wa a1 a2 l1 l2 c1 c2 ws w H1.out hs.out hl1 hl2 hW hP b hb
  exact specReqOk_23 pl nn wa a1 a2 l1 l2 c1 c2 ws w H1.out hs.out hl1 hl2 hW hP b hb
 skip
 have k1 : ¬ kd = 1 := by omega
 have k2 : ¬ kd = 2 := by omega
 have k3 : ¬ kd = 3 := by omega
 have k4 : ¬ kd = 4 := by omega
 have k5 : ¬ kd = 5 := by omega
 have k6 : ¬ kd = 6 := by omega
 have k15 : ¬ kd = 15 := by omega
 have k16 : ¬ kd = 16 := by omega
 have k22 : ¬ kd = 22 := by omega
 have k23 : ¬ kd = 23 := by omega
 clear hk
 have e : okR kd pl nn wa ws l1 l2 = false := by simp [okR, okK, hW, hP, k1, k2, k3, k4, k5, k6, k15, k16, k22, k23]
 rw [e] at hb
 subst hb
 clear e
 go_enter Tryz.func48, Tryz.ntmps48
 go_wp2_with (first
  | (go_at_call 72; refine (l3Words_any _ _ _ ws _ H1.out S1.out hl1 _ hW).mono ?_; rintro e wx ⟨rfl, rfl⟩)
  | (go_at_call 47; refine (l1In_any _ _ _ _ _ (by first | exact hP)).mono ?_; rintro e wx ⟨rfl, rfl⟩))
 go_ret
 exact ⟨rfl, B0⟩
end Go.Proofs.YtlhjiiifmfgnoaaGreat
namespace Go.Proofs.YtlhjiiifmfgnoaaGreat
open Go.RowKit
theorem ta_1_1 (w : World) (v : Value) : (Instr.typeAssert (.iface 147 v) 121 147 true).run Tryz.prog w = .ok (.tuple #[v, .bool true]) w := by kernel_rfl
theorem ta_2_1 (w : World) (v : Value) : (Instr.typeAssert (.iface 148 v) 121 147 true).run Tryz.prog w = .ok (.tuple #[.agg #[.int .i64 0, .int .i64 0], .bool false]) w := by kernel_rfl
theorem ta_2_2 (w : World) (v : Value) : (Instr.typeAssert (.iface 148 v) 121 148 true).run Tryz.prog w = .ok (.tuple #[v, .bool true]) w := by kernel_rfl
theorem ta_3_1 (w : World) (v : Value) : (Instr.typeAssert (.iface 149 v) 121 147 true).run Tryz.prog w = .ok (.tuple #[.agg #[.int .i64 0, .int .i64 0], .bool false]) w := by kernel_rfl
theorem ta_3_2 (w : World) (v : Value) : (Instr.typeAssert (.iface 149 v) 121 148 true).run Tryz.prog w = .ok (.tuple #[.agg #[.int .i64 0, .int .i64 0], .bool false]) w := by kernel_rfl
theorem ta_3_3 (w : World) (v : Value) : (Instr.typeAssert (.iface 149 v) 121 149 true).run Tryz.prog w = .ok (.tuple #[v, .bool true]) w := by kernel_rfl
theorem ta_4_1 (w : World) (v : Value) : (Instr.typeAssert (.iface 150 v) 121 147 true).run Tryz.prog w = .ok (.tuple #[.agg #[.int .i64 0, .int .i64 0], .bool false]) w := by kernel_rfl
theorem ta_4_2 (w : World) (v : Value) : (Instr.typeAssert (.iface 150 v) 121 148 true).run Tryz.prog w = .ok (.tuple #[.agg #[.int .i64 0, .int .i64 0], .bool false]) w := by kernel_rfl
theorem ta_4_3 (w : World) (v : Value) : (Instr.typeAssert (.iface 150 v) 121 149 true).run Tryz.prog w = .ok (.tuple #[.agg #[.int .i64 0, .int .i64 0], .bool false]) w := by kernel_rfl
theorem ta_4_4 (w : World) (v : Value) : (Instr.typeAssert (.iface 150 v) 121 150 true).run Tryz.prog w = .ok (.tuple #[v, .bool true]) w := by kernel_rfl
theorem ta_5_1 (w : World) (v : Value) : (Instr.typeAssert (.iface 152 v) 121 147 true).run Tryz.prog w = .ok (.tuple #[.agg #[.int .i64 0, .int .i64 0], .bool false]) w := by kernel_rfl
theorem ta_5_2 (w : World) (v : Value) : (Instr.typeAssert (.iface 152 v) 121 148 true).run Tryz.prog w = .ok (.tuple #[.agg #[.int .i64 0, .int .i64 0], .bool false]) w := by kernel_rfl
theorem ta_5_3 (w : World) (v : Value) : (Instr.typeAssert (.iface 152 v) 121 149 true).run Tryz.prog w = .ok (.tuple #[.agg #[.int .i64 0, .int .i64 0], .bool false]) w := by kernel_rfl
theorem ta_5_4 (w : World) (v : Value) : (Instr.typeAssert (.iface 152 v) 121 150 true).run Tryz.prog w = .ok (.tuple #[.agg #[.int .i64 0, .int .i64 0], .bool false]) w := by kernel_rfl
theorem ta_5_5 (w : World) (v : Value) : (Instr.typeAssert (.iface 152 v) 121 152 true).run Tryz.prog w = .ok (.tuple #[v, .bool true]) w := by kernel_rfl
theorem ta_6_1 (w : World) (v : Value) : (Instr.typeAssert (.iface 154 v) 121 147 true).run Tryz.prog w = .ok (.tuple #[.agg #[.int .i64 0, .int .i64 0], .bool false]) w := by kernel_rfl
theorem ta_6_2 (w : World) (v : Value) : (Instr.typeAssert (.iface 154 v) 121 148 true).run Tryz.prog w = .ok (.tuple #[.agg #[.int .i64 0, .int .i64 0], .bool false]) w := by kernel_rfl
theorem ta_6_3 (w : World) (v : Value) : (Instr.typeAssert (.iface 154 v) 121 149 true).run Tryz.prog w = .ok (.tuple #[.agg #[.int .i64 0, .int .i64 0], .bool false]) w := by kernel_rfl
theorem ta_6_4 (w : World) (v : Value) : (Instr.typeAssert (.iface 154 v) 121 150 true).run Tryz.prog w = .ok (.tuple #[.agg #[.int .i64 0, .int .i64 0], .bool false]) w := by kernel_rfl
theorem ta_6_5 (w : World) (v : Value) : (Instr.typeAssert (.iface 154 v) 121 152 true).run Tryz.prog w = .ok (.tuple #[.agg #[.int .i64 0, .bool false], .bool false]) w := by kernel_rfl
theorem ta_6_6 (w : World) (v : Value) : (Instr.typeAssert (.iface 154 v) 121 154 true).run Tryz.prog w = .ok (.tuple #[v, .bool true]) w := by kernel_rfl
theorem ta_15_1 (w : World) (v : Value) : (Instr.typeAssert (.iface 156 v) 121 147 true).run Tryz.prog w = .ok (.tuple #[.agg #[.int .i64 0, .int .i64 0], .bool false]) w := by kernel_rfl
theorem ta_15_2 (w : World) (v : Value) : (Instr.typeAssert (.iface 156 v) 121 148 true).run Tryz.prog w = .ok (.tuple #[.agg #[.int .i64 0, .int .i64 0], .bool false]) w := by kernel_rfl
theorem ta_15_3 (w : World) (v : Value) : (Instr.typeAssert (.iface 156 v) 121 149 true).run Tryz.prog w = .ok (.tuple #[.agg #[.int .i64 0, .int .i64 0], .bool false]) w := by kernel_rfl
theorem ta_15_4 (w : World) (v : Value) : (Instr.typeAssert (.iface 156 v) 121 150 true).run Tryz.prog w = .ok (.tuple #[.agg #[.int .i64 0, .int .i64 0], .bool false]) w := by kernel_rfl
theorem ta_15_5 (w : World) (v : Value) : (Instr.typeAssert (.iface 156 v) 121 152 true).run Tryz.prog w = .ok (.tuple #[.agg #[.int .i64 0, .bool false], .bool false]) w := by kernel_rfl
theorem ta_15_6 (w : World) (v : Value) : (Instr.typeAssert (.iface 156 v) 121 154 true).run Tryz.prog w = .ok (.tuple #[.agg #[.int .i64 0, .int .i64 0], .bool false]) w := by kernel_rfl
theorem ta_15_15 (w : World) (v : Value) : (Instr.typeAssert (.iface 156 v) 121 156 true).run Tryz.prog w = .ok (.tuple #[v, .bool true]) w := by kernel_rfl
theorem ta_16_1 (w : World) (v : Value) : (Instr.typeAssert (.iface 158 v) 121 147 true).run Tryz.prog w = .ok (.tuple #[.agg #[.int .i64 0, .int .i64 0], .bool false]) w := by kernel_rfl
theorem ta_16_2 (w : World) (v : Value) : (Instr.typeAssert (.iface 158 v) 121 148 true).run Tryz.prog w = .ok (.tuple #[.agg #[.int .i64 0, .int .i64 0], .bool false]) w := by kernel_rfl
theorem ta_16_3 (w : World) (v : Value) : (Instr.typeAssert (.iface 158 v) 121 149 true).run Tryz.prog w = .ok (.tuple #[.agg #[.int .i64 0, .int .i64 0], .bool false]) w := by kernel_rfl
theorem ta_16_4 (w : World) (v : Value) : (Instr.typeAssert (.iface 158 v) 121 150 true).run Tryz.prog w = .ok (.tuple #[.agg #[.int .i64 0, .int .i64 0], .bool false]) w := by kernel_rfl
theorem ta_16_5 (w : World) (v : Value) : (Instr.typeAssert (.iface 158 v) 121 152 true).run Tryz.prog w = .ok (.tuple #[.agg #[.int .i64 0, .bool false], .bool false]) w := by kernel_rfl
theorem ta_16_6 (w : World) (v : Value) : (Instr.typeAssert (.iface 158 v) 121 154 true).run Tryz.prog w = .ok (.tuple #[.agg #[.int .i64 0, .int .i64 0], .bool false]) w := by kernel_rfl
theorem ta_16_15 (w : World) (v : Value) : (Instr.typeAssert (.iface 158 v) 121 156 true).run Tryz.prog w = .ok (.tuple #[.agg #[.int .i64 0, .slice none 0 0], .bool false]) w := by kernel_rfl
theorem ta_16_16 (w : World) (v : Value) : (Instr.typeAssert (.iface 158 v) 121 158 true).run Tryz.prog w = .ok (.tuple #[v, .bool true]) w := by kernel_rfl
theorem ta_22_1 (w : World) (v : Value) : (Instr.typeAssert (.iface 160 v) 121 147 true).run Tryz.prog w = .ok (.tuple #[.agg #[.int .i64 0, .int .i64 0], .bool false]) w := by kernel_rfl
theorem ta_22_2 (w : World) (v : Value) : (Instr.typeAssert (.iface 160 v) 121 148 true).run Tryz.prog w = .ok (.tuple #[.agg #[.int .i64 0, .int .i64 0], .bool false]) w := by kernel_rfl
theorem ta_22_3 (w : World) (v : Value) : (Instr.typeAssert (.iface 160 v) 121 149 true).run Tryz.prog w = .ok (.tuple #[.agg #[.int .i64 0, .int .i64 0], .bool false]) w := by kernel_rfl
theorem ta_22_4 (w : World) (v : Value) : (Instr.typeAssert (.iface 160 v) 121 150 true).run Tryz.prog w = .ok (.tuple #[.agg #[.int .i64 0, .int .i64 0], .bool false]) w := by kernel_rfl
theorem ta_22_5 (w : World) (v : Value) : (Instr.typeAssert (.iface 160 v) 121 152 true).run Tryz.prog w = .ok (.tuple #[.agg #[.int .i64 0, .bool false], .bool false]) w := by kernel_rfl
theorem ta_22_6 (w : World) (v : Value) : (Instr.typeAssert (.iface 160 v) 121 154 true).run Tryz.prog w = .ok (.tuple #[.agg #[.int .i64 0, .int .i64 0], .bool false]) w := by kernel_rfl
theorem ta_22_15 (w : World) (v : Value) : (Instr.typeAssert (.iface 160 v) 121 156 true).run Tryz.prog w = .ok (.tuple #[.agg #[.int .i64 0, .slice none 0 0], .bool false]) w := by kernel_rfl
theorem ta_22_16 (w : World) (v : Value) : (Instr.typeAssert (.iface 160 v) 121 158 true).run Tryz.prog w = .ok (.tuple #[.agg #[.int .i64 0, .slice none 0 0], .bool false]) w := by kernel_rfl
theorem ta_22_22 (w : World) (v : Value) : (Instr.typeAssert (.iface 160 v) 121 160 true).run Tryz.prog w = .ok (.tuple #[v, .bool true]) w := by kernel_rfl
theorem ta_23_1 (w : World) (v : Value) : (Instr.typeAssert (.iface 162 v) 121 147 true).run Tryz.prog w = .ok (.tuple #[.agg #[.int .i64 0, .int .i64 0], .bool false]) w := by kernel_rfl
theorem ta_23_2 (w : World) (v : Value) : (Instr.typeAssert (.iface 162 v) 121 148 true).run Tryz.prog w = .ok (.tuple #[.agg #[.int .i64 0, .int .i64 0], .bool false]) w := by kernel_rfl
theorem ta_23_3 (w : World) (v : Value) : (Instr.typeAssert (.iface 162 v) 121 149 true).run Tryz.prog w = .ok (.tuple #[.agg #[.int .i64 0, .int .i64 0], .bool false]) w := by kernel_rfl
theorem ta_23_4 (w : World) (v : Value) : (Instr.typeAssert (.iface 162 v) 121 150 true).run Tryz.prog w = .ok (.tuple #[.agg #[.int .i64 0, .int .i64 0], .bool false]) w := by kernel_rfl
theorem ta_23_5 (w : World) (v : Value) : (Instr.typeAssert (.iface 162 v) 121 152 true).run Tryz.prog w = .ok (.tuple #[.agg #[.int .i64 0, .bool false], .bool false]) w := by kernel_rfl
theorem ta_23_6 (w : World) (v : Value) : (Instr.typeAssert (.iface 162 v) 121 154 true).run Tryz.prog w = .ok (.tuple #[.agg #[.int .i64 0, .int .i64 0], .bool false]) w := by kernel_rfl
theorem ta_23_15 (w : World) (v : Value) : (Instr.typeAssert (.iface 162 v) 121 156 true).run Tryz.prog w = .ok (.tuple #[.agg #[.int .i64 0, .slice none 0 0], .bool false]) w := by kernel_rfl
theorem ta_23_16 (w : World) (v : Value) : (Instr.typeAssert (.iface 162 v) 121 158 true).run Tryz.prog w = .ok (.tuple #[.agg #[.int .i64 0, .slice none 0 0], .bool false]) w := by kernel_rfl
theorem ta_23_22 (w : World) (v : Value) : (Instr.typeAssert (.iface 162 v) 121 160 true).run Tryz.prog w = .ok (.tuple #[.agg #[.int .i64 0, .int .i64 0, .int .i64 0], .bool false]) w := by kernel_rfl
theorem ta_23_23 (w : World) (v : Value) : (Instr.typeAssert (.iface 162 v) 121 162 true).run Tryz.prog w = .ok (.tuple #[v, .bool true]) w := by kernel_rfl
theorem ta_n_1 (w : World) : (Instr.typeAssert .nilIface 121 147 true).run Tryz.prog w = .ok (.tuple #[.agg #[.int .i64 0, .int .i64 0], .bool false]) w := by kernel_rfl
theorem ta_n_2 (w : World) : (Instr.typeAssert .nilIface 121 148 true).run Tryz.prog w = .ok (.tuple #[.agg #[.int .i64 0, .int .i64 0], .bool false]) w := by kernel_rfl
theorem ta_n_3 (w : World) : (Instr.typeAssert .nilIface 121 149 true).run Tryz.prog w = .ok (.tuple #[.agg #[.int .i64 0, .int .i64 0], .bool false]) w := by kernel_rfl
theorem ta_n_4 (w : World) : (Instr.typeAssert .nilIface 121 150 true).run Tryz.prog w = .ok (.tuple #[.agg #[.int .i64 0, .int .i64 0], .bool false]) w := by kernel_rfl
theorem ta_n_5 (w : World) : (Instr.typeAssert .nilIface 121 152 true).run Tryz.prog w = .ok (.tuple #[.agg #[.int .i64 0, .bool false], .bool false]) w := by kernel_rfl
theorem ta_n_6 (w : World) : (Instr.typeAssert .nilIface 121 154 true).run Tryz.prog w = .ok (.tuple #[.agg #[.int .i64 0, .int .i64 0], .bool false]) w := by kernel_rfl
theorem ta_n_15 (w : World) : (Instr.typeAssert .nilIface 121 156 true).run Tryz.prog w = .ok (.tuple #[.agg #[.int .i64 0, .slice none 0 0], .bool false]) w := by kernel_rfl
theorem ta_n_16 (w : World) : (Instr.typeAssert .nilIface 121 158 true).run Tryz.prog w = .ok (.tuple #[.agg #[.int .i64 0, .slice none 0 0], .bool false]) w := by kernel_rfl
theorem ta_n_22 (w : World) : (Instr.typeAssert .nilIface 121 160 true).run Tryz.prog w = .ok (.tuple #[.agg #[.int .i64 0, .int .i64 0, .int .i64 0], .bool false]) w := by kernel_rfl
theorem ta_n_23 (w : World) : (Instr.typeAssert .nilIface 121 162 true).run Tryz.prog w = .ok (.tuple #[.agg #[.int .i64 0, .int .i64 0, .int .i64 0, .slice none 0 0], .bool false]) w := by kernel_rfl
theorem questionOf_1 (pl nn wa : Int) (a1 a2 : Option Addr) (l1 l2 c1 c2 : Nat) (w : World) :
 Calls Tryz.prog 111 #[rq 1 pl nn wa a1 a2 l1 l2 c1 c2] w fun e w' => e = .returned (.iface 147 (.agg #[.int .i64 pl, .int .i64 nn])) /\ Below w.heap.size w w' := by
 have B0 := bel_alloc w (.cells #[.int .i64 1, .int .i64 pl, .int .i64 nn, .slice a1 l1 c1, .slice a2 l2 c2, .int .i64 wa] 39)
 go_enter Tryz.func111, Tryz.ntmps111
 go_wp2
 go_ret
 exact ⟨rfl, B0⟩
theorem questionOf_2 (pl nn wa : Int) (a1 a2 : Option Addr) (l1 l2 c1 c2 : Nat) (w : World) :
 Calls Tryz.prog 111 #[rq 2 pl nn wa a1 a2 l1 l2 c1 c2] w fun e w' => e = .returned (.iface 148 (.agg #[.int .i64 pl, .int .i64 nn])) /\ Below w.heap.size w w' := by
 have B0 := bel_alloc w (.cells #[.int .i64 2, .int .i64 pl, .int .i64 nn, .slice a1 l1 c1, .slice a2 l2 c2, .int .i64 wa] 39)
 go_enter Tryz.func111, Tryz.ntmps111
 go_wp2
 go_ret
 exact ⟨rfl, B0⟩
theorem questionOf_3 (pl nn wa : Int) (a1 a2 : Option Addr) (l1 l2 c1 c2 : Nat) (w : World) :
 Calls Tryz.prog 111 #[rq 3 pl nn wa a1 a2 l1 l2 c1 c2] w fun e w' => e = .returned (.iface 149 (.agg #[.int .i64 pl, .int .i64 nn])) /\ Below w.heap.size w w' := by
 have B0 := bel_alloc w (.cells #[.int .i64 3, .int .i64 pl, .int .i64 nn, .slice a1 l1 c1, .slice a2 l2 c2, .int .i64 wa] 39)
 go_enter Tryz.func111, Tryz.ntmps111
 go_wp2
 go_ret
 exact ⟨rfl, B0⟩
theorem questionOf_4 (pl nn wa : Int) (a1 a2 : Option Addr) (l1 l2 c1 c2 : Nat) (w : World) :
 Calls Tryz.prog 111 #[rq 4 pl nn wa a1 a2 l1 l2 c1 c2] w fun e w' => e = .returned (.iface 150 (.agg #[.int .i64 pl, .int .i64 nn])) /\ Below w.heap.size w w' := by
 have B0 := bel_alloc w (.cells #[.int .i64 4, .int .i64 pl, .int .i64 nn, .slice a1 l1 c1, .slice a2 l2 c2, .int .i64 wa] 39)
 go_enter Tryz.func111, Tryz.ntmps111
 go_wp2
 go_ret
 exact ⟨rfl, B0⟩
theorem questionOf_15 (pl nn wa : Int) (a1 a2 : Option Addr) (l1 l2 c1 c2 : Nat) (w : World) :
 Calls Tryz.prog 111 #[rq 15 pl nn wa a1 a2 l1 l2 c1 c2] w fun e w' => e = .returned (.iface 156 (.agg #[.int .i64 pl, .slice a2 l2 c2])) /\ Below w.heap.size w w' := by
 have B0 := bel_alloc w (.cells #[.int .i64 15, .int .i64 pl, .int .i64 nn, .slice a1 l1 c1, .slice a2 l2 c2, .int .i64 wa] 39)
 go_enter Tryz.func111, Tryz.ntmps111
 go_wp2
 go_ret
 exact ⟨rfl, B0⟩
theorem questionOf_16 (pl nn wa : Int) (a1 a2 : Option Addr) (l1 l2 c1 c2 : Nat) (w : World) :
 Calls Tryz.prog 111 #[rq 16 pl nn wa a1 a2 l1 l2 c1 c2] w fun e w' => e = .returned (.iface 158 (.agg #[.int .i64 pl, .slice a1 l1 c1])) /\ Below w.heap.size w w' := by
 have B0 := bel_alloc w (.cells #[.int .i64 16, .int .i64 pl, .int .i64 nn, .slice a1 l1 c1, .slice a2 l2 c2, .int .i64 wa] 39)
 go_enter Tryz.func111, Tryz.ntmps111
 go_wp2
 go_ret
 exact ⟨rfl, B0⟩
theorem questionOf_23 (pl nn wa : Int) (a1 a2 : Option Addr) (l1 l2 c1 c2 : Nat) (w : World) :
 Calls Tryz.prog 111 #[rq 23 pl nn wa a1 a2 l1 l2 c1 c2] w fun e w' => e = .returned (.iface 162 (.agg #[.int .i64 pl, .int .i64 nn, .int .i64 wa, .slice a1 l1 c1])) /\ Below w.heap.size w w' := by
 have B0 := bel_alloc w (.cells #[.int .i64 23, .int .i64 pl, .int .i64 nn, .slice a1 l1 c1, .slice a2 l2 c2, .int .i64 wa] 39)
 go_enter Tryz.func111, Tryz.ntmps111
 go_wp2
 go_ret
 exact ⟨rfl, B0⟩
theorem questionOf_5 (pl nn wa : Int) (a1 a2 : Option Addr) (l1 l2 c1 c2 : Nat) (w : World) (bs : List Bool) (h2 : l2 = bs.length) (hL : (l2 : Int) = 1) (s2 : SlB w a2 bs) :
 Calls Tryz.prog 111 #[rq 5 pl nn wa a1 a2 l1 l2 c1 c2] w fun e w' => e = .returned (.iface 152 (.agg #[.int .i64 pl, .bool (bs.getD 0 false)])) /\ Below w.heap.size w w' := by
 have B0 := bel_alloc w (.cells #[.int .i64 5, .int .i64 pl, .int .i64 nn, .slice a1 l1 c1, .slice a2 l2 c2, .int .i64 wa] 39)
 obtain ⟨b, off, rfl, hb, hc⟩ := cell_atB (s2.below B0) (show 0 < bs.length by omega)
 have hc0 : (w.alloc (.cells #[.int .i64 5, .int .i64 pl, .int .i64 nn, .slice a1 l1 c1, .slice (some ⟨b, off, none⟩) l2 c2, .int .i64 wa] 39)).cell? ⟨b, off, none⟩ = some (.bool (bs.getD 0 false)) := by simpa using hc
 clear hc h2 s2
 go_enter Tryz.func111, Tryz.ntmps111
 go_wp2
 go_quiet (fail)
 go_wp2
 go_ret
 exact ⟨rfl, bel_next B0 (drew_refl _ _)⟩
theorem questionOf_6 (pl nn wa : Int) (a1 a2 : Option Addr) (l1 l2 c1 c2 : Nat) (w : World) (ws : List Int) (h1 : l1 = ws.length) (hL : (l1 : Int) = 1) (s1 : SlI w a1 ws) :
 Calls Tryz.prog 111 #[rq 6 pl nn wa a1 a2 l1 l2 c1 c2] w fun e w' => e = .returned (.iface 154 (.agg #[.int .i64 pl, .int .i64 (ws.getD 0 0)])) /\ Below w.heap.size w w' := by
 have B0 := bel_alloc w (.cells #[.int .i64 6, .int .i64 pl, .int .i64 nn, .slice a1 l1 c1, .slice a2 l2 c2, .int .i64 wa] 39)
 obtain ⟨b, off, rfl, hb, hc⟩ := cell_atI (s1.below B0) (show 0 < ws.length by omega)
 have hc0 : (w.alloc (.cells #[.int .i64 6, .int .i64 pl, .int .i64 nn, .slice (some ⟨b, off, none⟩) l1 c1, .slice a2 l2 c2, .int .i64 wa] 39)).cell? ⟨b, off, none⟩ = some (.int .i64 (ws.getD 0 0)) := by simpa using hc
 clear hc h1 s1
 go_enter Tryz.func111, Tryz.ntmps111
 go_wp2
 go_quiet (fail)
 go_wp2
 go_ret
 exact ⟨rfl, bel_next B0 (drew_refl _ _)⟩
theorem questionOf_22 (pl nn wa : Int) (a1 a2 : Option Addr) (l1 l2 c1 c2 : Nat) (w : World) (ws : List Int) (h1 : l1 = ws.length) (hL : (l1 : Int) = 2) (s1 : SlI w a1 ws) :
 Calls Tryz.prog 111 #[rq 22 pl nn wa a1 a2 l1 l2 c1 c2] w fun e w' => e = .returned (.iface 160 (.agg #[.int .i64 pl, .int .i64 (ws.getD 0 0), .int .i64 (ws.getD 1 0)])) /\ Below w.heap.size w w' := by
 have B0 := bel_alloc w (.cells #[.int .i64 22, .int .i64 pl, .int .i64 nn, .slice a1 l1 c1, .slice a2 l2 c2, .int .i64 wa] 39)
 obtain ⟨b, off, rfl, hb, hc⟩ := cell_atI (s1.below B0) (show 0 < ws.length by omega)
 obtain ⟨b2, off2, e2, hb2, hc2⟩ := cell_atI (s1.below B0) (show 1 < ws.length by omega)
 simp at e2
 obtain ⟨rfl, rfl⟩ := e2
 have hc0 : (w.alloc (.cells #[.int .i64 22, .int .i64 pl, .int .i64 nn, .slice (some ⟨b, off, none⟩) l1 c1, .slice a2 l2 c2, .int .i64 wa] 39)).cell? ⟨b, off, none⟩ = some (.int .i64 (ws.getD 0 0)) := by simpa using hc
 clear hc h1 s1
 go_enter Tryz.func111, Tryz.ntmps111
 go_wp2
 go_quiet (fail)
 go_wp2
 go_ret
 exact ⟨rfl, bel_next B0 (drew_refl _ _)⟩
theorem questionOf_5n (pl nn wa : Int) (a1 a2 : Option Addr) (l1 l2 c1 c2 : Nat) (w : World) (hL : ((l2 : Int) == 1) = false) :
 Calls Tryz.prog 111 #[rq 5 pl nn wa a1 a2 l1 l2 c1 c2] w fun e w' => e = .returned (.nilIface) /\ Below w.heap.size w w' := by
 have B0 := bel_alloc w (.cells #[.int .i64 5, .int .i64 pl, .int .i64 nn, .slice a1 l1 c1, .slice a2 l2 c2, .int .i64 wa] 39)
 go_enter Tryz.func111, Tryz.ntmps111
 go_wp2
 go_ret
 exact ⟨rfl, B0⟩
theorem questionOf_6n (pl nn wa : Int) (a1 a2 : Option Addr) (l1 l2 c1 c2 : Nat) (w : World) (hL : ((l1 : Int) == 1) = false) :
 Calls Tryz.prog 111 #[rq 6 pl nn wa a1 a2 l1 l2 c1 c2] w fun e w' => e = .returned (.nilIface) /\ Below w.heap.size w w' := by
 have B0 := bel_alloc w (.cells #[.int .i64 6, .int .i64 pl, .int .i64 nn, .slice a1 l1 c1, .slice a2 l2 c2, .int .i64 wa] 39)
 go_enter Tryz.func111, Tryz.ntmps111
 go_wp2
 go_ret
 exact ⟨rfl, B0⟩
theorem questionOf_22n (pl nn wa : Int) (a1 a2 : Option Addr) (l1 l2 c1 c2 : Nat) (w : World) (hL : ((l1 : Int) == 2) = false) :
 Calls Tryz.prog 111 #[rq 22 pl nn wa a1 a2 l1 l2 c1 c2] w fun e w' => e = .returned (.nilIface) /\ Below w.heap.size w w' := by
 have B0 := bel_alloc w (.cells #[.int .i64 22, .int .i64 pl, .int .i64 nn, .slice a1 l1 c1, .slice a2 l2 c2, .int .i64 wa] 39)
 go_enter Tryz.func111, Tryz.ntmps111
 go_wp2
 go_ret
 exact ⟨rfl, B0⟩
theorem questionOf_none (kd : Int) (pl nn wa : Int) (a1 a2 : Option Addr) (l1 l2 c1 c2 : Nat) (w : World) (k1 : ¬ kd = 1) (k2 : ¬ kd = 2) (k3 : ¬ kd = 3) (k4 : ¬ kd = 4) (k5 : ¬ kd = 5) (k6 : ¬ kd = 6) (k15 : ¬ kd = 15) (k16 : ¬ kd = 16) (k22 : ¬ kd = 22) (k23 : ¬ kd = 23) :
 Calls Tryz.prog 111 #[rq kd pl nn wa a1 a2 l1 l2 c1 c2] w fun e w' => e = .returned (.nilIface) /\ Below w.heap.size w w' := by
 have B0 := bel_alloc w (.cells #[.int .i64 kd, .int .i64 pl, .int .i64 nn, .slice a1 l1 c1, .slice a2 l2 c2, .int .i64 wa] 39)
 go_enter Tryz.func111, Tryz.ntmps111
 go_wp2
 go_ret
 exact ⟨rfl, B0⟩
theorem isRight_1 (pl nn : Int) (w : World) (b : Bool) (hb : (rnB pl nn 2000) = b) :
 Calls Tryz.prog 112 #[.iface 147 (.agg #[.int .i64 pl, .int .i64 nn])] w fun e w' => e = .returned (.bool b) /\ Below w.heap.size w w' := by
 have t1 := ta_1_1
 cases hR : rnB pl nn 2000
 ·skip
  have e : (rnB pl nn 2000) = false := by simp [hR]
  rw [e] at hb
  subst hb
  clear e
  go_enter Tryz.func112, Tryz.ntmps112
  go_wp2_with (first | (go_at_call 126; refine (isRun_any _ _ _ _ (by decide) _ (by first | exact hR)).mono ?_; rintro e wx ⟨rfl, rfl⟩))
  go_ret
  exact ⟨rfl, bel_alloc _ _⟩
 skip
 have e : (rnB pl nn 2000) = true := by simp [hR]
 rw [e] at hb
 subst hb
 clear e
 go_enter Tryz.func112, Tryz.ntmps112
 go_wp2_with (first | (go_at_call 126; refine (isRun_any _ _ _ _ (by decide) _ (by first | exact hR)).mono ?_; rintro e wx ⟨rfl, rfl⟩))
 go_ret
 exact ⟨rfl, bel_alloc _ _⟩
theorem isRight_2 (pl nn : Int) (w : World) (b : Bool) (hb : (rnB pl nn 2000) = b) :
 Calls Tryz.prog 112 #[.iface 148 (.agg #[.int .i64 pl, .int .i64 nn])] w fun e w' => e = .returned (.bool b) /\ Below w.heap.size w w' := by
 have t1 := ta_2_1
 have t2 := ta_2_2
 cases hR : rnB pl nn 2000
 ·skip
  have e : (rnB pl nn 2000) = false := by simp [hR]
  rw [e] at hb
  subst hb
  clear e
  go_enter Tryz.func112, Tryz.ntmps112
  go_wp2_with (first | (go_at_call 126; refine (isRun_any _ _ _ _ (by decide) _ (by first | exact hR)).mono ?_; rintro e wx ⟨rfl, rfl⟩))
  go_ret
  exact ⟨rfl, bel_alloc _ _⟩
 skip
 have e : (rnB pl nn 2000) = true := by simp [hR]
 rw [e] at hb
 subst hb
 clear e
 go_enter Tryz.func112, Tryz.ntmps112
 go_wp2_with (first | (go_at_call 126; refine (isRun_any _ _ _ _ (by decide) _ (by first | exact hR)).mono ?_; rintro e wx ⟨rfl, rfl⟩))
 go_ret
 exact ⟨rfl, bel_alloc _ _⟩
theorem isRight_3 (pl nn : Int) (w : World) (b : Bool) (hb : (rnB pl nn 125) = b) :
 Calls Tryz.prog 112 #[.iface 149 (.agg #[.int .i64 pl, .int .i64 nn])] w fun e w' => e = .returned (.bool b) /\ Below w.heap.size w w' := by
 have t1 := ta_3_1
 have t2 := ta_3_2
 have t3 := ta_3_3
 cases hR : rnB pl nn 125
 ·skip
  have e : (rnB pl nn 125) = false := by simp [hR]
  rw [e] at hb
  subst hb
  clear e
  go_enter Tryz.func112, Tryz.ntmps112
  go_wp2_with (first | (go_at_call 126; refine (isRun_any _ _ _ _ (by decide) _ (by first | exact hR)).mono ?_; rintro e wx ⟨rfl, rfl⟩))
  go_ret
  exact ⟨rfl, bel_alloc _ _⟩
 skip
 have e : (rnB pl nn 125) = true := by simp [hR]
 rw [e] at hb
 subst hb
 clear e
 go_enter Tryz.func112, Tryz.ntmps112
 go_wp2_with (first | (go_at_call 126; refine (isRun_any _ _ _ _ (by decide) _ (by first | exact hR)).mono ?_; rintro e wx ⟨rfl, rfl⟩))
 go_ret
 exact ⟨rfl, bel_alloc _ _⟩
theorem isRight_4 (pl nn : Int) (w : World) (b : Bool) (hb : (rnB pl nn 125) = b) :
 Calls Tryz.prog 112 #[.iface 150 (.agg #[.int .i64 pl, .int .i64 nn])] w fun e w' => e = .returned (.bool b) /\ Below w.heap.size w w' := by
 have t1 := ta_4_1
 have t2 := ta_4_2
 have t3 := ta_4_3
 have t4 := ta_4_4
 cases hR : rnB pl nn 125
 ·skip
  have e : (rnB pl nn 125) = false := by simp [hR]
  rw [e] at hb
  subst hb
  clear e
  go_enter Tryz.func112, Tryz.ntmps112
  go_wp2_with (first | (go_at_call 126; refine (isRun_any _ _ _ _ (by decide) _ (by first | exact hR)).mono ?_; rintro e wx ⟨rfl, rfl⟩))
  go_ret
  exact ⟨rfl, bel_alloc _ _⟩
 skip
 have e : (rnB pl nn 125) = true := by simp [hR]
 rw [e] at hb
 subst hb
 clear e
 go_enter Tryz.func112, Tryz.ntmps112
 go_wp2_with (first | (go_at_call 126; refine (isRun_any _ _ _ _ (by decide) _ (by first | exact hR)).mono ?_; rintro e wx ⟨rfl, rfl⟩))
 go_ret
 exact ⟨rfl, bel_alloc _ _⟩
theorem isRight_5 (pl : Int) (x : Bool) (w : World) (b : Bool) (hb : (inB pl 0 65535) = b) :
 Calls Tryz.prog 112 #[.iface 152 (.agg #[.int .i64 pl, .bool x])] w fun e w' => e = .returned (.bool b) /\ Below w.heap.size w w' := by
 have t1 := ta_5_1
 have t2 := ta_5_2
 have t3 := ta_5_3
 have t4 := ta_5_4
 have t5 := ta_5_5
 cases hP : inB pl 0 65535
 ·skip
  have e : (inB pl 0 65535) = false := by simp [hP]
  rw [e] at hb
  subst hb
  clear e
  go_enter Tryz.func112, Tryz.ntmps112
  go_wp2_with (first | (go_at_call 127; refine (isWord_any _ _ _ (by first | exact hP)).mono ?_; rintro e wx ⟨rfl, rfl⟩))
  go_ret
  exact ⟨rfl, bel_alloc _ _⟩
 skip
 have e : (inB pl 0 65535) = true := by simp [hP]
 rw [e] at hb
 subst hb
 clear e
 go_enter Tryz.func112, Tryz.ntmps112
 go_wp2_with (first | (go_at_call 127; refine (isWord_any _ _ _ (by first | exact hP)).mono ?_; rintro e wx ⟨rfl, rfl⟩))
 go_ret
 exact ⟨rfl, bel_alloc _ _⟩
theorem isRight_6 (pl x : Int) (w : World) (b : Bool) (hb : (inB pl 0 65535 && inB x 0 65535) = b) :
 Calls Tryz.prog 112 #[.iface 154 (.agg #[.int .i64 pl, .int .i64 x])] w fun e w' => e = .returned (.bool b) /\ Below w.heap.size w w' := by
 have t1 := ta_6_1
 have t2 := ta_6_2
 have t3 := ta_6_3
 have t4 := ta_6_4
 have t5 := ta_6_5
 have t6 := ta_6_6
 cases hP : inB pl 0 65535
 ·skip
  have e : (inB pl 0 65535 && inB x 0 65535) = false := by simp [hP]
  rw [e] at hb
  subst hb
  clear e
  go_enter Tryz.func112, Tryz.ntmps112
  go_wp2_with (first | (go_at_call 127; refine (isWord_any _ _ _ (by first | exact hP)).mono ?_; rintro e wx ⟨rfl, rfl⟩))
  go_ret
  exact ⟨rfl, bel_alloc _ _⟩
 skip
 cases hX : inB x 0 65535
 ·skip
  have e : (inB pl 0 65535 && inB x 0 65535) = false := by simp [hP, hX]
  rw [e] at hb
  subst hb
  clear e
  go_enter Tryz.func112, Tryz.ntmps112
  go_wp2_with (first | (go_at_call 127; refine (isWord_any _ _ _ (by first | exact hP | exact hX)).mono ?_; rintro e wx ⟨rfl, rfl⟩))
  go_ret
  exact ⟨rfl, bel_alloc _ _⟩
 skip
 have e : (inB pl 0 65535 && inB x 0 65535) = true := by simp [hP, hX]
 rw [e] at hb
 subst hb
 clear e
 go_enter Tryz.func112, Tryz.ntmps112
 go_wp2_with (first | (go_at_call 127; refine (isWord_any _ _ _ (by first | exact hP | exact hX)).mono ?_; rintro e wx ⟨rfl, rfl⟩))
 go_ret
 exact ⟨rfl, bel_alloc _ _⟩
theorem isRight_15 (pl : Int) (a2 : Option Addr) (l2 c2 : Nat) (w : World) (b : Bool) (hb : (rnB pl (l2 : Int) 1968) = b) :
 Calls Tryz.prog 112 #[.iface 156 (.agg #[.int .i64 pl, .slice a2 l2 c2])] w fun e w' => e = .returned (.bool b) /\ Below w.heap.size w w' := by
 have t1 := ta_15_1
 have t2 := ta_15_2
 have t3 := ta_15_3
 have t4 := ta_15_4
 have t5 := ta_15_5
 have t6 := ta_15_6
 have t15 := ta_15_15
 cases hR : rnB pl (l2 : Int) 1968
 ·skip
  have e : (rnB pl (l2 : Int) 1968) = false := by simp [hR]
  rw [e] at hb
  subst hb
  clear e
  go_enter Tryz.func112, Tryz.ntmps112
  go_wp2_with (first | (go_at_call 126; refine (isRun_any _ _ _ _ (by decide) _ (by first | exact hR)).mono ?_; rintro e wx ⟨rfl, rfl⟩))
  go_ret
  exact ⟨rfl, bel_alloc _ _⟩
 skip
 have e : (rnB pl (l2 : Int) 1968) = true := by simp [hR]
 rw [e] at hb
 subst hb
 clear e
 go_enter Tryz.func112, Tryz.ntmps112
 go_wp2_with (first | (go_at_call 126; refine (isRun_any _ _ _ _ (by decide) _ (by first | exact hR)).mono ?_; rintro e wx ⟨rfl, rfl⟩))
 go_ret
 exact ⟨rfl, bel_alloc _ _⟩
theorem isRight_16 (pl : Int) (a1 : Option Addr) (l1 c1 : Nat) (ws : List Int) (w : World) (h1 : l1 = ws.length) (s1 : SlI w a1 ws) (hl1 : ws.length <= 2000000) (b : Bool) (hb : (rnB pl (l1 : Int) 123 && allW ws) = b) :
 Calls Tryz.prog 112 #[.iface 158 (.agg #[.int .i64 pl, .slice a1 l1 c1])] w fun e w' => e = .returned (.bool b) /\ Below w.heap.size w w' := by
 have t1 := ta_16_1
 have t2 := ta_16_2
 have t3 := ta_16_3
 have t4 := ta_16_4
 have t5 := ta_16_5
 have t6 := ta_16_6
 have t15 := ta_16_15
 have t16 := ta_16_16
 have H1 : Hid (l1 = ws.length) := h1
 have S1 : Hid (SlI (w.alloc (.cells #[.int .i64 pl, .slice a1 l1 c1] 158)) a1 ws) := s1.below (bel_alloc _ _)
 clear h1 s1
 cases hR : rnB pl (l1 : Int) 123
 ·skip
  have e : (rnB pl (l1 : Int) 123 && allW ws) = false := by simp [hR]
  rw [e] at hb
  subst hb
  clear e
  go_enter Tryz.func112, Tryz.ntmps112
  go_wp2_with (first | (go_at_call 126; refine (isRun_any _ _ _ _ (by decide) _ (by first | exact hR)).mono ?_; rintro e wx ⟨rfl, rfl⟩))
  go_ret
  exact ⟨rfl, bel_alloc _ _⟩
 skip
 cases hW : allW ws
 ·skip
  have e : (rnB pl (l1 : Int) 123 && allW ws) = false := by simp [hR, hW]
  rw [e] at hb
  subst hb
  clear e
  go_enter Tryz.func112, Tryz.ntmps112
  go_wp2_with (first | (go_at_call 126; refine (isRun_any _ _ _ _ (by decide) _ (by first | exact hR)).mono ?_; rintro e wx ⟨rfl, rfl⟩) | (go_at_call 128; refine (areWords_any _ _ _ ws _ H1.out S1.out hl1 _ hW).mono ?_; rintro e wx ⟨rfl, rfl⟩))
  go_ret
  exact ⟨rfl, bel_alloc _ _⟩
 skip
 have e : (rnB pl (l1 : Int) 123 && allW ws) = true := by simp [hR, hW]
 rw [e] at hb
 subst hb
 clear e
 go_enter Tryz.func112, Tryz.ntmps112
 go_wp2_with (first | (go_at_call 126; refine (isRun_any _ _ _ _ (by decide) _ (by first | exact hR)).mono ?_; rintro e wx ⟨rfl, rfl⟩) | (go_at_call 128; refine (areWords_any _ _ _ ws _ H1.out S1.out hl1 _ hW).mono ?_; rintro e wx ⟨rfl, rfl⟩))
 go_ret
 exact ⟨rfl, bel_alloc _ _⟩
theorem isRight_22 (pl x y : Int) (w : World) (b : Bool) (hb : (inB pl 0 65535 && (inB x 0 65535 && inB y 0 65535)) = b) :
 Calls Tryz.prog 112 #[.iface 160 (.agg #[.int .i64 pl, .int .i64 x, .int .i64 y])] w fun e w' => e = .returned (.bool b) /\ Below w.heap.size w w' := by
 have t1 := ta_22_1
 have t2 := ta_22_2
 have t3 := ta_22_3
 have t4 := ta_22_4
 have t5 := ta_22_5
 have t6 := ta_22_6
 have t15 := ta_22_15
 have t16 := ta_22_16
 have t22 := ta_22_22
 cases hP : inB pl 0 65535
 ·skip
  have e : (inB pl 0 65535 && (inB x 0 65535 && inB y 0 65535)) = false := by simp [hP]
  rw [e] at hb
  subst hb
  clear e
  go_enter Tryz.func112, Tryz.ntmps112
  go_wp2_with (first | (go_at_call 127; refine (isWord_any _ _ _ (by first | exact hP)).mono ?_; rintro e wx ⟨rfl, rfl⟩))
  go_ret
  exact ⟨rfl, bel_alloc _ _⟩
 skip
 cases hX : inB x 0 65535
 ·skip
  have e : (inB pl 0 65535 && (inB x 0 65535 && inB y 0 65535)) = false := by simp [hP, hX]
  rw [e] at hb
  subst hb
  clear e
  go_enter Tryz.func112, Tryz.ntmps112
  go_wp2_with (first | (go_at_call 127; refine (isWord_any _ _ _ (by first | exact hP | exact hX)).mono ?_; rintro e wx ⟨rfl, rfl⟩))
  go_ret
  exact ⟨rfl, bel_alloc _ _⟩
 skip
 cases hY : inB y 0 65535
 ·skip
  have e : (inB pl 0 65535 && (inB x 0 65535 && inB y 0 65535)) = false := by simp [hP, hX, hY]
  rw [e] at hb
  subst hb
  clear e
  go_enter Tryz.func112, Tryz.ntmps112
  go_wp2_with (first | (go_at_call 127; refine (isWord_any _ _ _ (by first | exact hP | exact hX | exact hY)).mono ?_; rintro e wx ⟨rfl, rfl⟩))
  go_ret
  exact ⟨rfl, bel_alloc _ _⟩
 skip
 have e : (inB pl 0 65535 && (inB x 0 65535 && inB y 0 65535)) = true := by simp [hP, hX, hY]
 rw [e] at hb
 subst hb
 clear e
 go_enter Tryz.func112, Tryz.ntmps112
 go_wp2_with (first | (go_at_call 127; refine (isWord_any _ _ _ (by first | exact hP | exact hX | exact hY)).mono ?_; rintro e wx ⟨rfl, rfl⟩))
 go_ret
 exact ⟨rfl, bel_alloc _ _⟩
theorem isRight_23 (pl nn wa : Int) (a1 : Option Addr) (l1 c1 : Nat) (ws : List Int) (w : World) (h1 : l1 = ws.length) (s1 : SlI w a1 ws) (hl1 : ws.length <= 2000000) (b : Bool) (hb : (rnB pl nn 125 && (rnB wa (l1 : Int) 121 && allW ws)) = b) :
 Calls Tryz.prog 112 #[.iface 162 (.agg #[.int .i64 pl, .int .i64 nn, .int .i64 wa, .slice a1 l1 c1])] w fun e w' => e = .returned (.bool b) /\ Below w.heap.size w w' := by
 have t1 := ta_23_1
 have t2 := ta_23_2
 have t3 := ta_23_3
 have t4 := ta_23_4
 have t5 := ta_23_5
 have t6 := ta_23_6
 have t15 := ta_23_15
 have t16 := ta_23_16
 have t22 := ta_23_22
 have t23 := ta_23_23
 have H1 : Hid (l1 = ws.length) := h1
 have S1 : Hid (SlI (w.alloc (.cells #[.int .i64 pl, .int .i64 nn, .int .i64 wa, .slice a1 l1 c1] 162)) a1 ws) := s1.below (bel_alloc _ _)
 clear h1 s1
 cases hR : rnB pl nn 125
 ·skip
  have e : (rnB pl nn 125 && (rnB wa (l1 : Int) 121 && allW ws)) = false := by simp [hR]
  rw [e] at hb
  subst hb
  clear e
  go_enter Tryz.func112, Tryz.ntmps112
  go_wp2_with (first | (go_at_call 126; refine (isRun_any _ _ _ _ (by decide) _ (by first | exact hR)).mono ?_; rintro e wx ⟨rfl, rfl⟩))
  go_ret
  exact ⟨rfl, bel_alloc _ _⟩
 skip
 cases hQ : rnB wa (l1 : Int) 121
 ·skip
  have e : (rnB pl nn 125 && (rnB wa (l1 : Int) 121 && allW ws)) = false := by simp [hR, hQ]
  rw [e] at hb
  subst hb
  clear e
  go_enter Tryz.func112, Tryz.ntmps112
  go_wp2_with (first | (go_at_call 126; refine (isRun_any _ _ _ _ (by decide) _ (by first | exact hR | exact hQ)).mono ?_; rintro e wx ⟨rfl, rfl⟩))
  go_ret
  exact ⟨rfl, bel_alloc _ _⟩
 skip
 cases hW : allW ws
 ·skip
  have e : (rnB pl nn 125 && (rnB wa (l1 : Int) 121 && allW ws)) = false := by simp [hR, hQ, hW]
  rw [e] at hb
  subst hb
  clear e
  go_enter Tryz.func112, Tryz.ntmps112
  go_wp2_with (first | (go_at_call 126; refine (isRun_any _ _ _ _ (by decide) _ (by first | exact hR | exact hQ)).mono ?_; rintro e wx ⟨rfl, rfl⟩) | (go_at_call 128; refine (areWords_any _ _ _ ws _ H1.out S1.out hl1 _ hW).mono ?_; rintro e wx ⟨rfl, rfl⟩))
  go_ret
  exact ⟨rfl, bel_alloc _ _⟩
 skip
 have e : (rnB pl nn 125 && (rnB wa (l1 : Int) 121 && allW ws)) = true := by simp [hR, hQ, hW]
 rw [e] at hb
 subst hb
 clear e
 go_enter Tryz.func112, Tryz.ntmps112
 go_wp2_with (first | (go_at_call 126; refine (isRun_any _ _ _ _ (by decide) _ (by first | exact hR | exact hQ)).mono ?_; rintro e wx ⟨rfl, rfl⟩) | (go_at_call 128; refine (areWords_any _ _ _ ws _ H1.out S1.out hl1 _ hW).mono ?_; rintro e wx ⟨rfl, rfl⟩))
 go_ret
 exact ⟨rfl, bel_alloc _ _⟩
theorem isRight_n (w : World) : Calls Tryz.prog 112 #[.nilIface] w fun e w' => e = .returned (.bool false) /\ Below w.heap.size w w' := by
 have t1 := ta_n_1
 have t2 := ta_n_2
 have t3 := ta_n_3
 have t4 := ta_n_4
 have t5 := ta_n_5
 have t6 := ta_n_6
 have t15 := ta_n_15
 have t16 := ta_n_16
 have t22 := ta_n_22
 have t23 := ta_n_23
 go_enter Tryz.func112, Tryz.ntmps112
 go_wp2
 go_ret
 exact ⟨rfl, Below.refl _ _⟩
end Go.Proofs.YtlhjiiifmfgnoaaGreat
