/- A question is right, and the places that it touches: both sides. -/
import Derived.Test.YtaaokbmfpfmfgaaQ5
namespace Go.Proofs.Ytaaokbmfpfmfgaa
open Go.RowKit

set_option linter.unusedVariables false

set_option linter.unusedSimpArgs false

abbrev WfQ (kd pl nn wa : Int) (ws : List Int) : Prop := (∀ n ∈ ws, -9223372036854775808 ≤ n ∧ n ≤ 9223372036854775807) ∧ (Lit.int .i64 kd).wf = true ∧ (Lit.int .i64 pl).wf = true ∧ (Lit.int .i64 nn).wf = true ∧ (Lit.int .i64 wa).wf = true

theorem specReqOk_q (kd pl nn wa : Int) (a1 a2 : Option Addr) (l1 l2 c1 c2 : Nat) (ws : List Int) (bs : List Bool) (w : World) (h1 : l1 = ws.length) (h2 : l2 = bs.length) (s1 : SlI w a1 ws) (s2 : SlB w a2 bs) (hl1 : ws.length ≤ 2000000) (hl2 : bs.length ≤ 2000000) :
    Calls Try.prog 20 #[rq kd pl nn wa a1 a2 l1 l2 c1 c2] w fun e w' => e = .returned (.bool (okR kd pl nn wa ws l1 l2)) ∧ Below w.heap.size w w' :=
  specReqOk_any kd pl nn wa a1 a2 l1 l2 c1 c2 ws w h1 s1 hl1 (by omega) _ rfl

theorem neq_if (T : TypeId) (v : Value) (w : World) : (binOp .neq 76 (.iface T v) .nilIface).run Try.prog w = .ok (.bool true) w := by kernel_rfl

theorem neq_nil (w : World) : (binOp .neq 76 .nilIface .nilIface).run Try.prog w = .ok (.bool false) w := by kernel_rfl

set_option maxHeartbeats 2000000 in
theorem implReqOk_if (kd pl nn wa : Int) (a1 a2 : Option Addr) (l1 l2 c1 c2 : Nat) (w : World) (b : Bool) (T : TypeId) (v : Value)
    (hq : ∀ u, Below w.heap.size w u → Calls Try.prog 44 #[rq kd pl nn wa a1 a2 l1 l2 c1 c2] u fun e u' => e = .returned (bif b then .iface T v else .nilIface) ∧ Below u.heap.size u u') :
    Calls Try.prog 12 #[rq kd pl nn wa a1 a2 l1 l2 c1 c2] w fun e w' => e = .returned (.bool b) ∧ Below w.heap.size w w' := by
  have B0 := bel_alloc w (.cells #[.int .i64 kd, .int .i64 pl, .int .i64 nn, .slice a1 l1 c1, .slice a2 l2 c2, .int .i64 wa] 28)
  have q1 := neq_if T v
  have q2 := neq_nil
  go_enter Try.func12, Try.ntmps12
  go_wp2_with fail
  refine (hq _ B0).mono ?_
  rintro e w1 ⟨rfl, b'⟩
  have B1 := bel_next B0 b'
  clear hq
  cases b
  · simp only [cond_false]
    go_wp2
    go_ret
    exact ⟨rfl, B1⟩
  · simp only [cond_true]
    go_wp2
    go_ret
    exact ⟨rfl, B1⟩

theorem okR_kind {kd pl nn wa : Int} {ws : List Int} {l1 l2 : Nat} (h : okR kd pl nn wa ws l1 l2 = true) : kd = 1 ∨ kd = 2 ∨ kd = 3 ∨ kd = 4 ∨ kd = 5 ∨ kd = 6 ∨ kd = 15 ∨ kd = 16 ∨ kd = 22 ∨ kd = 23 := by
  by_cases hk : kd = 1 ∨ kd = 2 ∨ kd = 3 ∨ kd = 4 ∨ kd = 5 ∨ kd = 6 ∨ kd = 15 ∨ kd = 16 ∨ kd = 22 ∨ kd = 23
  · exact hk
  · have e : okR kd pl nn wa ws l1 l2 = false := by
      have k1 : ¬ kd = 1 := by omega
      have k2 : ¬ kd = 2 := by omega
      have k3 : ¬ kd = 3 := by omega
      have k4 : ¬ kd = 4 := by omega
      have k5 : ¬ kd = 5 := by omega
      have k6 : ¬ kd = 6 := by omega
      have k7 : ¬ kd = 15 := by omega
      have k8 : ¬ kd = 16 := by omega
      have k9 : ¬ kd = 22 := by omega
      have k10 : ¬ kd = 23 := by omega
      simp [okR, okK, k1, k2, k3, k4, k5, k6, k7, k8, k9, k10]
    rw [e] at h
    cases h

theorem implReqOk_q (kd pl nn wa : Int) (a1 a2 : Option Addr) (l1 l2 c1 c2 : Nat) (ws : List Int) (bs : List Bool) (w : World) (h1 : l1 = ws.length) (h2 : l2 = bs.length) (s1 : SlI w a1 ws) (s2 : SlB w a2 bs) (hl1 : ws.length ≤ 2000000) (hl2 : bs.length ≤ 2000000) :
    Calls Try.prog 12 #[rq kd pl nn wa a1 a2 l1 l2 c1 c2] w fun e w' => e = .returned (.bool (okR kd pl nn wa ws l1 l2)) ∧ Below w.heap.size w w' := by
  by_cases hk : kd = 1 ∨ kd = 2 ∨ kd = 3 ∨ kd = 4 ∨ kd = 5 ∨ kd = 6 ∨ kd = 15 ∨ kd = 16 ∨ kd = 22 ∨ kd = 23
  · obtain rfl | rfl | rfl | rfl | rfl | rfl | rfl | rfl | rfl | rfl := hk
    · exact implReqOk_if 1 pl nn wa a1 a2 l1 l2 c1 c2 w _ _ _ (fun u hu => rightQuestion_1 pl nn wa a1 a2 l1 l2 c1 c2 ws bs u h1 h2 (s1.below hu) (s2.below hu) hl1 hl2 _ rfl)
    · exact implReqOk_if 2 pl nn wa a1 a2 l1 l2 c1 c2 w _ _ _ (fun u hu => rightQuestion_2 pl nn wa a1 a2 l1 l2 c1 c2 ws bs u h1 h2 (s1.below hu) (s2.below hu) hl1 hl2 _ rfl)
    · exact implReqOk_if 3 pl nn wa a1 a2 l1 l2 c1 c2 w _ _ _ (fun u hu => rightQuestion_3 pl nn wa a1 a2 l1 l2 c1 c2 ws bs u h1 h2 (s1.below hu) (s2.below hu) hl1 hl2 _ rfl)
    · exact implReqOk_if 4 pl nn wa a1 a2 l1 l2 c1 c2 w _ _ _ (fun u hu => rightQuestion_4 pl nn wa a1 a2 l1 l2 c1 c2 ws bs u h1 h2 (s1.below hu) (s2.below hu) hl1 hl2 _ rfl)
    · exact implReqOk_if 5 pl nn wa a1 a2 l1 l2 c1 c2 w _ _ _ (fun u hu => rightQuestion_5 pl nn wa a1 a2 l1 l2 c1 c2 ws bs u h1 h2 (s1.below hu) (s2.below hu) hl1 hl2 _ rfl)
    · exact implReqOk_if 6 pl nn wa a1 a2 l1 l2 c1 c2 w _ _ _ (fun u hu => rightQuestion_6 pl nn wa a1 a2 l1 l2 c1 c2 ws bs u h1 h2 (s1.below hu) (s2.below hu) hl1 hl2 _ rfl)
    · exact implReqOk_if 15 pl nn wa a1 a2 l1 l2 c1 c2 w _ _ _ (fun u hu => rightQuestion_15 pl nn wa a1 a2 l1 l2 c1 c2 ws bs u h1 h2 (s1.below hu) (s2.below hu) hl1 hl2 _ rfl)
    · exact implReqOk_if 16 pl nn wa a1 a2 l1 l2 c1 c2 w _ _ _ (fun u hu => rightQuestion_16 pl nn wa a1 a2 l1 l2 c1 c2 ws bs u h1 h2 (s1.below hu) (s2.below hu) hl1 hl2 _ rfl)
    · exact implReqOk_if 22 pl nn wa a1 a2 l1 l2 c1 c2 w _ _ _ (fun u hu => rightQuestion_22 pl nn wa a1 a2 l1 l2 c1 c2 ws bs u h1 h2 (s1.below hu) (s2.below hu) hl1 hl2 _ rfl)
    · exact implReqOk_if 23 pl nn wa a1 a2 l1 l2 c1 c2 w _ _ _ (fun u hu => rightQuestion_23 pl nn wa a1 a2 l1 l2 c1 c2 ws bs u h1 h2 (s1.below hu) (s2.below hu) hl1 hl2 _ rfl)
  · have e : okR kd pl nn wa ws l1 l2 = false := by
      cases e : okR kd pl nn wa ws l1 l2
      · rfl
      · exact absurd (okR_kind e) hk
    rw [e]
    exact implReqOk_if kd pl nn wa a1 a2 l1 l2 c1 c2 w false 0 .nilIface (fun u hu => rightQuestion_none kd pl nn wa a1 a2 l1 l2 c1 c2 ws bs u h1 h2 (s1.below hu) (s2.below hu) hl1 hl2 (by omega) (by omega) (by omega) (by omega) (by omega) (by omega) (by omega) (by omega) (by omega) (by omega))

def spcN (kd nn : Int) (l1 l2 : Nat) : Int := if kd = 5 ∨ kd = 15 then l2 else if kd = 6 ∨ kd = 22 then 1 else if kd = 16 then l1 else nn

def spc0 (kd : Int) : Int := if kd = 1 ∨ kd = 5 ∨ kd = 15 then 0 else if kd = 2 then 1 else if kd = 4 then 3 else 2

/-- What Spaces tells. -/
def spcV (b : Bool) (kd pl nn : Int) (l1 l2 : Nat) : Value := bif b then .tuple #[.int .i64 (spc0 kd), .int .i64 pl, .int .i64 (spcN kd nn l1 l2)] else .tuple #[.int .i64 (-1), .int .i64 0, .int .i64 0]

set_option maxHeartbeats 2000000 in
theorem specSpaces_no (kd : Int) (pl nn wa : Int) (a1 a2 : Option Addr) (l1 l2 c1 c2 : Nat) (ws : List Int) (bs : List Bool) (w : World) (h1 : l1 = ws.length) (h2 : l2 = bs.length) (s1 : SlI w a1 ws) (s2 : SlB w a2 bs) (hl1 : ws.length ≤ 2000000) (hl2 : bs.length ≤ 2000000) (hb : okR kd pl nn wa ws l1 l2 = false) :
    Calls Try.prog 40 #[rq kd pl nn wa a1 a2 l1 l2 c1 c2] w fun e w' => e = .returned (spcV false kd pl nn l1 l2) ∧ Below w.heap.size w w' := by
  have B0 := bel_alloc w (.cells #[.int .i64 kd, .int .i64 pl, .int .i64 nn, .slice a1 l1 c1, .slice a2 l2 c2, .int .i64 wa] 28)
  have X0 := Blk.new w #[.int .i64 kd, .int .i64 pl, .int .i64 nn, .slice a1 l1 c1, .slice a2 l2 c2, .int .i64 wa] 28
  have H1 : Hid (l1 = ws.length ∧ l2 = bs.length) := ⟨h1, h2⟩
  have S1 : Hid (SlI w a1 ws ∧ SlB w a2 bs) := ⟨s1, s2⟩
  obtain ⟨x0, x1, x2, x3, x4, x5⟩ := X0.six
  clear h1 h2 s1 s2
  go_enter Try.func40, Try.ntmps40
  go_wp2_with fail
  refine (specReqOk_q kd pl nn wa a1 a2 l1 l2 c1 c2 ws bs _ H1.out.1 H1.out.2 (S1.out.1.below B0) (S1.out.2.below B0) hl1 hl2).mono ?_
  rintro e w1 ⟨rfl, b'⟩
  rw [hb]
  have B1 := bel_next B0 b'
  obtain ⟨y0, y1, y2, y3, y4, y5⟩ := (X0.below b').six
  clear X0 x0 x1 x2 x3 x4 x5
  go_wp2
  refine bodyPost_ret (v := .tuple #[.int .i64 (-1), .int .i64 0, .int .i64 0]) (by simp [results, Try.results40, go_sem]) rfl ?_
  exact ⟨rfl, B1⟩

set_option maxHeartbeats 2000000 in
theorem specSpaces_1 (pl nn wa : Int) (a1 a2 : Option Addr) (l1 l2 c1 c2 : Nat) (ws : List Int) (bs : List Bool) (w : World) (h1 : l1 = ws.length) (h2 : l2 = bs.length) (s1 : SlI w a1 ws) (s2 : SlB w a2 bs) (hl1 : ws.length ≤ 2000000) (hl2 : bs.length ≤ 2000000) (hb : okR 1 pl nn wa ws l1 l2 = true) :
    Calls Try.prog 40 #[rq 1 pl nn wa a1 a2 l1 l2 c1 c2] w fun e w' => e = .returned (spcV true 1 pl nn l1 l2) ∧ Below w.heap.size w w' := by
  have B0 := bel_alloc w (.cells #[.int .i64 1, .int .i64 pl, .int .i64 nn, .slice a1 l1 c1, .slice a2 l2 c2, .int .i64 wa] 28)
  have X0 := Blk.new w #[.int .i64 1, .int .i64 pl, .int .i64 nn, .slice a1 l1 c1, .slice a2 l2 c2, .int .i64 wa] 28
  have H1 : Hid (l1 = ws.length ∧ l2 = bs.length) := ⟨h1, h2⟩
  have S1 : Hid (SlI w a1 ws ∧ SlB w a2 bs) := ⟨s1, s2⟩
  obtain ⟨x0, x1, x2, x3, x4, x5⟩ := X0.six
  clear h1 h2 s1 s2
  go_enter Try.func40, Try.ntmps40
  go_wp2_with fail
  refine (specReqOk_q 1 pl nn wa a1 a2 l1 l2 c1 c2 ws bs _ H1.out.1 H1.out.2 (S1.out.1.below B0) (S1.out.2.below B0) hl1 hl2).mono ?_
  rintro e w1 ⟨rfl, b'⟩
  rw [hb]
  have B1 := bel_next B0 b'
  obtain ⟨y0, y1, y2, y3, y4, y5⟩ := (X0.below b').six
  clear X0 x0 x1 x2 x3 x4 x5
  go_wp2
  go_quiet (fail)
  go_wp2
  refine bodyPost_ret (v := .tuple #[.int .i64 0, .int .i64 pl, .int .i64 nn]) (by simp [results, Try.results40, go_sem]) rfl ?_
  exact ⟨rfl, bel_next B1 (drew_refl _ _)⟩

set_option maxHeartbeats 2000000 in
theorem specSpaces_2 (pl nn wa : Int) (a1 a2 : Option Addr) (l1 l2 c1 c2 : Nat) (ws : List Int) (bs : List Bool) (w : World) (h1 : l1 = ws.length) (h2 : l2 = bs.length) (s1 : SlI w a1 ws) (s2 : SlB w a2 bs) (hl1 : ws.length ≤ 2000000) (hl2 : bs.length ≤ 2000000) (hb : okR 2 pl nn wa ws l1 l2 = true) :
    Calls Try.prog 40 #[rq 2 pl nn wa a1 a2 l1 l2 c1 c2] w fun e w' => e = .returned (spcV true 2 pl nn l1 l2) ∧ Below w.heap.size w w' := by
  have B0 := bel_alloc w (.cells #[.int .i64 2, .int .i64 pl, .int .i64 nn, .slice a1 l1 c1, .slice a2 l2 c2, .int .i64 wa] 28)
  have X0 := Blk.new w #[.int .i64 2, .int .i64 pl, .int .i64 nn, .slice a1 l1 c1, .slice a2 l2 c2, .int .i64 wa] 28
  have H1 : Hid (l1 = ws.length ∧ l2 = bs.length) := ⟨h1, h2⟩
  have S1 : Hid (SlI w a1 ws ∧ SlB w a2 bs) := ⟨s1, s2⟩
  obtain ⟨x0, x1, x2, x3, x4, x5⟩ := X0.six
  clear h1 h2 s1 s2
  go_enter Try.func40, Try.ntmps40
  go_wp2_with fail
  refine (specReqOk_q 2 pl nn wa a1 a2 l1 l2 c1 c2 ws bs _ H1.out.1 H1.out.2 (S1.out.1.below B0) (S1.out.2.below B0) hl1 hl2).mono ?_
  rintro e w1 ⟨rfl, b'⟩
  rw [hb]
  have B1 := bel_next B0 b'
  obtain ⟨y0, y1, y2, y3, y4, y5⟩ := (X0.below b').six
  clear X0 x0 x1 x2 x3 x4 x5
  go_wp2
  go_quiet (fail)
  go_wp2
  refine bodyPost_ret (v := .tuple #[.int .i64 1, .int .i64 pl, .int .i64 nn]) (by simp [results, Try.results40, go_sem]) rfl ?_
  exact ⟨rfl, bel_next B1 (drew_refl _ _)⟩

set_option maxHeartbeats 2000000 in
theorem specSpaces_3 (pl nn wa : Int) (a1 a2 : Option Addr) (l1 l2 c1 c2 : Nat) (ws : List Int) (bs : List Bool) (w : World) (h1 : l1 = ws.length) (h2 : l2 = bs.length) (s1 : SlI w a1 ws) (s2 : SlB w a2 bs) (hl1 : ws.length ≤ 2000000) (hl2 : bs.length ≤ 2000000) (hb : okR 3 pl nn wa ws l1 l2 = true) :
    Calls Try.prog 40 #[rq 3 pl nn wa a1 a2 l1 l2 c1 c2] w fun e w' => e = .returned (spcV true 3 pl nn l1 l2) ∧ Below w.heap.size w w' := by
  have B0 := bel_alloc w (.cells #[.int .i64 3, .int .i64 pl, .int .i64 nn, .slice a1 l1 c1, .slice a2 l2 c2, .int .i64 wa] 28)
  have X0 := Blk.new w #[.int .i64 3, .int .i64 pl, .int .i64 nn, .slice a1 l1 c1, .slice a2 l2 c2, .int .i64 wa] 28
  have H1 : Hid (l1 = ws.length ∧ l2 = bs.length) := ⟨h1, h2⟩
  have S1 : Hid (SlI w a1 ws ∧ SlB w a2 bs) := ⟨s1, s2⟩
  obtain ⟨x0, x1, x2, x3, x4, x5⟩ := X0.six
  clear h1 h2 s1 s2
  go_enter Try.func40, Try.ntmps40
  go_wp2_with fail
  refine (specReqOk_q 3 pl nn wa a1 a2 l1 l2 c1 c2 ws bs _ H1.out.1 H1.out.2 (S1.out.1.below B0) (S1.out.2.below B0) hl1 hl2).mono ?_
  rintro e w1 ⟨rfl, b'⟩
  rw [hb]
  have B1 := bel_next B0 b'
  obtain ⟨y0, y1, y2, y3, y4, y5⟩ := (X0.below b').six
  clear X0 x0 x1 x2 x3 x4 x5
  go_wp2
  go_quiet (fail)
  go_wp2
  refine bodyPost_ret (v := .tuple #[.int .i64 2, .int .i64 pl, .int .i64 nn]) (by simp [results, Try.results40, go_sem]) rfl ?_
  exact ⟨rfl, bel_next B1 (drew_refl _ _)⟩

set_option maxHeartbeats 2000000 in
theorem specSpaces_4 (pl nn wa : Int) (a1 a2 : Option Addr) (l1 l2 c1 c2 : Nat) (ws : List Int) (bs : List Bool) (w : World) (h1 : l1 = ws.length) (h2 : l2 = bs.length) (s1 : SlI w a1 ws) (s2 : SlB w a2 bs) (hl1 : ws.length ≤ 2000000) (hl2 : bs.length ≤ 2000000) (hb : okR 4 pl nn wa ws l1 l2 = true) :
    Calls Try.prog 40 #[rq 4 pl nn wa a1 a2 l1 l2 c1 c2] w fun e w' => e = .returned (spcV true 4 pl nn l1 l2) ∧ Below w.heap.size w w' := by
  have B0 := bel_alloc w (.cells #[.int .i64 4, .int .i64 pl, .int .i64 nn, .slice a1 l1 c1, .slice a2 l2 c2, .int .i64 wa] 28)
  have X0 := Blk.new w #[.int .i64 4, .int .i64 pl, .int .i64 nn, .slice a1 l1 c1, .slice a2 l2 c2, .int .i64 wa] 28
  have H1 : Hid (l1 = ws.length ∧ l2 = bs.length) := ⟨h1, h2⟩
  have S1 : Hid (SlI w a1 ws ∧ SlB w a2 bs) := ⟨s1, s2⟩
  obtain ⟨x0, x1, x2, x3, x4, x5⟩ := X0.six
  clear h1 h2 s1 s2
  go_enter Try.func40, Try.ntmps40
  go_wp2_with fail
  refine (specReqOk_q 4 pl nn wa a1 a2 l1 l2 c1 c2 ws bs _ H1.out.1 H1.out.2 (S1.out.1.below B0) (S1.out.2.below B0) hl1 hl2).mono ?_
  rintro e w1 ⟨rfl, b'⟩
  rw [hb]
  have B1 := bel_next B0 b'
  obtain ⟨y0, y1, y2, y3, y4, y5⟩ := (X0.below b').six
  clear X0 x0 x1 x2 x3 x4 x5
  go_wp2
  go_quiet (fail)
  go_wp2
  refine bodyPost_ret (v := .tuple #[.int .i64 3, .int .i64 pl, .int .i64 nn]) (by simp [results, Try.results40, go_sem]) rfl ?_
  exact ⟨rfl, bel_next B1 (drew_refl _ _)⟩

set_option maxHeartbeats 2000000 in
theorem specSpaces_5 (pl nn wa : Int) (a1 a2 : Option Addr) (l1 l2 c1 c2 : Nat) (ws : List Int) (bs : List Bool) (w : World) (h1 : l1 = ws.length) (h2 : l2 = bs.length) (s1 : SlI w a1 ws) (s2 : SlB w a2 bs) (hl1 : ws.length ≤ 2000000) (hl2 : bs.length ≤ 2000000) (hb : okR 5 pl nn wa ws l1 l2 = true) :
    Calls Try.prog 40 #[rq 5 pl nn wa a1 a2 l1 l2 c1 c2] w fun e w' => e = .returned (spcV true 5 pl nn l1 l2) ∧ Below w.heap.size w w' := by
  have B0 := bel_alloc w (.cells #[.int .i64 5, .int .i64 pl, .int .i64 nn, .slice a1 l1 c1, .slice a2 l2 c2, .int .i64 wa] 28)
  have X0 := Blk.new w #[.int .i64 5, .int .i64 pl, .int .i64 nn, .slice a1 l1 c1, .slice a2 l2 c2, .int .i64 wa] 28
  have H1 : Hid (l1 = ws.length ∧ l2 = bs.length) := ⟨h1, h2⟩
  have S1 : Hid (SlI w a1 ws ∧ SlB w a2 bs) := ⟨s1, s2⟩
  obtain ⟨x0, x1, x2, x3, x4, x5⟩ := X0.six
  clear h1 h2 s1 s2
  go_enter Try.func40, Try.ntmps40
  go_wp2_with fail
  refine (specReqOk_q 5 pl nn wa a1 a2 l1 l2 c1 c2 ws bs _ H1.out.1 H1.out.2 (S1.out.1.below B0) (S1.out.2.below B0) hl1 hl2).mono ?_
  rintro e w1 ⟨rfl, b'⟩
  rw [hb]
  have B1 := bel_next B0 b'
  obtain ⟨y0, y1, y2, y3, y4, y5⟩ := (X0.below b').six
  clear X0 x0 x1 x2 x3 x4 x5
  go_wp2
  go_quiet (fail)
  go_wp2
  refine bodyPost_ret (v := .tuple #[.int .i64 0, .int .i64 pl, .int .i64 (l2 : Int)]) (by simp [results, Try.results40, go_sem]) rfl ?_
  exact ⟨rfl, bel_next B1 (drew_refl _ _)⟩

set_option maxHeartbeats 2000000 in
theorem specSpaces_6 (pl nn wa : Int) (a1 a2 : Option Addr) (l1 l2 c1 c2 : Nat) (ws : List Int) (bs : List Bool) (w : World) (h1 : l1 = ws.length) (h2 : l2 = bs.length) (s1 : SlI w a1 ws) (s2 : SlB w a2 bs) (hl1 : ws.length ≤ 2000000) (hl2 : bs.length ≤ 2000000) (hb : okR 6 pl nn wa ws l1 l2 = true) :
    Calls Try.prog 40 #[rq 6 pl nn wa a1 a2 l1 l2 c1 c2] w fun e w' => e = .returned (spcV true 6 pl nn l1 l2) ∧ Below w.heap.size w w' := by
  have B0 := bel_alloc w (.cells #[.int .i64 6, .int .i64 pl, .int .i64 nn, .slice a1 l1 c1, .slice a2 l2 c2, .int .i64 wa] 28)
  have X0 := Blk.new w #[.int .i64 6, .int .i64 pl, .int .i64 nn, .slice a1 l1 c1, .slice a2 l2 c2, .int .i64 wa] 28
  have H1 : Hid (l1 = ws.length ∧ l2 = bs.length) := ⟨h1, h2⟩
  have S1 : Hid (SlI w a1 ws ∧ SlB w a2 bs) := ⟨s1, s2⟩
  obtain ⟨x0, x1, x2, x3, x4, x5⟩ := X0.six
  clear h1 h2 s1 s2
  go_enter Try.func40, Try.ntmps40
  go_wp2_with fail
  refine (specReqOk_q 6 pl nn wa a1 a2 l1 l2 c1 c2 ws bs _ H1.out.1 H1.out.2 (S1.out.1.below B0) (S1.out.2.below B0) hl1 hl2).mono ?_
  rintro e w1 ⟨rfl, b'⟩
  rw [hb]
  have B1 := bel_next B0 b'
  obtain ⟨y0, y1, y2, y3, y4, y5⟩ := (X0.below b').six
  clear X0 x0 x1 x2 x3 x4 x5
  go_wp2
  go_quiet (fail)
  go_wp2
  refine bodyPost_ret (v := .tuple #[.int .i64 2, .int .i64 pl, .int .i64 1]) (by simp [results, Try.results40, go_sem]) rfl ?_
  exact ⟨rfl, bel_next B1 (drew_refl _ _)⟩

set_option maxHeartbeats 2000000 in
theorem specSpaces_15 (pl nn wa : Int) (a1 a2 : Option Addr) (l1 l2 c1 c2 : Nat) (ws : List Int) (bs : List Bool) (w : World) (h1 : l1 = ws.length) (h2 : l2 = bs.length) (s1 : SlI w a1 ws) (s2 : SlB w a2 bs) (hl1 : ws.length ≤ 2000000) (hl2 : bs.length ≤ 2000000) (hb : okR 15 pl nn wa ws l1 l2 = true) :
    Calls Try.prog 40 #[rq 15 pl nn wa a1 a2 l1 l2 c1 c2] w fun e w' => e = .returned (spcV true 15 pl nn l1 l2) ∧ Below w.heap.size w w' := by
  have B0 := bel_alloc w (.cells #[.int .i64 15, .int .i64 pl, .int .i64 nn, .slice a1 l1 c1, .slice a2 l2 c2, .int .i64 wa] 28)
  have X0 := Blk.new w #[.int .i64 15, .int .i64 pl, .int .i64 nn, .slice a1 l1 c1, .slice a2 l2 c2, .int .i64 wa] 28
  have H1 : Hid (l1 = ws.length ∧ l2 = bs.length) := ⟨h1, h2⟩
  have S1 : Hid (SlI w a1 ws ∧ SlB w a2 bs) := ⟨s1, s2⟩
  obtain ⟨x0, x1, x2, x3, x4, x5⟩ := X0.six
  clear h1 h2 s1 s2
  go_enter Try.func40, Try.ntmps40
  go_wp2_with fail
  refine (specReqOk_q 15 pl nn wa a1 a2 l1 l2 c1 c2 ws bs _ H1.out.1 H1.out.2 (S1.out.1.below B0) (S1.out.2.below B0) hl1 hl2).mono ?_
  rintro e w1 ⟨rfl, b'⟩
  rw [hb]
  have B1 := bel_next B0 b'
  obtain ⟨y0, y1, y2, y3, y4, y5⟩ := (X0.below b').six
  clear X0 x0 x1 x2 x3 x4 x5
  go_wp2
  go_quiet (fail)
  go_wp2
  refine bodyPost_ret (v := .tuple #[.int .i64 0, .int .i64 pl, .int .i64 (l2 : Int)]) (by simp [results, Try.results40, go_sem]) rfl ?_
  exact ⟨rfl, bel_next B1 (drew_refl _ _)⟩

set_option maxHeartbeats 2000000 in
theorem specSpaces_16 (pl nn wa : Int) (a1 a2 : Option Addr) (l1 l2 c1 c2 : Nat) (ws : List Int) (bs : List Bool) (w : World) (h1 : l1 = ws.length) (h2 : l2 = bs.length) (s1 : SlI w a1 ws) (s2 : SlB w a2 bs) (hl1 : ws.length ≤ 2000000) (hl2 : bs.length ≤ 2000000) (hb : okR 16 pl nn wa ws l1 l2 = true) :
    Calls Try.prog 40 #[rq 16 pl nn wa a1 a2 l1 l2 c1 c2] w fun e w' => e = .returned (spcV true 16 pl nn l1 l2) ∧ Below w.heap.size w w' := by
  have B0 := bel_alloc w (.cells #[.int .i64 16, .int .i64 pl, .int .i64 nn, .slice a1 l1 c1, .slice a2 l2 c2, .int .i64 wa] 28)
  have X0 := Blk.new w #[.int .i64 16, .int .i64 pl, .int .i64 nn, .slice a1 l1 c1, .slice a2 l2 c2, .int .i64 wa] 28
  have H1 : Hid (l1 = ws.length ∧ l2 = bs.length) := ⟨h1, h2⟩
  have S1 : Hid (SlI w a1 ws ∧ SlB w a2 bs) := ⟨s1, s2⟩
  obtain ⟨x0, x1, x2, x3, x4, x5⟩ := X0.six
  clear h1 h2 s1 s2
  go_enter Try.func40, Try.ntmps40
  go_wp2_with fail
  refine (specReqOk_q 16 pl nn wa a1 a2 l1 l2 c1 c2 ws bs _ H1.out.1 H1.out.2 (S1.out.1.below B0) (S1.out.2.below B0) hl1 hl2).mono ?_
  rintro e w1 ⟨rfl, b'⟩
  rw [hb]
  have B1 := bel_next B0 b'
  obtain ⟨y0, y1, y2, y3, y4, y5⟩ := (X0.below b').six
  clear X0 x0 x1 x2 x3 x4 x5
  go_wp2
  go_quiet (fail)
  go_wp2
  refine bodyPost_ret (v := .tuple #[.int .i64 2, .int .i64 pl, .int .i64 (l1 : Int)]) (by simp [results, Try.results40, go_sem]) rfl ?_
  exact ⟨rfl, bel_next B1 (drew_refl _ _)⟩

set_option maxHeartbeats 2000000 in
theorem specSpaces_22 (pl nn wa : Int) (a1 a2 : Option Addr) (l1 l2 c1 c2 : Nat) (ws : List Int) (bs : List Bool) (w : World) (h1 : l1 = ws.length) (h2 : l2 = bs.length) (s1 : SlI w a1 ws) (s2 : SlB w a2 bs) (hl1 : ws.length ≤ 2000000) (hl2 : bs.length ≤ 2000000) (hb : okR 22 pl nn wa ws l1 l2 = true) :
    Calls Try.prog 40 #[rq 22 pl nn wa a1 a2 l1 l2 c1 c2] w fun e w' => e = .returned (spcV true 22 pl nn l1 l2) ∧ Below w.heap.size w w' := by
  have B0 := bel_alloc w (.cells #[.int .i64 22, .int .i64 pl, .int .i64 nn, .slice a1 l1 c1, .slice a2 l2 c2, .int .i64 wa] 28)
  have X0 := Blk.new w #[.int .i64 22, .int .i64 pl, .int .i64 nn, .slice a1 l1 c1, .slice a2 l2 c2, .int .i64 wa] 28
  have H1 : Hid (l1 = ws.length ∧ l2 = bs.length) := ⟨h1, h2⟩
  have S1 : Hid (SlI w a1 ws ∧ SlB w a2 bs) := ⟨s1, s2⟩
  obtain ⟨x0, x1, x2, x3, x4, x5⟩ := X0.six
  clear h1 h2 s1 s2
  go_enter Try.func40, Try.ntmps40
  go_wp2_with fail
  refine (specReqOk_q 22 pl nn wa a1 a2 l1 l2 c1 c2 ws bs _ H1.out.1 H1.out.2 (S1.out.1.below B0) (S1.out.2.below B0) hl1 hl2).mono ?_
  rintro e w1 ⟨rfl, b'⟩
  rw [hb]
  have B1 := bel_next B0 b'
  obtain ⟨y0, y1, y2, y3, y4, y5⟩ := (X0.below b').six
  clear X0 x0 x1 x2 x3 x4 x5
  go_wp2
  go_quiet (fail)
  go_wp2
  refine bodyPost_ret (v := .tuple #[.int .i64 2, .int .i64 pl, .int .i64 1]) (by simp [results, Try.results40, go_sem]) rfl ?_
  exact ⟨rfl, bel_next B1 (drew_refl _ _)⟩

set_option maxHeartbeats 2000000 in
theorem specSpaces_23 (pl nn wa : Int) (a1 a2 : Option Addr) (l1 l2 c1 c2 : Nat) (ws : List Int) (bs : List Bool) (w : World) (h1 : l1 = ws.length) (h2 : l2 = bs.length) (s1 : SlI w a1 ws) (s2 : SlB w a2 bs) (hl1 : ws.length ≤ 2000000) (hl2 : bs.length ≤ 2000000) (hb : okR 23 pl nn wa ws l1 l2 = true) :
    Calls Try.prog 40 #[rq 23 pl nn wa a1 a2 l1 l2 c1 c2] w fun e w' => e = .returned (spcV true 23 pl nn l1 l2) ∧ Below w.heap.size w w' := by
  have B0 := bel_alloc w (.cells #[.int .i64 23, .int .i64 pl, .int .i64 nn, .slice a1 l1 c1, .slice a2 l2 c2, .int .i64 wa] 28)
  have X0 := Blk.new w #[.int .i64 23, .int .i64 pl, .int .i64 nn, .slice a1 l1 c1, .slice a2 l2 c2, .int .i64 wa] 28
  have H1 : Hid (l1 = ws.length ∧ l2 = bs.length) := ⟨h1, h2⟩
  have S1 : Hid (SlI w a1 ws ∧ SlB w a2 bs) := ⟨s1, s2⟩
  obtain ⟨x0, x1, x2, x3, x4, x5⟩ := X0.six
  clear h1 h2 s1 s2
  go_enter Try.func40, Try.ntmps40
  go_wp2_with fail
  refine (specReqOk_q 23 pl nn wa a1 a2 l1 l2 c1 c2 ws bs _ H1.out.1 H1.out.2 (S1.out.1.below B0) (S1.out.2.below B0) hl1 hl2).mono ?_
  rintro e w1 ⟨rfl, b'⟩
  rw [hb]
  have B1 := bel_next B0 b'
  obtain ⟨y0, y1, y2, y3, y4, y5⟩ := (X0.below b').six
  clear X0 x0 x1 x2 x3 x4 x5
  go_wp2
  go_quiet (fail)
  go_wp2
  refine bodyPost_ret (v := .tuple #[.int .i64 2, .int .i64 pl, .int .i64 nn]) (by simp [results, Try.results40, go_sem]) rfl ?_
  exact ⟨rfl, bel_next B1 (drew_refl _ _)⟩

theorem specSpaces_q (kd pl nn wa : Int) (a1 a2 : Option Addr) (l1 l2 c1 c2 : Nat) (ws : List Int) (bs : List Bool) (w : World) (h1 : l1 = ws.length) (h2 : l2 = bs.length) (s1 : SlI w a1 ws) (s2 : SlB w a2 bs) (hl1 : ws.length ≤ 2000000) (hl2 : bs.length ≤ 2000000) :
    Calls Try.prog 40 #[rq kd pl nn wa a1 a2 l1 l2 c1 c2] w fun e w' => e = .returned (spcV (okR kd pl nn wa ws l1 l2) kd pl nn l1 l2) ∧ Below w.heap.size w w' := by
  cases hb : okR kd pl nn wa ws l1 l2
  · exact specSpaces_no kd pl nn wa a1 a2 l1 l2 c1 c2 ws bs w h1 h2 s1 s2 hl1 hl2 hb
  · obtain rfl | rfl | rfl | rfl | rfl | rfl | rfl | rfl | rfl | rfl := okR_kind hb
    · exact specSpaces_1 pl nn wa a1 a2 l1 l2 c1 c2 ws bs w h1 h2 s1 s2 hl1 hl2 hb
    · exact specSpaces_2 pl nn wa a1 a2 l1 l2 c1 c2 ws bs w h1 h2 s1 s2 hl1 hl2 hb
    · exact specSpaces_3 pl nn wa a1 a2 l1 l2 c1 c2 ws bs w h1 h2 s1 s2 hl1 hl2 hb
    · exact specSpaces_4 pl nn wa a1 a2 l1 l2 c1 c2 ws bs w h1 h2 s1 s2 hl1 hl2 hb
    · exact specSpaces_5 pl nn wa a1 a2 l1 l2 c1 c2 ws bs w h1 h2 s1 s2 hl1 hl2 hb
    · exact specSpaces_6 pl nn wa a1 a2 l1 l2 c1 c2 ws bs w h1 h2 s1 s2 hl1 hl2 hb
    · exact specSpaces_15 pl nn wa a1 a2 l1 l2 c1 c2 ws bs w h1 h2 s1 s2 hl1 hl2 hb
    · exact specSpaces_16 pl nn wa a1 a2 l1 l2 c1 c2 ws bs w h1 h2 s1 s2 hl1 hl2 hb
    · exact specSpaces_22 pl nn wa a1 a2 l1 l2 c1 c2 ws bs w h1 h2 s1 s2 hl1 hl2 hb
    · exact specSpaces_23 pl nn wa a1 a2 l1 l2 c1 c2 ws bs w h1 h2 s1 s2 hl1 hl2 hb

set_option maxRecDepth 20000 in
set_option maxHeartbeats 2000000 in
theorem placesOf_1 (pl nn : Int) (w : World) : Calls Try.prog 43 #[.iface 116 (.agg #[.int .i64 pl, .int .i64 nn])] w fun e w' => e = .returned (.tuple #[.int .i64 0, .int .i64 pl, .int .i64 nn]) ∧ Below w.heap.size w w' := by
  have B0 := bel_alloc w (.cells #[.int .i64 pl, .int .i64 nn] 116)
  have t1 := ta_1_1
  go_enter Try.func43, Try.ntmps43
  go_wp2
  go_quiet (fail)
  go_wp2
  refine bodyPost_ret (v := .tuple #[.int .i64 0, .int .i64 pl, .int .i64 nn]) (by simp [results, Try.results43, go_sem]) rfl ?_
  exact ⟨rfl, bel_next B0 (drew_refl _ _)⟩

set_option maxRecDepth 20000 in
set_option maxHeartbeats 2000000 in
theorem placesOf_2 (pl nn : Int) (w : World) : Calls Try.prog 43 #[.iface 117 (.agg #[.int .i64 pl, .int .i64 nn])] w fun e w' => e = .returned (.tuple #[.int .i64 1, .int .i64 pl, .int .i64 nn]) ∧ Below w.heap.size w w' := by
  have B0 := bel_alloc w (.cells #[.int .i64 pl, .int .i64 nn] 117)
  have t1 := ta_2_1
  have t2 := ta_2_2
  go_enter Try.func43, Try.ntmps43
  go_wp2
  go_quiet (fail)
  go_wp2
  refine bodyPost_ret (v := .tuple #[.int .i64 1, .int .i64 pl, .int .i64 nn]) (by simp [results, Try.results43, go_sem]) rfl ?_
  exact ⟨rfl, bel_next B0 (drew_refl _ _)⟩

set_option maxRecDepth 20000 in
set_option maxHeartbeats 2000000 in
theorem placesOf_3 (pl nn : Int) (w : World) : Calls Try.prog 43 #[.iface 118 (.agg #[.int .i64 pl, .int .i64 nn])] w fun e w' => e = .returned (.tuple #[.int .i64 2, .int .i64 pl, .int .i64 nn]) ∧ Below w.heap.size w w' := by
  have B0 := bel_alloc w (.cells #[.int .i64 pl, .int .i64 nn] 118)
  have t1 := ta_3_1
  have t2 := ta_3_2
  have t3 := ta_3_3
  go_enter Try.func43, Try.ntmps43
  go_wp2
  go_quiet (fail)
  go_wp2
  refine bodyPost_ret (v := .tuple #[.int .i64 2, .int .i64 pl, .int .i64 nn]) (by simp [results, Try.results43, go_sem]) rfl ?_
  exact ⟨rfl, bel_next B0 (drew_refl _ _)⟩

set_option maxRecDepth 20000 in
set_option maxHeartbeats 2000000 in
theorem placesOf_4 (pl nn : Int) (w : World) : Calls Try.prog 43 #[.iface 119 (.agg #[.int .i64 pl, .int .i64 nn])] w fun e w' => e = .returned (.tuple #[.int .i64 3, .int .i64 pl, .int .i64 nn]) ∧ Below w.heap.size w w' := by
  have B0 := bel_alloc w (.cells #[.int .i64 pl, .int .i64 nn] 119)
  have t1 := ta_4_1
  have t2 := ta_4_2
  have t3 := ta_4_3
  have t4 := ta_4_4
  go_enter Try.func43, Try.ntmps43
  go_wp2
  go_quiet (fail)
  go_wp2
  refine bodyPost_ret (v := .tuple #[.int .i64 3, .int .i64 pl, .int .i64 nn]) (by simp [results, Try.results43, go_sem]) rfl ?_
  exact ⟨rfl, bel_next B0 (drew_refl _ _)⟩

set_option maxRecDepth 20000 in
set_option maxHeartbeats 2000000 in
theorem placesOf_5 (pl : Int) (x : Bool) (w : World) : Calls Try.prog 43 #[.iface 121 (.agg #[.int .i64 pl, .bool x])] w fun e w' => e = .returned (.tuple #[.int .i64 0, .int .i64 pl, .int .i64 1]) ∧ Below w.heap.size w w' := by
  have B0 := bel_alloc w (.cells #[.int .i64 pl, .bool x] 121)
  have t1 := ta_5_1
  have t2 := ta_5_2
  have t3 := ta_5_3
  have t4 := ta_5_4
  have t5 := ta_5_5
  go_enter Try.func43, Try.ntmps43
  go_wp2
  go_quiet (fail)
  go_wp2
  refine bodyPost_ret (v := .tuple #[.int .i64 0, .int .i64 pl, .int .i64 1]) (by simp [results, Try.results43, go_sem]) rfl ?_
  exact ⟨rfl, bel_next B0 (drew_refl _ _)⟩

set_option maxRecDepth 20000 in
set_option maxHeartbeats 2000000 in
theorem placesOf_6 (pl x : Int) (w : World) : Calls Try.prog 43 #[.iface 123 (.agg #[.int .i64 pl, .int .i64 x])] w fun e w' => e = .returned (.tuple #[.int .i64 2, .int .i64 pl, .int .i64 1]) ∧ Below w.heap.size w w' := by
  have B0 := bel_alloc w (.cells #[.int .i64 pl, .int .i64 x] 123)
  have t1 := ta_6_1
  have t2 := ta_6_2
  have t3 := ta_6_3
  have t4 := ta_6_4
  have t5 := ta_6_5
  have t6 := ta_6_6
  go_enter Try.func43, Try.ntmps43
  go_wp2
  go_quiet (fail)
  go_wp2
  refine bodyPost_ret (v := .tuple #[.int .i64 2, .int .i64 pl, .int .i64 1]) (by simp [results, Try.results43, go_sem]) rfl ?_
  exact ⟨rfl, bel_next B0 (drew_refl _ _)⟩

set_option maxRecDepth 20000 in
set_option maxHeartbeats 2000000 in
theorem placesOf_15 (pl : Int) (a2 : Option Addr) (l2 c2 : Nat) (w : World) : Calls Try.prog 43 #[.iface 125 (.agg #[.int .i64 pl, .slice a2 l2 c2])] w fun e w' => e = .returned (.tuple #[.int .i64 0, .int .i64 pl, .int .i64 (l2 : Int)]) ∧ Below w.heap.size w w' := by
  have B0 := bel_alloc w (.cells #[.int .i64 pl, .slice a2 l2 c2] 125)
  have t1 := ta_15_1
  have t2 := ta_15_2
  have t3 := ta_15_3
  have t4 := ta_15_4
  have t5 := ta_15_5
  have t6 := ta_15_6
  have t15 := ta_15_15
  go_enter Try.func43, Try.ntmps43
  go_wp2
  go_quiet (fail)
  go_wp2
  refine bodyPost_ret (v := .tuple #[.int .i64 0, .int .i64 pl, .int .i64 (l2 : Int)]) (by simp [results, Try.results43, go_sem]) rfl ?_
  exact ⟨rfl, bel_next B0 (drew_refl _ _)⟩

set_option maxRecDepth 20000 in
set_option maxHeartbeats 2000000 in
theorem placesOf_16 (pl : Int) (a1 : Option Addr) (l1 c1 : Nat) (w : World) : Calls Try.prog 43 #[.iface 127 (.agg #[.int .i64 pl, .slice a1 l1 c1])] w fun e w' => e = .returned (.tuple #[.int .i64 2, .int .i64 pl, .int .i64 (l1 : Int)]) ∧ Below w.heap.size w w' := by
  have B0 := bel_alloc w (.cells #[.int .i64 pl, .slice a1 l1 c1] 127)
  have t1 := ta_16_1
  have t2 := ta_16_2
  have t3 := ta_16_3
  have t4 := ta_16_4
  have t5 := ta_16_5
  have t6 := ta_16_6
  have t15 := ta_16_15
  have t16 := ta_16_16
  go_enter Try.func43, Try.ntmps43
  go_wp2
  go_quiet (fail)
  go_wp2
  refine bodyPost_ret (v := .tuple #[.int .i64 2, .int .i64 pl, .int .i64 (l1 : Int)]) (by simp [results, Try.results43, go_sem]) rfl ?_
  exact ⟨rfl, bel_next B0 (drew_refl _ _)⟩

set_option maxRecDepth 20000 in
set_option maxHeartbeats 2000000 in
theorem placesOf_22 (pl x y : Int) (w : World) : Calls Try.prog 43 #[.iface 129 (.agg #[.int .i64 pl, .int .i64 x, .int .i64 y])] w fun e w' => e = .returned (.tuple #[.int .i64 2, .int .i64 pl, .int .i64 1]) ∧ Below w.heap.size w w' := by
  have B0 := bel_alloc w (.cells #[.int .i64 pl, .int .i64 x, .int .i64 y] 129)
  have t1 := ta_22_1
  have t2 := ta_22_2
  have t3 := ta_22_3
  have t4 := ta_22_4
  have t5 := ta_22_5
  have t6 := ta_22_6
  have t15 := ta_22_15
  have t16 := ta_22_16
  have t22 := ta_22_22
  go_enter Try.func43, Try.ntmps43
  go_wp2
  go_quiet (fail)
  go_wp2
  refine bodyPost_ret (v := .tuple #[.int .i64 2, .int .i64 pl, .int .i64 1]) (by simp [results, Try.results43, go_sem]) rfl ?_
  exact ⟨rfl, bel_next B0 (drew_refl _ _)⟩

set_option maxRecDepth 20000 in
set_option maxHeartbeats 2000000 in
theorem placesOf_23 (pl nn wa : Int) (a1 : Option Addr) (l1 c1 : Nat) (w : World) : Calls Try.prog 43 #[.iface 131 (.agg #[.int .i64 pl, .int .i64 nn, .int .i64 wa, .slice a1 l1 c1])] w fun e w' => e = .returned (.tuple #[.int .i64 2, .int .i64 pl, .int .i64 nn]) ∧ Below w.heap.size w w' := by
  have B0 := bel_alloc w (.cells #[.int .i64 pl, .int .i64 nn, .int .i64 wa, .slice a1 l1 c1] 131)
  have t1 := ta_23_1
  have t2 := ta_23_2
  have t3 := ta_23_3
  have t4 := ta_23_4
  have t5 := ta_23_5
  have t6 := ta_23_6
  have t15 := ta_23_15
  have t16 := ta_23_16
  have t22 := ta_23_22
  have t23 := ta_23_23
  go_enter Try.func43, Try.ntmps43
  go_wp2
  go_quiet (fail)
  go_wp2
  refine bodyPost_ret (v := .tuple #[.int .i64 2, .int .i64 pl, .int .i64 nn]) (by simp [results, Try.results43, go_sem]) rfl ?_
  exact ⟨rfl, bel_next B0 (drew_refl _ _)⟩

set_option maxRecDepth 20000 in
set_option maxHeartbeats 2000000 in
theorem placesOf_n (w : World) : Calls Try.prog 43 #[.nilIface] w fun e w' => e = .returned (.tuple #[.int .i64 (-1), .int .i64 0, .int .i64 0]) ∧ Below w.heap.size w w' := by
  have t1 := ta_n_1
  have t2 := ta_n_2
  have t3 := ta_n_3
  have t4 := ta_n_4
  have t5 := ta_n_5
  have t6 := ta_n_6
  have t15 := ta_n_15
  have t16 := ta_n_16
  have t22 := ta_n_22
  have t23 := ta_n_23
  go_enter Try.func43, Try.ntmps43
  go_wp2
  refine bodyPost_ret (v := .tuple #[.int .i64 (-1), .int .i64 0, .int .i64 0]) (by simp [results, Try.results43, go_sem]) rfl ?_
  exact ⟨rfl, Below.refl _ _⟩

set_option maxHeartbeats 2000000 in
theorem implSpaces_if (kd pl nn wa : Int) (a1 a2 : Option Addr) (l1 l2 c1 c2 : Nat) (w : World) (q : Value) (i j k : Int)
    (hq : ∀ u, Below w.heap.size w u → Calls Try.prog 44 #[rq kd pl nn wa a1 a2 l1 l2 c1 c2] u fun e u' => e = .returned q ∧ Below u.heap.size u u')
    (hp : ∀ u, Calls Try.prog 43 #[q] u fun e u' => e = .returned (.tuple #[.int .i64 i, .int .i64 j, .int .i64 k]) ∧ Below u.heap.size u u') :
    Calls Try.prog 10 #[rq kd pl nn wa a1 a2 l1 l2 c1 c2] w fun e w' => e = .returned (.tuple #[.int .i64 i, .int .i64 j, .int .i64 k]) ∧ Below w.heap.size w w' := by
  have B0 := bel_alloc w (.cells #[.int .i64 kd, .int .i64 pl, .int .i64 nn, .slice a1 l1 c1, .slice a2 l2 c2, .int .i64 wa] 28)
  go_enter Try.func10, Try.ntmps10
  go_wp2_with fail
  refine (hq _ B0).mono ?_
  rintro e w1 ⟨rfl, b'⟩
  have B1 := bel_next B0 b'
  clear hq
  go_wp2_with fail
  refine (hp _).mono ?_
  rintro e w2 ⟨rfl, b2'⟩
  have B2 := bel_next B1 b2'
  clear hp
  go_wp2
  refine bodyPost_ret (v := .tuple #[.int .i64 i, .int .i64 j, .int .i64 k]) (by simp [results, Try.results10, go_sem]) rfl ?_
  exact ⟨rfl, B2⟩

theorem implSpaces_q (kd pl nn wa : Int) (a1 a2 : Option Addr) (l1 l2 c1 c2 : Nat) (ws : List Int) (bs : List Bool) (w : World) (h1 : l1 = ws.length) (h2 : l2 = bs.length) (s1 : SlI w a1 ws) (s2 : SlB w a2 bs) (hl1 : ws.length ≤ 2000000) (hl2 : bs.length ≤ 2000000) :
    Calls Try.prog 10 #[rq kd pl nn wa a1 a2 l1 l2 c1 c2] w fun e w' => e = .returned (spcV (okR kd pl nn wa ws l1 l2) kd pl nn l1 l2) ∧ Below w.heap.size w w' := by
  by_cases hk : kd = 1 ∨ kd = 2 ∨ kd = 3 ∨ kd = 4 ∨ kd = 5 ∨ kd = 6 ∨ kd = 15 ∨ kd = 16 ∨ kd = 22 ∨ kd = 23
  · cases hb : okR kd pl nn wa ws l1 l2
    · obtain rfl | rfl | rfl | rfl | rfl | rfl | rfl | rfl | rfl | rfl := hk
      · exact implSpaces_if 1 pl nn wa a1 a2 l1 l2 c1 c2 w .nilIface (-1) 0 0 (fun u hu => rightQuestion_1 pl nn wa a1 a2 l1 l2 c1 c2 ws bs u h1 h2 (s1.below hu) (s2.below hu) hl1 hl2 _ hb) (fun u => placesOf_n u)
      · exact implSpaces_if 2 pl nn wa a1 a2 l1 l2 c1 c2 w .nilIface (-1) 0 0 (fun u hu => rightQuestion_2 pl nn wa a1 a2 l1 l2 c1 c2 ws bs u h1 h2 (s1.below hu) (s2.below hu) hl1 hl2 _ hb) (fun u => placesOf_n u)
      · exact implSpaces_if 3 pl nn wa a1 a2 l1 l2 c1 c2 w .nilIface (-1) 0 0 (fun u hu => rightQuestion_3 pl nn wa a1 a2 l1 l2 c1 c2 ws bs u h1 h2 (s1.below hu) (s2.below hu) hl1 hl2 _ hb) (fun u => placesOf_n u)
      · exact implSpaces_if 4 pl nn wa a1 a2 l1 l2 c1 c2 w .nilIface (-1) 0 0 (fun u hu => rightQuestion_4 pl nn wa a1 a2 l1 l2 c1 c2 ws bs u h1 h2 (s1.below hu) (s2.below hu) hl1 hl2 _ hb) (fun u => placesOf_n u)
      · exact implSpaces_if 5 pl nn wa a1 a2 l1 l2 c1 c2 w .nilIface (-1) 0 0 (fun u hu => rightQuestion_5 pl nn wa a1 a2 l1 l2 c1 c2 ws bs u h1 h2 (s1.below hu) (s2.below hu) hl1 hl2 _ hb) (fun u => placesOf_n u)
      · exact implSpaces_if 6 pl nn wa a1 a2 l1 l2 c1 c2 w .nilIface (-1) 0 0 (fun u hu => rightQuestion_6 pl nn wa a1 a2 l1 l2 c1 c2 ws bs u h1 h2 (s1.below hu) (s2.below hu) hl1 hl2 _ hb) (fun u => placesOf_n u)
      · exact implSpaces_if 15 pl nn wa a1 a2 l1 l2 c1 c2 w .nilIface (-1) 0 0 (fun u hu => rightQuestion_15 pl nn wa a1 a2 l1 l2 c1 c2 ws bs u h1 h2 (s1.below hu) (s2.below hu) hl1 hl2 _ hb) (fun u => placesOf_n u)
      · exact implSpaces_if 16 pl nn wa a1 a2 l1 l2 c1 c2 w .nilIface (-1) 0 0 (fun u hu => rightQuestion_16 pl nn wa a1 a2 l1 l2 c1 c2 ws bs u h1 h2 (s1.below hu) (s2.below hu) hl1 hl2 _ hb) (fun u => placesOf_n u)
      · exact implSpaces_if 22 pl nn wa a1 a2 l1 l2 c1 c2 w .nilIface (-1) 0 0 (fun u hu => rightQuestion_22 pl nn wa a1 a2 l1 l2 c1 c2 ws bs u h1 h2 (s1.below hu) (s2.below hu) hl1 hl2 _ hb) (fun u => placesOf_n u)
      · exact implSpaces_if 23 pl nn wa a1 a2 l1 l2 c1 c2 w .nilIface (-1) 0 0 (fun u hu => rightQuestion_23 pl nn wa a1 a2 l1 l2 c1 c2 ws bs u h1 h2 (s1.below hu) (s2.below hu) hl1 hl2 _ hb) (fun u => placesOf_n u)
    · obtain rfl | rfl | rfl | rfl | rfl | rfl | rfl | rfl | rfl | rfl := hk
      · exact implSpaces_if 1 pl nn wa a1 a2 l1 l2 c1 c2 w _ 0 pl nn (fun u hu => rightQuestion_1 pl nn wa a1 a2 l1 l2 c1 c2 ws bs u h1 h2 (s1.below hu) (s2.below hu) hl1 hl2 _ hb) (fun u => placesOf_1 _ _ u)
      · exact implSpaces_if 2 pl nn wa a1 a2 l1 l2 c1 c2 w _ 1 pl nn (fun u hu => rightQuestion_2 pl nn wa a1 a2 l1 l2 c1 c2 ws bs u h1 h2 (s1.below hu) (s2.below hu) hl1 hl2 _ hb) (fun u => placesOf_2 _ _ u)
      · exact implSpaces_if 3 pl nn wa a1 a2 l1 l2 c1 c2 w _ 2 pl nn (fun u hu => rightQuestion_3 pl nn wa a1 a2 l1 l2 c1 c2 ws bs u h1 h2 (s1.below hu) (s2.below hu) hl1 hl2 _ hb) (fun u => placesOf_3 _ _ u)
      · exact implSpaces_if 4 pl nn wa a1 a2 l1 l2 c1 c2 w _ 3 pl nn (fun u hu => rightQuestion_4 pl nn wa a1 a2 l1 l2 c1 c2 ws bs u h1 h2 (s1.below hu) (s2.below hu) hl1 hl2 _ hb) (fun u => placesOf_4 _ _ u)
      · have e1 : l2 = 1 := by rw [okI_5 _ _ _ _ _ _ h1] at hb; simp at hb; omega
        have e2 : spcV true 5 pl nn l1 l2 = .tuple #[.int .i64 0, .int .i64 pl, .int .i64 1] := by rw [e1]; rfl
        rw [e2]
        exact implSpaces_if 5 pl nn wa a1 a2 l1 l2 c1 c2 w _ 0 pl 1 (fun u hu => rightQuestion_5 pl nn wa a1 a2 l1 l2 c1 c2 ws bs u h1 h2 (s1.below hu) (s2.below hu) hl1 hl2 _ hb) (fun u => placesOf_5 _ _ u)
      · exact implSpaces_if 6 pl nn wa a1 a2 l1 l2 c1 c2 w _ 2 pl 1 (fun u hu => rightQuestion_6 pl nn wa a1 a2 l1 l2 c1 c2 ws bs u h1 h2 (s1.below hu) (s2.below hu) hl1 hl2 _ hb) (fun u => placesOf_6 _ _ u)
      · exact implSpaces_if 15 pl nn wa a1 a2 l1 l2 c1 c2 w _ 0 pl (l2 : Int) (fun u hu => rightQuestion_15 pl nn wa a1 a2 l1 l2 c1 c2 ws bs u h1 h2 (s1.below hu) (s2.below hu) hl1 hl2 _ hb) (fun u => placesOf_15 _ _ _ _ u)
      · exact implSpaces_if 16 pl nn wa a1 a2 l1 l2 c1 c2 w _ 2 pl (l1 : Int) (fun u hu => rightQuestion_16 pl nn wa a1 a2 l1 l2 c1 c2 ws bs u h1 h2 (s1.below hu) (s2.below hu) hl1 hl2 _ hb) (fun u => placesOf_16 _ _ _ _ u)
      · exact implSpaces_if 22 pl nn wa a1 a2 l1 l2 c1 c2 w _ 2 pl 1 (fun u hu => rightQuestion_22 pl nn wa a1 a2 l1 l2 c1 c2 ws bs u h1 h2 (s1.below hu) (s2.below hu) hl1 hl2 _ hb) (fun u => placesOf_22 _ _ _ u)
      · exact implSpaces_if 23 pl nn wa a1 a2 l1 l2 c1 c2 w _ 2 pl nn (fun u hu => rightQuestion_23 pl nn wa a1 a2 l1 l2 c1 c2 ws bs u h1 h2 (s1.below hu) (s2.below hu) hl1 hl2 _ hb) (fun u => placesOf_23 _ _ _ _ _ _ u)
  · have e : okR kd pl nn wa ws l1 l2 = false := by
      cases e : okR kd pl nn wa ws l1 l2
      · rfl
      · exact absurd (okR_kind e) hk
    rw [e]
    exact implSpaces_if kd pl nn wa a1 a2 l1 l2 c1 c2 w .nilIface (-1) 0 0 (fun u hu => rightQuestion_none kd pl nn wa a1 a2 l1 l2 c1 c2 ws bs u h1 h2 (s1.below hu) (s2.below hu) hl1 hl2 (by omega) (by omega) (by omega) (by omega) (by omega) (by omega) (by omega) (by omega) (by omega) (by omega)) (fun u => placesOf_n u)

theorem spcV_form (b : Bool) (kd pl nn : Int) (l1 l2 : Nat) : ∃ i j k, spcV b kd pl nn l1 l2 = .tuple #[.int .i64 i, .int .i64 j, .int .i64 k] := by
  cases b
  · exact ⟨_, _, _, rfl⟩
  · exact ⟨_, _, _, rfl⟩

theorem specSpaces_t (kd pl nn wa : Int) (a1 a2 : Option Addr) (l1 l2 c1 c2 : Nat) (ws : List Int) (bs : List Bool) (w : World) (h1 : l1 = ws.length) (h2 : l2 = bs.length) (s1 : SlI w a1 ws) (s2 : SlB w a2 bs) (hl1 : ws.length ≤ 2000000) (hl2 : bs.length ≤ 2000000) (i j k : Int) (hv : spcV (okR kd pl nn wa ws l1 l2) kd pl nn l1 l2 = .tuple #[.int .i64 i, .int .i64 j, .int .i64 k]) :
    Calls Try.prog 40 #[rq kd pl nn wa a1 a2 l1 l2 c1 c2] w fun e w' => e = .returned (.tuple #[.int .i64 i, .int .i64 j, .int .i64 k]) ∧ Below w.heap.size w w' := by
  rw [← hv]; exact specSpaces_q kd pl nn wa a1 a2 l1 l2 c1 c2 ws bs w h1 h2 s1 s2 hl1 hl2

theorem implSpaces_t (kd pl nn wa : Int) (a1 a2 : Option Addr) (l1 l2 c1 c2 : Nat) (ws : List Int) (bs : List Bool) (w : World) (h1 : l1 = ws.length) (h2 : l2 = bs.length) (s1 : SlI w a1 ws) (s2 : SlB w a2 bs) (hl1 : ws.length ≤ 2000000) (hl2 : bs.length ≤ 2000000) (i j k : Int) (hv : spcV (okR kd pl nn wa ws l1 l2) kd pl nn l1 l2 = .tuple #[.int .i64 i, .int .i64 j, .int .i64 k]) :
    Calls Try.prog 10 #[rq kd pl nn wa a1 a2 l1 l2 c1 c2] w fun e w' => e = .returned (.tuple #[.int .i64 i, .int .i64 j, .int .i64 k]) ∧ Below w.heap.size w w' := by
  rw [← hv]; exact implSpaces_q kd pl nn wa a1 a2 l1 l2 c1 c2 ws bs w h1 h2 s1 s2 hl1 hl2

end Go.Proofs.Ytaaokbmfpfmfgaa
