/- Which calls are right, and which are none: the program's tests and the model's. -/
import Derived.Test.YtmhdneenjoelfaaCl2
import Derived.Test.YtmhdneenjoelfaaQ6
namespace Go.Proofs.Ytmhdneenjoelfaa
open Go.RowKit Go.Joins

set_option linter.unusedVariables false

set_option linter.unusedSimpArgs false

theorem isCntL (x hi : Int) (w : World) (b : Bool) (hb : inB x 1 hi = b) : Calls Try.prog 94 #[.int .i64 x, .int .i64 hi] w fun e w' => e = .returned (.bool b) ∧ w' = w := by
  subst hb
  unfold inB
  by_cases h1 : 1 ≤ x
  · by_cases h2 : x ≤ hi
    · rw [decide_eq_true (show 1 ≤ x ∧ x ≤ hi from ⟨h1, h2⟩)]
      go_enter Try.func94, Try.ntmps94
      go_wp2
      go_ret
      exact ⟨rfl, rfl⟩
    · rw [decide_eq_false (show ¬ (1 ≤ x ∧ x ≤ hi) from fun h => h2 h.2)]
      go_enter Try.func94, Try.ntmps94
      go_wp2
      go_ret
      exact ⟨rfl, rfl⟩
  · rw [decide_eq_false (show ¬ (1 ≤ x ∧ x ≤ hi) from fun h => h1 h.1)]
    go_enter Try.func94, Try.ntmps94
    go_wp2
    go_ret
    exact ⟨rfl, rfl⟩

theorem isIdL (x : Int) (w : World) (b : Bool) (hb : inB x 0 1000000000 = b) : Calls Try.prog 63 #[.int .i64 x] w fun e w' => e = .returned (.bool b) ∧ w' = w := by
  subst hb
  unfold inB
  by_cases h1 : 0 ≤ x
  · by_cases h2 : x ≤ 1000000000
    · rw [decide_eq_true ⟨h1, h2⟩]
      go_enter Try.func63, Try.ntmps63
      go_wp2
      go_ret
      exact ⟨rfl, rfl⟩
    · rw [decide_eq_false (fun h => h2 h.2)]
      go_enter Try.func63, Try.ntmps63
      go_wp2
      go_ret
      exact ⟨rfl, rfl⟩
  · rw [decide_eq_false (fun h => h1 h.1)]
    go_enter Try.func63, Try.ntmps63
    go_wp2
    go_ret
    exact ⟨rfl, rfl⟩

theorem isPartL (x : Int) (w : World) (b : Bool) (hb : inB x 0 7 = b) : Calls Try.prog 64 #[.int .i64 x] w fun e w' => e = .returned (.bool b) ∧ w' = w := by
  subst hb
  unfold inB
  by_cases h1 : 0 ≤ x
  · by_cases h2 : x ≤ 7
    · rw [decide_eq_true ⟨h1, h2⟩]
      have h3 : x < 8 := by omega
      go_enter Try.func64, Try.ntmps64
      go_wp2
      go_ret
      exact ⟨rfl, rfl⟩
    · rw [decide_eq_false (fun h => h2 h.2)]
      have h3 : ¬ x < 8 := by omega
      go_enter Try.func64, Try.ntmps64
      go_wp2
      go_ret
      exact ⟨rfl, rfl⟩
  · rw [decide_eq_false (fun h => h1 h.1)]
    go_enter Try.func64, Try.ntmps64
    go_wp2
    go_ret
    exact ⟨rfl, rfl⟩

theorem isTickL (x : Int) (w : World) (b : Bool) (hb : inB x 0 4294967295 = b) : Calls Try.prog 38 #[.int .i64 x] w fun e w' => e = .returned (.bool b) ∧ w' = w := by
  subst hb
  unfold inB
  by_cases h1 : 0 ≤ x
  · by_cases h2 : x ≤ 4294967295
    · rw [decide_eq_true ⟨h1, h2⟩]
      go_enter Try.func38, Try.ntmps38
      go_wp2
      go_ret
      exact ⟨rfl, rfl⟩
    · rw [decide_eq_false (fun h => h2 h.2)]
      go_enter Try.func38, Try.ntmps38
      go_wp2
      go_ret
      exact ⟨rfl, rfl⟩
  · rw [decide_eq_false (fun h => h1 h.1)]
    go_enter Try.func38, Try.ntmps38
    go_wp2
    go_ret
    exact ⟨rfl, rfl⟩

theorem isTriesL (x : Int) (w : World) (b : Bool) (hb : inB x 0 5 = b) : Calls Try.prog 59 #[.int .i64 x] w fun e w' => e = .returned (.bool b) ∧ w' = w := by
  subst hb
  unfold inB
  by_cases h1 : 0 ≤ x
  · by_cases h2 : x ≤ 5
    · rw [decide_eq_true ⟨h1, h2⟩]
      go_enter Try.func59, Try.ntmps59
      go_wp2
      go_ret
      exact ⟨rfl, rfl⟩
    · rw [decide_eq_false (fun h => h2 h.2)]
      go_enter Try.func59, Try.ntmps59
      go_wp2
      go_ret
      exact ⟨rfl, rfl⟩
  · rw [decide_eq_false (fun h => h1 h.1)]
    go_enter Try.func59, Try.ntmps59
    go_wp2
    go_ret
    exact ⟨rfl, rfl⟩

theorem isUnitL (x : Int) (w : World) (b : Bool) (hb : inB x 1 247 = b) : Calls Try.prog 65 #[.int .i64 x] w fun e w' => e = .returned (.bool b) ∧ w' = w := by
  go_enter Try.func65, Try.ntmps65
  go_wp2_with fail
  refine (isCntL _ _ _ _ hb).mono ?_
  rintro e wx ⟨rfl, rfl⟩
  go_wp2
  go_ret
  exact ⟨rfl, rfl⟩

theorem isAnsWL (x : Int) (w : World) (b : Bool) (hb : inB x 1 100 = b) : Calls Try.prog 58 #[.int .i64 x] w fun e w' => e = .returned (.bool b) ∧ w' = w := by
  go_enter Try.func58, Try.ntmps58
  go_wp2_with fail
  refine (isCntL _ _ _ _ hb).mono ?_
  rintro e wx ⟨rfl, rfl⟩
  go_wp2
  go_ret
  exact ⟨rfl, rfl⟩

theorem l1TickL (x : Int) (w : World) (b : Bool) (hb : inB x 0 4294967295 = b) : Calls Try.prog 70 #[.int .i64 x] w fun e w' => e = .returned (.bool b) ∧ w' = w := by
  go_enter Try.func70, Try.ntmps70
  go_wp2_with fail
  refine (l1In_any _ _ _ _ _ hb).mono ?_
  rintro e wx ⟨rfl, rfl⟩
  go_wp2
  go_ret
  exact ⟨rfl, rfl⟩

/-- A call that is right. -/
def okCa (C : Ca) : Bool := inB C.id 0 1000000000 && (inB C.pa 0 7 && (inB C.un 1 247 && okR C.kd C.pl C.n C.wa C.ws C.ws.length C.bs.length))

/-- A question that is none. -/
def noR (kd pl nn wa : Int) (l1 l2 : Nat) : Bool := (kd == 0) && ((pl == 0) && ((nn == 0) && ((wa == 0) && (((l1 : Int) == 0) && ((l2 : Int) == 0)))))

/-- A call that is none. -/
def noCa (C : Ca) (l1 l2 : Nat) : Bool := (C.id == 0) && ((C.pa == 0) && ((C.un == 0) && noR C.kd C.pl C.n C.wa l1 l2))

set_option maxRecDepth 20000 in
set_option maxHeartbeats 2000000 in
theorem callRight_any (C : Ca) (g o : Nat) (a1 a2 : Option Addr) (l1 l2 c1 c2 : Nat) (w : World) (d0 : w.cell? ⟨g, o, none⟩ = some (.int .i64 C.id)) (d1 : w.cell? ⟨g, o + 1, none⟩ = some (.int .i64 C.pa)) (d2 : w.cell? ⟨g, o + 2, none⟩ = some (.int .i64 C.un)) (d3 : w.cell? ⟨g, o + 3, none⟩ = some (.int .i64 C.kd)) (d4 : w.cell? ⟨g, o + 4, none⟩ = some (.int .i64 C.pl)) (d5 : w.cell? ⟨g, o + 5, none⟩ = some (.int .i64 C.n)) (d6 : w.cell? ⟨g, o + 6, none⟩ = some (.slice a1 l1 c1)) (d7 : w.cell? ⟨g, o + 7, none⟩ = some (.slice a2 l2 c2)) (d8 : w.cell? ⟨g, o + 8, none⟩ = some (.int .i64 C.wa)) (h1 : l1 = C.ws.length) (h2 : l2 = C.bs.length) (s1 : SlI w a1 C.ws) (s2 : SlB w a2 C.bs) (hl1 : l1 ≤ 2000000) (hl2 : l2 ≤ 2000000) :
    Calls Try.prog 30 #[.pointer (some ⟨g, o, none⟩)] w fun e w' => e = .returned (.bool (okCa C)) ∧ Below w.heap.size w w' := by
  obtain ⟨x0, hx0⟩ : ∃ x, inB C.id 0 1000000000 = x := ⟨_, rfl⟩
  obtain ⟨x1, hx1⟩ : ∃ x, inB C.pa 0 7 = x := ⟨_, rfl⟩
  obtain ⟨x2, hx2⟩ : ∃ x, inB C.un 1 247 = x := ⟨_, rfl⟩
  obtain ⟨x3, hx3⟩ : ∃ x, okR C.kd C.pl C.n C.wa C.ws l1 l2 = x := ⟨_, rfl⟩
  have HE : Hid (okCa C = (x0 && (x1 && (x2 && x3))) ∧ inB C.id 0 1000000000 = x0 ∧ inB C.pa 0 7 = x1 ∧ inB C.un 1 247 = x2 ∧ okR C.kd C.pl C.n C.wa C.ws l1 l2 = x3 ∧ l1 = C.ws.length ∧ l2 = C.bs.length ∧ SlI w a1 C.ws ∧ SlB w a2 C.bs) := ⟨by unfold okCa; rw [hx0, hx1, hx2, ← h1, ← h2, hx3], hx0, hx1, hx2, hx3, h1, h2, s1, s2⟩
  rw [HE.out.1]
  clear hx0 hx1 hx2 hx3 h1 h2 s1 s2
  go_enter Try.func30, Try.ntmps30
  go_wp2_with fail
  refine (isIdL _ _ _ HE.out.2.1).mono ?_
  rintro e w1 ⟨rfl, rfl⟩
  cases x0 with
  | false =>
    go_wp2
    go_ret
    exact ⟨rfl, Below.refl _ _⟩
  | true =>
    go_wp2_with fail
    refine (isPartL _ _ _ HE.out.2.2.1).mono ?_
    rintro e w1 ⟨rfl, rfl⟩
    cases x1 with
    | false =>
      go_wp2
      go_ret
      exact ⟨rfl, Below.refl _ _⟩
    | true =>
      go_wp2_with fail
      refine (isUnitL _ _ _ HE.out.2.2.2.1).mono ?_
      rintro e w1 ⟨rfl, rfl⟩
      cases x2 with
      | false =>
        go_wp2
        go_ret
        exact ⟨rfl, Below.refl _ _⟩
      | true =>
        go_wp2_with fail
        refine (implReqOk_q C.kd C.pl C.n C.wa a1 a2 l1 l2 c1 c2 C.ws C.bs _ HE.out.2.2.2.2.2.1 HE.out.2.2.2.2.2.2.1 HE.out.2.2.2.2.2.2.2.1 HE.out.2.2.2.2.2.2.2.2 (by have := HE.out.2.2.2.2.2.1; omega) (by have := HE.out.2.2.2.2.2.2.1; omega)).mono ?_
        rintro e w1 ⟨rfl, b1⟩
        rw [HE.out.2.2.2.2.1]
        clear d0 d1 d2 d3 d4 d5 d6 d7 d8
        go_wp2
        go_ret
        exact ⟨rfl, b1⟩

set_option maxRecDepth 20000 in
set_option maxHeartbeats 2000000 in
theorem l12Call_any (C : Ca) (a1 a2 : Option Addr) (l1 l2 c1 c2 : Nat) (w : World) (h1 : l1 = C.ws.length) (h2 : l2 = C.bs.length) (s1 : SlI w a1 C.ws) (s2 : SlB w a2 C.bs) (hl1 : l1 ≤ 2000000) (hl2 : l2 ≤ 2000000) :
    Calls Try.prog 34 #[.agg (cac C a1 a2 l1 l2 c1 c2)] w fun e w' => e = .returned (.bool (okCa C)) ∧ Below w.heap.size w w' := by
  obtain ⟨W, hW⟩ : ∃ W, W = w.alloc (.cells (cac C a1 a2 l1 l2 c1 c2) 30) := ⟨_, rfl⟩
  have bW : Below w.heap.size w W := by rw [hW]; exact bel_alloc _ _
  have A0 : Blk W w.heap.size 30 (cac C a1 a2 l1 l2 c1 c2) := by rw [hW]; exact Blk.new _ _ _
  obtain ⟨⟨y0, y1, y2, y3, y4, y5, y6, y7, y8⟩, _⟩ := A0.nine
  obtain ⟨x0, hx0⟩ : ∃ x, inB C.id 0 1000000000 = x := ⟨_, rfl⟩
  obtain ⟨x1, hx1⟩ : ∃ x, inB C.pa 0 7 = x := ⟨_, rfl⟩
  obtain ⟨x2, hx2⟩ : ∃ x, inB C.un 1 247 = x := ⟨_, rfl⟩
  obtain ⟨x3, hx3⟩ : ∃ x, okR C.kd C.pl C.n C.wa C.ws l1 l2 = x := ⟨_, rfl⟩
  have HE : Hid (okCa C = (x0 && (x1 && (x2 && x3))) ∧ inB C.id 0 1000000000 = x0 ∧ inB C.pa 0 7 = x1 ∧ inB C.un 1 247 = x2 ∧ okR C.kd C.pl C.n C.wa C.ws l1 l2 = x3 ∧ l1 = C.ws.length ∧ l2 = C.bs.length ∧ SlI W a1 C.ws ∧ SlB W a2 C.bs ∧ Below w.heap.size w W) := ⟨by unfold okCa; rw [hx0, hx1, hx2, ← h1, ← h2, hx3], hx0, hx1, hx2, hx3, h1, h2, s1.below bW, s2.below bW, bW⟩
  rw [HE.out.1]
  clear hx0 hx1 hx2 hx3 h1 h2 s1 s2 bW A0
  go_enter Try.func34, Try.ntmps34
  go_upto_region 1 with fail
  rw [← hW]
  clear hW
  go_wp2_with fail
  refine (l1In_any _ _ _ _ _ HE.out.2.1).mono ?_
  rintro e w1 ⟨rfl, rfl⟩
  cases x0 with
  | false =>
    go_wp2
    go_ret
    exact ⟨rfl, HE.out.2.2.2.2.2.2.2.2.2⟩
  | true =>
    go_wp2_with fail
    refine (l1In_any _ _ _ _ _ HE.out.2.2.1).mono ?_
    rintro e w1 ⟨rfl, rfl⟩
    cases x1 with
    | false =>
      go_wp2
      go_ret
      exact ⟨rfl, HE.out.2.2.2.2.2.2.2.2.2⟩
    | true =>
      go_wp2_with fail
      refine (l1In_any _ _ _ _ _ HE.out.2.2.2.1).mono ?_
      rintro e w1 ⟨rfl, rfl⟩
      cases x2 with
      | false =>
        go_wp2
        go_ret
        exact ⟨rfl, HE.out.2.2.2.2.2.2.2.2.2⟩
      | true =>
        go_wp2_with fail
        refine (specReqOk_q C.kd C.pl C.n C.wa a1 a2 l1 l2 c1 c2 C.ws C.bs _ HE.out.2.2.2.2.2.1 HE.out.2.2.2.2.2.2.1 HE.out.2.2.2.2.2.2.2.1 HE.out.2.2.2.2.2.2.2.2.1 (by have := HE.out.2.2.2.2.2.1; omega) (by have := HE.out.2.2.2.2.2.2.1; omega)).mono ?_
        rintro e w1 ⟨rfl, b1⟩
        rw [HE.out.2.2.2.2.1]
        have HB : Hid (Below w.heap.size w w1) := bel_nx HE.out.2.2.2.2.2.2.2.2.2 b1
        clear y0 y1 y2 y3 y4 y5 y6 y7 y8 b1
        go_wp2
        go_ret
        exact ⟨rfl, HB.out⟩

set_option maxHeartbeats 4000000 in
theorem sameReq0_k (kd pl nn wa : Int) (a1 a2 : Option Addr) (l1 l2 c1 c2 : Nat) (w : World) (hne : ¬ kd = 0) :
    Calls Try.prog 112 #[rq kd pl nn wa a1 a2 l1 l2 c1 c2, rq 0 0 0 0 none none 0 0 0 0] w fun e w' => e = .returned (.bool false) ∧ Below w.heap.size w w' := by
  obtain ⟨W0, hW0'⟩ : ∃ W0, W0 = (w.alloc (.cells #[.int .i64 kd, .int .i64 pl, .int .i64 nn, .slice a1 l1 c1, .slice a2 l2 c2, .int .i64 wa] 28)).alloc (.cells #[.int .i64 0, .int .i64 0, .int .i64 0, .slice none 0 0, .slice none 0 0, .int .i64 0] 28) := ⟨_, rfl⟩
  have hW0 : Hid (W0 = _) := hW0'
  have B0 : Below w.heap.size w W0 := by rw [hW0']; exact bel_next (bel_alloc w _) (bel_alloc _ _)
  have X0 : Blk W0 w.heap.size 28 #[.int .i64 kd, .int .i64 pl, .int .i64 nn, .slice a1 l1 c1, .slice a2 l2 c2, .int .i64 wa] := by rw [hW0']; exact (Blk.new w _ _).below (bel_alloc _ _)
  have Y0 : Blk W0 (w.heap.size + 1) 28 #[.int .i64 0, .int .i64 0, .int .i64 0, .slice none 0 0, .slice none 0 0, .int .i64 0] := by
    rw [hW0']; have := Blk.new (w.alloc (.cells #[.int .i64 kd, .int .i64 pl, .int .i64 nn, .slice a1 l1 c1, .slice a2 l2 c2, .int .i64 wa] 28)) #[.int .i64 0, .int .i64 0, .int .i64 0, .slice none 0 0, .slice none 0 0, .int .i64 0] 28; simpa using this
  obtain ⟨x0, x1, x2, x3, x4, x5⟩ := X0.six
  obtain ⟨y0, y1, y2, y3, y4, y5⟩ := Y0.six
  clear hW0'
  go_enter Try.func112, Try.ntmps112
  go_upto_region 1 with fail
  rw [← hW0.out]
  go_wp2
  go_ret
  exact ⟨rfl, B0⟩

set_option maxHeartbeats 4000000 in
theorem sameReq0_p (kd pl nn wa : Int) (a1 a2 : Option Addr) (l1 l2 c1 c2 : Nat) (w : World) (hk : kd = 0) (hne : ¬ pl = 0) :
    Calls Try.prog 112 #[rq kd pl nn wa a1 a2 l1 l2 c1 c2, rq 0 0 0 0 none none 0 0 0 0] w fun e w' => e = .returned (.bool false) ∧ Below w.heap.size w w' := by
  obtain ⟨W0, hW0'⟩ : ∃ W0, W0 = (w.alloc (.cells #[.int .i64 kd, .int .i64 pl, .int .i64 nn, .slice a1 l1 c1, .slice a2 l2 c2, .int .i64 wa] 28)).alloc (.cells #[.int .i64 0, .int .i64 0, .int .i64 0, .slice none 0 0, .slice none 0 0, .int .i64 0] 28) := ⟨_, rfl⟩
  have hW0 : Hid (W0 = _) := hW0'
  have B0 : Below w.heap.size w W0 := by rw [hW0']; exact bel_next (bel_alloc w _) (bel_alloc _ _)
  have X0 : Blk W0 w.heap.size 28 #[.int .i64 kd, .int .i64 pl, .int .i64 nn, .slice a1 l1 c1, .slice a2 l2 c2, .int .i64 wa] := by rw [hW0']; exact (Blk.new w _ _).below (bel_alloc _ _)
  have Y0 : Blk W0 (w.heap.size + 1) 28 #[.int .i64 0, .int .i64 0, .int .i64 0, .slice none 0 0, .slice none 0 0, .int .i64 0] := by
    rw [hW0']; have := Blk.new (w.alloc (.cells #[.int .i64 kd, .int .i64 pl, .int .i64 nn, .slice a1 l1 c1, .slice a2 l2 c2, .int .i64 wa] 28)) #[.int .i64 0, .int .i64 0, .int .i64 0, .slice none 0 0, .slice none 0 0, .int .i64 0] 28; simpa using this
  obtain ⟨x0, x1, x2, x3, x4, x5⟩ := X0.six
  obtain ⟨y0, y1, y2, y3, y4, y5⟩ := Y0.six
  subst hk
  clear hW0'
  go_enter Try.func112, Try.ntmps112
  go_upto_region 1 with fail
  rw [← hW0.out]
  go_wp2
  go_ret
  exact ⟨rfl, B0⟩

theorem sameReq0_any (kd pl nn wa : Int) (a1 a2 : Option Addr) (l1 l2 c1 c2 : Nat) (ws : List Int) (bs : List Bool) (w : World) (h1 : l1 = ws.length) (h2 : l2 = bs.length) (hl1 : l1 ≤ 2000000) (hl2 : l2 ≤ 2000000) :
    Calls Try.prog 112 #[rq kd pl nn wa a1 a2 l1 l2 c1 c2, rq 0 0 0 0 none none 0 0 0 0] w fun e w' => e = .returned (.bool (noR kd pl nn wa l1 l2)) ∧ Below w.heap.size w w' := by
  by_cases q0 : kd = 0
  · by_cases q1 : pl = 0
    · subst q0 q1
      by_cases q2 : nn = 0
      · by_cases q3 : wa = 0
        · by_cases q4 : l1 = 0
          · by_cases q5 : l2 = 0
            · subst q2 q3 q4 q5
              have e1 : ws = [] := List.eq_nil_of_length_eq_zero h1.symm
              have e2 : bs = [] := List.eq_nil_of_length_eq_zero h2.symm
              exact sameReq_t 0 0 0 0 0 0 a1 a2 none none 0 0 c1 c2 0 0 0 0 w rfl rfl [] rfl rfl (.inl rfl) (.inl rfl) (by simp) [] rfl rfl (.inl rfl) (.inl rfl) (by simp)
            · subst q2 q3 q4
              have e1 : ws = [] := List.eq_nil_of_length_eq_zero h1.symm
              have e9 : noR 0 0 0 0 0 l2 = false := by unfold noR; simp; omega
              rw [e9]
              exact sameReq_2 0 0 0 0 0 0 a1 a2 none none 0 l2 c1 c2 0 0 0 0 w rfl rfl [] rfl rfl (.inl rfl) (.inl rfl) (by simp) (by omega) (by omega) (by omega)
          · subst q2 q3
            have e9 : noR 0 0 0 0 l1 l2 = false := by unfold noR; simp; omega
            rw [e9]
            exact sameReq_1 0 0 0 0 0 0 a1 a2 none none l1 l2 c1 c2 0 0 0 0 w rfl rfl (by omega) (by omega) (by omega)
        · subst q2
          have e9 : noR 0 0 0 wa l1 l2 = false := by unfold noR; simp [q3]
          rw [e9]
          exact sameReq_w 0 0 0 wa 0 0 a1 a2 none none l1 l2 c1 c2 0 0 0 0 w rfl q3
      · have e9 : noR 0 0 nn wa l1 l2 = false := by unfold noR; simp [q2]
        rw [e9]
        exact sameReq_n 0 0 nn wa 0 0 a1 a2 none none l1 l2 c1 c2 0 0 0 0 w q2
    · have e9 : noR kd pl nn wa l1 l2 = false := by unfold noR; simp [q1]
      rw [e9]
      exact sameReq0_p kd pl nn wa a1 a2 l1 l2 c1 c2 w q0 q1
  · have e9 : noR kd pl nn wa l1 l2 = false := by unfold noR; simp [q0]
    rw [e9]
    exact sameReq0_k kd pl nn wa a1 a2 l1 l2 c1 c2 w q0

set_option maxRecDepth 20000 in
set_option maxHeartbeats 2000000 in
theorem callZero_any (C : Ca) (g o : Nat) (a1 a2 : Option Addr) (l1 l2 c1 c2 : Nat) (w : World) (d0 : w.cell? ⟨g, o, none⟩ = some (.int .i64 C.id)) (d1 : w.cell? ⟨g, o + 1, none⟩ = some (.int .i64 C.pa)) (d2 : w.cell? ⟨g, o + 2, none⟩ = some (.int .i64 C.un)) (d3 : w.cell? ⟨g, o + 3, none⟩ = some (.int .i64 C.kd)) (d4 : w.cell? ⟨g, o + 4, none⟩ = some (.int .i64 C.pl)) (d5 : w.cell? ⟨g, o + 5, none⟩ = some (.int .i64 C.n)) (d6 : w.cell? ⟨g, o + 6, none⟩ = some (.slice a1 l1 c1)) (d7 : w.cell? ⟨g, o + 7, none⟩ = some (.slice a2 l2 c2)) (d8 : w.cell? ⟨g, o + 8, none⟩ = some (.int .i64 C.wa)) (h1 : l1 = C.ws.length) (h2 : l2 = C.bs.length) (hl1 : l1 ≤ 2000000) (hl2 : l2 ≤ 2000000) :
    Calls Try.prog 95 #[.pointer (some ⟨g, o, none⟩)] w fun e w' => e = .returned (.bool (noCa C l1 l2)) ∧ Below w.heap.size w w' := by
  have HL : Hid (l1 = C.ws.length ∧ l2 = C.bs.length) := ⟨h1, h2⟩
  clear h1 h2
  cases q0 : (C.id == 0) with
  | false =>
    rw [show noCa C l1 l2 = false by unfold noCa; simp [q0]]
    go_enter Try.func95, Try.ntmps95
    go_wp2
    go_ret
    exact ⟨rfl, Below.refl _ _⟩
  | true =>
    cases q1 : (C.pa == 0) with
    | false =>
      rw [show noCa C l1 l2 = false by unfold noCa; simp [q0, q1]]
      go_enter Try.func95, Try.ntmps95
      go_wp2
      go_ret
      exact ⟨rfl, Below.refl _ _⟩
    | true =>
      cases q2 : (C.un == 0) with
      | false =>
        rw [show noCa C l1 l2 = false by unfold noCa; simp [q0, q1, q2]]
        go_enter Try.func95, Try.ntmps95
        go_wp2
        go_ret
        exact ⟨rfl, Below.refl _ _⟩
      | true =>
        obtain ⟨bb, hbb⟩ : ∃ b, noR C.kd C.pl C.n C.wa l1 l2 = b := ⟨_, rfl⟩
        have HBB : Hid (noR C.kd C.pl C.n C.wa l1 l2 = bb) := hbb
        rw [show noCa C l1 l2 = bb by unfold noCa; simp [q0, q1, q2, hbb]]
        clear hbb
        go_enter Try.func95, Try.ntmps95
        go_wp2_with fail
        refine (sameReq0_any C.kd C.pl C.n C.wa a1 a2 l1 l2 c1 c2 C.ws C.bs _ HL.out.1 HL.out.2 hl1 hl2).mono ?_
        rintro e w1 ⟨rfl, b1⟩
        rw [HBB.out]
        clear d0 d1 d2 d3 d4 d5 d6 d7 d8
        go_wp2
        go_ret
        exact ⟨rfl, b1⟩

set_option maxRecDepth 20000 in
set_option maxHeartbeats 2000000 in
theorem l12NoReq_any (kd pl nn wa : Int) (a1 a2 : Option Addr) (l1 l2 c1 c2 : Nat) (w : World) :
    Calls Try.prog 99 #[rq kd pl nn wa a1 a2 l1 l2 c1 c2] w fun e w' => e = .returned (.bool (noR kd pl nn wa l1 l2)) ∧ Below w.heap.size w w' := by
  cases q0 : (kd == 0) with
  | false =>
    rw [show noR kd pl nn wa l1 l2 = false by unfold noR; simp [q0]]
    go_enter Try.func99, Try.ntmps99
    go_wp2
    go_ret
    exact ⟨rfl, bel_alloc _ _⟩
  | true =>
    cases q1 : (pl == 0) with
    | false =>
      rw [show noR kd pl nn wa l1 l2 = false by unfold noR; simp [q0, q1]]
      go_enter Try.func99, Try.ntmps99
      go_wp2
      go_ret
      exact ⟨rfl, bel_alloc _ _⟩
    | true =>
      cases q2 : (nn == 0) with
      | false =>
        rw [show noR kd pl nn wa l1 l2 = false by unfold noR; simp [q0, q1, q2]]
        go_enter Try.func99, Try.ntmps99
        go_wp2
        go_ret
        exact ⟨rfl, bel_alloc _ _⟩
      | true =>
        cases q3 : ((l1 : Int) == 0) with
        | false =>
          rw [show noR kd pl nn wa l1 l2 = false by unfold noR; simp [q0, q1, q2, q3]]
          go_enter Try.func99, Try.ntmps99
          go_wp2
          go_ret
          exact ⟨rfl, bel_alloc _ _⟩
        | true =>
          cases q4 : ((l2 : Int) == 0) with
          | false =>
            rw [show noR kd pl nn wa l1 l2 = false by unfold noR; simp [q0, q1, q2, q3, q4]]
            go_enter Try.func99, Try.ntmps99
            go_wp2
            go_ret
            exact ⟨rfl, bel_alloc _ _⟩
          | true =>
            cases q5 : (wa == 0) with
            | false =>
              rw [show noR kd pl nn wa l1 l2 = false by unfold noR; simp [q0, q1, q2, q3, q4, q5]]
              go_enter Try.func99, Try.ntmps99
              go_wp2
              go_ret
              exact ⟨rfl, bel_alloc _ _⟩
            | true =>
              rw [show noR kd pl nn wa l1 l2 = true by unfold noR; simp [q0, q1, q2, q3, q4, q5]]
              go_enter Try.func99, Try.ntmps99
              go_wp2
              go_ret
              exact ⟨rfl, bel_alloc _ _⟩

set_option maxRecDepth 20000 in
set_option maxHeartbeats 2000000 in
theorem l12NoCall_any (C : Ca) (a1 a2 : Option Addr) (l1 l2 c1 c2 : Nat) (w : World) :
    Calls Try.prog 69 #[.agg (cac C a1 a2 l1 l2 c1 c2)] w fun e w' => e = .returned (.bool (noCa C l1 l2)) ∧ Below w.heap.size w w' := by
  cases q0 : (C.id == 0) with
  | false =>
    rw [show noCa C l1 l2 = false by unfold noCa; simp [q0]]
    go_enter Try.func69, Try.ntmps69
    go_wp2
    go_ret
    exact ⟨rfl, bel_alloc _ _⟩
  | true =>
    cases q1 : (C.pa == 0) with
    | false =>
      rw [show noCa C l1 l2 = false by unfold noCa; simp [q0, q1]]
      go_enter Try.func69, Try.ntmps69
      go_wp2
      go_ret
      exact ⟨rfl, bel_alloc _ _⟩
    | true =>
      cases q2 : (C.un == 0) with
      | false =>
        rw [show noCa C l1 l2 = false by unfold noCa; simp [q0, q1, q2]]
        go_enter Try.func69, Try.ntmps69
        go_wp2
        go_ret
        exact ⟨rfl, bel_alloc _ _⟩
      | true =>
        obtain ⟨bb, hbb⟩ : ∃ b, noR C.kd C.pl C.n C.wa l1 l2 = b := ⟨_, rfl⟩
        have HBB : Hid (noR C.kd C.pl C.n C.wa l1 l2 = bb) := hbb
        rw [show noCa C l1 l2 = bb by unfold noCa; simp [q0, q1, q2, hbb]]
        clear hbb
        have B0 := bel_alloc w (.cells (cac C a1 a2 l1 l2 c1 c2) 30)
        go_enter Try.func69, Try.ntmps69
        go_wp2_with fail
        refine (l12NoReq_any C.kd C.pl C.n C.wa a1 a2 l1 l2 c1 c2 _).mono ?_
        rintro e w1 ⟨rfl, b1⟩
        have B1 := bel_nx B0 b1
        clear b1 B0
        rw [HBB.out]
        go_wp2
        go_ret
        exact ⟨rfl, B1⟩

end Go.Proofs.Ytmhdneenjoelfaa
