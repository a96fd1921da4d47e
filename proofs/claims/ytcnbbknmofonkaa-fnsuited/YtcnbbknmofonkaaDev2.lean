/- Devices that are right, and that are the same. -/
import Derived.Test.YtcnbbknmofonkaaDev1
import Derived.Test.YtcnbbknmofonkaaS1
import Derived.Test.YtcnbbknmofonkaaQ1
namespace Go.Proofs.Ytcnbbknmofonkaa
open Go.RowKit

set_option linter.unusedVariables false

set_option linter.unusedSimpArgs false

/-- A device is right. -/
def okD (l1 l2 l3 l4 : Nat) (hs rs : List Int) : Bool := decide (l1 ≤ 64 ∧ l2 ≤ 64 ∧ l3 ≤ 64 ∧ l4 ≤ 64) && (allW hs && allW rs)

set_option maxRecDepth 20000 in
set_option maxHeartbeats 4000000 in
theorem specDeviceOk_any (a1 a2 a3 a4 : Option Addr) (l1 l2 l3 l4 c1 c2 c3 c4 : Nat) (cs is : List Bool) (hs rs : List Int) (w : World) (hn : LnD l1 l2 l3 l4 cs is hs rs) (hs0 : SlD w a1 a2 a3 a4 cs is hs rs) (hl : SmD 2000000 cs is hs rs) (b : Bool) (hb : okD l1 l2 l3 l4 hs rs = b) :
    Calls Try.prog 76 #[dv a1 a2 a3 a4 l1 l2 l3 l4 c1 c2 c3 c4] w fun e w' => e = .returned (.bool b) ∧ Below w.heap.size w w' := by
  have b0 := bel_alloc w (.cells #[.slice a1 l1 c1, .slice a2 l2 c2, .slice a3 l3 c3, .slice a4 l4 c4] 29)
  have HS : Hid (SlI (w.alloc (.cells #[.slice a1 l1 c1, .slice a2 l2 c2, .slice a3 l3 c3, .slice a4 l4 c4] 29)) a3 hs ∧ SlI (w.alloc (.cells #[.slice a1 l1 c1, .slice a2 l2 c2, .slice a3 l3 c3, .slice a4 l4 c4] 29)) a4 rs) := ⟨hs0.2.2.1.below b0, hs0.2.2.2.below b0⟩
  have HN : Hid (l3 = hs.length ∧ l4 = rs.length ∧ hs.length ≤ 2000000 ∧ rs.length ≤ 2000000) := ⟨hn.2.2.1, hn.2.2.2, hl.2.2.1, hl.2.2.2⟩
  obtain ⟨k1, k2, k3, k4⟩ : l1 ≤ 2000000 ∧ l2 ≤ 2000000 ∧ l3 ≤ 2000000 ∧ l4 ≤ 2000000 := by obtain ⟨e1, e2, e3, e4⟩ := hn; obtain ⟨f1, f2, f3, f4⟩ := hl; omega
  subst hb
  clear hn hs0 hl
  by_cases h1 : (l1 : Int) ≤ 64
  case neg =>
    rw [show okD l1 l2 l3 l4 hs rs = false by unfold okD; rw [decide_eq_false (by omega)]; rfl]
    go_enter Try.func76, Try.ntmps76
    go_wp2
    go_ret
    exact ⟨rfl, b0⟩
  by_cases h2 : (l2 : Int) ≤ 64
  case neg =>
    rw [show okD l1 l2 l3 l4 hs rs = false by unfold okD; rw [decide_eq_false (by omega)]; rfl]
    go_enter Try.func76, Try.ntmps76
    go_wp2
    go_ret
    exact ⟨rfl, b0⟩
  by_cases h3 : (l3 : Int) ≤ 64
  case neg =>
    rw [show okD l1 l2 l3 l4 hs rs = false by unfold okD; rw [decide_eq_false (by omega)]; rfl]
    go_enter Try.func76, Try.ntmps76
    go_wp2
    go_ret
    exact ⟨rfl, b0⟩
  by_cases h4 : (l4 : Int) ≤ 64
  case neg =>
    rw [show okD l1 l2 l3 l4 hs rs = false by unfold okD; rw [decide_eq_false (by omega)]; rfl]
    go_enter Try.func76, Try.ntmps76
    go_wp2
    go_ret
    exact ⟨rfl, b0⟩
  have hd : decide (l1 ≤ 64 ∧ l2 ≤ 64 ∧ l3 ≤ 64 ∧ l4 ≤ 64) = true := decide_eq_true (by omega)
  cases e3 : allW hs
  · rw [show okD l1 l2 l3 l4 hs rs = false by unfold okD; rw [hd, e3]; rfl]
    clear hd k1 k2 k3 k4
    go_enter Try.func76, Try.ntmps76
    go_wp2_with fail
    refine (l3Words_any _ _ _ hs _ HN.out.1 HS.out.1 HN.out.2.2.1 _ e3).mono ?_
    rintro e wx ⟨rfl, rfl⟩
    go_wp2
    go_ret
    exact ⟨rfl, b0⟩
  · cases e4 : allW rs
    · rw [show okD l1 l2 l3 l4 hs rs = false by unfold okD; rw [hd, e3, e4]; rfl]
      clear hd k1 k2 k3 k4
      go_enter Try.func76, Try.ntmps76
      go_wp2_with fail
      refine (l3Words_any _ _ _ hs _ HN.out.1 HS.out.1 HN.out.2.2.1 _ e3).mono ?_
      rintro e wx ⟨rfl, rfl⟩
      go_wp2_with fail
      refine (l3Words_any _ _ _ rs _ HN.out.2.1 HS.out.2 HN.out.2.2.2 _ e4).mono ?_
      rintro e wx ⟨rfl, rfl⟩
      go_wp2
      go_ret
      exact ⟨rfl, b0⟩
    · rw [show okD l1 l2 l3 l4 hs rs = true by unfold okD; rw [hd, e3, e4]; rfl]
      clear hd k1 k2 k3 k4
      go_enter Try.func76, Try.ntmps76
      go_wp2_with fail
      refine (l3Words_any _ _ _ hs _ HN.out.1 HS.out.1 HN.out.2.2.1 _ e3).mono ?_
      rintro e wx ⟨rfl, rfl⟩
      go_wp2_with fail
      refine (l3Words_any _ _ _ rs _ HN.out.2.1 HS.out.2 HN.out.2.2.2 _ e4).mono ?_
      rintro e wx ⟨rfl, rfl⟩
      go_wp2
      go_ret
      exact ⟨rfl, b0⟩

theorem idx4_0 (x0 x1 x2 x3 : Int) (w : World) : (Instr.index 88 (.agg #[.int .i64 x0, .int .i64 x1, .int .i64 x2, .int .i64 x3]) (.int .i64 0)).run Try.prog w = .ok (.int .i64 x0) w := by kernel_rfl

theorem idx4_1 (x0 x1 x2 x3 : Int) (w : World) : (Instr.index 88 (.agg #[.int .i64 x0, .int .i64 x1, .int .i64 x2, .int .i64 x3]) (.int .i64 1)).run Try.prog w = .ok (.int .i64 x1) w := by kernel_rfl

theorem idx4_2 (x0 x1 x2 x3 : Int) (w : World) : (Instr.index 88 (.agg #[.int .i64 x0, .int .i64 x1, .int .i64 x2, .int .i64 x3]) (.int .i64 2)).run Try.prog w = .ok (.int .i64 x2) w := by kernel_rfl

theorem idx4_3 (x0 x1 x2 x3 : Int) (w : World) : (Instr.index 88 (.agg #[.int .i64 x0, .int .i64 x1, .int .i64 x2, .int .i64 x3]) (.int .i64 3)).run Try.prog w = .ok (.int .i64 x3) w := by kernel_rfl

set_option maxHeartbeats 2000000 in
theorem sizes_any (a1 a2 a3 a4 : Option Addr) (l1 l2 l3 l4 c1 c2 c3 c4 : Nat) (w : World) (k1 : l1 ≤ 2000000) (k2 : l2 ≤ 2000000) (k3 : l3 ≤ 2000000) (k4 : l4 ≤ 2000000) :
    Calls Try.prog 68 #[dv a1 a2 a3 a4 l1 l2 l3 l4 c1 c2 c3 c4] w fun e w' => e = .returned (.agg #[.int .i64 (l1 : Int), .int .i64 (l2 : Int), .int .i64 (l3 : Int), .int .i64 (l4 : Int)]) ∧ Below w.heap.size w w' := by
  have b0 := bel_next (bel_alloc w (.cells #[.slice a1 l1 c1, .slice a2 l2 c2, .slice a3 l3 c3, .slice a4 l4 c4] 29)) (bel_alloc _ (.cells #[.int .i64 0, .int .i64 0, .int .i64 0, .int .i64 0] 88))
  go_enter Try.func68, Try.ntmps68
  go_wp2
  refine bodyPost_ret (v := .agg #[.int .i64 (l1 : Int), .int .i64 (l2 : Int), .int .i64 (l3 : Int), .int .i64 (l4 : Int)]) (by simp [results, Try.results68, go_sem]) rfl ?_
  exact ⟨rfl, bel_next (bel_alloc _ _) (bel_alloc _ _)⟩

set_option maxRecDepth 20000 in
set_option maxHeartbeats 4000000 in
theorem implDeviceOk_any (a1 a2 a3 a4 : Option Addr) (l1 l2 l3 l4 c1 c2 c3 c4 : Nat) (cs is : List Bool) (hs rs : List Int) (w : World) (hn : LnD l1 l2 l3 l4 cs is hs rs) (hs0 : SlD w a1 a2 a3 a4 cs is hs rs) (hl : SmD 2000000 cs is hs rs) (b : Bool) (hb : okD l1 l2 l3 l4 hs rs = b) :
    Calls Try.prog 29 #[dv a1 a2 a3 a4 l1 l2 l3 l4 c1 c2 c3 c4] w fun e w' => e = .returned (.bool b) ∧ Below w.heap.size w w' := by
  have b0 := bel_alloc w (.cells #[.slice a1 l1 c1, .slice a2 l2 c2, .slice a3 l3 c3, .slice a4 l4 c4] 29)
  have HS : Hid (SlI (w.alloc (.cells #[.slice a1 l1 c1, .slice a2 l2 c2, .slice a3 l3 c3, .slice a4 l4 c4] 29)) a3 hs ∧ SlI (w.alloc (.cells #[.slice a1 l1 c1, .slice a2 l2 c2, .slice a3 l3 c3, .slice a4 l4 c4] 29)) a4 rs) := ⟨hs0.2.2.1.below b0, hs0.2.2.2.below b0⟩
  have HN : Hid (l3 = hs.length ∧ l4 = rs.length ∧ hs.length ≤ 2000000 ∧ rs.length ≤ 2000000) := ⟨hn.2.2.1, hn.2.2.2, hl.2.2.1, hl.2.2.2⟩
  obtain ⟨k1, k2, k3, k4⟩ : l1 ≤ 2000000 ∧ l2 ≤ 2000000 ∧ l3 ≤ 2000000 ∧ l4 ≤ 2000000 := by obtain ⟨e1, e2, e3, e4⟩ := hn; obtain ⟨f1, f2, f3, f4⟩ := hl; omega
  subst hb
  clear hn hs0 hl
  have j0 := idx4_0
  have j1 := idx4_1
  have j2 := idx4_2
  have j3 := idx4_3
  have X0 := Blk.new w #[.slice a1 l1 c1, .slice a2 l2 c2, .slice a3 l3 c3, .slice a4 l4 c4] 29
  by_cases h1 : (l1 : Int) > 64
  case pos =>
    rw [show okD l1 l2 l3 l4 hs rs = false by unfold okD; rw [decide_eq_false (by omega)]; rfl]
    go_enter Try.func29, Try.ntmps29
    go_wp2_with fail
    refine (sizes_any _ _ _ _ _ _ _ _ _ _ _ _ _ k1 k2 k3 k4).mono ?_
    rintro e w1 ⟨rfl, b'⟩
    have b1 := bel_next b0 b'
    have HS1 : Hid (SlI w1 a3 hs ∧ SlI w1 a4 rs) := ⟨HS.out.1.below b', HS.out.2.below b'⟩
    obtain ⟨x0, x1, x2, x3⟩ := (X0.below b').four
    clear b' b0 X0
    go_wp2
    refine wp_loop_rounds 5 ?_
    rw [rounds_succ]
    go_wp2
    go_ret
    exact ⟨rfl, b1⟩
  by_cases h2 : (l2 : Int) > 64
  case pos =>
    rw [show okD l1 l2 l3 l4 hs rs = false by unfold okD; rw [decide_eq_false (by omega)]; rfl]
    go_enter Try.func29, Try.ntmps29
    go_wp2_with fail
    refine (sizes_any _ _ _ _ _ _ _ _ _ _ _ _ _ k1 k2 k3 k4).mono ?_
    rintro e w1 ⟨rfl, b'⟩
    have b1 := bel_next b0 b'
    have HS1 : Hid (SlI w1 a3 hs ∧ SlI w1 a4 rs) := ⟨HS.out.1.below b', HS.out.2.below b'⟩
    obtain ⟨x0, x1, x2, x3⟩ := (X0.below b').four
    clear b' b0 X0
    go_wp2
    refine wp_loop_rounds 5 ?_
    rw [rounds_succ]
    go_wp2
    rw [rounds_succ]
    go_wp2
    go_ret
    exact ⟨rfl, b1⟩
  by_cases h3 : (l3 : Int) > 64
  case pos =>
    rw [show okD l1 l2 l3 l4 hs rs = false by unfold okD; rw [decide_eq_false (by omega)]; rfl]
    go_enter Try.func29, Try.ntmps29
    go_wp2_with fail
    refine (sizes_any _ _ _ _ _ _ _ _ _ _ _ _ _ k1 k2 k3 k4).mono ?_
    rintro e w1 ⟨rfl, b'⟩
    have b1 := bel_next b0 b'
    have HS1 : Hid (SlI w1 a3 hs ∧ SlI w1 a4 rs) := ⟨HS.out.1.below b', HS.out.2.below b'⟩
    obtain ⟨x0, x1, x2, x3⟩ := (X0.below b').four
    clear b' b0 X0
    go_wp2
    refine wp_loop_rounds 5 ?_
    rw [rounds_succ]
    go_wp2
    rw [rounds_succ]
    go_wp2
    rw [rounds_succ]
    go_wp2
    go_ret
    exact ⟨rfl, b1⟩
  by_cases h4 : (l4 : Int) > 64
  case pos =>
    rw [show okD l1 l2 l3 l4 hs rs = false by unfold okD; rw [decide_eq_false (by omega)]; rfl]
    go_enter Try.func29, Try.ntmps29
    go_wp2_with fail
    refine (sizes_any _ _ _ _ _ _ _ _ _ _ _ _ _ k1 k2 k3 k4).mono ?_
    rintro e w1 ⟨rfl, b'⟩
    have b1 := bel_next b0 b'
    have HS1 : Hid (SlI w1 a3 hs ∧ SlI w1 a4 rs) := ⟨HS.out.1.below b', HS.out.2.below b'⟩
    obtain ⟨x0, x1, x2, x3⟩ := (X0.below b').four
    clear b' b0 X0
    go_wp2
    refine wp_loop_rounds 5 ?_
    rw [rounds_succ]
    go_wp2
    rw [rounds_succ]
    go_wp2
    rw [rounds_succ]
    go_wp2
    rw [rounds_succ]
    go_wp2
    go_ret
    exact ⟨rfl, b1⟩
  have hd : decide (l1 ≤ 64 ∧ l2 ≤ 64 ∧ l3 ≤ 64 ∧ l4 ≤ 64) = true := decide_eq_true (by omega)
  cases e3 : allW hs
  · rw [show okD l1 l2 l3 l4 hs rs = false by unfold okD; rw [hd, e3]; rfl]
    go_enter Try.func29, Try.ntmps29
    go_wp2_with fail
    refine (sizes_any _ _ _ _ _ _ _ _ _ _ _ _ _ k1 k2 k3 k4).mono ?_
    rintro e w1 ⟨rfl, b'⟩
    have b1 := bel_next b0 b'
    have HS1 : Hid (SlI w1 a3 hs ∧ SlI w1 a4 rs) := ⟨HS.out.1.below b', HS.out.2.below b'⟩
    obtain ⟨x0, x1, x2, x3⟩ := (X0.below b').four
    clear b' b0 X0
    go_wp2
    refine wp_loop_rounds 5 ?_
    rw [rounds_succ]
    go_wp2
    rw [rounds_succ]
    go_wp2
    rw [rounds_succ]
    go_wp2
    rw [rounds_succ]
    go_wp2
    rw [rounds_succ]
    go_wp2_with fail
    refine (areWords_any _ _ _ hs _ HN.out.1 HS1.out.1 HN.out.2.2.1 _ e3).mono ?_
    rintro e wx ⟨rfl, rfl⟩
    go_wp2
    go_ret
    exact ⟨rfl, b1⟩
  · cases e4 : allW rs
    · rw [show okD l1 l2 l3 l4 hs rs = false by unfold okD; rw [hd, e3, e4]; rfl]
      go_enter Try.func29, Try.ntmps29
      go_wp2_with fail
      refine (sizes_any _ _ _ _ _ _ _ _ _ _ _ _ _ k1 k2 k3 k4).mono ?_
      rintro e w1 ⟨rfl, b'⟩
      have b1 := bel_next b0 b'
      have HS1 : Hid (SlI w1 a3 hs ∧ SlI w1 a4 rs) := ⟨HS.out.1.below b', HS.out.2.below b'⟩
      obtain ⟨x0, x1, x2, x3⟩ := (X0.below b').four
      clear b' b0 X0
      go_wp2
      refine wp_loop_rounds 5 ?_
      rw [rounds_succ]
      go_wp2
      rw [rounds_succ]
      go_wp2
      rw [rounds_succ]
      go_wp2
      rw [rounds_succ]
      go_wp2
      rw [rounds_succ]
      go_wp2_with fail
      refine (areWords_any _ _ _ hs _ HN.out.1 HS1.out.1 HN.out.2.2.1 _ e3).mono ?_
      rintro e wx ⟨rfl, rfl⟩
      go_wp2_with fail
      refine (areWords_any _ _ _ rs _ HN.out.2.1 HS1.out.2 HN.out.2.2.2 _ e4).mono ?_
      rintro e wx ⟨rfl, rfl⟩
      go_wp2
      go_ret
      exact ⟨rfl, b1⟩
    · rw [show okD l1 l2 l3 l4 hs rs = true by unfold okD; rw [hd, e3, e4]; rfl]
      go_enter Try.func29, Try.ntmps29
      go_wp2_with fail
      refine (sizes_any _ _ _ _ _ _ _ _ _ _ _ _ _ k1 k2 k3 k4).mono ?_
      rintro e w1 ⟨rfl, b'⟩
      have b1 := bel_next b0 b'
      have HS1 : Hid (SlI w1 a3 hs ∧ SlI w1 a4 rs) := ⟨HS.out.1.below b', HS.out.2.below b'⟩
      obtain ⟨x0, x1, x2, x3⟩ := (X0.below b').four
      clear b' b0 X0
      go_wp2
      refine wp_loop_rounds 5 ?_
      rw [rounds_succ]
      go_wp2
      rw [rounds_succ]
      go_wp2
      rw [rounds_succ]
      go_wp2
      rw [rounds_succ]
      go_wp2
      rw [rounds_succ]
      go_wp2_with fail
      refine (areWords_any _ _ _ hs _ HN.out.1 HS1.out.1 HN.out.2.2.1 _ e3).mono ?_
      rintro e wx ⟨rfl, rfl⟩
      go_wp2_with fail
      refine (areWords_any _ _ _ rs _ HN.out.2.1 HS1.out.2 HN.out.2.2.2 _ e4).mono ?_
      rintro e wx ⟨rfl, rfl⟩
      go_wp2
      go_ret
      exact ⟨rfl, b1⟩

/-- Two devices are the same. -/
def sdB (cs is : List Bool) (hs rs : List Int) (cs2 is2 : List Bool) (hs2 rs2 : List Int) : Bool := decide (cs = cs2) && (decide (is = is2) && (decide (hs = hs2) && decide (rs = rs2)))

set_option maxRecDepth 20000 in
set_option maxHeartbeats 4000000 in
theorem implSame_any (a1 a2 a3 a4 : Option Addr) (l1 l2 l3 l4 c1 c2 c3 c4 : Nat) (x1 x2 x3 x4 : Option Addr) (m1 m2 m3 m4 d1 d2 d3 d4 : Nat) (cs is : List Bool) (hs rs : List Int) (cs2 is2 : List Bool) (hs2 rs2 : List Int) (w : World) (hn : LnD l1 l2 l3 l4 cs is hs rs) (hm : LnD m1 m2 m3 m4 cs2 is2 hs2 rs2) (hs0 : SlD w a1 a2 a3 a4 cs is hs rs) (hx0 : SlD w x1 x2 x3 x4 cs2 is2 hs2 rs2) (hl : SmD 2000000 cs is hs rs) (hl2 : SmD 2000000 cs2 is2 hs2 rs2) (b : Bool) (hb : sdB cs is hs rs cs2 is2 hs2 rs2 = b) :
    Calls Try.prog 32 #[dv a1 a2 a3 a4 l1 l2 l3 l4 c1 c2 c3 c4, dv x1 x2 x3 x4 m1 m2 m3 m4 d1 d2 d3 d4] w fun e w' => e = .returned (.bool b) ∧ Below w.heap.size w w' := by
  subst hb
  obtain ⟨W0, hW0⟩ : ∃ W0, W0 = (w.alloc (.cells #[.slice a1 l1 c1, .slice a2 l2 c2, .slice a3 l3 c3, .slice a4 l4 c4] 29)).alloc (.cells #[.slice x1 m1 d1, .slice x2 m2 d2, .slice x3 m3 d3, .slice x4 m4 d4] 29) := ⟨_, rfl⟩
  have HW : Hid (W0 = _) := hW0
  have b0 : Below w.heap.size w W0 := by rw [hW0]; exact bel_next (bel_alloc w _) (bel_alloc _ _)
  have X0 : Blk W0 w.heap.size 29 #[.slice a1 l1 c1, .slice a2 l2 c2, .slice a3 l3 c3, .slice a4 l4 c4] := by rw [hW0]; exact (Blk.new w _ _).below (bel_alloc _ _)
  have Y0 : Blk W0 (w.heap.size + 1) 29 #[.slice x1 m1 d1, .slice x2 m2 d2, .slice x3 m3 d3, .slice x4 m4 d4] := by rw [hW0]; have := Blk.new (w.alloc (.cells #[.slice a1 l1 c1, .slice a2 l2 c2, .slice a3 l3 c3, .slice a4 l4 c4] 29)) #[.slice x1 m1 d1, .slice x2 m2 d2, .slice x3 m3 d3, .slice x4 m4 d4] 29; simpa using this
  have HS : Hid (LnD l1 l2 l3 l4 cs is hs rs ∧ LnD m1 m2 m3 m4 cs2 is2 hs2 rs2 ∧ SlD w a1 a2 a3 a4 cs is hs rs ∧ SlD w x1 x2 x3 x4 cs2 is2 hs2 rs2 ∧ SmD 2000000 cs is hs rs ∧ SmD 2000000 cs2 is2 hs2 rs2) := ⟨hn, hm, hs0, hx0, hl, hl2⟩
  unfold sdB
  clear hn hm hs0 hx0 hl hl2 hW0
  go_enter Try.func32, Try.ntmps32
  go_upto_region 1 with fail
  rw [← HW.out]
  have cx := X0.cell 0 rfl
  have cy := Y0.cell 0 rfl
  go_wp2_with fail
  refine (equal_bool_any _ _ _ _ _ _ cs cs2 _ HS.out.1.1 HS.out.2.1.1 (HS.out.2.2.1.1.below b0) (HS.out.2.2.2.1.1.below b0) HS.out.2.2.2.2.1.1 HS.out.2.2.2.2.2.1 _ rfl).mono ?_
  rintro e w1 ⟨rfl, b'⟩
  have b1 := bel_next b0 b'
  have X1 := X0.below b'
  have Y1 := Y0.below b'
  clear cx cy X0 Y0 b0 b'
  cases e1 : decide (cs = cs2)
  case false =>
    go_wp2
    go_ret
    exact ⟨by simp [e1], b1⟩
  have cx := X1.cell 1 rfl
  have cy := Y1.cell 1 rfl
  go_wp2_with fail
  refine (equal_bool_any _ _ _ _ _ _ is is2 _ HS.out.1.2.1 HS.out.2.1.2.1 (HS.out.2.2.1.2.1.below b1) (HS.out.2.2.2.1.2.1.below b1) HS.out.2.2.2.2.1.2.1 HS.out.2.2.2.2.2.2.1 _ rfl).mono ?_
  rintro e w2 ⟨rfl, b'⟩
  have b2 := bel_next b1 b'
  have X2 := X1.below b'
  have Y2 := Y1.below b'
  clear cx cy X1 Y1 b1 b'
  cases e2 : decide (is = is2)
  case false =>
    go_wp2
    go_ret
    exact ⟨by simp [e1, e2], b2⟩
  have cx := X2.cell 2 rfl
  have cy := Y2.cell 2 rfl
  go_wp2_with fail
  refine (equal_int_any _ _ _ _ _ _ hs hs2 _ HS.out.1.2.2.1 HS.out.2.1.2.2.1 (HS.out.2.2.1.2.2.1.below b2) (HS.out.2.2.2.1.2.2.1.below b2) HS.out.2.2.2.2.1.2.2.1 HS.out.2.2.2.2.2.2.2.1 _ rfl).mono ?_
  rintro e w3 ⟨rfl, b'⟩
  have b3 := bel_next b2 b'
  have X3 := X2.below b'
  have Y3 := Y2.below b'
  clear cx cy X2 Y2 b2 b'
  cases e3 : decide (hs = hs2)
  case false =>
    go_wp2
    go_ret
    exact ⟨by simp [e1, e2, e3], b3⟩
  have cx := X3.cell 3 rfl
  have cy := Y3.cell 3 rfl
  go_wp2_with fail
  refine (equal_int_any _ _ _ _ _ _ rs rs2 _ HS.out.1.2.2.2 HS.out.2.1.2.2.2 (HS.out.2.2.1.2.2.2.below b3) (HS.out.2.2.2.1.2.2.2.below b3) HS.out.2.2.2.2.1.2.2.2 HS.out.2.2.2.2.2.2.2.2 _ rfl).mono ?_
  rintro e w4 ⟨rfl, b'⟩
  have b4 := bel_next b3 b'
  have X4 := X3.below b'
  have Y4 := Y3.below b'
  clear cx cy X3 Y3 b3 b'
  go_wp2
  go_ret
  exact ⟨by simp [e1, e2, e3], b4⟩

end Go.Proofs.Ytcnbbknmofonkaa
