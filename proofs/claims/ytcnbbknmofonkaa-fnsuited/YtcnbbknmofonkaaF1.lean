/- The answer that is a fault. -/
import Derived.Test.YtcnbbknmofonkaaResp1
import Derived.Test.YtcnbbknmofonkaaQ6
namespace Go.Proofs.Ytcnbbknmofonkaa
open Go.RowKit

set_option linter.unusedVariables false

set_option linter.unusedSimpArgs false

set_option maxHeartbeats 1000000 in
theorem isCount_any (x most : Int) (w : World) (b : Bool) (hb : inB x 1 most = b) : Calls Try.prog 96 #[.int .i64 x, .int .i64 most] w fun e w' => e = .returned (.bool b) ∧ w' = w := by
  subst hb
  unfold inB
  by_cases h1 : 1 ≤ x
  · by_cases h2 : x ≤ most
    · rw [decide_eq_true (show 1 ≤ x ∧ x ≤ most from ⟨h1, h2⟩)]
      go_enter Try.func96, Try.ntmps96
      go_wp2
      go_ret
      exact ⟨rfl, rfl⟩
    · rw [decide_eq_false (show ¬ (1 ≤ x ∧ x ≤ most) from fun h => h2 h.2)]
      go_enter Try.func96, Try.ntmps96
      go_wp2
      go_ret
      exact ⟨rfl, rfl⟩
  · rw [decide_eq_false (show ¬ (1 ≤ x ∧ x ≤ most) from fun h => h1 h.1)]
    go_enter Try.func96, Try.ntmps96
    go_wp2
    go_ret
    exact ⟨rfl, rfl⟩

set_option maxHeartbeats 1000000 in
theorem isFault_any (x : Int) (w : World) (b : Bool) (hb : inB x 1 255 = b) : Calls Try.prog 67 #[.int .i64 x] w fun e w' => e = .returned (.bool b) ∧ w' = w := by
  go_enter Try.func67, Try.ntmps67
  go_wp2_with fail
  refine (isCount_any _ _ _ _ hb).mono ?_
  rintro e wx ⟨rfl, rfl⟩
  go_wp2
  go_ret
  exact ⟨rfl, rfl⟩

/-- What FaultOf tells. -/
abbrev foV (b : Bool) (kd x : Int) : Value := rp (bif b then kd else 0) (bif b then x else 0) 0 0 none none 0 0 0 0

set_option maxRecDepth 20000 in
set_option maxHeartbeats 4000000 in
theorem specFaultOf_q (kd pl nn wa : Int) (a1 a2 : Option Addr) (l1 l2 c1 c2 : Nat) (ws : List Int) (bs : List Bool) (x : Int) (w : World) (h1 : l1 = ws.length) (h2 : l2 = bs.length) (s1 : SlI w a1 ws) (s2 : SlB w a2 bs) (hl1 : ws.length ≤ 2000000) (hl2 : bs.length ≤ 2000000) :
    Calls Try.prog 77 #[rq kd pl nn wa a1 a2 l1 l2 c1 c2, .int .i64 x] w fun e w' => e = .returned (foV (okR kd pl nn wa ws l1 l2 && inB x 1 255) kd x) ∧ Below w.heap.size w w' := by
  obtain ⟨W0, hW0⟩ : ∃ W0, W0 = (w.alloc (.cells #[.int .i64 kd, .int .i64 pl, .int .i64 nn, .slice a1 l1 c1, .slice a2 l2 c2, .int .i64 wa] 46)).alloc (.cells #[.int .i64 0, .int .i64 0, .int .i64 0, .int .i64 0, .slice none 0 0, .slice none 0 0] 48) := ⟨_, rfl⟩
  have HW : Hid (W0 = _) := hW0
  have B0 : Below w.heap.size w W0 := by rw [hW0]; exact bel_next (bel_alloc w _) (bel_alloc _ _)
  have X0 : Blk W0 w.heap.size 46 #[.int .i64 kd, .int .i64 pl, .int .i64 nn, .slice a1 l1 c1, .slice a2 l2 c2, .int .i64 wa] := by rw [hW0]; exact (Blk.new w _ _).below (bel_alloc _ _)
  have R0 : Blk W0 (w.heap.size + 1) 48 #[.int .i64 0, .int .i64 0, .int .i64 0, .int .i64 0, .slice none 0 0, .slice none 0 0] := by
    rw [hW0]; have := Blk.new (w.alloc (.cells #[.int .i64 kd, .int .i64 pl, .int .i64 nn, .slice a1 l1 c1, .slice a2 l2 c2, .int .i64 wa] 46)) #[.int .i64 0, .int .i64 0, .int .i64 0, .int .i64 0, .slice none 0 0, .slice none 0 0] 48; simpa using this
  have HS : Hid (SlI W0 a1 ws ∧ SlB W0 a2 bs) := ⟨s1.below B0, s2.below B0⟩
  have HL : Hid (l1 = ws.length ∧ l2 = bs.length) := ⟨h1, h2⟩
  obtain ⟨x0, x1, x2, x3, x4, x5⟩ := X0.six
  clear hW0 h1 h2 s1 s2
  go_enter Try.func77, Try.ntmps77
  go_upto_region 1 with fail
  rw [← HW.out]
  go_wp2_with fail
  refine (specReqOk_q kd pl nn wa a1 a2 l1 l2 c1 c2 ws bs _ HL.out.1 HL.out.2 HS.out.1 HS.out.2 hl1 hl2).mono ?_
  rintro e w1 ⟨rfl, b'⟩
  have B1 := bel_next B0 b'
  have R1 := R0.below b'
  obtain ⟨z0, z1, z2, z3, z4, z5⟩ := (X0.below b').six
  obtain ⟨y0, y1, y2, y3, y4, y5⟩ := R1.six
  have fy := R1.fro
  clear b' B0 X0 R0 x0 x1 x2 x3 x4 x5 R1
  cases hok : okR kd pl nn wa ws l1 l2
  · skip
    go_wp2
    refine bodyPost_ret (v := foV false kd x) (by simp [results, Try.results77, go_sem, y0, y1, y2, y3, y4, y5]) rfl ?_
    exact ⟨by rw [hok]; rfl, belp_set6 B1 (Nat.le_succ _)⟩
  · cases hx : inB x 1 255
    · skip
      go_wp2_with (go_at_call 64; refine (l1In_any _ _ _ _ _ hx).mono ?_; rintro e wx ⟨rfl, rfl⟩)
      refine bodyPost_ret (v := foV false kd x) (by simp [results, Try.results77, go_sem, y0, y1, y2, y3, y4, y5]) rfl ?_
      exact ⟨by rw [hok, hx]; rfl, belp_set6 B1 (Nat.le_succ _)⟩
    · skip
      go_wp2_with (go_at_call 64; refine (l1In_any _ _ _ _ _ hx).mono ?_; rintro e wx ⟨rfl, rfl⟩)
      refine bodyPost_ret (v := foV true kd x) (by simp [results, Try.results77, go_sem, y0, y1, y2, y3, y4, y5]) rfl ?_
      exact ⟨by rw [hok, hx]; rfl, belp_set6 B1 (Nat.le_succ _)⟩

set_option maxRecDepth 20000 in
set_option maxHeartbeats 4000000 in
theorem implFaultOf_q (kd pl nn wa : Int) (a1 a2 : Option Addr) (l1 l2 c1 c2 : Nat) (ws : List Int) (bs : List Bool) (x : Int) (w : World) (h1 : l1 = ws.length) (h2 : l2 = bs.length) (s1 : SlI w a1 ws) (s2 : SlB w a2 bs) (hl1 : ws.length ≤ 2000000) (hl2 : bs.length ≤ 2000000) :
    Calls Try.prog 25 #[rq kd pl nn wa a1 a2 l1 l2 c1 c2, .int .i64 x] w fun e w' => e = .returned (foV (okR kd pl nn wa ws l1 l2 && inB x 1 255) kd x) ∧ Below w.heap.size w w' := by
  obtain ⟨W0, hW0⟩ : ∃ W0, W0 = (w.alloc (.cells #[.int .i64 kd, .int .i64 pl, .int .i64 nn, .slice a1 l1 c1, .slice a2 l2 c2, .int .i64 wa] 46)).alloc (.cells #[.int .i64 0, .int .i64 0, .int .i64 0, .int .i64 0, .slice none 0 0, .slice none 0 0] 48) := ⟨_, rfl⟩
  have HW : Hid (W0 = _) := hW0
  have B0 : Below w.heap.size w W0 := by rw [hW0]; exact bel_next (bel_alloc w _) (bel_alloc _ _)
  have X0 : Blk W0 w.heap.size 46 #[.int .i64 kd, .int .i64 pl, .int .i64 nn, .slice a1 l1 c1, .slice a2 l2 c2, .int .i64 wa] := by rw [hW0]; exact (Blk.new w _ _).below (bel_alloc _ _)
  have R0 : Blk W0 (w.heap.size + 1) 48 #[.int .i64 0, .int .i64 0, .int .i64 0, .int .i64 0, .slice none 0 0, .slice none 0 0] := by
    rw [hW0]; have := Blk.new (w.alloc (.cells #[.int .i64 kd, .int .i64 pl, .int .i64 nn, .slice a1 l1 c1, .slice a2 l2 c2, .int .i64 wa] 46)) #[.int .i64 0, .int .i64 0, .int .i64 0, .int .i64 0, .slice none 0 0, .slice none 0 0] 48; simpa using this
  have HS : Hid (SlI W0 a1 ws ∧ SlB W0 a2 bs) := ⟨s1.below B0, s2.below B0⟩
  have HL : Hid (l1 = ws.length ∧ l2 = bs.length) := ⟨h1, h2⟩
  obtain ⟨x0, x1, x2, x3, x4, x5⟩ := X0.six
  clear hW0 h1 h2 s1 s2
  go_enter Try.func25, Try.ntmps25
  go_upto_region 1 with fail
  rw [← HW.out]
  go_wp2_with fail
  refine (implReqOk_q kd pl nn wa a1 a2 l1 l2 c1 c2 ws bs _ HL.out.1 HL.out.2 HS.out.1 HS.out.2 hl1 hl2).mono ?_
  rintro e w1 ⟨rfl, b'⟩
  have B1 := bel_next B0 b'
  have R1 := R0.below b'
  obtain ⟨z0, z1, z2, z3, z4, z5⟩ := (X0.below b').six
  obtain ⟨y0, y1, y2, y3, y4, y5⟩ := R1.six
  have fy := R1.fro
  clear b' B0 X0 R0 x0 x1 x2 x3 x4 x5 R1
  cases hok : okR kd pl nn wa ws l1 l2
  · skip
    go_wp2
    refine bodyPost_ret (v := foV false kd x) (by simp [results, Try.results25, go_sem, y0, y1, y2, y3, y4, y5]) rfl ?_
    exact ⟨by rw [hok]; rfl, belp_set6 B1 (Nat.le_succ _)⟩
  · cases hx : inB x 1 255
    · skip
      go_wp2_with (go_at_call 67; refine (isFault_any _ _ _ hx).mono ?_; rintro e wx ⟨rfl, rfl⟩)
      refine bodyPost_ret (v := foV false kd x) (by simp [results, Try.results25, go_sem, y0, y1, y2, y3, y4, y5]) rfl ?_
      exact ⟨by rw [hok, hx]; rfl, belp_set6 B1 (Nat.le_succ _)⟩
    · skip
      go_wp2_with (go_at_call 67; refine (isFault_any _ _ _ hx).mono ?_; rintro e wx ⟨rfl, rfl⟩)
      refine bodyPost_ret (v := foV true kd x) (by simp [results, Try.results25, go_sem, y0, y1, y2, y3, y4, y5]) rfl ?_
      exact ⟨by rw [hok, hx]; rfl, belp_set6 B1 (Nat.le_succ _)⟩

end Go.Proofs.Ytcnbbknmofonkaa
