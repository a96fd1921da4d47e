/- Whether all places are there. -/
import Derived.Test.YtcnbbknmofonkaaDev8
import Derived.Test.YtcnbbknmofonkaaQ6
import Derived.Test.YtcnbbknmofonkaaF1
namespace Go.Proofs.Ytcnbbknmofonkaa
open Go.RowKit

set_option linter.unusedVariables false

set_option linter.unusedSimpArgs false

/-- Whether all places are there. -/
def hsB (sz j k kd wa m1 : Int) : Bool := if kd = 23 ∧ wa + m1 > sz then false else decide (j + k ≤ sz)

theorem hsB_1 {sz j k kd wa m1 : Int} (h : kd = 23) (h2 : wa + m1 > sz) : hsB sz j k kd wa m1 = false := by unfold hsB; rw [if_pos ⟨h, h2⟩]

theorem hsB_2 {sz j k kd wa m1 : Int} (h2 : ¬ (kd = 23 ∧ wa + m1 > sz)) : hsB sz j k kd wa m1 = decide (j + k ≤ sz) := by unfold hsB; rw [if_neg h2]

theorem idx4 (i : Nat) (hi : i < 4) (x0 x1 x2 x3 : Int) (w : World) : (Instr.index 88 (.agg #[.int .i64 x0, .int .i64 x1, .int .i64 x2, .int .i64 x3]) (.int .i64 (i : Int))).run Try.prog w = .ok (.int .i64 ([x0, x1, x2, x3].getD i 0)) w := by
  match i, hi with
  | 0, _ => exact idx4_0 _ _ _ _ _
  | 1, _ => exact idx4_1 _ _ _ _ _
  | 2, _ => exact idx4_2 _ _ _ _ _
  | 3, _ => exact idx4_3 _ _ _ _ _

set_option maxRecDepth 20000 in
set_option maxHeartbeats 8000000 in
theorem hasAll_any (a1 a2 a3 a4 : Option Addr) (l1 l2 l3 l4 c1 c2 c3 c4 : Nat) (kd pl nn wa : Int) (q1 q2 : Option Addr) (m1 m2 k1 k2 : Nat) (ws : List Int) (bs : List Bool) (w : World) (h1 : m1 = ws.length) (h2 : m2 = bs.length) (s1 : SlI w q1 ws) (s2 : SlB w q2 bs) (hl1 : ws.length ≤ 2000000) (hl2 : bs.length ≤ 2000000) (i : Nat) (j k sz : Int) (hv : spcV (okR kd pl nn wa ws m1 m2) kd pl nn m1 m2 = .tuple #[.int .i64 (i : Int), .int .i64 j, .int .i64 k]) (hi : i < 4) (hj : 0 ≤ j ∧ j ≤ 65535) (hk : 0 ≤ k ∧ k ≤ 2000000) (hw : kd = 23 → 0 ≤ wa ∧ wa ≤ 65535) (n1 : l1 ≤ 2000000) (n2 : l2 ≤ 2000000) (n3 : l3 ≤ 2000000) (n4 : l4 ≤ 2000000) (hsz : [(l1 : Int), (l2 : Int), (l3 : Int), (l4 : Int)].getD i 0 = sz) (b : Bool) (hb : hsB sz j k kd wa m1 = b) :
    Calls Try.prog 83 #[dv a1 a2 a3 a4 l1 l2 l3 l4 c1 c2 c3 c4, rq kd pl nn wa q1 q2 m1 m2 k1 k2] w fun e w' => e = .returned (.bool b) ∧ Below w.heap.size w w' := by
  obtain ⟨z, hz⟩ : ∃ z, z = (w.alloc (.cells #[.slice a1 l1 c1, .slice a2 l2 c2, .slice a3 l3 c3, .slice a4 l4 c4] 29)).alloc (.cells #[.int .i64 kd, .int .i64 pl, .int .i64 nn, .slice q1 m1 k1, .slice q2 m2 k2, .int .i64 wa] 46) := ⟨_, rfl⟩
  have HZ : Hid (z = _) := hz
  have b0 : Below w.heap.size w z := by rw [hz]; exact bel_next (bel_alloc w _) (bel_alloc _ _)
  have X0 : Blk z w.heap.size 29 #[.slice a1 l1 c1, .slice a2 l2 c2, .slice a3 l3 c3, .slice a4 l4 c4] := by rw [hz]; exact (Blk.new w _ _).below (bel_alloc _ _)
  have Y0 : Blk z (w.heap.size + 1) 46 #[.int .i64 kd, .int .i64 pl, .int .i64 nn, .slice q1 m1 k1, .slice q2 m2 k2, .int .i64 wa] := by rw [hz]; have := Blk.new (w.alloc (.cells #[.slice a1 l1 c1, .slice a2 l2 c2, .slice a3 l3 c3, .slice a4 l4 c4] 29)) #[.int .i64 kd, .int .i64 pl, .int .i64 nn, .slice q1 m1 k1, .slice q2 m2 k2, .int .i64 wa] 46; simpa using this
  have HQ : Hid (m1 = ws.length ∧ m2 = bs.length ∧ SlI z q1 ws ∧ SlB z q2 bs ∧ ws.length ≤ 2000000 ∧ bs.length ≤ 2000000) := ⟨h1, h2, s1.below b0, s2.below b0, hl1, hl2⟩
  have HN : Hid (l1 ≤ 2000000 ∧ l2 ≤ 2000000 ∧ l3 ≤ 2000000 ∧ l4 ≤ 2000000) := ⟨n1, n2, n3, n4⟩
  have HV : Hid (spcV (okR kd pl nn wa ws m1 m2) kd pl nn m1 m2 = .tuple #[.int .i64 (i : Int), .int .i64 j, .int .i64 k]) := hv
  have hm : m1 ≤ 2000000 := by omega
  have hix := idx4 i hi (l1 : Int) (l2 : Int) (l3 : Int) (l4 : Int)
  rw [hsz] at hix
  subst hb
  obtain ⟨y0, y1, y2, y3, y4, y5⟩ := Y0.six
  have hsz2 : 0 ≤ sz ∧ sz ≤ 2000000 := by
    rw [← hsz]
    match i, hi with
    | 0, _ => simp; omega
    | 1, _ => simp; omega
    | 2, _ => simp; omega
    | 3, _ => simp; omega
  clear h1 h2 s1 s2 hl1 hl2 hz n1 n2 n3 n4 hv hsz
  go_enter Try.func83, Try.ntmps83
  go_upto_region 1 with fail
  rw [← HZ.out]
  go_wp2_with fail
  refine (implSpaces_t kd pl nn wa q1 q2 m1 m2 k1 k2 ws bs _ HQ.out.1 HQ.out.2.1 HQ.out.2.2.1 HQ.out.2.2.2.1 HQ.out.2.2.2.2.1 HQ.out.2.2.2.2.2 (i : Int) j k HV.out).mono ?_
  rintro e w1 ⟨rfl, b'⟩
  have b1 := bel_next b0 b'
  have X1 := X0.below b'
  have Y1 := Y0.below b'
  obtain ⟨x0, x1, x2, x3⟩ := X1.four
  clear y0 y1 y2 y3 y4 y5 X0 Y0 b' b0
  go_wp2_with fail
  refine (sizes_any a1 a2 a3 a4 l1 l2 l3 l4 c1 c2 c3 c4 _ HN.out.1 HN.out.2.1 HN.out.2.2.1 HN.out.2.2.2).mono ?_
  rintro e w2 ⟨rfl, b'⟩
  have b2 := bel_next b1 b'
  obtain ⟨y0, y1, y2, y3, y4, y5⟩ := (Y1.below b').six
  clear x0 x1 x2 x3 X1 Y1 b' b1
  by_cases h23 : kd = 23
  · obtain ⟨hw1, hw2⟩ := hw h23
    clear hw
    subst h23
    by_cases hg : wa + (m1 : Int) > sz
    · go_wp2
      go_ret
      exact ⟨by rw [hsB_1 rfl (by omega)]; rfl, b2⟩
    · by_cases hjk : j + k ≤ sz
      · go_wp2
        go_ret
        exact ⟨by rw [hsB_2 (fun h => by omega), decide_eq_true (show j + k ≤ sz by omega)]; rfl, b2⟩
      · go_wp2
        go_ret
        exact ⟨by rw [hsB_2 (fun h => by omega), decide_eq_false (show ¬ j + k ≤ sz by omega)]; rfl, b2⟩
  · clear hw
    by_cases hjk : j + k ≤ sz
    · go_wp2
      go_ret
      exact ⟨by rw [hsB_2 (fun h => h23 h.1), decide_eq_true (show j + k ≤ sz by omega)]; rfl, b2⟩
    · go_wp2
      go_ret
      exact ⟨by rw [hsB_2 (fun h => h23 h.1), decide_eq_false (show ¬ j + k ≤ sz by omega)]; rfl, b2⟩

end Go.Proofs.Ytcnbbknmofonkaa
