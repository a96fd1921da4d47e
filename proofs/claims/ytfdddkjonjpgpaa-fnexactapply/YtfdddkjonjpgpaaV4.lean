/- Texts that the proof needs, joined: Q1 Q4 Bits Pack1 S1 Dev2 Dev3a. -/
import Derived.Test.YtfdddkjonjpgpaaV1
import Derived.WalkKit
import Derived.Test.YtfdddkjonjpgpaaV3
namespace Go.Proofs.Ytfdddkjonjpgpaa
open Go.RowKit
set_option linter.unusedVariables false
def inB (x lo hi : Int) : Bool := decide (lo ≤ x ∧ x ≤ hi)
def allW (ws : List Int) : Bool := decide (∀ k, k < ws.length → 0 ≤ ws.getD k 0 ∧ ws.getD k 0 ≤ 65535)
def fitB (p n : Int) : Bool := decide (0 ≤ p ∧ p ≤ 65535 ∧ p + n ≤ 65536)
def rnB (p n most : Int) : Bool := decide (1 ≤ n ∧ n ≤ most ∧ 0 ≤ p ∧ p + n ≤ 65536)
def zrB (n w b a : Bool) (nn : Int) (l1 l2 : Nat) (wa : Int) : Bool := (n || decide (nn = 0)) && ((w || decide (l1 = 0)) && ((b || decide (l2 = 0)) && (a || decide (wa = 0))))
set_option maxHeartbeats 1000000 in
theorem l1In_any (x lo hi : Int) (w : World) (b : Bool) (hb : inB x lo hi = b) : Calls Try.prog 73 #[.int .i64 x, .int .i64 lo, .int .i64 hi] w fun e w' => e = .returned (.bool b) ∧ w' = w := by
  subst hb
  unfold inB
  by_cases h1 : lo ≤ x
  · by_cases h2 : x ≤ hi
    · rw [decide_eq_true (show lo ≤ x ∧ x ≤ hi from ⟨h1, h2⟩)]
      go_enter Try.func73, Try.ntmps73
      go_wp2
      go_ret
      exact ⟨rfl, rfl⟩
    · rw [decide_eq_false (show ¬ (lo ≤ x ∧ x ≤ hi) from fun h => h2 h.2)]
      go_enter Try.func73, Try.ntmps73
      go_wp2
      go_ret
      exact ⟨rfl, rfl⟩
  · rw [decide_eq_false (show ¬ (lo ≤ x ∧ x ≤ hi) from fun h => h1 h.1)]
    go_enter Try.func73, Try.ntmps73
    go_wp2
    go_ret
    exact ⟨rfl, rfl⟩
set_option maxHeartbeats 1000000 in
theorem isWord_any (x : Int) (w : World) (b : Bool) (hb : inB x 0 65535 = b) : Calls Try.prog 66 #[.int .i64 x] w fun e w' => e = .returned (.bool b) ∧ w' = w := by
  subst hb
  unfold inB
  by_cases h1 : 0 ≤ x
  · by_cases h2 : x ≤ 65535
    · rw [decide_eq_true (show 0 ≤ x ∧ x ≤ 65535 from ⟨h1, h2⟩)]
      go_enter Try.func66, Try.ntmps66
      go_wp2
      go_ret
      exact ⟨rfl, rfl⟩
    · rw [decide_eq_false (show ¬ (0 ≤ x ∧ x ≤ 65535) from fun h => h2 h.2)]
      go_enter Try.func66, Try.ntmps66
      go_wp2
      go_ret
      exact ⟨rfl, rfl⟩
  · rw [decide_eq_false (show ¬ (0 ≤ x ∧ x ≤ 65535) from fun h => h1 h.1)]
    go_enter Try.func66, Try.ntmps66
    go_wp2
    go_ret
    exact ⟨rfl, rfl⟩
set_option maxHeartbeats 1000000 in
theorem l3Fits_any (x n : Int) (w : World) (hn0 : 0 ≤ n) (hn1 : n ≤ 9000000000000000000) (b : Bool) (hb : fitB x n = b) : Calls Try.prog 89 #[.int .i64 x, .int .i64 n] w fun e w' => e = .returned (.bool b) ∧ w' = w := by
  subst hb
  unfold fitB
  by_cases h1 : 0 ≤ x
  · by_cases h2 : x ≤ 65535
    · by_cases h3 : x + n ≤ 65536
      · rw [decide_eq_true (show 0 ≤ x ∧ x ≤ 65535 ∧ x + n ≤ 65536 from ⟨h1, h2, h3⟩)]
        go_enter Try.func89, Try.ntmps89
        go_wp2_with (go_at_call 73; go_in)
        go_ret
        exact ⟨rfl, rfl⟩
      · rw [decide_eq_false (show ¬ (0 ≤ x ∧ x ≤ 65535 ∧ x + n ≤ 65536) from fun h => h3 h.2.2)]
        go_enter Try.func89, Try.ntmps89
        go_wp2_with (go_at_call 73; go_in)
        go_ret
        exact ⟨rfl, rfl⟩
    · rw [decide_eq_false (show ¬ (0 ≤ x ∧ x ≤ 65535 ∧ x + n ≤ 65536) from fun h => h2 h.2.1)]
      go_enter Try.func89, Try.ntmps89
      go_wp2_with (go_at_call 73; go_in)
      go_ret
      exact ⟨rfl, rfl⟩
  · rw [decide_eq_false (show ¬ (0 ≤ x ∧ x ≤ 65535 ∧ x + n ≤ 65536) from fun h => h1 h.1)]
    go_enter Try.func89, Try.ntmps89
    go_wp2_with (go_at_call 73; go_in)
    go_ret
    exact ⟨rfl, rfl⟩
set_option maxHeartbeats 1000000 in
theorem isRun_any (x n most : Int) (w : World) (hm : most ≤ 2000) (b : Bool) (hb : rnB x n most = b) : Calls Try.prog 98 #[.int .i64 x, .int .i64 n, .int .i64 most] w fun e w' => e = .returned (.bool b) ∧ w' = w := by
  subst hb
  unfold rnB
  by_cases h1 : 1 ≤ n
  · by_cases h2 : n ≤ most
    · by_cases h3 : 0 ≤ x
      · by_cases h4 : x ≤ 65536 - n
        · rw [decide_eq_true (show 1 ≤ n ∧ n ≤ most ∧ 0 ≤ x ∧ x + n ≤ 65536 from ⟨h1, h2, h3, by omega⟩)]
          go_enter Try.func98, Try.ntmps98
          go_wp2
          go_ret
          exact ⟨rfl, rfl⟩
        · rw [decide_eq_false (show ¬ (1 ≤ n ∧ n ≤ most ∧ 0 ≤ x ∧ x + n ≤ 65536) from fun h => h4 (by omega))]
          go_enter Try.func98, Try.ntmps98
          go_wp2
          go_ret
          exact ⟨rfl, rfl⟩
      · rw [decide_eq_false (show ¬ (1 ≤ n ∧ n ≤ most ∧ 0 ≤ x ∧ x + n ≤ 65536) from fun h => h3 h.2.2.1)]
        go_enter Try.func98, Try.ntmps98
        go_wp2
        go_ret
        exact ⟨rfl, rfl⟩
    · rw [decide_eq_false (show ¬ (1 ≤ n ∧ n ≤ most ∧ 0 ≤ x ∧ x + n ≤ 65536) from fun h => h2 h.2.1)]
      go_enter Try.func98, Try.ntmps98
      go_wp2
      go_ret
      exact ⟨rfl, rfl⟩
  · rw [decide_eq_false (show ¬ (1 ≤ n ∧ n ≤ most ∧ 0 ≤ x ∧ x + n ≤ 65536) from fun h => h1 h.1)]
    go_enter Try.func98, Try.ntmps98
    go_wp2
    go_ret
    exact ⟨rfl, rfl⟩
theorem allW_bad {zs : List Int} {k : Nat} (h : k < zs.length) (hb : ¬ (0 ≤ zs.getD k 0 ∧ zs.getD k 0 ≤ 65535)) : allW zs = false := by
  unfold allW; exact decide_eq_false (fun hh => hb (hh k h))
theorem allW_good {zs : List Int} (hb : ∀ k, k < zs.length → 0 ≤ zs.getD k 0 ∧ zs.getD k 0 ≤ 65535) : allW zs = true := by
  unfold allW; exact decide_eq_true hb
set_option maxHeartbeats 1000000 in
theorem l3Words_any (a : Option Addr) (n cap : Nat) (zs : List Int) (w : World) (hn : n = zs.length) (hs : SlI w a zs) (hl : zs.length ≤ 2000000) (b : Bool) (hb : allW zs = b) :
    Calls Try.prog 87 #[.slice a n cap] w fun e w' => e = .returned (.bool b) ∧ w' = w := by
  subst hn
  go_enter Try.func87, Try.ntmps87
  go_wp2
  go_loop [3] (fun i => ∃ k : Nat, k ≤ zs.length ∧ i = .int .i64 k ∧ ∀ j, j < k → 0 ≤ zs.getD j 0 ∧ zs.getD j 0 ≤ 65535) (fun i => zs.length - (intOf i).toNat)
  case atStart => exact ⟨0, Nat.zero_le _, rfl, fun j hj => absurd hj (Nat.not_lt_zero _)⟩
  case round =>
    obtain ⟨k, hk, rfl, hg⟩ := hrel
    have HG : Hid (∀ j, j < k → 0 ≤ zs.getD j 0 ∧ zs.getD j 0 ≤ 65535) := hg
    clear hg
    by_cases hlt : k < zs.length
    · obtain ⟨bb, off, rfl, _, hc⟩ := cell_atI hs hlt
      have hi : (k : Int) < (zs.length : Int) := by omega
      obtain ⟨x, hx⟩ : ∃ x, x = zs.getD k 0 := ⟨_, rfl⟩
      have HX : Hid (x = zs.getD k 0) := hx
      rw [← hx] at hc
      clear hs hx
      by_cases h1 : 0 ≤ x
      · by_cases h2 : x ≤ 65535
        · go_wp2_with (go_at_call 73; go_in)
          go_round
          case rel =>
            first
              | exact ⟨k + 1, by omega, by go_num, fun j hj => by
                  by_cases e : j = k
                  · subst e; rw [← HX.out]; exact ⟨h1, h2⟩
                  · exact HG.out j (by omega)⟩
              | exact ⟨_, _, ⟨k + 1, by omega, by go_num, fun j hj => by
                  by_cases e : j = k
                  · subst e; rw [← HX.out]; exact ⟨h1, h2⟩
                  · exact HG.out j (by omega)⟩, rfl, rfl⟩
          case measure => simp [intOf]; omega
        · have hf := allW_bad hlt (by rw [← HX.out]; exact fun h => h2 h.2)
          rw [hf] at hb
          subst hb
          go_wp2_with (go_at_call 73; go_in)
          go_ret
          exact ⟨rfl, rfl⟩
      · have hf := allW_bad hlt (by rw [← HX.out]; exact fun h => h1 h.1)
        rw [hf] at hb
        subst hb
        go_wp2_with (go_at_call 73; go_in)
        go_ret
        exact ⟨rfl, rfl⟩
    · have hf := allW_good (zs := zs) (fun j hj => HG.out j (by omega))
      rw [hf] at hb
      subst hb
      clear hs
      go_wp2
      go_ret
      exact ⟨rfl, rfl⟩
set_option maxHeartbeats 1000000 in
theorem areWords_any (a : Option Addr) (n cap : Nat) (zs : List Int) (w : World) (hn : n = zs.length) (hs : SlI w a zs) (hl : zs.length ≤ 2000000) (b : Bool) (hb : allW zs = b) :
    Calls Try.prog 37 #[.slice a n cap] w fun e w' => e = .returned (.bool b) ∧ w' = w := by
  subst hn
  go_enter Try.func37, Try.ntmps37
  go_wp2
  go_loop [7] (fun i => ∃ k : Nat, k ≤ zs.length ∧ i = .int .i64 k ∧ ∀ j, j < k → 0 ≤ zs.getD j 0 ∧ zs.getD j 0 ≤ 65535) (fun i => zs.length - (intOf i).toNat)
  case atStart => exact ⟨0, Nat.zero_le _, rfl, fun j hj => absurd hj (Nat.not_lt_zero _)⟩
  case round =>
    obtain ⟨k, hk, rfl, hg⟩ := hrel
    have HG : Hid (∀ j, j < k → 0 ≤ zs.getD j 0 ∧ zs.getD j 0 ≤ 65535) := hg
    clear hg
    by_cases hlt : k < zs.length
    · obtain ⟨bb, off, rfl, _, hc⟩ := cell_atI hs hlt
      have hi : (k : Int) < (zs.length : Int) := by omega
      obtain ⟨x, hx⟩ : ∃ x, x = zs.getD k 0 := ⟨_, rfl⟩
      have HX : Hid (x = zs.getD k 0) := hx
      rw [← hx] at hc
      clear hs hx
      by_cases h1 : 0 ≤ x
      · by_cases h2 : x ≤ 65535
        · go_wp2_with (go_at_call 66; go_in)
          go_round
          case rel =>
            first
              | exact ⟨k + 1, by omega, by go_num, fun j hj => by
                  by_cases e : j = k
                  · subst e; rw [← HX.out]; exact ⟨h1, h2⟩
                  · exact HG.out j (by omega)⟩
              | exact ⟨_, _, ⟨k + 1, by omega, by go_num, fun j hj => by
                  by_cases e : j = k
                  · subst e; rw [← HX.out]; exact ⟨h1, h2⟩
                  · exact HG.out j (by omega)⟩, rfl, rfl⟩
          case measure => simp [intOf]; omega
        · have hf := allW_bad hlt (by rw [← HX.out]; exact fun h => h2 h.2)
          rw [hf] at hb
          subst hb
          go_wp2_with (go_at_call 66; go_in)
          go_ret
          exact ⟨rfl, rfl⟩
      · have hf := allW_bad hlt (by rw [← HX.out]; exact fun h => h1 h.1)
        rw [hf] at hb
        subst hb
        go_wp2_with (go_at_call 66; go_in)
        go_ret
        exact ⟨rfl, rfl⟩
    · have hf := allW_good (zs := zs) (fun j hj => HG.out j (by omega))
      rw [hf] at hb
      subst hb
      clear hs
      go_wp2
      go_ret
      exact ⟨rfl, rfl⟩
set_option maxHeartbeats 2000000 in
theorem l3Zero_tfff (kd pl nn wa : Int) (a1 a2 : Option Addr) (l1 l2 c1 c2 : Nat) (w : World) (hm1 : l1 ≤ 2000000) (hm2 : l2 ≤ 20000000) (z : Bool) (hz : zrB true false false false nn l1 l2 wa = z) :
    Calls Try.prog 88 #[rq kd pl nn wa a1 a2 l1 l2 c1 c2, .bool true, .bool false, .bool false, .bool false] w fun e w' => e = .returned (.bool z) ∧ Below w.heap.size w w' := by
  have B0 := bel_alloc w (.cells #[.int .i64 kd, .int .i64 pl, .int .i64 nn, .slice a1 l1 c1, .slice a2 l2 c2, .int .i64 wa] 57)
  subst hz
  by_cases h1 : l1 = 0
  · skip
    by_cases h2 : l2 = 0
    · skip
      by_cases ha : wa = 0
      · skip
        have e : zrB true false false false nn l1 l2 wa = true := by simp [zrB, h1, h2, ha]
        rw [e]
        clear e
        subst h1
        subst h2
        subst ha
        go_enter Try.func88, Try.ntmps88
        go_wp2
        go_ret
        exact ⟨rfl, B0⟩
      · have e : zrB true false false false nn l1 l2 wa = false := by simp [zrB, h1, h2, ha]
        rw [e]
        clear e
        subst h1
        subst h2
        have e2 : (wa == 0) = false := by simp [ha]
        go_enter Try.func88, Try.ntmps88
        go_wp2
        go_ret
        exact ⟨rfl, B0⟩
    · have e : zrB true false false false nn l1 l2 wa = false := by simp [zrB, h1, h2]
      rw [e]
      have h2i : ¬ (l2 : Int) = 0 := by omega
      clear e
      subst h1
      go_enter Try.func88, Try.ntmps88
      go_wp2
      go_ret
      exact ⟨rfl, B0⟩
  · have e : zrB true false false false nn l1 l2 wa = false := by simp [zrB, h1]
    rw [e]
    have h1i : ¬ (l1 : Int) = 0 := by omega
    clear e
    go_enter Try.func88, Try.ntmps88
    go_wp2
    go_ret
    exact ⟨rfl, B0⟩
set_option maxHeartbeats 2000000 in
theorem l3Zero_fftf (kd pl nn wa : Int) (a1 a2 : Option Addr) (l1 l2 c1 c2 : Nat) (w : World) (hm1 : l1 ≤ 2000000) (hm2 : l2 ≤ 20000000) (z : Bool) (hz : zrB false false true false nn l1 l2 wa = z) :
    Calls Try.prog 88 #[rq kd pl nn wa a1 a2 l1 l2 c1 c2, .bool false, .bool false, .bool true, .bool false] w fun e w' => e = .returned (.bool z) ∧ Below w.heap.size w w' := by
  have B0 := bel_alloc w (.cells #[.int .i64 kd, .int .i64 pl, .int .i64 nn, .slice a1 l1 c1, .slice a2 l2 c2, .int .i64 wa] 57)
  subst hz
  by_cases hn : nn = 0
  · skip
    by_cases h1 : l1 = 0
    · skip
      by_cases ha : wa = 0
      · skip
        have e : zrB false false true false nn l1 l2 wa = true := by simp [zrB, hn, h1, ha]
        rw [e]
        clear e
        subst hn
        subst h1
        subst ha
        go_enter Try.func88, Try.ntmps88
        go_wp2
        go_ret
        exact ⟨rfl, B0⟩
      · have e : zrB false false true false nn l1 l2 wa = false := by simp [zrB, hn, h1, ha]
        rw [e]
        clear e
        subst hn
        subst h1
        have e2 : (wa == 0) = false := by simp [ha]
        go_enter Try.func88, Try.ntmps88
        go_wp2
        go_ret
        exact ⟨rfl, B0⟩
    · have e : zrB false false true false nn l1 l2 wa = false := by simp [zrB, hn, h1]
      rw [e]
      have h1i : ¬ (l1 : Int) = 0 := by omega
      clear e
      subst hn
      go_enter Try.func88, Try.ntmps88
      go_wp2
      go_ret
      exact ⟨rfl, B0⟩
  · have e : zrB false false true false nn l1 l2 wa = false := by simp [zrB, hn]
    rw [e]
    clear e
    go_enter Try.func88, Try.ntmps88
    go_wp2
    go_ret
    exact ⟨rfl, B0⟩
set_option maxHeartbeats 2000000 in
theorem l3Zero_ftff (kd pl nn wa : Int) (a1 a2 : Option Addr) (l1 l2 c1 c2 : Nat) (w : World) (hm1 : l1 ≤ 2000000) (hm2 : l2 ≤ 20000000) (z : Bool) (hz : zrB false true false false nn l1 l2 wa = z) :
    Calls Try.prog 88 #[rq kd pl nn wa a1 a2 l1 l2 c1 c2, .bool false, .bool true, .bool false, .bool false] w fun e w' => e = .returned (.bool z) ∧ Below w.heap.size w w' := by
  have B0 := bel_alloc w (.cells #[.int .i64 kd, .int .i64 pl, .int .i64 nn, .slice a1 l1 c1, .slice a2 l2 c2, .int .i64 wa] 57)
  subst hz
  by_cases hn : nn = 0
  · skip
    by_cases h2 : l2 = 0
    · skip
      by_cases ha : wa = 0
      · skip
        have e : zrB false true false false nn l1 l2 wa = true := by simp [zrB, hn, h2, ha]
        rw [e]
        clear e
        subst hn
        subst h2
        subst ha
        go_enter Try.func88, Try.ntmps88
        go_wp2
        go_ret
        exact ⟨rfl, B0⟩
      · have e : zrB false true false false nn l1 l2 wa = false := by simp [zrB, hn, h2, ha]
        rw [e]
        clear e
        subst hn
        subst h2
        have e2 : (wa == 0) = false := by simp [ha]
        go_enter Try.func88, Try.ntmps88
        go_wp2
        go_ret
        exact ⟨rfl, B0⟩
    · have e : zrB false true false false nn l1 l2 wa = false := by simp [zrB, hn, h2]
      rw [e]
      have h2i : ¬ (l2 : Int) = 0 := by omega
      clear e
      subst hn
      go_enter Try.func88, Try.ntmps88
      go_wp2
      go_ret
      exact ⟨rfl, B0⟩
  · have e : zrB false true false false nn l1 l2 wa = false := by simp [zrB, hn]
    rw [e]
    clear e
    go_enter Try.func88, Try.ntmps88
    go_wp2
    go_ret
    exact ⟨rfl, B0⟩
set_option maxHeartbeats 2000000 in
theorem l3Zero_ttft (kd pl nn wa : Int) (a1 a2 : Option Addr) (l1 l2 c1 c2 : Nat) (w : World) (hm1 : l1 ≤ 2000000) (hm2 : l2 ≤ 20000000) (z : Bool) (hz : zrB true true false true nn l1 l2 wa = z) :
    Calls Try.prog 88 #[rq kd pl nn wa a1 a2 l1 l2 c1 c2, .bool true, .bool true, .bool false, .bool true] w fun e w' => e = .returned (.bool z) ∧ Below w.heap.size w w' := by
  have B0 := bel_alloc w (.cells #[.int .i64 kd, .int .i64 pl, .int .i64 nn, .slice a1 l1 c1, .slice a2 l2 c2, .int .i64 wa] 57)
  subst hz
  by_cases h2 : l2 = 0
  · skip
    have e : zrB true true false true nn l1 l2 wa = true := by simp [zrB, h2]
    rw [e]
    clear e
    subst h2
    go_enter Try.func88, Try.ntmps88
    go_wp2
    go_ret
    exact ⟨rfl, B0⟩
  · have e : zrB true true false true nn l1 l2 wa = false := by simp [zrB, h2]
    rw [e]
    have h2i : ¬ (l2 : Int) = 0 := by omega
    clear e
    go_enter Try.func88, Try.ntmps88
    go_wp2
    go_ret
    exact ⟨rfl, B0⟩
set_option maxHeartbeats 1000000 in
theorem equal_int (a a' : Option Addr) (n n' cap cap' : Nat) (zs : List Int) (w : World) (hn : n = zs.length) (hn' : n' = zs.length) (hs : SlI w a zs) (hs' : SlI w a' zs) (hl : zs.length ≤ 2000000) :
    Calls Try.prog 35 #[.slice a n cap, .slice a' n' cap'] w fun e w' => e = .returned (.bool true) ∧ Below w.heap.size w w' := by
  subst hn hn'
  go_enter Try.func35, Try.ntmps35
  go_wp2
  go_loopw [13] (fun i wr => ∃ k : Nat, k ≤ zs.length ∧ i = .int .i64 k ∧ ∃ n, wr = w.drewN n) (fun i _ => zs.length - (intOf i).toNat)
  case atStart => exact ⟨0, Nat.zero_le _, rfl, 0, rfl⟩
  case round =>
    obtain ⟨k, hk, rfl, n, rfl⟩ := hrel
    by_cases hlt : k < zs.length
    · obtain ⟨b, off, rfl, _, hc⟩ := cell_atI hs hlt
      obtain ⟨b', off', rfl, _, hc'⟩ := cell_atI hs' hlt
      have hi : (k : Int) < (zs.length : Int) := by omega
      clear hs hs'
      go_wp2
      go_quiet (fail)
      go_wp2
      go_roundw
      case rel => first | exact ⟨k + 1, by omega, by go_num, _, rfl⟩ | exact ⟨_, _, ⟨k + 1, by omega, by go_num, _, rfl⟩, rfl, rfl⟩
      case measure => simp [intOf]; omega
    · clear hs hs'
      go_wp2
      go_ret
      exact ⟨rfl, drew_refl _ _⟩
set_option maxHeartbeats 1000000 in
theorem equal_int_len (a a' : Option Addr) (n n' cap cap' : Nat) (w : World) (hne : ¬ (n : Int) = (n' : Int)) (h1 : n ≤ 20000000) (h2 : n' ≤ 20000000) :
    Calls Try.prog 35 #[.slice a n cap, .slice a' n' cap'] w fun e w' => e = .returned (.bool false) ∧ Below w.heap.size w w' := by
  go_enter Try.func35, Try.ntmps35
  go_wp2
  go_ret
  exact ⟨rfl, Below.refl _ _⟩
set_option maxHeartbeats 1000000 in
theorem equal_bool (a a' : Option Addr) (n n' cap cap' : Nat) (zs : List Bool) (w : World) (hn : n = zs.length) (hn' : n' = zs.length) (hs : SlB w a zs) (hs' : SlB w a' zs) (hl : zs.length ≤ 2000000) :
    Calls Try.prog 34 #[.slice a n cap, .slice a' n' cap'] w fun e w' => e = .returned (.bool true) ∧ Below w.heap.size w w' := by
  subst hn hn'
  go_enter Try.func34, Try.ntmps34
  go_wp2
  go_loopw [13] (fun i wr => ∃ k : Nat, k ≤ zs.length ∧ i = .int .i64 k ∧ ∃ n, wr = w.drewN n) (fun i _ => zs.length - (intOf i).toNat)
  case atStart => exact ⟨0, Nat.zero_le _, rfl, 0, rfl⟩
  case round =>
    obtain ⟨k, hk, rfl, n, rfl⟩ := hrel
    by_cases hlt : k < zs.length
    · obtain ⟨b, off, rfl, _, hc⟩ := cell_atB hs hlt
      obtain ⟨b', off', rfl, _, hc'⟩ := cell_atB hs' hlt
      have hi : (k : Int) < (zs.length : Int) := by omega
      clear hs hs'
      go_wp2
      go_quiet (fail)
      go_wp2
      go_roundw
      case rel => first | exact ⟨k + 1, by omega, by go_num, _, rfl⟩ | exact ⟨_, _, ⟨k + 1, by omega, by go_num, _, rfl⟩, rfl, rfl⟩
      case measure => simp [intOf]; omega
    · clear hs hs'
      go_wp2
      go_ret
      exact ⟨rfl, drew_refl _ _⟩
set_option maxHeartbeats 1000000 in
theorem equal_bool_len (a a' : Option Addr) (n n' cap cap' : Nat) (w : World) (hne : ¬ (n : Int) = (n' : Int)) (h1 : n ≤ 20000000) (h2 : n' ≤ 20000000) :
    Calls Try.prog 34 #[.slice a n cap, .slice a' n' cap'] w fun e w' => e = .returned (.bool false) ∧ Below w.heap.size w w' := by
  go_enter Try.func34, Try.ntmps34
  go_wp2
  go_ret
  exact ⟨rfl, Below.refl _ _⟩
end Go.Proofs.Ytfdddkjonjpgpaa
namespace Go.Proofs.Ytfdddkjonjpgpaa
open Go.RowKit
set_option linter.unusedVariables false
theorem lit_slB1 (w : World) (x : Bool) {g : Nat} (hg : g = w.heap.size) : SlB (w.alloc (.cells #[.bool x] 4)) (some ⟨g, 0, none⟩) [x] := hg ▸
  .inr ⟨_, 0, rfl, by simp, fun i hi => by
    have : i = 0 := by simp at hi; omega
    subst this; simp⟩
theorem lit_slI1 (w : World) (x : Int) {g : Nat} (hg : g = w.heap.size) : SlI (w.alloc (.cells #[.int .i64 x] 3)) (some ⟨g, 0, none⟩) [x] := hg ▸
  .inr ⟨_, 0, rfl, by simp, fun i hi => by
    have : i = 0 := by simp at hi; omega
    subst this; simp⟩
theorem lit_slI2 (w : World) (x y : Int) {g : Nat} (hg : g = w.heap.size) : SlI (w.alloc (.cells #[.int .i64 x, .int .i64 y] 3)) (some ⟨g, 0, none⟩) [x, y] := hg ▸
  .inr ⟨_, 0, rfl, by simp, fun i hi => by
    have : i = 0 ∨ i = 1 := by simp at hi; omega
    rcases this with rfl | rfl <;> simp⟩
set_option maxHeartbeats 2000000 in
theorem req_1 (pl nn : Int) (w : World) :
    Calls Try.prog 115 #[.agg #[.int .i64 pl, .int .i64 nn]] w fun e w' => e = .returned (rq 1 pl nn 0 none none 0 0 0 0) ∧ Below w.heap.size w w' := by
  go_enter Try.func115, Try.ntmps115
  go_wp2
  refine bodyPost_ret (v := rq 1 pl nn 0 none none 0 0 0 0) (by simp [results, Try.results115, go_sem]) rfl ?_
  exact ⟨rfl, bel_next (bel_alloc _ _) (bel_alloc _ _)⟩
set_option maxHeartbeats 2000000 in
theorem req_2 (pl nn : Int) (w : World) :
    Calls Try.prog 116 #[.agg #[.int .i64 pl, .int .i64 nn]] w fun e w' => e = .returned (rq 2 pl nn 0 none none 0 0 0 0) ∧ Below w.heap.size w w' := by
  go_enter Try.func116, Try.ntmps116
  go_wp2
  refine bodyPost_ret (v := rq 2 pl nn 0 none none 0 0 0 0) (by simp [results, Try.results116, go_sem]) rfl ?_
  exact ⟨rfl, bel_next (bel_alloc _ _) (bel_alloc _ _)⟩
set_option maxHeartbeats 2000000 in
theorem req_3 (pl nn : Int) (w : World) :
    Calls Try.prog 117 #[.agg #[.int .i64 pl, .int .i64 nn]] w fun e w' => e = .returned (rq 3 pl nn 0 none none 0 0 0 0) ∧ Below w.heap.size w w' := by
  go_enter Try.func117, Try.ntmps117
  go_wp2
  refine bodyPost_ret (v := rq 3 pl nn 0 none none 0 0 0 0) (by simp [results, Try.results117, go_sem]) rfl ?_
  exact ⟨rfl, bel_next (bel_alloc _ _) (bel_alloc _ _)⟩
set_option maxHeartbeats 2000000 in
theorem req_4 (pl nn : Int) (w : World) :
    Calls Try.prog 118 #[.agg #[.int .i64 pl, .int .i64 nn]] w fun e w' => e = .returned (rq 4 pl nn 0 none none 0 0 0 0) ∧ Below w.heap.size w w' := by
  go_enter Try.func118, Try.ntmps118
  go_wp2
  refine bodyPost_ret (v := rq 4 pl nn 0 none none 0 0 0 0) (by simp [results, Try.results118, go_sem]) rfl ?_
  exact ⟨rfl, bel_next (bel_alloc _ _) (bel_alloc _ _)⟩
set_option maxHeartbeats 2000000 in
theorem req_5 (pl : Int) (x : Bool) (w : World) :
    Calls Try.prog 119 #[.agg #[.int .i64 pl, .bool x]] w fun e w' => e = .returned (rq 5 pl 0 0 none (some ⟨w.heap.size + 1 + 1, 0, none⟩) 0 1 0 1) ∧ SlB w' (some ⟨w.heap.size + 1 + 1, 0, none⟩) [x] ∧ Below w.heap.size w w' := by
  go_enter Try.func119, Try.ntmps119
  go_wp2
  refine bodyPost_ret (v := rq 5 pl 0 0 none (some ⟨w.heap.size + 1 + 1, 0, none⟩) 0 1 0 1) (by simp [results, Try.results119, go_sem]) rfl ?_
  exact ⟨rfl, lit_slB1 _ x (by simp), bel_next (bel_next (bel_alloc _ _) (bel_alloc _ _)) (bel_alloc _ _)⟩
set_option maxHeartbeats 2000000 in
theorem req_6 (pl x : Int) (w : World) :
    Calls Try.prog 120 #[.agg #[.int .i64 pl, .int .i64 x]] w fun e w' => e = .returned (rq 6 pl 0 0 (some ⟨w.heap.size + 1 + 1, 0, none⟩) none 1 0 1 0) ∧ SlI w' (some ⟨w.heap.size + 1 + 1, 0, none⟩) [x] ∧ Below w.heap.size w w' := by
  go_enter Try.func120, Try.ntmps120
  go_wp2
  refine bodyPost_ret (v := rq 6 pl 0 0 (some ⟨w.heap.size + 1 + 1, 0, none⟩) none 1 0 1 0) (by simp [results, Try.results120, go_sem]) rfl ?_
  exact ⟨rfl, lit_slI1 _ x (by simp), bel_next (bel_next (bel_alloc _ _) (bel_alloc _ _)) (bel_alloc _ _)⟩
set_option maxHeartbeats 2000000 in
theorem req_15 (pl : Int) (a2 : Option Addr) (l2 c2 : Nat) (w : World) :
    Calls Try.prog 121 #[.agg #[.int .i64 pl, .slice a2 l2 c2]] w fun e w' => e = .returned (rq 15 pl 0 0 none a2 0 l2 0 c2) ∧ Below w.heap.size w w' := by
  go_enter Try.func121, Try.ntmps121
  go_wp2
  refine bodyPost_ret (v := rq 15 pl 0 0 none a2 0 l2 0 c2) (by simp [results, Try.results121, go_sem]) rfl ?_
  exact ⟨rfl, bel_next (bel_alloc _ _) (bel_alloc _ _)⟩
set_option maxHeartbeats 2000000 in
theorem req_16 (pl : Int) (a1 : Option Addr) (l1 c1 : Nat) (w : World) :
    Calls Try.prog 122 #[.agg #[.int .i64 pl, .slice a1 l1 c1]] w fun e w' => e = .returned (rq 16 pl 0 0 a1 none l1 0 c1 0) ∧ Below w.heap.size w w' := by
  go_enter Try.func122, Try.ntmps122
  go_wp2
  refine bodyPost_ret (v := rq 16 pl 0 0 a1 none l1 0 c1 0) (by simp [results, Try.results122, go_sem]) rfl ?_
  exact ⟨rfl, bel_next (bel_alloc _ _) (bel_alloc _ _)⟩
set_option maxHeartbeats 2000000 in
theorem req_22 (pl x y : Int) (w : World) :
    Calls Try.prog 123 #[.agg #[.int .i64 pl, .int .i64 x, .int .i64 y]] w fun e w' => e = .returned (rq 22 pl 0 0 (some ⟨w.heap.size + 1 + 1, 0, none⟩) none 2 0 2 0) ∧ SlI w' (some ⟨w.heap.size + 1 + 1, 0, none⟩) [x, y] ∧ Below w.heap.size w w' := by
  go_enter Try.func123, Try.ntmps123
  go_wp2
  refine bodyPost_ret (v := rq 22 pl 0 0 (some ⟨w.heap.size + 1 + 1, 0, none⟩) none 2 0 2 0) (by simp [results, Try.results123, go_sem]) rfl ?_
  exact ⟨rfl, lit_slI2 _ x y (by simp), bel_next (bel_next (bel_alloc _ _) (bel_alloc _ _)) (bel_alloc _ _)⟩
set_option maxHeartbeats 2000000 in
theorem req_23 (pl nn wa : Int) (a1 : Option Addr) (l1 c1 : Nat) (w : World) :
    Calls Try.prog 124 #[.agg #[.int .i64 pl, .int .i64 nn, .int .i64 wa, .slice a1 l1 c1]] w fun e w' => e = .returned (rq 23 pl nn wa a1 none l1 0 c1 0) ∧ Below w.heap.size w w' := by
  go_enter Try.func124, Try.ntmps124
  go_wp2
  refine bodyPost_ret (v := rq 23 pl nn wa a1 none l1 0 c1 0) (by simp [results, Try.results124, go_sem]) rfl ?_
  exact ⟨rfl, bel_next (bel_alloc _ _) (bel_alloc _ _)⟩
set_option maxHeartbeats 4000000 in
theorem sameReq_n (kd pl nn wa nn' wa' : Int) (a1 a2 a1' a2' : Option Addr) (l1 l2 c1 c2 l1' l2' c1' c2' : Nat) (w : World) (hne : ¬ nn = nn') :
    Calls Try.prog 93 #[rq kd pl nn wa a1 a2 l1 l2 c1 c2, rq kd pl nn' wa' a1' a2' l1' l2' c1' c2'] w fun e w' => e = .returned (.bool false) ∧ Below w.heap.size w w' := by
  obtain ⟨W0, hW0'⟩ : ∃ W0, W0 = (w.alloc (.cells #[.int .i64 kd, .int .i64 pl, .int .i64 nn, .slice a1 l1 c1, .slice a2 l2 c2, .int .i64 wa] 57)).alloc (.cells #[.int .i64 kd, .int .i64 pl, .int .i64 nn', .slice a1' l1' c1', .slice a2' l2' c2', .int .i64 wa'] 57) := ⟨_, rfl⟩
  have hW0 : Hid (W0 = _) := hW0'
  have B0 : Below w.heap.size w W0 := by rw [hW0']; exact bel_next (bel_alloc w _) (bel_alloc _ _)
  have X0 : Blk W0 w.heap.size 57 #[.int .i64 kd, .int .i64 pl, .int .i64 nn, .slice a1 l1 c1, .slice a2 l2 c2, .int .i64 wa] := by rw [hW0']; exact (Blk.new w _ _).below (bel_alloc _ _)
  have Y0 : Blk W0 (w.heap.size + 1) 57 #[.int .i64 kd, .int .i64 pl, .int .i64 nn', .slice a1' l1' c1', .slice a2' l2' c2', .int .i64 wa'] := by
    rw [hW0']; have := Blk.new (w.alloc (.cells #[.int .i64 kd, .int .i64 pl, .int .i64 nn, .slice a1 l1 c1, .slice a2 l2 c2, .int .i64 wa] 57)) #[.int .i64 kd, .int .i64 pl, .int .i64 nn', .slice a1' l1' c1', .slice a2' l2' c2', .int .i64 wa'] 57; simpa using this
  obtain ⟨x0, x1, x2, x3, x4, x5⟩ := X0.six
  obtain ⟨y0, y1, y2, y3, y4, y5⟩ := Y0.six
  clear hW0'
  go_enter Try.func93, Try.ntmps93
  go_upto_region 1 with fail
  rw [← hW0.out]
  go_wp2
  go_ret
  exact ⟨rfl, B0⟩
set_option maxHeartbeats 4000000 in
theorem sameReq_w (kd pl nn wa nn' wa' : Int) (a1 a2 a1' a2' : Option Addr) (l1 l2 c1 c2 l1' l2' c1' c2' : Nat) (w : World) (hn : nn' = nn) (hne : ¬ wa = wa') :
    Calls Try.prog 93 #[rq kd pl nn wa a1 a2 l1 l2 c1 c2, rq kd pl nn' wa' a1' a2' l1' l2' c1' c2'] w fun e w' => e = .returned (.bool false) ∧ Below w.heap.size w w' := by
  obtain ⟨W0, hW0'⟩ : ∃ W0, W0 = (w.alloc (.cells #[.int .i64 kd, .int .i64 pl, .int .i64 nn, .slice a1 l1 c1, .slice a2 l2 c2, .int .i64 wa] 57)).alloc (.cells #[.int .i64 kd, .int .i64 pl, .int .i64 nn', .slice a1' l1' c1', .slice a2' l2' c2', .int .i64 wa'] 57) := ⟨_, rfl⟩
  have hW0 : Hid (W0 = _) := hW0'
  have B0 : Below w.heap.size w W0 := by rw [hW0']; exact bel_next (bel_alloc w _) (bel_alloc _ _)
  have X0 : Blk W0 w.heap.size 57 #[.int .i64 kd, .int .i64 pl, .int .i64 nn, .slice a1 l1 c1, .slice a2 l2 c2, .int .i64 wa] := by rw [hW0']; exact (Blk.new w _ _).below (bel_alloc _ _)
  have Y0 : Blk W0 (w.heap.size + 1) 57 #[.int .i64 kd, .int .i64 pl, .int .i64 nn', .slice a1' l1' c1', .slice a2' l2' c2', .int .i64 wa'] := by
    rw [hW0']; have := Blk.new (w.alloc (.cells #[.int .i64 kd, .int .i64 pl, .int .i64 nn, .slice a1 l1 c1, .slice a2 l2 c2, .int .i64 wa] 57)) #[.int .i64 kd, .int .i64 pl, .int .i64 nn', .slice a1' l1' c1', .slice a2' l2' c2', .int .i64 wa'] 57; simpa using this
  obtain ⟨x0, x1, x2, x3, x4, x5⟩ := X0.six
  obtain ⟨y0, y1, y2, y3, y4, y5⟩ := Y0.six
  subst hn
  clear hW0'
  go_enter Try.func93, Try.ntmps93
  go_upto_region 1 with fail
  rw [← hW0.out]
  go_wp2
  go_ret
  exact ⟨rfl, B0⟩
set_option maxHeartbeats 4000000 in
theorem sameReq_1 (kd pl nn wa nn' wa' : Int) (a1 a2 a1' a2' : Option Addr) (l1 l2 c1 c2 l1' l2' c1' c2' : Nat) (w : World) (hn : nn' = nn) (hw : wa' = wa) (hne : ¬ (l1 : Int) = (l1' : Int)) (h1 : l1 ≤ 20000000) (h1' : l1' ≤ 20000000) :
    Calls Try.prog 93 #[rq kd pl nn wa a1 a2 l1 l2 c1 c2, rq kd pl nn' wa' a1' a2' l1' l2' c1' c2'] w fun e w' => e = .returned (.bool false) ∧ Below w.heap.size w w' := by
  obtain ⟨W0, hW0'⟩ : ∃ W0, W0 = (w.alloc (.cells #[.int .i64 kd, .int .i64 pl, .int .i64 nn, .slice a1 l1 c1, .slice a2 l2 c2, .int .i64 wa] 57)).alloc (.cells #[.int .i64 kd, .int .i64 pl, .int .i64 nn', .slice a1' l1' c1', .slice a2' l2' c2', .int .i64 wa'] 57) := ⟨_, rfl⟩
  have hW0 : Hid (W0 = _) := hW0'
  have B0 : Below w.heap.size w W0 := by rw [hW0']; exact bel_next (bel_alloc w _) (bel_alloc _ _)
  have X0 : Blk W0 w.heap.size 57 #[.int .i64 kd, .int .i64 pl, .int .i64 nn, .slice a1 l1 c1, .slice a2 l2 c2, .int .i64 wa] := by rw [hW0']; exact (Blk.new w _ _).below (bel_alloc _ _)
  have Y0 : Blk W0 (w.heap.size + 1) 57 #[.int .i64 kd, .int .i64 pl, .int .i64 nn', .slice a1' l1' c1', .slice a2' l2' c2', .int .i64 wa'] := by
    rw [hW0']; have := Blk.new (w.alloc (.cells #[.int .i64 kd, .int .i64 pl, .int .i64 nn, .slice a1 l1 c1, .slice a2 l2 c2, .int .i64 wa] 57)) #[.int .i64 kd, .int .i64 pl, .int .i64 nn', .slice a1' l1' c1', .slice a2' l2' c2', .int .i64 wa'] 57; simpa using this
  obtain ⟨x0, x1, x2, x3, x4, x5⟩ := X0.six
  obtain ⟨y0, y1, y2, y3, y4, y5⟩ := Y0.six
  subst hn hw
  clear hW0'
  go_enter Try.func93, Try.ntmps93
  go_upto_region 1 with fail
  rw [← hW0.out]
  go_wp2_with fail
  refine (equal_int_len _ _ _ _ _ _ _ hne h1 h1').mono ?_
  rintro e w1 ⟨rfl, b'⟩
  go_wp2
  go_ret
  exact ⟨rfl, bel_next B0 b'⟩
set_option maxHeartbeats 4000000 in
theorem sameReq_2 (kd pl nn wa nn' wa' : Int) (a1 a2 a1' a2' : Option Addr) (l1 l2 c1 c2 l1' l2' c1' c2' : Nat) (w : World) (hn : nn' = nn) (hw : wa' = wa) (ws : List Int) (h1 : l1 = ws.length) (h1' : l1' = ws.length) (s1 : SlI w a1 ws) (s1' : SlI w a1' ws) (hl1 : ws.length ≤ 2000000) (hne : ¬ (l2 : Int) = (l2' : Int)) (h2 : l2 ≤ 20000000) (h2' : l2' ≤ 20000000) :
    Calls Try.prog 93 #[rq kd pl nn wa a1 a2 l1 l2 c1 c2, rq kd pl nn' wa' a1' a2' l1' l2' c1' c2'] w fun e w' => e = .returned (.bool false) ∧ Below w.heap.size w w' := by
  obtain ⟨W0, hW0'⟩ : ∃ W0, W0 = (w.alloc (.cells #[.int .i64 kd, .int .i64 pl, .int .i64 nn, .slice a1 l1 c1, .slice a2 l2 c2, .int .i64 wa] 57)).alloc (.cells #[.int .i64 kd, .int .i64 pl, .int .i64 nn', .slice a1' l1' c1', .slice a2' l2' c2', .int .i64 wa'] 57) := ⟨_, rfl⟩
  have hW0 : Hid (W0 = _) := hW0'
  have B0 : Below w.heap.size w W0 := by rw [hW0']; exact bel_next (bel_alloc w _) (bel_alloc _ _)
  have X0 : Blk W0 w.heap.size 57 #[.int .i64 kd, .int .i64 pl, .int .i64 nn, .slice a1 l1 c1, .slice a2 l2 c2, .int .i64 wa] := by rw [hW0']; exact (Blk.new w _ _).below (bel_alloc _ _)
  have Y0 : Blk W0 (w.heap.size + 1) 57 #[.int .i64 kd, .int .i64 pl, .int .i64 nn', .slice a1' l1' c1', .slice a2' l2' c2', .int .i64 wa'] := by
    rw [hW0']; have := Blk.new (w.alloc (.cells #[.int .i64 kd, .int .i64 pl, .int .i64 nn, .slice a1 l1 c1, .slice a2 l2 c2, .int .i64 wa] 57)) #[.int .i64 kd, .int .i64 pl, .int .i64 nn', .slice a1' l1' c1', .slice a2' l2' c2', .int .i64 wa'] 57; simpa using this
  obtain ⟨x0, x1, x2, x3, x4, x5⟩ := X0.six
  obtain ⟨y0, y1, y2, y3, y4, y5⟩ := Y0.six
  subst hn hw
  have HH : Hid (l1 = ws.length ∧ l1' = ws.length ∧ SlI W0 a1 ws ∧ SlI W0 a1' ws) := ⟨h1, h1', s1.below B0, s1'.below B0⟩
  clear h1 h1' s1 s1'
  clear hW0'
  go_enter Try.func93, Try.ntmps93
  go_upto_region 1 with fail
  rw [← hW0.out]
  go_wp2_with fail
  refine (equal_int _ _ _ _ _ _ ws _ HH.out.1 HH.out.2.1 HH.out.2.2.1 HH.out.2.2.2 hl1).mono ?_
  rintro e w1 ⟨rfl, b'⟩
  have b1 := bel_next B0 b'
  obtain ⟨x0, x1, x2, x3, x4, x5⟩ := (X0.below b').six
  obtain ⟨y0, y1, y2, y3, y4, y5⟩ := (Y0.below b').six
  go_wp2_with fail
  refine (equal_bool_len _ _ _ _ _ _ _ hne h2 h2').mono ?_
  rintro e w2 ⟨rfl, b2'⟩
  go_wp2
  go_ret
  exact ⟨rfl, bel_next b1 b2'⟩
set_option maxHeartbeats 4000000 in
theorem sameReq_t (kd pl nn wa nn' wa' : Int) (a1 a2 a1' a2' : Option Addr) (l1 l2 c1 c2 l1' l2' c1' c2' : Nat) (w : World) (hn : nn' = nn) (hw : wa' = wa) (ws : List Int) (h1 : l1 = ws.length) (h1' : l1' = ws.length) (s1 : SlI w a1 ws) (s1' : SlI w a1' ws) (hl1 : ws.length ≤ 2000000) (bs : List Bool) (h2 : l2 = bs.length) (h2' : l2' = bs.length) (s2 : SlB w a2 bs) (s2' : SlB w a2' bs) (hl2 : bs.length ≤ 2000000) :
    Calls Try.prog 93 #[rq kd pl nn wa a1 a2 l1 l2 c1 c2, rq kd pl nn' wa' a1' a2' l1' l2' c1' c2'] w fun e w' => e = .returned (.bool true) ∧ Below w.heap.size w w' := by
  obtain ⟨W0, hW0'⟩ : ∃ W0, W0 = (w.alloc (.cells #[.int .i64 kd, .int .i64 pl, .int .i64 nn, .slice a1 l1 c1, .slice a2 l2 c2, .int .i64 wa] 57)).alloc (.cells #[.int .i64 kd, .int .i64 pl, .int .i64 nn', .slice a1' l1' c1', .slice a2' l2' c2', .int .i64 wa'] 57) := ⟨_, rfl⟩
  have hW0 : Hid (W0 = _) := hW0'
  have B0 : Below w.heap.size w W0 := by rw [hW0']; exact bel_next (bel_alloc w _) (bel_alloc _ _)
  have X0 : Blk W0 w.heap.size 57 #[.int .i64 kd, .int .i64 pl, .int .i64 nn, .slice a1 l1 c1, .slice a2 l2 c2, .int .i64 wa] := by rw [hW0']; exact (Blk.new w _ _).below (bel_alloc _ _)
  have Y0 : Blk W0 (w.heap.size + 1) 57 #[.int .i64 kd, .int .i64 pl, .int .i64 nn', .slice a1' l1' c1', .slice a2' l2' c2', .int .i64 wa'] := by
    rw [hW0']; have := Blk.new (w.alloc (.cells #[.int .i64 kd, .int .i64 pl, .int .i64 nn, .slice a1 l1 c1, .slice a2 l2 c2, .int .i64 wa] 57)) #[.int .i64 kd, .int .i64 pl, .int .i64 nn', .slice a1' l1' c1', .slice a2' l2' c2', .int .i64 wa'] 57; simpa using this
  obtain ⟨x0, x1, x2, x3, x4, x5⟩ := X0.six
  obtain ⟨y0, y1, y2, y3, y4, y5⟩ := Y0.six
  subst hn hw
  have HH : Hid (l1 = ws.length ∧ l1' = ws.length ∧ SlI W0 a1 ws ∧ SlI W0 a1' ws) := ⟨h1, h1', s1.below B0, s1'.below B0⟩
  clear h1 h1' s1 s1'
  have HB : Hid (l2 = bs.length ∧ l2' = bs.length ∧ SlB W0 a2 bs ∧ SlB W0 a2' bs) := ⟨h2, h2', s2.below B0, s2'.below B0⟩
  clear h2 h2' s2 s2'
  clear hW0'
  go_enter Try.func93, Try.ntmps93
  go_upto_region 1 with fail
  rw [← hW0.out]
  go_wp2_with fail
  refine (equal_int _ _ _ _ _ _ ws _ HH.out.1 HH.out.2.1 HH.out.2.2.1 HH.out.2.2.2 hl1).mono ?_
  rintro e w1 ⟨rfl, b'⟩
  have b1 := bel_next B0 b'
  obtain ⟨x0, x1, x2, x3, x4, x5⟩ := (X0.below b').six
  obtain ⟨y0, y1, y2, y3, y4, y5⟩ := (Y0.below b').six
  go_wp2_with fail
  refine (equal_bool _ _ _ _ _ _ bs _ HB.out.1 HB.out.2.1 (HB.out.2.2.1.below b') (HB.out.2.2.2.below b') hl2).mono ?_
  rintro e w2 ⟨rfl, b2'⟩
  go_wp2
  go_ret
  exact ⟨rfl, bel_next b1 b2'⟩
end Go.Proofs.Ytfdddkjonjpgpaa
namespace Go.Proofs.Ytfdddkjonjpgpaa
end Go.Proofs.Ytfdddkjonjpgpaa
namespace Go.Proofs.Ytfdddkjonjpgpaa
open Go.RowKit
def pv (bits : List Bool) : Nat → Nat → Int
  | 0, _ => 0
  | k + 1, j => if k / 8 = j ∧ bits.getD k false = true then pv bits k j + (2 ^ (k % 8) : Nat) else pv bits k j
set_option maxHeartbeats 1000000 in
theorem bytesFor_any (x : Int) (w : World) (h0 : 0 ≤ x) (h1 : x ≤ 9223372036854775807) :
    Calls Try.prog 99 #[.int .i64 x] w fun e w' => e = .returned (.int .i64 ((x + 7) / 8)) ∧ w' = w := by
  by_cases h : x % 8 = 0
  · have e : (x + 7) / 8 = x / 8 := by omega
    rw [e]
    have h' : (x % 8 == 0) = true := by simp [h]
    clear e
    go_enter Try.func99, Try.ntmps99
    go_wp2
    go_ret
    exact ⟨rfl, rfl⟩
  · have e : (x + 7) / 8 = x / 8 + 1 := by omega
    rw [e]
    have h' : (x % 8 == 0) = false := by simp [h]
    clear e
    go_enter Try.func99, Try.ntmps99
    go_wp2
    go_ret
    exact ⟨rfl, rfl⟩
end Go.Proofs.Ytfdddkjonjpgpaa
namespace Go.Proofs.Ytfdddkjonjpgpaa
open Go.RowKit
set_option linter.unusedVariables false
set_option linter.unusedSimpArgs false
def nfB (bs : List Bool) (n : Nat) : Bool := decide (∀ k, k < bs.length → n ≤ k → bs.getD k false = false)
end Go.Proofs.Ytfdddkjonjpgpaa
namespace Go.Proofs.Ytfdddkjonjpgpaa
open Go.RowKit
set_option linter.unusedVariables false
set_option linter.unusedSimpArgs false
def okD (l1 l2 l3 l4 : Nat) (hs rs : List Int) : Bool := decide (l1 ≤ 64 ∧ l2 ≤ 64 ∧ l3 ≤ 64 ∧ l4 ≤ 64) && (allW hs && allW rs)
set_option maxRecDepth 20000 in
set_option maxHeartbeats 4000000 in
theorem specDeviceOk_any (a1 a2 a3 a4 : Option Addr) (l1 l2 l3 l4 c1 c2 c3 c4 : Nat) (cs is : List Bool) (hs rs : List Int) (w : World) (hn : LnD l1 l2 l3 l4 cs is hs rs) (hs0 : SlD w a1 a2 a3 a4 cs is hs rs) (hl : SmD 2000000 cs is hs rs) (b : Bool) (hb : okD l1 l2 l3 l4 hs rs = b) :
    Calls Try.prog 67 #[dv a1 a2 a3 a4 l1 l2 l3 l4 c1 c2 c3 c4] w fun e w' => e = .returned (.bool b) ∧ Below w.heap.size w w' := by
  have b0 := bel_alloc w (.cells #[.slice a1 l1 c1, .slice a2 l2 c2, .slice a3 l3 c3, .slice a4 l4 c4] 27)
  have HS : Hid (SlI (w.alloc (.cells #[.slice a1 l1 c1, .slice a2 l2 c2, .slice a3 l3 c3, .slice a4 l4 c4] 27)) a3 hs ∧ SlI (w.alloc (.cells #[.slice a1 l1 c1, .slice a2 l2 c2, .slice a3 l3 c3, .slice a4 l4 c4] 27)) a4 rs) := ⟨hs0.2.2.1.below b0, hs0.2.2.2.below b0⟩
  have HN : Hid (l3 = hs.length ∧ l4 = rs.length ∧ hs.length ≤ 2000000 ∧ rs.length ≤ 2000000) := ⟨hn.2.2.1, hn.2.2.2, hl.2.2.1, hl.2.2.2⟩
  obtain ⟨k1, k2, k3, k4⟩ : l1 ≤ 2000000 ∧ l2 ≤ 2000000 ∧ l3 ≤ 2000000 ∧ l4 ≤ 2000000 := by obtain ⟨e1, e2, e3, e4⟩ := hn; obtain ⟨f1, f2, f3, f4⟩ := hl; omega
  subst hb
  clear hn hs0 hl
  by_cases h1 : (l1 : Int) ≤ 64
  case neg =>
    rw [show okD l1 l2 l3 l4 hs rs = false by unfold okD; rw [decide_eq_false (by omega)]; rfl]
    go_enter Try.func67, Try.ntmps67
    go_wp2
    go_ret
    exact ⟨rfl, b0⟩
  by_cases h2 : (l2 : Int) ≤ 64
  case neg =>
    rw [show okD l1 l2 l3 l4 hs rs = false by unfold okD; rw [decide_eq_false (by omega)]; rfl]
    go_enter Try.func67, Try.ntmps67
    go_wp2
    go_ret
    exact ⟨rfl, b0⟩
  by_cases h3 : (l3 : Int) ≤ 64
  case neg =>
    rw [show okD l1 l2 l3 l4 hs rs = false by unfold okD; rw [decide_eq_false (by omega)]; rfl]
    go_enter Try.func67, Try.ntmps67
    go_wp2
    go_ret
    exact ⟨rfl, b0⟩
  by_cases h4 : (l4 : Int) ≤ 64
  case neg =>
    rw [show okD l1 l2 l3 l4 hs rs = false by unfold okD; rw [decide_eq_false (by omega)]; rfl]
    go_enter Try.func67, Try.ntmps67
    go_wp2
    go_ret
    exact ⟨rfl, b0⟩
  have hd : decide (l1 ≤ 64 ∧ l2 ≤ 64 ∧ l3 ≤ 64 ∧ l4 ≤ 64) = true := decide_eq_true (by omega)
  cases e3 : allW hs
  · rw [show okD l1 l2 l3 l4 hs rs = false by unfold okD; rw [hd, e3]; rfl]
    clear hd k1 k2 k3 k4
    go_enter Try.func67, Try.ntmps67
    go_wp2_with fail
    refine (l3Words_any _ _ _ hs _ HN.out.1 HS.out.1 HN.out.2.2.1 _ e3).mono ?_
    rintro e wx ⟨rfl, rfl⟩
    go_wp2
    go_ret
    exact ⟨rfl, b0⟩
  · cases e4 : allW rs
    · rw [show okD l1 l2 l3 l4 hs rs = false by unfold okD; rw [hd, e3, e4]; rfl]
      clear hd k1 k2 k3 k4
      go_enter Try.func67, Try.ntmps67
      go_wp2_with fail
      refine (l3Words_any _ _ _ hs _ HN.out.1 HS.out.1 HN.out.2.2.1 _ e3).mono ?_
      rintro e wx ⟨rfl, rfl⟩
      go_wp2_with fail
      refine (l3Words_any _ _ _ rs _ HN.out.2.1 HS.out.2 HN.out.2.2.2 _ e4).mono ?_
      rintro e wx ⟨rfl, rfl⟩
      go_wp2
      go_ret
      exact ⟨rfl, b0⟩
    · rw [show okD l1 l2 l3 l4 hs rs = true by unfold okD; rw [hd, e3, e4]; rfl]
      clear hd k1 k2 k3 k4
      go_enter Try.func67, Try.ntmps67
      go_wp2_with fail
      refine (l3Words_any _ _ _ hs _ HN.out.1 HS.out.1 HN.out.2.2.1 _ e3).mono ?_
      rintro e wx ⟨rfl, rfl⟩
      go_wp2_with fail
      refine (l3Words_any _ _ _ rs _ HN.out.2.1 HS.out.2 HN.out.2.2.2 _ e4).mono ?_
      rintro e wx ⟨rfl, rfl⟩
      go_wp2
      go_ret
      exact ⟨rfl, b0⟩
theorem idx4_0 (x0 x1 x2 x3 : Int) (w : World) : (Instr.index 63 (.agg #[.int .i64 x0, .int .i64 x1, .int .i64 x2, .int .i64 x3]) (.int .i64 0)).run Try.prog w = .ok (.int .i64 x0) w := by kernel_rfl
theorem idx4_1 (x0 x1 x2 x3 : Int) (w : World) : (Instr.index 63 (.agg #[.int .i64 x0, .int .i64 x1, .int .i64 x2, .int .i64 x3]) (.int .i64 1)).run Try.prog w = .ok (.int .i64 x1) w := by kernel_rfl
theorem idx4_2 (x0 x1 x2 x3 : Int) (w : World) : (Instr.index 63 (.agg #[.int .i64 x0, .int .i64 x1, .int .i64 x2, .int .i64 x3]) (.int .i64 2)).run Try.prog w = .ok (.int .i64 x2) w := by kernel_rfl
theorem idx4_3 (x0 x1 x2 x3 : Int) (w : World) : (Instr.index 63 (.agg #[.int .i64 x0, .int .i64 x1, .int .i64 x2, .int .i64 x3]) (.int .i64 3)).run Try.prog w = .ok (.int .i64 x3) w := by kernel_rfl
set_option maxHeartbeats 2000000 in
theorem sizes_any (a1 a2 a3 a4 : Option Addr) (l1 l2 l3 l4 c1 c2 c3 c4 : Nat) (w : World) (k1 : l1 ≤ 2000000) (k2 : l2 ≤ 2000000) (k3 : l3 ≤ 2000000) (k4 : l4 ≤ 2000000) :
    Calls Try.prog 36 #[dv a1 a2 a3 a4 l1 l2 l3 l4 c1 c2 c3 c4] w fun e w' => e = .returned (.agg #[.int .i64 (l1 : Int), .int .i64 (l2 : Int), .int .i64 (l3 : Int), .int .i64 (l4 : Int)]) ∧ Below w.heap.size w w' := by
  have b0 := bel_next (bel_alloc w (.cells #[.slice a1 l1 c1, .slice a2 l2 c2, .slice a3 l3 c3, .slice a4 l4 c4] 27)) (bel_alloc _ (.cells #[.int .i64 0, .int .i64 0, .int .i64 0, .int .i64 0] 63))
  go_enter Try.func36, Try.ntmps36
  go_wp2
  refine bodyPost_ret (v := .agg #[.int .i64 (l1 : Int), .int .i64 (l2 : Int), .int .i64 (l3 : Int), .int .i64 (l4 : Int)]) (by simp [results, Try.results36, go_sem]) rfl ?_
  exact ⟨rfl, bel_next (bel_alloc _ _) (bel_alloc _ _)⟩
set_option maxRecDepth 20000 in
set_option maxHeartbeats 4000000 in
theorem implDeviceOk_any (a1 a2 a3 a4 : Option Addr) (l1 l2 l3 l4 c1 c2 c3 c4 : Nat) (cs is : List Bool) (hs rs : List Int) (w : World) (hn : LnD l1 l2 l3 l4 cs is hs rs) (hs0 : SlD w a1 a2 a3 a4 cs is hs rs) (hl : SmD 2000000 cs is hs rs) (b : Bool) (hb : okD l1 l2 l3 l4 hs rs = b) :
    Calls Try.prog 11 #[dv a1 a2 a3 a4 l1 l2 l3 l4 c1 c2 c3 c4] w fun e w' => e = .returned (.bool b) ∧ Below w.heap.size w w' := by
  have b0 := bel_alloc w (.cells #[.slice a1 l1 c1, .slice a2 l2 c2, .slice a3 l3 c3, .slice a4 l4 c4] 27)
  have HS : Hid (SlI (w.alloc (.cells #[.slice a1 l1 c1, .slice a2 l2 c2, .slice a3 l3 c3, .slice a4 l4 c4] 27)) a3 hs ∧ SlI (w.alloc (.cells #[.slice a1 l1 c1, .slice a2 l2 c2, .slice a3 l3 c3, .slice a4 l4 c4] 27)) a4 rs) := ⟨hs0.2.2.1.below b0, hs0.2.2.2.below b0⟩
  have HN : Hid (l3 = hs.length ∧ l4 = rs.length ∧ hs.length ≤ 2000000 ∧ rs.length ≤ 2000000) := ⟨hn.2.2.1, hn.2.2.2, hl.2.2.1, hl.2.2.2⟩
  obtain ⟨k1, k2, k3, k4⟩ : l1 ≤ 2000000 ∧ l2 ≤ 2000000 ∧ l3 ≤ 2000000 ∧ l4 ≤ 2000000 := by obtain ⟨e1, e2, e3, e4⟩ := hn; obtain ⟨f1, f2, f3, f4⟩ := hl; omega
  subst hb
  clear hn hs0 hl
  have j0 := idx4_0
  have j1 := idx4_1
  have j2 := idx4_2
  have j3 := idx4_3
  have X0 := Blk.new w #[.slice a1 l1 c1, .slice a2 l2 c2, .slice a3 l3 c3, .slice a4 l4 c4] 27
  by_cases h1 : (l1 : Int) > 64
  case pos =>
    rw [show okD l1 l2 l3 l4 hs rs = false by unfold okD; rw [decide_eq_false (by omega)]; rfl]
    go_enter Try.func11, Try.ntmps11
    go_wp2_with fail
    refine (sizes_any _ _ _ _ _ _ _ _ _ _ _ _ _ k1 k2 k3 k4).mono ?_
    rintro e w1 ⟨rfl, b'⟩
    have b1 := bel_next b0 b'
    have HS1 : Hid (SlI w1 a3 hs ∧ SlI w1 a4 rs) := ⟨HS.out.1.below b', HS.out.2.below b'⟩
    obtain ⟨x0, x1, x2, x3⟩ := (X0.below b').four
    clear b' b0 X0
    go_wp2
    refine wp_loop_rounds 5 ?_
    rw [rounds_succ]
    go_wp2
    go_ret
    exact ⟨rfl, b1⟩
  by_cases h2 : (l2 : Int) > 64
  case pos =>
    rw [show okD l1 l2 l3 l4 hs rs = false by unfold okD; rw [decide_eq_false (by omega)]; rfl]
    go_enter Try.func11, Try.ntmps11
    go_wp2_with fail
    refine (sizes_any _ _ _ _ _ _ _ _ _ _ _ _ _ k1 k2 k3 k4).mono ?_
    rintro e w1 ⟨rfl, b'⟩
    have b1 := bel_next b0 b'
    have HS1 : Hid (SlI w1 a3 hs ∧ SlI w1 a4 rs) := ⟨HS.out.1.below b', HS.out.2.below b'⟩
    obtain ⟨x0, x1, x2, x3⟩ := (X0.below b').four
    clear b' b0 X0
    go_wp2
    refine wp_loop_rounds 5 ?_
    rw [rounds_succ]
    go_wp2
    rw [rounds_succ]
    go_wp2
    go_ret
    exact ⟨rfl, b1⟩
  by_cases h3 : (l3 : Int) > 64
  case pos =>
    rw [show okD l1 l2 l3 l4 hs rs = false by unfold okD; rw [decide_eq_false (by omega)]; rfl]
    go_enter Try.func11, Try.ntmps11
    go_wp2_with fail
    refine (sizes_any _ _ _ _ _ _ _ _ _ _ _ _ _ k1 k2 k3 k4).mono ?_
    rintro e w1 ⟨rfl, b'⟩
    have b1 := bel_next b0 b'
    have HS1 : Hid (SlI w1 a3 hs ∧ SlI w1 a4 rs) := ⟨HS.out.1.below b', HS.out.2.below b'⟩
    obtain ⟨x0, x1, x2, x3⟩ := (X0.below b').four
    clear b' b0 X0
    go_wp2
    refine wp_loop_rounds 5 ?_
    rw [rounds_succ]
    go_wp2
    rw [rounds_succ]
    go_wp2
    rw [rounds_succ]
    go_wp2
    go_ret
    exact ⟨rfl, b1⟩
  by_cases h4 : (l4 : Int) > 64
  case pos =>
    rw [show okD l1 l2 l3 l4 hs rs = false by unfold okD; rw [decide_eq_false (by omega)]; rfl]
    go_enter Try.func11, Try.ntmps11
    go_wp2_with fail
    refine (sizes_any _ _ _ _ _ _ _ _ _ _ _ _ _ k1 k2 k3 k4).mono ?_
    rintro e w1 ⟨rfl, b'⟩
    have b1 := bel_next b0 b'
    have HS1 : Hid (SlI w1 a3 hs ∧ SlI w1 a4 rs) := ⟨HS.out.1.below b', HS.out.2.below b'⟩
    obtain ⟨x0, x1, x2, x3⟩ := (X0.below b').four
    clear b' b0 X0
    go_wp2
    refine wp_loop_rounds 5 ?_
    rw [rounds_succ]
    go_wp2
    rw [rounds_succ]
    go_wp2
    rw [rounds_succ]
    go_wp2
    rw [rounds_succ]
    go_wp2
    go_ret
    exact ⟨rfl, b1⟩
  have hd : decide (l1 ≤ 64 ∧ l2 ≤ 64 ∧ l3 ≤ 64 ∧ l4 ≤ 64) = true := decide_eq_true (by omega)
  cases e3 : allW hs
  · rw [show okD l1 l2 l3 l4 hs rs = false by unfold okD; rw [hd, e3]; rfl]
    go_enter Try.func11, Try.ntmps11
    go_wp2_with fail
    refine (sizes_any _ _ _ _ _ _ _ _ _ _ _ _ _ k1 k2 k3 k4).mono ?_
    rintro e w1 ⟨rfl, b'⟩
    have b1 := bel_next b0 b'
    have HS1 : Hid (SlI w1 a3 hs ∧ SlI w1 a4 rs) := ⟨HS.out.1.below b', HS.out.2.below b'⟩
    obtain ⟨x0, x1, x2, x3⟩ := (X0.below b').four
    clear b' b0 X0
    go_wp2
    refine wp_loop_rounds 5 ?_
    rw [rounds_succ]
    go_wp2
    rw [rounds_succ]
    go_wp2
    rw [rounds_succ]
    go_wp2
    rw [rounds_succ]
    go_wp2
    rw [rounds_succ]
    go_wp2_with fail
    refine (areWords_any _ _ _ hs _ HN.out.1 HS1.out.1 HN.out.2.2.1 _ e3).mono ?_
    rintro e wx ⟨rfl, rfl⟩
    go_wp2
    go_ret
    exact ⟨rfl, b1⟩
  · cases e4 : allW rs
    · rw [show okD l1 l2 l3 l4 hs rs = false by unfold okD; rw [hd, e3, e4]; rfl]
      go_enter Try.func11, Try.ntmps11
      go_wp2_with fail
      refine (sizes_any _ _ _ _ _ _ _ _ _ _ _ _ _ k1 k2 k3 k4).mono ?_
      rintro e w1 ⟨rfl, b'⟩
      have b1 := bel_next b0 b'
      have HS1 : Hid (SlI w1 a3 hs ∧ SlI w1 a4 rs) := ⟨HS.out.1.below b', HS.out.2.below b'⟩
      obtain ⟨x0, x1, x2, x3⟩ := (X0.below b').four
      clear b' b0 X0
      go_wp2
      refine wp_loop_rounds 5 ?_
      rw [rounds_succ]
      go_wp2
      rw [rounds_succ]
      go_wp2
      rw [rounds_succ]
      go_wp2
      rw [rounds_succ]
      go_wp2
      rw [rounds_succ]
      go_wp2_with fail
      refine (areWords_any _ _ _ hs _ HN.out.1 HS1.out.1 HN.out.2.2.1 _ e3).mono ?_
      rintro e wx ⟨rfl, rfl⟩
      go_wp2_with fail
      refine (areWords_any _ _ _ rs _ HN.out.2.1 HS1.out.2 HN.out.2.2.2 _ e4).mono ?_
      rintro e wx ⟨rfl, rfl⟩
      go_wp2
      go_ret
      exact ⟨rfl, b1⟩
    · rw [show okD l1 l2 l3 l4 hs rs = true by unfold okD; rw [hd, e3, e4]; rfl]
      go_enter Try.func11, Try.ntmps11
      go_wp2_with fail
      refine (sizes_any _ _ _ _ _ _ _ _ _ _ _ _ _ k1 k2 k3 k4).mono ?_
      rintro e w1 ⟨rfl, b'⟩
      have b1 := bel_next b0 b'
      have HS1 : Hid (SlI w1 a3 hs ∧ SlI w1 a4 rs) := ⟨HS.out.1.below b', HS.out.2.below b'⟩
      obtain ⟨x0, x1, x2, x3⟩ := (X0.below b').four
      clear b' b0 X0
      go_wp2
      refine wp_loop_rounds 5 ?_
      rw [rounds_succ]
      go_wp2
      rw [rounds_succ]
      go_wp2
      rw [rounds_succ]
      go_wp2
      rw [rounds_succ]
      go_wp2
      rw [rounds_succ]
      go_wp2_with fail
      refine (areWords_any _ _ _ hs _ HN.out.1 HS1.out.1 HN.out.2.2.1 _ e3).mono ?_
      rintro e wx ⟨rfl, rfl⟩
      go_wp2_with fail
      refine (areWords_any _ _ _ rs _ HN.out.2.1 HS1.out.2 HN.out.2.2.2 _ e4).mono ?_
      rintro e wx ⟨rfl, rfl⟩
      go_wp2
      go_ret
      exact ⟨rfl, b1⟩
def sdB (cs is : List Bool) (hs rs : List Int) (cs2 is2 : List Bool) (hs2 rs2 : List Int) : Bool := decide (cs = cs2) && (decide (is = is2) && (decide (hs = hs2) && decide (rs = rs2)))
end Go.Proofs.Ytfdddkjonjpgpaa
namespace Go.Proofs.Ytfdddkjonjpgpaa
open Go.RowKit
set_option linter.unusedVariables false
set_option linter.unusedSimpArgs false
def ND (w w' : World) (e : Ending) (cs is : List Bool) (hs rs : List Int) : Prop :=
  ∃ a1 a2 a3 a4 l1 l2 l3 l4 c1 c2 c3 c4, e = .returned (dv a1 a2 a3 a4 l1 l2 l3 l4 c1 c2 c3 c4) ∧ OwnD w' w.heap.size a1 a2 a3 a4 l1 l2 l3 l4 c1 c2 c3 c4 cs is hs rs ∧ Below w.heap.size w w'
theorem ownI_nil0 (w : World) (B : Nat) : OwnI w B (.slice none 0 0) [] := ⟨rfl, .inl ⟨rfl, rfl⟩⟩
theorem ownB_nil0 (w : World) (B : Nat) : OwnB w B (.slice none 0 0) [] := ⟨rfl, .inl ⟨rfl, rfl⟩⟩
def dnN (n : Int) : Nat := if 0 ≤ n ∧ n ≤ 64 then n.toNat else 0
abbrev NDn (w w' : World) (e : Ending) (m : Nat) : Prop := ND w w' e (List.replicate m false) (List.replicate m false) (List.replicate m 0) (List.replicate m 0)
end Go.Proofs.Ytfdddkjonjpgpaa
