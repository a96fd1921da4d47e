/- Questions: the small tests of both sides. -/
import Derived.Test.YtmhdneenjoelfaaGreatWr1
namespace Go.Proofs.YtmhdneenjoelfaaGreat
open Go.RowKit

set_option linter.unusedVariables false

def inB (x lo hi : Int) : Bool := decide (lo ≤ x ∧ x ≤ hi)

def allW (ws : List Int) : Bool := decide (∀ k, k < ws.length → 0 ≤ ws.getD k 0 ∧ ws.getD k 0 ≤ 65535)

def fitB (p n : Int) : Bool := decide (0 ≤ p ∧ p ≤ 65535 ∧ p + n ≤ 65536)

def rnB (p n most : Int) : Bool := decide (1 ≤ n ∧ n ≤ most ∧ 0 ≤ p ∧ p + n ≤ 65536)

def zrB (n w b a : Bool) (nn : Int) (l1 l2 : Nat) (wa : Int) : Bool := (n || decide (nn = 0)) && ((w || decide (l1 = 0)) && ((b || decide (l2 = 0)) && (a || decide (wa = 0))))

set_option maxHeartbeats 1000000 in
theorem l1In_any (x lo hi : Int) (w : World) (b : Bool) (hb : inB x lo hi = b) : Calls Tryz.prog 35 #[.int .i64 x, .int .i64 lo, .int .i64 hi] w fun e w' => e = .returned (.bool b) ∧ w' = w := by
  subst hb
  unfold inB
  by_cases h1 : lo ≤ x
  · by_cases h2 : x ≤ hi
    · rw [decide_eq_true (show lo ≤ x ∧ x ≤ hi from ⟨h1, h2⟩)]
      go_enter Tryz.func35, Tryz.ntmps35
      go_wp2
      go_ret
      exact ⟨rfl, rfl⟩
    · rw [decide_eq_false (show ¬ (lo ≤ x ∧ x ≤ hi) from fun h => h2 h.2)]
      go_enter Tryz.func35, Tryz.ntmps35
      go_wp2
      go_ret
      exact ⟨rfl, rfl⟩
  · rw [decide_eq_false (show ¬ (lo ≤ x ∧ x ≤ hi) from fun h => h1 h.1)]
    go_enter Tryz.func35, Tryz.ntmps35
    go_wp2
    go_ret
    exact ⟨rfl, rfl⟩

set_option maxHeartbeats 1000000 in
theorem isWord_any (x : Int) (w : World) (b : Bool) (hb : inB x 0 65535 = b) : Calls Tryz.prog 85 #[.int .i64 x] w fun e w' => e = .returned (.bool b) ∧ w' = w := by
  subst hb
  unfold inB
  by_cases h1 : 0 ≤ x
  · by_cases h2 : x ≤ 65535
    · rw [decide_eq_true (show 0 ≤ x ∧ x ≤ 65535 from ⟨h1, h2⟩)]
      go_enter Tryz.func85, Tryz.ntmps85
      go_wp2
      go_ret
      exact ⟨rfl, rfl⟩
    · rw [decide_eq_false (show ¬ (0 ≤ x ∧ x ≤ 65535) from fun h => h2 h.2)]
      go_enter Tryz.func85, Tryz.ntmps85
      go_wp2
      go_ret
      exact ⟨rfl, rfl⟩
  · rw [decide_eq_false (show ¬ (0 ≤ x ∧ x ≤ 65535) from fun h => h1 h.1)]
    go_enter Tryz.func85, Tryz.ntmps85
    go_wp2
    go_ret
    exact ⟨rfl, rfl⟩

set_option maxHeartbeats 1000000 in
theorem l3Fits_any (x n : Int) (w : World) (hn0 : 0 ≤ n) (hn1 : n ≤ 9000000000000000000) (b : Bool) (hb : fitB x n = b) : Calls Tryz.prog 90 #[.int .i64 x, .int .i64 n] w fun e w' => e = .returned (.bool b) ∧ w' = w := by
  subst hb
  unfold fitB
  by_cases h1 : 0 ≤ x
  · by_cases h2 : x ≤ 65535
    · by_cases h3 : x + n ≤ 65536
      · rw [decide_eq_true (show 0 ≤ x ∧ x ≤ 65535 ∧ x + n ≤ 65536 from ⟨h1, h2, h3⟩)]
        go_enter Tryz.func90, Tryz.ntmps90
        go_wp2_with (go_at_call 35; go_in)
        go_ret
        exact ⟨rfl, rfl⟩
      · rw [decide_eq_false (show ¬ (0 ≤ x ∧ x ≤ 65535 ∧ x + n ≤ 65536) from fun h => h3 h.2.2)]
        go_enter Tryz.func90, Tryz.ntmps90
        go_wp2_with (go_at_call 35; go_in)
        go_ret
        exact ⟨rfl, rfl⟩
    · rw [decide_eq_false (show ¬ (0 ≤ x ∧ x ≤ 65535 ∧ x + n ≤ 65536) from fun h => h2 h.2.1)]
      go_enter Tryz.func90, Tryz.ntmps90
      go_wp2_with (go_at_call 35; go_in)
      go_ret
      exact ⟨rfl, rfl⟩
  · rw [decide_eq_false (show ¬ (0 ≤ x ∧ x ≤ 65535 ∧ x + n ≤ 65536) from fun h => h1 h.1)]
    go_enter Tryz.func90, Tryz.ntmps90
    go_wp2_with (go_at_call 35; go_in)
    go_ret
    exact ⟨rfl, rfl⟩

set_option maxHeartbeats 1000000 in
theorem isRun_any (x n most : Int) (w : World) (hm : most ≤ 2000) (b : Bool) (hb : rnB x n most = b) : Calls Tryz.prog 143 #[.int .i64 x, .int .i64 n, .int .i64 most] w fun e w' => e = .returned (.bool b) ∧ w' = w := by
  subst hb
  unfold rnB
  by_cases h1 : 1 ≤ n
  · by_cases h2 : n ≤ most
    · by_cases h3 : 0 ≤ x
      · by_cases h4 : x ≤ 65536 - n
        · rw [decide_eq_true (show 1 ≤ n ∧ n ≤ most ∧ 0 ≤ x ∧ x + n ≤ 65536 from ⟨h1, h2, h3, by omega⟩)]
          go_enter Tryz.func143, Tryz.ntmps143
          go_wp2
          go_ret
          exact ⟨rfl, rfl⟩
        · rw [decide_eq_false (show ¬ (1 ≤ n ∧ n ≤ most ∧ 0 ≤ x ∧ x + n ≤ 65536) from fun h => h4 (by omega))]
          go_enter Tryz.func143, Tryz.ntmps143
          go_wp2
          go_ret
          exact ⟨rfl, rfl⟩
      · rw [decide_eq_false (show ¬ (1 ≤ n ∧ n ≤ most ∧ 0 ≤ x ∧ x + n ≤ 65536) from fun h => h3 h.2.2.1)]
        go_enter Tryz.func143, Tryz.ntmps143
        go_wp2
        go_ret
        exact ⟨rfl, rfl⟩
    · rw [decide_eq_false (show ¬ (1 ≤ n ∧ n ≤ most ∧ 0 ≤ x ∧ x + n ≤ 65536) from fun h => h2 h.2.1)]
      go_enter Tryz.func143, Tryz.ntmps143
      go_wp2
      go_ret
      exact ⟨rfl, rfl⟩
  · rw [decide_eq_false (show ¬ (1 ≤ n ∧ n ≤ most ∧ 0 ≤ x ∧ x + n ≤ 65536) from fun h => h1 h.1)]
    go_enter Tryz.func143, Tryz.ntmps143
    go_wp2
    go_ret
    exact ⟨rfl, rfl⟩

theorem allW_bad {zs : List Int} {k : Nat} (h : k < zs.length) (hb : ¬ (0 ≤ zs.getD k 0 ∧ zs.getD k 0 ≤ 65535)) : allW zs = false := by
  unfold allW; exact decide_eq_false (fun hh => hb (hh k h))

theorem allW_good {zs : List Int} (hb : ∀ k, k < zs.length → 0 ≤ zs.getD k 0 ∧ zs.getD k 0 ≤ 65535) : allW zs = true := by
  unfold allW; exact decide_eq_true hb

set_option maxHeartbeats 1000000 in
theorem l3Words_any (a : Option Addr) (n cap : Nat) (zs : List Int) (w : World) (hn : n = zs.length) (hs : SlI w a zs) (hl : zs.length ≤ 2000000) (b : Bool) (hb : allW zs = b) :
    Calls Tryz.prog 88 #[.slice a n cap] w fun e w' => e = .returned (.bool b) ∧ w' = w := by
  subst hn
  go_enter Tryz.func88, Tryz.ntmps88
  go_wp2
  go_loop [3] (fun i => ∃ k : Nat, k ≤ zs.length ∧ i = .int .i64 k ∧ ∀ j, j < k → 0 ≤ zs.getD j 0 ∧ zs.getD j 0 ≤ 65535) (fun i => zs.length - (intOf i).toNat)
  case atStart => exact ⟨0, Nat.zero_le _, rfl, fun j hj => absurd hj (Nat.not_lt_zero _)⟩
  case round =>
    obtain ⟨k, hk, rfl, hg⟩ := hrel
    have HG : Hid (∀ j, j < k → 0 ≤ zs.getD j 0 ∧ zs.getD j 0 ≤ 65535) := hg
    clear hg
    by_cases hlt : k < zs.length
    · obtain ⟨bb, off, rfl, _, hc⟩ := cell_atI hs hlt
      have hi : (k : Int) < (zs.length : Int) := by omega
      obtain ⟨x, hx⟩ : ∃ x, x = zs.getD k 0 := ⟨_, rfl⟩
      have HX : Hid (x = zs.getD k 0) := hx
      rw [← hx] at hc
      clear hs hx
      by_cases h1 : 0 ≤ x
      · by_cases h2 : x ≤ 65535
        · go_wp2_with (go_at_call 35; go_in)
          go_round
          case rel =>
            first
              | exact ⟨k + 1, by omega, by go_num, fun j hj => by
                  by_cases e : j = k
                  · subst e; rw [← HX.out]; exact ⟨h1, h2⟩
                  · exact HG.out j (by omega)⟩
              | exact ⟨_, _, ⟨k + 1, by omega, by go_num, fun j hj => by
                  by_cases e : j = k
                  · subst e; rw [← HX.out]; exact ⟨h1, h2⟩
                  · exact HG.out j (by omega)⟩, rfl, rfl⟩
          case measure => simp [intOf]; omega
        · have hf := allW_bad hlt (by rw [← HX.out]; exact fun h => h2 h.2)
          rw [hf] at hb
          subst hb
          go_wp2_with (go_at_call 35; go_in)
          go_ret
          exact ⟨rfl, rfl⟩
      · have hf := allW_bad hlt (by rw [← HX.out]; exact fun h => h1 h.1)
        rw [hf] at hb
        subst hb
        go_wp2_with (go_at_call 35; go_in)
        go_ret
        exact ⟨rfl, rfl⟩
    · have hf := allW_good (zs := zs) (fun j hj => HG.out j (by omega))
      rw [hf] at hb
      subst hb
      clear hs
      go_wp2
      go_ret
      exact ⟨rfl, rfl⟩

set_option maxHeartbeats 1000000 in
theorem areWords_any (a : Option Addr) (n cap : Nat) (zs : List Int) (w : World) (hn : n = zs.length) (hs : SlI w a zs) (hl : zs.length ≤ 2000000) (b : Bool) (hb : allW zs = b) :
    Calls Tryz.prog 144 #[.slice a n cap] w fun e w' => e = .returned (.bool b) ∧ w' = w := by
  subst hn
  go_enter Tryz.func144, Tryz.ntmps144
  go_wp2
  go_loop [7] (fun i => ∃ k : Nat, k ≤ zs.length ∧ i = .int .i64 k ∧ ∀ j, j < k → 0 ≤ zs.getD j 0 ∧ zs.getD j 0 ≤ 65535) (fun i => zs.length - (intOf i).toNat)
  case atStart => exact ⟨0, Nat.zero_le _, rfl, fun j hj => absurd hj (Nat.not_lt_zero _)⟩
  case round =>
    obtain ⟨k, hk, rfl, hg⟩ := hrel
    have HG : Hid (∀ j, j < k → 0 ≤ zs.getD j 0 ∧ zs.getD j 0 ≤ 65535) := hg
    clear hg
    by_cases hlt : k < zs.length
    · obtain ⟨bb, off, rfl, _, hc⟩ := cell_atI hs hlt
      have hi : (k : Int) < (zs.length : Int) := by omega
      obtain ⟨x, hx⟩ : ∃ x, x = zs.getD k 0 := ⟨_, rfl⟩
      have HX : Hid (x = zs.getD k 0) := hx
      rw [← hx] at hc
      clear hs hx
      by_cases h1 : 0 ≤ x
      · by_cases h2 : x ≤ 65535
        · go_wp2_with (go_at_call 85; go_in)
          go_round
          case rel =>
            first
              | exact ⟨k + 1, by omega, by go_num, fun j hj => by
                  by_cases e : j = k
                  · subst e; rw [← HX.out]; exact ⟨h1, h2⟩
                  · exact HG.out j (by omega)⟩
              | exact ⟨_, _, ⟨k + 1, by omega, by go_num, fun j hj => by
                  by_cases e : j = k
                  · subst e; rw [← HX.out]; exact ⟨h1, h2⟩
                  · exact HG.out j (by omega)⟩, rfl, rfl⟩
          case measure => simp [intOf]; omega
        · have hf := allW_bad hlt (by rw [← HX.out]; exact fun h => h2 h.2)
          rw [hf] at hb
          subst hb
          go_wp2_with (go_at_call 85; go_in)
          go_ret
          exact ⟨rfl, rfl⟩
      · have hf := allW_bad hlt (by rw [← HX.out]; exact fun h => h1 h.1)
        rw [hf] at hb
        subst hb
        go_wp2_with (go_at_call 85; go_in)
        go_ret
        exact ⟨rfl, rfl⟩
    · have hf := allW_good (zs := zs) (fun j hj => HG.out j (by omega))
      rw [hf] at hb
      subst hb
      clear hs
      go_wp2
      go_ret
      exact ⟨rfl, rfl⟩

set_option maxHeartbeats 2000000 in
theorem l3Zero_tfff (kd pl nn wa : Int) (a1 a2 : Option Addr) (l1 l2 c1 c2 : Nat) (w : World) (hm1 : l1 ≤ 2000000) (hm2 : l2 ≤ 20000000) (z : Bool) (hz : zrB true false false false nn l1 l2 wa = z) :
    Calls Tryz.prog 89 #[rq kd pl nn wa a1 a2 l1 l2 c1 c2, .bool true, .bool false, .bool false, .bool false] w fun e w' => e = .returned (.bool z) ∧ Below w.heap.size w w' := by
  have B0 := bel_alloc w (.cells #[.int .i64 kd, .int .i64 pl, .int .i64 nn, .slice a1 l1 c1, .slice a2 l2 c2, .int .i64 wa] 28)
  subst hz
  by_cases h1 : l1 = 0
  · skip
    by_cases h2 : l2 = 0
    · skip
      by_cases ha : wa = 0
      · skip
        have e : zrB true false false false nn l1 l2 wa = true := by simp [zrB, h1, h2, ha]
        rw [e]
        clear e
        subst h1
        subst h2
        subst ha
        go_enter Tryz.func89, Tryz.ntmps89
        go_wp2
        go_ret
        exact ⟨rfl, B0⟩
      · have e : zrB true false false false nn l1 l2 wa = false := by simp [zrB, h1, h2, ha]
        rw [e]
        clear e
        subst h1
        subst h2
        have e2 : (wa == 0) = false := by simp [ha]
        go_enter Tryz.func89, Tryz.ntmps89
        go_wp2
        go_ret
        exact ⟨rfl, B0⟩
    · have e : zrB true false false false nn l1 l2 wa = false := by simp [zrB, h1, h2]
      rw [e]
      have h2i : ¬ (l2 : Int) = 0 := by omega
      clear e
      subst h1
      go_enter Tryz.func89, Tryz.ntmps89
      go_wp2
      go_ret
      exact ⟨rfl, B0⟩
  · have e : zrB true false false false nn l1 l2 wa = false := by simp [zrB, h1]
    rw [e]
    have h1i : ¬ (l1 : Int) = 0 := by omega
    clear e
    go_enter Tryz.func89, Tryz.ntmps89
    go_wp2
    go_ret
    exact ⟨rfl, B0⟩

set_option maxHeartbeats 2000000 in
theorem l3Zero_fftf (kd pl nn wa : Int) (a1 a2 : Option Addr) (l1 l2 c1 c2 : Nat) (w : World) (hm1 : l1 ≤ 2000000) (hm2 : l2 ≤ 20000000) (z : Bool) (hz : zrB false false true false nn l1 l2 wa = z) :
    Calls Tryz.prog 89 #[rq kd pl nn wa a1 a2 l1 l2 c1 c2, .bool false, .bool false, .bool true, .bool false] w fun e w' => e = .returned (.bool z) ∧ Below w.heap.size w w' := by
  have B0 := bel_alloc w (.cells #[.int .i64 kd, .int .i64 pl, .int .i64 nn, .slice a1 l1 c1, .slice a2 l2 c2, .int .i64 wa] 28)
  subst hz
  by_cases hn : nn = 0
  · skip
    by_cases h1 : l1 = 0
    · skip
      by_cases ha : wa = 0
      · skip
        have e : zrB false false true false nn l1 l2 wa = true := by simp [zrB, hn, h1, ha]
        rw [e]
        clear e
        subst hn
        subst h1
        subst ha
        go_enter Tryz.func89, Tryz.ntmps89
        go_wp2
        go_ret
        exact ⟨rfl, B0⟩
      · have e : zrB false false true false nn l1 l2 wa = false := by simp [zrB, hn, h1, ha]
        rw [e]
        clear e
        subst hn
        subst h1
        have e2 : (wa == 0) = false := by simp [ha]
        go_enter Tryz.func89, Tryz.ntmps89
        go_wp2
        go_ret
        exact ⟨rfl, B0⟩
    · have e : zrB false false true false nn l1 l2 wa = false := by simp [zrB, hn, h1]
      rw [e]
      have h1i : ¬ (l1 : Int) = 0 := by omega
      clear e
      subst hn
      go_enter Tryz.func89, Tryz.ntmps89
      go_wp2
      go_ret
      exact ⟨rfl, B0⟩
  · have e : zrB false false true false nn l1 l2 wa = false := by simp [zrB, hn]
    rw [e]
    clear e
    go_enter Tryz.func89, Tryz.ntmps89
    go_wp2
    go_ret
    exact ⟨rfl, B0⟩

set_option maxHeartbeats 2000000 in
theorem l3Zero_ftff (kd pl nn wa : Int) (a1 a2 : Option Addr) (l1 l2 c1 c2 : Nat) (w : World) (hm1 : l1 ≤ 2000000) (hm2 : l2 ≤ 20000000) (z : Bool) (hz : zrB false true false false nn l1 l2 wa = z) :
    Calls Tryz.prog 89 #[rq kd pl nn wa a1 a2 l1 l2 c1 c2, .bool false, .bool true, .bool false, .bool false] w fun e w' => e = .returned (.bool z) ∧ Below w.heap.size w w' := by
  have B0 := bel_alloc w (.cells #[.int .i64 kd, .int .i64 pl, .int .i64 nn, .slice a1 l1 c1, .slice a2 l2 c2, .int .i64 wa] 28)
  subst hz
  by_cases hn : nn = 0
  · skip
    by_cases h2 : l2 = 0
    · skip
      by_cases ha : wa = 0
      · skip
        have e : zrB false true false false nn l1 l2 wa = true := by simp [zrB, hn, h2, ha]
        rw [e]
        clear e
        subst hn
        subst h2
        subst ha
        go_enter Tryz.func89, Tryz.ntmps89
        go_wp2
        go_ret
        exact ⟨rfl, B0⟩
      · have e : zrB false true false false nn l1 l2 wa = false := by simp [zrB, hn, h2, ha]
        rw [e]
        clear e
        subst hn
        subst h2
        have e2 : (wa == 0) = false := by simp [ha]
        go_enter Tryz.func89, Tryz.ntmps89
        go_wp2
        go_ret
        exact ⟨rfl, B0⟩
    · have e : zrB false true false false nn l1 l2 wa = false := by simp [zrB, hn, h2]
      rw [e]
      have h2i : ¬ (l2 : Int) = 0 := by omega
      clear e
      subst hn
      go_enter Tryz.func89, Tryz.ntmps89
      go_wp2
      go_ret
      exact ⟨rfl, B0⟩
  · have e : zrB false true false false nn l1 l2 wa = false := by simp [zrB, hn]
    rw [e]
    clear e
    go_enter Tryz.func89, Tryz.ntmps89
    go_wp2
    go_ret
    exact ⟨rfl, B0⟩

set_option maxHeartbeats 2000000 in
theorem l3Zero_ttft (kd pl nn wa : Int) (a1 a2 : Option Addr) (l1 l2 c1 c2 : Nat) (w : World) (hm1 : l1 ≤ 2000000) (hm2 : l2 ≤ 20000000) (z : Bool) (hz : zrB true true false true nn l1 l2 wa = z) :
    Calls Tryz.prog 89 #[rq kd pl nn wa a1 a2 l1 l2 c1 c2, .bool true, .bool true, .bool false, .bool true] w fun e w' => e = .returned (.bool z) ∧ Below w.heap.size w w' := by
  have B0 := bel_alloc w (.cells #[.int .i64 kd, .int .i64 pl, .int .i64 nn, .slice a1 l1 c1, .slice a2 l2 c2, .int .i64 wa] 28)
  subst hz
  by_cases h2 : l2 = 0
  · skip
    have e : zrB true true false true nn l1 l2 wa = true := by simp [zrB, h2]
    rw [e]
    clear e
    subst h2
    go_enter Tryz.func89, Tryz.ntmps89
    go_wp2
    go_ret
    exact ⟨rfl, B0⟩
  · have e : zrB true true false true nn l1 l2 wa = false := by simp [zrB, h2]
    rw [e]
    have h2i : ¬ (l2 : Int) = 0 := by omega
    clear e
    go_enter Tryz.func89, Tryz.ntmps89
    go_wp2
    go_ret
    exact ⟨rfl, B0⟩

set_option maxHeartbeats 1000000 in
theorem equal_int (a a' : Option Addr) (n n' cap cap' : Nat) (zs : List Int) (w : World) (hn : n = zs.length) (hn' : n' = zs.length) (hs : SlI w a zs) (hs' : SlI w a' zs) (hl : zs.length ≤ 2000000) :
    Calls Tryz.prog 127 #[.slice a n cap, .slice a' n' cap'] w fun e w' => e = .returned (.bool true) ∧ Below w.heap.size w w' := by
  subst hn hn'
  go_enter Tryz.func127, Tryz.ntmps127
  go_wp2
  go_loopw [13] (fun i wr => ∃ k : Nat, k ≤ zs.length ∧ i = .int .i64 k ∧ ∃ n, wr = w.drewN n) (fun i _ => zs.length - (intOf i).toNat)
  case atStart => exact ⟨0, Nat.zero_le _, rfl, 0, rfl⟩
  case round =>
    obtain ⟨k, hk, rfl, n, rfl⟩ := hrel
    by_cases hlt : k < zs.length
    · obtain ⟨b, off, rfl, _, hc⟩ := cell_atI hs hlt
      obtain ⟨b', off', rfl, _, hc'⟩ := cell_atI hs' hlt
      have hi : (k : Int) < (zs.length : Int) := by omega
      clear hs hs'
      go_wp2
      go_quiet (fail)
      go_wp2
      go_roundw
      case rel => first | exact ⟨k + 1, by omega, by go_num, _, rfl⟩ | exact ⟨_, _, ⟨k + 1, by omega, by go_num, _, rfl⟩, rfl, rfl⟩
      case measure => simp [intOf]; omega
    · clear hs hs'
      go_wp2
      go_ret
      exact ⟨rfl, drew_refl _ _⟩

set_option maxHeartbeats 1000000 in
theorem equal_int_len (a a' : Option Addr) (n n' cap cap' : Nat) (w : World) (hne : ¬ (n : Int) = (n' : Int)) (h1 : n ≤ 20000000) (h2 : n' ≤ 20000000) :
    Calls Tryz.prog 127 #[.slice a n cap, .slice a' n' cap'] w fun e w' => e = .returned (.bool false) ∧ Below w.heap.size w w' := by
  go_enter Tryz.func127, Tryz.ntmps127
  go_wp2
  go_ret
  exact ⟨rfl, Below.refl _ _⟩

set_option maxHeartbeats 1000000 in
theorem equal_bool (a a' : Option Addr) (n n' cap cap' : Nat) (zs : List Bool) (w : World) (hn : n = zs.length) (hn' : n' = zs.length) (hs : SlB w a zs) (hs' : SlB w a' zs) (hl : zs.length ≤ 2000000) :
    Calls Tryz.prog 126 #[.slice a n cap, .slice a' n' cap'] w fun e w' => e = .returned (.bool true) ∧ Below w.heap.size w w' := by
  subst hn hn'
  go_enter Tryz.func126, Tryz.ntmps126
  go_wp2
  go_loopw [13] (fun i wr => ∃ k : Nat, k ≤ zs.length ∧ i = .int .i64 k ∧ ∃ n, wr = w.drewN n) (fun i _ => zs.length - (intOf i).toNat)
  case atStart => exact ⟨0, Nat.zero_le _, rfl, 0, rfl⟩
  case round =>
    obtain ⟨k, hk, rfl, n, rfl⟩ := hrel
    by_cases hlt : k < zs.length
    · obtain ⟨b, off, rfl, _, hc⟩ := cell_atB hs hlt
      obtain ⟨b', off', rfl, _, hc'⟩ := cell_atB hs' hlt
      have hi : (k : Int) < (zs.length : Int) := by omega
      clear hs hs'
      go_wp2
      go_quiet (fail)
      go_wp2
      go_roundw
      case rel => first | exact ⟨k + 1, by omega, by go_num, _, rfl⟩ | exact ⟨_, _, ⟨k + 1, by omega, by go_num, _, rfl⟩, rfl, rfl⟩
      case measure => simp [intOf]; omega
    · clear hs hs'
      go_wp2
      go_ret
      exact ⟨rfl, drew_refl _ _⟩

set_option maxHeartbeats 1000000 in
theorem equal_bool_len (a a' : Option Addr) (n n' cap cap' : Nat) (w : World) (hne : ¬ (n : Int) = (n' : Int)) (h1 : n ≤ 20000000) (h2 : n' ≤ 20000000) :
    Calls Tryz.prog 126 #[.slice a n cap, .slice a' n' cap'] w fun e w' => e = .returned (.bool false) ∧ Below w.heap.size w w' := by
  go_enter Tryz.func126, Tryz.ntmps126
  go_wp2
  go_ret
  exact ⟨rfl, Below.refl _ _⟩

end Go.Proofs.YtmhdneenjoelfaaGreat
