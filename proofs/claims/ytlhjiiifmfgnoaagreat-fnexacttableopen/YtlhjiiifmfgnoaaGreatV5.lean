/- Texts that the proof needs, joined: Q1 Pack1 Marks2 R1 Apd Mk6 Cz5 Cz6 Steps RgI RgV RgW RgX. -/
import Derived.Test.YtlhjiiifmfgnoaaGreatV1
import Derived.Test.YtlhjiiifmfgnoaaGreatV4
import Derived.LoopN
import Derived.Lib.AppendZerosOnto
import Derived.Deep.Upon
import Derived.Lib.AppendZeros
import Derived.Test.YtlhjiiifmfgnoaaGreatV3
import Derived.Maps.AppendAt
import Derived.WalkKit
import Derived.Deep.RegionLaw
import Derived.RegionTactic
import Derived.Below
set_option linter.unusedVariables false
set_option linter.unusedSimpArgs false
set_option maxHeartbeats 4000000
set_option maxRecDepth 20000
namespace Go.Proofs.YtlhjiiifmfgnoaaGreat
open Go.RowKit
def inB (x lo hi : Int) : Bool := decide (lo <= x /\ x <= hi)
def allW (ws : List Int) : Bool := decide (∀ k, k < ws.length -> 0 <= ws.getD k 0 /\ ws.getD k 0 <= 65535)
def fitB (p n : Int) : Bool := decide (0 <= p /\ p <= 65535 /\ p + n <= 65536)
def rnB (p n most : Int) : Bool := decide (1 <= n /\ n <= most /\ 0 <= p /\ p + n <= 65536)
def zrB (n w b a : Bool) (nn : Int) (l1 l2 : Nat) (wa : Int) : Bool := (n || decide (nn = 0)) && ((w || decide (l1 = 0)) && ((b || decide (l2 = 0)) && (a || decide (wa = 0))))
theorem l1In_any (x lo hi : Int) (w : World) (b : Bool) (hb : inB x lo hi = b) : Calls Tryz.prog 47 #[.int .i64 x, .int .i64 lo, .int .i64 hi] w fun e w' => e = .returned (.bool b) /\ w' = w := by
 subst hb
 unfold inB
 by_cases h1 : lo <= x
 ·by_cases h2 : x <= hi
  ·rw [decide_eq_true (show lo <= x /\ x <= hi from ⟨h1, h2⟩)]
   go_enter Tryz.func47, Tryz.ntmps47
   go_wp2
   go_ret
   exact ⟨rfl, rfl⟩
  rw [decide_eq_false (show ¬ (lo <= x /\ x <= hi) from fun h => h2 h.2)]
  go_enter Tryz.func47, Tryz.ntmps47
  go_wp2
  go_ret
  exact ⟨rfl, rfl⟩
 rw [decide_eq_false (show ¬ (lo <= x /\ x <= hi) from fun h => h1 h.1)]
 go_enter Tryz.func47, Tryz.ntmps47
 go_wp2
 go_ret
 exact ⟨rfl, rfl⟩
theorem isWord_any (x : Int) (w : World) (b : Bool) (hb : inB x 0 65535 = b) : Calls Tryz.prog 127 #[.int .i64 x] w fun e w' => e = .returned (.bool b) /\ w' = w := by
 subst hb
 unfold inB
 by_cases h1 : 0 <= x
 ·by_cases h2 : x <= 65535
  ·rw [decide_eq_true (show 0 <= x /\ x <= 65535 from ⟨h1, h2⟩)]
   go_enter Tryz.func127, Tryz.ntmps127
   go_wp2
   go_ret
   exact ⟨rfl, rfl⟩
  rw [decide_eq_false (show ¬ (0 <= x /\ x <= 65535) from fun h => h2 h.2)]
  go_enter Tryz.func127, Tryz.ntmps127
  go_wp2
  go_ret
  exact ⟨rfl, rfl⟩
 rw [decide_eq_false (show ¬ (0 <= x /\ x <= 65535) from fun h => h1 h.1)]
 go_enter Tryz.func127, Tryz.ntmps127
 go_wp2
 go_ret
 exact ⟨rfl, rfl⟩
theorem l3Fits_any (x n : Int) (w : World) (hn0 : 0 <= n) (hn1 : n <= 9000000000000000000) (b : Bool) (hb : fitB x n = b) : Calls Tryz.prog 74 #[.int .i64 x, .int .i64 n] w fun e w' => e = .returned (.bool b) /\ w' = w := by
 subst hb
 unfold fitB
 by_cases h1 : 0 <= x
 ·by_cases h2 : x <= 65535
  ·by_cases h3 : x + n <= 65536
   ·rw [decide_eq_true (show 0 <= x /\ x <= 65535 /\ x + n <= 65536 from ⟨h1, h2, h3⟩)]
    go_enter Tryz.func74, Tryz.ntmps74
    go_wp2_with (go_at_call 47; go_in)
    go_ret
    exact ⟨rfl, rfl⟩
   rw [decide_eq_false (show ¬ (0 <= x /\ x <= 65535 /\ x + n <= 65536) from fun h => h3 h.2.2)]
   go_enter Tryz.func74, Tryz.ntmps74
   go_wp2_with (go_at_call 47; go_in)
   go_ret
   exact ⟨rfl, rfl⟩
  rw [decide_eq_false (show ¬ (0 <= x /\ x <= 65535 /\ x + n <= 65536) from fun h => h2 h.2.1)]
  go_enter Tryz.func74, Tryz.ntmps74
  go_wp2_with (go_at_call 47; go_in)
  go_ret
  exact ⟨rfl, rfl⟩
 rw [decide_eq_false (show ¬ (0 <= x /\ x <= 65535 /\ x + n <= 65536) from fun h => h1 h.1)]
 go_enter Tryz.func74, Tryz.ntmps74
 go_wp2_with (go_at_call 47; go_in)
 go_ret
 exact ⟨rfl, rfl⟩
theorem isRun_any (x n most : Int) (w : World) (hm : most <= 2000) (b : Bool) (hb : rnB x n most = b) : Calls Tryz.prog 126 #[.int .i64 x, .int .i64 n, .int .i64 most] w fun e w' => e = .returned (.bool b) /\ w' = w := by
 subst hb
 unfold rnB
 by_cases h1 : 1 <= n
 ·by_cases h2 : n <= most
  ·by_cases h3 : 0 <= x
   ·by_cases h4 : x <= 65536 - n
    ·rw [decide_eq_true (show 1 <= n /\ n <= most /\ 0 <= x /\ x + n <= 65536 from ⟨h1, h2, h3, by omega⟩)]
     go_enter Tryz.func126, Tryz.ntmps126
     go_wp2
     go_ret
     exact ⟨rfl, rfl⟩
    rw [decide_eq_false (show ¬ (1 <= n /\ n <= most /\ 0 <= x /\ x + n <= 65536) from fun h => h4 (by omega))]
    go_enter Tryz.func126, Tryz.ntmps126
    go_wp2
    go_ret
    exact ⟨rfl, rfl⟩
   rw [decide_eq_false (show ¬ (1 <= n /\ n <= most /\ 0 <= x /\ x + n <= 65536) from fun h => h3 h.2.2.1)]
   go_enter Tryz.func126, Tryz.ntmps126
   go_wp2
   go_ret
   exact ⟨rfl, rfl⟩
  rw [decide_eq_false (show ¬ (1 <= n /\ n <= most /\ 0 <= x /\ x + n <= 65536) from fun h => h2 h.2.1)]
  go_enter Tryz.func126, Tryz.ntmps126
  go_wp2
  go_ret
  exact ⟨rfl, rfl⟩
 rw [decide_eq_false (show ¬ (1 <= n /\ n <= most /\ 0 <= x /\ x + n <= 65536) from fun h => h1 h.1)]
 go_enter Tryz.func126, Tryz.ntmps126
 go_wp2
 go_ret
 exact ⟨rfl, rfl⟩
theorem allW_bad {zs : List Int} {k : Nat} (h : k < zs.length) (hb : ¬ (0 <= zs.getD k 0 /\ zs.getD k 0 <= 65535)) : allW zs = false := by
 unfold allW; exact decide_eq_false (fun hh => hb (hh k h))
theorem allW_good {zs : List Int} (hb : ∀ k, k < zs.length -> 0 <= zs.getD k 0 /\ zs.getD k 0 <= 65535) : allW zs = true := by
 unfold allW; exact decide_eq_true hb
theorem l3Words_any (a : Option Addr) (n cap : Nat) (zs : List Int) (w : World) (hn : n = zs.length) (hs : SlI w a zs) (hl : zs.length <= 2000000) (b : Bool) (hb : allW zs = b) :
 Calls Tryz.prog 72 #[.slice a n cap] w fun e w' => e = .returned (.bool b) /\ w' = w := by
 subst hn
 go_enter Tryz.func72, Tryz.ntmps72
 go_wp2
 go_loop [3] (fun i => ∃ k : Nat, k <= zs.length /\ i = .int .i64 k /\ ∀ j, j < k -> 0 <= zs.getD j 0 /\ zs.getD j 0 <= 65535) (fun i => zs.length - (intOf i).toNat)
 case atStart => exact ⟨0, Nat.zero_le _, rfl, fun j hj => absurd hj (Nat.not_lt_zero _)⟩
 case round =>
  obtain ⟨k, hk, rfl, hg⟩ := hrel
  have HG : Hid (∀ j, j < k -> 0 <= zs.getD j 0 /\ zs.getD j 0 <= 65535) := hg
  clear hg
  by_cases hlt : k < zs.length
  ·obtain ⟨bb, off, rfl, _, hc⟩ := cell_atI hs hlt
   have hi : (k : Int) < (zs.length : Int) := by omega
   obtain ⟨x, hx⟩ : ∃ x, x = zs.getD k 0 := ⟨_, rfl⟩
   have HX : Hid (x = zs.getD k 0) := hx
   rw [<- hx] at hc
   clear hs hx
   by_cases h1 : 0 <= x
   ·by_cases h2 : x <= 65535
    ·go_wp2_with (go_at_call 47; go_in)
     go_round
     case rel =>
      first
       | exact ⟨k + 1, by omega, by go_num, fun j hj => by
        by_cases e : j = k
        ·subst e; rw [<- HX.out]; exact ⟨h1, h2⟩
        exact HG.out j (by omega)⟩
       | exact ⟨_, _, ⟨k + 1, by omega, by go_num, fun j hj => by
        by_cases e : j = k
        ·subst e; rw [<- HX.out]; exact ⟨h1, h2⟩
        exact HG.out j (by omega)⟩, rfl, rfl⟩
     case measure => simp [intOf]; omega
    have hf := allW_bad hlt (by rw [<- HX.out]; exact fun h => h2 h.2)
    rw [hf] at hb
    subst hb
    go_wp2_with (go_at_call 47; go_in)
    go_ret
    exact ⟨rfl, rfl⟩
   have hf := allW_bad hlt (by rw [<- HX.out]; exact fun h => h1 h.1)
   rw [hf] at hb
   subst hb
   go_wp2_with (go_at_call 47; go_in)
   go_ret
   exact ⟨rfl, rfl⟩
  have hf := allW_good (zs := zs) (fun j hj => HG.out j (by omega))
  rw [hf] at hb
  subst hb
  clear hs
  go_wp2
  go_ret
  exact ⟨rfl, rfl⟩
theorem areWords_any (a : Option Addr) (n cap : Nat) (zs : List Int) (w : World) (hn : n = zs.length) (hs : SlI w a zs) (hl : zs.length <= 2000000) (b : Bool) (hb : allW zs = b) :
 Calls Tryz.prog 128 #[.slice a n cap] w fun e w' => e = .returned (.bool b) /\ w' = w := by
 subst hn
 go_enter Tryz.func128, Tryz.ntmps128
 go_wp2
 go_loop [7] (fun i => ∃ k : Nat, k <= zs.length /\ i = .int .i64 k /\ ∀ j, j < k -> 0 <= zs.getD j 0 /\ zs.getD j 0 <= 65535) (fun i => zs.length - (intOf i).toNat)
 case atStart => exact ⟨0, Nat.zero_le _, rfl, fun j hj => absurd hj (Nat.not_lt_zero _)⟩
 case round =>
  obtain ⟨k, hk, rfl, hg⟩ := hrel
  have HG : Hid (∀ j, j < k -> 0 <= zs.getD j 0 /\ zs.getD j 0 <= 65535) := hg
  clear hg
  by_cases hlt : k < zs.length
  ·obtain ⟨bb, off, rfl, _, hc⟩ := cell_atI hs hlt
   have hi : (k : Int) < (zs.length : Int) := by omega
   obtain ⟨x, hx⟩ : ∃ x, x = zs.getD k 0 := ⟨_, rfl⟩
   have HX : Hid (x = zs.getD k 0) := hx
   rw [<- hx] at hc
   clear hs hx
   by_cases h1 : 0 <= x
   ·by_cases h2 : x <= 65535
    ·go_wp2_with (go_at_call 127; go_in)
     go_round
     case rel =>
      first
       | exact ⟨k + 1, by omega, by go_num, fun j hj => by
        by_cases e : j = k
        ·subst e; rw [<- HX.out]; exact ⟨h1, h2⟩
        exact HG.out j (by omega)⟩
       | exact ⟨_, _, ⟨k + 1, by omega, by go_num, fun j hj => by
        by_cases e : j = k
        ·subst e; rw [<- HX.out]; exact ⟨h1, h2⟩
        exact HG.out j (by omega)⟩, rfl, rfl⟩
     case measure => simp [intOf]; omega
    have hf := allW_bad hlt (by rw [<- HX.out]; exact fun h => h2 h.2)
    rw [hf] at hb
    subst hb
    go_wp2_with (go_at_call 127; go_in)
    go_ret
    exact ⟨rfl, rfl⟩
   have hf := allW_bad hlt (by rw [<- HX.out]; exact fun h => h1 h.1)
   rw [hf] at hb
   subst hb
   go_wp2_with (go_at_call 127; go_in)
   go_ret
   exact ⟨rfl, rfl⟩
  have hf := allW_good (zs := zs) (fun j hj => HG.out j (by omega))
  rw [hf] at hb
  subst hb
  clear hs
  go_wp2
  go_ret
  exact ⟨rfl, rfl⟩
theorem l3Zero_tfff (kd pl nn wa : Int) (a1 a2 : Option Addr) (l1 l2 c1 c2 : Nat) (w : World) (hm1 : l1 <= 2000000) (hm2 : l2 <= 20000000) (z : Bool) (hz : zrB true false false false nn l1 l2 wa = z) :
 Calls Tryz.prog 73 #[rq kd pl nn wa a1 a2 l1 l2 c1 c2, .bool true, .bool false, .bool false, .bool false] w fun e w' => e = .returned (.bool z) /\ Below w.heap.size w w' := by
 have B0 := bel_alloc w (.cells #[.int .i64 kd, .int .i64 pl, .int .i64 nn, .slice a1 l1 c1, .slice a2 l2 c2, .int .i64 wa] 39)
 subst hz
 by_cases h1 : l1 = 0
 ·skip
  by_cases h2 : l2 = 0
  ·skip
   by_cases ha : wa = 0
   ·skip
    have e : zrB true false false false nn l1 l2 wa = true := by simp [zrB, h1, h2, ha]
    rw [e]
    clear e
    subst h1
    subst h2
    subst ha
    go_enter Tryz.func73, Tryz.ntmps73
    go_wp2
    go_ret
    exact ⟨rfl, B0⟩
   have e : zrB true false false false nn l1 l2 wa = false := by simp [zrB, h1, h2, ha]
   rw [e]
   clear e
   subst h1
   subst h2
   have e2 : (wa == 0) = false := by simp [ha]
   go_enter Tryz.func73, Tryz.ntmps73
   go_wp2
   go_ret
   exact ⟨rfl, B0⟩
  have e : zrB true false false false nn l1 l2 wa = false := by simp [zrB, h1, h2]
  rw [e]
  have h2i : ¬ (l2 : Int) = 0 := by omega
  clear e
  subst h1
  go_enter Tryz.func73, Tryz.ntmps73
  go_wp2
  go_ret
  exact ⟨rfl, B0⟩
 have e : zrB true false false false nn l1 l2 wa = false := by simp [zrB, h1]
 rw [e]
 have h1i : ¬ (l1 : Int) = 0 := by omega
 clear e
 go_enter Tryz.func73, Tryz.ntmps73
 go_wp2
 go_ret
 exact ⟨rfl, B0⟩
theorem l3Zero_fftf (kd pl nn wa : Int) (a1 a2 : Option Addr) (l1 l2 c1 c2 : Nat) (w : World) (hm1 : l1 <= 2000000) (hm2 : l2 <= 20000000) (z : Bool) (hz : zrB false false true false nn l1 l2 wa = z) :
 Calls Tryz.prog 73 #[rq kd pl nn wa a1 a2 l1 l2 c1 c2, .bool false, .bool false, .bool true, .bool false] w fun e w' => e = .returned (.bool z) /\ Below w.heap.size w w' := by
 have B0 := bel_alloc w (.cells #[.int .i64 kd, .int .i64 pl, .int .i64 nn, .slice a1 l1 c1, .slice a2 l2 c2, .int .i64 wa] 39)
 subst hz
 by_cases hn : nn = 0
 ·skip
  by_cases h1 : l1 = 0
  ·skip
   by_cases ha : wa = 0
   ·skip
    have e : zrB false false true false nn l1 l2 wa = true := by simp [zrB, hn, h1, ha]
    rw [e]
    clear e
    subst hn
    subst h1
    subst ha
    go_enter Tryz.func73, Tryz.ntmps73
    go_wp2
    go_ret
    exact ⟨rfl, B0⟩
   have e : zrB false false true false nn l1 l2 wa = false := by simp [zrB, hn, h1, ha]
   rw [e]
   clear e
   subst hn
   subst h1
   have e2 : (wa == 0) = false := by simp [ha]
   go_enter Tryz.func73, Tryz.ntmps73
   go_wp2
   go_ret
   exact ⟨rfl, B0⟩
  have e : zrB false false true false nn l1 l2 wa = false := by simp [zrB, hn, h1]
  rw [e]
  have h1i : ¬ (l1 : Int) = 0 := by omega
  clear e
  subst hn
  go_enter Tryz.func73, Tryz.ntmps73
  go_wp2
  go_ret
  exact ⟨rfl, B0⟩
 have e : zrB false false true false nn l1 l2 wa = false := by simp [zrB, hn]
 rw [e]
 clear e
 go_enter Tryz.func73, Tryz.ntmps73
 go_wp2
 go_ret
 exact ⟨rfl, B0⟩
theorem l3Zero_ftff (kd pl nn wa : Int) (a1 a2 : Option Addr) (l1 l2 c1 c2 : Nat) (w : World) (hm1 : l1 <= 2000000) (hm2 : l2 <= 20000000) (z : Bool) (hz : zrB false true false false nn l1 l2 wa = z) :
 Calls Tryz.prog 73 #[rq kd pl nn wa a1 a2 l1 l2 c1 c2, .bool false, .bool true, .bool false, .bool false] w fun e w' => e = .returned (.bool z) /\ Below w.heap.size w w' := by
 have B0 := bel_alloc w (.cells #[.int .i64 kd, .int .i64 pl, .int .i64 nn, .slice a1 l1 c1, .slice a2 l2 c2, .int .i64 wa] 39)
 subst hz
 by_cases hn : nn = 0
 ·skip
  by_cases h2 : l2 = 0
  ·skip
   by_cases ha : wa = 0
   ·skip
    have e : zrB false true false false nn l1 l2 wa = true := by simp [zrB, hn, h2, ha]
    rw [e]
    clear e
    subst hn
    subst h2
    subst ha
    go_enter Tryz.func73, Tryz.ntmps73
    go_wp2
    go_ret
    exact ⟨rfl, B0⟩
   have e : zrB false true false false nn l1 l2 wa = false := by simp [zrB, hn, h2, ha]
   rw [e]
   clear e
   subst hn
   subst h2
   have e2 : (wa == 0) = false := by simp [ha]
   go_enter Tryz.func73, Tryz.ntmps73
   go_wp2
   go_ret
   exact ⟨rfl, B0⟩
  have e : zrB false true false false nn l1 l2 wa = false := by simp [zrB, hn, h2]
  rw [e]
  have h2i : ¬ (l2 : Int) = 0 := by omega
  clear e
  subst hn
  go_enter Tryz.func73, Tryz.ntmps73
  go_wp2
  go_ret
  exact ⟨rfl, B0⟩
 have e : zrB false true false false nn l1 l2 wa = false := by simp [zrB, hn]
 rw [e]
 clear e
 go_enter Tryz.func73, Tryz.ntmps73
 go_wp2
 go_ret
 exact ⟨rfl, B0⟩
theorem l3Zero_ttft (kd pl nn wa : Int) (a1 a2 : Option Addr) (l1 l2 c1 c2 : Nat) (w : World) (hm1 : l1 <= 2000000) (hm2 : l2 <= 20000000) (z : Bool) (hz : zrB true true false true nn l1 l2 wa = z) :
 Calls Tryz.prog 73 #[rq kd pl nn wa a1 a2 l1 l2 c1 c2, .bool true, .bool true, .bool false, .bool true] w fun e w' => e = .returned (.bool z) /\ Below w.heap.size w w' := by
 have B0 := bel_alloc w (.cells #[.int .i64 kd, .int .i64 pl, .int .i64 nn, .slice a1 l1 c1, .slice a2 l2 c2, .int .i64 wa] 39)
 subst hz
 by_cases h2 : l2 = 0
 ·skip
  have e : zrB true true false true nn l1 l2 wa = true := by simp [zrB, h2]
  rw [e]
  clear e
  subst h2
  go_enter Tryz.func73, Tryz.ntmps73
  go_wp2
  go_ret
  exact ⟨rfl, B0⟩
 have e : zrB true true false true nn l1 l2 wa = false := by simp [zrB, h2]
 rw [e]
 have h2i : ¬ (l2 : Int) = 0 := by omega
 clear e
 go_enter Tryz.func73, Tryz.ntmps73
 go_wp2
 go_ret
 exact ⟨rfl, B0⟩
theorem equal_int (a a' : Option Addr) (n n' cap cap' : Nat) (zs : List Int) (w : World) (hn : n = zs.length) (hn' : n' = zs.length) (hs : SlI w a zs) (hs' : SlI w a' zs) (hl : zs.length <= 2000000) :
 Calls Tryz.prog 119 #[.slice a n cap, .slice a' n' cap'] w fun e w' => e = .returned (.bool true) /\ Below w.heap.size w w' := by
 subst hn hn'
 go_enter Tryz.func119, Tryz.ntmps119
 go_wp2
 go_loopw [13] (fun i wr => ∃ k : Nat, k <= zs.length /\ i = .int .i64 k /\ ∃ n, wr = w.drewN n) (fun i _ => zs.length - (intOf i).toNat)
 case atStart => exact ⟨0, Nat.zero_le _, rfl, 0, rfl⟩
 case round =>
  obtain ⟨k, hk, rfl, n, rfl⟩ := hrel
  by_cases hlt : k < zs.length
  ·obtain ⟨b, off, rfl, _, hc⟩ := cell_atI hs hlt
   obtain ⟨b', off', rfl, _, hc'⟩ := cell_atI hs' hlt
   have hi : (k : Int) < (zs.length : Int) := by omega
   clear hs hs'
   go_wp2
   go_quiet (fail)
   go_wp2
   go_roundw
   case rel => first | exact ⟨k + 1, by omega, by go_num, _, rfl⟩ | exact ⟨_, _, ⟨k + 1, by omega, by go_num, _, rfl⟩, rfl, rfl⟩
   case measure => simp [intOf]; omega
  clear hs hs'
  go_wp2
  go_ret
  exact ⟨rfl, drew_refl _ _⟩
theorem equal_int_len (a a' : Option Addr) (n n' cap cap' : Nat) (w : World) (hne : ¬ (n : Int) = (n' : Int)) (h1 : n <= 20000000) (h2 : n' <= 20000000) :
 Calls Tryz.prog 119 #[.slice a n cap, .slice a' n' cap'] w fun e w' => e = .returned (.bool false) /\ Below w.heap.size w w' := by
 go_enter Tryz.func119, Tryz.ntmps119
 go_wp2
 go_ret
 exact ⟨rfl, Below.refl _ _⟩
theorem equal_bool (a a' : Option Addr) (n n' cap cap' : Nat) (zs : List Bool) (w : World) (hn : n = zs.length) (hn' : n' = zs.length) (hs : SlB w a zs) (hs' : SlB w a' zs) (hl : zs.length <= 2000000) :
 Calls Tryz.prog 120 #[.slice a n cap, .slice a' n' cap'] w fun e w' => e = .returned (.bool true) /\ Below w.heap.size w w' := by
 subst hn hn'
 go_enter Tryz.func120, Tryz.ntmps120
 go_wp2
 go_loopw [13] (fun i wr => ∃ k : Nat, k <= zs.length /\ i = .int .i64 k /\ ∃ n, wr = w.drewN n) (fun i _ => zs.length - (intOf i).toNat)
 case atStart => exact ⟨0, Nat.zero_le _, rfl, 0, rfl⟩
 case round =>
  obtain ⟨k, hk, rfl, n, rfl⟩ := hrel
  by_cases hlt : k < zs.length
  ·obtain ⟨b, off, rfl, _, hc⟩ := cell_atB hs hlt
   obtain ⟨b', off', rfl, _, hc'⟩ := cell_atB hs' hlt
   have hi : (k : Int) < (zs.length : Int) := by omega
   clear hs hs'
   go_wp2
   go_quiet (fail)
   go_wp2
   go_roundw
   case rel => first | exact ⟨k + 1, by omega, by go_num, _, rfl⟩ | exact ⟨_, _, ⟨k + 1, by omega, by go_num, _, rfl⟩, rfl, rfl⟩
   case measure => simp [intOf]; omega
  clear hs hs'
  go_wp2
  go_ret
  exact ⟨rfl, drew_refl _ _⟩
theorem equal_bool_len (a a' : Option Addr) (n n' cap cap' : Nat) (w : World) (hne : ¬ (n : Int) = (n' : Int)) (h1 : n <= 20000000) (h2 : n' <= 20000000) :
 Calls Tryz.prog 120 #[.slice a n cap, .slice a' n' cap'] w fun e w' => e = .returned (.bool false) /\ Below w.heap.size w w' := by
 go_enter Tryz.func120, Tryz.ntmps120
 go_wp2
 go_ret
 exact ⟨rfl, Below.refl _ _⟩
end Go.Proofs.YtlhjiiifmfgnoaaGreat
namespace Go.Proofs.YtlhjiiifmfgnoaaGreat
open Go.RowKit
def pv (bits : List Bool) : Nat -> Nat -> Int
 | 0, _ => 0
 | k + 1, j => if k / 8 = j /\ bits.getD k false = true then pv bits k j + (2 ^ (k % 8) : Nat) else pv bits k j
theorem bytesFor_any (x : Int) (w : World) (h0 : 0 <= x) (h1 : x <= 9223372036854775807) :
 Calls Tryz.prog 130 #[.int .i64 x] w fun e w' => e = .returned (.int .i64 ((x + 7) / 8)) /\ w' = w := by
 by_cases h : x % 8 = 0
 ·have e : (x + 7) / 8 = x / 8 := by omega
  rw [e]
  have h' : (x % 8 == 0) = true := by simp [h]
  clear e
  go_enter Tryz.func130, Tryz.ntmps130
  go_wp2
  go_ret
  exact ⟨rfl, rfl⟩
 have e : (x + 7) / 8 = x / 8 + 1 := by omega
 rw [e]
 have h' : (x % 8 == 0) = false := by simp [h]
 clear e
 go_enter Tryz.func130, Tryz.ntmps130
 go_wp2
 go_ret
 exact ⟨rfl, rfl⟩
end Go.Proofs.YtlhjiiifmfgnoaaGreat
namespace Go.Proofs.YtlhjiiifmfgnoaaGreat
open Go.RowKit
def marksF (s n : Nat) : List Int := (List.range n).map (fun i : Nat => ((s : Int) + (i : Int)) % 256)
def MarkedF (s : Nat) (w wr : World) (g cap k : Nat) : Prop :=
 w.grownBy wr (some g) /\ ∃ cur, wr.heap[g]? = some (.cells cur 5 (0, 0)) /\ cur.size = cap /\ ∀ i, i < k -> cur[i]? = some (.int .u8 (((s : Int) + (i : Int)) % 256))
end Go.Proofs.YtlhjiiifmfgnoaaGreat
namespace Go.Proofs.YtlhjiiifmfgnoaaGreat
open Go.RowKit
def wb (x : Int) : List Int := [x / 256 % 256, x % 256]
def wbs : List Int -> List Int
 | [] => []
 | x :: r => x / 256 % 256 :: x % 256 :: wbs r
def Nw (w w' : World) (e : Ending) (zs : List Int) : Prop :=
 ∃ g c n, e = .returned (.slice (some ⟨g, 0, none⟩) n c) /\ n = zs.length /\ Own w' w.heap.size (.slice (some ⟨g, 0, none⟩) n c) zs /\ Below w.heap.size w w'
end Go.Proofs.YtlhjiiifmfgnoaaGreat
namespace Go.Proofs.YtlhjiiifmfgnoaaGreat
open Go.RowKit
theorem Tryz.infoQ3 : (Tryz.prog.info? 3).map (fun i => (i.zero, i.size, i.bytes)) = some (some (.int .i64 0), 1, 8) := by kernel_rfl
theorem SlI.cellsAt {w : World} {ad : Addr} {zs : List Int} (h : SlI w (some ad) zs) : ∀ j u, (zs.map (Value.int .i64))[j]? = some u -> w.cell? (ad.add j) = some u := by
 intro j u hu
 rcases h with h | ⟨b, off, ha, _, hc⟩
 ·subst h; simp at hu
 obtain rfl : ad = ⟨b, off, none⟩ := by simpa using ha
 have hj : j < zs.length := by
  have := (List.getElem?_eq_some_iff.1 hu).1
  simpa using this
 have e : Addr.add ⟨b, off, none⟩ j = ⟨b, off + j, none⟩ := by
  by_cases h0 : j = 0
  ·subst h0; simp [Addr.add]
  simp [Addr.add, h0]
 rw [e, hc j hj]
 rw [<- hu]
 simp [hj]
theorem wpList_appI {w : World} {ops : Array Oper} {rest : List Oper} {o : Oper} {a : Act} {Q : Exit -> Act -> World -> Prop} (hgd : o.guard = none) (s x : Operand)
 (ho : o.op = .call { callee := .builtin .append, args := #[s, x], argTypes := #[25, 25] }) (base : Nat) (v : Value) (zs : List Int) (hs : a.eval s = v) (hown : OwnI w base v zs)
 (ad : Addr) (m c : Nat) (ys : List Int) (hx : a.eval x = .slice (some ad) m c) (hm : m = ys.length) (hsl : SlI w (some ad) ys) (hlen : zs.length + ys.length <= 4000000) (hbase : base <= w.heap.size)
 (h : ∀ v' w', OwnI w' base v' (zs ++ ys) -> w.grownBy w' v.ownBlock -> wpList Tryz.prog ops Q rest (a.put o.dst v') w') : wpList Tryz.prog ops Q (o :: rest) a w := by
 obtain ⟨i0, hi, hz0, hz1, hz2⟩ := info_parts Tryz.infoQ3
 subst hm
 refine wpList_append_own w hgd s x 25 ho base 3 i0 (.int .i64 0) 1 8 Tryz.underlying25 hi hz0 hz1 hz2 rfl (by decide) v zs.length (zs.map (Value.int .i64)) hs hown ad ys.length c (ys.map (Value.int .i64)) hx (by simp) hsl.cellsAt (ints_oneCell _ _) (by unfold maxLen; omega) (by omega) hbase ?_
 intro v' w' h1 h2 _
 exact h v' w' (by simpa [OwnI] using h1) h2
theorem ints_none {w : World} {ys : List Int} (h : SlI w none ys) : ys = [] := by
 cases ys with
 | nil => rfl
 | cons y r => obtain ⟨b, off, e, _⟩ := cell_atI (k := 0) h (by simp); simp at e
theorem bools_none {w : World} {ys : List Bool} (h : SlB w none ys) : ys = [] := by
 cases ys with
 | nil => rfl
 | cons y r => obtain ⟨b, off, e, _⟩ := cell_atB (k := 0) h (by simp); simp at e
theorem wpList_appIO {w : World} {ops : Array Oper} {rest : List Oper} {o : Oper} {a : Act} {Q : Exit -> Act -> World -> Prop} (hgd : o.guard = none) (s x : Operand)
 (ho : o.op = .call { callee := .builtin .append, args := #[s, x], argTypes := #[25, 25] }) (base : Nat) (v : Value) (zs : List Int) (hs : a.eval s = v) (hown : OwnI w base v zs)
 (ad : Option Addr) (m c : Nat) (ys : List Int) (hx : a.eval x = .slice ad m c) (hm : m = ys.length) (hsl : SlI w ad ys) (hlen : zs.length + ys.length <= 4000000) (hbase : base <= w.heap.size)
 (h : ∀ v' w', OwnI w' base v' (zs ++ ys) -> w.grownBy w' v.ownBlock -> wpList Tryz.prog ops Q rest (a.put o.dst v') w') : wpList Tryz.prog ops Q (o :: rest) a w := by
 cases ad with
 | some ad => exact wpList_appI hgd s x ho base v zs hs hown ad m c ys hx hm hsl hlen hbase h
 | none =>
  obtain rfl := ints_none hsl
  obtain rfl : m = 0 := hm
  obtain ⟨i0, hi, hz0, hz1, hz2⟩ := info_parts Tryz.infoQ3
  have hgo : ∀ (sa : Option Addr) (sn sc : Nat), sn <= sc -> v = .slice sa sn sc -> wpList Tryz.prog ops Q (o :: rest) a w := by
   rintro sa sn sc hcap rfl
   exact Lib.wpList_append_run _ hgd s x _ _ ho _ _ hs hx _ _ (run_append_nothing w 25 25 o.type 3 i0 Tryz.underlying25 hi sa sn sc hcap _ (Src.ofNil w Tryz.underlying25 c)) (h _ w (by simpa using hown) ⟨rfl, rfl, rfl, Nat.le_refl _, fun _ _ _ => rfl⟩)
  rcases hown.2 with ⟨e, _⟩ | ⟨g, cap', cur, hv, _, hh, h3, _⟩
  ·exact hgo _ _ _ (Nat.le_refl 0) e
  exact hgo _ _ _ h3 hv
theorem boolCells {w : World} {ad : Addr} {ys : List Bool} (h : SlB w (some ad) ys) : ∀ j u, (ys.map Value.bool)[j]? = some u -> w.cell? (ad.add j) = some u := by
 intro j u hu
 rw [List.getElem?_map] at hu
 by_cases hj : j < ys.length
 ·obtain ⟨b, off, e, _, hc⟩ := cell_atB h hj
  simp at e
  subst e
  rw [List.getElem?_eq_getElem hj] at hu
  simp at hu
  subst hu
  have : ys.getD j false = ys[j] := by simp [List.getD_eq_getElem?_getD, hj]
  rw [this] at hc
  by_cases h0 : j = 0
  ·subst h0; simpa [Addr.add] using hc
  simpa [Addr.add, h0] using hc
 rw [List.getElem?_eq_none (by omega)] at hu; simp at hu
theorem wpList_appBO {w : World} {ops : Array Oper} {rest : List Oper} {o : Oper} {a : Act} {Q : Exit -> Act -> World -> Prop} (hgd : o.guard = none) (s x : Operand)
 (ho : o.op = .call { callee := .builtin .append, args := #[s, x], argTypes := #[26, 26] }) (base : Nat) (v : Value) (zs : List Bool) (hs : a.eval s = v) (hown : OwnB w base v zs)
 (ad : Option Addr) (m c : Nat) (ys : List Bool) (hx : a.eval x = .slice ad m c) (hm : m = ys.length) (hsl : SlB w ad ys) (hlen : zs.length + ys.length <= 4000000) (hbase : base <= w.heap.size)
 (h : ∀ v' w', OwnB w' base v' (zs ++ ys) -> w.grownBy w' v.ownBlock -> wpList Tryz.prog ops Q rest (a.put o.dst v') w') : wpList Tryz.prog ops Q (o :: rest) a w := by
 obtain ⟨i0, hi, hz0, hz1, hz2⟩ := info_parts Tryz.info4
 cases ad with
 | some ad =>
  subst hm
  have hml : zs.length + ys.length <= maxLen := by unfold maxLen; omega
  refine wpList_append_own _ hgd s x 26 ho base 4 i0 (.bool false) 1 1 Tryz.underlying26 hi hz0 hz1 hz2 rfl (by decide) v zs.length (zs.map Value.bool) hs hown ad ys.length c (ys.map Value.bool) hx (by simp) (boolCells hsl) (by intro u hu; obtain ⟨y, _, rfl⟩ := List.mem_map.mp hu; rfl) hml (by omega) hbase ?_
  intro v' w' o' g' _
  exact h v' w' (by simpa [OwnB] using o') g'
 | none =>
  obtain rfl := bools_none hsl
  obtain rfl : m = 0 := hm
  have hgo : ∀ (sa : Option Addr) (sn sc : Nat), sn <= sc -> v = .slice sa sn sc -> wpList Tryz.prog ops Q (o :: rest) a w := by
   rintro sa sn sc hcap rfl
   exact Lib.wpList_append_run _ hgd s x _ _ ho _ _ hs hx _ _ (run_append_nothing w 26 26 o.type 4 i0 Tryz.underlying26 hi sa sn sc hcap _ (Src.ofNil w Tryz.underlying26 c)) (h _ w (by simpa using hown) ⟨rfl, rfl, rfl, Nat.le_refl _, fun _ _ _ => rfl⟩)
  rcases hown.2 with ⟨e, _⟩ | ⟨g, cap', cur, hv, _, hh, h3, _⟩
  ·exact hgo _ _ _ (Nat.le_refl 0) e
  exact hgo _ _ _ h3 hv
theorem newI (u : World) (base : Nat) (hb : base <= u.heap.size) : OwnI (u.alloc (.cells #[] 3)) base (.slice (some ⟨u.heap.size, 0, none⟩) 0 0) [] := ⟨rfl, .inr ⟨u.heap.size, 0, #[], rfl, hb, Blk.new u #[] 3, by simp, by simp, rfl, rfl⟩⟩
theorem newB (u : World) (base : Nat) (hb : base <= u.heap.size) : OwnB (u.alloc (.cells #[] 4)) base (.slice (some ⟨u.heap.size, 0, none⟩) 0 0) [] := ⟨rfl, .inr ⟨u.heap.size, 0, #[], rfl, hb, Blk.new u #[] 4, by simp, by simp, rfl, rfl⟩⟩
theorem ownB_shape {w : World} {base : Nat} {v : Value} {zs : List Bool} (h : OwnB w base v zs) : ∃ a c n, v = .slice a n c /\ n = zs.length := by
 obtain ⟨_, h2⟩ := h
 rcases h2 with ⟨hv, h3⟩ | ⟨g, cap, cur, hv, hg, hh, _⟩
 ·exact ⟨none, 0, 0, hv, h3.symm⟩
 exact ⟨_, cap, _, hv, rfl⟩
theorem ownI_shape2 {w : World} {base : Nat} {v : Value} {zs : List Int} (h : OwnI w base v zs) : ∃ a c n, v = .slice a n c /\ n = zs.length := by
 obtain ⟨_, h2⟩ := h
 rcases h2 with ⟨hv, h3⟩ | ⟨g, cap, cur, hv, hg, hh, _⟩
 ·exact ⟨none, 0, 0, hv, h3.symm⟩
 exact ⟨_, cap, _, hv, rfl⟩
end Go.Proofs.YtlhjiiifmfgnoaaGreat
namespace Go.Proofs.YtlhjiiifmfgnoaaGreat
open Go.RowKit Go.Joins
theorem fl_push (F : Nat -> List Value) (vs : List Value) (n : Nat) : (List.range (n + 1)).flatMap (fun k => if k = n then vs else F k) = (List.range n).flatMap F ++ vs := by
 rw [List.range_succ, List.flatMap_append]
 congr 1
 ·have : ∀ l : List Nat, (∀ x ∈ l, x < n) -> l.flatMap (fun k => if k = n then vs else F k) = l.flatMap F := by
   intro l
   induction l with
   | nil => intro _; rfl
   | cons x r ih =>
    intro h
    rw [List.flatMap_cons, List.flatMap_cons, ih (fun y hy => h y (by simp [hy]))]
    have := h x (by simp)
    rw [if_neg (by omega)]
  exact this _ (fun x hx => List.mem_range.1 hx)
 simp
theorem fl_len (F : Nat -> List Value) (s : Nat) : ∀ n, (∀ k, k < n -> (F k).length = s) -> ((List.range n).flatMap F).length = n * s
 | 0, _ => by simp
 | n + 1, h => by
  rw [List.range_succ, List.flatMap_append, List.length_append, fl_len F s n (fun k hk => h k (by omega))]
  simp [h n (by omega), Nat.add_mul]
theorem fl_at (F : Nat -> List Value) (s : Nat) : ∀ n, (∀ k, k < n -> (F k).length = s) -> ∀ k j, k < n -> j < s -> ((List.range n).flatMap F)[k * s + j]? = (F k)[j]?
 | 0, _, k, j, hk, _ => by omega
 | n + 1, h, k, j, hk, hj => by
  have hl := fl_len F s n (fun k hk => h k (by omega))
  rw [List.range_succ, List.flatMap_append]
  by_cases e : k = n
  ·subst e
   rw [List.getElem?_append_right (by omega), hl, Nat.add_sub_cancel_left]
   simp
  have hk' : k < n := by omega
  have : (k + 1) * s <= n * s := Nat.mul_le_mul_right s hk'
  rw [Nat.add_mul, Nat.one_mul] at this
  rw [List.getElem?_append_left (by omega)]
  exact fl_at F s n (fun k hk => h k (by omega)) k j hk' hj
def ElG (w : World) (base : Nat) (v : Value) (ts : List Tr) (vs : List Value) : Prop :=
 ∃ K : Nat -> Sk, ∀ i u, vs[i]? = some u -> Fit w (trs ts i) (K i) u /\ ∀ b, (K i).bl b -> base <= b /\ v.ownBlock ≠ some b
theorem ElG.kept {w w' : World} {base : Nat} {v v' : Value} {ts : List Tr} {vs : List Value} (h : ElG w base v ts vs) (hg : w.grownBy w' v.ownBlock) (hv : v'.ownBlock = v.ownBlock \/ v'.ownBlock = some w.heap.size) : ElG w' base v' ts vs := by
 obtain ⟨K, h⟩ := h
 refine ⟨K, fun i u hu => ⟨(h i u hu).1.same hg.size (fun b hb => hg.block b ((h i u hu).1.lt hb) (fun e => ((h i u hu).2 b hb).2 e.symm)), fun b hb => ⟨((h i u hu).2 b hb).1, ?_⟩⟩⟩
 rcases hv with e | e
 ·rw [e]; exact ((h i u hu).2 b hb).2
 rw [e]
 intro q
 have := (h i u hu).1.lt hb
 have := Option.some.inj q
 omega
def LsG (w : World) (base : Nat) (e : TypeId) (s : Nat) (v : Value) (n : Nat) (f : Nat -> List Tr) : Prop :=
 ∃ F : Nat -> List Value, w.ownsRow base e s v n ((List.range n).flatMap F) /\ ∀ k, k < n -> (F k).length = s /\ ElG w base v (f k) (F k)
theorem LsG.below {w w' : World} {base : Nat} {e : TypeId} {s n : Nat} {v : Value} {f : Nat -> List Tr} (h : LsG w base e s v n f) (hb : Below w.heap.size w w') : LsG w' base e s v n f := by
 obtain ⟨F, h1, h2⟩ := h
 refine ⟨F, ?_, fun k hk => ⟨(h2 k hk).1, ?_⟩⟩
 ·refine World.ownsRow.kept h1 (grown_below hb (some w.heap.size)) ?_
  cases e : v.ownBlock with
  | none => exact .inl rfl
  | some k => exact .inr (fun e2 => by have := (World.ownsRow.lt h1 k e).2; simp at e2; omega)
 obtain ⟨K, h3⟩ := (h2 k hk).2
 exact ⟨K, fun i u hu => ⟨(h3 i u hu).1.below hb, (h3 i u hu).2⟩⟩
theorem LsG.nil (w : World) (base : Nat) (e : TypeId) (s : Nat) (f : Nat -> List Tr) : LsG w base e s (.slice none 0 0) 0 f :=
 ⟨fun _ => [], ⟨by simp, .inl ⟨rfl, rfl⟩⟩, fun k hk => absurd hk (Nat.not_lt_zero _)⟩
theorem wpList_appG {w : World} {ops : Array Oper} {rest : List Oper} {o : Oper} {a : Act} {Q : Exit -> Act -> World -> Prop} (hgd : o.guard = none) (s x : Operand) (t e : TypeId) (sz by' : Nat) (z : Value)
 (ho : o.op = .call { callee := .builtin .append, args := #[s, x], argTypes := #[t, t] }) (ht : Tryz.prog.underlying t = some (.slice e)) (hinfo : (Tryz.prog.info? e).map (fun i => (i.zero, i.size, i.bytes)) = some (some z, sz, by')) (hzs : z.cells.size = sz) (hsz : 0 < sz) (hby : by' <= 10000)
 (base : Nat) (v : Value) (n : Nat) (f : Nat -> List Tr) (hs : a.eval s = v) (hown : LsG w base e sz v n f)
 (g c : Nat) (vs : List Value) (hx : a.eval x = .slice (some ⟨g, 0, none⟩) 1 c) (hvs : vs.length = sz) (hb : ∀ j u, vs[j]? = some u -> w.cell? ⟨g, j, none⟩ = some u) (h1 : ∀ u ∈ vs, u.oneCell' = true) (hel : ElG w base v (f n) vs) (hlen : n <= 2000000) (hbase : base <= w.heap.size)
 (h : ∀ v' w', LsG w' base e sz v' (n + 1) f -> w.grownBy w' v.ownBlock -> (∀ k, v.ownBlock = some k -> base <= k) -> wpList Tryz.prog ops Q rest (a.put o.dst v') w') : wpList Tryz.prog ops Q (o :: rest) a w := by
 obtain ⟨F, r1, r2⟩ := hown
 obtain ⟨i0, hi, hzz⟩ := Option.map_eq_some_iff.1 hinfo
 simp only [Prod.mk.injEq] at hzz
 obtain ⟨hz0, hz1, hz2⟩ := hzz
 refine wpList_append_own_at w hgd s x t ho base e i0 z sz by' ht hi hz0 hz1 hz2 hzs hsz v n ((List.range n).flatMap F) hs r1 ⟨g, 0, none⟩ 1 c vs hx (by rw [hvs]; simp) (fun j u hu => by
  have e1 : (⟨g, 0, none⟩ : Addr).add j = ⟨g, j, none⟩ := by unfold Addr.add; split <;> simp_all
  rw [e1]
  exact hb j u hu) h1 (by unfold maxLen; omega) (by have : (n + 1) * by' <= 2000001 * 10000 := Nat.mul_le_mul (by omega) hby; omega) hbase ?_
 intro v' w' k1 k2 _ k4
 refine h v' w' ⟨fun k => if k = n then vs else F k, ?_, fun k hk => ?_⟩ k2 (fun k hk => (World.ownsRow.lt r1 k hk).1)
 ·rw [fl_push]; exact k1
 by_cases e : k = n
 ·subst e
  simp only [if_true]
  exact ⟨hvs, hel.kept k2 k4⟩
 simp only [if_neg e]
 exact ⟨(r2 k (by omega)).1, (r2 k (by omega)).2.kept k2 k4⟩
theorem Own1.elG {w : World} {base lo hi : Nat} {v : Value} {ts : List Tr} {vs : List Value} (h : Own1 w lo hi ts vs) (hl : base <= lo) (hv : ∀ b, v.ownBlock = some b -> b < lo) : ElG w base v ts vs := by
 obtain ⟨K, h1, h2, h3, h4⟩ := h
 refine ⟨K, fun i u hu => ⟨h2 i u hu, fun b hb => ?_⟩⟩
 have hi' : i < ts.length := by rw [<- h1]; exact (List.getElem?_eq_some_iff.1 hu).1
 have := (h3 i hi').2 b hb
 exact ⟨by omega, fun e => by have := hv b e; omega⟩
end Go.Proofs.YtlhjiiifmfgnoaaGreat
namespace Go.Proofs.YtlhjiiifmfgnoaaGreat
open Go.RowKit Go.Joins
def ReqPst (w w' : World) (e : Ending) (kd pl nn wa : Int) (ws : List Int) (bs : List Bool) : Prop :=
 ∃ r1 r2 l1 l2 c1 c2, e = .returned (.agg (rqL kd pl nn wa r1 r2 l1 l2 c1 c2)) /\ l1 = ws.length /\ l2 = bs.length /\ OwnI w' w.heap.size (.slice r1 l1 c1) ws /\ OwnB w' w.heap.size (.slice r2 l2 c2) bs /\ Below w.heap.size w w'
theorem Blk.six2 {w : World} {g : Nat} {t : TypeId} {v0 v1 v2 v3 v4 v5 : Value} (h : Blk w g t #[v0, v1, v2, v3, v4, v5]) : (w.cell? ⟨g, 0, none⟩ = some v0 /\ w.cell? ⟨g, 1, none⟩ = some v1 /\ w.cell? ⟨g, 2, none⟩ = some v2 /\ w.cell? ⟨g, 3, none⟩ = some v3 /\ w.cell? ⟨g, 4, none⟩ = some v4 /\ w.cell? ⟨g, 5, none⟩ = some v5) /\ (w.frozen? ⟨g, 0, none⟩ = false /\ w.frozen? ⟨g, 1, none⟩ = false /\ w.frozen? ⟨g, 2, none⟩ = false /\ w.frozen? ⟨g, 3, none⟩ = false /\ w.frozen? ⟨g, 4, none⟩ = false /\ w.frozen? ⟨g, 5, none⟩ = false) :=
 ⟨⟨h.cell 0 rfl, h.cell 1 rfl, h.cell 2 rfl, h.cell 3 rfl, h.cell 4 rfl, h.cell 5 rfl⟩, ⟨h.fro 0, h.fro 1, h.fro 2, h.fro 3, h.fro 4, h.fro 5⟩⟩
theorem grown_below2 {B : Nat} {w0 w w' : World} {g : Nat} (hb : Below B w0 w) (hg : w.grownBy w' (some g)) (h1 : B <= g) (h2 : B <= w.heap.size) : Below B w0 w' :=
 hb.grown hg h2 (fun k hk => by have := Option.some.inj hk; omega)
theorem specCopyReq_q (kd pl nn wa : Int) (q1 q2 : Option Addr) (m1 m2 k1 k2 : Nat) (ws : List Int) (bs : List Bool) (w : World) (h1 : m1 = ws.length) (h2 : m2 = bs.length) (s1 : SlI w q1 ws) (s2 : SlB w q2 bs) (hl1 : ws.length <= 2000000) (hl2 : bs.length <= 2000000) :
 Calls Tryz.prog 24 #[.agg (rqL kd pl nn wa q1 q2 m1 m2 k1 k2)] w fun e w' => ReqPst w w' e kd pl nn wa ws bs := by
 obtain ⟨B, hB⟩ : ∃ B, B = w.heap.size := ⟨_, rfl⟩
 obtain ⟨W, hW⟩ : ∃ W, W = (w.alloc (.cells (rqL kd pl nn wa q1 q2 m1 m2 k1 k2) 39)).alloc (.cells #[.int .i64 0, .int .i64 0, .int .i64 0, .slice none 0 0, .slice none 0 0, .int .i64 0] 39) := ⟨_, rfl⟩
 have bW : Below w.heap.size w W := by rw [hW]; exact bel_nx (bel_alloc _ _) (bel_alloc _ _)
 have HW : Hid (Below w.heap.size w W /\ Blk W B 39 (rqL kd pl nn wa q1 q2 m1 m2 k1 k2) /\ Blk W (B + 1) 39 #[.int .i64 0, .int .i64 0, .int .i64 0, .slice none 0 0, .slice none 0 0, .int .i64 0] /\ w.heap.size <= W.heap.size) := ⟨bW, by rw [hW, hB]; exact (Blk.new w _ _).below (bel_alloc _ _), by rw [hW, hB]; have := Blk.new (w.alloc (.cells (rqL kd pl nn wa q1 q2 m1 m2 k1 k2) 39)) #[.int .i64 0, .int .i64 0, .int .i64 0, .slice none 0 0, .slice none 0 0, .int .i64 0] 39; simpa using this, bW.size⟩
 have HS : Hid (m1 = ws.length /\ m2 = bs.length /\ SlI w q1 ws /\ SlB w q2 bs /\ w.heap.size = B) := ⟨h1, h2, s1, s2, hB.symm⟩
 clear bW h1 h2 s1 s2
 go_enter Tryz.func24, Tryz.ntmps24
 go_upto_region 1 with fail
 rw [<- hW, <- hB]
 clear hW hB
 obtain ⟨⟨y0, y1, y2, y3, y4, y5⟩, _⟩ := (HW.out.2.1.below (bel_alloc W (.cells #[] 3))).six2
 go_upto_region 2 with (at_builtin; refine wpList_appIO rfl (.tmp 3) (.tmp 5) rfl w.heap.size (.slice (some ⟨W.heap.size, 0, none⟩) 0 0) [] rfl (newI W w.heap.size HW.out.2.2.2) q1 m1 k1 ws rfl HS.out.1 (HS.out.2.2.1.below (bel_nx HW.out.1 (bel_alloc _ _))) (by simp; omega) (by have := HW.out.2.2.2; simp; omega) ?_; intro v1 w1 O1 g1'; have g1 : (W.alloc (.cells #[] 3)).grownBy w1 (some W.heap.size) := g1'; clear g1'; have HU : Hid (OwnI w1 w.heap.size v1 ws /\ Below w.heap.size w w1 /\ Blk w1 B 39 (rqL kd pl nn wa q1 q2 m1 m2 k1 k2) /\ Blk w1 (B + 1) 39 #[.int .i64 0, .int .i64 0, .int .i64 0, .slice none 0 0, .slice none 0 0, .int .i64 0]) := ⟨by simpa using O1, grown_below2 (bel_nx HW.out.1 (bel_alloc _ _)) g1 HW.out.2.2.2 (by have := HW.out.2.2.2; simp; omega), (HW.out.2.1.below (bel_alloc _ _)).grown g1 (by have := HW.out.2.1.lt; intro e9; have := Option.some.inj e9; omega), (HW.out.2.2.1.below (bel_alloc _ _)).grown g1 (by have := HW.out.2.2.1.lt; intro e9; have := Option.some.inj e9; omega)⟩; clear O1 g1; obtain ⟨a1, c1, n1, hv1, hn1⟩ := ownI_shape2 HU.out.1; subst hv1; have HN1 : Hid (n1 = ws.length) := hn1; clear hn1; obtain ⟨⟨x0, x1, x2, x3, x4, x5⟩, ⟨f0, f1, f2, f3, f4, f5⟩⟩ := HU.out.2.2.1.six2)
 obtain ⟨W2, hW2⟩ : ∃ W2, W2 = w1.setCell ⟨B, 3, none⟩ (.slice a1 n1 c1) := ⟨_, rfl⟩
 have HV : Hid (OwnI W2 w.heap.size (.slice a1 n1 c1) ws /\ Below w.heap.size w W2 /\ Blk W2 B 39 (rqL kd pl nn wa a1 q2 n1 m2 c1 k2) /\ Blk W2 (B + 1) 39 #[.int .i64 0, .int .i64 0, .int .i64 0, .slice none 0 0, .slice none 0 0, .int .i64 0] /\ w.heap.size <= W2.heap.size) := by
  have hb : Below w.heap.size w W2 := by rw [hW2]; exact HU.out.2.1.setCell (p := ⟨B, 3, none⟩) (by show w.heap.size <= B; rw [HS.out.2.2.2.2]; exact Nat.le_refl _) _
  exact ⟨by rw [hW2]; exact row_setE HU.out.1 ⟨_, HU.out.2.2.1⟩ (by decide), hb, by rw [hW2]; have h9 := HU.out.2.2.1.set 3 (.slice a1 n1 c1); simpa using h9, by rw [hW2]; exact HU.out.2.2.2.setNe (by omega), hb.size⟩
 rw [<- hW2]
 clear hW2 HU x0 x1 x2 x3 x4 x5 f0 f1 f2 f3 f4 f5 y0 y1 y2 y3 y4 y5 HW
 obtain ⟨⟨y0, y1, y2, y3, y4, y5⟩, _⟩ := (HV.out.2.2.1.below (bel_alloc W2 (.cells #[] 4))).six2
 go_upto_region 3 with (at_builtin; refine wpList_appBO rfl (.tmp 8) (.tmp 10) rfl w.heap.size (.slice (some ⟨W2.heap.size, 0, none⟩) 0 0) [] rfl (newB W2 w.heap.size HV.out.2.2.2.2) q2 m2 k2 bs rfl HS.out.2.1 (HS.out.2.2.2.1.below (bel_nx HV.out.2.1 (bel_alloc _ _))) (by simp; omega) (by have := HV.out.2.2.2.2; simp; omega) ?_; intro v2 w2 O2 g2'; have g2 : (W2.alloc (.cells #[] 4)).grownBy w2 (some W2.heap.size) := g2'; clear g2'; have HU : Hid (OwnB w2 w.heap.size v2 bs /\ Below w.heap.size w w2 /\ Blk w2 B 39 (rqL kd pl nn wa a1 q2 n1 m2 c1 k2) /\ Blk w2 (B + 1) 39 #[.int .i64 0, .int .i64 0, .int .i64 0, .slice none 0 0, .slice none 0 0, .int .i64 0] /\ OwnI w2 w.heap.size (.slice a1 n1 c1) ws) := ⟨by simpa using O2, grown_below2 (bel_nx HV.out.2.1 (bel_alloc _ _)) g2 HV.out.2.2.2.2 (by have := HV.out.2.2.2.2; simp; omega), (HV.out.2.2.1.below (bel_alloc _ _)).grown g2 (by have := HV.out.2.2.1.lt; intro e9; have := Option.some.inj e9; omega), (HV.out.2.2.2.1.below (bel_alloc _ _)).grown g2 (by have := HV.out.2.2.2.1.lt; intro e9; have := Option.some.inj e9; omega), (OwnI.below HV.out.1 (bel_alloc _ _)).kept g2 (.inr (by intro e9; have := (World.ownsRow.lt HV.out.1 _ e9).2; simp at this))⟩; clear O2 g2; obtain ⟨a2, c2, n2, hv2, hn2⟩ := ownB_shape HU.out.1; subst hv2; have HN2 : Hid (n2 = bs.length) := hn2; clear hn2; obtain ⟨⟨x0, x1, x2, x3, x4, x5⟩, ⟨f0, f1, f2, f3, f4, f5⟩⟩ := HU.out.2.2.1.six2)
 obtain ⟨W3, hW3⟩ : ∃ W3, W3 = w2.setCell ⟨B, 4, none⟩ (.slice a2 n2 c2) := ⟨_, rfl⟩
 have HX : Hid (OwnI W3 w.heap.size (.slice a1 n1 c1) ws /\ OwnB W3 w.heap.size (.slice a2 n2 c2) bs /\ Below w.heap.size w W3 /\ Blk W3 B 39 (rqL kd pl nn wa a1 a2 n1 n2 c1 c2) /\ Blk W3 (B + 1) 39 #[.int .i64 0, .int .i64 0, .int .i64 0, .slice none 0 0, .slice none 0 0, .int .i64 0]) := by
  have hb : Below w.heap.size w W3 := by rw [hW3]; exact HU.out.2.1.setCell (p := ⟨B, 4, none⟩) (by show w.heap.size <= B; rw [HS.out.2.2.2.2]; exact Nat.le_refl _) _
  exact ⟨by rw [hW3]; exact row_setE HU.out.2.2.2.2 ⟨_, HU.out.2.2.1⟩ (by decide), by rw [hW3]; exact row_setE HU.out.1 ⟨_, HU.out.2.2.1⟩ (by decide), hb, by rw [hW3]; have h9 := HU.out.2.2.1.set 4 (.slice a2 n2 c2); simpa using h9, by rw [hW3]; exact HU.out.2.2.2.1.setNe (by omega)⟩
 rw [<- hW3]
 clear hW3 HU HV x0 x1 x2 x3 x4 x5 f0 f1 f2 f3 f4 f5 y0 y1 y2 y3 y4 y5
 obtain ⟨⟨y0, y1, y2, y3, y4, y5⟩, _⟩ := HX.out.2.2.2.1.six2
 obtain ⟨⟨x0, x1, x2, x3, x4, x5⟩, ⟨f0, f1, f2, f3, f4, f5⟩⟩ := HX.out.2.2.2.2.six2
 have HY : Hid (OwnI (setL W3 (B + 1) 0 (rqL kd pl nn wa a1 a2 n1 n2 c1 c2).toList) w.heap.size (.slice a1 n1 c1) ws /\ OwnB (setL W3 (B + 1) 0 (rqL kd pl nn wa a1 a2 n1 n2 c1 c2).toList) w.heap.size (.slice a2 n2 c2) bs /\ Below w.heap.size w (setL W3 (B + 1) 0 (rqL kd pl nn wa a1 a2 n1 n2 c1 c2).toList)) := ⟨row_stL HX.out.1 ⟨_, HX.out.2.2.2.2⟩ (by decide), row_stL HX.out.2.1 ⟨_, HX.out.2.2.2.2⟩ (by decide), setL_below (by have := HS.out.2.2.2.2; omega) _ _ _ HX.out.2.2.1⟩
 clear HX
 go_wp2
 refine bodyPost_ret (v := .agg (rqL kd pl nn wa a1 a2 n1 n2 c1 c2)) (by simp [results, Tryz.results24, go_sem, x0, x1, x2, x3, x4, x5]) rfl ⟨a1, a2, n1, n2, c1, c2, rfl, HN1.out, HN2.out, HY.out.1, HY.out.2.1, HY.out.2.2⟩
theorem specCopyReq_any (kd pl nn wa : Int) (q1 q2 : Option Addr) (m1 m2 k1 k2 : Nat) (ws : List Int) (bs : List Bool) (w : World) (h1 : m1 = ws.length) (h2 : m2 = bs.length) (s1 : SlI w q1 ws) (s2 : SlB w q2 bs) (hl1 : m1 <= 2000000) (hl2 : m2 <= 2000000) :
 Calls Tryz.prog 24 #[.agg (rqL kd pl nn wa q1 q2 m1 m2 k1 k2)] w fun e w' => RqP w w' e kd pl nn wa m1 m2 ws bs := by
 refine (specCopyReq_q kd pl nn wa q1 q2 m1 m2 k1 k2 ws bs w h1 h2 s1 s2 (by omega) (by omega)).mono ?_
 rintro e w' ⟨r1, r2, l1, l2, c1, c2, he, e1, e2, o1, o2, hb⟩
 obtain rfl : l1 = m1 := by omega
 obtain rfl : l2 = m2 := by omega
 exact ⟨r1, r2, c1, c2, he, o1, o2, hb⟩
def RespPst (w w' : World) (e : Ending) (kd fl pl nn : Int) (ws : List Int) (bs : List Bool) : Prop :=
 ∃ r1 r2 l1 l2 c1 c2, e = .returned (.agg (rpL kd fl pl nn r1 r2 l1 l2 c1 c2)) /\ l1 = ws.length /\ l2 = bs.length /\ OwnI w' w.heap.size (.slice r1 l1 c1) ws /\ OwnB w' w.heap.size (.slice r2 l2 c2) bs /\ Below w.heap.size w w'
theorem specCopyResp_q (kd fl pl nn : Int) (q1 q2 : Option Addr) (m1 m2 k1 k2 : Nat) (ws : List Int) (bs : List Bool) (w : World) (h1 : m1 = ws.length) (h2 : m2 = bs.length) (s1 : SlI w q1 ws) (s2 : SlB w q2 bs) (hl1 : ws.length <= 2000000) (hl2 : bs.length <= 2000000) :
 Calls Tryz.prog 88 #[.agg (rpL kd fl pl nn q1 q2 m1 m2 k1 k2)] w fun e w' => RespPst w w' e kd fl pl nn ws bs := by
 obtain ⟨B, hB⟩ : ∃ B, B = w.heap.size := ⟨_, rfl⟩
 obtain ⟨W, hW⟩ : ∃ W, W = (w.alloc (.cells (rpL kd fl pl nn q1 q2 m1 m2 k1 k2) 89)).alloc (.cells #[.int .i64 0, .int .i64 0, .int .i64 0, .int .i64 0, .slice none 0 0, .slice none 0 0] 89) := ⟨_, rfl⟩
 have bW : Below w.heap.size w W := by rw [hW]; exact bel_nx (bel_alloc _ _) (bel_alloc _ _)
 have HW : Hid (Below w.heap.size w W /\ Blk W B 89 (rpL kd fl pl nn q1 q2 m1 m2 k1 k2) /\ Blk W (B + 1) 89 #[.int .i64 0, .int .i64 0, .int .i64 0, .int .i64 0, .slice none 0 0, .slice none 0 0] /\ w.heap.size <= W.heap.size) := ⟨bW, by rw [hW, hB]; exact (Blk.new w _ _).below (bel_alloc _ _), by rw [hW, hB]; have := Blk.new (w.alloc (.cells (rpL kd fl pl nn q1 q2 m1 m2 k1 k2) 89)) #[.int .i64 0, .int .i64 0, .int .i64 0, .int .i64 0, .slice none 0 0, .slice none 0 0] 89; simpa using this, bW.size⟩
 have HS : Hid (m1 = ws.length /\ m2 = bs.length /\ SlI w q1 ws /\ SlB w q2 bs /\ w.heap.size = B) := ⟨h1, h2, s1, s2, hB.symm⟩
 clear bW h1 h2 s1 s2
 go_enter Tryz.func88, Tryz.ntmps88
 go_upto_region 1 with fail
 rw [<- hW, <- hB]
 clear hW hB
 obtain ⟨⟨y0, y1, y2, y3, y4, y5⟩, _⟩ := (HW.out.2.1.below (bel_alloc W (.cells #[] 3))).six2
 go_upto_region 2 with (at_builtin; refine wpList_appIO rfl (.tmp 3) (.tmp 5) rfl w.heap.size (.slice (some ⟨W.heap.size, 0, none⟩) 0 0) [] rfl (newI W w.heap.size HW.out.2.2.2) q1 m1 k1 ws rfl HS.out.1 (HS.out.2.2.1.below (bel_nx HW.out.1 (bel_alloc _ _))) (by simp; omega) (by have := HW.out.2.2.2; simp; omega) ?_; intro v1 w1 O1 g1'; have g1 : (W.alloc (.cells #[] 3)).grownBy w1 (some W.heap.size) := g1'; clear g1'; have HU : Hid (OwnI w1 w.heap.size v1 ws /\ Below w.heap.size w w1 /\ Blk w1 B 89 (rpL kd fl pl nn q1 q2 m1 m2 k1 k2) /\ Blk w1 (B + 1) 89 #[.int .i64 0, .int .i64 0, .int .i64 0, .int .i64 0, .slice none 0 0, .slice none 0 0]) := ⟨by simpa using O1, grown_below2 (bel_nx HW.out.1 (bel_alloc _ _)) g1 HW.out.2.2.2 (by have := HW.out.2.2.2; simp; omega), (HW.out.2.1.below (bel_alloc _ _)).grown g1 (by have := HW.out.2.1.lt; intro e9; have := Option.some.inj e9; omega), (HW.out.2.2.1.below (bel_alloc _ _)).grown g1 (by have := HW.out.2.2.1.lt; intro e9; have := Option.some.inj e9; omega)⟩; clear O1 g1; obtain ⟨a1, c1, n1, hv1, hn1⟩ := ownI_shape2 HU.out.1; subst hv1; have HN1 : Hid (n1 = ws.length) := hn1; clear hn1; obtain ⟨⟨x0, x1, x2, x3, x4, x5⟩, ⟨f0, f1, f2, f3, f4, f5⟩⟩ := HU.out.2.2.1.six2)
 obtain ⟨W2, hW2⟩ : ∃ W2, W2 = w1.setCell ⟨B, 4, none⟩ (.slice a1 n1 c1) := ⟨_, rfl⟩
 have HV : Hid (OwnI W2 w.heap.size (.slice a1 n1 c1) ws /\ Below w.heap.size w W2 /\ Blk W2 B 89 (rpL kd fl pl nn a1 q2 n1 m2 c1 k2) /\ Blk W2 (B + 1) 89 #[.int .i64 0, .int .i64 0, .int .i64 0, .int .i64 0, .slice none 0 0, .slice none 0 0] /\ w.heap.size <= W2.heap.size) := by
  have hb : Below w.heap.size w W2 := by rw [hW2]; exact HU.out.2.1.setCell (p := ⟨B, 4, none⟩) (by show w.heap.size <= B; rw [HS.out.2.2.2.2]; exact Nat.le_refl _) _
  exact ⟨by rw [hW2]; exact row_setE HU.out.1 ⟨_, HU.out.2.2.1⟩ (by decide), hb, by rw [hW2]; have h9 := HU.out.2.2.1.set 4 (.slice a1 n1 c1); simpa using h9, by rw [hW2]; exact HU.out.2.2.2.setNe (by omega), hb.size⟩
 rw [<- hW2]
 clear hW2 HU x0 x1 x2 x3 x4 x5 f0 f1 f2 f3 f4 f5 y0 y1 y2 y3 y4 y5 HW
 obtain ⟨⟨y0, y1, y2, y3, y4, y5⟩, _⟩ := (HV.out.2.2.1.below (bel_alloc W2 (.cells #[] 4))).six2
 go_upto_region 3 with (at_builtin; refine wpList_appBO rfl (.tmp 8) (.tmp 10) rfl w.heap.size (.slice (some ⟨W2.heap.size, 0, none⟩) 0 0) [] rfl (newB W2 w.heap.size HV.out.2.2.2.2) q2 m2 k2 bs rfl HS.out.2.1 (HS.out.2.2.2.1.below (bel_nx HV.out.2.1 (bel_alloc _ _))) (by simp; omega) (by have := HV.out.2.2.2.2; simp; omega) ?_; intro v2 w2 O2 g2'; have g2 : (W2.alloc (.cells #[] 4)).grownBy w2 (some W2.heap.size) := g2'; clear g2'; have HU : Hid (OwnB w2 w.heap.size v2 bs /\ Below w.heap.size w w2 /\ Blk w2 B 89 (rpL kd fl pl nn a1 q2 n1 m2 c1 k2) /\ Blk w2 (B + 1) 89 #[.int .i64 0, .int .i64 0, .int .i64 0, .int .i64 0, .slice none 0 0, .slice none 0 0] /\ OwnI w2 w.heap.size (.slice a1 n1 c1) ws) := ⟨by simpa using O2, grown_below2 (bel_nx HV.out.2.1 (bel_alloc _ _)) g2 HV.out.2.2.2.2 (by have := HV.out.2.2.2.2; simp; omega), (HV.out.2.2.1.below (bel_alloc _ _)).grown g2 (by have := HV.out.2.2.1.lt; intro e9; have := Option.some.inj e9; omega), (HV.out.2.2.2.1.below (bel_alloc _ _)).grown g2 (by have := HV.out.2.2.2.1.lt; intro e9; have := Option.some.inj e9; omega), (OwnI.below HV.out.1 (bel_alloc _ _)).kept g2 (.inr (by intro e9; have := (World.ownsRow.lt HV.out.1 _ e9).2; simp at this))⟩; clear O2 g2; obtain ⟨a2, c2, n2, hv2, hn2⟩ := ownB_shape HU.out.1; subst hv2; have HN2 : Hid (n2 = bs.length) := hn2; clear hn2; obtain ⟨⟨x0, x1, x2, x3, x4, x5⟩, ⟨f0, f1, f2, f3, f4, f5⟩⟩ := HU.out.2.2.1.six2)
 obtain ⟨W3, hW3⟩ : ∃ W3, W3 = w2.setCell ⟨B, 5, none⟩ (.slice a2 n2 c2) := ⟨_, rfl⟩
 have HX : Hid (OwnI W3 w.heap.size (.slice a1 n1 c1) ws /\ OwnB W3 w.heap.size (.slice a2 n2 c2) bs /\ Below w.heap.size w W3 /\ Blk W3 B 89 (rpL kd fl pl nn a1 a2 n1 n2 c1 c2) /\ Blk W3 (B + 1) 89 #[.int .i64 0, .int .i64 0, .int .i64 0, .int .i64 0, .slice none 0 0, .slice none 0 0]) := by
  have hb : Below w.heap.size w W3 := by rw [hW3]; exact HU.out.2.1.setCell (p := ⟨B, 5, none⟩) (by show w.heap.size <= B; rw [HS.out.2.2.2.2]; exact Nat.le_refl _) _
  exact ⟨by rw [hW3]; exact row_setE HU.out.2.2.2.2 ⟨_, HU.out.2.2.1⟩ (by decide), by rw [hW3]; exact row_setE HU.out.1 ⟨_, HU.out.2.2.1⟩ (by decide), hb, by rw [hW3]; have h9 := HU.out.2.2.1.set 5 (.slice a2 n2 c2); simpa using h9, by rw [hW3]; exact HU.out.2.2.2.1.setNe (by omega)⟩
 rw [<- hW3]
 clear hW3 HU HV x0 x1 x2 x3 x4 x5 f0 f1 f2 f3 f4 f5 y0 y1 y2 y3 y4 y5
 obtain ⟨⟨y0, y1, y2, y3, y4, y5⟩, _⟩ := HX.out.2.2.2.1.six2
 obtain ⟨⟨x0, x1, x2, x3, x4, x5⟩, ⟨f0, f1, f2, f3, f4, f5⟩⟩ := HX.out.2.2.2.2.six2
 have HY : Hid (OwnI (setL W3 (B + 1) 0 (rpL kd fl pl nn a1 a2 n1 n2 c1 c2).toList) w.heap.size (.slice a1 n1 c1) ws /\ OwnB (setL W3 (B + 1) 0 (rpL kd fl pl nn a1 a2 n1 n2 c1 c2).toList) w.heap.size (.slice a2 n2 c2) bs /\ Below w.heap.size w (setL W3 (B + 1) 0 (rpL kd fl pl nn a1 a2 n1 n2 c1 c2).toList)) := ⟨row_stL HX.out.1 ⟨_, HX.out.2.2.2.2⟩ (by decide), row_stL HX.out.2.1 ⟨_, HX.out.2.2.2.2⟩ (by decide), setL_below (by have := HS.out.2.2.2.2; omega) _ _ _ HX.out.2.2.1⟩
 clear HX
 go_wp2
 refine bodyPost_ret (v := .agg (rpL kd fl pl nn a1 a2 n1 n2 c1 c2)) (by simp [results, Tryz.results88, go_sem, x0, x1, x2, x3, x4, x5]) rfl ⟨a1, a2, n1, n2, c1, c2, rfl, HN1.out, HN2.out, HY.out.1, HY.out.2.1, HY.out.2.2⟩
theorem specCopyResp_any (kd fl pl nn : Int) (q1 q2 : Option Addr) (m1 m2 k1 k2 : Nat) (ws : List Int) (bs : List Bool) (w : World) (h1 : m1 = ws.length) (h2 : m2 = bs.length) (s1 : SlI w q1 ws) (s2 : SlB w q2 bs) (hl1 : m1 <= 2000000) (hl2 : m2 <= 2000000) :
 Calls Tryz.prog 88 #[.agg (rpL kd fl pl nn q1 q2 m1 m2 k1 k2)] w fun e w' => RrP w w' e kd fl pl nn m1 m2 ws bs := by
 refine (specCopyResp_q kd fl pl nn q1 q2 m1 m2 k1 k2 ws bs w h1 h2 s1 s2 (by omega) (by omega)).mono ?_
 rintro e w' ⟨r1, r2, l1, l2, c1, c2, he, e1, e2, o1, o2, hb⟩
 obtain rfl : l1 = m1 := by omega
 obtain rfl : l2 = m2 := by omega
 exact ⟨r1, r2, c1, c2, he, o1, o2, hb⟩
theorem l10CopyReq_m (X : VQ) (a1 : Option Addr) (l1 c1 : Nat) (a2 : Option Addr) (l2 c2 : Nat) (w : World) (r1 : Rd w 0 (intsT X.ws) (.slice a1 l1 c1)) (r2 : Rd w 0 (boolsT X.bs) (.slice a2 l2 c2)) (hz : szT 6 (trs (qT X)) <= 1048576) :
 Calls Tryz.prog 24 #[.agg (qL X a1 l1 c1 a2 l2 c2).toArray] w fun e w' => ∃ b1 d1 b2 d2, e = .returned (.agg (qL X b1 l1 d1 b2 l2 d2).toArray) /\ Own1 w' w.heap.size w'.heap.size (qT X) (qL X b1 l1 d1 b2 l2 d2) /\ Below w.heap.size w w' := by
 rw [szT_q] at hz
 obtain ⟨a9, c9, h9, -, hm1, hs1⟩ := r1.ints
 simp only [Value.slice.injEq] at h9
 obtain ⟨rfl, rfl, rfl⟩ := h9
 obtain ⟨a9, c9, h9, -, hm2, hs2⟩ := r2.bools
 simp only [Value.slice.injEq] at h9
 obtain ⟨rfl, rfl, rfl⟩ := h9
 refine (specCopyReq_any X.kd X.pl X.n X.wa a1 a2 _ _ c1 c2 X.ws X.bs w rfl rfl hs1 hs2 (by omega) (by omega)).mono ?_
 rintro e w' ⟨g1, g2, d1, d2, rfl, h1, h2, h3⟩
 exact ⟨_, _, _, _, rfl, VQ.own h1 h2, h3⟩
theorem l12CopyResp_m (X : VA) (a1 : Option Addr) (l1 c1 : Nat) (a2 : Option Addr) (l2 c2 : Nat) (w : World) (r1 : Rd w 0 (intsT X.ws) (.slice a1 l1 c1)) (r2 : Rd w 0 (boolsT X.bs) (.slice a2 l2 c2)) (hz : szT 6 (trs (aT X)) <= 1048576) :
 Calls Tryz.prog 88 #[.agg (aL X a1 l1 c1 a2 l2 c2).toArray] w fun e w' => ∃ b1 d1 b2 d2, e = .returned (.agg (aL X b1 l1 d1 b2 l2 d2).toArray) /\ Own1 w' w.heap.size w'.heap.size (aT X) (aL X b1 l1 d1 b2 l2 d2) /\ Below w.heap.size w w' := by
 rw [szT_a] at hz
 obtain ⟨a9, c9, h9, -, hm1, hs1⟩ := r1.ints
 simp only [Value.slice.injEq] at h9
 obtain ⟨rfl, rfl, rfl⟩ := h9
 obtain ⟨a9, c9, h9, -, hm2, hs2⟩ := r2.bools
 simp only [Value.slice.injEq] at h9
 obtain ⟨rfl, rfl, rfl⟩ := h9
 refine (specCopyResp_any X.kd X.fl X.pl X.n a1 a2 _ _ c1 c2 X.ws X.bs w rfl rfl hs1 hs2 (by omega) (by omega)).mono ?_
 rintro e w' ⟨g1, g2, d1, d2, rfl, h1, h2, h3⟩
 exact ⟨_, _, _, _, rfl, VA.own h1 h2, h3⟩
end Go.Proofs.YtlhjiiifmfgnoaaGreat
namespace Go.Proofs.YtlhjiiifmfgnoaaGreat
open Go.RowKit Go.Joins
theorem LsG.new (u : World) (base : Nat) (e : TypeId) (s : Nat) (f : Nat -> List Tr) (hb : base <= u.heap.size) : LsG (u.alloc (.cells #[] e)) base e s (.slice (some ⟨u.heap.size, 0, none⟩) 0 0) 0 f :=
 ⟨fun _ => [], ⟨by simp, .inr ⟨u.heap.size, 0, #[], rfl, hb, Blk.new u #[] e, by simp, by simp, by simp, by simp⟩⟩, fun k hk => absurd hk (Nat.not_lt_zero _)⟩
theorem LsG.lt {w : World} {base : Nat} {e : TypeId} {s n : Nat} {v : Value} {f : Nat -> List Tr} (h : LsG w base e s v n f) : ∀ k, v.ownBlock = some k -> base <= k /\ k < w.heap.size := by
 obtain ⟨F, h1, _⟩ := h
 exact fun k hk => World.ownsRow.lt h1 k hk
theorem l13CopyTold_m (n : Nat) (f : Nat -> VA) (a : Option Addr) (n' cap : Nat) (w : World) (hs : Rd w 0 (.list 6 n (fun k => trs (aT (f k)))) (.slice a n' cap)) (hz : (Tr.list 6 n (fun k => trs (aT (f k)))).sz <= 1048576) :
 Calls Tryz.prog 71 #[.slice a n' cap] w fun e w' => ∃ v, e = .returned v /\ LsG w' w.heap.size 89 6 v n (fun k => aT (f k)) /\ Below w.heap.size w w' := by
 obtain ⟨a9, c9, h9, -, hn⟩ := hs.shape
 simp only [Value.slice.injEq] at h9
 obtain ⟨-, rfl, -⟩ := h9
 clear a9 c9
 have hn1 : n' <= 1048576 := by rw [Tr.sz_list] at hz; omega
 have HZ : Hid (∀ k, k < n' -> szT 6 (trs (aT (f k))) <= 1048576) := by
  show ∀ k, k < n' -> szT 6 (trs (aT (f k))) <= 1048576
  intro k hk
  rw [Tr.sz_list] at hz
  have := sumN_at (fun k => szT 6 (trs (aT (f k)))) hk
  omega
 have HS : Hid (Rd w 0 (.list 6 n' (fun k => trs (aT (f k)))) (.slice a n' cap) /\ n' <= maxLen) := ⟨hs, hn⟩
 clear hs hz hn
 go_enter Tryz.func71, Tryz.ntmps71
 go_wp2
 go_loopw [3, 4] (fun s i wr => ∃ (k : Nat), k <= n' /\ i = .int .i64 k /\ LsG wr w.heap.size 89 6 s k (fun i => aT (f i)) /\ Below w.heap.size w wr) (fun _ i _ => n' - (intOf i).toNat)
 case atStart => exact ⟨0, Nat.zero_le _, rfl, LsG.new _ _ _ _ _ (Nat.le_refl _), (Below.refl _ _).alloc (Nat.le_refl _) _⟩
 case round =>
  obtain ⟨k, hk, rfl, hl, hb⟩ := hrel
  by_cases hlt : k < n'
  ·have hi : (k : Int) < (n' : Int) := by omega
   obtain ⟨b, off, vs, rfl, _, hb0, hlen, hr, hrd⟩ := (HS.out.1.below hb).at hlt
   obtain ⟨a1, c1, a2, c2, rfl, r1, r2⟩ := VA.cells hrd hlen
   clear hlen hrd
   have d09 : wr.cell? ⟨b, off + k * 6, none⟩ = _ := hr 0 _ rfl
   have d19 : wr.cell? ⟨b, off + k * 6 + 1, none⟩ = _ := hr 1 _ rfl
   have d29 : wr.cell? ⟨b, off + k * 6 + 2, none⟩ = _ := hr 2 _ rfl
   have d39 : wr.cell? ⟨b, off + k * 6 + 3, none⟩ = _ := hr 3 _ rfl
   have d49 : wr.cell? ⟨b, off + k * 6 + 4, none⟩ = _ := hr 4 _ rfl
   have d59 : wr.cell? ⟨b, off + k * 6 + 5, none⟩ = _ := hr 5 _ rfl
   have HK : Hid (LsG wr w.heap.size 89 6 u3 k (fun i => aT (f i)) /\ Below w.heap.size w wr /\ Rd wr 0 (intsT (f k).ws) (.slice a1 ((f k).ws.length) c1) /\ Rd wr 0 (boolsT (f k).bs) (.slice a2 ((f k).bs.length) c2)) := ⟨hl, hb, r1, r2⟩
   clear hl hb hr hb0 r1 r2
   go_wp2_with fail
   refine (l12CopyResp_m (f k) a1 ((f k).ws.length) c1 a2 ((f k).bs.length) c2 _ HK.out.2.2.1 HK.out.2.2.2 (HZ.out k hlt)).mono ?_
   rintro e w1 ⟨b1, d1, b2, d2, rfl, q1, hb1⟩
   have H1 : Hid (LsG w1 w.heap.size 89 6 u3 k (fun i => aT (f i)) /\ Own1 w1 wr.heap.size w1.heap.size (aT (f k)) (aL (f k) b1 ((f k).ws.length) d1 b2 ((f k).bs.length) d2) /\ Below w.heap.size w w1 /\ (∀ j, u3.ownBlock = some j -> j < wr.heap.size) /\ w.heap.size <= wr.heap.size /\ w.heap.size <= w1.heap.size) := ⟨HK.out.1.below hb1, q1, bel_nx HK.out.2.1 hb1, fun j hj => (HK.out.1.lt j hj).2, HK.out.2.1.size, (bel_nx HK.out.2.1 hb1).size⟩
   clear HK q1 hb1 d09 d19 d29 d39 d49 d59
   go_wp2_with (at_builtin; refine wpList_appG rfl (.tmp 12) (.tmp 18) 59 89 6 80 (.agg #[.int .i64 0, .int .i64 0, .int .i64 0, .int .i64 0, .slice none 0 0, .slice none 0 0]) rfl Tryz.underlying59 (by kernel_rfl) rfl (by decide) (by decide) w.heap.size u3 k (fun i => aT (f i)) rfl (H1.out.1.below (bel_alloc _ _)) w1.heap.size 1 (aL (f k) b1 ((f k).ws.length) d1 b2 ((f k).bs.length) d2) rfl rfl (fun j u hu => (Blk.new w1 (aL (f k) b1 ((f k).ws.length) d1 b2 ((f k).bs.length) d2).toArray 89).cell j (by simpa using hu)) (fun u hu => by simp at hu; rcases hu with rfl | rfl | rfl | rfl | rfl | rfl <;> rfl) ((H1.out.2.1.below (bel_alloc _ _) (Nat.le_refl _)).elG H1.out.2.2.2.2.1 H1.out.2.2.2.1) (by omega) (by have := H1.out.2.2.2.2.2; simp; omega) ?_; intro v' w' L' g' k'; have H2 : Hid (LsG w' w.heap.size 89 6 v' (k + 1) (fun i => aT (f i)) /\ Below w.heap.size w w') := ⟨L', (bel_nx H1.out.2.2.1 (bel_alloc _ _)).grown g' (by have := H1.out.2.2.2.2.2; simp; omega) k'⟩; clear L' g' k' H1)
   go_roundw
   case rel =>
    exact ⟨k + 1, by omega, by go_num, H2.out.1, H2.out.2⟩
   case measure => simp [intOf]; omega
  have hi : ¬ (k : Int) < (n' : Int) := by omega
  have e9 : k = n' := by omega
  subst e9
  have HR : Hid (LsG wr w.heap.size 89 6 u3 k (fun i => aT (f i)) /\ Below w.heap.size w wr) := ⟨hl, hb⟩
  clear hl hb
  go_wp2
  go_ret
  exact ⟨_, rfl, HR.out.1, HR.out.2⟩
end Go.Proofs.YtlhjiiifmfgnoaaGreat
namespace Go.Proofs.YtlhjiiifmfgnoaaGreat
open Go.RowKit
end Go.Proofs.YtlhjiiifmfgnoaaGreat
namespace Go.Proofs.YtlhjiiifmfgnoaaGreat
open Go.RowKit
theorem getD_eq {l : Array Bool} {i : Nat} (h : i < l.size) (x y : Bool) : l.getD i x = l.getD i y := by
 simp [Array.getD, h]
theorem count_set (l : List Bool) (i : Nat) (h : l[i]? = some false) : (l.set i true).count false + 1 = l.count false := by
 induction l generalizing i with
 | nil => simp at h
 | cons x r ih =>
  cases i with
  | zero => simp at h; subst h; simp
  | succ i => simp at h; have := ih i h; cases x <;> simp <;> omega
theorem ready_mem {md : Region.Mode} {ops : Array Oper} {l : Array Bool} {i : Nat} (h : i ∈ Region.ready md ops l) :
 i < ops.size /\ l.getD i true = false /\ ∀ o, ops[i]? = some o -> ∀ e ∈ o.after, Region.binds md e = true -> l.getD e.on false = true := by
 unfold Region.ready at h
 rw [List.mem_filter] at h
 obtain ⟨h1, h2⟩ := h
 simp only [Bool.and_eq_true, Bool.not_eq_true'] at h2
 refine ⟨List.mem_range.1 h1, h2.1, fun o ho e he hb => ?_⟩
 have h3 := h2.2
 rw [ho] at h3
 simp only [Option.map_some, Option.getD_some, Array.all_eq_true_iff_forall_mem] at h3
 have h4 := h3 e he
 simpa [hb] using h4
theorem ready_of {md : Region.Mode} {ops : Array Oper} {l : Array Bool} {i : Nat} {o : Oper} (hi : i < ops.size) (ho : ops[i]? = some o) (hl : l.getD i true = false) (hd : ∀ e ∈ o.after, Region.binds md e = true -> l.getD e.on false = true) : i ∈ Region.ready md ops l := by
 unfold Region.ready
 rw [List.mem_filter]
 refine ⟨List.mem_range.2 hi, ?_⟩
 simp only [Bool.and_eq_true, Bool.not_eq_true']
 refine ⟨hl, ?_⟩
 rw [ho]
 simp only [Option.map_some, Option.getD_some, Array.all_eq_true_iff_forall_mem]
 intro e he
 cases hb : Region.binds md e
 ·rfl
 simpa using hd e he hb
def ordB (md : Region.Mode) (ops : Array Oper) : Bool := (List.range ops.size).all fun i => ((ops[i]?).map (·.after.all fun e => !Region.binds md e || decide (e.on < i))).getD true
theorem ordB_of {md : Region.Mode} {ops : Array Oper} (h : ordB md ops = true) : ∀ i o, ops[i]? = some o -> ∀ e ∈ o.after, Region.binds md e = true -> e.on < i := by
 intro i o ho e he hb
 unfold ordB at h
 rw [List.all_eq_true] at h
 have hi : i < ops.size := (Array.getElem?_eq_some_iff.1 ho).1
 have h1 := h i (List.mem_range.2 hi)
 rw [ho] at h1
 simp only [Option.map_some, Option.getD_some, Array.all_eq_true_iff_forall_mem] at h1
 have h2 := h1 e he
 simpa [hb] using h2
theorem wpAny_inv {P : Program} {ops : Array Oper} {Q : Exit -> Act -> World -> Prop} {md : Region.Mode} (Inv : Array Bool -> Act -> World -> Prop)
 (hordB : ordB md ops = true)
 (hend : ∀ l a w, Inv l a w -> (∀ i, i < ops.size -> l.getD i true = true) -> Q .normal a w)
 (hstep : ∀ l a w i o, Inv l a w -> ops[i]? = some o -> l.getD i true = false -> (∀ e ∈ o.after, Region.binds md e = true -> l.getD e.on false = true) ->
  ∀ K : Act -> World -> Prop, (∀ a w, Inv (l.setIfInBounds i true) a w -> K a w) -> if Region.wanted o (yielded ops a.tmps) = true then Oper.wp P o a w K Q else K (a.put o.dst undef) w) :
 ∀ (fuel : Nat) (l : Array Bool) (a : Act) (w : World), l.size = ops.size -> l.toList.count false <= fuel -> Inv l a w -> wpAny P md ops Q fuel l a w := by
 have hord := ordB_of hordB
 have hall : ∀ l : Array Bool, l.size = ops.size -> Region.ready md ops l = [] -> ∀ i, i < ops.size -> l.getD i true = true := by
  intro l hs hr i
  induction i using Nat.strongRecOn with
  | ind i ih =>
   intro hi
   cases hl : l.getD i true
   ·obtain ⟨o, ho⟩ : ∃ o, ops[i]? = some o := ⟨ops[i], by simp [hi]⟩
    have : i ∈ Region.ready md ops l := ready_of hi ho hl (fun e he hb => by
     have h1 := hord i o ho e he hb
     rw [getD_eq (by omega) false true]
     exact ih e.on h1 (by omega))
    rw [hr] at this
    simp at this
   rfl
 intro fuel
 induction fuel with
 | zero =>
  intro l a w hs hc hI
  have hr : Region.ready md ops l = [] := by
   apply List.eq_nil_iff_forall_not_mem.2
   intro i hi
   obtain ⟨h1, h2, _⟩ := ready_mem hi
   have h3 : l.toList[i]? = some false := by
    have h4 : i < l.size := by omega
    rw [Array.getElem?_toList]
    simp [Array.getD, h4] at h2
    simp [h4, h2]
   have := count_set l.toList i h3
   omega
  exact ⟨hr, hend l a w hI (hall l hs hr)⟩
 | succ fuel ih =>
  intro l a w hs hc hI
  refine ⟨fun hr => hend l a w hI (hall l hs hr), fun i hi => ?_⟩
  obtain ⟨h1, h2, h3⟩ := ready_mem hi
  obtain ⟨o, ho⟩ : ∃ o, ops[i]? = some o := ⟨ops[i], by simp [h1]⟩
  refine wpOp_step ho (fun K' hK' => hstep l a w i o hI ho h2 (h3 o ho) K' (fun a' w' hI' => hK' a' w' (ih _ a' w' (by simpa using hs) ?_ hI')))
  have h4 : l.toList[i]? = some false := by
   have h5 : i < l.size := by omega
   rw [Array.getElem?_toList]
   simp [Array.getD, h5] at h2
   simp [h5, h2]
  have := count_set l.toList i h4
  rw [Array.toList_setIfInBounds]
  omega
end Go.Proofs.YtlhjiiifmfgnoaaGreat
namespace Go.Proofs.YtlhjiiifmfgnoaaGreat
open Go.RowKit
def dstOf (ops : Array Oper) (i : Nat) : Option Tmp := (ops[i]?).bind (·.dst)
def dstB (ops : Array Oper) (n : Nat) : Bool :=
 (List.range ops.size).all fun i => match dstOf ops i with
  | some d => decide (d < n) && (List.range ops.size).all fun j => decide (j = i) || decide (dstOf ops j ≠ some d)
  | none => false
def isDst (ops : Array Oper) (s : Nat) : Bool := (List.range ops.size).any fun i => decide (dstOf ops i = some s)
def putsL (a : Act) : Nat -> List Oper -> (Nat -> Value) -> Act
 | _, [], _ => a
 | i, o :: os, vs => putsL (a.put o.dst (vs i)) (i + 1) os vs
def wantV (ops : Array Oper) (o : Oper) (ρ : Operand -> Value) : Bool :=
 match o.guard with
 | none => true
 | some (j, want) => match dstOf ops j with
  | some d => (match ρ (.tmp d) with | .bool b => b == want | _ => false)
  | none => false
def StpV (P : Program) (ops : Array Oper) (Φ : Nat -> Value -> World -> Prop) (R : World -> Prop) (i : Nat) (o : Oper) (ρ : Operand -> Value) (u : World) : Prop :=
 (wantV ops o ρ = true /\ ((∃ v u', (execOp ρ o).run P u = .ok (.value v) u' /\ Φ i v u' /\ R u' /\ Below u.heap.size u u') \/ (∃ f args, (execOp ρ o).run P u = .ok (.enter f args) u /\ Calls P f args u fun e u' => ∃ v, e = .returned v /\ Φ i v u' /\ R u' /\ Below u.heap.size u u')))
 \/ (wantV ops o ρ = false /\ Φ i undef u)
structure InvV (ops : Array Oper) (Φ : Nat -> Value -> World -> Prop) (R : World -> Prop) (a0 : Act) (l : Array Bool) (a : Act) (u : World) : Prop where
 r : R u
 ls : l.size = ops.size
 df : a.defers = a0.defers
 sz : a.tmps.size = a0.tmps.size
 old : ∀ s, (∀ i d, dstOf ops i = some d -> l.getD i false = true -> d ≠ s) -> a.tmps.getD s undef = a0.tmps.getD s undef
 val : ∀ i d, dstOf ops i = some d -> l.getD i false = true -> Φ i (a.tmps.getD d undef) u
theorem dstB_of {ops : Array Oper} {n : Nat} (h : dstB ops n = true) {i : Nat} (hi : i < ops.size) : ∃ d, dstOf ops i = some d /\ d < n /\ ∀ j, j < ops.size -> dstOf ops j = some d -> j = i := by
 unfold dstB at h
 rw [List.all_eq_true] at h
 have h1 := h i (List.mem_range.2 hi)
 cases hd : dstOf ops i with
 | none => rw [hd] at h1; cases h1
 | some d =>
  rw [hd] at h1
  simp only [Bool.and_eq_true, decide_eq_true_eq, List.all_eq_true, Bool.or_eq_true] at h1
  refine ⟨d, rfl, h1.1, fun j hj e => ?_⟩
  rcases h1.2 j (List.mem_range.2 hj) with h2 | h2
  ·exact h2
  exact absurd e h2
theorem getD_set {l : Array Bool} {i j : Nat} (hi : i < l.size) : (l.setIfInBounds i true).getD j false = if j = i then true else l.getD j false := by
 simp only [Array.getD_eq_getD_getElem?, Array.getElem?_setIfInBounds]
 by_cases e : j = i
 ·subst e; simp [hi]
 rw [if_neg (Ne.symm e), if_neg e]
theorem getD_put {a : Act} {d s : Nat} {v : Value} (hd : d < a.tmps.size) : (a.put (some d) v).tmps.getD s undef = if s = d then v else a.tmps.getD s undef := by
 show (a.tmps.setIfInBounds d v).getD s undef = _
 simp only [Array.getD_eq_getD_getElem?, Array.getElem?_setIfInBounds]
 by_cases e : s = d
 ·subst e; simp [hd]
 rw [if_neg (Ne.symm e), if_neg e]
theorem InvV.next {ops : Array Oper} {Φ : Nat -> Value -> World -> Prop} {R : World -> Prop} {a0 : Act} {l : Array Bool} {a : Act} {u u' : World} (h : InvV ops Φ R a0 l a u) (hB : dstB ops a0.tmps.size = true)
 (hmono : ∀ i v u u', Φ i v u -> Below u.heap.size u u' -> Φ i v u') {i : Nat} {o : Oper} (ho : ops[i]? = some o) {v : Value} (hv : Φ i v u') (hr : R u') (hb : Below u.heap.size u u') :
 InvV ops Φ R a0 (l.setIfInBounds i true) (a.put o.dst v) u' := by
 have hi : i < ops.size := (Array.getElem?_eq_some_iff.1 ho).1
 obtain ⟨d, hd, hlt, hun⟩ := dstB_of hB hi
 have hod : o.dst = some d := by simpa [dstOf, ho] using hd
 rw [hod]
 have hlt' : d < a.tmps.size := by rw [h.sz]; exact hlt
 have hil : i < l.size := by rw [h.ls]; exact hi
 refine ⟨hr, by simpa using h.ls, h.df, by simpa [Act.put] using h.sz, fun s hs => ?_, fun j e hj hl => ?_⟩
 ·have hne : d ≠ s := hs i d hd (by rw [getD_set hil, if_pos rfl])
  rw [getD_put hlt', if_neg (Ne.symm hne)]
  exact h.old s (fun j e hj hl => hs j e hj (by rw [getD_set hil]; split; rfl; exact hl))
 have hjs : j < ops.size := by
  cases hoj : ops[j]? with
  | none => rw [dstOf, hoj] at hj; cases hj
  | some o' => exact (Array.getElem?_eq_some_iff.1 hoj).1
 rw [getD_put hlt']
 by_cases e1 : e = d
 ·subst e1
  obtain rfl := hun j hjs hj
  rw [if_pos rfl]
  exact hv
 rw [if_neg e1]
 have e2 : j ≠ i := fun e2 => by subst e2; rw [hd] at hj; exact e1 (Option.some.inj hj).symm
 rw [getD_set hil, if_neg e2] at hl
 exact hmono _ _ _ _ (h.val j e hj hl) hb
theorem putsL_eq {a : Act} : ∀ (os : List Oper) (k : Nat) (a' : Act) (vs : Nat -> Value), a'.defers = a.defers -> a'.tmps.size = a.tmps.size -> (∀ (j : Nat) (o : Oper) (d : Nat), os[j]? = some o -> o.dst = some d -> vs (k + j) = a.tmps.getD d undef) ->
 (∀ s, a'.tmps.getD s undef = a.tmps.getD s undef \/ ∃ (j : Nat) (o : Oper), os[j]? = some o /\ o.dst = some s) -> (∀ (j : Nat) (o : Oper), os[j]? = some o -> ∃ d, o.dst = some d /\ d < a.tmps.size) -> putsL a' k os vs = a
 | [], k, a', vs, h1, h2, _, h4, _ => by
  have e : a'.tmps = a.tmps := by
   apply Array.ext h2
   intro i hi1 hi2
   rcases h4 i with h | ⟨j, o, h, _⟩
   ·simpa [Array.getD, hi1, hi2] using h
   simp at h
  cases a'; cases a
  simp only at e h1
  subst e h1
  rfl
 | o :: os, k, a', vs, h1, h2, h3, h4, h5 => by
  obtain ⟨d, hd, hlt⟩ := h5 0 o rfl
  show putsL (a'.put o.dst (vs k)) (k + 1) os vs = a
  rw [hd]
  refine putsL_eq os (k + 1) _ vs h1 (by simpa [Act.put] using h2) (fun j o' d' ho hd' => by rw [show k + 1 + j = k + (j + 1) by omega]; exact h3 (j + 1) o' d' (by simpa using ho) hd') (fun s => ?_) (fun j o' ho => h5 (j + 1) o' (by simpa using ho))
  rw [getD_put (by rw [h2]; exact hlt)]
  by_cases e : s = d
  ·subst e
   rw [if_pos rfl]
   exact .inl (by simpa using h3 0 o s rfl hd)
  rw [if_neg e]
  rcases h4 s with h | ⟨j, o', ho, hd'⟩
  ·exact .inl h
  cases j with
  | zero => simp at ho; subst ho; rw [hd] at hd'; exact absurd (Option.some.inj hd').symm e
  | succ j => exact .inr ⟨j, o', by simpa using ho, hd'⟩
theorem wanted_eq {ops : Array Oper} {a : Act} {o : Oper} (h : ∀ j d, dstOf ops j = some d -> d < a.tmps.size) : Region.wanted o (yielded ops a.tmps) = wantV ops o a.eval := by
 unfold Region.wanted wantV
 cases o.guard with
 | none => rfl
 | some p =>
  obtain ⟨j, want⟩ := p
  have hy : yielded ops a.tmps j = match dstOf ops j with
   | some d => (match a.eval (.tmp d) with | .bool b => some b | _ => none)
   | none => none := by
   unfold yielded dstOf
   cases hd : (ops[j]?).bind (·.dst) with
   | none => rfl
   | some d =>
    have hlt := h j d hd
    have e : (some d).bind (fun t => a.tmps[t]?) = some (a.eval (.tmp d)) := by
     show a.tmps[d]? = some (a.tmps.getD d undef)
     simp [Array.getD, hlt]
    rw [e]
    simp only
    generalize a.eval (.tmp d) = x
    cases x <;> rfl
  show (yielded ops a.tmps j == some want) = (match dstOf ops j with
   | some d => (match a.eval (.tmp d) with | .bool b => b == want | _ => false)
   | none => false)
  rw [hy]
  cases dstOf ops j with
  | none => rfl
  | some d =>
   simp only
   generalize a.eval (.tmp d) = x
   cases x <;> simp
theorem wpAny_vals {P : Program} {ops : Array Oper} {Q : Exit -> Act -> World -> Prop} {md : Region.Mode} {a0 : Act} {w0 : World} (R : World -> Prop) (Φ : Nat -> Value -> World -> Prop)
 (hordB : ordB md ops = true) (hB : dstB ops a0.tmps.size = true) (hmono : ∀ i v u u', Φ i v u -> Below u.heap.size u u' -> Φ i v u') (h0 : R w0)
 (hend : ∀ (vs : Nat -> Value) u, R u -> (∀ i, i < ops.size -> Φ i (vs i) u) -> Q .normal (putsL a0 0 ops.toList vs) u)
 (hstep : ∀ u i o (ρ : Operand -> Value), R u -> ops[i]? = some o -> (∀ s, isDst ops s = false -> ρ (.tmp s) = a0.eval (.tmp s)) -> (∀ v, ρ (.const v) = v) -> (∀ f, ρ (.func f) = .func (.func f) #[] #[]) ->
  (∀ e ∈ o.after, Region.binds md e = true -> ∀ d, dstOf ops e.on = some d -> Φ e.on (ρ (.tmp d)) u) -> StpV P ops Φ R i o ρ u)
 (fuel : Nat) (l : Array Bool) (hs : l.size = ops.size) (hc : l.toList.count false <= fuel) (hl : ∀ i, l.getD i false = false) : wpAny P md ops Q fuel l a0 w0 := by
 refine wpAny_inv (InvV ops Φ R a0) hordB ?_ ?_ fuel l a0 w0 hs hc ?_
 ·intro l a u h hall
  have hall' : ∀ i, i < ops.size -> l.getD i false = true := fun i hi => by rw [getD_eq (by rw [h.ls]; exact hi) false true]; exact hall i hi
  have e : putsL a0 0 ops.toList (fun i => a.tmps.getD ((dstOf ops i).getD 0) undef) = a := by
   refine putsL_eq ops.toList 0 a0 _ h.df.symm h.sz.symm (fun j o d ho hd => ?_) (fun s => ?_) (fun j o ho => ?_)
   ·rw [Nat.zero_add]
    have : dstOf ops j = some d := by rw [Array.getElem?_toList] at ho; simp [dstOf, ho, hd]
    show a.tmps.getD ((dstOf ops j).getD 0) undef = _
    rw [this]; rfl
   ·by_cases hx : ∃ j d, dstOf ops j = some d /\ l.getD j false = true /\ d = s
    ·obtain ⟨j, d, hd, _, rfl⟩ := hx
     right
     unfold dstOf at hd
     cases ho : ops[j]? with
     | none => rw [ho] at hd; cases hd
     | some o => rw [ho] at hd; exact ⟨j, o, by rw [Array.getElem?_toList]; exact ho, hd⟩
    left
    exact (h.old s (fun i d hd hl e => hx ⟨i, d, hd, hl, e⟩)).symm
   rw [Array.getElem?_toList] at ho
   have hi : j < ops.size := (Array.getElem?_eq_some_iff.1 ho).1
   obtain ⟨d, hd, hlt, _⟩ := dstB_of hB hi
   exact ⟨d, by simpa [dstOf, ho] using hd, by rw [h.sz]; exact hlt⟩
  rw [<- e]
  refine hend _ u h.r (fun i hi => ?_)
  obtain ⟨d, hd, _, _⟩ := dstB_of hB hi
  show Φ i (a.tmps.getD ((dstOf ops i).getD 0) undef) u
  rw [hd]
  exact h.val i d hd (hall' i hi)
 ·intro l a u i o h ho hli hdep K hK
  have hi : i < ops.size := (Array.getElem?_eq_some_iff.1 ho).1
  have hin : ∀ j d, dstOf ops j = some d -> j < ops.size := fun j d hj => by
   unfold dstOf at hj
   cases hoj : ops[j]? with
   | none => rw [hoj] at hj; cases hj
   | some o' => exact (Array.getElem?_eq_some_iff.1 hoj).1
  have hw : Region.wanted o (yielded ops a.tmps) = wantV ops o a.eval := wanted_eq (fun j d hj => by
   obtain ⟨d', hd', hlt, _⟩ := dstB_of hB (hin j d hj)
   rw [hj] at hd'
   rw [h.sz, Option.some.inj hd']; exact hlt)
  have hst := hstep u i o a.eval h.r ho (fun s hns => by
   refine h.old s (fun j d hj _ e => ?_)
   subst e
   have : isDst ops d = true := by
    unfold isDst
    rw [List.any_eq_true]
    exact ⟨j, List.mem_range.2 (hin j d hj), by simp [hj]⟩
   rw [this] at hns; cases hns) (fun _ => rfl) (fun _ => rfl) (fun e he hb d hd => h.val e.on d hd (hdep e he hb))
  rcases hst with ⟨hwt, ⟨v, u', hrun, hv, hr, hbl⟩ | ⟨f, args, hrun, hcall⟩⟩ | ⟨hwf, hv⟩
  ·rw [if_pos (by rw [hw]; exact hwt)]
   unfold Oper.wp
   rw [hrun]
   exact hK _ _ (h.next hB hmono ho hv hr hbl)
  ·rw [if_pos (by rw [hw]; exact hwt)]
   unfold Oper.wp
   rw [hrun, Oper.upon_enter]
   refine hcall.mono ?_
   rintro e u' ⟨v, rfl, hv, hr, hbl⟩
   exact hK _ _ (h.next hB hmono ho hv hr hbl)
  rw [if_neg (by rw [hw, hwf]; decide)]
  exact hK _ _ (h.next hB hmono ho hv h.r (Below.refl _ _))
 exact ⟨h0, hs, rfl, rfl, fun _ _ => rfl, fun i d _ hl' => by rw [hl i] at hl'; cases hl'⟩
end Go.Proofs.YtlhjiiifmfgnoaaGreat
namespace Go.Proofs.YtlhjiiifmfgnoaaGreat
open Go.RowKit
theorem run_load_op {P : Program} {ρ : Operand -> Value} {o : Oper} {u : World} {t : TypeId} {p : Operand} {ptr v : Value} (ho : o.op = .load t p) (hp : ρ p = ptr) (hr : (Instr.loadAt t ptr).run P u = .ok v u) : (execOp ρ o).run P u = .ok (.value v) u := by
 unfold execOp
 simp only [ho, hp]
 rw [Sem.run_bind, hr]
 rfl
theorem run_call_op {P : Program} {ρ : Operand -> Value} {o : Oper} {u : World} {f : FuncId} {xs : Array Operand} {ts : Array TypeId} {args : Array Value} (ho : o.op = .call ⟨.value (.func f), xs, ts⟩) (hf : ρ (.func f) = .func (.func f) #[] #[]) (hx : xs.map ρ = args)
 (hc : (callFunc f args).run P u = .ok (.enter f args) u) : (execOp ρ o).run P u = .ok (.enter f args) u := by
 unfold execOp
 simp only [ho, resolve, hf, hx]
 show (callFunc f ((#[] ++ args) ++ #[])).run P u = _
 simpa using hc
theorem run_pick_op {P : Program} {ρ : Operand -> Value} {o : Oper} {u : World} {c x y : Operand} {b : Bool} (ho : o.op = .pick c x y) (hc : ρ c = .bool b) : (execOp ρ o).run P u = .ok (.value (if b = true then ρ x else ρ y)) u := by
 unfold execOp
 simp only [ho, hc]
 rfl
theorem run_bin_op {P : Program} {ρ : Operand -> Value} {o : Oper} {u : World} {op : BinOp} {t t' : TypeId} {x y : Operand} {a b v : Value} (ho : o.op = .binOp op t x y t') (ha : ρ x = a) (hb : ρ y = b) (hr : (do eqGuard op t x y a b; binOp op t a b : Sem Value).run P u = .ok v u) : (execOp ρ o).run P u = .ok (.value v) u := by
 unfold execOp
 simp only [ho, ha, hb]
 rw [Sem.run_bind, hr]
 rfl
end Go.Proofs.YtlhjiiifmfgnoaaGreat
namespace Go.Proofs.YtlhjiiifmfgnoaaGreat
open Go.RowKit
def dstC (ops : Array Oper) (n : Nat) : Bool :=
 (List.range ops.size).all fun i => match dstOf ops i with
  | some d => decide (d < n) && (List.range ops.size).all fun j => decide (j = i) || decide (dstOf ops j ≠ some d)
  | none => true
def updB (l : Nat -> Bool) (i : Nat) : Nat -> Bool := fun j => if j = i then true else l j
def StpW (P : Program) (ops : Array Oper) (Φ : Nat -> Value -> World -> Prop) (R : World -> Prop) (M : World -> World -> Prop) (i : Nat) (o : Oper) (ρ : Operand -> Value) (u : World) : Prop :=
 (wantV ops o ρ = true /\ ((∃ v u', (execOp ρ o).run P u = .ok (.value v) u' /\ Φ i v u' /\ R u' /\ M u u') \/ (∃ f args, (execOp ρ o).run P u = .ok (.enter f args) u /\ Calls P f args u fun e u' => ∃ v, e = .returned v /\ Φ i v u' /\ R u' /\ M u u') \/ (o.dst = none /\ ∃ u', (execOp ρ o).run P u = .ok .skip u' /\ R u' /\ M u u')))
 \/ (wantV ops o ρ = false /\ Φ i undef u /\ R u)
structure InvW (md : Region.Mode) (ops : Array Oper) (Φ : Nat -> Value -> World -> Prop) (R : (Nat -> Bool) -> World -> Prop) (a0 : Act) (l : Array Bool) (a : Act) (u : World) : Prop where
 r : R (fun i => l.getD i false) u
 ls : l.size = ops.size
 df : a.defers = a0.defers
 sz : a.tmps.size = a0.tmps.size
 old : ∀ s, (∀ i d, dstOf ops i = some d -> l.getD i false = true -> d ≠ s) -> a.tmps.getD s undef = a0.tmps.getD s undef
 val : ∀ i d, dstOf ops i = some d -> l.getD i false = true -> Φ i (a.tmps.getD d undef) u
 cl : ∀ i o, ops[i]? = some o -> l.getD i false = true -> ∀ e ∈ o.after, Region.binds md e = true -> l.getD e.on false = true
theorem dstC_of {ops : Array Oper} {n : Nat} (h : dstC ops n = true) {i : Nat} (hi : i < ops.size) {d : Nat} (hd : dstOf ops i = some d) : d < n /\ ∀ j, j < ops.size -> dstOf ops j = some d -> j = i := by
 unfold dstC at h
 rw [List.all_eq_true] at h
 have h1 := h i (List.mem_range.2 hi)
 rw [hd] at h1
 simp only [Bool.and_eq_true, decide_eq_true_eq, List.all_eq_true, Bool.or_eq_true] at h1
 refine ⟨h1.1, fun j hj e => ?_⟩
 rcases h1.2 j (List.mem_range.2 hj) with h2 | h2
 ·exact h2
 exact absurd e h2
theorem dstOf_lt {ops : Array Oper} {j d : Nat} (hj : dstOf ops j = some d) : j < ops.size := by
 unfold dstOf at hj
 cases hoj : ops[j]? with
 | none => rw [hoj] at hj; cases hj
 | some o' => exact (Array.getElem?_eq_some_iff.1 hoj).1
theorem getD_upd {l : Array Bool} {i : Nat} (hi : i < l.size) : (fun j => (l.setIfInBounds i true).getD j false) = updB (fun j => l.getD j false) i := by
 funext j
 exact getD_set hi
theorem putsL_eqW {a : Act} : ∀ (os : List Oper) (k : Nat) (a' : Act) (vs : Nat -> Value), a'.defers = a.defers -> a'.tmps.size = a.tmps.size -> (∀ (j : Nat) (o : Oper) (d : Nat), os[j]? = some o -> o.dst = some d -> vs (k + j) = a.tmps.getD d undef) ->
 (∀ s, a'.tmps.getD s undef = a.tmps.getD s undef \/ ∃ (j : Nat) (o : Oper), os[j]? = some o /\ o.dst = some s) -> (∀ (j : Nat) (o : Oper) (d : Nat), os[j]? = some o -> o.dst = some d -> d < a.tmps.size) -> putsL a' k os vs = a
 | [], k, a', vs, h1, h2, _, h4, _ => by
  have e : a'.tmps = a.tmps := by
   apply Array.ext h2
   intro i hi1 hi2
   rcases h4 i with h | ⟨j, o, h, _⟩
   ·simpa [Array.getD, hi1, hi2] using h
   simp at h
  cases a'; cases a
  simp only at e h1
  subst e h1
  rfl
 | o :: os, k, a', vs, h1, h2, h3, h4, h5 => by
  show putsL (a'.put o.dst (vs k)) (k + 1) os vs = a
  have h3' : ∀ (j : Nat) (o : Oper) (d : Nat), os[j]? = some o -> o.dst = some d -> vs (k + 1 + j) = a.tmps.getD d undef := fun j o' d' ho hd' => by rw [show k + 1 + j = k + (j + 1) by omega]; exact h3 (j + 1) o' d' (by simpa using ho) hd'
  have h5' : ∀ (j : Nat) (o : Oper) (d : Nat), os[j]? = some o -> o.dst = some d -> d < a.tmps.size := fun j o' d' ho hd' => h5 (j + 1) o' d' (by simpa using ho) hd'
  cases hd : o.dst with
  | none =>
   refine putsL_eqW os (k + 1) _ vs h1 h2 h3' (fun s => ?_) h5'
   rcases h4 s with h | ⟨j, o', ho, hd'⟩
   ·exact .inl h
   cases j with
   | zero => simp at ho; subst ho; rw [hd] at hd'; cases hd'
   | succ j => exact .inr ⟨j, o', by simpa using ho, hd'⟩
  | some d =>
   have hlt := h5 0 o d rfl hd
   refine putsL_eqW os (k + 1) _ vs h1 (by simpa [Act.put] using h2) h3' (fun s => ?_) h5'
   rw [getD_put (by rw [h2]; exact hlt)]
   by_cases e : s = d
   ·subst e
    rw [if_pos rfl]
    exact .inl (by simpa using h3 0 o s rfl hd)
   rw [if_neg e]
   rcases h4 s with h | ⟨j, o', ho, hd'⟩
   ·exact .inl h
   cases j with
   | zero => simp at ho; subst ho; rw [hd] at hd'; exact absurd (Option.some.inj hd').symm e
   | succ j => exact .inr ⟨j, o', by simpa using ho, hd'⟩
theorem run_index_op {P : Program} {ρ : Operand -> Value} {o : Oper} {u : World} {t : TypeId} {x y : Operand} {a b v : Value} (ho : o.op = .indexAddr t x y) (ha : ρ x = a) (hb : ρ y = b) (hr : (Instr.indexAt t a b).run P u = .ok v u) : (execOp ρ o).run P u = .ok (.value v) u := by
 unfold execOp
 simp only [ho, ha, hb]
 rw [Sem.run_bind, hr]
 rfl
theorem run_store_op {P : Program} {ρ : Operand -> Value} {o : Oper} {u u' : World} {t : TypeId} {x y : Operand} {a b : Value} (ho : o.op = .store t x y) (ha : ρ x = a) (hb : ρ y = b) (hr : (Instr.storeAt t a b).run P u = .ok () u') : (execOp ρ o).run P u = .ok .skip u' := by
 unfold execOp
 simp only [ho, ha, hb]
 rw [Sem.run_bind, hr]
 rfl
theorem run_field_op {P : Program} {ρ : Operand -> Value} {o : Oper} {u : World} {s : TypeId} {x : Operand} {f : Nat} {a v : Value} (ho : o.op = .fieldAddr s x f) (ha : ρ x = a) (hr : (Instr.fieldAt s a f).run P u = .ok v u) : (execOp ρ o).run P u = .ok (.value v) u := by
 unfold execOp
 simp only [ho, ha]
 rw [Sem.run_bind, hr]
 rfl
theorem run_build_op {P : Program} {ρ : Operand -> Value} {o : Oper} {u u' : World} {t : TypeId} {n : Nat} {ps : Array (Nat × Operand)} {qs : Array (Nat × Value)} {v : Value} (ho : o.op = .buildSlice t n ps) (ha : ps.map (fun (i, x) => (i, ρ x)) = qs) (hr : (Instr.buildSlice t n qs).run P u = .ok v u') : (execOp ρ o).run P u = .ok (.value v) u' := by
 unfold execOp
 simp only [ho, ha]
 rw [Sem.run_bind, hr]
 rfl
theorem run_un_op {P : Program} {ρ : Operand -> Value} {o : Oper} {u : World} {op : UnOp} {t : TypeId} {x : Operand} {a v : Value} (ho : o.op = .unOp op t x) (ha : ρ x = a) (hr : (Op.unary op a).run P u = .ok v u) : (execOp ρ o).run P u = .ok (.value v) u := by
 unfold execOp
 simp only [ho, ha]
 rw [Sem.run_bind, hr]
 rfl
end Go.Proofs.YtlhjiiifmfgnoaaGreat
