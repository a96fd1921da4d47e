/- Parts of the proof. -/
import Derived.Test.YtplaoagcedgdfaaGreatZq8
import Derived.Test.YtplaoagcedgdfaaGreatZq3
import Derived.Test.YtplaoagcedgdfaaGreatZq1
import Derived.Test.YtplaoagcedgdfaaGreatZq2
import Derived.WideMake
import Derived.Carry
import Derived.Laws.CopyOwn
import Derived.Deep.RegionHeld3
import Derived.RegionTactic
import Derived.Deep.Upon
import Derived.Test.YtplaoagcedgdfaaGreatZq5
set_option linter.unusedVariables false
set_option linter.unusedSimpArgs false
set_option maxHeartbeats 4000000
set_option maxRecDepth 20000
namespace Go.Proofs.YtplaoagcedgdfaaGreat
open Go.RowKit Go.Proofs.Tryz
abbrev dv (a1 a2 a3 a4 : Option Addr) (l1 l2 l3 l4 c1 c2 c3 c4 : Nat) : Value := .agg #[.slice a1 l1 c1, .slice a2 l2 c2, .slice a3 l3 c3, .slice a4 l4 c4]
theorem ag.four {w : World} {g : Nat} {t : TypeId} {v0 v1 v2 v3 : Value} (h : ag w g t #[v0, v1, v2, v3]) : w.cell? ⟨g, 0, none⟩ = some v0 /\ w.cell? ⟨g, 1, none⟩ = some v1 /\ w.cell? ⟨g, 2, none⟩ = some v2 /\ w.cell? ⟨g, 3, none⟩ = some v3 :=
 ⟨h.cell 0 rfl, h.cell 1 rfl, h.cell 2 rfl, h.cell 3 rfl⟩
def uY (w : World) (a1 a2 a3 a4 : Option Addr) (cs is : List Bool) (hs rs : List Int) : Prop := aW w a1 cs /\ aW w a2 is /\ aQ w a3 hs /\ aQ w a4 rs
def uZ (l1 l2 l3 l4 : Nat) (cs is : List Bool) (hs rs : List Int) : Prop := l1 = cs.length /\ l2 = is.length /\ l3 = hs.length /\ l4 = rs.length
def rQ (m : Nat) (cs is : List Bool) (hs rs : List Int) : Prop := cs.length <= m /\ is.length <= m /\ hs.length <= m /\ rs.length <= m
def Df (v u : Value) : Prop := v.ownBlock = none \/ u.ownBlock = none \/ v.ownBlock ≠ u.ownBlock
def vT (w : World) (B : Nat) (a1 a2 a3 a4 : Option Addr) (l1 l2 l3 l4 c1 c2 c3 c4 : Nat) (cs is : List Bool) (hs rs : List Int) : Prop :=
 cG w B (.slice a1 l1 c1) cs /\ cG w B (.slice a2 l2 c2) is /\ bT w B (.slice a3 l3 c3) hs /\ bT w B (.slice a4 l4 c4) rs /\ Df (.slice a1 l1 c1) (.slice a2 l2 c2) /\ Df (.slice a3 l3 c3) (.slice a4 l4 c4)
def aw (x lo hi : Int) : Bool := decide (lo <= x /\ x <= hi)
def bN (ws : List Int) : Bool := decide (∀ k, k < ws.length -> 0 <= ws.getD k 0 /\ ws.getD k 0 <= 65535)
def dg (p n : Int) : Bool := decide (0 <= p /\ p <= 65535 /\ p + n <= 65536)
def bM (p n most : Int) : Bool := decide (1 <= n /\ n <= most /\ 0 <= p /\ p + n <= 65536)
def bG (n w b a : Bool) (nn : Int) (l1 l2 : Nat) (wa : Int) : Bool := (n || decide (nn = 0)) && ((w || decide (l1 = 0)) && ((b || decide (l2 = 0)) && (a || decide (wa = 0))))
theorem aE (x lo hi : Int) (w : World) (b : Bool) (hb : aw x lo hi = b) : Calls prog 36 #[.int .i64 x, .int .i64 lo, .int .i64 hi] w fun e w' => e = .returned (.bool b) /\ w' = w := by
 subst hb
 unfold aw
 by_cases h1 : lo <= x
 ·by_cases h2 : x <= hi
  ·rw [decide_eq_true (show lo <= x /\ x <= hi from ⟨h1, h2⟩)]
   go_enter func36, ntmps36
   go_wp2
   go_ret
   exact ⟨rfl, rfl⟩
  rw [decide_eq_false (show ¬ (lo <= x /\ x <= hi) from fun h => h2 h.2)]
  go_enter func36, ntmps36
  go_wp2
  go_ret
  exact ⟨rfl, rfl⟩
 rw [decide_eq_false (show ¬ (lo <= x /\ x <= hi) from fun h => h1 h.1)]
 go_enter func36, ntmps36
 go_wp2
 go_ret
 exact ⟨rfl, rfl⟩
theorem be (x : Int) (w : World) (b : Bool) (hb : aw x 0 65535 = b) : Calls prog 161 #[.int .i64 x] w fun e w' => e = .returned (.bool b) /\ w' = w := by
 subst hb
 unfold aw
 by_cases h1 : 0 <= x
 ·by_cases h2 : x <= 65535
  ·rw [decide_eq_true (show 0 <= x /\ x <= 65535 from ⟨h1, h2⟩)]
   go_enter func161, ntmps161
   go_wp2
   go_ret
   exact ⟨rfl, rfl⟩
  rw [decide_eq_false (show ¬ (0 <= x /\ x <= 65535) from fun h => h2 h.2)]
  go_enter func161, ntmps161
  go_wp2
  go_ret
  exact ⟨rfl, rfl⟩
 rw [decide_eq_false (show ¬ (0 <= x /\ x <= 65535) from fun h => h1 h.1)]
 go_enter func161, ntmps161
 go_wp2
 go_ret
 exact ⟨rfl, rfl⟩
theorem oX (x n : Int) (w : World) (hn0 : 0 <= n) (hn1 : n <= 9000000000000000000) (b : Bool) (hb : dg x n = b) : Calls prog 179 #[.int .i64 x, .int .i64 n] w fun e w' => e = .returned (.bool b) /\ w' = w := by
 subst hb
 unfold dg
 by_cases h1 : 0 <= x
 ·by_cases h2 : x <= 65535
  ·by_cases h3 : x + n <= 65536
   ·rw [decide_eq_true (show 0 <= x /\ x <= 65535 /\ x + n <= 65536 from ⟨h1, h2, h3⟩)]
    go_enter func179, ntmps179
    go_wp2_with (go_at_call 36; go_in)
    go_ret
    exact ⟨rfl, rfl⟩
   rw [decide_eq_false (show ¬ (0 <= x /\ x <= 65535 /\ x + n <= 65536) from fun h => h3 h.2.2)]
   go_enter func179, ntmps179
   go_wp2_with (go_at_call 36; go_in)
   go_ret
   exact ⟨rfl, rfl⟩
  rw [decide_eq_false (show ¬ (0 <= x /\ x <= 65535 /\ x + n <= 65536) from fun h => h2 h.2.1)]
  go_enter func179, ntmps179
  go_wp2_with (go_at_call 36; go_in)
  go_ret
  exact ⟨rfl, rfl⟩
 rw [decide_eq_false (show ¬ (0 <= x /\ x <= 65535 /\ x + n <= 65536) from fun h => h1 h.1)]
 go_enter func179, ntmps179
 go_wp2_with (go_at_call 36; go_in)
 go_ret
 exact ⟨rfl, rfl⟩
theorem bS (x n most : Int) (w : World) (hm : most <= 2000) (b : Bool) (hb : bM x n most = b) : Calls prog 256 #[.int .i64 x, .int .i64 n, .int .i64 most] w fun e w' => e = .returned (.bool b) /\ w' = w := by
 subst hb
 unfold bM
 by_cases h1 : 1 <= n
 ·by_cases h2 : n <= most
  ·by_cases h3 : 0 <= x
   ·by_cases h4 : x <= 65536 - n
    ·rw [decide_eq_true (show 1 <= n /\ n <= most /\ 0 <= x /\ x + n <= 65536 from ⟨h1, h2, h3, by omega⟩)]
     go_enter func256, ntmps256
     go_wp2
     go_ret
     exact ⟨rfl, rfl⟩
    rw [decide_eq_false (show ¬ (1 <= n /\ n <= most /\ 0 <= x /\ x + n <= 65536) from fun h => h4 (by omega))]
    go_enter func256, ntmps256
    go_wp2
    go_ret
    exact ⟨rfl, rfl⟩
   rw [decide_eq_false (show ¬ (1 <= n /\ n <= most /\ 0 <= x /\ x + n <= 65536) from fun h => h3 h.2.2.1)]
   go_enter func256, ntmps256
   go_wp2
   go_ret
   exact ⟨rfl, rfl⟩
  rw [decide_eq_false (show ¬ (1 <= n /\ n <= most /\ 0 <= x /\ x + n <= 65536) from fun h => h2 h.2.1)]
  go_enter func256, ntmps256
  go_wp2
  go_ret
  exact ⟨rfl, rfl⟩
 rw [decide_eq_false (show ¬ (1 <= n /\ n <= most /\ 0 <= x /\ x + n <= 65536) from fun h => h1 h.1)]
 go_enter func256, ntmps256
 go_wp2
 go_ret
 exact ⟨rfl, rfl⟩
theorem gR {zs : List Int} {k : Nat} (h : k < zs.length) (hb : ¬ (0 <= zs.getD k 0 /\ zs.getD k 0 <= 65535)) : bN zs = false := by
 unfold bN; exact decide_eq_false (fun hh => hb (hh k h))
theorem dB {zs : List Int} (hb : ∀ k, k < zs.length -> 0 <= zs.getD k 0 /\ zs.getD k 0 <= 65535) : bN zs = true := by
 unfold bN; exact decide_eq_true hb
theorem da (a : Option Addr) (n cap : Nat) (zs : List Int) (w : World) (hn : n = zs.length) (hs : aQ w a zs) (hl : zs.length <= 2000000) (b : Bool) (hb : bN zs = b) :
 Calls prog 175 #[.slice a n cap] w fun e w' => e = .returned (.bool b) /\ w' = w := by
 subst hn
 go_enter func175, ntmps175
 go_wp2
 go_loop [3] (fun i => ∃ k : Nat, k <= zs.length /\ i = .int .i64 k /\ ∀ j, j < k -> 0 <= zs.getD j 0 /\ zs.getD j 0 <= 65535) (fun i => zs.length - (intOf i).toNat)
 case atStart => exact ⟨0, Nat.zero_le _, rfl, fun j hj => absurd hj (Nat.not_lt_zero _)⟩
 case round =>
  obtain ⟨k, hk, rfl, hg⟩ := hrel
  have HG : Hid (∀ j, j < k -> 0 <= zs.getD j 0 /\ zs.getD j 0 <= 65535) := hg
  clear hg
  by_cases hlt : k < zs.length
  ·obtain ⟨bb, off, rfl, _, hc⟩ := ci hs hlt
   have hi : (k : Int) < (zs.length : Int) := by omega
   obtain ⟨x, hx⟩ : ∃ x, x = zs.getD k 0 := ⟨_, rfl⟩
   have HX : Hid (x = zs.getD k 0) := hx
   rw [<- hx] at hc
   clear hs hx
   by_cases h1 : 0 <= x
   ·by_cases h2 : x <= 65535
    ·go_wp2_with (go_at_call 36; go_in)
     go_round
     case rel =>
      first
       | exact ⟨k + 1, by omega, by go_num, fun j hj => by
        by_cases e : j = k
        ·subst e; rw [<- HX.out]; exact ⟨h1, h2⟩
        exact HG.out j (by omega)⟩
       | exact ⟨_, _, ⟨k + 1, by omega, by go_num, fun j hj => by
        by_cases e : j = k
        ·subst e; rw [<- HX.out]; exact ⟨h1, h2⟩
        exact HG.out j (by omega)⟩, rfl, rfl⟩
     case measure => simp [intOf]; omega
    have hf := gR hlt (by rw [<- HX.out]; exact fun h => h2 h.2)
    rw [hf] at hb
    subst hb
    go_wp2_with (go_at_call 36; go_in)
    go_ret
    exact ⟨rfl, rfl⟩
   have hf := gR hlt (by rw [<- HX.out]; exact fun h => h1 h.1)
   rw [hf] at hb
   subst hb
   go_wp2_with (go_at_call 36; go_in)
   go_ret
   exact ⟨rfl, rfl⟩
  have hf := dB (zs := zs) (fun j hj => HG.out j (by omega))
  rw [hf] at hb
  subst hb
  clear hs
  go_wp2
  go_ret
  exact ⟨rfl, rfl⟩
theorem ct (a : Option Addr) (n cap : Nat) (zs : List Int) (w : World) (hn : n = zs.length) (hs : aQ w a zs) (hl : zs.length <= 2000000) (b : Bool) (hb : bN zs = b) :
 Calls prog 225 #[.slice a n cap] w fun e w' => e = .returned (.bool b) /\ w' = w := by
 subst hn
 go_enter func225, ntmps225
 go_wp2
 go_loop [7] (fun i => ∃ k : Nat, k <= zs.length /\ i = .int .i64 k /\ ∀ j, j < k -> 0 <= zs.getD j 0 /\ zs.getD j 0 <= 65535) (fun i => zs.length - (intOf i).toNat)
 case atStart => exact ⟨0, Nat.zero_le _, rfl, fun j hj => absurd hj (Nat.not_lt_zero _)⟩
 case round =>
  obtain ⟨k, hk, rfl, hg⟩ := hrel
  have HG : Hid (∀ j, j < k -> 0 <= zs.getD j 0 /\ zs.getD j 0 <= 65535) := hg
  clear hg
  by_cases hlt : k < zs.length
  ·obtain ⟨bb, off, rfl, _, hc⟩ := ci hs hlt
   have hi : (k : Int) < (zs.length : Int) := by omega
   obtain ⟨x, hx⟩ : ∃ x, x = zs.getD k 0 := ⟨_, rfl⟩
   have HX : Hid (x = zs.getD k 0) := hx
   rw [<- hx] at hc
   clear hs hx
   by_cases h1 : 0 <= x
   ·by_cases h2 : x <= 65535
    ·go_wp2_with (go_at_call 161; go_in)
     go_round
     case rel =>
      first
       | exact ⟨k + 1, by omega, by go_num, fun j hj => by
        by_cases e : j = k
        ·subst e; rw [<- HX.out]; exact ⟨h1, h2⟩
        exact HG.out j (by omega)⟩
       | exact ⟨_, _, ⟨k + 1, by omega, by go_num, fun j hj => by
        by_cases e : j = k
        ·subst e; rw [<- HX.out]; exact ⟨h1, h2⟩
        exact HG.out j (by omega)⟩, rfl, rfl⟩
     case measure => simp [intOf]; omega
    have hf := gR hlt (by rw [<- HX.out]; exact fun h => h2 h.2)
    rw [hf] at hb
    subst hb
    go_wp2_with (go_at_call 161; go_in)
    go_ret
    exact ⟨rfl, rfl⟩
   have hf := gR hlt (by rw [<- HX.out]; exact fun h => h1 h.1)
   rw [hf] at hb
   subst hb
   go_wp2_with (go_at_call 161; go_in)
   go_ret
   exact ⟨rfl, rfl⟩
  have hf := dB (zs := zs) (fun j hj => HG.out j (by omega))
  rw [hf] at hb
  subst hb
  clear hs
  go_wp2
  go_ret
  exact ⟨rfl, rfl⟩
theorem nB (kd pl nn wa : Int) (a1 a2 : Option Addr) (l1 l2 c1 c2 : Nat) (w : World) (hm1 : l1 <= 2000000) (hm2 : l2 <= 20000000) (z : Bool) (hz : bG true false false false nn l1 l2 wa = z) :
 Calls prog 178 #[rq kd pl nn wa a1 a2 l1 l2 c1 c2, .bool true, .bool false, .bool false, .bool false] w fun e w' => e = .returned (.bool z) /\ Below w.heap.size w w' := by
 have B0 := ac w (.cells #[.int .i64 kd, .int .i64 pl, .int .i64 nn, .slice a1 l1 c1, .slice a2 l2 c2, .int .i64 wa] 84)
 subst hz
 by_cases h1 : l1 = 0
 ·skip
  by_cases h2 : l2 = 0
  ·skip
   by_cases ha : wa = 0
   ·skip
    have e : bG true false false false nn l1 l2 wa = true := by simp [bG, h1, h2, ha]
    rw [e]
    clear e
    subst h1
    subst h2
    subst ha
    go_enter func178, ntmps178
    go_wp2
    go_ret
    exact ⟨rfl, B0⟩
   have e : bG true false false false nn l1 l2 wa = false := by simp [bG, h1, h2, ha]
   rw [e]
   clear e
   subst h1
   subst h2
   have e2 : (wa == 0) = false := by simp [ha]
   go_enter func178, ntmps178
   go_wp2
   go_ret
   exact ⟨rfl, B0⟩
  have e : bG true false false false nn l1 l2 wa = false := by simp [bG, h1, h2]
  rw [e]
  have h2i : ¬ (l2 : Int) = 0 := by omega
  clear e
  subst h1
  go_enter func178, ntmps178
  go_wp2
  go_ret
  exact ⟨rfl, B0⟩
 have e : bG true false false false nn l1 l2 wa = false := by simp [bG, h1]
 rw [e]
 have h1i : ¬ (l1 : Int) = 0 := by omega
 clear e
 go_enter func178, ntmps178
 go_wp2
 go_ret
 exact ⟨rfl, B0⟩
theorem nC (kd pl nn wa : Int) (a1 a2 : Option Addr) (l1 l2 c1 c2 : Nat) (w : World) (hm1 : l1 <= 2000000) (hm2 : l2 <= 20000000) (z : Bool) (hz : bG false false true false nn l1 l2 wa = z) :
 Calls prog 178 #[rq kd pl nn wa a1 a2 l1 l2 c1 c2, .bool false, .bool false, .bool true, .bool false] w fun e w' => e = .returned (.bool z) /\ Below w.heap.size w w' := by
 have B0 := ac w (.cells #[.int .i64 kd, .int .i64 pl, .int .i64 nn, .slice a1 l1 c1, .slice a2 l2 c2, .int .i64 wa] 84)
 subst hz
 by_cases hn : nn = 0
 ·skip
  by_cases h1 : l1 = 0
  ·skip
   by_cases ha : wa = 0
   ·skip
    have e : bG false false true false nn l1 l2 wa = true := by simp [bG, hn, h1, ha]
    rw [e]
    clear e
    subst hn
    subst h1
    subst ha
    go_enter func178, ntmps178
    go_wp2
    go_ret
    exact ⟨rfl, B0⟩
   have e : bG false false true false nn l1 l2 wa = false := by simp [bG, hn, h1, ha]
   rw [e]
   clear e
   subst hn
   subst h1
   have e2 : (wa == 0) = false := by simp [ha]
   go_enter func178, ntmps178
   go_wp2
   go_ret
   exact ⟨rfl, B0⟩
  have e : bG false false true false nn l1 l2 wa = false := by simp [bG, hn, h1]
  rw [e]
  have h1i : ¬ (l1 : Int) = 0 := by omega
  clear e
  subst hn
  go_enter func178, ntmps178
  go_wp2
  go_ret
  exact ⟨rfl, B0⟩
 have e : bG false false true false nn l1 l2 wa = false := by simp [bG, hn]
 rw [e]
 clear e
 go_enter func178, ntmps178
 go_wp2
 go_ret
 exact ⟨rfl, B0⟩
theorem nD (kd pl nn wa : Int) (a1 a2 : Option Addr) (l1 l2 c1 c2 : Nat) (w : World) (hm1 : l1 <= 2000000) (hm2 : l2 <= 20000000) (z : Bool) (hz : bG false true false false nn l1 l2 wa = z) :
 Calls prog 178 #[rq kd pl nn wa a1 a2 l1 l2 c1 c2, .bool false, .bool true, .bool false, .bool false] w fun e w' => e = .returned (.bool z) /\ Below w.heap.size w w' := by
 have B0 := ac w (.cells #[.int .i64 kd, .int .i64 pl, .int .i64 nn, .slice a1 l1 c1, .slice a2 l2 c2, .int .i64 wa] 84)
 subst hz
 by_cases hn : nn = 0
 ·skip
  by_cases h2 : l2 = 0
  ·skip
   by_cases ha : wa = 0
   ·skip
    have e : bG false true false false nn l1 l2 wa = true := by simp [bG, hn, h2, ha]
    rw [e]
    clear e
    subst hn
    subst h2
    subst ha
    go_enter func178, ntmps178
    go_wp2
    go_ret
    exact ⟨rfl, B0⟩
   have e : bG false true false false nn l1 l2 wa = false := by simp [bG, hn, h2, ha]
   rw [e]
   clear e
   subst hn
   subst h2
   have e2 : (wa == 0) = false := by simp [ha]
   go_enter func178, ntmps178
   go_wp2
   go_ret
   exact ⟨rfl, B0⟩
  have e : bG false true false false nn l1 l2 wa = false := by simp [bG, hn, h2]
  rw [e]
  have h2i : ¬ (l2 : Int) = 0 := by omega
  clear e
  subst hn
  go_enter func178, ntmps178
  go_wp2
  go_ret
  exact ⟨rfl, B0⟩
 have e : bG false true false false nn l1 l2 wa = false := by simp [bG, hn]
 rw [e]
 clear e
 go_enter func178, ntmps178
 go_wp2
 go_ret
 exact ⟨rfl, B0⟩
theorem nE (kd pl nn wa : Int) (a1 a2 : Option Addr) (l1 l2 c1 c2 : Nat) (w : World) (hm1 : l1 <= 2000000) (hm2 : l2 <= 20000000) (z : Bool) (hz : bG true true false true nn l1 l2 wa = z) :
 Calls prog 178 #[rq kd pl nn wa a1 a2 l1 l2 c1 c2, .bool true, .bool true, .bool false, .bool true] w fun e w' => e = .returned (.bool z) /\ Below w.heap.size w w' := by
 have B0 := ac w (.cells #[.int .i64 kd, .int .i64 pl, .int .i64 nn, .slice a1 l1 c1, .slice a2 l2 c2, .int .i64 wa] 84)
 subst hz
 by_cases h2 : l2 = 0
 ·skip
  have e : bG true true false true nn l1 l2 wa = true := by simp [bG, h2]
  rw [e]
  clear e
  subst h2
  go_enter func178, ntmps178
  go_wp2
  go_ret
  exact ⟨rfl, B0⟩
 have e : bG true true false true nn l1 l2 wa = false := by simp [bG, h2]
 rw [e]
 have h2i : ¬ (l2 : Int) = 0 := by omega
 clear e
 go_enter func178, ntmps178
 go_wp2
 go_ret
 exact ⟨rfl, B0⟩
theorem fq (a a' : Option Addr) (n n' cap cap' : Nat) (zs : List Int) (w : World) (hn : n = zs.length) (hn' : n' = zs.length) (hs : aQ w a zs) (hs' : aQ w a' zs) (hl : zs.length <= 2000000) :
 Calls prog 241 #[.slice a n cap, .slice a' n' cap'] w fun e w' => e = .returned (.bool true) /\ Below w.heap.size w w' := by
 subst hn hn'
 go_enter func241, ntmps241
 go_wp2
 go_loopw [13] (fun i wr => ∃ k : Nat, k <= zs.length /\ i = .int .i64 k /\ ∃ n, wr = w.drewN n) (fun i _ => zs.length - (intOf i).toNat)
 case atStart => exact ⟨0, Nat.zero_le _, rfl, 0, rfl⟩
 case round =>
  obtain ⟨k, hk, rfl, n, rfl⟩ := hrel
  by_cases hlt : k < zs.length
  ·obtain ⟨b, off, rfl, _, hc⟩ := ci hs hlt
   obtain ⟨b', off', rfl, _, hc'⟩ := ci hs' hlt
   have hi : (k : Int) < (zs.length : Int) := by omega
   clear hs hs'
   go_wp2
   go_quiet (fail)
   go_wp2
   go_roundw
   case rel => first | exact ⟨k + 1, by omega, by go_num, _, rfl⟩ | exact ⟨_, _, ⟨k + 1, by omega, by go_num, _, rfl⟩, rfl, rfl⟩
   case measure => simp [intOf]; omega
  clear hs hs'
  go_wp2
  go_ret
  exact ⟨rfl, cy _ _⟩
theorem fz (a a' : Option Addr) (n n' cap cap' : Nat) (w : World) (hne : ¬ (n : Int) = (n' : Int)) (h1 : n <= 20000000) (h2 : n' <= 20000000) :
 Calls prog 241 #[.slice a n cap, .slice a' n' cap'] w fun e w' => e = .returned (.bool false) /\ Below w.heap.size w w' := by
 go_enter func241, ntmps241
 go_wp2
 go_ret
 exact ⟨rfl, Below.refl _ _⟩
theorem gS (a a' : Option Addr) (n n' cap cap' : Nat) (zs : List Bool) (w : World) (hn : n = zs.length) (hn' : n' = zs.length) (hs : aW w a zs) (hs' : aW w a' zs) (hl : zs.length <= 2000000) :
 Calls prog 242 #[.slice a n cap, .slice a' n' cap'] w fun e w' => e = .returned (.bool true) /\ Below w.heap.size w w' := by
 subst hn hn'
 go_enter func242, ntmps242
 go_wp2
 go_loopw [13] (fun i wr => ∃ k : Nat, k <= zs.length /\ i = .int .i64 k /\ ∃ n, wr = w.drewN n) (fun i _ => zs.length - (intOf i).toNat)
 case atStart => exact ⟨0, Nat.zero_le _, rfl, 0, rfl⟩
 case round =>
  obtain ⟨k, hk, rfl, n, rfl⟩ := hrel
  by_cases hlt : k < zs.length
  ·obtain ⟨b, off, rfl, _, hc⟩ := bY hs hlt
   obtain ⟨b', off', rfl, _, hc'⟩ := bY hs' hlt
   have hi : (k : Int) < (zs.length : Int) := by omega
   clear hs hs'
   go_wp2
   go_quiet (fail)
   go_wp2
   go_roundw
   case rel => first | exact ⟨k + 1, by omega, by go_num, _, rfl⟩ | exact ⟨_, _, ⟨k + 1, by omega, by go_num, _, rfl⟩, rfl, rfl⟩
   case measure => simp [intOf]; omega
  clear hs hs'
  go_wp2
  go_ret
  exact ⟨rfl, cy _ _⟩
theorem fh (a a' : Option Addr) (n n' cap cap' : Nat) (w : World) (hne : ¬ (n : Int) = (n' : Int)) (h1 : n <= 20000000) (h2 : n' <= 20000000) :
 Calls prog 242 #[.slice a n cap, .slice a' n' cap'] w fun e w' => e = .returned (.bool false) /\ Below w.heap.size w w' := by
 go_enter func242, ntmps242
 go_wp2
 go_ret
 exact ⟨rfl, Below.refl _ _⟩
theorem rA (w : World) (x : Bool) {g : Nat} (hg : g = w.heap.size) : aW (w.alloc (.cells #[.bool x] 4)) (some ⟨g, 0, none⟩) [x] := hg ▸
 .inr ⟨_, 0, rfl, by simp, fun i hi => by
  have : i = 0 := by simp at hi; omega
  subst this; simp⟩
theorem rB (w : World) (x : Int) {g : Nat} (hg : g = w.heap.size) : aQ (w.alloc (.cells #[.int .i64 x] 3)) (some ⟨g, 0, none⟩) [x] := hg ▸
 .inr ⟨_, 0, rfl, by simp, fun i hi => by
  have : i = 0 := by simp at hi; omega
  subst this; simp⟩
theorem rC (w : World) (x y : Int) {g : Nat} (hg : g = w.heap.size) : aQ (w.alloc (.cells #[.int .i64 x, .int .i64 y] 3)) (some ⟨g, 0, none⟩) [x, y] := hg ▸
 .inr ⟨_, 0, rfl, by simp, fun i hi => by
  have : i = 0 \/ i = 1 := by simp at hi; omega
  rcases this with rfl | rfl <;> simp⟩
theorem vq (pl nn : Int) (w : World) :
 Calls prog 282 #[.agg #[.int .i64 pl, .int .i64 nn]] w fun e w' => e = .returned (rq 1 pl nn 0 none none 0 0 0 0) /\ Below w.heap.size w w' := by
 go_enter func282, ntmps282
 go_wp2
 refine bodyPost_ret (v := rq 1 pl nn 0 none none 0 0 0 0) (by simp [results, results282, go_sem]) rfl ?_
 exact ⟨rfl, ak (ac _ _) (ac _ _)⟩
theorem vr (pl nn : Int) (w : World) :
 Calls prog 283 #[.agg #[.int .i64 pl, .int .i64 nn]] w fun e w' => e = .returned (rq 2 pl nn 0 none none 0 0 0 0) /\ Below w.heap.size w w' := by
 go_enter func283, ntmps283
 go_wp2
 refine bodyPost_ret (v := rq 2 pl nn 0 none none 0 0 0 0) (by simp [results, results283, go_sem]) rfl ?_
 exact ⟨rfl, ak (ac _ _) (ac _ _)⟩
theorem vt (pl nn : Int) (w : World) :
 Calls prog 284 #[.agg #[.int .i64 pl, .int .i64 nn]] w fun e w' => e = .returned (rq 3 pl nn 0 none none 0 0 0 0) /\ Below w.heap.size w w' := by
 go_enter func284, ntmps284
 go_wp2
 refine bodyPost_ret (v := rq 3 pl nn 0 none none 0 0 0 0) (by simp [results, results284, go_sem]) rfl ?_
 exact ⟨rfl, ak (ac _ _) (ac _ _)⟩
theorem vu (pl nn : Int) (w : World) :
 Calls prog 285 #[.agg #[.int .i64 pl, .int .i64 nn]] w fun e w' => e = .returned (rq 4 pl nn 0 none none 0 0 0 0) /\ Below w.heap.size w w' := by
 go_enter func285, ntmps285
 go_wp2
 refine bodyPost_ret (v := rq 4 pl nn 0 none none 0 0 0 0) (by simp [results, results285, go_sem]) rfl ?_
 exact ⟨rfl, ak (ac _ _) (ac _ _)⟩
theorem vw (pl : Int) (x : Bool) (w : World) :
 Calls prog 286 #[.agg #[.int .i64 pl, .bool x]] w fun e w' => e = .returned (rq 5 pl 0 0 none (some ⟨w.heap.size + 1 + 1, 0, none⟩) 0 1 0 1) /\ aW w' (some ⟨w.heap.size + 1 + 1, 0, none⟩) [x] /\ Below w.heap.size w w' := by
 go_enter func286, ntmps286
 go_wp2
 refine bodyPost_ret (v := rq 5 pl 0 0 none (some ⟨w.heap.size + 1 + 1, 0, none⟩) 0 1 0 1) (by simp [results, results286, go_sem]) rfl ?_
 exact ⟨rfl, rA _ x (by simp), ak (ak (ac _ _) (ac _ _)) (ac _ _)⟩
theorem vx (pl x : Int) (w : World) :
 Calls prog 287 #[.agg #[.int .i64 pl, .int .i64 x]] w fun e w' => e = .returned (rq 6 pl 0 0 (some ⟨w.heap.size + 1 + 1, 0, none⟩) none 1 0 1 0) /\ aQ w' (some ⟨w.heap.size + 1 + 1, 0, none⟩) [x] /\ Below w.heap.size w w' := by
 go_enter func287, ntmps287
 go_wp2
 refine bodyPost_ret (v := rq 6 pl 0 0 (some ⟨w.heap.size + 1 + 1, 0, none⟩) none 1 0 1 0) (by simp [results, results287, go_sem]) rfl ?_
 exact ⟨rfl, rB _ x (by simp), ak (ak (ac _ _) (ac _ _)) (ac _ _)⟩
theorem u0 (pl : Int) (a2 : Option Addr) (l2 c2 : Nat) (w : World) :
 Calls prog 288 #[.agg #[.int .i64 pl, .slice a2 l2 c2]] w fun e w' => e = .returned (rq 15 pl 0 0 none a2 0 l2 0 c2) /\ Below w.heap.size w w' := by
 go_enter func288, ntmps288
 go_wp2
 refine bodyPost_ret (v := rq 15 pl 0 0 none a2 0 l2 0 c2) (by simp [results, results288, go_sem]) rfl ?_
 exact ⟨rfl, ak (ac _ _) (ac _ _)⟩
theorem u1 (pl : Int) (a1 : Option Addr) (l1 c1 : Nat) (w : World) :
 Calls prog 289 #[.agg #[.int .i64 pl, .slice a1 l1 c1]] w fun e w' => e = .returned (rq 16 pl 0 0 a1 none l1 0 c1 0) /\ Below w.heap.size w w' := by
 go_enter func289, ntmps289
 go_wp2
 refine bodyPost_ret (v := rq 16 pl 0 0 a1 none l1 0 c1 0) (by simp [results, results289, go_sem]) rfl ?_
 exact ⟨rfl, ak (ac _ _) (ac _ _)⟩
theorem u2 (pl x y : Int) (w : World) :
 Calls prog 290 #[.agg #[.int .i64 pl, .int .i64 x, .int .i64 y]] w fun e w' => e = .returned (rq 22 pl 0 0 (some ⟨w.heap.size + 1 + 1, 0, none⟩) none 2 0 2 0) /\ aQ w' (some ⟨w.heap.size + 1 + 1, 0, none⟩) [x, y] /\ Below w.heap.size w w' := by
 go_enter func290, ntmps290
 go_wp2
 refine bodyPost_ret (v := rq 22 pl 0 0 (some ⟨w.heap.size + 1 + 1, 0, none⟩) none 2 0 2 0) (by simp [results, results290, go_sem]) rfl ?_
 exact ⟨rfl, rC _ x y (by simp), ak (ak (ac _ _) (ac _ _)) (ac _ _)⟩
theorem u4 (pl nn wa : Int) (a1 : Option Addr) (l1 c1 : Nat) (w : World) :
 Calls prog 291 #[.agg #[.int .i64 pl, .int .i64 nn, .int .i64 wa, .slice a1 l1 c1]] w fun e w' => e = .returned (rq 23 pl nn wa a1 none l1 0 c1 0) /\ Below w.heap.size w w' := by
 go_enter func291, ntmps291
 go_wp2
 refine bodyPost_ret (v := rq 23 pl nn wa a1 none l1 0 c1 0) (by simp [results, results291, go_sem]) rfl ?_
 exact ⟨rfl, ak (ac _ _) (ac _ _)⟩
theorem eI (kd pl nn wa nn' wa' : Int) (a1 a2 a1' a2' : Option Addr) (l1 l2 c1 c2 l1' l2' c1' c2' : Nat) (w : World) (hne : ¬ nn = nn') :
 Calls prog 206 #[rq kd pl nn wa a1 a2 l1 l2 c1 c2, rq kd pl nn' wa' a1' a2' l1' l2' c1' c2'] w fun e w' => e = .returned (.bool false) /\ Below w.heap.size w w' := by
 obtain ⟨W0, hW0'⟩ : ∃ W0, W0 = (w.alloc (.cells #[.int .i64 kd, .int .i64 pl, .int .i64 nn, .slice a1 l1 c1, .slice a2 l2 c2, .int .i64 wa] 84)).alloc (.cells #[.int .i64 kd, .int .i64 pl, .int .i64 nn', .slice a1' l1' c1', .slice a2' l2' c2', .int .i64 wa'] 84) := ⟨_, rfl⟩
 have hW0 : Hid (W0 = _) := hW0'
 have B0 : Below w.heap.size w W0 := by rw [hW0']; exact ak (ac w _) (ac _ _)
 have X0 : ag W0 w.heap.size 84 #[.int .i64 kd, .int .i64 pl, .int .i64 nn, .slice a1 l1 c1, .slice a2 l2 c2, .int .i64 wa] := by rw [hW0']; exact (ag.new w _ _).below (ac _ _)
 have Y0 : ag W0 (w.heap.size + 1) 84 #[.int .i64 kd, .int .i64 pl, .int .i64 nn', .slice a1' l1' c1', .slice a2' l2' c2', .int .i64 wa'] := by
  rw [hW0']; have := ag.new (w.alloc (.cells #[.int .i64 kd, .int .i64 pl, .int .i64 nn, .slice a1 l1 c1, .slice a2 l2 c2, .int .i64 wa] 84)) #[.int .i64 kd, .int .i64 pl, .int .i64 nn', .slice a1' l1' c1', .slice a2' l2' c2', .int .i64 wa'] 84; simpa using this
 obtain ⟨x0, x1, x2, x3, x4, x5⟩ := X0.six
 obtain ⟨y0, y1, y2, y3, y4, y5⟩ := Y0.six
 clear hW0'
 go_enter func206, ntmps206
 go_upto_region 1 with fail
 rw [<- hW0.out]
 go_wp2
 go_ret
 exact ⟨rfl, B0⟩
theorem db (kd pl nn wa nn' wa' : Int) (a1 a2 a1' a2' : Option Addr) (l1 l2 c1 c2 l1' l2' c1' c2' : Nat) (w : World) (hn : nn' = nn) (hne : ¬ wa = wa') :
 Calls prog 206 #[rq kd pl nn wa a1 a2 l1 l2 c1 c2, rq kd pl nn' wa' a1' a2' l1' l2' c1' c2'] w fun e w' => e = .returned (.bool false) /\ Below w.heap.size w w' := by
 obtain ⟨W0, hW0'⟩ : ∃ W0, W0 = (w.alloc (.cells #[.int .i64 kd, .int .i64 pl, .int .i64 nn, .slice a1 l1 c1, .slice a2 l2 c2, .int .i64 wa] 84)).alloc (.cells #[.int .i64 kd, .int .i64 pl, .int .i64 nn', .slice a1' l1' c1', .slice a2' l2' c2', .int .i64 wa'] 84) := ⟨_, rfl⟩
 have hW0 : Hid (W0 = _) := hW0'
 have B0 : Below w.heap.size w W0 := by rw [hW0']; exact ak (ac w _) (ac _ _)
 have X0 : ag W0 w.heap.size 84 #[.int .i64 kd, .int .i64 pl, .int .i64 nn, .slice a1 l1 c1, .slice a2 l2 c2, .int .i64 wa] := by rw [hW0']; exact (ag.new w _ _).below (ac _ _)
 have Y0 : ag W0 (w.heap.size + 1) 84 #[.int .i64 kd, .int .i64 pl, .int .i64 nn', .slice a1' l1' c1', .slice a2' l2' c2', .int .i64 wa'] := by
  rw [hW0']; have := ag.new (w.alloc (.cells #[.int .i64 kd, .int .i64 pl, .int .i64 nn, .slice a1 l1 c1, .slice a2 l2 c2, .int .i64 wa] 84)) #[.int .i64 kd, .int .i64 pl, .int .i64 nn', .slice a1' l1' c1', .slice a2' l2' c2', .int .i64 wa'] 84; simpa using this
 obtain ⟨x0, x1, x2, x3, x4, x5⟩ := X0.six
 obtain ⟨y0, y1, y2, y3, y4, y5⟩ := Y0.six
 subst hn
 clear hW0'
 go_enter func206, ntmps206
 go_upto_region 1 with fail
 rw [<- hW0.out]
 go_wp2
 go_ret
 exact ⟨rfl, B0⟩
theorem dU (kd pl nn wa nn' wa' : Int) (a1 a2 a1' a2' : Option Addr) (l1 l2 c1 c2 l1' l2' c1' c2' : Nat) (w : World) (hn : nn' = nn) (hw : wa' = wa) (hne : ¬ (l1 : Int) = (l1' : Int)) (h1 : l1 <= 20000000) (h1' : l1' <= 20000000) :
 Calls prog 206 #[rq kd pl nn wa a1 a2 l1 l2 c1 c2, rq kd pl nn' wa' a1' a2' l1' l2' c1' c2'] w fun e w' => e = .returned (.bool false) /\ Below w.heap.size w w' := by
 obtain ⟨W0, hW0'⟩ : ∃ W0, W0 = (w.alloc (.cells #[.int .i64 kd, .int .i64 pl, .int .i64 nn, .slice a1 l1 c1, .slice a2 l2 c2, .int .i64 wa] 84)).alloc (.cells #[.int .i64 kd, .int .i64 pl, .int .i64 nn', .slice a1' l1' c1', .slice a2' l2' c2', .int .i64 wa'] 84) := ⟨_, rfl⟩
 have hW0 : Hid (W0 = _) := hW0'
 have B0 : Below w.heap.size w W0 := by rw [hW0']; exact ak (ac w _) (ac _ _)
 have X0 : ag W0 w.heap.size 84 #[.int .i64 kd, .int .i64 pl, .int .i64 nn, .slice a1 l1 c1, .slice a2 l2 c2, .int .i64 wa] := by rw [hW0']; exact (ag.new w _ _).below (ac _ _)
 have Y0 : ag W0 (w.heap.size + 1) 84 #[.int .i64 kd, .int .i64 pl, .int .i64 nn', .slice a1' l1' c1', .slice a2' l2' c2', .int .i64 wa'] := by
  rw [hW0']; have := ag.new (w.alloc (.cells #[.int .i64 kd, .int .i64 pl, .int .i64 nn, .slice a1 l1 c1, .slice a2 l2 c2, .int .i64 wa] 84)) #[.int .i64 kd, .int .i64 pl, .int .i64 nn', .slice a1' l1' c1', .slice a2' l2' c2', .int .i64 wa'] 84; simpa using this
 obtain ⟨x0, x1, x2, x3, x4, x5⟩ := X0.six
 obtain ⟨y0, y1, y2, y3, y4, y5⟩ := Y0.six
 subst hn hw
 clear hW0'
 go_enter func206, ntmps206
 go_upto_region 1 with fail
 rw [<- hW0.out]
 go_wp2_with fail
 refine (fz _ _ _ _ _ _ _ hne h1 h1').mono ?_
 rintro e w1 ⟨rfl, b'⟩
 go_wp2
 go_ret
 exact ⟨rfl, ak B0 b'⟩
theorem dp (kd pl nn wa nn' wa' : Int) (a1 a2 a1' a2' : Option Addr) (l1 l2 c1 c2 l1' l2' c1' c2' : Nat) (w : World) (hn : nn' = nn) (hw : wa' = wa) (ws : List Int) (h1 : l1 = ws.length) (h1' : l1' = ws.length) (s1 : aQ w a1 ws) (s1' : aQ w a1' ws) (hl1 : ws.length <= 2000000) (hne : ¬ (l2 : Int) = (l2' : Int)) (h2 : l2 <= 20000000) (h2' : l2' <= 20000000) :
 Calls prog 206 #[rq kd pl nn wa a1 a2 l1 l2 c1 c2, rq kd pl nn' wa' a1' a2' l1' l2' c1' c2'] w fun e w' => e = .returned (.bool false) /\ Below w.heap.size w w' := by
 obtain ⟨W0, hW0'⟩ : ∃ W0, W0 = (w.alloc (.cells #[.int .i64 kd, .int .i64 pl, .int .i64 nn, .slice a1 l1 c1, .slice a2 l2 c2, .int .i64 wa] 84)).alloc (.cells #[.int .i64 kd, .int .i64 pl, .int .i64 nn', .slice a1' l1' c1', .slice a2' l2' c2', .int .i64 wa'] 84) := ⟨_, rfl⟩
 have hW0 : Hid (W0 = _) := hW0'
 have B0 : Below w.heap.size w W0 := by rw [hW0']; exact ak (ac w _) (ac _ _)
 have X0 : ag W0 w.heap.size 84 #[.int .i64 kd, .int .i64 pl, .int .i64 nn, .slice a1 l1 c1, .slice a2 l2 c2, .int .i64 wa] := by rw [hW0']; exact (ag.new w _ _).below (ac _ _)
 have Y0 : ag W0 (w.heap.size + 1) 84 #[.int .i64 kd, .int .i64 pl, .int .i64 nn', .slice a1' l1' c1', .slice a2' l2' c2', .int .i64 wa'] := by
  rw [hW0']; have := ag.new (w.alloc (.cells #[.int .i64 kd, .int .i64 pl, .int .i64 nn, .slice a1 l1 c1, .slice a2 l2 c2, .int .i64 wa] 84)) #[.int .i64 kd, .int .i64 pl, .int .i64 nn', .slice a1' l1' c1', .slice a2' l2' c2', .int .i64 wa'] 84; simpa using this
 obtain ⟨x0, x1, x2, x3, x4, x5⟩ := X0.six
 obtain ⟨y0, y1, y2, y3, y4, y5⟩ := Y0.six
 subst hn hw
 have HH : Hid (l1 = ws.length /\ l1' = ws.length /\ aQ W0 a1 ws /\ aQ W0 a1' ws) := ⟨h1, h1', s1.below B0, s1'.below B0⟩
 clear h1 h1' s1 s1'
 clear hW0'
 go_enter func206, ntmps206
 go_upto_region 1 with fail
 rw [<- hW0.out]
 go_wp2_with fail
 refine (fq _ _ _ _ _ _ ws _ HH.out.1 HH.out.2.1 HH.out.2.2.1 HH.out.2.2.2 hl1).mono ?_
 rintro e w1 ⟨rfl, b'⟩
 have b1 := ak B0 b'
 obtain ⟨x0, x1, x2, x3, x4, x5⟩ := (X0.below b').six
 obtain ⟨y0, y1, y2, y3, y4, y5⟩ := (Y0.below b').six
 go_wp2_with fail
 refine (fh _ _ _ _ _ _ _ hne h2 h2').mono ?_
 rintro e w2 ⟨rfl, b2'⟩
 go_wp2
 go_ret
 exact ⟨rfl, ak b1 b2'⟩
theorem cR (kd pl nn wa nn' wa' : Int) (a1 a2 a1' a2' : Option Addr) (l1 l2 c1 c2 l1' l2' c1' c2' : Nat) (w : World) (hn : nn' = nn) (hw : wa' = wa) (ws : List Int) (h1 : l1 = ws.length) (h1' : l1' = ws.length) (s1 : aQ w a1 ws) (s1' : aQ w a1' ws) (hl1 : ws.length <= 2000000) (bs : List Bool) (h2 : l2 = bs.length) (h2' : l2' = bs.length) (s2 : aW w a2 bs) (s2' : aW w a2' bs) (hl2 : bs.length <= 2000000) :
 Calls prog 206 #[rq kd pl nn wa a1 a2 l1 l2 c1 c2, rq kd pl nn' wa' a1' a2' l1' l2' c1' c2'] w fun e w' => e = .returned (.bool true) /\ Below w.heap.size w w' := by
 obtain ⟨W0, hW0'⟩ : ∃ W0, W0 = (w.alloc (.cells #[.int .i64 kd, .int .i64 pl, .int .i64 nn, .slice a1 l1 c1, .slice a2 l2 c2, .int .i64 wa] 84)).alloc (.cells #[.int .i64 kd, .int .i64 pl, .int .i64 nn', .slice a1' l1' c1', .slice a2' l2' c2', .int .i64 wa'] 84) := ⟨_, rfl⟩
 have hW0 : Hid (W0 = _) := hW0'
 have B0 : Below w.heap.size w W0 := by rw [hW0']; exact ak (ac w _) (ac _ _)
 have X0 : ag W0 w.heap.size 84 #[.int .i64 kd, .int .i64 pl, .int .i64 nn, .slice a1 l1 c1, .slice a2 l2 c2, .int .i64 wa] := by rw [hW0']; exact (ag.new w _ _).below (ac _ _)
 have Y0 : ag W0 (w.heap.size + 1) 84 #[.int .i64 kd, .int .i64 pl, .int .i64 nn', .slice a1' l1' c1', .slice a2' l2' c2', .int .i64 wa'] := by
  rw [hW0']; have := ag.new (w.alloc (.cells #[.int .i64 kd, .int .i64 pl, .int .i64 nn, .slice a1 l1 c1, .slice a2 l2 c2, .int .i64 wa] 84)) #[.int .i64 kd, .int .i64 pl, .int .i64 nn', .slice a1' l1' c1', .slice a2' l2' c2', .int .i64 wa'] 84; simpa using this
 obtain ⟨x0, x1, x2, x3, x4, x5⟩ := X0.six
 obtain ⟨y0, y1, y2, y3, y4, y5⟩ := Y0.six
 subst hn hw
 have HH : Hid (l1 = ws.length /\ l1' = ws.length /\ aQ W0 a1 ws /\ aQ W0 a1' ws) := ⟨h1, h1', s1.below B0, s1'.below B0⟩
 clear h1 h1' s1 s1'
 have HB : Hid (l2 = bs.length /\ l2' = bs.length /\ aW W0 a2 bs /\ aW W0 a2' bs) := ⟨h2, h2', s2.below B0, s2'.below B0⟩
 clear h2 h2' s2 s2'
 clear hW0'
 go_enter func206, ntmps206
 go_upto_region 1 with fail
 rw [<- hW0.out]
 go_wp2_with fail
 refine (fq _ _ _ _ _ _ ws _ HH.out.1 HH.out.2.1 HH.out.2.2.1 HH.out.2.2.2 hl1).mono ?_
 rintro e w1 ⟨rfl, b'⟩
 have b1 := ak B0 b'
 obtain ⟨x0, x1, x2, x3, x4, x5⟩ := (X0.below b').six
 obtain ⟨y0, y1, y2, y3, y4, y5⟩ := (Y0.below b').six
 go_wp2_with fail
 refine (gS _ _ _ _ _ _ bs _ HB.out.1 HB.out.2.1 (HB.out.2.2.1.below b') (HB.out.2.2.2.below b') hl2).mono ?_
 rintro e w2 ⟨rfl, b2'⟩
 go_wp2
 go_ret
 exact ⟨rfl, ak b1 b2'⟩
def pv (bits : List Bool) : Nat -> Nat -> Int
 | 0, _ => 0
 | k + 1, j => if k / 8 = j /\ bits.getD k false = true then pv bits k j + (2 ^ (k % 8) : Nat) else pv bits k j
theorem dV (x : Int) (w : World) (h0 : 0 <= x) (h1 : x <= 9223372036854775807) :
 Calls prog 257 #[.int .i64 x] w fun e w' => e = .returned (.int .i64 ((x + 7) / 8)) /\ w' = w := by
 by_cases h : x % 8 = 0
 ·have e : (x + 7) / 8 = x / 8 := by omega
  rw [e]
  have h' : (x % 8 == 0) = true := by simp [h]
  clear e
  go_enter func257, ntmps257
  go_wp2
  go_ret
  exact ⟨rfl, rfl⟩
 have e : (x + 7) / 8 = x / 8 + 1 := by omega
 rw [e]
 have h' : (x % 8 == 0) = false := by simp [h]
 clear e
 go_enter func257, ntmps257
 go_wp2
 go_ret
 exact ⟨rfl, rfl⟩
theorem eU {α : Type} [DecidableEq α] (d : α) : ∀ (zs ys : List α), zs.length = ys.length -> zs ≠ ys -> ∃ k, k < zs.length /\ zs.getD k d ≠ ys.getD k d /\ ∀ j, j < k -> zs.getD j d = ys.getD j d
 | [], [], _, h => absurd rfl h
 | [], _ :: _, h, _ => by simp at h
 | _ :: _, [], h, _ => by simp at h
 | x :: r, y :: s, hl, hne => by
  by_cases e : x = y
  ·subst e
   obtain ⟨k, h1, h2, h3⟩ := eU d r s (by simpa using hl) (fun h => hne (by rw [h]))
   refine ⟨k + 1, by simp; omega, by simpa using h2, fun j hj => ?_⟩
   cases j with
   | zero => simp
   | succ j => simpa using h3 j (by omega)
  exact ⟨0, by simp, by simpa using e, fun j hj => by omega⟩
theorem mH (a a' : Option Addr) (n n' cap cap' : Nat) (zs ys : List Int) (w : World) (hn : n = zs.length) (hn' : n' = zs.length) (hy : zs.length = ys.length) (hs : aQ w a zs) (hs' : aQ w a' ys) (hl : zs.length <= 2000000) (hne : zs ≠ ys) :
 Calls prog 241 #[.slice a n cap, .slice a' n' cap'] w fun e w' => e = .returned (.bool false) /\ Below w.heap.size w w' := by
 subst hn hn'
 obtain ⟨d, hd, hdn, hdj⟩ := eU 0 zs ys hy hne
 have HY : Hid (zs.length = ys.length) := hy
 have HD : Hid (∀ j, j < d -> zs.getD j 0 = ys.getD j 0) := hdj
 clear hy hdj hne
 go_enter func241, ntmps241
 go_wp2
 go_loopw [13] (fun i wr => ∃ k : Nat, k <= d /\ i = .int .i64 k /\ ∃ n, wr = w.drewN n) (fun i _ => d - (intOf i).toNat)
 case atStart => exact ⟨0, Nat.zero_le _, rfl, 0, rfl⟩
 case round =>
  obtain ⟨k, hk, rfl, n, rfl⟩ := hrel
  have hlt : k < zs.length := by omega
  obtain ⟨b, off, rfl, _, hc⟩ := ci hs hlt
  obtain ⟨b', off', rfl, _, hc'⟩ := ci hs' (show k < ys.length by have := HY.out; omega)
  have hi : (k : Int) < (zs.length : Int) := by omega
  by_cases hkd : k < d
  ·rw [<- HD.out k hkd] at hc'
   clear hs hs'
   go_wp2
   go_quiet (fail)
   go_wp2
   go_roundw
   case rel => first | exact ⟨k + 1, by omega, by go_num, _, rfl⟩ | exact ⟨_, _, ⟨k + 1, by omega, by go_num, _, rfl⟩, rfl, rfl⟩
   case measure => simp [intOf]; omega
  obtain rfl : k = d := by omega
  clear hs hs'
  generalize zs.getD k 0 = x at *
  generalize ys.getD k 0 = y at *
  go_wp2
  go_quiet (fail)
  go_wp2
  go_ret
  exact ⟨rfl, dz (cy _ _) _⟩
theorem lD (a a' : Option Addr) (n n' cap cap' : Nat) (zs ys : List Bool) (w : World) (hn : n = zs.length) (hn' : n' = zs.length) (hy : zs.length = ys.length) (hs : aW w a zs) (hs' : aW w a' ys) (hl : zs.length <= 2000000) (hne : zs ≠ ys) :
 Calls prog 242 #[.slice a n cap, .slice a' n' cap'] w fun e w' => e = .returned (.bool false) /\ Below w.heap.size w w' := by
 subst hn hn'
 obtain ⟨d, hd, hdn, hdj⟩ := eU false zs ys hy hne
 have HY : Hid (zs.length = ys.length) := hy
 have HD : Hid (∀ j, j < d -> zs.getD j false = ys.getD j false) := hdj
 clear hy hdj hne
 go_enter func242, ntmps242
 go_wp2
 go_loopw [13] (fun i wr => ∃ k : Nat, k <= d /\ i = .int .i64 k /\ ∃ n, wr = w.drewN n) (fun i _ => d - (intOf i).toNat)
 case atStart => exact ⟨0, Nat.zero_le _, rfl, 0, rfl⟩
 case round =>
  obtain ⟨k, hk, rfl, n, rfl⟩ := hrel
  have hlt : k < zs.length := by omega
  obtain ⟨b, off, rfl, _, hc⟩ := bY hs hlt
  obtain ⟨b', off', rfl, _, hc'⟩ := bY hs' (show k < ys.length by have := HY.out; omega)
  have hi : (k : Int) < (zs.length : Int) := by omega
  by_cases hkd : k < d
  ·rw [<- HD.out k hkd] at hc'
   clear hs hs'
   go_wp2
   go_quiet (fail)
   go_wp2
   go_roundw
   case rel => first | exact ⟨k + 1, by omega, by go_num, _, rfl⟩ | exact ⟨_, _, ⟨k + 1, by omega, by go_num, _, rfl⟩, rfl, rfl⟩
   case measure => simp [intOf]; omega
  obtain rfl : k = d := by omega
  clear hs hs'
  generalize zs.getD k false = x at *
  generalize ys.getD k false = y at *
  obtain rfl : y = !x := by cases x <;> cases y <;> simp_all
  clear hdn
  cases x
  all_goals (
   go_wp2
   go_quiet (fail)
   go_wp2
   go_ret
   exact ⟨rfl, dz (cy _ _) _⟩)
theorem fA (a a' : Option Addr) (n n' cap cap' : Nat) (zs ys : List Int) (w : World) (hn : n = zs.length) (hn' : n' = ys.length) (hs : aQ w a zs) (hs' : aQ w a' ys) (hl : zs.length <= 2000000) (hl' : ys.length <= 2000000) (b : Bool) (hb : decide (zs = ys) = b) :
 Calls prog 241 #[.slice a n cap, .slice a' n' cap'] w fun e w' => e = .returned (.bool b) /\ Below w.heap.size w w' := by
 subst hb
 by_cases h : zs = ys
 ·subst h
  rw [decide_eq_true rfl]
  exact fq a a' n n' cap cap' zs w hn hn' hs hs' hl
 rw [decide_eq_false h]
 by_cases hy : zs.length = ys.length
 ·exact mH a a' n n' cap cap' zs ys w hn (hn'.trans hy.symm) hy hs hs' hl h
 exact fz a a' n n' cap cap' w (by omega) (by omega) (by omega)
theorem fi (a a' : Option Addr) (n n' cap cap' : Nat) (zs ys : List Bool) (w : World) (hn : n = zs.length) (hn' : n' = ys.length) (hs : aW w a zs) (hs' : aW w a' ys) (hl : zs.length <= 2000000) (hl' : ys.length <= 2000000) (b : Bool) (hb : decide (zs = ys) = b) :
 Calls prog 242 #[.slice a n cap, .slice a' n' cap'] w fun e w' => e = .returned (.bool b) /\ Below w.heap.size w w' := by
 subst hb
 by_cases h : zs = ys
 ·subst h
  rw [decide_eq_true rfl]
  exact gS a a' n n' cap cap' zs w hn hn' hs hs' hl
 rw [decide_eq_false h]
 by_cases hy : zs.length = ys.length
 ·exact lD a a' n n' cap cap' zs ys w hn (hn'.trans hy.symm) hy hs hs' hl h
 exact fh a a' n n' cap cap' w (by omega) (by omega) (by omega)
theorem gf (a a' : Option Addr) (n n' cap cap' : Nat) (zs ys : List Int) (w : World) (hn : n = zs.length) (hn' : n' = ys.length) (hs : aQ w a zs) (hs' : aQ w a' ys) (hl : zs.length <= 2000000) (hl' : ys.length <= 2000000) (b : Bool) (hb : decide (zs = ys) = b) :
 Calls prog 136 #[.slice a n cap, .slice a' n' cap'] w fun e w' => e = .returned (.bool b) /\ Below w.heap.size w w' := by
 subst hb hn hn'
 by_cases hy : zs.length = ys.length
 ·have hyi : (zs.length : Int) = (ys.length : Int) := by omega
  have HY : Hid (zs.length = ys.length) := hy
  by_cases h : zs = ys
  ·subst h
   rw [decide_eq_true rfl]
   clear hy hyi
   go_enter func136, ntmps136
   go_wp2
   go_loopw [5] (fun i wr => ∃ k : Nat, k <= zs.length /\ i = .int .i64 k /\ ∃ n, wr = w.drewN n) (fun i _ => zs.length - (intOf i).toNat)
   case atStart => exact ⟨0, Nat.zero_le _, rfl, 0, rfl⟩
   case round =>
    obtain ⟨k, hk, rfl, n, rfl⟩ := hrel
    by_cases hlt : k < zs.length
    ·obtain ⟨b, off, rfl, _, hc⟩ := ci hs hlt
     obtain ⟨b', off', rfl, _, hc'⟩ := ci hs' hlt
     have hi : (k : Int) < (zs.length : Int) := by omega
     clear hs hs'
     go_wp2
     go_quiet (fail)
     go_wp2
     go_roundw
     case rel => first | exact ⟨k + 1, by omega, by go_num, _, rfl⟩ | exact ⟨_, _, ⟨k + 1, by omega, by go_num, _, rfl⟩, rfl, rfl⟩
     case measure => simp [intOf]; omega
    clear hs hs'
    go_wp2
    go_ret
    exact ⟨rfl, cy _ _⟩
  rw [decide_eq_false h]
  obtain ⟨d, hd, hdn, hdj⟩ := eU 0 zs ys hy h
  have HD : Hid (∀ j, j < d -> zs.getD j 0 = ys.getD j 0) := hdj
  clear hdj h
  rw [<- hy]
  clear hy hyi
  go_enter func136, ntmps136
  go_wp2
  go_loopw [5] (fun i wr => ∃ k : Nat, k <= d /\ i = .int .i64 k /\ ∃ n, wr = w.drewN n) (fun i _ => d - (intOf i).toNat)
  case atStart => exact ⟨0, Nat.zero_le _, rfl, 0, rfl⟩
  case round =>
   obtain ⟨k, hk, rfl, n, rfl⟩ := hrel
   have hlt : k < zs.length := by omega
   obtain ⟨b, off, rfl, _, hc⟩ := ci hs hlt
   obtain ⟨b', off', rfl, _, hc'⟩ := ci hs' (show k < ys.length by have := HY.out; omega)
   have hi : (k : Int) < (zs.length : Int) := by omega
   by_cases hkd : k < d
   ·rw [<- HD.out k hkd] at hc'
    clear hs hs'
    go_wp2
    go_quiet (fail)
    go_wp2
    go_roundw
    case rel => first | exact ⟨k + 1, by omega, by go_num, _, rfl⟩ | exact ⟨_, _, ⟨k + 1, by omega, by go_num, _, rfl⟩, rfl, rfl⟩
    case measure => simp [intOf]; omega
   obtain rfl : k = d := by omega
   clear hs hs'
   generalize zs.getD k 0 = x at *
   generalize ys.getD k 0 = y at *
   go_wp2
   go_quiet (fail)
   go_wp2
   go_ret
   exact ⟨rfl, dz (cy _ _) _⟩
 rw [decide_eq_false (fun h => hy (by rw [h]))]
 have hyi : ¬ (zs.length : Int) = (ys.length : Int) := by omega
 clear hs hs' hy
 go_enter func136, ntmps136
 go_wp2
 go_ret
 exact ⟨rfl, Below.refl _ _⟩
def eV (bs : List Bool) (n : Nat) : Bool := decide (∀ k, k < bs.length -> n <= k -> bs.getD k false = false)
theorem qq {bs : List Bool} {n k : Nat} (h1 : n <= k) (h2 : k < bs.length) (h : bs.getD k false = true) : eV bs n = false :=
 decide_eq_false (fun hh => by rw [hh k h2 h1] at h; cases h)
theorem oY (a : Option Addr) (n cap : Nat) (zs : List Bool) (w : World) (hn : n = zs.length) (hs : aW w a zs) (hl : zs.length <= 2000000) :
 Calls prog 263 #[.slice a n cap, .bool true] w fun e w' => ∃ i : Int, e = .returned (.int .i64 i) /\ decide (i ≥ 0) = !eV zs 0 /\ Below w.heap.size w w' := by
 subst hn
 go_enter func263, ntmps263
 go_wp2
 go_loopw [8] (fun i wr => ∃ k : Nat, k <= zs.length /\ i = .int .i64 k /\ (∀ j, j < k -> zs.getD j false = false) /\ wr = w) (fun i _ => zs.length - (intOf i).toNat)
 case atStart => exact ⟨0, Nat.zero_le _, rfl, fun j hj => by omega, rfl⟩
 case round =>
  obtain ⟨k, hk, rfl, hz, rfl⟩ := hrel
  have HZ : Hid (∀ j, j < k -> zs.getD j false = false) := hz
  clear hz
  by_cases hlt : k < zs.length
  ·obtain ⟨b, off, rfl, _, hc⟩ := bY hs hlt
   have hi : (k : Int) < (zs.length : Int) := by omega
   cases hx : zs.getD k false
   ·rw [hx] at hc
    have HN : Hid (∀ j, j < k + 1 -> zs.getD j false = false) := by
     intro j hj
     by_cases h : j < k
     ·exact HZ.out j h
     rw [show j = k by omega]; exact hx
    clear hs hx
    go_wp2
    go_roundw
    case rel => exact ⟨k + 1, by omega, by go_num, HN.out, trivial⟩
    case measure => simp [intOf]; omega
   rw [hx] at hc
   have HX : Hid (eV zs 0 = false) := qq (Nat.zero_le _) hlt hx
   clear hs hx
   go_wp2
   go_ret
   exact ⟨k, rfl, by rw [HX.out]; simp, Below.refl _ _⟩
  have HX : Hid (eV zs 0 = true) := decide_eq_true (fun j hj _ => HZ.out j (by omega))
  clear hs
  go_wp2
  go_ret
  exact ⟨-1, rfl, by rw [HX.out]; rfl, Below.refl _ _⟩
theorem ez (a : Option Addr) (n cap : Nat) (zs : List Bool) (w : World) (hn : n = zs.length) (hs : aW w a zs) (hl : zs.length <= 2000000) (b : Bool) (hb : eV zs 0 = b) :
 Calls prog 258 #[.slice a n cap, .bool true] w fun e w' => e = .returned (.bool (!b)) /\ Below w.heap.size w w' := by
 have HS : Hid (aW w a zs /\ n = zs.length) := ⟨hs, hn⟩
 have HB : Hid (eV zs 0 = b) := hb
 clear hs hn hb
 go_enter func258, ntmps258
 go_wp2_with fail
 refine (oY a n cap zs _ HS.out.2 HS.out.1 hl).mono ?_
 rintro e w1 ⟨i, rfl, hi, b'⟩
 rw [HB.out] at hi
 have HI : Hid (decide (i ≥ 0) = !b) := hi
 clear hi
 go_wp2
 go_ret
 exact ⟨by first | (rw [<- HI.out]; rfl) | exact congrArg (fun x => Ending.returned (Value.bool x)) HI.out, b'⟩
theorem ky (a a' : Option Addr) (n n' cap cap' : Nat) (zs ys : List Bool) (w : World) (hn : n = zs.length) (hn' : n' = ys.length) (hs : aW w a zs) (hs' : aW w a' ys) (hl : zs.length <= 2000000) (hl' : ys.length <= 2000000) (b : Bool) (hb : decide (zs = ys) = b) :
 Calls prog 137 #[.slice a n cap, .slice a' n' cap'] w fun e w' => e = .returned (.bool b) /\ Below w.heap.size w w' := by
 subst hb hn hn'
 by_cases hy : zs.length = ys.length
 ·have hyi : (zs.length : Int) = (ys.length : Int) := by omega
  have HY : Hid (zs.length = ys.length) := hy
  by_cases h : zs = ys
  ·subst h
   rw [decide_eq_true rfl]
   clear hy hyi
   go_enter func137, ntmps137
   go_wp2
   go_loopw [5] (fun i wr => ∃ k : Nat, k <= zs.length /\ i = .int .i64 k /\ ∃ n, wr = w.drewN n) (fun i _ => zs.length - (intOf i).toNat)
   case atStart => exact ⟨0, Nat.zero_le _, rfl, 0, rfl⟩
   case round =>
    obtain ⟨k, hk, rfl, n, rfl⟩ := hrel
    by_cases hlt : k < zs.length
    ·obtain ⟨b, off, rfl, _, hc⟩ := bY hs hlt
     obtain ⟨b', off', rfl, _, hc'⟩ := bY hs' hlt
     have hi : (k : Int) < (zs.length : Int) := by omega
     clear hs hs'
     go_wp2
     go_quiet (fail)
     go_wp2
     go_roundw
     case rel => first | exact ⟨k + 1, by omega, by go_num, _, rfl⟩ | exact ⟨_, _, ⟨k + 1, by omega, by go_num, _, rfl⟩, rfl, rfl⟩
     case measure => simp [intOf]; omega
    clear hs hs'
    go_wp2
    go_ret
    exact ⟨rfl, cy _ _⟩
  rw [decide_eq_false h]
  obtain ⟨d, hd, hdn, hdj⟩ := eU false zs ys hy h
  have HD : Hid (∀ j, j < d -> zs.getD j false = ys.getD j false) := hdj
  clear hdj h
  rw [<- hy]
  clear hy hyi
  go_enter func137, ntmps137
  go_wp2
  go_loopw [5] (fun i wr => ∃ k : Nat, k <= d /\ i = .int .i64 k /\ ∃ n, wr = w.drewN n) (fun i _ => d - (intOf i).toNat)
  case atStart => exact ⟨0, Nat.zero_le _, rfl, 0, rfl⟩
  case round =>
   obtain ⟨k, hk, rfl, n, rfl⟩ := hrel
   have hlt : k < zs.length := by omega
   obtain ⟨b, off, rfl, _, hc⟩ := bY hs hlt
   obtain ⟨b', off', rfl, _, hc'⟩ := bY hs' (show k < ys.length by have := HY.out; omega)
   have hi : (k : Int) < (zs.length : Int) := by omega
   by_cases hkd : k < d
   ·rw [<- HD.out k hkd] at hc'
    clear hs hs'
    go_wp2
    go_quiet (fail)
    go_wp2
    go_roundw
    case rel => first | exact ⟨k + 1, by omega, by go_num, _, rfl⟩ | exact ⟨_, _, ⟨k + 1, by omega, by go_num, _, rfl⟩, rfl, rfl⟩
    case measure => simp [intOf]; omega
   obtain rfl : k = d := by omega
   clear hs hs'
   generalize zs.getD k false = x at *
   generalize ys.getD k false = y at *
   obtain rfl : y = !x := by cases x <;> cases y <;> simp_all
   clear hdn
   cases x
   all_goals (
    go_wp2
    go_quiet (fail)
    go_wp2
    go_ret
    exact ⟨rfl, dz (cy _ _) _⟩)
 rw [decide_eq_false (fun h => hy (by rw [h]))]
 have hyi : ¬ (zs.length : Int) = (ys.length : Int) := by omega
 clear hs hs' hy
 go_enter func137, ntmps137
 go_wp2
 go_ret
 exact ⟨rfl, Below.refl _ _⟩
def dh (l1 l2 l3 l4 : Nat) (hs rs : List Int) : Bool := decide (l1 <= 64 /\ l2 <= 64 /\ l3 <= 64 /\ l4 <= 64) && (bN hs && bN rs)
theorem jm (a1 a2 a3 a4 : Option Addr) (l1 l2 l3 l4 c1 c2 c3 c4 : Nat) (cs is : List Bool) (hs rs : List Int) (w : World) (hn : uZ l1 l2 l3 l4 cs is hs rs) (hs0 : uY w a1 a2 a3 a4 cs is hs rs) (hl : rQ 2000000 cs is hs rs) (b : Bool) (hb : dh l1 l2 l3 l4 hs rs = b) :
 Calls prog 116 #[dv a1 a2 a3 a4 l1 l2 l3 l4 c1 c2 c3 c4] w fun e w' => e = .returned (.bool b) /\ Below w.heap.size w w' := by
 have b0 := ac w (.cells #[.slice a1 l1 c1, .slice a2 l2 c2, .slice a3 l3 c3, .slice a4 l4 c4] 178)
 have HS : Hid (aQ (w.alloc (.cells #[.slice a1 l1 c1, .slice a2 l2 c2, .slice a3 l3 c3, .slice a4 l4 c4] 178)) a3 hs /\ aQ (w.alloc (.cells #[.slice a1 l1 c1, .slice a2 l2 c2, .slice a3 l3 c3, .slice a4 l4 c4] 178)) a4 rs) := ⟨hs0.2.2.1.below b0, hs0.2.2.2.below b0⟩
 have HN : Hid (l3 = hs.length /\ l4 = rs.length /\ hs.length <= 2000000 /\ rs.length <= 2000000) := ⟨hn.2.2.1, hn.2.2.2, hl.2.2.1, hl.2.2.2⟩
 obtain ⟨k1, k2, k3, k4⟩ : l1 <= 2000000 /\ l2 <= 2000000 /\ l3 <= 2000000 /\ l4 <= 2000000 := by obtain ⟨e1, e2, e3, e4⟩ := hn; obtain ⟨f1, f2, f3, f4⟩ := hl; omega
 subst hb
 clear hn hs0 hl
 by_cases h1 : (l1 : Int) <= 64
 case neg =>
  rw [show dh l1 l2 l3 l4 hs rs = false by unfold dh; rw [decide_eq_false (by omega)]; rfl]
  go_enter func116, ntmps116
  go_wp2
  go_ret
  exact ⟨rfl, b0⟩
 by_cases h2 : (l2 : Int) <= 64
 case neg =>
  rw [show dh l1 l2 l3 l4 hs rs = false by unfold dh; rw [decide_eq_false (by omega)]; rfl]
  go_enter func116, ntmps116
  go_wp2
  go_ret
  exact ⟨rfl, b0⟩
 by_cases h3 : (l3 : Int) <= 64
 case neg =>
  rw [show dh l1 l2 l3 l4 hs rs = false by unfold dh; rw [decide_eq_false (by omega)]; rfl]
  go_enter func116, ntmps116
  go_wp2
  go_ret
  exact ⟨rfl, b0⟩
 by_cases h4 : (l4 : Int) <= 64
 case neg =>
  rw [show dh l1 l2 l3 l4 hs rs = false by unfold dh; rw [decide_eq_false (by omega)]; rfl]
  go_enter func116, ntmps116
  go_wp2
  go_ret
  exact ⟨rfl, b0⟩
 have hd : decide (l1 <= 64 /\ l2 <= 64 /\ l3 <= 64 /\ l4 <= 64) = true := decide_eq_true (by omega)
 cases e3 : bN hs
 ·rw [show dh l1 l2 l3 l4 hs rs = false by unfold dh; rw [hd, e3]; rfl]
  clear hd k1 k2 k3 k4
  go_enter func116, ntmps116
  go_wp2_with fail
  refine (da _ _ _ hs _ HN.out.1 HS.out.1 HN.out.2.2.1 _ e3).mono ?_
  rintro e wx ⟨rfl, rfl⟩
  go_wp2
  go_ret
  exact ⟨rfl, b0⟩
 cases e4 : bN rs
 ·rw [show dh l1 l2 l3 l4 hs rs = false by unfold dh; rw [hd, e3, e4]; rfl]
  clear hd k1 k2 k3 k4
  go_enter func116, ntmps116
  go_wp2_with fail
  refine (da _ _ _ hs _ HN.out.1 HS.out.1 HN.out.2.2.1 _ e3).mono ?_
  rintro e wx ⟨rfl, rfl⟩
  go_wp2_with fail
  refine (da _ _ _ rs _ HN.out.2.1 HS.out.2 HN.out.2.2.2 _ e4).mono ?_
  rintro e wx ⟨rfl, rfl⟩
  go_wp2
  go_ret
  exact ⟨rfl, b0⟩
 rw [show dh l1 l2 l3 l4 hs rs = true by unfold dh; rw [hd, e3, e4]; rfl]
 clear hd k1 k2 k3 k4
 go_enter func116, ntmps116
 go_wp2_with fail
 refine (da _ _ _ hs _ HN.out.1 HS.out.1 HN.out.2.2.1 _ e3).mono ?_
 rintro e wx ⟨rfl, rfl⟩
 go_wp2_with fail
 refine (da _ _ _ rs _ HN.out.2.1 HS.out.2 HN.out.2.2.2 _ e4).mono ?_
 rintro e wx ⟨rfl, rfl⟩
 go_wp2
 go_ret
 exact ⟨rfl, b0⟩
theorem u5 (x0 x1 x2 x3 : Int) (w : World) : (Instr.index 271 (.agg #[.int .i64 x0, .int .i64 x1, .int .i64 x2, .int .i64 x3]) (.int .i64 0)).run prog w = .ok (.int .i64 x0) w := by kernel_rfl
theorem u6 (x0 x1 x2 x3 : Int) (w : World) : (Instr.index 271 (.agg #[.int .i64 x0, .int .i64 x1, .int .i64 x2, .int .i64 x3]) (.int .i64 1)).run prog w = .ok (.int .i64 x1) w := by kernel_rfl
theorem u7 (x0 x1 x2 x3 : Int) (w : World) : (Instr.index 271 (.agg #[.int .i64 x0, .int .i64 x1, .int .i64 x2, .int .i64 x3]) (.int .i64 2)).run prog w = .ok (.int .i64 x2) w := by kernel_rfl
theorem vb (x0 x1 x2 x3 : Int) (w : World) : (Instr.index 271 (.agg #[.int .i64 x0, .int .i64 x1, .int .i64 x2, .int .i64 x3]) (.int .i64 3)).run prog w = .ok (.int .i64 x3) w := by kernel_rfl
theorem dW (a1 a2 a3 a4 : Option Addr) (l1 l2 l3 l4 c1 c2 c3 c4 : Nat) (w : World) (k1 : l1 <= 2000000) (k2 : l2 <= 2000000) (k3 : l3 <= 2000000) (k4 : l4 <= 2000000) :
 Calls prog 224 #[dv a1 a2 a3 a4 l1 l2 l3 l4 c1 c2 c3 c4] w fun e w' => e = .returned (.agg #[.int .i64 (l1 : Int), .int .i64 (l2 : Int), .int .i64 (l3 : Int), .int .i64 (l4 : Int)]) /\ Below w.heap.size w w' := by
 have b0 := ak (ac w (.cells #[.slice a1 l1 c1, .slice a2 l2 c2, .slice a3 l3 c3, .slice a4 l4 c4] 178)) (ac _ (.cells #[.int .i64 0, .int .i64 0, .int .i64 0, .int .i64 0] 271))
 go_enter func224, ntmps224
 go_wp2
 refine bodyPost_ret (v := .agg #[.int .i64 (l1 : Int), .int .i64 (l2 : Int), .int .i64 (l3 : Int), .int .i64 (l4 : Int)]) (by simp [results, results224, go_sem]) rfl ?_
 exact ⟨rfl, ak (ac _ _) (ac _ _)⟩
theorem jn (a1 a2 a3 a4 : Option Addr) (l1 l2 l3 l4 c1 c2 c3 c4 : Nat) (cs is : List Bool) (hs rs : List Int) (w : World) (hn : uZ l1 l2 l3 l4 cs is hs rs) (hs0 : uY w a1 a2 a3 a4 cs is hs rs) (hl : rQ 2000000 cs is hs rs) (b : Bool) (hb : dh l1 l2 l3 l4 hs rs = b) :
 Calls prog 187 #[dv a1 a2 a3 a4 l1 l2 l3 l4 c1 c2 c3 c4] w fun e w' => e = .returned (.bool b) /\ Below w.heap.size w w' := by
 have b0 := ac w (.cells #[.slice a1 l1 c1, .slice a2 l2 c2, .slice a3 l3 c3, .slice a4 l4 c4] 178)
 have HS : Hid (aQ (w.alloc (.cells #[.slice a1 l1 c1, .slice a2 l2 c2, .slice a3 l3 c3, .slice a4 l4 c4] 178)) a3 hs /\ aQ (w.alloc (.cells #[.slice a1 l1 c1, .slice a2 l2 c2, .slice a3 l3 c3, .slice a4 l4 c4] 178)) a4 rs) := ⟨hs0.2.2.1.below b0, hs0.2.2.2.below b0⟩
 have HN : Hid (l3 = hs.length /\ l4 = rs.length /\ hs.length <= 2000000 /\ rs.length <= 2000000) := ⟨hn.2.2.1, hn.2.2.2, hl.2.2.1, hl.2.2.2⟩
 obtain ⟨k1, k2, k3, k4⟩ : l1 <= 2000000 /\ l2 <= 2000000 /\ l3 <= 2000000 /\ l4 <= 2000000 := by obtain ⟨e1, e2, e3, e4⟩ := hn; obtain ⟨f1, f2, f3, f4⟩ := hl; omega
 subst hb
 clear hn hs0 hl
 have j0 := u5
 have j1 := u6
 have j2 := u7
 have j3 := vb
 have X0 := ag.new w #[.slice a1 l1 c1, .slice a2 l2 c2, .slice a3 l3 c3, .slice a4 l4 c4] 178
 by_cases h1 : (l1 : Int) > 64
 case pos =>
  rw [show dh l1 l2 l3 l4 hs rs = false by unfold dh; rw [decide_eq_false (by omega)]; rfl]
  go_enter func187, ntmps187
  go_wp2_with fail
  refine (dW _ _ _ _ _ _ _ _ _ _ _ _ _ k1 k2 k3 k4).mono ?_
  rintro e w1 ⟨rfl, b'⟩
  have b1 := ak b0 b'
  have HS1 : Hid (aQ w1 a3 hs /\ aQ w1 a4 rs) := ⟨HS.out.1.below b', HS.out.2.below b'⟩
  obtain ⟨x0, x1, x2, x3⟩ := (X0.below b').four
  clear b' b0 X0
  go_wp2
  refine wp_loop_rounds 5 ?_
  rw [rounds_succ]
  go_wp2
  go_ret
  exact ⟨rfl, b1⟩
 by_cases h2 : (l2 : Int) > 64
 case pos =>
  rw [show dh l1 l2 l3 l4 hs rs = false by unfold dh; rw [decide_eq_false (by omega)]; rfl]
  go_enter func187, ntmps187
  go_wp2_with fail
  refine (dW _ _ _ _ _ _ _ _ _ _ _ _ _ k1 k2 k3 k4).mono ?_
  rintro e w1 ⟨rfl, b'⟩
  have b1 := ak b0 b'
  have HS1 : Hid (aQ w1 a3 hs /\ aQ w1 a4 rs) := ⟨HS.out.1.below b', HS.out.2.below b'⟩
  obtain ⟨x0, x1, x2, x3⟩ := (X0.below b').four
  clear b' b0 X0
  go_wp2
  refine wp_loop_rounds 5 ?_
  rw [rounds_succ]
  go_wp2
  rw [rounds_succ]
  go_wp2
  go_ret
  exact ⟨rfl, b1⟩
 by_cases h3 : (l3 : Int) > 64
 case pos =>
  rw [show dh l1 l2 l3 l4 hs rs = false by unfold dh; rw [decide_eq_false (by omega)]; rfl]
  go_enter func187, ntmps187
  go_wp2_with fail
  refine (dW _ _ _ _ _ _ _ _ _ _ _ _ _ k1 k2 k3 k4).mono ?_
  rintro e w1 ⟨rfl, b'⟩
  have b1 := ak b0 b'
  have HS1 : Hid (aQ w1 a3 hs /\ aQ w1 a4 rs) := ⟨HS.out.1.below b', HS.out.2.below b'⟩
  obtain ⟨x0, x1, x2, x3⟩ := (X0.below b').four
  clear b' b0 X0
  go_wp2
  refine wp_loop_rounds 5 ?_
  rw [rounds_succ]
  go_wp2
  rw [rounds_succ]
  go_wp2
  rw [rounds_succ]
  go_wp2
  go_ret
  exact ⟨rfl, b1⟩
 by_cases h4 : (l4 : Int) > 64
 case pos =>
  rw [show dh l1 l2 l3 l4 hs rs = false by unfold dh; rw [decide_eq_false (by omega)]; rfl]
  go_enter func187, ntmps187
  go_wp2_with fail
  refine (dW _ _ _ _ _ _ _ _ _ _ _ _ _ k1 k2 k3 k4).mono ?_
  rintro e w1 ⟨rfl, b'⟩
  have b1 := ak b0 b'
  have HS1 : Hid (aQ w1 a3 hs /\ aQ w1 a4 rs) := ⟨HS.out.1.below b', HS.out.2.below b'⟩
  obtain ⟨x0, x1, x2, x3⟩ := (X0.below b').four
  clear b' b0 X0
  go_wp2
  refine wp_loop_rounds 5 ?_
  rw [rounds_succ]
  go_wp2
  rw [rounds_succ]
  go_wp2
  rw [rounds_succ]
  go_wp2
  rw [rounds_succ]
  go_wp2
  go_ret
  exact ⟨rfl, b1⟩
 have hd : decide (l1 <= 64 /\ l2 <= 64 /\ l3 <= 64 /\ l4 <= 64) = true := decide_eq_true (by omega)
 cases e3 : bN hs
 ·rw [show dh l1 l2 l3 l4 hs rs = false by unfold dh; rw [hd, e3]; rfl]
  go_enter func187, ntmps187
  go_wp2_with fail
  refine (dW _ _ _ _ _ _ _ _ _ _ _ _ _ k1 k2 k3 k4).mono ?_
  rintro e w1 ⟨rfl, b'⟩
  have b1 := ak b0 b'
  have HS1 : Hid (aQ w1 a3 hs /\ aQ w1 a4 rs) := ⟨HS.out.1.below b', HS.out.2.below b'⟩
  obtain ⟨x0, x1, x2, x3⟩ := (X0.below b').four
  clear b' b0 X0
  go_wp2
  refine wp_loop_rounds 5 ?_
  rw [rounds_succ]
  go_wp2
  rw [rounds_succ]
  go_wp2
  rw [rounds_succ]
  go_wp2
  rw [rounds_succ]
  go_wp2
  rw [rounds_succ]
  go_wp2_with fail
  refine (ct _ _ _ hs _ HN.out.1 HS1.out.1 HN.out.2.2.1 _ e3).mono ?_
  rintro e wx ⟨rfl, rfl⟩
  go_wp2
  go_ret
  exact ⟨rfl, b1⟩
 cases e4 : bN rs
 ·rw [show dh l1 l2 l3 l4 hs rs = false by unfold dh; rw [hd, e3, e4]; rfl]
  go_enter func187, ntmps187
  go_wp2_with fail
  refine (dW _ _ _ _ _ _ _ _ _ _ _ _ _ k1 k2 k3 k4).mono ?_
  rintro e w1 ⟨rfl, b'⟩
  have b1 := ak b0 b'
  have HS1 : Hid (aQ w1 a3 hs /\ aQ w1 a4 rs) := ⟨HS.out.1.below b', HS.out.2.below b'⟩
  obtain ⟨x0, x1, x2, x3⟩ := (X0.below b').four
  clear b' b0 X0
  go_wp2
  refine wp_loop_rounds 5 ?_
  rw [rounds_succ]
  go_wp2
  rw [rounds_succ]
  go_wp2
  rw [rounds_succ]
  go_wp2
  rw [rounds_succ]
  go_wp2
  rw [rounds_succ]
  go_wp2_with fail
  refine (ct _ _ _ hs _ HN.out.1 HS1.out.1 HN.out.2.2.1 _ e3).mono ?_
  rintro e wx ⟨rfl, rfl⟩
  go_wp2_with fail
  refine (ct _ _ _ rs _ HN.out.2.1 HS1.out.2 HN.out.2.2.2 _ e4).mono ?_
  rintro e wx ⟨rfl, rfl⟩
  go_wp2
  go_ret
  exact ⟨rfl, b1⟩
 rw [show dh l1 l2 l3 l4 hs rs = true by unfold dh; rw [hd, e3, e4]; rfl]
 go_enter func187, ntmps187
 go_wp2_with fail
 refine (dW _ _ _ _ _ _ _ _ _ _ _ _ _ k1 k2 k3 k4).mono ?_
 rintro e w1 ⟨rfl, b'⟩
 have b1 := ak b0 b'
 have HS1 : Hid (aQ w1 a3 hs /\ aQ w1 a4 rs) := ⟨HS.out.1.below b', HS.out.2.below b'⟩
 obtain ⟨x0, x1, x2, x3⟩ := (X0.below b').four
 clear b' b0 X0
 go_wp2
 refine wp_loop_rounds 5 ?_
 rw [rounds_succ]
 go_wp2
 rw [rounds_succ]
 go_wp2
 rw [rounds_succ]
 go_wp2
 rw [rounds_succ]
 go_wp2
 rw [rounds_succ]
 go_wp2_with fail
 refine (ct _ _ _ hs _ HN.out.1 HS1.out.1 HN.out.2.2.1 _ e3).mono ?_
 rintro e wx ⟨rfl, rfl⟩
 go_wp2_with fail
 refine (ct _ _ _ rs _ HN.out.2.1 HS1.out.2 HN.out.2.2.2 _ e4).mono ?_
 rintro e wx ⟨rfl, rfl⟩
 go_wp2
 go_ret
 exact ⟨rfl, b1⟩
def sdB (cs is : List Bool) (hs rs : List Int) (cs2 is2 : List Bool) (hs2 rs2 : List Int) : Bool := decide (cs = cs2) && (decide (is = is2) && (decide (hs = hs2) && decide (rs = rs2)))
def ND (w w' : World) (e : Ending) (cs is : List Bool) (hs rs : List Int) : Prop :=
 ∃ a1 a2 a3 a4 l1 l2 l3 l4 c1 c2 c3 c4, e = .returned (dv a1 a2 a3 a4 l1 l2 l3 l4 c1 c2 c3 c4) /\ vT w' w.heap.size a1 a2 a3 a4 l1 l2 l3 l4 c1 c2 c3 c4 cs is hs rs /\ Below w.heap.size w w'
def dnN (n : Int) : Nat := if 0 <= n /\ n <= 64 then n.toNat else 0
abbrev NDn (w w' : World) (e : Ending) (m : Nat) : Prop := ND w w' e (List.replicate m false) (List.replicate m false) (List.replicate m 0) (List.replicate m 0)
theorem fJ {l : Array Bool} {i : Nat} (h : i < l.size) (x y : Bool) : l.getD i x = l.getD i y := by
 simp [Array.getD, h]
theorem lh (l : List Bool) (i : Nat) (h : l[i]? = some false) : (l.set i true).count false + 1 = l.count false := by
 induction l generalizing i with
 | nil => simp at h
 | cons x r ih =>
  cases i with
  | zero => simp at h; subst h; simp
  | succ i => simp at h; have := ih i h; cases x <;> simp <;> omega
theorem li {md : Region.Mode} {ops : Array Oper} {l : Array Bool} {i : Nat} (h : i ∈ Region.ready md ops l) :
 i < ops.size /\ l.getD i true = false /\ ∀ o, ops[i]? = some o -> ∀ e ∈ o.after, Region.binds md e = true -> l.getD e.on false = true := by
 unfold Region.ready at h
 rw [List.mem_filter] at h
 obtain ⟨h1, h2⟩ := h
 simp only [Bool.and_eq_true, Bool.not_eq_true'] at h2
 refine ⟨List.mem_range.1 h1, h2.1, fun o ho e he hb => ?_⟩
 have h3 := h2.2
 rw [ho] at h3
 simp only [Option.map_some, Option.getD_some, Array.all_eq_true_iff_forall_mem] at h3
 have h4 := h3 e he
 simpa [hb] using h4
theorem rD {md : Region.Mode} {ops : Array Oper} {l : Array Bool} {i : Nat} {o : Oper} (hi : i < ops.size) (ho : ops[i]? = some o) (hl : l.getD i true = false) (hd : ∀ e ∈ o.after, Region.binds md e = true -> l.getD e.on false = true) : i ∈ Region.ready md ops l := by
 unfold Region.ready
 rw [List.mem_filter]
 refine ⟨List.mem_range.2 hi, ?_⟩
 simp only [Bool.and_eq_true, Bool.not_eq_true']
 refine ⟨hl, ?_⟩
 rw [ho]
 simp only [Option.map_some, Option.getD_some, Array.all_eq_true_iff_forall_mem]
 intro e he
 cases hb : Region.binds md e
 ·rfl
 simpa using hd e he hb
def jo (md : Region.Mode) (ops : Array Oper) : Bool := (List.range ops.size).all fun i => ((ops[i]?).map (·.after.all fun e => !Region.binds md e || decide (e.on < i))).getD true
theorem tv {md : Region.Mode} {ops : Array Oper} (h : jo md ops = true) : ∀ i o, ops[i]? = some o -> ∀ e ∈ o.after, Region.binds md e = true -> e.on < i := by
 intro i o ho e he hb
 unfold jo at h
 rw [List.all_eq_true] at h
 have hi : i < ops.size := (Array.getElem?_eq_some_iff.1 ho).1
 have h1 := h i (List.mem_range.2 hi)
 rw [ho] at h1
 simp only [Option.map_some, Option.getD_some, Array.all_eq_true_iff_forall_mem] at h1
 have h2 := h1 e he
 simpa [hb] using h2
theorem iM {P : Program} {ops : Array Oper} {Q : Exit -> Act -> World -> Prop} {md : Region.Mode} (Inv : Array Bool -> Act -> World -> Prop)
 (hordB : jo md ops = true)
 (hend : ∀ l a w, Inv l a w -> (∀ i, i < ops.size -> l.getD i true = true) -> Q .normal a w)
 (hstep : ∀ l a w i o, Inv l a w -> ops[i]? = some o -> l.getD i true = false -> (∀ e ∈ o.after, Region.binds md e = true -> l.getD e.on false = true) ->
  ∀ K : Act -> World -> Prop, (∀ a w, Inv (l.setIfInBounds i true) a w -> K a w) -> if Region.wanted o (yielded ops a.tmps) = true then Oper.wp P o a w K Q else K (a.put o.dst undef) w) :
 ∀ (fuel : Nat) (l : Array Bool) (a : Act) (w : World), l.size = ops.size -> l.toList.count false <= fuel -> Inv l a w -> wpAny P md ops Q fuel l a w := by
 have hord := tv hordB
 have hall : ∀ l : Array Bool, l.size = ops.size -> Region.ready md ops l = [] -> ∀ i, i < ops.size -> l.getD i true = true := by
  intro l hs hr i
  induction i using Nat.strongRecOn with
  | ind i ih =>
   intro hi
   cases hl : l.getD i true
   ·obtain ⟨o, ho⟩ : ∃ o, ops[i]? = some o := ⟨ops[i], by simp [hi]⟩
    have : i ∈ Region.ready md ops l := rD hi ho hl (fun e he hb => by
     have h1 := hord i o ho e he hb
     rw [fJ (by omega) false true]
     exact ih e.on h1 (by omega))
    rw [hr] at this
    simp at this
   rfl
 intro fuel
 induction fuel with
 | zero =>
  intro l a w hs hc hI
  have hr : Region.ready md ops l = [] := by
   apply List.eq_nil_iff_forall_not_mem.2
   intro i hi
   obtain ⟨h1, h2, _⟩ := li hi
   have h3 : l.toList[i]? = some false := by
    have h4 : i < l.size := by omega
    rw [Array.getElem?_toList]
    simp [Array.getD, h4] at h2
    simp [h4, h2]
   have := lh l.toList i h3
   omega
  exact ⟨hr, hend l a w hI (hall l hs hr)⟩
 | succ fuel ih =>
  intro l a w hs hc hI
  refine ⟨fun hr => hend l a w hI (hall l hs hr), fun i hi => ?_⟩
  obtain ⟨h1, h2, h3⟩ := li hi
  obtain ⟨o, ho⟩ : ∃ o, ops[i]? = some o := ⟨ops[i], by simp [h1]⟩
  refine wpOp_step ho (fun K' hK' => hstep l a w i o hI ho h2 (h3 o ho) K' (fun a' w' hI' => hK' a' w' (ih _ a' w' (by simpa using hs) ?_ hI')))
  have h4 : l.toList[i]? = some false := by
   have h5 : i < l.size := by omega
   rw [Array.getElem?_toList]
   simp [Array.getD, h5] at h2
   simp [h5, h2]
  have := lh l.toList i h4
  rw [Array.toList_setIfInBounds]
  omega
structure CI (w : World) (a1 a2 a3 a4 : Option Addr) (l1 l2 l3 l4 c1 c2 c3 c4 : Nat) (cs is : List Bool) (hs rs : List Int) (b0 b1 b2 b3 b4 b5 b6 b7 b8 b9 b10 b11 b12 b13 b14 b15 b16 b17 : Bool) (t3 t4 t5 t6 t7 t8 t9 t10 t11 t12 t13 t14 t15 t16 t17 t18 t19 : Value) (u : World) : Prop where
 f0 : b0 = true -> ∃ g, t3 = .slice (some ⟨g, 0, none⟩) 0 0 /\ w.heap.size <= g /\ cG u w.heap.size t3 []
 f1 : b1 = true -> t4 = .pointer (some ⟨w.heap.size, 0, none⟩)
 f2 : b2 = true -> t5 = .slice a1 l1 c1
 f3 : b3 = true -> (∃ a' c', t6 = .slice a' l1 c') /\ cG u w.heap.size t6 cs
 f4 : b4 = true -> ∃ g, t7 = .slice (some ⟨g, 0, none⟩) 0 0 /\ w.heap.size <= g /\ cG u w.heap.size t7 []
 f5 : b5 = true -> t8 = .pointer (some ⟨w.heap.size, 1, none⟩)
 f6 : b6 = true -> t9 = .slice a2 l2 c2
 f7 : b7 = true -> (∃ a' c', t10 = .slice a' l2 c') /\ cG u w.heap.size t10 is
 f8 : b8 = true -> ∃ g, t11 = .slice (some ⟨g, 0, none⟩) 0 0 /\ w.heap.size <= g /\ bT u w.heap.size t11 []
 f9 : b9 = true -> t12 = .pointer (some ⟨w.heap.size, 2, none⟩)
 f10 : b10 = true -> t13 = .slice a3 l3 c3
 f11 : b11 = true -> (∃ a' c', t14 = .slice a' l3 c') /\ bT u w.heap.size t14 hs
 f12 : b12 = true -> ∃ g, t15 = .slice (some ⟨g, 0, none⟩) 0 0 /\ w.heap.size <= g /\ bT u w.heap.size t15 []
 f13 : b13 = true -> t16 = .pointer (some ⟨w.heap.size, 3, none⟩)
 f14 : b14 = true -> t17 = .slice a4 l4 c4
 f15 : b15 = true -> (∃ a' c', t18 = .slice a' l4 c') /\ bT u w.heap.size t18 rs
 f16 : b16 = true -> t19 = .agg #[t6, t10, t14, t18]
 g16 : b16 = true -> b3 = true /\ b7 = true /\ b11 = true /\ b15 = true
 g17 : b17 = true -> b16 = true
 f17 : b17 = true -> ag u (w.heap.size + 1) 178 #[t6, t10, t14, t18]
 z17 : b17 = false -> ag u (w.heap.size + 1) 178 #[.slice none 0 0, .slice none 0 0, .slice none 0 0, .slice none 0 0]
 d0_4 : b0 = true -> b4 = true -> Df t3 t7
 d0_7 : b0 = true -> b7 = true -> Df t3 t10
 d3_4 : b3 = true -> b4 = true -> Df t6 t7
 d3_7 : b3 = true -> b7 = true -> Df t6 t10
 d8_12 : b8 = true -> b12 = true -> Df t11 t15
 d8_15 : b8 = true -> b15 = true -> Df t11 t18
 d11_12 : b11 = true -> b12 = true -> Df t14 t15
 d11_15 : b11 = true -> b15 = true -> Df t14 t18
 bx : ag u w.heap.size 178 #[.slice a1 l1 c1, .slice a2 l2 c2, .slice a3 l3 c3, .slice a4 l4 c4]
 bel : Below w.heap.size w u
def CInv (w : World) (a1 a2 a3 a4 : Option Addr) (l1 l2 l3 l4 c1 c2 c3 c4 : Nat) (cs is : List Bool) (hs rs : List Int) (l : Array Bool) (act : Act) (u : World) : Prop :=
 ∃ b0 b1 b2 b3 b4 b5 b6 b7 b8 b9 b10 b11 b12 b13 b14 b15 b16 b17 : Bool, l = #[b0, b1, b2, b3, b4, b5, b6, b7, b8, b9, b10, b11, b12, b13, b14, b15, b16, b17] /\ ∃ t3 t4 t5 t6 t7 t8 t9 t10 t11 t12 t13 t14 t15 t16 t17 t18 t19 : Value, act = { tmps := #[dv a1 a2 a3 a4 l1 l2 l3 l4 c1 c2 c3 c4, .pointer (some ⟨w.heap.size, 0, none⟩), .pointer (some ⟨w.heap.size + 1, 0, none⟩), t3, t4, t5, t6, t7, t8, t9, t10, t11, t12, t13, t14, t15, t16, t17, t18, t19], defers := [] } /\ CI w a1 a2 a3 a4 l1 l2 l3 l4 c1 c2 c3 c4 cs is hs rs b0 b1 b2 b3 b4 b5 b6 b7 b8 b9 b10 b11 b12 b13 b14 b15 b16 b17 t3 t4 t5 t6 t7 t8 t9 t10 t11 t12 t13 t14 t15 t16 t17 t18 t19 u
end Go.Proofs.YtplaoagcedgdfaaGreat
namespace Go.Proofs.YtplaoagcedgdfaaGreat
open Go.RowKit Go.Joins Go.Proofs.Tryz
theorem VI.sl {w : World} {X : VI} {a1 a2 a3 a4 : Option Addr} {l1 l2 l3 l4 c1 c2 c3 c4 : Nat} (r1 : Rd w 0 (af X.co) (.slice a1 l1 c1)) (r2 : Rd w 0 (af X.ip) (.slice a2 l2 c2)) (r3 : Rd w 0 (ah X.ho) (.slice a3 l3 c3)) (r4 : Rd w 0 (ah X.wd) (.slice a4 l4 c4)) (hz : ao 4 (aa (eu X)) <= 1048576) : uZ l1 l2 l3 l4 X.co X.ip X.ho X.wd /\ uY w a1 a2 a3 a4 X.co X.ip X.ho X.wd /\ rQ 2000000 X.co X.ip X.ho X.wd := by
 rw [fp] at hz
 obtain ⟨_, _, h9, -, -, s1⟩ := r1.bools
 simp only [Value.slice.injEq] at h9
 obtain ⟨rfl, rfl, rfl⟩ := h9
 obtain ⟨_, _, h9, -, -, s2⟩ := r2.bools
 simp only [Value.slice.injEq] at h9
 obtain ⟨rfl, rfl, rfl⟩ := h9
 obtain ⟨_, _, h9, -, -, s3⟩ := r3.ints
 simp only [Value.slice.injEq] at h9
 obtain ⟨rfl, rfl, rfl⟩ := h9
 obtain ⟨_, _, h9, -, -, s4⟩ := r4.ints
 simp only [Value.slice.injEq] at h9
 obtain ⟨rfl, rfl, rfl⟩ := h9
 exact ⟨⟨rfl, rfl, rfl, rfl⟩, ⟨s1, s2, s3, s4⟩, by unfold rQ; omega⟩
def gT (X : VI) : Bool := dh X.co.length X.ip.length X.ho.length X.wd.length X.ho X.wd
theorem rE (X : VI) (a1 : Option Addr) (l1 c1 : Nat) (a2 : Option Addr) (l2 c2 : Nat) (a3 : Option Addr) (l3 c3 : Nat) (a4 : Option Addr) (l4 c4 : Nat) (w : World) (r1 : Rd w 0 (af X.co) (.slice a1 l1 c1)) (r2 : Rd w 0 (af X.ip) (.slice a2 l2 c2)) (r3 : Rd w 0 (ah X.ho) (.slice a3 l3 c3)) (r4 : Rd w 0 (ah X.wd) (.slice a4 l4 c4)) (hz : ao 4 (aa (eu X)) <= 1048576) :
 Calls prog 187 #[.agg (dn X a1 l1 c1 a2 l2 c2 a3 l3 c3 a4 l4 c4).toArray] w fun e w' => e = .returned (.bool (gT X)) /\ Below w.heap.size w w' := by
 obtain ⟨h1, h2, h3⟩ := VI.sl r1 r2 r3 r4 hz
 obtain ⟨e1, e2, e3, e4⟩ := id h1
 refine jn a1 a2 a3 a4 l1 l2 l3 l4 c1 c2 c3 c4 X.co X.ip X.ho X.wd w h1 h2 h3 (gT X) ?_
 rw [e1, e2, e3, e4]; rfl
theorem rF (X : VI) (a1 : Option Addr) (l1 c1 : Nat) (a2 : Option Addr) (l2 c2 : Nat) (a3 : Option Addr) (l3 c3 : Nat) (a4 : Option Addr) (l4 c4 : Nat) (w : World) (r1 : Rd w 0 (af X.co) (.slice a1 l1 c1)) (r2 : Rd w 0 (af X.ip) (.slice a2 l2 c2)) (r3 : Rd w 0 (ah X.ho) (.slice a3 l3 c3)) (r4 : Rd w 0 (ah X.wd) (.slice a4 l4 c4)) (hz : ao 4 (aa (eu X)) <= 1048576) :
 Calls prog 116 #[.agg (dn X a1 l1 c1 a2 l2 c2 a3 l3 c3 a4 l4 c4).toArray] w fun e w' => e = .returned (.bool (gT X)) /\ Below w.heap.size w w' := by
 obtain ⟨h1, h2, h3⟩ := VI.sl r1 r2 r3 r4 hz
 obtain ⟨e1, e2, e3, e4⟩ := id h1
 refine jm a1 a2 a3 a4 l1 l2 l3 l4 c1 c2 c3 c4 X.co X.ip X.ho X.wd w h1 h2 h3 (gT X) ?_
 rw [e1, e2, e3, e4]; rfl
end Go.Proofs.YtplaoagcedgdfaaGreat
