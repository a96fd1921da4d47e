/- Ports of the program: what is nothing, what a port is within. -/
import Derived.Test.YtimgohnnapaafaaPort1
import Derived.Test.YtimgohnnapaafaaMb3
import Derived.Deep.RegionHeld3
namespace Go.Proofs.Ytimgohnnapaafaa
open Go.RowKit

set_option linter.unusedVariables false

set_option linter.unusedSimpArgs false

def noR (l : Nat) (ls : Int) (bd : Bool) (hf wh : Int) : Bool := decide (l = 0 ∧ ls = 0 ∧ bd = false ∧ hf = 0 ∧ wh = 0)

def noA (l : Nat) (op : Bool) (ls wt : Int) : Bool := decide (l = 0 ∧ op = false ∧ ls = 0 ∧ wt = 0)

def noS (l : Nat) (sh : Bool) : Bool := decide (l = 0 ∧ sh = false)

set_option maxHeartbeats 2000000 in
theorem isNoRtu_any (a : Option Addr) (l c : Nat) (ls : Int) (bd : Bool) (hf wh : Int) (w : World) :
    Calls Try.prog 66 #[rt a l c ls bd hf wh] w fun e w' => e = .returned (.bool (noR l ls bd hf wh)) ∧ Below w.heap.size w w' := by
  by_cases h0 : (l : Int) = 0
  rotate_left
  · rw [show noR l ls bd hf wh = false from decide_eq_false (fun h => h0 (by simp [h]))]
    go_enter Try.func66, Try.ntmps66
    go_wp2
    go_ret
    exact ⟨rfl, bel_alloc _ _⟩
  by_cases h1 : ls = 0
  rotate_left
  · rw [show noR l ls bd hf wh = false from decide_eq_false (fun h => h1 (by simp [h]))]
    go_enter Try.func66, Try.ntmps66
    go_wp2
    go_ret
    exact ⟨rfl, bel_alloc _ _⟩
  by_cases h2 : bd = false
  rotate_left
  · rw [show noR l ls bd hf wh = false from decide_eq_false (fun h => h2 (by simp [h]))]
    go_enter Try.func66, Try.ntmps66
    go_wp2
    go_ret
    exact ⟨rfl, bel_alloc _ _⟩
  by_cases h3 : hf = 0
  rotate_left
  · rw [show noR l ls bd hf wh = false from decide_eq_false (fun h => h3 (by simp [h]))]
    go_enter Try.func66, Try.ntmps66
    go_wp2
    go_ret
    exact ⟨rfl, bel_alloc _ _⟩
  by_cases h4 : wh = 0
  rotate_left
  · rw [show noR l ls bd hf wh = false from decide_eq_false (fun h => h4 (by simp [h]))]
    have hq : (wh == 0) = false := by simpa using h4
    go_enter Try.func66, Try.ntmps66
    go_wp2
    go_ret
    exact ⟨by simp [hq, Act.eval], bel_alloc _ _⟩
  rw [show noR l ls bd hf wh = true from decide_eq_true (by simp [h1, h2, h3, h4]; omega)]
  go_enter Try.func66, Try.ntmps66
  go_wp2
  go_ret
  exact ⟨rfl, bel_alloc _ _⟩

set_option maxHeartbeats 2000000 in
theorem isNoAscii_any (a : Option Addr) (l c : Nat) (op : Bool) (ls wt : Int) (w : World) :
    Calls Try.prog 67 #[sc a l c op ls wt] w fun e w' => e = .returned (.bool (noA l op ls wt)) ∧ Below w.heap.size w w' := by
  by_cases h0 : (l : Int) = 0
  rotate_left
  · rw [show noA l op ls wt = false from decide_eq_false (fun h => h0 (by simp [h]))]
    go_enter Try.func67, Try.ntmps67
    go_wp2
    go_ret
    exact ⟨rfl, bel_alloc _ _⟩
  by_cases h1 : op = false
  rotate_left
  · rw [show noA l op ls wt = false from decide_eq_false (fun h => h1 (by simp [h]))]
    go_enter Try.func67, Try.ntmps67
    go_wp2
    go_ret
    exact ⟨rfl, bel_alloc _ _⟩
  by_cases h2 : ls = 0
  rotate_left
  · rw [show noA l op ls wt = false from decide_eq_false (fun h => h2 (by simp [h]))]
    go_enter Try.func67, Try.ntmps67
    go_wp2
    go_ret
    exact ⟨rfl, bel_alloc _ _⟩
  by_cases h3 : wt = 0
  rotate_left
  · rw [show noA l op ls wt = false from decide_eq_false (fun h => h3 (by simp [h]))]
    have hq : (wt == 0) = false := by simpa using h3
    go_enter Try.func67, Try.ntmps67
    go_wp2
    go_ret
    exact ⟨by simp [hq, Act.eval], bel_alloc _ _⟩
  rw [show noA l op ls wt = true from decide_eq_true (by simp [h1, h2, h3]; omega)]
  go_enter Try.func67, Try.ntmps67
  go_wp2
  go_ret
  exact ⟨rfl, bel_alloc _ _⟩

set_option maxHeartbeats 2000000 in
theorem isNoStream_any (a : Option Addr) (l c : Nat) (sh : Bool) (w : World) :
    Calls Try.prog 68 #[.agg #[.slice a l c, .bool sh]] w fun e w' => e = .returned (.bool (noS l sh)) ∧ Below w.heap.size w w' := by
  by_cases h0 : (l : Int) = 0
  rotate_left
  · rw [show noS l sh = false from decide_eq_false (fun h => h0 (by simp [h]))]
    go_enter Try.func68, Try.ntmps68
    go_wp2
    go_ret
    exact ⟨rfl, bel_alloc _ _⟩
  by_cases h1 : sh = false
  rotate_left
  · rw [show noS l sh = false from decide_eq_false (fun h => h1 (by simp [h]))]
    have hq : (sh == false) = false := by simpa using h1
    go_enter Try.func68, Try.ntmps68
    go_wp2
    go_ret
    exact ⟨by simp [hq, Act.eval], bel_alloc _ _⟩
  rw [show noS l sh = true from decide_eq_true (by simp [h1]; omega)]
  go_enter Try.func68, Try.ntmps68
  go_wp2
  go_ret
  exact ⟨rfl, bel_alloc _ _⟩

/-- What a port is within. -/
def wiV (P : PtV) (ra aa sa : Option Addr) (rl al sl rc ac sc : Nat) (b1 b2 b3 : Bool) : Value :=
  if P.kd = 1 ∧ b2 = true ∧ b3 = true then .iface 92 (.agg #[.int .i64 P.er, .slice ra rl rc, .int .i64 P.ls, .bool P.bd, .int .i64 P.hf, .int .i64 P.wh])
  else if P.kd = 2 ∧ b1 = true ∧ b3 = true then .iface 94 (.agg #[.int .i64 P.er, .slice aa al ac, .bool P.op, .int .i64 P.lt, .int .i64 P.wt])
  else if P.kd = 3 ∧ b1 = true ∧ b2 = true then .iface 96 (.agg #[.int .i64 P.er, .slice sa sl sc, .bool P.sh])
  else .nilIface

set_option maxRecDepth 20000 in
set_option maxHeartbeats 4000000 in
theorem portOf_any (P : PtV) (ra aa sa : Option Addr) (rl al sl rc ac sc : Nat) (w : World) (b1 b2 b3 : Bool) (h1 : noR rl P.ls P.bd P.hf P.wh = b1) (h2 : noA al P.op P.lt P.wt = b2) (h3 : noS sl P.sh = b3) :
    Calls Try.prog 59 #[pt P ra rl rc aa al ac sa sl sc] w fun e w' => e = .returned (wiV P ra aa sa rl al sl rc ac sc b1 b2 b3) ∧ Below w.heap.size w w' := by
  obtain ⟨kd, ls, bd, hf, wh, op, lt, wt, sh, er⟩ := P
  have B0 := bel_alloc w (.cells #[.int .i64 kd, .slice ra rl rc, .int .i64 ls, .bool bd, .int .i64 hf, .int .i64 wh, .slice aa al ac, .bool op, .int .i64 lt, .int .i64 wt, .slice sa sl sc, .bool sh, .int .i64 er] 30)
  have X0 := Blk.new w #[.int .i64 kd, .slice ra rl rc, .int .i64 ls, .bool bd, .int .i64 hf, .int .i64 wh, .slice aa al ac, .bool op, .int .i64 lt, .int .i64 wt, .slice sa sl sc, .bool sh, .int .i64 er] 30
  obtain ⟨x0, x1, x2, x3, x4, x5, x6, x7, x8, x9, x10, x11, x12⟩ := X0.n13
  have H1 : Hid (noR rl ls bd hf wh = b1) := h1
  have H2 : Hid (noA al op lt wt = b2) := h2
  have H3 : Hid (noS sl sh = b3) := h3
  clear h1 h2 h3
  go_enter Try.func59, Try.ntmps59
  go_upto_region 1 with fail
  go_cut [3, 4, 5] from 6 (fun s3 s4 s5 wx => s3 = .bool b1 ∧ s4 = .bool b2 ∧ s5 = .bool b3 ∧ Below w.heap.size w wx ∧ Blk wx w.heap.size 30 #[.int .i64 kd, .slice ra rl rc, .int .i64 ls, .bool bd, .int .i64 hf, .int .i64 wh, .slice aa al ac, .bool op, .int .i64 lt, .int .i64 wt, .slice sa sl sc, .bool sh, .int .i64 er])
  case first =>
    go_region_with (first
      | (go_at_call 66; refine (isNoRtu_any ra rl rc ls bd hf wh _).mono ?_; rintro e w1 ⟨rfl, b1'⟩; have B1 := bel_next (by first | exact B0 | exact B0.drew) b1'; have X1 := Blk.below (by first | exact X0 | exact X0.drew) b1'; clear b1' B0 X0 x0 x1 x2 x3 x4 x5 x6 x7 x8 x9 x10 x11 x12; obtain ⟨x0, x1, x2, x3, x4, x5, x6, x7, x8, x9, x10, x11, x12⟩ := X1.n13)
      | (go_at_call 67; refine (isNoAscii_any aa al ac op lt wt _).mono ?_; rintro e w2 ⟨rfl, b2'⟩; have B2 := bel_next B1 b2'; have X2 := X1.below b2'; clear b2' B1 X1 x0 x1 x2 x3 x4 x5 x6 x7 x8 x9 x10 x11 x12; obtain ⟨x0, x1, x2, x3, x4, x5, x6, x7, x8, x9, x10, x11, x12⟩ := X2.n13)
      | (go_at_call 68; refine (isNoStream_any sa sl sc sh _).mono ?_; rintro e w3 ⟨rfl, b3'⟩; have B3 := bel_next B2 b3'; have X3 := X2.below b3'; clear b3' B2 X2 x0 x1 x2 x3 x4 x5 x6 x7 x8 x9 x10 x11 x12))
    all_goals (
      go_wp2_with fail
      go_meet
      case rel => exact ⟨by rw [H1.out], by rw [H2.out], by rw [H3.out], B3, X3⟩)
  case rest =>
  obtain ⟨rfl, rfl, rfl, B3, X3⟩ := hcut
  clear B0 X0 x0 x1 x2 x3 x4 x5 x6 x7 x8 x9 x10 x11 x12
  obtain ⟨x0, x1, x2, x3, x4, x5, x6, x7, x8, x9, x10, x11, x12⟩ := X3.n13
  clear X3
  by_cases k1 : kd = 1
  · subst k1
    cases b2
    · skip
      go_wp2
      go_ret
      exact ⟨by simp [wiV], B3⟩
    · skip
      cases b3
      · skip
        go_wp2
        go_ret
        exact ⟨by simp [wiV], B3⟩
      · skip
        go_wp2
        go_ret
        exact ⟨by simp [wiV], B3⟩
  by_cases k2 : kd = 2
  · subst k2
    cases b1
    · skip
      go_wp2
      go_ret
      exact ⟨by simp [wiV], B3⟩
    · skip
      cases b3
      · skip
        go_wp2
        go_ret
        exact ⟨by simp [wiV], B3⟩
      · skip
        go_wp2
        go_ret
        exact ⟨by simp [wiV], B3⟩
  by_cases k3 : kd = 3
  · subst k3
    cases b1
    · skip
      go_wp2
      go_ret
      exact ⟨by simp [wiV], B3⟩
    · skip
      cases b2
      · skip
        go_wp2
        go_ret
        exact ⟨by simp [wiV], B3⟩
      · skip
        go_wp2
        go_ret
        exact ⟨by simp [wiV], B3⟩
  go_wp2
  go_ret
  exact ⟨by simp [wiV, k1, k2, k3], B3⟩

end Go.Proofs.Ytimgohnnapaafaa
