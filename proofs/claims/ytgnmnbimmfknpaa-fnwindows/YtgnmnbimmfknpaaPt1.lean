/- Parts of a question: which units there are, which places a rule has. -/
import Derived.Test.YtgnmnbimmfknpaaPtP
import Derived.Test.YtgnmnbimmfknpaaSr8
namespace Go.Proofs.Ytgnmnbimmfknpaa
open Go.RowKit

set_option linter.unusedVariables false

set_option linter.unusedSimpArgs false

/-- The first of n rules of a unit, from k on. -/
def unFrom (f : Nat → Ru) (un : Int) (n k : Nat) : Int :=
  if h : k < n then (if (f k).u = un then (k : Int) else unFrom f un n (k + 1)) else -1
termination_by n - k

theorem unFrom_hit {f : Nat → Ru} {un : Int} {n k : Nat} (h : k < n) (hh : (f k).u = un) : unFrom f un n k = (k : Int) := by
  rw [unFrom, dif_pos h, if_pos hh]

theorem unFrom_miss {f : Nat → Ru} {un : Int} {n k : Nat} (h : k < n) (hh : ¬ (f k).u = un) : unFrom f un n k = unFrom f un n (k + 1) := by
  rw [unFrom, dif_pos h, if_neg hh]

theorem unFrom_end {f : Nat → Ru} {un : Int} {n k : Nat} (h : ¬ k < n) : unFrom f un n k = -1 := by
  rw [unFrom, dif_neg h]

theorem unFrom_ge (f : Nat → Ru) (un : Int) (n k : Nat) : 0 ≤ unFrom f un n k ↔ ∃ j, k ≤ j ∧ j < n ∧ (f j).u = un := by
  by_cases h : k < n
  · by_cases hh : (f k).u = un
    · rw [unFrom_hit h hh]
      exact ⟨fun _ => ⟨k, Nat.le_refl _, h, hh⟩, fun _ => by omega⟩
    · rw [unFrom_miss h hh, unFrom_ge f un n (k + 1)]
      constructor
      · rintro ⟨j, h1, h2, h3⟩; exact ⟨j, by omega, h2, h3⟩
      · rintro ⟨j, h1, h2, h3⟩
        by_cases e : j = k
        · subst e; exact absurd h3 hh
        · exact ⟨j, by omega, h2, h3⟩
  · rw [unFrom_end h]
    constructor
    · intro h1; omega
    · rintro ⟨j, h1, h2, _⟩; omega
termination_by n - k

set_option maxHeartbeats 1000000 in
theorem hasUnit1_any (r : Ru) (g1 : Nat) (un : Int) (w : World) (h : Box w g1 3 (.int .i64 un)) :
    Calls Try.prog 101 #[.agg (ruc r), .pointer (some ⟨g1, 0, none⟩)] w fun e w' => e = .returned (.bool (decide (r.u = un))) ∧ Below w.heap.size w w' := by
  have B0 : Below w.heap.size w (w.alloc (.cells (ruc r) 30)) := (Below.refl _ w).alloc (Nat.le_refl _) _
  have c1 := (h.below B0).cell
  by_cases e : r.u = un
  · rw [decide_eq_true e]
    have d : (r.u == un) = true := by simpa using e
    go_enter Try.func101, Try.ntmps101
    go_wp2
    go_ret
    exact ⟨rfl, B0⟩
  · rw [decide_eq_false e]
    have d : (r.u == un) = false := by simpa using e
    go_enter Try.func101, Try.ntmps101
    go_wp2
    go_ret
    exact ⟨by first | rfl | simp [d], B0⟩

set_option maxHeartbeats 1000000 in
theorem indexUnit_any (a : Option Addr) (n cap : Nat) (f : Nat → Ru) (g1 : Nat) (un : Int) (w : World) (hs : SlU w a n f) (h : Box w g1 3 (.int .i64 un)) (hl : n ≤ 2000000) :
    Calls Try.prog 47 #[.slice a n cap, .func (.func 101) #[] #[.pointer (some ⟨g1, 0, none⟩)]] w fun e w' => e = .returned (.int .i64 (unFrom f un n 0)) ∧ Below w.heap.size w w' := by
  go_enter Try.func47, Try.ntmps47
  go_wp2
  go_loopw [8] (fun i wr => ∃ k : Nat, k ≤ n ∧ i = .int .i64 k ∧ Below w.heap.size w wr ∧ unFrom f un n 0 = unFrom f un n k) (fun i _ => n - (intOf i).toNat)
  case atStart => exact ⟨0, Nat.zero_le _, rfl, Below.refl _ _, rfl⟩
  case round =>
    obtain ⟨k, hk, rfl, hb, HA⟩ := hrel
    by_cases hlt : k < n
    · obtain ⟨b, off, rfl, hb0, c0, c1, c2, c3, c4, c5, c6⟩ := SlU.seven (SlS.below hs hb) hlt
      have hi : (k : Int) < (n : Int) := by omega
      have H1 := h.below hb
      have HA' : Hid (unFrom f un n 0 = unFrom f un n k) := HA
      clear HA
      go_wp2_with fail
      refine (hasUnit1_any (f k) g1 un _ H1).mono ?_
      rintro e w1 ⟨rfl, b1⟩
      have B1 := bel_next hb b1
      clear hb b1 c0 c1 c2 c3 c4 c5 c6 H1
      by_cases hh : (f k).u = un
      · rw [decide_eq_true hh]
        have HA2 : Hid (unFrom f un n 0 = (k : Int)) := HA'.out.trans (unFrom_hit hlt hh)
        clear HA' hh
        go_wp2
        go_ret
        exact ⟨ret_int HA2.out.symm, B1⟩
      · rw [decide_eq_false hh]
        have HA2 : Hid (unFrom f un n 0 = unFrom f un n (k + 1)) := HA'.out.trans (unFrom_miss hlt hh)
        clear HA' hh
        go_wp2
        go_roundw
        case rel => exact ⟨k + 1, by omega, by go_num, B1, HA2.out⟩
        case measure => simp [intOf]; omega
    · have HA' : Hid (unFrom f un n 0 = unFrom f un n k) := HA
      clear hs HA
      go_wp2
      go_ret
      exact ⟨ret_int (HA'.out.trans (unFrom_end hlt)).symm, hb⟩

set_option maxHeartbeats 1000000 in
theorem hasUnit_any (a : Option Addr) (n cap : Nat) (f : Nat → Ru) (un : Int) (w : World) (hs : SlU w a n f) (hl : n ≤ 2000000) (b : Bool) (hb : b = true ↔ ∃ j, j < n ∧ (f j).u = un) :
    Calls Try.prog 54 #[.slice a n cap, .int .i64 un] w fun e w' => e = .returned (.bool b) ∧ Below w.heap.size w w' := by
  have hmf : ∀ (fn : Fn) (first cap : Array Value) (w : World), (Instr.makeFunc fn first cap).run Try.prog w = .ok (.func fn first cap) w := fun _ _ _ _ => rfl
  have B0 : Below w.heap.size w (w.alloc (.cells #[.int .i64 un] 3)) := (Below.refl _ w).alloc (Nat.le_refl _) _
  have HT : Hid (Box (w.alloc (.cells #[.int .i64 un] 3)) w.heap.size 3 (.int .i64 un)) := Box.new w (.int .i64 un) 3
  have HS : Hid (SlU (w.alloc (.cells #[.int .i64 un] 3)) a n f) := SlS.below hs B0
  have HB : Hid (Below w.heap.size w (w.alloc (.cells #[.int .i64 un] 3))) := B0
  have HBB : Hid (b = true ↔ 0 ≤ unFrom f un n 0) := by
    rw [unFrom_ge]
    exact hb.trans ⟨fun ⟨j, h1, h2⟩ => ⟨j, Nat.zero_le _, h1, h2⟩, fun ⟨j, _, h1, h2⟩ => ⟨j, h1, h2⟩⟩
  clear hs B0 hb
  go_enter Try.func54, Try.ntmps54
  go_wp2_with fail
  refine Calls.mono (R := fun e w' => e = .returned (.bool b) ∧ Below (w.alloc (.cells #[.int .i64 un] 3)).heap.size (w.alloc (.cells #[.int .i64 un] 3)) w') ?_ ?_
  · go_enter Try.func100, Try.ntmps100
    go_wp2_with fail
    refine (indexUnit_any a n cap f w.heap.size un _ HS.out HT.out hl).mono ?_
    rintro e w1 ⟨rfl, b1⟩
    clear HS HT
    cases b with
    | true =>
      have hge : 0 ≤ unFrom f un n 0 := HBB.out.1 rfl
      go_wp2
      go_ret
      exact ⟨rfl, b1⟩
    | false =>
      have hge : ¬ 0 ≤ unFrom f un n 0 := fun e => by have := HBB.out.2 e; cases this
      have hge' : decide (0 ≤ unFrom f un n 0) = false := decide_eq_false hge
      go_wp2
      go_ret
      exact ⟨by first | rfl | exact congrArg (fun x => Ending.returned (Value.bool x)) hge', b1⟩
  · rintro e w1 ⟨rfl, b1⟩
    have B1 := bel_next HB.out b1
    clear b1 HS HT HB
    go_wp2
    go_ret
    exact ⟨rfl, B1⟩

set_option maxHeartbeats 1000000 in
theorem hasRun_any (r : Ru) (p m : Int) (w : World) (hp : 0 ≤ p ∧ p ≤ 65535) (hm : 0 ≤ m ∧ m ≤ 65536) (b : Bool) (hb : b = decide (r.lo ≤ p ∧ p + m - 1 ≤ r.hi)) :
    Calls Try.prog 129 #[.agg (ruc r), .int .i64 p, .int .i64 m] w fun e w' => e = .returned (.bool b) ∧ Below w.heap.size w w' := by
  have B0 : Below w.heap.size w (w.alloc (.cells (ruc r) 30)) := (Below.refl _ w).alloc (Nat.le_refl _) _
  have w1 : IntKind.i64.wrap (p + m) = p + m := by rw [IntKind.wrap_i64]; omega
  have w2 : IntKind.i64.wrap (p + m - 1) = p + m - 1 := by rw [IntKind.wrap_i64]; omega
  by_cases h1 : r.lo ≤ p
  · by_cases h2 : p + m - 1 ≤ r.hi
    · rw [hb, decide_eq_true (show r.lo ≤ p ∧ p + m - 1 ≤ r.hi from ⟨h1, h2⟩)]
      go_enter Try.func129, Try.ntmps129
      go_wp2
      go_ret
      exact ⟨rfl, B0⟩
    · rw [hb, decide_eq_false (show ¬ (r.lo ≤ p ∧ p + m - 1 ≤ r.hi) from fun h => h2 h.2)]
      go_enter Try.func129, Try.ntmps129
      go_wp2
      go_ret
      exact ⟨rfl, B0⟩
  · rw [hb, decide_eq_false (show ¬ (r.lo ≤ p ∧ p + m - 1 ≤ r.hi) from fun h => h1 h.1)]
    go_enter Try.func129, Try.ntmps129
    go_wp2
    go_ret
    exact ⟨rfl, B0⟩

end Go.Proofs.Ytgnmnbimmfknpaa
