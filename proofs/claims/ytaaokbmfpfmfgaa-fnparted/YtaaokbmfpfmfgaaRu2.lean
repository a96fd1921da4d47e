/- Which rule has a place: RuleAt of both sides. -/
import Derived.Test.YtaaokbmfpfmfgaaRu1
import Derived.Test.YtaaokbmfpfmfgaaQ1
namespace Go.Proofs.Ytaaokbmfpfmfgaa
open Go.RowKit

set_option linter.unusedVariables false

set_option linter.unusedSimpArgs false

/-- Whether a rule has a place. -/
def hasR (r : Ru) (un sp pl : Int) : Bool := decide (r.u = un) && decide (r.s = sp) && decide (r.lo ≤ pl) && decide (pl ≤ r.hi)

/-- The first of n rules that has it, from k on. -/
def atFrom (f : Nat → Ru) (un sp pl : Int) (n k : Nat) : Int :=
  if h : k < n then (if hasR (f k) un sp pl = true then (k : Int) else atFrom f un sp pl n (k + 1)) else -1
termination_by n - k

abbrev atR (f : Nat → Ru) (n : Nat) (un sp pl : Int) : Int := atFrom f un sp pl n 0

theorem atFrom_hit {f : Nat → Ru} {un sp pl : Int} {n k : Nat} (h : k < n) (hh : hasR (f k) un sp pl = true) : atFrom f un sp pl n k = (k : Int) := by
  rw [atFrom, dif_pos h, if_pos hh]

theorem atFrom_miss {f : Nat → Ru} {un sp pl : Int} {n k : Nat} (h : k < n) (hh : hasR (f k) un sp pl = false) : atFrom f un sp pl n k = atFrom f un sp pl n (k + 1) := by
  rw [atFrom, dif_pos h, if_neg (by rw [hh]; decide)]

theorem atFrom_end {f : Nat → Ru} {un sp pl : Int} {n k : Nat} (h : ¬ k < n) : atFrom f un sp pl n k = -1 := by
  rw [atFrom, dif_neg h]

set_option maxHeartbeats 1000000 in
theorem has_any (r : Ru) (un sp pl : Int) (w : World) :
    Calls Try.prog 47 #[.agg (ruc r), .int .i64 un, .int .i64 sp, .int .i64 pl] w fun e w' => e = .returned (.bool (hasR r un sp pl)) ∧ Below w.heap.size w w' := by
  unfold hasR
  by_cases h1 : r.u = un
  · by_cases h2 : r.s = sp
    · by_cases h3 : r.lo ≤ pl
      · by_cases h4 : pl ≤ r.hi
        · skip
          have e : (decide (r.u = un) && decide (r.s = sp) && decide (r.lo ≤ pl) && decide (pl ≤ r.hi)) = true := by simp [h1, h2, h3, h4]
          rw [e]
          clear e
          go_enter Try.func47, Try.ntmps47
          go_wp2
          go_ret
          exact ⟨rfl, (Below.refl _ w).alloc (Nat.le_refl _) _⟩
        · skip
          have e : (decide (r.u = un) && decide (r.s = sp) && decide (r.lo ≤ pl) && decide (pl ≤ r.hi)) = false := by simp [h1, h2, h3, h4]
          rw [e]
          clear e
          go_enter Try.func47, Try.ntmps47
          go_wp2
          go_ret
          exact ⟨rfl, (Below.refl _ w).alloc (Nat.le_refl _) _⟩
      · skip
        have e : (decide (r.u = un) && decide (r.s = sp) && decide (r.lo ≤ pl) && decide (pl ≤ r.hi)) = false := by simp [h1, h2, h3]
        rw [e]
        clear e
        go_enter Try.func47, Try.ntmps47
        go_wp2
        go_ret
        exact ⟨rfl, (Below.refl _ w).alloc (Nat.le_refl _) _⟩
    · skip
      have e : (decide (r.u = un) && decide (r.s = sp) && decide (r.lo ≤ pl) && decide (pl ≤ r.hi)) = false := by simp [h1, h2]
      rw [e]
      clear e
      go_enter Try.func47, Try.ntmps47
      go_wp2
      go_ret
      exact ⟨rfl, (Below.refl _ w).alloc (Nat.le_refl _) _⟩
  · skip
    have e : (decide (r.u = un) && decide (r.s = sp) && decide (r.lo ≤ pl) && decide (pl ≤ r.hi)) = false := by simp [h1]
    rw [e]
    clear e
    go_enter Try.func47, Try.ntmps47
    go_wp2
    go_ret
    exact ⟨rfl, (Below.refl _ w).alloc (Nat.le_refl _) _⟩

/-- The three boxes that the closure of RuleAt has caught. -/
def Tri (w : World) (g1 g2 g3 : Nat) (un sp pl : Int) : Prop :=
  Box w g1 3 (.int .i64 un) ∧ Box w g2 3 (.int .i64 sp) ∧ Box w g3 3 (.int .i64 pl)

theorem Tri.below {w w' : World} {g1 g2 g3 : Nat} {un sp pl : Int} (h : Tri w g1 g2 g3 un sp pl) (hb : Below w.heap.size w w') : Tri w' g1 g2 g3 un sp pl :=
  ⟨h.1.below hb, h.2.1.below hb, h.2.2.below hb⟩

set_option maxHeartbeats 1000000 in
theorem ruleAt1_any (r : Ru) (g1 g2 g3 : Nat) (un sp pl : Int) (w : World) (h : Tri w g1 g2 g3 un sp pl) :
    Calls Try.prog 46 #[.agg (ruc r), .pointer (some ⟨g1, 0, none⟩), .pointer (some ⟨g2, 0, none⟩), .pointer (some ⟨g3, 0, none⟩)] w fun e w' => e = .returned (.bool (hasR r un sp pl)) ∧ Below w.heap.size w w' := by
  have B0 : Below w.heap.size w (w.alloc (.cells (ruc r) 41)) := (Below.refl _ w).alloc (Nat.le_refl _) _
  have H0 := h.below B0
  have c1 := H0.1.cell
  have c2 := H0.2.1.cell
  have c3 := H0.2.2.cell
  go_enter Try.func46, Try.ntmps46
  go_wp2_with fail
  refine (has_any r un sp pl _).mono ?_
  rintro e w1 ⟨rfl, b1⟩
  have B1 := bel_next B0 (by simpa using b1)
  clear b1 B0 H0 c1 c2 c3
  go_wp2
  go_ret
  exact ⟨rfl, B1⟩

set_option maxHeartbeats 1000000 in
theorem indexFunc_any (a : Option Addr) (n cap : Nat) (f : Nat → Ru) (g1 g2 g3 : Nat) (un sp pl : Int) (w : World) (hs : SlU w a n f) (h : Tri w g1 g2 g3 un sp pl) (hl : n ≤ 2000000) :
    Calls Try.prog 45 #[.slice a n cap, .func (.func 46) #[] #[.pointer (some ⟨g1, 0, none⟩), .pointer (some ⟨g2, 0, none⟩), .pointer (some ⟨g3, 0, none⟩)]] w fun e w' => e = .returned (.int .i64 (atR f n un sp pl)) ∧ Below w.heap.size w w' := by
  go_enter Try.func45, Try.ntmps45
  go_wp2
  go_loopw [8] (fun i wr => ∃ k : Nat, k ≤ n ∧ i = .int .i64 k ∧ Below w.heap.size w wr ∧ atR f n un sp pl = atFrom f un sp pl n k) (fun i _ => n - (intOf i).toNat)
  case atStart => exact ⟨0, Nat.zero_le _, rfl, Below.refl _ _, rfl⟩
  case round =>
    obtain ⟨k, hk, rfl, hb, HA⟩ := hrel
    by_cases hlt : k < n
    · obtain ⟨b, off, rfl, hb0, c0, c1, c2, c3, c4, c5, c6⟩ := SlU.seven (SlS.below hs hb) hlt
      have hi : (k : Int) < (n : Int) := by omega
      have H1 := h.below hb
      have HA' : Hid (atR f n un sp pl = atFrom f un sp pl n k) := HA
      clear HA
      go_wp2_with fail
      refine (ruleAt1_any (f k) g1 g2 g3 un sp pl _ H1).mono ?_
      rintro e w1 ⟨rfl, b1⟩
      have B1 := bel_next hb b1
      clear hb b1 c0 c1 c2 c3 c4 c5 c6 H1
      cases hh : hasR (f k) un sp pl
      · go_wp2
        go_roundw
        case rel => exact ⟨k + 1, by omega, by go_num, B1, HA'.out.trans (atFrom_miss hlt hh)⟩
        case measure => simp [intOf]; omega
      · go_wp2
        go_ret
        exact ⟨ret_int (HA'.out.trans (atFrom_hit hlt hh)).symm, B1⟩
    · have HA' : Hid (atR f n un sp pl = atFrom f un sp pl n k) := HA
      clear hs HA
      go_wp2
      go_ret
      exact ⟨ret_int (HA'.out.trans (atFrom_end hlt)).symm, hb⟩

end Go.Proofs.Ytaaokbmfpfmfgaa
