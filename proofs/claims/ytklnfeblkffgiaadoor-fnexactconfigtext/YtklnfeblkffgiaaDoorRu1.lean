/- Rules as values, and lists of rules: how the laws' own helpers copy them and hold them against one another. -/
import Derived.Test.YtklnfeblkffgiaaDoorStR
import Derived.Test.YtklnfeblkffgiaaDoorMarks2
import Derived.Test.YtklnfeblkffgiaaDoorSteps
import Derived.Test.YtklnfeblkffgiaaDoorReq1
import Derived.Test.YtklnfeblkffgiaaDoorBits
namespace Go.Proofs.YtklnfeblkffgiaaDoor
open Go.RowKit

set_option linter.unusedVariables false

set_option linter.unusedSimpArgs false

/-- A rule: unit, space, first and last place, port, device, shift. -/
structure Ru where
  u : Int
  s : Int
  lo : Int
  hi : Int
  p : Int
  t : Int
  sh : Int

abbrev rul (r : Ru) : List Value := [.int .i64 r.u, .int .i64 r.s, .int .i64 r.lo, .int .i64 r.hi, .int .i64 r.p, .int .i64 r.t, .int .i64 r.sh]
abbrev ruc (r : Ru) : Array Value := #[.int .i64 r.u, .int .i64 r.s, .int .i64 r.lo, .int .i64 r.hi, .int .i64 r.p, .int .i64 r.t, .int .i64 r.sh]

/-- The slice at a reads as n rules f 0, f 1 .. -/
abbrev SlU (w : World) (a : Option Addr) (n : Nat) (f : Nat → Ru) : Prop := SlS w a 7 n (fun k => rul (f k))

/-- A block of n rules of the call's own. -/
abbrev RowU (w : World) (g n : Nat) (f : Nat → Ru) : Prop := RowS w g 33 7 n (fun k => rul (f k))

theorem SlU.seven {w : World} {a : Option Addr} {n : Nat} {f : Nat → Ru} (h : SlU w a n f) {k : Nat} (hk : k < n) : ∃ b off, a = some ⟨b, off, none⟩ ∧ b < w.heap.size ∧
    w.cell? ⟨b, off + k * 7, none⟩ = some (.int .i64 (f k).u) ∧ w.cell? ⟨b, off + k * 7 + 1, none⟩ = some (.int .i64 (f k).s) ∧ w.cell? ⟨b, off + k * 7 + 2, none⟩ = some (.int .i64 (f k).lo) ∧ w.cell? ⟨b, off + k * 7 + 3, none⟩ = some (.int .i64 (f k).hi) ∧ w.cell? ⟨b, off + k * 7 + 4, none⟩ = some (.int .i64 (f k).p) ∧ w.cell? ⟨b, off + k * 7 + 5, none⟩ = some (.int .i64 (f k).t) ∧ w.cell? ⟨b, off + k * 7 + 6, none⟩ = some (.int .i64 (f k).sh) := by
  obtain ⟨b, off, ha, hb, hc⟩ := SlS.at h hk
  exact ⟨b, off, ha, hb, hc 0 (by decide), hc 1 (by decide), hc 2 (by decide), hc 3 (by decide), hc 4 (by decide), hc 5 (by decide), hc 6 (by decide)⟩

theorem RowU.seven {w : World} {g n : Nat} {f : Nat → Ru} (h : RowU w g n f) {k : Nat} (hk : k < n) :
    w.cell? ⟨g, k * 7, none⟩ = some (.int .i64 (f k).u) ∧ w.cell? ⟨g, k * 7 + 1, none⟩ = some (.int .i64 (f k).s) ∧ w.cell? ⟨g, k * 7 + 2, none⟩ = some (.int .i64 (f k).lo) ∧ w.cell? ⟨g, k * 7 + 3, none⟩ = some (.int .i64 (f k).hi) ∧ w.cell? ⟨g, k * 7 + 4, none⟩ = some (.int .i64 (f k).p) ∧ w.cell? ⟨g, k * 7 + 5, none⟩ = some (.int .i64 (f k).t) ∧ w.cell? ⟨g, k * 7 + 6, none⟩ = some (.int .i64 (f k).sh) :=
  ⟨h.cell hk (j := 0) (by decide), h.cell hk (j := 1) (by decide), h.cell hk (j := 2) (by decide), h.cell hk (j := 3) (by decide), h.cell hk (j := 4) (by decide), h.cell hk (j := 5) (by decide), h.cell hk (j := 6) (by decide)⟩

theorem Tryd.info33 : (Tryd.prog.info? 33).map (fun i => (i.zero, i.size, i.bytes)) = some (some (.agg (ruc ⟨0, 0, 0, 0, 0, 0, 0⟩)), 7, 56) := by kernel_rfl

set_option maxHeartbeats 1000000 in
theorem toRule_any (r : Ru) (w : World) :
    Calls Tryd.prog 49 #[.agg (ruc r)] w fun e w' => e = .returned (.agg (ruc r)) ∧ Below w.heap.size w w' := by
  go_enter Tryd.func49, Tryd.ntmps49
  go_wp2
  refine bodyPost_ret (v := .agg (ruc r)) (by simp [results, Tryd.results49, go_sem]) rfl ⟨rfl, ?_⟩
  exact (((Below.refl _ w).alloc (Nat.le_refl _) _).alloc (by simp) _).alloc (by simp; omega) _

set_option maxHeartbeats 1000000 in
theorem eqRule_true (r : Ru) (w : World) :
    Calls Tryd.prog 50 #[.agg (ruc r), .agg (ruc r)] w fun e w' => e = .returned (.bool true) ∧ Below w.heap.size w w' := by
  go_enter Tryd.func50, Tryd.ntmps50
  go_wp2
  go_ret
  exact ⟨rfl, ((Below.refl _ w).alloc (Nat.le_refl _) _).alloc (by simp) _⟩

theorem szRuleS_fits (a : Option Addr) (n cap : Nat) (left : Nat) (w : World) (h : n ≤ left) (hl : left ≤ 1048576) :
    Calls Tryd.prog 29 #[.slice a n cap, .int .i64 (left : Int)] w fun e w' => e = .returned (.int .i64 (((left - n : Nat) : Nat) : Int)) ∧ w' = w := by
  have h1 : ¬ ((left : Int) - (n : Int) < 0) := by omega
  have h2 : IntKind.i64.wrap ((left : Int) - n) = (left : Int) - n := by rw [IntKind.wrap_i64]; omega
  go_enter Tryd.func29, Tryd.ntmps29
  go_wp2
  go_ret
  exact ⟨ret_int (by omega), rfl⟩

theorem szRuleS_big (a : Option Addr) (n cap : Nat) (left : Nat) (w : World) (hm : n ≤ maxLen) (h : ¬ n ≤ left) (hl : left ≤ 1048576) :
    Calls Tryd.prog 29 #[.slice a n cap, .int .i64 (left : Int)] w fun e w' => e = .returned (.int .i64 (-1)) ∧ w' = w := by
  unfold maxLen at hm
  have h1 : (left : Int) - (n : Int) < 0 := by omega
  have h2 : IntKind.i64.wrap ((left : Int) - n) = (left : Int) - n := by rw [IntKind.wrap_i64]; omega
  go_enter Tryd.func29, Tryd.ntmps29
  go_wp2
  go_ret
  exact ⟨rfl, rfl⟩

set_option maxHeartbeats 1000000 in
theorem toRuleS_any (a : Option Addr) (n cap : Nat) (f : Nat → Ru) (w : World) (hs : SlU w a n f) (hl : n ≤ 2000000) :
    Calls Tryd.prog 31 #[.slice a n cap] w fun e w' => e = .returned (.slice (some ⟨w.heap.size, 0, none⟩) n n) ∧
      RowU w' w.heap.size n f ∧ Below w.heap.size w w' := by
  have hmk := run_make_st (P := Tryd.prog) 24 33 (.agg (ruc ⟨0, 0, 0, 0, 0, 0, 0⟩)) 7 56 Tryd.underlying24 Tryd.info33 .i64 .i64 n (by omega) (by omega)
  go_enter Tryd.func31, Tryd.ntmps31
  go_wp2
  clear hmk
  go_loopw [4] (fun i wr => ∃ k : Nat, k ≤ n ∧ i = .int .i64 k ∧ RowU wr w.heap.size n (fun i => if i < k then f i else ⟨0, 0, 0, 0, 0, 0, 0⟩) ∧ Below w.heap.size w wr) (fun i _ => n - (intOf i).toNat)
  case atStart => exact ⟨0, Nat.zero_le _, rfl, (RowS.made w (rul ⟨0, 0, 0, 0, 0, 0, 0⟩) n _ (by simp)).congr (fun i _ => by simp), (Below.refl _ _).alloc (Nat.le_refl _) _⟩
  case round =>
    obtain ⟨k, hk, rfl, hrow, hb⟩ := hrel
    by_cases hlt : k < n
    · obtain ⟨b, off, rfl, hb0, c0, c1, c2, c3, c4, c5, c6⟩ := SlU.seven (SlS.below hs hb) hlt
      have hi : (k : Int) < (n : Int) := by omega
      have HR : Hid (RowU wr w.heap.size n (fun i => if i < k then f i else ⟨0, 0, 0, 0, 0, 0, 0⟩)) := hrow
      have HB : Hid (Below w.heap.size w wr) := hb
      clear hrow hb
      go_wp2_with fail
      refine (toRule_any (f k) _).mono ?_
      rintro e w1 ⟨rfl, b1⟩
      have R1 := HR.out.below b1
      have B1 := bel_next HB.out b1
      obtain ⟨d0, d1, d2, d3, d4, d5, d6⟩ := RowU.seven R1 hlt
      have f0 := RowS.fro R1 (k * 7)
      have f1 := RowS.fro R1 (k * 7 + 1)
      have f2 := RowS.fro R1 (k * 7 + 2)
      have f3 := RowS.fro R1 (k * 7 + 3)
      have f4 := RowS.fro R1 (k * 7 + 4)
      have f5 := RowS.fro R1 (k * 7 + 5)
      have f6 := RowS.fro R1 (k * 7 + 6)
      have HR2 : Hid (RowU (setL w1 w.heap.size (k * 7) (rul (f k))) w.heap.size n (fun i => if i < k + 1 then f i else ⟨0, 0, 0, 0, 0, 0, 0⟩)) := by
        refine (RowS.set R1 hlt (rul (f k)) rfl).congr (fun i _ => ?_)
        by_cases e : i = k
        · subst e; simp
        · simp only [if_neg e]
          by_cases h : i < k
          · rw [if_pos h, if_pos (by omega)]
          · rw [if_neg h, if_neg (by omega)]
      have HB2 : Hid (Below w.heap.size w (setL w1 w.heap.size (k * 7) (rul (f k)))) := setL_below (Nat.le_refl _) _ _ _ B1
      clear R1 B1 b1 HR HB c0 c1 c2 c3 c4 c5 c6 hs
      go_wp2
      go_roundw
      case rel => exact ⟨k + 1, by omega, by go_num, HR2.out, HB2.out⟩
      case measure => simp [intOf]; omega
    · have R : Hid (RowU wr w.heap.size n f) := hrow.congr (fun i hi => by show rul (if i < k then f i else _) = _; rw [if_pos (by omega)])
      clear hrow hs
      go_wp2
      go_ret
      exact ⟨rfl, R.out, hb⟩

set_option maxHeartbeats 1000000 in
theorem eqRuleS_true (a a' : Option Addr) (n cap cap' : Nat) (f : Nat → Ru) (w : World) (hs : SlU w a n f) (hs' : SlU w a' n f) (hl : n ≤ 2000000) :
    Calls Tryd.prog 32 #[.slice a n cap, .slice a' n cap'] w fun e w' => e = .returned (.bool true) ∧ Below w.heap.size w w' := by
  go_enter Tryd.func32, Tryd.ntmps32
  go_wp2
  go_loopw [5] (fun i wr => ∃ k : Nat, k ≤ n ∧ i = .int .i64 k ∧ Below w.heap.size w wr) (fun i _ => n - (intOf i).toNat)
  case atStart => exact ⟨0, Nat.zero_le _, rfl, Below.refl _ _⟩
  case round =>
    obtain ⟨k, hk, rfl, hb⟩ := hrel
    by_cases hlt : k < n
    · obtain ⟨b, off, rfl, hb0, c0, c1, c2, c3, c4, c5, c6⟩ := SlU.seven (SlS.below hs hb) hlt
      obtain ⟨b', off', rfl, hb0', d0, d1, d2, d3, d4, d5, d6⟩ := SlU.seven (SlS.below hs' hb) hlt
      have hi : (k : Int) < (n : Int) := by omega
      clear hs hs'
      go_wp2_with fail
      go_region_with (go_at_call 50; refine (eqRule_true (f k) _).mono ?_; rintro e w1 ⟨rfl, b1'⟩; have b1 : Below wr.heap.size wr w1 := bel_next (by first | exact Below.refl _ _ | exact (Below.refl _ _).drew | exact (Below.refl _ _).drew.drew) b1'; clear b1')
      all_goals (
        have B1 := bel_next hb b1
        clear hb b1 c0 c1 c2 c3 c4 c5 c6 d0 d1 d2 d3 d4 d5 d6
        go_wp2
        go_roundw
        case rel => exact ⟨k + 1, by omega, by go_num, B1⟩
        case measure => simp [intOf]; omega)
    · clear hs hs'
      go_wp2
      go_ret
      exact ⟨rfl, hb⟩

end Go.Proofs.YtklnfeblkffgiaaDoor
