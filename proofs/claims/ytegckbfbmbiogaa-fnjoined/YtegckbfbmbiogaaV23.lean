/- Texts that the proof needs, joined: Ru3. -/
import Derived.Test.YtegckbfbmbiogaaV1
namespace Go.Proofs.Ytegckbfbmbiogaa
open Go.RowKit
set_option linter.unusedVariables false
set_option linter.unusedSimpArgs false
set_option maxHeartbeats 4000000 in
theorem specRuleAt_any (a : Option Addr) (n cap : Nat) (f : Nat → Ru) (un sp pl : Int) (w : World) (hs : SlU w a n f) (hl : n ≤ 2000000) :
    Calls Try.prog 41 #[.slice a n cap, .int .i64 un, .int .i64 sp, .int .i64 pl] w fun e w' => e = .returned (.int .i64 (atR f n un sp pl)) ∧ Below w.heap.size w w' := by
  go_enter Try.func41, Try.ntmps41
  go_wp2
  go_loopw [9] (fun i wr => ∃ k : Nat, k ≤ n ∧ i = .int .i64 k ∧ Below w.heap.size w wr ∧ atR f n un sp pl = atFrom f un sp pl n k) (fun i _ => n - (intOf i).toNat)
  case atStart => exact ⟨0, Nat.zero_le _, rfl, Below.refl _ _, rfl⟩
  case round =>
    obtain ⟨k, hk, rfl, hb, HA⟩ := hrel
    have HA' : Hid (atR f n un sp pl = atFrom f un sp pl n k) := HA
    clear HA
    by_cases hlt : k < n
    · obtain ⟨b, off, rfl, hb0, c0, c1, c2, c3, c4, c5, c6⟩ := SlU.seven (SlS.below hs hb) hlt
      have hi : (k : Int) < (n : Int) := by omega
      by_cases h1 : (f k).u = un
      · by_cases h2 : (f k).s = sp
        · have d1 : decide ((f k).u = un) = true := by simpa using h1
          have d2 : decide ((f k).s = sp) = true := by simpa using h2
          have e1 : hasR (f k) un sp pl = inB pl (f k).lo (f k).hi := by simp [hasR, inB, h1, h2]
          clear hs
          cases hin : inB pl (f k).lo (f k).hi
          · rw [hin] at e1
            go_wp2
            go_quiet ((go_at_call 63; refine Calls.quiet_of_same (l1In_any pl (f k).lo (f k).hi _ false hin)))
            go_wp2
            go_roundw
            case rel => exact ⟨k + 1, by omega, by go_num, by first | exact hb | exact bel_drewN hb _, HA'.out.trans (atFrom_miss hlt e1)⟩
            case measure => simp [intOf]; omega
          · rw [hin] at e1
            go_wp2
            go_quiet ((go_at_call 63; refine Calls.quiet_of_same (l1In_any pl (f k).lo (f k).hi _ true hin)))
            go_wp2
            go_ret
            exact ⟨ret_int (HA'.out.trans (atFrom_hit hlt e1)).symm, by first | exact hb | exact bel_drewN hb _⟩
        · have hh : hasR (f k) un sp pl = false := by simp [hasR, h2]
          have d1 : decide ((f k).u = un) = true := by simpa using h1
          have d2 : ((f k).s == sp) = false := by simpa using h2
          clear hs
          go_wp2
          go_quiet (fail)
          go_wp2
          go_roundw
          case rel => exact ⟨k + 1, by omega, by go_num, by first | exact hb | exact bel_drewN hb _, HA'.out.trans (atFrom_miss hlt hh)⟩
          case measure => simp [intOf]; omega
      · have hh : hasR (f k) un sp pl = false := by simp [hasR, h1]
        have d1 : ((f k).u == un) = false := by simpa using h1
        clear hs
        go_wp2
        go_quiet (fail)
        go_wp2
        go_roundw
        case rel => exact ⟨k + 1, by omega, by go_num, by first | exact hb | exact bel_drewN hb _, HA'.out.trans (atFrom_miss hlt hh)⟩
        case measure => simp [intOf]; omega
    · clear hs
      go_wp2
      go_ret
      exact ⟨ret_int (HA'.out.trans (atFrom_end hlt)).symm, hb⟩
end Go.Proofs.Ytegckbfbmbiogaa
