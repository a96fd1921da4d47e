/- WordAt, of the program and of its model: the same number and the same word. -/
import Derived.Test.YtimgohnnapaafaaBys
namespace Go.Proofs.Ytimgohnnapaafaa
open Go.RowKit

/-- The word of two bytes, as the walk writes it. -/
def word2 (x y : Int) : Int := bits BinOp.or IntKind.i64 (x * 256) y

theorem ret2_eq {k : IntKind} {a b : Int} {v : Value} (h : a = b) : Ending.returned (.tuple #[.int k a, v]) = .returned (.tuple #[.int k b, v]) := by rw [h]

set_option maxHeartbeats 1000000 in
theorem implWordAt_in (b off len cap : Nat) (x y : Int) (k : Nat) (w : World) (hk : k + 2 ≤ len) (h0 : w.cell? ⟨b, off + k, none⟩ = some (.int .u8 x)) (h1 : w.cell? ⟨b, off + (k + 1), none⟩ = some (.int .u8 y))
    (hx0 : 0 ≤ x) (hx1 : x ≤ 255) (hy0 : 0 ≤ y) (hy1 : y ≤ 255) (hl : len ≤ 2000000) :
    Calls Try.prog 115 #[.slice (some ⟨b, off, none⟩) len cap, .int .i64 k] w fun e w' => e = .returned (.tuple #[.int .i64 (word2 x y), .bool true]) ∧ ∃ n, w' = w.drewN n := by
  have i0 : (k : Int) < (len : Int) := by omega
  have i1 : (k : Int) + 1 < (len : Int) := by omega
  have i2 : decide ((len : Int) - 2 < (k : Int)) = false := by simp; omega
  go_enter Try.func115, Try.ntmps115
  go_wp2
  go_region
  all_goals
    go_wp2
    go_ret2
    exact ⟨rfl, 1, rfl⟩

set_option maxHeartbeats 1000000 in
theorem implWordAt_out (a : Option Addr) (len cap : Nat) (k : Int) (w : World) (hk : k < 0 ∨ (len : Int) - 2 < k) (hl : len ≤ 2000000) :
    Calls Try.prog 115 #[.slice a len cap, .int .i64 k] w fun e w' => e = .returned (.tuple #[.int .i64 0, .bool false]) ∧ ∃ n, w' = w.drewN n := by
  by_cases h0 : 0 ≤ k
  · have h1 : (len : Int) - 2 < k := by omega
    have i2 : decide ((len : Int) - 2 < k) = true := by simp; omega
    clear hk
    go_enter Try.func115, Try.ntmps115
    go_wp2
    go_ret2
    exact ⟨rfl, 0, rfl⟩
  · clear hk
    go_enter Try.func115, Try.ntmps115
    go_wp2
    go_ret2
    exact ⟨rfl, 0, rfl⟩

end Go.Proofs.Ytimgohnnapaafaa
