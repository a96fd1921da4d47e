/- l1Once alone. -/
import Derived.Test.YtaaokbmfpfmfgaaCU
namespace Go.Proofs.Ytaaokbmfpfmfgaa
open Go.RowKit

set_option linter.unusedVariables false

set_option linter.unusedSimpArgs false

set_option maxHeartbeats 1000000 in
theorem l1Once_any (w0 : World) (a : Option Addr) (cap : Nat) (zs : List Int) (w : World) (g : Nat) (n : Int) (hn : 1 ≤ n) (hC : Cur w0 a cap zs w g) :
    Calls Try.prog 101 #[.pointer (some ⟨g, 0, none⟩), .int .i64 n] w fun e w' => ∃ t : Bool, e = .returned (.bool t) ∧ Cur w0 a cap zs w' g ∧ w.grownBy w' (some g) := by
  go_enter Try.func101, Try.ntmps101
  go_wp2_with fail
  refine (l1Below_any w0 a cap zs _ g n hn hC).mono ?_
  rintro e w1 ⟨x, rfl, _, C1, g1⟩
  have R : Hid (Cur w0 a cap zs w1 g ∧ w.grownBy w1 (some g)) := ⟨C1, g1⟩
  clear hC C1 g1
  go_wp2
  go_ret
  exact ⟨_, rfl, R.out⟩

theorem ints_lit (w : World) (l : List Int) (t : TypeId) : Ints (w.alloc (.cells (l.map (Value.int .i64)).toArray t)) ⟨w.heap.size, 0, none⟩ l :=
  ⟨w.heap.size, 0, rfl, by simp, fun i hi => by simp [hi]⟩

end Go.Proofs.Ytaaokbmfpfmfgaa
