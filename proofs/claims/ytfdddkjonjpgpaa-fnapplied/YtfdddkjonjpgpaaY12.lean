/- Texts that the proof needs, joined: Dev3. -/
import Derived.Test.YtfdddkjonjpgpaaY1
import Derived.BigRegion
namespace Go.Proofs.Ytfdddkjonjpgpaa
open Go.RowKit
set_option linter.unusedVariables false
set_option linter.unusedSimpArgs false
set_option maxRecDepth 20000 in
set_option maxHeartbeats 8000000 in
theorem specNew_any (n : Int) (m : Nat) (hm : dnN n = m) (w : World) : Calls Try.prog 54 #[.int .i64 n] w fun e w' => NDn w w' e m := by
  have hml : m ≤ 64 := by rw [← hm]; unfold dnN; split <;> omega
  have b0 := bel_alloc w (.cells #[.slice none 0 0, .slice none 0 0, .slice none 0 0, .slice none 0 0] 27)
  have mkB := run_make_row' (P := Try.prog) 24 4 (.bool false) 1 Try.underlying24 Try.info4 rfl .i64 .i64 m (by omega) (by omega)
  have mkI := run_make_row' (P := Try.prog) 25 3 (.int .i64 0) 8 Try.underlying25 Try.infoI3 rfl .i64 .i64 m (by omega) (by omega)
  cases hi : inB n 0 64
  · obtain rfl : m = 0 := by rw [← hm]; unfold dnN; rw [if_neg (of_decide_eq_false hi)]
    have mkB0 : ∀ w : World, (Instr.makeSlice 24 (.int .i64 0) (.int .i64 0)).run Try.prog w = .ok (.slice (some ⟨w.heap.size, 0, none⟩) 0 0) (w.alloc (.cells (madeCells #[.bool false] 0) 4)) := mkB
    have mkI0 : ∀ w : World, (Instr.makeSlice 25 (.int .i64 0) (.int .i64 0)).run Try.prog w = .ok (.slice (some ⟨w.heap.size, 0, none⟩) 0 0) (w.alloc (.cells (madeCells #[.int .i64 0] 0) 3)) := mkI
    clear hm mkB mkI
    go_enter Try.func54, Try.ntmps54
    go_wp2_with (go_at_call 73; refine (l1In_any _ _ _ _ _ hi).mono ?_; rintro e wx ⟨rfl, rfl⟩)
    go_region
    all_goals (
      go_wp2
      refine bodyPost_ret (v := _) (by simp [results, Try.results54, go_sem]; rfl) rfl ?_
      obtain ⟨k1, k2, k3, k4, hb⟩ := heap5 _ _ _ _ _ _ _ rfl
      refine nd_at (by omega) (by first | exact k1 | exact k2 | exact k3 | exact k4) (by first | exact k1 | exact k2 | exact k3 | exact k4) (by first | exact k1 | exact k2 | exact k3 | exact k4) (by first | exact k1 | exact k2 | exact k3 | exact k4) ⟨by omega, by omega, by omega, by omega, by omega, by omega⟩ hb)
  · have hn := inB_yes' hi
    obtain ⟨k, rfl⟩ : ∃ k : Nat, n = (k : Int) := ⟨n.toNat, by omega⟩
    obtain rfl : m = k := by rw [← hm]; unfold dnN; rw [if_pos (by omega)]; simp
    clear hm hn
    go_enter Try.func54, Try.ntmps54
    go_wp2_with (go_at_call 73; refine (l1In_any _ _ _ _ _ hi).mono ?_; rintro e wx ⟨rfl, rfl⟩)
    go_region
    clear mkB mkI
    all_goals (
      go_wp2
      refine bodyPost_ret (v := _) (by simp [results, Try.results54, go_sem]; rfl) rfl ?_
      obtain ⟨k1, k2, k3, k4, hb⟩ := heap5 _ _ _ _ _ _ _ rfl
      refine nd_at (by omega) (by first | exact k1 | exact k2 | exact k3 | exact k4) (by first | exact k1 | exact k2 | exact k3 | exact k4) (by first | exact k1 | exact k2 | exact k3 | exact k4) (by first | exact k1 | exact k2 | exact k3 | exact k4) ⟨by omega, by omega, by omega, by omega, by omega, by omega⟩ hb)
end Go.Proofs.Ytfdddkjonjpgpaa
