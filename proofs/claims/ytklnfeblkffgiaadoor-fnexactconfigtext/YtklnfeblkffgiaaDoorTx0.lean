/- Texts: numbers in digits. -/
import Derived.Test.YtklnfeblkffgiaaDoorSteps
import Derived.Test.YtklnfeblkffgiaaDoorReq1
import Derived.Lib.ItoaNum
import Derived.Laws.IdiomStrings
import Derived.Laws.Concat
import Derived.Deep.RegionWith
namespace Go.Proofs.YtklnfeblkffgiaaDoor
open Go.RowKit

set_option linter.unusedVariables false

set_option linter.unusedSimpArgs false

/-- A text of these bytes. -/
def tx (l : List UInt8) : ByteArray := ⟨l.toArray⟩

theorem tx_size (l : List UInt8) : (tx l).size = l.length := by show l.toArray.size = _; simp

theorem tx_append (l m : List UInt8) : tx l ++ tx m = tx (l ++ m) := by
  apply ByteArray.ext
  simp [tx]

theorem add_tt (P : Program) (l m : List UInt8) (h : l.length + m.length ≤ 1000000000) (w : World) : (Op.stringOp .add (tx l) (tx m)).run P w = .ok (.string (tx (l ++ m))) w := by
  rw [run_string_add_sum, tx_append]
  rw [tx_size, tx_size]; omega

theorem dec_len (u : Nat) : (Lib.decDigits u).length ≤ u + 1 := by
  induction u using Nat.strongRecOn with
  | _ u ih =>
    rw [Lib.decDigits]
    split
    · simp
    · rw [List.length_append]
      have := ih (u / 10) (by omega)
      simp only [List.length_cons, List.length_nil]
      omega

theorem conv_one (w : World) (b c : Nat) (n : Int) (h0 : 0 ≤ n ∧ n ≤ 255) (hc : w.cell? ⟨b, 0, none⟩ = some (.int .u8 n)) :
    (convert 22 9 (.slice (some ⟨b, 0, none⟩) 1 c)).run Tryd.prog w = .ok (.string (tx [UInt8.ofNat n.toNat])) w := by
  have h9 := run_convert_bytes_back (P := Tryd.prog) w 22 9 5 ⟨b, 0, none⟩ c [UInt8.ofNat n.toNat] Tryd.underlying22 Tryd.underlying5 Tryd.underlying9 (fun j hj => by
    have e : j = 0 := by simpa using hj
    subst e
    have e2 : (Addr.mk b 0 none).add 0 = ⟨b, 0, none⟩ := rfl
    rw [e2, hc]
    have e3 : ((UInt8.ofNat n.toNat).toNat : Int) = n := by
      rw [UInt8.toNat_ofNat_of_lt' (by show n.toNat < 256; omega)]
      omega
    simp only [List.getElem_cons_zero]
    rw [e3])
  exact h9

set_option maxHeartbeats 1000000 in
theorem l11Text_small (u : Nat) (hu : u < 10) (w : World) :
    Calls Tryd.prog 30 #[.int .i64 (u : Int)] w fun e w' => e = .returned (.string (tx (Lib.decDigits u))) ∧ Below w.heap.size w w' := by
  have h1 : ¬ (u : Int) < 0 := by omega
  have h2 : (u : Int) < 10 := by omega
  have hw1 : IntKind.i64.wrap (48 + (u : Int)) = 48 + (u : Int) := by rw [IntKind.wrap_i64]; omega
  have hw2 : IntKind.u8.wrap (48 + (u : Int)) = 48 + (u : Int) := by rw [IntKind.wrap_u8]; omega
  have hcv : (convert 22 9 (.slice (some ⟨w.heap.size, 0, none⟩) 1 1)).run Tryd.prog (w.alloc (.cells #[.int .u8 (48 + (u : Int))] 5)) = .ok (.string (tx (Lib.decDigits u))) (w.alloc (.cells #[.int .u8 (48 + (u : Int))] 5)) := by
    rw [conv_one _ _ _ (48 + (u : Int)) (by omega) (by simp [go_sem])]
    rw [Lib.decDigits_one hu]
    have : (48 + (u : Int)).toNat = 48 + u := by omega
    rw [this]
  go_enter Tryd.func30, Tryd.ntmps30
  go_wp2
  go_ret
  exact ⟨rfl, bel_alloc _ _⟩

end Go.Proofs.YtklnfeblkffgiaaDoor
