/- Texts that the proof needs, joined: Q3. -/
import Derived.Test.YtohikbpolofklaaGreatDoorV1
namespace Go.Proofs.YtohikbpolofklaaGreatDoor
open Go.RowKit
set_option linter.unusedVariables false
theorem ta_1_1 (w : World) (v : Value) : (Instr.typeAssert (.iface 87 v) 67 87 true).run Tryz.prog w = .ok (.tuple #[v, .bool true]) w := by kernel_rfl
theorem ta_2_1 (w : World) (v : Value) : (Instr.typeAssert (.iface 89 v) 67 87 true).run Tryz.prog w = .ok (.tuple #[.agg #[.int .i64 0, .int .i64 0], .bool false]) w := by kernel_rfl
theorem ta_2_2 (w : World) (v : Value) : (Instr.typeAssert (.iface 89 v) 67 89 true).run Tryz.prog w = .ok (.tuple #[v, .bool true]) w := by kernel_rfl
theorem ta_3_1 (w : World) (v : Value) : (Instr.typeAssert (.iface 90 v) 67 87 true).run Tryz.prog w = .ok (.tuple #[.agg #[.int .i64 0, .int .i64 0], .bool false]) w := by kernel_rfl
theorem ta_3_2 (w : World) (v : Value) : (Instr.typeAssert (.iface 90 v) 67 89 true).run Tryz.prog w = .ok (.tuple #[.agg #[.int .i64 0, .int .i64 0], .bool false]) w := by kernel_rfl
theorem ta_3_3 (w : World) (v : Value) : (Instr.typeAssert (.iface 90 v) 67 90 true).run Tryz.prog w = .ok (.tuple #[v, .bool true]) w := by kernel_rfl
theorem ta_4_1 (w : World) (v : Value) : (Instr.typeAssert (.iface 91 v) 67 87 true).run Tryz.prog w = .ok (.tuple #[.agg #[.int .i64 0, .int .i64 0], .bool false]) w := by kernel_rfl
theorem ta_4_2 (w : World) (v : Value) : (Instr.typeAssert (.iface 91 v) 67 89 true).run Tryz.prog w = .ok (.tuple #[.agg #[.int .i64 0, .int .i64 0], .bool false]) w := by kernel_rfl
theorem ta_4_3 (w : World) (v : Value) : (Instr.typeAssert (.iface 91 v) 67 90 true).run Tryz.prog w = .ok (.tuple #[.agg #[.int .i64 0, .int .i64 0], .bool false]) w := by kernel_rfl
theorem ta_4_4 (w : World) (v : Value) : (Instr.typeAssert (.iface 91 v) 67 91 true).run Tryz.prog w = .ok (.tuple #[v, .bool true]) w := by kernel_rfl
theorem ta_5_1 (w : World) (v : Value) : (Instr.typeAssert (.iface 93 v) 67 87 true).run Tryz.prog w = .ok (.tuple #[.agg #[.int .i64 0, .int .i64 0], .bool false]) w := by kernel_rfl
theorem ta_5_2 (w : World) (v : Value) : (Instr.typeAssert (.iface 93 v) 67 89 true).run Tryz.prog w = .ok (.tuple #[.agg #[.int .i64 0, .int .i64 0], .bool false]) w := by kernel_rfl
theorem ta_5_3 (w : World) (v : Value) : (Instr.typeAssert (.iface 93 v) 67 90 true).run Tryz.prog w = .ok (.tuple #[.agg #[.int .i64 0, .int .i64 0], .bool false]) w := by kernel_rfl
theorem ta_5_4 (w : World) (v : Value) : (Instr.typeAssert (.iface 93 v) 67 91 true).run Tryz.prog w = .ok (.tuple #[.agg #[.int .i64 0, .int .i64 0], .bool false]) w := by kernel_rfl
theorem ta_5_5 (w : World) (v : Value) : (Instr.typeAssert (.iface 93 v) 67 93 true).run Tryz.prog w = .ok (.tuple #[v, .bool true]) w := by kernel_rfl
theorem ta_6_1 (w : World) (v : Value) : (Instr.typeAssert (.iface 96 v) 67 87 true).run Tryz.prog w = .ok (.tuple #[.agg #[.int .i64 0, .int .i64 0], .bool false]) w := by kernel_rfl
theorem ta_6_2 (w : World) (v : Value) : (Instr.typeAssert (.iface 96 v) 67 89 true).run Tryz.prog w = .ok (.tuple #[.agg #[.int .i64 0, .int .i64 0], .bool false]) w := by kernel_rfl
theorem ta_6_3 (w : World) (v : Value) : (Instr.typeAssert (.iface 96 v) 67 90 true).run Tryz.prog w = .ok (.tuple #[.agg #[.int .i64 0, .int .i64 0], .bool false]) w := by kernel_rfl
theorem ta_6_4 (w : World) (v : Value) : (Instr.typeAssert (.iface 96 v) 67 91 true).run Tryz.prog w = .ok (.tuple #[.agg #[.int .i64 0, .int .i64 0], .bool false]) w := by kernel_rfl
theorem ta_6_5 (w : World) (v : Value) : (Instr.typeAssert (.iface 96 v) 67 93 true).run Tryz.prog w = .ok (.tuple #[.agg #[.int .i64 0, .bool false], .bool false]) w := by kernel_rfl
theorem ta_6_6 (w : World) (v : Value) : (Instr.typeAssert (.iface 96 v) 67 96 true).run Tryz.prog w = .ok (.tuple #[v, .bool true]) w := by kernel_rfl
theorem ta_15_1 (w : World) (v : Value) : (Instr.typeAssert (.iface 98 v) 67 87 true).run Tryz.prog w = .ok (.tuple #[.agg #[.int .i64 0, .int .i64 0], .bool false]) w := by kernel_rfl
theorem ta_15_2 (w : World) (v : Value) : (Instr.typeAssert (.iface 98 v) 67 89 true).run Tryz.prog w = .ok (.tuple #[.agg #[.int .i64 0, .int .i64 0], .bool false]) w := by kernel_rfl
theorem ta_15_3 (w : World) (v : Value) : (Instr.typeAssert (.iface 98 v) 67 90 true).run Tryz.prog w = .ok (.tuple #[.agg #[.int .i64 0, .int .i64 0], .bool false]) w := by kernel_rfl
theorem ta_15_4 (w : World) (v : Value) : (Instr.typeAssert (.iface 98 v) 67 91 true).run Tryz.prog w = .ok (.tuple #[.agg #[.int .i64 0, .int .i64 0], .bool false]) w := by kernel_rfl
theorem ta_15_5 (w : World) (v : Value) : (Instr.typeAssert (.iface 98 v) 67 93 true).run Tryz.prog w = .ok (.tuple #[.agg #[.int .i64 0, .bool false], .bool false]) w := by kernel_rfl
theorem ta_15_6 (w : World) (v : Value) : (Instr.typeAssert (.iface 98 v) 67 96 true).run Tryz.prog w = .ok (.tuple #[.agg #[.int .i64 0, .int .i64 0], .bool false]) w := by kernel_rfl
theorem ta_15_15 (w : World) (v : Value) : (Instr.typeAssert (.iface 98 v) 67 98 true).run Tryz.prog w = .ok (.tuple #[v, .bool true]) w := by kernel_rfl
theorem ta_16_1 (w : World) (v : Value) : (Instr.typeAssert (.iface 101 v) 67 87 true).run Tryz.prog w = .ok (.tuple #[.agg #[.int .i64 0, .int .i64 0], .bool false]) w := by kernel_rfl
theorem ta_16_2 (w : World) (v : Value) : (Instr.typeAssert (.iface 101 v) 67 89 true).run Tryz.prog w = .ok (.tuple #[.agg #[.int .i64 0, .int .i64 0], .bool false]) w := by kernel_rfl
theorem ta_16_3 (w : World) (v : Value) : (Instr.typeAssert (.iface 101 v) 67 90 true).run Tryz.prog w = .ok (.tuple #[.agg #[.int .i64 0, .int .i64 0], .bool false]) w := by kernel_rfl
theorem ta_16_4 (w : World) (v : Value) : (Instr.typeAssert (.iface 101 v) 67 91 true).run Tryz.prog w = .ok (.tuple #[.agg #[.int .i64 0, .int .i64 0], .bool false]) w := by kernel_rfl
theorem ta_16_5 (w : World) (v : Value) : (Instr.typeAssert (.iface 101 v) 67 93 true).run Tryz.prog w = .ok (.tuple #[.agg #[.int .i64 0, .bool false], .bool false]) w := by kernel_rfl
theorem ta_16_6 (w : World) (v : Value) : (Instr.typeAssert (.iface 101 v) 67 96 true).run Tryz.prog w = .ok (.tuple #[.agg #[.int .i64 0, .int .i64 0], .bool false]) w := by kernel_rfl
theorem ta_16_15 (w : World) (v : Value) : (Instr.typeAssert (.iface 101 v) 67 98 true).run Tryz.prog w = .ok (.tuple #[.agg #[.int .i64 0, .slice none 0 0], .bool false]) w := by kernel_rfl
theorem ta_16_16 (w : World) (v : Value) : (Instr.typeAssert (.iface 101 v) 67 101 true).run Tryz.prog w = .ok (.tuple #[v, .bool true]) w := by kernel_rfl
theorem ta_22_1 (w : World) (v : Value) : (Instr.typeAssert (.iface 104 v) 67 87 true).run Tryz.prog w = .ok (.tuple #[.agg #[.int .i64 0, .int .i64 0], .bool false]) w := by kernel_rfl
theorem ta_22_2 (w : World) (v : Value) : (Instr.typeAssert (.iface 104 v) 67 89 true).run Tryz.prog w = .ok (.tuple #[.agg #[.int .i64 0, .int .i64 0], .bool false]) w := by kernel_rfl
theorem ta_22_3 (w : World) (v : Value) : (Instr.typeAssert (.iface 104 v) 67 90 true).run Tryz.prog w = .ok (.tuple #[.agg #[.int .i64 0, .int .i64 0], .bool false]) w := by kernel_rfl
theorem ta_22_4 (w : World) (v : Value) : (Instr.typeAssert (.iface 104 v) 67 91 true).run Tryz.prog w = .ok (.tuple #[.agg #[.int .i64 0, .int .i64 0], .bool false]) w := by kernel_rfl
theorem ta_22_5 (w : World) (v : Value) : (Instr.typeAssert (.iface 104 v) 67 93 true).run Tryz.prog w = .ok (.tuple #[.agg #[.int .i64 0, .bool false], .bool false]) w := by kernel_rfl
theorem ta_22_6 (w : World) (v : Value) : (Instr.typeAssert (.iface 104 v) 67 96 true).run Tryz.prog w = .ok (.tuple #[.agg #[.int .i64 0, .int .i64 0], .bool false]) w := by kernel_rfl
theorem ta_22_15 (w : World) (v : Value) : (Instr.typeAssert (.iface 104 v) 67 98 true).run Tryz.prog w = .ok (.tuple #[.agg #[.int .i64 0, .slice none 0 0], .bool false]) w := by kernel_rfl
theorem ta_22_16 (w : World) (v : Value) : (Instr.typeAssert (.iface 104 v) 67 101 true).run Tryz.prog w = .ok (.tuple #[.agg #[.int .i64 0, .slice none 0 0], .bool false]) w := by kernel_rfl
theorem ta_22_22 (w : World) (v : Value) : (Instr.typeAssert (.iface 104 v) 67 104 true).run Tryz.prog w = .ok (.tuple #[v, .bool true]) w := by kernel_rfl
theorem ta_23_1 (w : World) (v : Value) : (Instr.typeAssert (.iface 106 v) 67 87 true).run Tryz.prog w = .ok (.tuple #[.agg #[.int .i64 0, .int .i64 0], .bool false]) w := by kernel_rfl
theorem ta_23_2 (w : World) (v : Value) : (Instr.typeAssert (.iface 106 v) 67 89 true).run Tryz.prog w = .ok (.tuple #[.agg #[.int .i64 0, .int .i64 0], .bool false]) w := by kernel_rfl
theorem ta_23_3 (w : World) (v : Value) : (Instr.typeAssert (.iface 106 v) 67 90 true).run Tryz.prog w = .ok (.tuple #[.agg #[.int .i64 0, .int .i64 0], .bool false]) w := by kernel_rfl
theorem ta_23_4 (w : World) (v : Value) : (Instr.typeAssert (.iface 106 v) 67 91 true).run Tryz.prog w = .ok (.tuple #[.agg #[.int .i64 0, .int .i64 0], .bool false]) w := by kernel_rfl
theorem ta_23_5 (w : World) (v : Value) : (Instr.typeAssert (.iface 106 v) 67 93 true).run Tryz.prog w = .ok (.tuple #[.agg #[.int .i64 0, .bool false], .bool false]) w := by kernel_rfl
theorem ta_23_6 (w : World) (v : Value) : (Instr.typeAssert (.iface 106 v) 67 96 true).run Tryz.prog w = .ok (.tuple #[.agg #[.int .i64 0, .int .i64 0], .bool false]) w := by kernel_rfl
theorem ta_23_15 (w : World) (v : Value) : (Instr.typeAssert (.iface 106 v) 67 98 true).run Tryz.prog w = .ok (.tuple #[.agg #[.int .i64 0, .slice none 0 0], .bool false]) w := by kernel_rfl
theorem ta_23_16 (w : World) (v : Value) : (Instr.typeAssert (.iface 106 v) 67 101 true).run Tryz.prog w = .ok (.tuple #[.agg #[.int .i64 0, .slice none 0 0], .bool false]) w := by kernel_rfl
theorem ta_23_22 (w : World) (v : Value) : (Instr.typeAssert (.iface 106 v) 67 104 true).run Tryz.prog w = .ok (.tuple #[.agg #[.int .i64 0, .int .i64 0, .int .i64 0], .bool false]) w := by kernel_rfl
theorem ta_23_23 (w : World) (v : Value) : (Instr.typeAssert (.iface 106 v) 67 106 true).run Tryz.prog w = .ok (.tuple #[v, .bool true]) w := by kernel_rfl
theorem ta_n_1 (w : World) : (Instr.typeAssert .nilIface 67 87 true).run Tryz.prog w = .ok (.tuple #[.agg #[.int .i64 0, .int .i64 0], .bool false]) w := by kernel_rfl
theorem ta_n_2 (w : World) : (Instr.typeAssert .nilIface 67 89 true).run Tryz.prog w = .ok (.tuple #[.agg #[.int .i64 0, .int .i64 0], .bool false]) w := by kernel_rfl
theorem ta_n_3 (w : World) : (Instr.typeAssert .nilIface 67 90 true).run Tryz.prog w = .ok (.tuple #[.agg #[.int .i64 0, .int .i64 0], .bool false]) w := by kernel_rfl
theorem ta_n_4 (w : World) : (Instr.typeAssert .nilIface 67 91 true).run Tryz.prog w = .ok (.tuple #[.agg #[.int .i64 0, .int .i64 0], .bool false]) w := by kernel_rfl
theorem ta_n_5 (w : World) : (Instr.typeAssert .nilIface 67 93 true).run Tryz.prog w = .ok (.tuple #[.agg #[.int .i64 0, .bool false], .bool false]) w := by kernel_rfl
theorem ta_n_6 (w : World) : (Instr.typeAssert .nilIface 67 96 true).run Tryz.prog w = .ok (.tuple #[.agg #[.int .i64 0, .int .i64 0], .bool false]) w := by kernel_rfl
theorem ta_n_15 (w : World) : (Instr.typeAssert .nilIface 67 98 true).run Tryz.prog w = .ok (.tuple #[.agg #[.int .i64 0, .slice none 0 0], .bool false]) w := by kernel_rfl
theorem ta_n_16 (w : World) : (Instr.typeAssert .nilIface 67 101 true).run Tryz.prog w = .ok (.tuple #[.agg #[.int .i64 0, .slice none 0 0], .bool false]) w := by kernel_rfl
theorem ta_n_22 (w : World) : (Instr.typeAssert .nilIface 67 104 true).run Tryz.prog w = .ok (.tuple #[.agg #[.int .i64 0, .int .i64 0, .int .i64 0], .bool false]) w := by kernel_rfl
theorem ta_n_23 (w : World) : (Instr.typeAssert .nilIface 67 106 true).run Tryz.prog w = .ok (.tuple #[.agg #[.int .i64 0, .int .i64 0, .int .i64 0, .slice none 0 0], .bool false]) w := by kernel_rfl
set_option maxHeartbeats 2000000 in
theorem questionOf_1 (pl nn wa : Int) (a1 a2 : Option Addr) (l1 l2 c1 c2 : Nat) (w : World) :
    Calls Tryz.prog 54 #[rq 1 pl nn wa a1 a2 l1 l2 c1 c2] w fun e w' => e = .returned (.iface 87 (.agg #[.int .i64 pl, .int .i64 nn])) ∧ Below w.heap.size w w' := by
  have B0 := bel_alloc w (.cells #[.int .i64 1, .int .i64 pl, .int .i64 nn, .slice a1 l1 c1, .slice a2 l2 c2, .int .i64 wa] 30)
  go_enter Tryz.func54, Tryz.ntmps54
  go_wp2
  go_ret
  exact ⟨rfl, B0⟩
set_option maxHeartbeats 2000000 in
theorem questionOf_2 (pl nn wa : Int) (a1 a2 : Option Addr) (l1 l2 c1 c2 : Nat) (w : World) :
    Calls Tryz.prog 54 #[rq 2 pl nn wa a1 a2 l1 l2 c1 c2] w fun e w' => e = .returned (.iface 89 (.agg #[.int .i64 pl, .int .i64 nn])) ∧ Below w.heap.size w w' := by
  have B0 := bel_alloc w (.cells #[.int .i64 2, .int .i64 pl, .int .i64 nn, .slice a1 l1 c1, .slice a2 l2 c2, .int .i64 wa] 30)
  go_enter Tryz.func54, Tryz.ntmps54
  go_wp2
  go_ret
  exact ⟨rfl, B0⟩
set_option maxHeartbeats 2000000 in
theorem questionOf_3 (pl nn wa : Int) (a1 a2 : Option Addr) (l1 l2 c1 c2 : Nat) (w : World) :
    Calls Tryz.prog 54 #[rq 3 pl nn wa a1 a2 l1 l2 c1 c2] w fun e w' => e = .returned (.iface 90 (.agg #[.int .i64 pl, .int .i64 nn])) ∧ Below w.heap.size w w' := by
  have B0 := bel_alloc w (.cells #[.int .i64 3, .int .i64 pl, .int .i64 nn, .slice a1 l1 c1, .slice a2 l2 c2, .int .i64 wa] 30)
  go_enter Tryz.func54, Tryz.ntmps54
  go_wp2
  go_ret
  exact ⟨rfl, B0⟩
set_option maxHeartbeats 2000000 in
theorem questionOf_4 (pl nn wa : Int) (a1 a2 : Option Addr) (l1 l2 c1 c2 : Nat) (w : World) :
    Calls Tryz.prog 54 #[rq 4 pl nn wa a1 a2 l1 l2 c1 c2] w fun e w' => e = .returned (.iface 91 (.agg #[.int .i64 pl, .int .i64 nn])) ∧ Below w.heap.size w w' := by
  have B0 := bel_alloc w (.cells #[.int .i64 4, .int .i64 pl, .int .i64 nn, .slice a1 l1 c1, .slice a2 l2 c2, .int .i64 wa] 30)
  go_enter Tryz.func54, Tryz.ntmps54
  go_wp2
  go_ret
  exact ⟨rfl, B0⟩
set_option maxHeartbeats 2000000 in
theorem questionOf_15 (pl nn wa : Int) (a1 a2 : Option Addr) (l1 l2 c1 c2 : Nat) (w : World) :
    Calls Tryz.prog 54 #[rq 15 pl nn wa a1 a2 l1 l2 c1 c2] w fun e w' => e = .returned (.iface 98 (.agg #[.int .i64 pl, .slice a2 l2 c2])) ∧ Below w.heap.size w w' := by
  have B0 := bel_alloc w (.cells #[.int .i64 15, .int .i64 pl, .int .i64 nn, .slice a1 l1 c1, .slice a2 l2 c2, .int .i64 wa] 30)
  go_enter Tryz.func54, Tryz.ntmps54
  go_wp2
  go_ret
  exact ⟨rfl, B0⟩
set_option maxHeartbeats 2000000 in
theorem questionOf_16 (pl nn wa : Int) (a1 a2 : Option Addr) (l1 l2 c1 c2 : Nat) (w : World) :
    Calls Tryz.prog 54 #[rq 16 pl nn wa a1 a2 l1 l2 c1 c2] w fun e w' => e = .returned (.iface 101 (.agg #[.int .i64 pl, .slice a1 l1 c1])) ∧ Below w.heap.size w w' := by
  have B0 := bel_alloc w (.cells #[.int .i64 16, .int .i64 pl, .int .i64 nn, .slice a1 l1 c1, .slice a2 l2 c2, .int .i64 wa] 30)
  go_enter Tryz.func54, Tryz.ntmps54
  go_wp2
  go_ret
  exact ⟨rfl, B0⟩
set_option maxHeartbeats 2000000 in
theorem questionOf_23 (pl nn wa : Int) (a1 a2 : Option Addr) (l1 l2 c1 c2 : Nat) (w : World) :
    Calls Tryz.prog 54 #[rq 23 pl nn wa a1 a2 l1 l2 c1 c2] w fun e w' => e = .returned (.iface 106 (.agg #[.int .i64 pl, .int .i64 nn, .int .i64 wa, .slice a1 l1 c1])) ∧ Below w.heap.size w w' := by
  have B0 := bel_alloc w (.cells #[.int .i64 23, .int .i64 pl, .int .i64 nn, .slice a1 l1 c1, .slice a2 l2 c2, .int .i64 wa] 30)
  go_enter Tryz.func54, Tryz.ntmps54
  go_wp2
  go_ret
  exact ⟨rfl, B0⟩
set_option maxHeartbeats 2000000 in
theorem questionOf_5 (pl nn wa : Int) (a1 a2 : Option Addr) (l1 l2 c1 c2 : Nat) (w : World) (bs : List Bool) (h2 : l2 = bs.length) (hL : (l2 : Int) = 1) (s2 : SlB w a2 bs) :
    Calls Tryz.prog 54 #[rq 5 pl nn wa a1 a2 l1 l2 c1 c2] w fun e w' => e = .returned (.iface 93 (.agg #[.int .i64 pl, .bool (bs.getD 0 false)])) ∧ Below w.heap.size w w' := by
  have B0 := bel_alloc w (.cells #[.int .i64 5, .int .i64 pl, .int .i64 nn, .slice a1 l1 c1, .slice a2 l2 c2, .int .i64 wa] 30)
  obtain ⟨b, off, rfl, hb, hc⟩ := cell_atB (s2.below B0) (show 0 < bs.length by omega)
  have hc0 : (w.alloc (.cells #[.int .i64 5, .int .i64 pl, .int .i64 nn, .slice a1 l1 c1, .slice (some ⟨b, off, none⟩) l2 c2, .int .i64 wa] 30)).cell? ⟨b, off, none⟩ = some (.bool (bs.getD 0 false)) := by simpa using hc
  clear hc h2 s2
  go_enter Tryz.func54, Tryz.ntmps54
  go_wp2
  go_quiet (fail)
  go_wp2
  go_ret
  exact ⟨rfl, bel_next B0 (drew_refl _ _)⟩
set_option maxHeartbeats 2000000 in
theorem questionOf_6 (pl nn wa : Int) (a1 a2 : Option Addr) (l1 l2 c1 c2 : Nat) (w : World) (ws : List Int) (h1 : l1 = ws.length) (hL : (l1 : Int) = 1) (s1 : SlI w a1 ws) :
    Calls Tryz.prog 54 #[rq 6 pl nn wa a1 a2 l1 l2 c1 c2] w fun e w' => e = .returned (.iface 96 (.agg #[.int .i64 pl, .int .i64 (ws.getD 0 0)])) ∧ Below w.heap.size w w' := by
  have B0 := bel_alloc w (.cells #[.int .i64 6, .int .i64 pl, .int .i64 nn, .slice a1 l1 c1, .slice a2 l2 c2, .int .i64 wa] 30)
  obtain ⟨b, off, rfl, hb, hc⟩ := cell_atI (s1.below B0) (show 0 < ws.length by omega)
  have hc0 : (w.alloc (.cells #[.int .i64 6, .int .i64 pl, .int .i64 nn, .slice (some ⟨b, off, none⟩) l1 c1, .slice a2 l2 c2, .int .i64 wa] 30)).cell? ⟨b, off, none⟩ = some (.int .i64 (ws.getD 0 0)) := by simpa using hc
  clear hc h1 s1
  go_enter Tryz.func54, Tryz.ntmps54
  go_wp2
  go_quiet (fail)
  go_wp2
  go_ret
  exact ⟨rfl, bel_next B0 (drew_refl _ _)⟩
set_option maxHeartbeats 2000000 in
theorem questionOf_22 (pl nn wa : Int) (a1 a2 : Option Addr) (l1 l2 c1 c2 : Nat) (w : World) (ws : List Int) (h1 : l1 = ws.length) (hL : (l1 : Int) = 2) (s1 : SlI w a1 ws) :
    Calls Tryz.prog 54 #[rq 22 pl nn wa a1 a2 l1 l2 c1 c2] w fun e w' => e = .returned (.iface 104 (.agg #[.int .i64 pl, .int .i64 (ws.getD 0 0), .int .i64 (ws.getD 1 0)])) ∧ Below w.heap.size w w' := by
  have B0 := bel_alloc w (.cells #[.int .i64 22, .int .i64 pl, .int .i64 nn, .slice a1 l1 c1, .slice a2 l2 c2, .int .i64 wa] 30)
  obtain ⟨b, off, rfl, hb, hc⟩ := cell_atI (s1.below B0) (show 0 < ws.length by omega)
  obtain ⟨b2, off2, e2, hb2, hc2⟩ := cell_atI (s1.below B0) (show 1 < ws.length by omega)
  simp at e2
  obtain ⟨rfl, rfl⟩ := e2
  have hc0 : (w.alloc (.cells #[.int .i64 22, .int .i64 pl, .int .i64 nn, .slice (some ⟨b, off, none⟩) l1 c1, .slice a2 l2 c2, .int .i64 wa] 30)).cell? ⟨b, off, none⟩ = some (.int .i64 (ws.getD 0 0)) := by simpa using hc
  clear hc h1 s1
  go_enter Tryz.func54, Tryz.ntmps54
  go_wp2
  go_quiet (fail)
  go_wp2
  go_ret
  exact ⟨rfl, bel_next B0 (drew_refl _ _)⟩
set_option maxHeartbeats 2000000 in
theorem questionOf_5n (pl nn wa : Int) (a1 a2 : Option Addr) (l1 l2 c1 c2 : Nat) (w : World) (hL : ((l2 : Int) == 1) = false) :
    Calls Tryz.prog 54 #[rq 5 pl nn wa a1 a2 l1 l2 c1 c2] w fun e w' => e = .returned (.nilIface) ∧ Below w.heap.size w w' := by
  have B0 := bel_alloc w (.cells #[.int .i64 5, .int .i64 pl, .int .i64 nn, .slice a1 l1 c1, .slice a2 l2 c2, .int .i64 wa] 30)
  go_enter Tryz.func54, Tryz.ntmps54
  go_wp2
  go_ret
  exact ⟨rfl, B0⟩
set_option maxHeartbeats 2000000 in
theorem questionOf_6n (pl nn wa : Int) (a1 a2 : Option Addr) (l1 l2 c1 c2 : Nat) (w : World) (hL : ((l1 : Int) == 1) = false) :
    Calls Tryz.prog 54 #[rq 6 pl nn wa a1 a2 l1 l2 c1 c2] w fun e w' => e = .returned (.nilIface) ∧ Below w.heap.size w w' := by
  have B0 := bel_alloc w (.cells #[.int .i64 6, .int .i64 pl, .int .i64 nn, .slice a1 l1 c1, .slice a2 l2 c2, .int .i64 wa] 30)
  go_enter Tryz.func54, Tryz.ntmps54
  go_wp2
  go_ret
  exact ⟨rfl, B0⟩
set_option maxHeartbeats 2000000 in
theorem questionOf_22n (pl nn wa : Int) (a1 a2 : Option Addr) (l1 l2 c1 c2 : Nat) (w : World) (hL : ((l1 : Int) == 2) = false) :
    Calls Tryz.prog 54 #[rq 22 pl nn wa a1 a2 l1 l2 c1 c2] w fun e w' => e = .returned (.nilIface) ∧ Below w.heap.size w w' := by
  have B0 := bel_alloc w (.cells #[.int .i64 22, .int .i64 pl, .int .i64 nn, .slice a1 l1 c1, .slice a2 l2 c2, .int .i64 wa] 30)
  go_enter Tryz.func54, Tryz.ntmps54
  go_wp2
  go_ret
  exact ⟨rfl, B0⟩
set_option maxHeartbeats 2000000 in
theorem questionOf_none (kd : Int) (pl nn wa : Int) (a1 a2 : Option Addr) (l1 l2 c1 c2 : Nat) (w : World) (k1 : ¬ kd = 1) (k2 : ¬ kd = 2) (k3 : ¬ kd = 3) (k4 : ¬ kd = 4) (k5 : ¬ kd = 5) (k6 : ¬ kd = 6) (k15 : ¬ kd = 15) (k16 : ¬ kd = 16) (k22 : ¬ kd = 22) (k23 : ¬ kd = 23) :
    Calls Tryz.prog 54 #[rq kd pl nn wa a1 a2 l1 l2 c1 c2] w fun e w' => e = .returned (.nilIface) ∧ Below w.heap.size w w' := by
  have B0 := bel_alloc w (.cells #[.int .i64 kd, .int .i64 pl, .int .i64 nn, .slice a1 l1 c1, .slice a2 l2 c2, .int .i64 wa] 30)
  go_enter Tryz.func54, Tryz.ntmps54
  go_wp2
  go_ret
  exact ⟨rfl, B0⟩
set_option maxRecDepth 20000 in
set_option maxHeartbeats 4000000 in
theorem isRight_1 (pl nn : Int) (w : World) (b : Bool) (hb : (rnB pl nn 2000) = b) :
    Calls Tryz.prog 55 #[.iface 87 (.agg #[.int .i64 pl, .int .i64 nn])] w fun e w' => e = .returned (.bool b) ∧ Below w.heap.size w w' := by
  have t1 := ta_1_1
  cases hR : rnB pl nn 2000
  · skip
    have e : (rnB pl nn 2000) = false := by simp [hR]
    rw [e] at hb
    subst hb
    clear e
    go_enter Tryz.func55, Tryz.ntmps55
    go_wp2_with (first | (go_at_call 69; refine (isRun_any _ _ _ _ (by decide) _ (by first | exact hR)).mono ?_; rintro e wx ⟨rfl, rfl⟩))
    go_ret
    exact ⟨rfl, bel_alloc _ _⟩
  · skip
    have e : (rnB pl nn 2000) = true := by simp [hR]
    rw [e] at hb
    subst hb
    clear e
    go_enter Tryz.func55, Tryz.ntmps55
    go_wp2_with (first | (go_at_call 69; refine (isRun_any _ _ _ _ (by decide) _ (by first | exact hR)).mono ?_; rintro e wx ⟨rfl, rfl⟩))
    go_ret
    exact ⟨rfl, bel_alloc _ _⟩
set_option maxRecDepth 20000 in
set_option maxHeartbeats 4000000 in
theorem isRight_2 (pl nn : Int) (w : World) (b : Bool) (hb : (rnB pl nn 2000) = b) :
    Calls Tryz.prog 55 #[.iface 89 (.agg #[.int .i64 pl, .int .i64 nn])] w fun e w' => e = .returned (.bool b) ∧ Below w.heap.size w w' := by
  have t1 := ta_2_1
  have t2 := ta_2_2
  cases hR : rnB pl nn 2000
  · skip
    have e : (rnB pl nn 2000) = false := by simp [hR]
    rw [e] at hb
    subst hb
    clear e
    go_enter Tryz.func55, Tryz.ntmps55
    go_wp2_with (first | (go_at_call 69; refine (isRun_any _ _ _ _ (by decide) _ (by first | exact hR)).mono ?_; rintro e wx ⟨rfl, rfl⟩))
    go_ret
    exact ⟨rfl, bel_alloc _ _⟩
  · skip
    have e : (rnB pl nn 2000) = true := by simp [hR]
    rw [e] at hb
    subst hb
    clear e
    go_enter Tryz.func55, Tryz.ntmps55
    go_wp2_with (first | (go_at_call 69; refine (isRun_any _ _ _ _ (by decide) _ (by first | exact hR)).mono ?_; rintro e wx ⟨rfl, rfl⟩))
    go_ret
    exact ⟨rfl, bel_alloc _ _⟩
set_option maxRecDepth 20000 in
set_option maxHeartbeats 4000000 in
theorem isRight_3 (pl nn : Int) (w : World) (b : Bool) (hb : (rnB pl nn 125) = b) :
    Calls Tryz.prog 55 #[.iface 90 (.agg #[.int .i64 pl, .int .i64 nn])] w fun e w' => e = .returned (.bool b) ∧ Below w.heap.size w w' := by
  have t1 := ta_3_1
  have t2 := ta_3_2
  have t3 := ta_3_3
  cases hR : rnB pl nn 125
  · skip
    have e : (rnB pl nn 125) = false := by simp [hR]
    rw [e] at hb
    subst hb
    clear e
    go_enter Tryz.func55, Tryz.ntmps55
    go_wp2_with (first | (go_at_call 69; refine (isRun_any _ _ _ _ (by decide) _ (by first | exact hR)).mono ?_; rintro e wx ⟨rfl, rfl⟩))
    go_ret
    exact ⟨rfl, bel_alloc _ _⟩
  · skip
    have e : (rnB pl nn 125) = true := by simp [hR]
    rw [e] at hb
    subst hb
    clear e
    go_enter Tryz.func55, Tryz.ntmps55
    go_wp2_with (first | (go_at_call 69; refine (isRun_any _ _ _ _ (by decide) _ (by first | exact hR)).mono ?_; rintro e wx ⟨rfl, rfl⟩))
    go_ret
    exact ⟨rfl, bel_alloc _ _⟩
set_option maxRecDepth 20000 in
set_option maxHeartbeats 4000000 in
theorem isRight_4 (pl nn : Int) (w : World) (b : Bool) (hb : (rnB pl nn 125) = b) :
    Calls Tryz.prog 55 #[.iface 91 (.agg #[.int .i64 pl, .int .i64 nn])] w fun e w' => e = .returned (.bool b) ∧ Below w.heap.size w w' := by
  have t1 := ta_4_1
  have t2 := ta_4_2
  have t3 := ta_4_3
  have t4 := ta_4_4
  cases hR : rnB pl nn 125
  · skip
    have e : (rnB pl nn 125) = false := by simp [hR]
    rw [e] at hb
    subst hb
    clear e
    go_enter Tryz.func55, Tryz.ntmps55
    go_wp2_with (first | (go_at_call 69; refine (isRun_any _ _ _ _ (by decide) _ (by first | exact hR)).mono ?_; rintro e wx ⟨rfl, rfl⟩))
    go_ret
    exact ⟨rfl, bel_alloc _ _⟩
  · skip
    have e : (rnB pl nn 125) = true := by simp [hR]
    rw [e] at hb
    subst hb
    clear e
    go_enter Tryz.func55, Tryz.ntmps55
    go_wp2_with (first | (go_at_call 69; refine (isRun_any _ _ _ _ (by decide) _ (by first | exact hR)).mono ?_; rintro e wx ⟨rfl, rfl⟩))
    go_ret
    exact ⟨rfl, bel_alloc _ _⟩
set_option maxRecDepth 20000 in
set_option maxHeartbeats 4000000 in
theorem isRight_5 (pl : Int) (x : Bool) (w : World) (b : Bool) (hb : (inB pl 0 65535) = b) :
    Calls Tryz.prog 55 #[.iface 93 (.agg #[.int .i64 pl, .bool x])] w fun e w' => e = .returned (.bool b) ∧ Below w.heap.size w w' := by
  have t1 := ta_5_1
  have t2 := ta_5_2
  have t3 := ta_5_3
  have t4 := ta_5_4
  have t5 := ta_5_5
  cases hP : inB pl 0 65535
  · skip
    have e : (inB pl 0 65535) = false := by simp [hP]
    rw [e] at hb
    subst hb
    clear e
    go_enter Tryz.func55, Tryz.ntmps55
    go_wp2_with (first | (go_at_call 70; refine (isWord_any _ _ _ (by first | exact hP)).mono ?_; rintro e wx ⟨rfl, rfl⟩))
    go_ret
    exact ⟨rfl, bel_alloc _ _⟩
  · skip
    have e : (inB pl 0 65535) = true := by simp [hP]
    rw [e] at hb
    subst hb
    clear e
    go_enter Tryz.func55, Tryz.ntmps55
    go_wp2_with (first | (go_at_call 70; refine (isWord_any _ _ _ (by first | exact hP)).mono ?_; rintro e wx ⟨rfl, rfl⟩))
    go_ret
    exact ⟨rfl, bel_alloc _ _⟩
set_option maxRecDepth 20000 in
set_option maxHeartbeats 4000000 in
theorem isRight_6 (pl x : Int) (w : World) (b : Bool) (hb : (inB pl 0 65535 && inB x 0 65535) = b) :
    Calls Tryz.prog 55 #[.iface 96 (.agg #[.int .i64 pl, .int .i64 x])] w fun e w' => e = .returned (.bool b) ∧ Below w.heap.size w w' := by
  have t1 := ta_6_1
  have t2 := ta_6_2
  have t3 := ta_6_3
  have t4 := ta_6_4
  have t5 := ta_6_5
  have t6 := ta_6_6
  cases hP : inB pl 0 65535
  · skip
    have e : (inB pl 0 65535 && inB x 0 65535) = false := by simp [hP]
    rw [e] at hb
    subst hb
    clear e
    go_enter Tryz.func55, Tryz.ntmps55
    go_wp2_with (first | (go_at_call 70; refine (isWord_any _ _ _ (by first | exact hP)).mono ?_; rintro e wx ⟨rfl, rfl⟩))
    go_ret
    exact ⟨rfl, bel_alloc _ _⟩
  · skip
    cases hX : inB x 0 65535
    · skip
      have e : (inB pl 0 65535 && inB x 0 65535) = false := by simp [hP, hX]
      rw [e] at hb
      subst hb
      clear e
      go_enter Tryz.func55, Tryz.ntmps55
      go_wp2_with (first | (go_at_call 70; refine (isWord_any _ _ _ (by first | exact hP | exact hX)).mono ?_; rintro e wx ⟨rfl, rfl⟩))
      go_ret
      exact ⟨rfl, bel_alloc _ _⟩
    · skip
      have e : (inB pl 0 65535 && inB x 0 65535) = true := by simp [hP, hX]
      rw [e] at hb
      subst hb
      clear e
      go_enter Tryz.func55, Tryz.ntmps55
      go_wp2_with (first | (go_at_call 70; refine (isWord_any _ _ _ (by first | exact hP | exact hX)).mono ?_; rintro e wx ⟨rfl, rfl⟩))
      go_ret
      exact ⟨rfl, bel_alloc _ _⟩
set_option maxRecDepth 20000 in
set_option maxHeartbeats 4000000 in
theorem isRight_15 (pl : Int) (a2 : Option Addr) (l2 c2 : Nat) (w : World) (b : Bool) (hb : (rnB pl (l2 : Int) 1968) = b) :
    Calls Tryz.prog 55 #[.iface 98 (.agg #[.int .i64 pl, .slice a2 l2 c2])] w fun e w' => e = .returned (.bool b) ∧ Below w.heap.size w w' := by
  have t1 := ta_15_1
  have t2 := ta_15_2
  have t3 := ta_15_3
  have t4 := ta_15_4
  have t5 := ta_15_5
  have t6 := ta_15_6
  have t15 := ta_15_15
  cases hR : rnB pl (l2 : Int) 1968
  · skip
    have e : (rnB pl (l2 : Int) 1968) = false := by simp [hR]
    rw [e] at hb
    subst hb
    clear e
    go_enter Tryz.func55, Tryz.ntmps55
    go_wp2_with (first | (go_at_call 69; refine (isRun_any _ _ _ _ (by decide) _ (by first | exact hR)).mono ?_; rintro e wx ⟨rfl, rfl⟩))
    go_ret
    exact ⟨rfl, bel_alloc _ _⟩
  · skip
    have e : (rnB pl (l2 : Int) 1968) = true := by simp [hR]
    rw [e] at hb
    subst hb
    clear e
    go_enter Tryz.func55, Tryz.ntmps55
    go_wp2_with (first | (go_at_call 69; refine (isRun_any _ _ _ _ (by decide) _ (by first | exact hR)).mono ?_; rintro e wx ⟨rfl, rfl⟩))
    go_ret
    exact ⟨rfl, bel_alloc _ _⟩
set_option maxRecDepth 20000 in
set_option maxHeartbeats 4000000 in
theorem isRight_16 (pl : Int) (a1 : Option Addr) (l1 c1 : Nat) (ws : List Int) (w : World) (h1 : l1 = ws.length) (s1 : SlI w a1 ws) (hl1 : ws.length ≤ 2000000) (b : Bool) (hb : (rnB pl (l1 : Int) 123 && allW ws) = b) :
    Calls Tryz.prog 55 #[.iface 101 (.agg #[.int .i64 pl, .slice a1 l1 c1])] w fun e w' => e = .returned (.bool b) ∧ Below w.heap.size w w' := by
  have t1 := ta_16_1
  have t2 := ta_16_2
  have t3 := ta_16_3
  have t4 := ta_16_4
  have t5 := ta_16_5
  have t6 := ta_16_6
  have t15 := ta_16_15
  have t16 := ta_16_16
  have H1 : Hid (l1 = ws.length) := h1
  have S1 : Hid (SlI (w.alloc (.cells #[.int .i64 pl, .slice a1 l1 c1] 101)) a1 ws) := s1.below (bel_alloc _ _)
  clear h1 s1
  cases hR : rnB pl (l1 : Int) 123
  · skip
    have e : (rnB pl (l1 : Int) 123 && allW ws) = false := by simp [hR]
    rw [e] at hb
    subst hb
    clear e
    go_enter Tryz.func55, Tryz.ntmps55
    go_wp2_with (first | (go_at_call 69; refine (isRun_any _ _ _ _ (by decide) _ (by first | exact hR)).mono ?_; rintro e wx ⟨rfl, rfl⟩))
    go_ret
    exact ⟨rfl, bel_alloc _ _⟩
  · skip
    cases hW : allW ws
    · skip
      have e : (rnB pl (l1 : Int) 123 && allW ws) = false := by simp [hR, hW]
      rw [e] at hb
      subst hb
      clear e
      go_enter Tryz.func55, Tryz.ntmps55
      go_wp2_with (first | (go_at_call 69; refine (isRun_any _ _ _ _ (by decide) _ (by first | exact hR)).mono ?_; rintro e wx ⟨rfl, rfl⟩) | (go_at_call 71; refine (areWords_any _ _ _ ws _ H1.out S1.out hl1 _ hW).mono ?_; rintro e wx ⟨rfl, rfl⟩))
      go_ret
      exact ⟨rfl, bel_alloc _ _⟩
    · skip
      have e : (rnB pl (l1 : Int) 123 && allW ws) = true := by simp [hR, hW]
      rw [e] at hb
      subst hb
      clear e
      go_enter Tryz.func55, Tryz.ntmps55
      go_wp2_with (first | (go_at_call 69; refine (isRun_any _ _ _ _ (by decide) _ (by first | exact hR)).mono ?_; rintro e wx ⟨rfl, rfl⟩) | (go_at_call 71; refine (areWords_any _ _ _ ws _ H1.out S1.out hl1 _ hW).mono ?_; rintro e wx ⟨rfl, rfl⟩))
      go_ret
      exact ⟨rfl, bel_alloc _ _⟩
set_option maxRecDepth 20000 in
set_option maxHeartbeats 4000000 in
theorem isRight_22 (pl x y : Int) (w : World) (b : Bool) (hb : (inB pl 0 65535 && (inB x 0 65535 && inB y 0 65535)) = b) :
    Calls Tryz.prog 55 #[.iface 104 (.agg #[.int .i64 pl, .int .i64 x, .int .i64 y])] w fun e w' => e = .returned (.bool b) ∧ Below w.heap.size w w' := by
  have t1 := ta_22_1
  have t2 := ta_22_2
  have t3 := ta_22_3
  have t4 := ta_22_4
  have t5 := ta_22_5
  have t6 := ta_22_6
  have t15 := ta_22_15
  have t16 := ta_22_16
  have t22 := ta_22_22
  cases hP : inB pl 0 65535
  · skip
    have e : (inB pl 0 65535 && (inB x 0 65535 && inB y 0 65535)) = false := by simp [hP]
    rw [e] at hb
    subst hb
    clear e
    go_enter Tryz.func55, Tryz.ntmps55
    go_wp2_with (first | (go_at_call 70; refine (isWord_any _ _ _ (by first | exact hP)).mono ?_; rintro e wx ⟨rfl, rfl⟩))
    go_ret
    exact ⟨rfl, bel_alloc _ _⟩
  · skip
    cases hX : inB x 0 65535
    · skip
      have e : (inB pl 0 65535 && (inB x 0 65535 && inB y 0 65535)) = false := by simp [hP, hX]
      rw [e] at hb
      subst hb
      clear e
      go_enter Tryz.func55, Tryz.ntmps55
      go_wp2_with (first | (go_at_call 70; refine (isWord_any _ _ _ (by first | exact hP | exact hX)).mono ?_; rintro e wx ⟨rfl, rfl⟩))
      go_ret
      exact ⟨rfl, bel_alloc _ _⟩
    · skip
      cases hY : inB y 0 65535
      · skip
        have e : (inB pl 0 65535 && (inB x 0 65535 && inB y 0 65535)) = false := by simp [hP, hX, hY]
        rw [e] at hb
        subst hb
        clear e
        go_enter Tryz.func55, Tryz.ntmps55
        go_wp2_with (first | (go_at_call 70; refine (isWord_any _ _ _ (by first | exact hP | exact hX | exact hY)).mono ?_; rintro e wx ⟨rfl, rfl⟩))
        go_ret
        exact ⟨rfl, bel_alloc _ _⟩
      · skip
        have e : (inB pl 0 65535 && (inB x 0 65535 && inB y 0 65535)) = true := by simp [hP, hX, hY]
        rw [e] at hb
        subst hb
        clear e
        go_enter Tryz.func55, Tryz.ntmps55
        go_wp2_with (first | (go_at_call 70; refine (isWord_any _ _ _ (by first | exact hP | exact hX | exact hY)).mono ?_; rintro e wx ⟨rfl, rfl⟩))
        go_ret
        exact ⟨rfl, bel_alloc _ _⟩
set_option maxRecDepth 20000 in
set_option maxHeartbeats 4000000 in
theorem isRight_23 (pl nn wa : Int) (a1 : Option Addr) (l1 c1 : Nat) (ws : List Int) (w : World) (h1 : l1 = ws.length) (s1 : SlI w a1 ws) (hl1 : ws.length ≤ 2000000) (b : Bool) (hb : (rnB pl nn 125 && (rnB wa (l1 : Int) 121 && allW ws)) = b) :
    Calls Tryz.prog 55 #[.iface 106 (.agg #[.int .i64 pl, .int .i64 nn, .int .i64 wa, .slice a1 l1 c1])] w fun e w' => e = .returned (.bool b) ∧ Below w.heap.size w w' := by
  have t1 := ta_23_1
  have t2 := ta_23_2
  have t3 := ta_23_3
  have t4 := ta_23_4
  have t5 := ta_23_5
  have t6 := ta_23_6
  have t15 := ta_23_15
  have t16 := ta_23_16
  have t22 := ta_23_22
  have t23 := ta_23_23
  have H1 : Hid (l1 = ws.length) := h1
  have S1 : Hid (SlI (w.alloc (.cells #[.int .i64 pl, .int .i64 nn, .int .i64 wa, .slice a1 l1 c1] 106)) a1 ws) := s1.below (bel_alloc _ _)
  clear h1 s1
  cases hR : rnB pl nn 125
  · skip
    have e : (rnB pl nn 125 && (rnB wa (l1 : Int) 121 && allW ws)) = false := by simp [hR]
    rw [e] at hb
    subst hb
    clear e
    go_enter Tryz.func55, Tryz.ntmps55
    go_wp2_with (first | (go_at_call 69; refine (isRun_any _ _ _ _ (by decide) _ (by first | exact hR)).mono ?_; rintro e wx ⟨rfl, rfl⟩))
    go_ret
    exact ⟨rfl, bel_alloc _ _⟩
  · skip
    cases hQ : rnB wa (l1 : Int) 121
    · skip
      have e : (rnB pl nn 125 && (rnB wa (l1 : Int) 121 && allW ws)) = false := by simp [hR, hQ]
      rw [e] at hb
      subst hb
      clear e
      go_enter Tryz.func55, Tryz.ntmps55
      go_wp2_with (first | (go_at_call 69; refine (isRun_any _ _ _ _ (by decide) _ (by first | exact hR | exact hQ)).mono ?_; rintro e wx ⟨rfl, rfl⟩))
      go_ret
      exact ⟨rfl, bel_alloc _ _⟩
    · skip
      cases hW : allW ws
      · skip
        have e : (rnB pl nn 125 && (rnB wa (l1 : Int) 121 && allW ws)) = false := by simp [hR, hQ, hW]
        rw [e] at hb
        subst hb
        clear e
        go_enter Tryz.func55, Tryz.ntmps55
        go_wp2_with (first | (go_at_call 69; refine (isRun_any _ _ _ _ (by decide) _ (by first | exact hR | exact hQ)).mono ?_; rintro e wx ⟨rfl, rfl⟩) | (go_at_call 71; refine (areWords_any _ _ _ ws _ H1.out S1.out hl1 _ hW).mono ?_; rintro e wx ⟨rfl, rfl⟩))
        go_ret
        exact ⟨rfl, bel_alloc _ _⟩
      · skip
        have e : (rnB pl nn 125 && (rnB wa (l1 : Int) 121 && allW ws)) = true := by simp [hR, hQ, hW]
        rw [e] at hb
        subst hb
        clear e
        go_enter Tryz.func55, Tryz.ntmps55
        go_wp2_with (first | (go_at_call 69; refine (isRun_any _ _ _ _ (by decide) _ (by first | exact hR | exact hQ)).mono ?_; rintro e wx ⟨rfl, rfl⟩) | (go_at_call 71; refine (areWords_any _ _ _ ws _ H1.out S1.out hl1 _ hW).mono ?_; rintro e wx ⟨rfl, rfl⟩))
        go_ret
        exact ⟨rfl, bel_alloc _ _⟩
set_option maxRecDepth 20000 in
set_option maxHeartbeats 4000000 in
theorem isRight_n (w : World) : Calls Tryz.prog 55 #[.nilIface] w fun e w' => e = .returned (.bool false) ∧ Below w.heap.size w w' := by
  have t1 := ta_n_1
  have t2 := ta_n_2
  have t3 := ta_n_3
  have t4 := ta_n_4
  have t5 := ta_n_5
  have t6 := ta_n_6
  have t15 := ta_n_15
  have t16 := ta_n_16
  have t22 := ta_n_22
  have t23 := ta_n_23
  go_enter Tryz.func55, Tryz.ntmps55
  go_wp2
  go_ret
  exact ⟨rfl, Below.refl _ _⟩
end Go.Proofs.YtohikbpolofklaaGreatDoor
