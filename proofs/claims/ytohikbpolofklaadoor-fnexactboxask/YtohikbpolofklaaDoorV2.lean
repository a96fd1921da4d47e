/- Texts that the proof needs, joined: Q3 Q4 Q5 Q6 Bits PutWord1 Pack1 Marks2 R1 R2. -/
import Derived.Test.YtohikbpolofklaaDoorV1
import Derived.Deep.RegionWith
import Derived.WalkKit
import Derived.LoopN
import Derived.Lib.AppendZerosOnto
import Derived.Lib.SliceRun
import Derived.Lib.Walk
namespace Go.Proofs.YtohikbpolofklaaDoor
open Go.RowKit
set_option linter.unusedVariables false
theorem ta_1_1 (w : World) (v : Value) : (Instr.typeAssert (.iface 86 v) 75 86 true).run Tryd.prog w = .ok (.tuple #[v, .bool true]) w := by kernel_rfl
theorem ta_2_1 (w : World) (v : Value) : (Instr.typeAssert (.iface 87 v) 75 86 true).run Tryd.prog w = .ok (.tuple #[.agg #[.int .i64 0, .int .i64 0], .bool false]) w := by kernel_rfl
theorem ta_2_2 (w : World) (v : Value) : (Instr.typeAssert (.iface 87 v) 75 87 true).run Tryd.prog w = .ok (.tuple #[v, .bool true]) w := by kernel_rfl
theorem ta_3_1 (w : World) (v : Value) : (Instr.typeAssert (.iface 88 v) 75 86 true).run Tryd.prog w = .ok (.tuple #[.agg #[.int .i64 0, .int .i64 0], .bool false]) w := by kernel_rfl
theorem ta_3_2 (w : World) (v : Value) : (Instr.typeAssert (.iface 88 v) 75 87 true).run Tryd.prog w = .ok (.tuple #[.agg #[.int .i64 0, .int .i64 0], .bool false]) w := by kernel_rfl
theorem ta_3_3 (w : World) (v : Value) : (Instr.typeAssert (.iface 88 v) 75 88 true).run Tryd.prog w = .ok (.tuple #[v, .bool true]) w := by kernel_rfl
theorem ta_4_1 (w : World) (v : Value) : (Instr.typeAssert (.iface 89 v) 75 86 true).run Tryd.prog w = .ok (.tuple #[.agg #[.int .i64 0, .int .i64 0], .bool false]) w := by kernel_rfl
theorem ta_4_2 (w : World) (v : Value) : (Instr.typeAssert (.iface 89 v) 75 87 true).run Tryd.prog w = .ok (.tuple #[.agg #[.int .i64 0, .int .i64 0], .bool false]) w := by kernel_rfl
theorem ta_4_3 (w : World) (v : Value) : (Instr.typeAssert (.iface 89 v) 75 88 true).run Tryd.prog w = .ok (.tuple #[.agg #[.int .i64 0, .int .i64 0], .bool false]) w := by kernel_rfl
theorem ta_4_4 (w : World) (v : Value) : (Instr.typeAssert (.iface 89 v) 75 89 true).run Tryd.prog w = .ok (.tuple #[v, .bool true]) w := by kernel_rfl
theorem ta_5_1 (w : World) (v : Value) : (Instr.typeAssert (.iface 91 v) 75 86 true).run Tryd.prog w = .ok (.tuple #[.agg #[.int .i64 0, .int .i64 0], .bool false]) w := by kernel_rfl
theorem ta_5_2 (w : World) (v : Value) : (Instr.typeAssert (.iface 91 v) 75 87 true).run Tryd.prog w = .ok (.tuple #[.agg #[.int .i64 0, .int .i64 0], .bool false]) w := by kernel_rfl
theorem ta_5_3 (w : World) (v : Value) : (Instr.typeAssert (.iface 91 v) 75 88 true).run Tryd.prog w = .ok (.tuple #[.agg #[.int .i64 0, .int .i64 0], .bool false]) w := by kernel_rfl
theorem ta_5_4 (w : World) (v : Value) : (Instr.typeAssert (.iface 91 v) 75 89 true).run Tryd.prog w = .ok (.tuple #[.agg #[.int .i64 0, .int .i64 0], .bool false]) w := by kernel_rfl
theorem ta_5_5 (w : World) (v : Value) : (Instr.typeAssert (.iface 91 v) 75 91 true).run Tryd.prog w = .ok (.tuple #[v, .bool true]) w := by kernel_rfl
theorem ta_6_1 (w : World) (v : Value) : (Instr.typeAssert (.iface 93 v) 75 86 true).run Tryd.prog w = .ok (.tuple #[.agg #[.int .i64 0, .int .i64 0], .bool false]) w := by kernel_rfl
theorem ta_6_2 (w : World) (v : Value) : (Instr.typeAssert (.iface 93 v) 75 87 true).run Tryd.prog w = .ok (.tuple #[.agg #[.int .i64 0, .int .i64 0], .bool false]) w := by kernel_rfl
theorem ta_6_3 (w : World) (v : Value) : (Instr.typeAssert (.iface 93 v) 75 88 true).run Tryd.prog w = .ok (.tuple #[.agg #[.int .i64 0, .int .i64 0], .bool false]) w := by kernel_rfl
theorem ta_6_4 (w : World) (v : Value) : (Instr.typeAssert (.iface 93 v) 75 89 true).run Tryd.prog w = .ok (.tuple #[.agg #[.int .i64 0, .int .i64 0], .bool false]) w := by kernel_rfl
theorem ta_6_5 (w : World) (v : Value) : (Instr.typeAssert (.iface 93 v) 75 91 true).run Tryd.prog w = .ok (.tuple #[.agg #[.int .i64 0, .bool false], .bool false]) w := by kernel_rfl
theorem ta_6_6 (w : World) (v : Value) : (Instr.typeAssert (.iface 93 v) 75 93 true).run Tryd.prog w = .ok (.tuple #[v, .bool true]) w := by kernel_rfl
theorem ta_15_1 (w : World) (v : Value) : (Instr.typeAssert (.iface 96 v) 75 86 true).run Tryd.prog w = .ok (.tuple #[.agg #[.int .i64 0, .int .i64 0], .bool false]) w := by kernel_rfl
theorem ta_15_2 (w : World) (v : Value) : (Instr.typeAssert (.iface 96 v) 75 87 true).run Tryd.prog w = .ok (.tuple #[.agg #[.int .i64 0, .int .i64 0], .bool false]) w := by kernel_rfl
theorem ta_15_3 (w : World) (v : Value) : (Instr.typeAssert (.iface 96 v) 75 88 true).run Tryd.prog w = .ok (.tuple #[.agg #[.int .i64 0, .int .i64 0], .bool false]) w := by kernel_rfl
theorem ta_15_4 (w : World) (v : Value) : (Instr.typeAssert (.iface 96 v) 75 89 true).run Tryd.prog w = .ok (.tuple #[.agg #[.int .i64 0, .int .i64 0], .bool false]) w := by kernel_rfl
theorem ta_15_5 (w : World) (v : Value) : (Instr.typeAssert (.iface 96 v) 75 91 true).run Tryd.prog w = .ok (.tuple #[.agg #[.int .i64 0, .bool false], .bool false]) w := by kernel_rfl
theorem ta_15_6 (w : World) (v : Value) : (Instr.typeAssert (.iface 96 v) 75 93 true).run Tryd.prog w = .ok (.tuple #[.agg #[.int .i64 0, .int .i64 0], .bool false]) w := by kernel_rfl
theorem ta_15_15 (w : World) (v : Value) : (Instr.typeAssert (.iface 96 v) 75 96 true).run Tryd.prog w = .ok (.tuple #[v, .bool true]) w := by kernel_rfl
theorem ta_16_1 (w : World) (v : Value) : (Instr.typeAssert (.iface 98 v) 75 86 true).run Tryd.prog w = .ok (.tuple #[.agg #[.int .i64 0, .int .i64 0], .bool false]) w := by kernel_rfl
theorem ta_16_2 (w : World) (v : Value) : (Instr.typeAssert (.iface 98 v) 75 87 true).run Tryd.prog w = .ok (.tuple #[.agg #[.int .i64 0, .int .i64 0], .bool false]) w := by kernel_rfl
theorem ta_16_3 (w : World) (v : Value) : (Instr.typeAssert (.iface 98 v) 75 88 true).run Tryd.prog w = .ok (.tuple #[.agg #[.int .i64 0, .int .i64 0], .bool false]) w := by kernel_rfl
theorem ta_16_4 (w : World) (v : Value) : (Instr.typeAssert (.iface 98 v) 75 89 true).run Tryd.prog w = .ok (.tuple #[.agg #[.int .i64 0, .int .i64 0], .bool false]) w := by kernel_rfl
theorem ta_16_5 (w : World) (v : Value) : (Instr.typeAssert (.iface 98 v) 75 91 true).run Tryd.prog w = .ok (.tuple #[.agg #[.int .i64 0, .bool false], .bool false]) w := by kernel_rfl
theorem ta_16_6 (w : World) (v : Value) : (Instr.typeAssert (.iface 98 v) 75 93 true).run Tryd.prog w = .ok (.tuple #[.agg #[.int .i64 0, .int .i64 0], .bool false]) w := by kernel_rfl
theorem ta_16_15 (w : World) (v : Value) : (Instr.typeAssert (.iface 98 v) 75 96 true).run Tryd.prog w = .ok (.tuple #[.agg #[.int .i64 0, .slice none 0 0], .bool false]) w := by kernel_rfl
theorem ta_16_16 (w : World) (v : Value) : (Instr.typeAssert (.iface 98 v) 75 98 true).run Tryd.prog w = .ok (.tuple #[v, .bool true]) w := by kernel_rfl
theorem ta_22_1 (w : World) (v : Value) : (Instr.typeAssert (.iface 100 v) 75 86 true).run Tryd.prog w = .ok (.tuple #[.agg #[.int .i64 0, .int .i64 0], .bool false]) w := by kernel_rfl
theorem ta_22_2 (w : World) (v : Value) : (Instr.typeAssert (.iface 100 v) 75 87 true).run Tryd.prog w = .ok (.tuple #[.agg #[.int .i64 0, .int .i64 0], .bool false]) w := by kernel_rfl
theorem ta_22_3 (w : World) (v : Value) : (Instr.typeAssert (.iface 100 v) 75 88 true).run Tryd.prog w = .ok (.tuple #[.agg #[.int .i64 0, .int .i64 0], .bool false]) w := by kernel_rfl
theorem ta_22_4 (w : World) (v : Value) : (Instr.typeAssert (.iface 100 v) 75 89 true).run Tryd.prog w = .ok (.tuple #[.agg #[.int .i64 0, .int .i64 0], .bool false]) w := by kernel_rfl
theorem ta_22_5 (w : World) (v : Value) : (Instr.typeAssert (.iface 100 v) 75 91 true).run Tryd.prog w = .ok (.tuple #[.agg #[.int .i64 0, .bool false], .bool false]) w := by kernel_rfl
theorem ta_22_6 (w : World) (v : Value) : (Instr.typeAssert (.iface 100 v) 75 93 true).run Tryd.prog w = .ok (.tuple #[.agg #[.int .i64 0, .int .i64 0], .bool false]) w := by kernel_rfl
theorem ta_22_15 (w : World) (v : Value) : (Instr.typeAssert (.iface 100 v) 75 96 true).run Tryd.prog w = .ok (.tuple #[.agg #[.int .i64 0, .slice none 0 0], .bool false]) w := by kernel_rfl
theorem ta_22_16 (w : World) (v : Value) : (Instr.typeAssert (.iface 100 v) 75 98 true).run Tryd.prog w = .ok (.tuple #[.agg #[.int .i64 0, .slice none 0 0], .bool false]) w := by kernel_rfl
theorem ta_22_22 (w : World) (v : Value) : (Instr.typeAssert (.iface 100 v) 75 100 true).run Tryd.prog w = .ok (.tuple #[v, .bool true]) w := by kernel_rfl
theorem ta_23_1 (w : World) (v : Value) : (Instr.typeAssert (.iface 102 v) 75 86 true).run Tryd.prog w = .ok (.tuple #[.agg #[.int .i64 0, .int .i64 0], .bool false]) w := by kernel_rfl
theorem ta_23_2 (w : World) (v : Value) : (Instr.typeAssert (.iface 102 v) 75 87 true).run Tryd.prog w = .ok (.tuple #[.agg #[.int .i64 0, .int .i64 0], .bool false]) w := by kernel_rfl
theorem ta_23_3 (w : World) (v : Value) : (Instr.typeAssert (.iface 102 v) 75 88 true).run Tryd.prog w = .ok (.tuple #[.agg #[.int .i64 0, .int .i64 0], .bool false]) w := by kernel_rfl
theorem ta_23_4 (w : World) (v : Value) : (Instr.typeAssert (.iface 102 v) 75 89 true).run Tryd.prog w = .ok (.tuple #[.agg #[.int .i64 0, .int .i64 0], .bool false]) w := by kernel_rfl
theorem ta_23_5 (w : World) (v : Value) : (Instr.typeAssert (.iface 102 v) 75 91 true).run Tryd.prog w = .ok (.tuple #[.agg #[.int .i64 0, .bool false], .bool false]) w := by kernel_rfl
theorem ta_23_6 (w : World) (v : Value) : (Instr.typeAssert (.iface 102 v) 75 93 true).run Tryd.prog w = .ok (.tuple #[.agg #[.int .i64 0, .int .i64 0], .bool false]) w := by kernel_rfl
theorem ta_23_15 (w : World) (v : Value) : (Instr.typeAssert (.iface 102 v) 75 96 true).run Tryd.prog w = .ok (.tuple #[.agg #[.int .i64 0, .slice none 0 0], .bool false]) w := by kernel_rfl
theorem ta_23_16 (w : World) (v : Value) : (Instr.typeAssert (.iface 102 v) 75 98 true).run Tryd.prog w = .ok (.tuple #[.agg #[.int .i64 0, .slice none 0 0], .bool false]) w := by kernel_rfl
theorem ta_23_22 (w : World) (v : Value) : (Instr.typeAssert (.iface 102 v) 75 100 true).run Tryd.prog w = .ok (.tuple #[.agg #[.int .i64 0, .int .i64 0, .int .i64 0], .bool false]) w := by kernel_rfl
theorem ta_23_23 (w : World) (v : Value) : (Instr.typeAssert (.iface 102 v) 75 102 true).run Tryd.prog w = .ok (.tuple #[v, .bool true]) w := by kernel_rfl
set_option maxRecDepth 20000 in
set_option maxHeartbeats 4000000 in
theorem isRight_1 (pl nn : Int) (w : World) (b : Bool) (hb : (rnB pl nn 2000) = b) :
    Calls Tryd.prog 47 #[.iface 86 (.agg #[.int .i64 pl, .int .i64 nn])] w fun e w' => e = .returned (.bool b) ∧ Below w.heap.size w w' := by
  have t1 := ta_1_1
  cases hR : rnB pl nn 2000
  · skip
    have e : (rnB pl nn 2000) = false := by simp [hR]
    rw [e] at hb
    subst hb
    clear e
    go_enter Tryd.func47, Tryd.ntmps47
    go_wp2_with (first | (go_at_call 55; refine (isRun_any _ _ _ _ (by decide) _ (by first | exact hR)).mono ?_; rintro e wx ⟨rfl, rfl⟩))
    go_ret
    exact ⟨rfl, bel_alloc _ _⟩
  · skip
    have e : (rnB pl nn 2000) = true := by simp [hR]
    rw [e] at hb
    subst hb
    clear e
    go_enter Tryd.func47, Tryd.ntmps47
    go_wp2_with (first | (go_at_call 55; refine (isRun_any _ _ _ _ (by decide) _ (by first | exact hR)).mono ?_; rintro e wx ⟨rfl, rfl⟩))
    go_ret
    exact ⟨rfl, bel_alloc _ _⟩
set_option maxRecDepth 20000 in
set_option maxHeartbeats 4000000 in
theorem isRight_2 (pl nn : Int) (w : World) (b : Bool) (hb : (rnB pl nn 2000) = b) :
    Calls Tryd.prog 47 #[.iface 87 (.agg #[.int .i64 pl, .int .i64 nn])] w fun e w' => e = .returned (.bool b) ∧ Below w.heap.size w w' := by
  have t1 := ta_2_1
  have t2 := ta_2_2
  cases hR : rnB pl nn 2000
  · skip
    have e : (rnB pl nn 2000) = false := by simp [hR]
    rw [e] at hb
    subst hb
    clear e
    go_enter Tryd.func47, Tryd.ntmps47
    go_wp2_with (first | (go_at_call 55; refine (isRun_any _ _ _ _ (by decide) _ (by first | exact hR)).mono ?_; rintro e wx ⟨rfl, rfl⟩))
    go_ret
    exact ⟨rfl, bel_alloc _ _⟩
  · skip
    have e : (rnB pl nn 2000) = true := by simp [hR]
    rw [e] at hb
    subst hb
    clear e
    go_enter Tryd.func47, Tryd.ntmps47
    go_wp2_with (first | (go_at_call 55; refine (isRun_any _ _ _ _ (by decide) _ (by first | exact hR)).mono ?_; rintro e wx ⟨rfl, rfl⟩))
    go_ret
    exact ⟨rfl, bel_alloc _ _⟩
set_option maxRecDepth 20000 in
set_option maxHeartbeats 4000000 in
theorem isRight_3 (pl nn : Int) (w : World) (b : Bool) (hb : (rnB pl nn 125) = b) :
    Calls Tryd.prog 47 #[.iface 88 (.agg #[.int .i64 pl, .int .i64 nn])] w fun e w' => e = .returned (.bool b) ∧ Below w.heap.size w w' := by
  have t1 := ta_3_1
  have t2 := ta_3_2
  have t3 := ta_3_3
  cases hR : rnB pl nn 125
  · skip
    have e : (rnB pl nn 125) = false := by simp [hR]
    rw [e] at hb
    subst hb
    clear e
    go_enter Tryd.func47, Tryd.ntmps47
    go_wp2_with (first | (go_at_call 55; refine (isRun_any _ _ _ _ (by decide) _ (by first | exact hR)).mono ?_; rintro e wx ⟨rfl, rfl⟩))
    go_ret
    exact ⟨rfl, bel_alloc _ _⟩
  · skip
    have e : (rnB pl nn 125) = true := by simp [hR]
    rw [e] at hb
    subst hb
    clear e
    go_enter Tryd.func47, Tryd.ntmps47
    go_wp2_with (first | (go_at_call 55; refine (isRun_any _ _ _ _ (by decide) _ (by first | exact hR)).mono ?_; rintro e wx ⟨rfl, rfl⟩))
    go_ret
    exact ⟨rfl, bel_alloc _ _⟩
set_option maxRecDepth 20000 in
set_option maxHeartbeats 4000000 in
theorem isRight_4 (pl nn : Int) (w : World) (b : Bool) (hb : (rnB pl nn 125) = b) :
    Calls Tryd.prog 47 #[.iface 89 (.agg #[.int .i64 pl, .int .i64 nn])] w fun e w' => e = .returned (.bool b) ∧ Below w.heap.size w w' := by
  have t1 := ta_4_1
  have t2 := ta_4_2
  have t3 := ta_4_3
  have t4 := ta_4_4
  cases hR : rnB pl nn 125
  · skip
    have e : (rnB pl nn 125) = false := by simp [hR]
    rw [e] at hb
    subst hb
    clear e
    go_enter Tryd.func47, Tryd.ntmps47
    go_wp2_with (first | (go_at_call 55; refine (isRun_any _ _ _ _ (by decide) _ (by first | exact hR)).mono ?_; rintro e wx ⟨rfl, rfl⟩))
    go_ret
    exact ⟨rfl, bel_alloc _ _⟩
  · skip
    have e : (rnB pl nn 125) = true := by simp [hR]
    rw [e] at hb
    subst hb
    clear e
    go_enter Tryd.func47, Tryd.ntmps47
    go_wp2_with (first | (go_at_call 55; refine (isRun_any _ _ _ _ (by decide) _ (by first | exact hR)).mono ?_; rintro e wx ⟨rfl, rfl⟩))
    go_ret
    exact ⟨rfl, bel_alloc _ _⟩
set_option maxRecDepth 20000 in
set_option maxHeartbeats 4000000 in
theorem isRight_5 (pl : Int) (x : Bool) (w : World) (b : Bool) (hb : (inB pl 0 65535) = b) :
    Calls Tryd.prog 47 #[.iface 91 (.agg #[.int .i64 pl, .bool x])] w fun e w' => e = .returned (.bool b) ∧ Below w.heap.size w w' := by
  have t1 := ta_5_1
  have t2 := ta_5_2
  have t3 := ta_5_3
  have t4 := ta_5_4
  have t5 := ta_5_5
  cases hP : inB pl 0 65535
  · skip
    have e : (inB pl 0 65535) = false := by simp [hP]
    rw [e] at hb
    subst hb
    clear e
    go_enter Tryd.func47, Tryd.ntmps47
    go_wp2_with (first | (go_at_call 56; refine (isWord_any _ _ _ (by first | exact hP)).mono ?_; rintro e wx ⟨rfl, rfl⟩))
    go_ret
    exact ⟨rfl, bel_alloc _ _⟩
  · skip
    have e : (inB pl 0 65535) = true := by simp [hP]
    rw [e] at hb
    subst hb
    clear e
    go_enter Tryd.func47, Tryd.ntmps47
    go_wp2_with (first | (go_at_call 56; refine (isWord_any _ _ _ (by first | exact hP)).mono ?_; rintro e wx ⟨rfl, rfl⟩))
    go_ret
    exact ⟨rfl, bel_alloc _ _⟩
set_option maxRecDepth 20000 in
set_option maxHeartbeats 4000000 in
theorem isRight_6 (pl x : Int) (w : World) (b : Bool) (hb : (inB pl 0 65535 && inB x 0 65535) = b) :
    Calls Tryd.prog 47 #[.iface 93 (.agg #[.int .i64 pl, .int .i64 x])] w fun e w' => e = .returned (.bool b) ∧ Below w.heap.size w w' := by
  have t1 := ta_6_1
  have t2 := ta_6_2
  have t3 := ta_6_3
  have t4 := ta_6_4
  have t5 := ta_6_5
  have t6 := ta_6_6
  cases hP : inB pl 0 65535
  · skip
    have e : (inB pl 0 65535 && inB x 0 65535) = false := by simp [hP]
    rw [e] at hb
    subst hb
    clear e
    go_enter Tryd.func47, Tryd.ntmps47
    go_wp2_with (first | (go_at_call 56; refine (isWord_any _ _ _ (by first | exact hP)).mono ?_; rintro e wx ⟨rfl, rfl⟩))
    go_ret
    exact ⟨rfl, bel_alloc _ _⟩
  · skip
    cases hX : inB x 0 65535
    · skip
      have e : (inB pl 0 65535 && inB x 0 65535) = false := by simp [hP, hX]
      rw [e] at hb
      subst hb
      clear e
      go_enter Tryd.func47, Tryd.ntmps47
      go_wp2_with (first | (go_at_call 56; refine (isWord_any _ _ _ (by first | exact hP | exact hX)).mono ?_; rintro e wx ⟨rfl, rfl⟩))
      go_ret
      exact ⟨rfl, bel_alloc _ _⟩
    · skip
      have e : (inB pl 0 65535 && inB x 0 65535) = true := by simp [hP, hX]
      rw [e] at hb
      subst hb
      clear e
      go_enter Tryd.func47, Tryd.ntmps47
      go_wp2_with (first | (go_at_call 56; refine (isWord_any _ _ _ (by first | exact hP | exact hX)).mono ?_; rintro e wx ⟨rfl, rfl⟩))
      go_ret
      exact ⟨rfl, bel_alloc _ _⟩
set_option maxRecDepth 20000 in
set_option maxHeartbeats 4000000 in
theorem isRight_15 (pl : Int) (a2 : Option Addr) (l2 c2 : Nat) (w : World) (b : Bool) (hb : (rnB pl (l2 : Int) 1968) = b) :
    Calls Tryd.prog 47 #[.iface 96 (.agg #[.int .i64 pl, .slice a2 l2 c2])] w fun e w' => e = .returned (.bool b) ∧ Below w.heap.size w w' := by
  have t1 := ta_15_1
  have t2 := ta_15_2
  have t3 := ta_15_3
  have t4 := ta_15_4
  have t5 := ta_15_5
  have t6 := ta_15_6
  have t15 := ta_15_15
  cases hR : rnB pl (l2 : Int) 1968
  · skip
    have e : (rnB pl (l2 : Int) 1968) = false := by simp [hR]
    rw [e] at hb
    subst hb
    clear e
    go_enter Tryd.func47, Tryd.ntmps47
    go_wp2_with (first | (go_at_call 55; refine (isRun_any _ _ _ _ (by decide) _ (by first | exact hR)).mono ?_; rintro e wx ⟨rfl, rfl⟩))
    go_ret
    exact ⟨rfl, bel_alloc _ _⟩
  · skip
    have e : (rnB pl (l2 : Int) 1968) = true := by simp [hR]
    rw [e] at hb
    subst hb
    clear e
    go_enter Tryd.func47, Tryd.ntmps47
    go_wp2_with (first | (go_at_call 55; refine (isRun_any _ _ _ _ (by decide) _ (by first | exact hR)).mono ?_; rintro e wx ⟨rfl, rfl⟩))
    go_ret
    exact ⟨rfl, bel_alloc _ _⟩
set_option maxRecDepth 20000 in
set_option maxHeartbeats 4000000 in
theorem isRight_16 (pl : Int) (a1 : Option Addr) (l1 c1 : Nat) (ws : List Int) (w : World) (h1 : l1 = ws.length) (s1 : SlI w a1 ws) (hl1 : ws.length ≤ 2000000) (b : Bool) (hb : (rnB pl (l1 : Int) 123 && allW ws) = b) :
    Calls Tryd.prog 47 #[.iface 98 (.agg #[.int .i64 pl, .slice a1 l1 c1])] w fun e w' => e = .returned (.bool b) ∧ Below w.heap.size w w' := by
  have t1 := ta_16_1
  have t2 := ta_16_2
  have t3 := ta_16_3
  have t4 := ta_16_4
  have t5 := ta_16_5
  have t6 := ta_16_6
  have t15 := ta_16_15
  have t16 := ta_16_16
  have H1 : Hid (l1 = ws.length) := h1
  have S1 : Hid (SlI (w.alloc (.cells #[.int .i64 pl, .slice a1 l1 c1] 98)) a1 ws) := s1.below (bel_alloc _ _)
  clear h1 s1
  cases hR : rnB pl (l1 : Int) 123
  · skip
    have e : (rnB pl (l1 : Int) 123 && allW ws) = false := by simp [hR]
    rw [e] at hb
    subst hb
    clear e
    go_enter Tryd.func47, Tryd.ntmps47
    go_wp2_with (first | (go_at_call 55; refine (isRun_any _ _ _ _ (by decide) _ (by first | exact hR)).mono ?_; rintro e wx ⟨rfl, rfl⟩))
    go_ret
    exact ⟨rfl, bel_alloc _ _⟩
  · skip
    cases hW : allW ws
    · skip
      have e : (rnB pl (l1 : Int) 123 && allW ws) = false := by simp [hR, hW]
      rw [e] at hb
      subst hb
      clear e
      go_enter Tryd.func47, Tryd.ntmps47
      go_wp2_with (first | (go_at_call 55; refine (isRun_any _ _ _ _ (by decide) _ (by first | exact hR)).mono ?_; rintro e wx ⟨rfl, rfl⟩) | (go_at_call 57; refine (areWords_any _ _ _ ws _ H1.out S1.out hl1 _ hW).mono ?_; rintro e wx ⟨rfl, rfl⟩))
      go_ret
      exact ⟨rfl, bel_alloc _ _⟩
    · skip
      have e : (rnB pl (l1 : Int) 123 && allW ws) = true := by simp [hR, hW]
      rw [e] at hb
      subst hb
      clear e
      go_enter Tryd.func47, Tryd.ntmps47
      go_wp2_with (first | (go_at_call 55; refine (isRun_any _ _ _ _ (by decide) _ (by first | exact hR)).mono ?_; rintro e wx ⟨rfl, rfl⟩) | (go_at_call 57; refine (areWords_any _ _ _ ws _ H1.out S1.out hl1 _ hW).mono ?_; rintro e wx ⟨rfl, rfl⟩))
      go_ret
      exact ⟨rfl, bel_alloc _ _⟩
set_option maxRecDepth 20000 in
set_option maxHeartbeats 4000000 in
theorem isRight_22 (pl x y : Int) (w : World) (b : Bool) (hb : (inB pl 0 65535 && (inB x 0 65535 && inB y 0 65535)) = b) :
    Calls Tryd.prog 47 #[.iface 100 (.agg #[.int .i64 pl, .int .i64 x, .int .i64 y])] w fun e w' => e = .returned (.bool b) ∧ Below w.heap.size w w' := by
  have t1 := ta_22_1
  have t2 := ta_22_2
  have t3 := ta_22_3
  have t4 := ta_22_4
  have t5 := ta_22_5
  have t6 := ta_22_6
  have t15 := ta_22_15
  have t16 := ta_22_16
  have t22 := ta_22_22
  cases hP : inB pl 0 65535
  · skip
    have e : (inB pl 0 65535 && (inB x 0 65535 && inB y 0 65535)) = false := by simp [hP]
    rw [e] at hb
    subst hb
    clear e
    go_enter Tryd.func47, Tryd.ntmps47
    go_wp2_with (first | (go_at_call 56; refine (isWord_any _ _ _ (by first | exact hP)).mono ?_; rintro e wx ⟨rfl, rfl⟩))
    go_ret
    exact ⟨rfl, bel_alloc _ _⟩
  · skip
    cases hX : inB x 0 65535
    · skip
      have e : (inB pl 0 65535 && (inB x 0 65535 && inB y 0 65535)) = false := by simp [hP, hX]
      rw [e] at hb
      subst hb
      clear e
      go_enter Tryd.func47, Tryd.ntmps47
      go_wp2_with (first | (go_at_call 56; refine (isWord_any _ _ _ (by first | exact hP | exact hX)).mono ?_; rintro e wx ⟨rfl, rfl⟩))
      go_ret
      exact ⟨rfl, bel_alloc _ _⟩
    · skip
      cases hY : inB y 0 65535
      · skip
        have e : (inB pl 0 65535 && (inB x 0 65535 && inB y 0 65535)) = false := by simp [hP, hX, hY]
        rw [e] at hb
        subst hb
        clear e
        go_enter Tryd.func47, Tryd.ntmps47
        go_wp2_with (first | (go_at_call 56; refine (isWord_any _ _ _ (by first | exact hP | exact hX | exact hY)).mono ?_; rintro e wx ⟨rfl, rfl⟩))
        go_ret
        exact ⟨rfl, bel_alloc _ _⟩
      · skip
        have e : (inB pl 0 65535 && (inB x 0 65535 && inB y 0 65535)) = true := by simp [hP, hX, hY]
        rw [e] at hb
        subst hb
        clear e
        go_enter Tryd.func47, Tryd.ntmps47
        go_wp2_with (first | (go_at_call 56; refine (isWord_any _ _ _ (by first | exact hP | exact hX | exact hY)).mono ?_; rintro e wx ⟨rfl, rfl⟩))
        go_ret
        exact ⟨rfl, bel_alloc _ _⟩
set_option maxRecDepth 20000 in
set_option maxHeartbeats 4000000 in
theorem isRight_23 (pl nn wa : Int) (a1 : Option Addr) (l1 c1 : Nat) (ws : List Int) (w : World) (h1 : l1 = ws.length) (s1 : SlI w a1 ws) (hl1 : ws.length ≤ 2000000) (b : Bool) (hb : (rnB pl nn 125 && (rnB wa (l1 : Int) 121 && allW ws)) = b) :
    Calls Tryd.prog 47 #[.iface 102 (.agg #[.int .i64 pl, .int .i64 nn, .int .i64 wa, .slice a1 l1 c1])] w fun e w' => e = .returned (.bool b) ∧ Below w.heap.size w w' := by
  have t1 := ta_23_1
  have t2 := ta_23_2
  have t3 := ta_23_3
  have t4 := ta_23_4
  have t5 := ta_23_5
  have t6 := ta_23_6
  have t15 := ta_23_15
  have t16 := ta_23_16
  have t22 := ta_23_22
  have t23 := ta_23_23
  have H1 : Hid (l1 = ws.length) := h1
  have S1 : Hid (SlI (w.alloc (.cells #[.int .i64 pl, .int .i64 nn, .int .i64 wa, .slice a1 l1 c1] 102)) a1 ws) := s1.below (bel_alloc _ _)
  clear h1 s1
  cases hR : rnB pl nn 125
  · skip
    have e : (rnB pl nn 125 && (rnB wa (l1 : Int) 121 && allW ws)) = false := by simp [hR]
    rw [e] at hb
    subst hb
    clear e
    go_enter Tryd.func47, Tryd.ntmps47
    go_wp2_with (first | (go_at_call 55; refine (isRun_any _ _ _ _ (by decide) _ (by first | exact hR)).mono ?_; rintro e wx ⟨rfl, rfl⟩))
    go_ret
    exact ⟨rfl, bel_alloc _ _⟩
  · skip
    cases hQ : rnB wa (l1 : Int) 121
    · skip
      have e : (rnB pl nn 125 && (rnB wa (l1 : Int) 121 && allW ws)) = false := by simp [hR, hQ]
      rw [e] at hb
      subst hb
      clear e
      go_enter Tryd.func47, Tryd.ntmps47
      go_wp2_with (first | (go_at_call 55; refine (isRun_any _ _ _ _ (by decide) _ (by first | exact hR | exact hQ)).mono ?_; rintro e wx ⟨rfl, rfl⟩))
      go_ret
      exact ⟨rfl, bel_alloc _ _⟩
    · skip
      cases hW : allW ws
      · skip
        have e : (rnB pl nn 125 && (rnB wa (l1 : Int) 121 && allW ws)) = false := by simp [hR, hQ, hW]
        rw [e] at hb
        subst hb
        clear e
        go_enter Tryd.func47, Tryd.ntmps47
        go_wp2_with (first | (go_at_call 55; refine (isRun_any _ _ _ _ (by decide) _ (by first | exact hR | exact hQ)).mono ?_; rintro e wx ⟨rfl, rfl⟩) | (go_at_call 57; refine (areWords_any _ _ _ ws _ H1.out S1.out hl1 _ hW).mono ?_; rintro e wx ⟨rfl, rfl⟩))
        go_ret
        exact ⟨rfl, bel_alloc _ _⟩
      · skip
        have e : (rnB pl nn 125 && (rnB wa (l1 : Int) 121 && allW ws)) = true := by simp [hR, hQ, hW]
        rw [e] at hb
        subst hb
        clear e
        go_enter Tryd.func47, Tryd.ntmps47
        go_wp2_with (first | (go_at_call 55; refine (isRun_any _ _ _ _ (by decide) _ (by first | exact hR | exact hQ)).mono ?_; rintro e wx ⟨rfl, rfl⟩) | (go_at_call 57; refine (areWords_any _ _ _ ws _ H1.out S1.out hl1 _ hW).mono ?_; rintro e wx ⟨rfl, rfl⟩))
        go_ret
        exact ⟨rfl, bel_alloc _ _⟩
end Go.Proofs.YtohikbpolofklaaDoor
namespace Go.Proofs.YtohikbpolofklaaDoor
open Go.RowKit
set_option linter.unusedVariables false
theorem lit_slI1 (w : World) (x : Int) {g : Nat} (hg : g = w.heap.size) : SlI (w.alloc (.cells #[.int .i64 x] 3)) (some ⟨g, 0, none⟩) [x] := hg ▸
  .inr ⟨_, 0, rfl, by simp, fun i hi => by
    have : i = 0 := by simp at hi; omega
    subst this; simp⟩
theorem lit_slI2 (w : World) (x y : Int) {g : Nat} (hg : g = w.heap.size) : SlI (w.alloc (.cells #[.int .i64 x, .int .i64 y] 3)) (some ⟨g, 0, none⟩) [x, y] := hg ▸
  .inr ⟨_, 0, rfl, by simp, fun i hi => by
    have : i = 0 ∨ i = 1 := by simp at hi; omega
    rcases this with rfl | rfl <;> simp⟩
set_option maxHeartbeats 2000000 in
theorem req_1 (pl nn : Int) (w : World) :
    Calls Tryd.prog 84 #[.agg #[.int .i64 pl, .int .i64 nn]] w fun e w' => e = .returned (rq 1 pl nn 0 none none 0 0 0 0) ∧ Below w.heap.size w w' := by
  go_enter Tryd.func84, Tryd.ntmps84
  go_wp2
  refine bodyPost_ret (v := rq 1 pl nn 0 none none 0 0 0 0) (by simp [results, Tryd.results84, go_sem]) rfl ?_
  exact ⟨rfl, bel_next (bel_alloc _ _) (bel_alloc _ _)⟩
set_option maxHeartbeats 2000000 in
theorem req_2 (pl nn : Int) (w : World) :
    Calls Tryd.prog 85 #[.agg #[.int .i64 pl, .int .i64 nn]] w fun e w' => e = .returned (rq 2 pl nn 0 none none 0 0 0 0) ∧ Below w.heap.size w w' := by
  go_enter Tryd.func85, Tryd.ntmps85
  go_wp2
  refine bodyPost_ret (v := rq 2 pl nn 0 none none 0 0 0 0) (by simp [results, Tryd.results85, go_sem]) rfl ?_
  exact ⟨rfl, bel_next (bel_alloc _ _) (bel_alloc _ _)⟩
set_option maxHeartbeats 2000000 in
theorem req_3 (pl nn : Int) (w : World) :
    Calls Tryd.prog 86 #[.agg #[.int .i64 pl, .int .i64 nn]] w fun e w' => e = .returned (rq 3 pl nn 0 none none 0 0 0 0) ∧ Below w.heap.size w w' := by
  go_enter Tryd.func86, Tryd.ntmps86
  go_wp2
  refine bodyPost_ret (v := rq 3 pl nn 0 none none 0 0 0 0) (by simp [results, Tryd.results86, go_sem]) rfl ?_
  exact ⟨rfl, bel_next (bel_alloc _ _) (bel_alloc _ _)⟩
set_option maxHeartbeats 2000000 in
theorem req_4 (pl nn : Int) (w : World) :
    Calls Tryd.prog 87 #[.agg #[.int .i64 pl, .int .i64 nn]] w fun e w' => e = .returned (rq 4 pl nn 0 none none 0 0 0 0) ∧ Below w.heap.size w w' := by
  go_enter Tryd.func87, Tryd.ntmps87
  go_wp2
  refine bodyPost_ret (v := rq 4 pl nn 0 none none 0 0 0 0) (by simp [results, Tryd.results87, go_sem]) rfl ?_
  exact ⟨rfl, bel_next (bel_alloc _ _) (bel_alloc _ _)⟩
set_option maxHeartbeats 2000000 in
theorem req_15 (pl : Int) (a2 : Option Addr) (l2 c2 : Nat) (w : World) :
    Calls Tryd.prog 90 #[.agg #[.int .i64 pl, .slice a2 l2 c2]] w fun e w' => e = .returned (rq 15 pl 0 0 none a2 0 l2 0 c2) ∧ Below w.heap.size w w' := by
  go_enter Tryd.func90, Tryd.ntmps90
  go_wp2
  refine bodyPost_ret (v := rq 15 pl 0 0 none a2 0 l2 0 c2) (by simp [results, Tryd.results90, go_sem]) rfl ?_
  exact ⟨rfl, bel_next (bel_alloc _ _) (bel_alloc _ _)⟩
set_option maxHeartbeats 2000000 in
theorem req_16 (pl : Int) (a1 : Option Addr) (l1 c1 : Nat) (w : World) :
    Calls Tryd.prog 91 #[.agg #[.int .i64 pl, .slice a1 l1 c1]] w fun e w' => e = .returned (rq 16 pl 0 0 a1 none l1 0 c1 0) ∧ Below w.heap.size w w' := by
  go_enter Tryd.func91, Tryd.ntmps91
  go_wp2
  refine bodyPost_ret (v := rq 16 pl 0 0 a1 none l1 0 c1 0) (by simp [results, Tryd.results91, go_sem]) rfl ?_
  exact ⟨rfl, bel_next (bel_alloc _ _) (bel_alloc _ _)⟩
set_option maxHeartbeats 2000000 in
theorem req_23 (pl nn wa : Int) (a1 : Option Addr) (l1 c1 : Nat) (w : World) :
    Calls Tryd.prog 93 #[.agg #[.int .i64 pl, .int .i64 nn, .int .i64 wa, .slice a1 l1 c1]] w fun e w' => e = .returned (rq 23 pl nn wa a1 none l1 0 c1 0) ∧ Below w.heap.size w w' := by
  go_enter Tryd.func93, Tryd.ntmps93
  go_wp2
  refine bodyPost_ret (v := rq 23 pl nn wa a1 none l1 0 c1 0) (by simp [results, Tryd.results93, go_sem]) rfl ?_
  exact ⟨rfl, bel_next (bel_alloc _ _) (bel_alloc _ _)⟩
end Go.Proofs.YtohikbpolofklaaDoor
namespace Go.Proofs.YtohikbpolofklaaDoor
open Go.RowKit
set_option linter.unusedVariables false
set_option linter.unusedSimpArgs false
theorem meth_1 (v : Value) (w : World) : (method 259 86 v "loop.example/g00129/impl.req").run Tryd.prog w = .ok (84, v) w := by kernel_rfl
theorem callf_1 (v : Value) (w : World) : (callFunc 84 #[v]).run Tryd.prog w = .ok (.enter 84 #[v]) w := by kernel_rfl
theorem meth_2 (v : Value) (w : World) : (method 259 87 v "loop.example/g00129/impl.req").run Tryd.prog w = .ok (85, v) w := by kernel_rfl
theorem callf_2 (v : Value) (w : World) : (callFunc 85 #[v]).run Tryd.prog w = .ok (.enter 85 #[v]) w := by kernel_rfl
theorem meth_3 (v : Value) (w : World) : (method 259 88 v "loop.example/g00129/impl.req").run Tryd.prog w = .ok (86, v) w := by kernel_rfl
theorem callf_3 (v : Value) (w : World) : (callFunc 86 #[v]).run Tryd.prog w = .ok (.enter 86 #[v]) w := by kernel_rfl
theorem meth_4 (v : Value) (w : World) : (method 259 89 v "loop.example/g00129/impl.req").run Tryd.prog w = .ok (87, v) w := by kernel_rfl
theorem callf_4 (v : Value) (w : World) : (callFunc 87 #[v]).run Tryd.prog w = .ok (.enter 87 #[v]) w := by kernel_rfl
theorem meth_5 (v : Value) (w : World) : (method 259 91 v "loop.example/g00129/impl.req").run Tryd.prog w = .ok (88, v) w := by kernel_rfl
theorem callf_5 (v : Value) (w : World) : (callFunc 88 #[v]).run Tryd.prog w = .ok (.enter 88 #[v]) w := by kernel_rfl
theorem meth_6 (v : Value) (w : World) : (method 259 93 v "loop.example/g00129/impl.req").run Tryd.prog w = .ok (89, v) w := by kernel_rfl
theorem callf_6 (v : Value) (w : World) : (callFunc 89 #[v]).run Tryd.prog w = .ok (.enter 89 #[v]) w := by kernel_rfl
theorem meth_15 (v : Value) (w : World) : (method 259 96 v "loop.example/g00129/impl.req").run Tryd.prog w = .ok (90, v) w := by kernel_rfl
theorem callf_15 (v : Value) (w : World) : (callFunc 90 #[v]).run Tryd.prog w = .ok (.enter 90 #[v]) w := by kernel_rfl
theorem meth_16 (v : Value) (w : World) : (method 259 98 v "loop.example/g00129/impl.req").run Tryd.prog w = .ok (91, v) w := by kernel_rfl
theorem callf_16 (v : Value) (w : World) : (callFunc 91 #[v]).run Tryd.prog w = .ok (.enter 91 #[v]) w := by kernel_rfl
theorem meth_22 (v : Value) (w : World) : (method 259 100 v "loop.example/g00129/impl.req").run Tryd.prog w = .ok (92, v) w := by kernel_rfl
theorem callf_22 (v : Value) (w : World) : (callFunc 92 #[v]).run Tryd.prog w = .ok (.enter 92 #[v]) w := by kernel_rfl
theorem meth_23 (v : Value) (w : World) : (method 259 102 v "loop.example/g00129/impl.req").run Tryd.prog w = .ok (93, v) w := by kernel_rfl
theorem callf_23 (v : Value) (w : World) : (callFunc 93 #[v]).run Tryd.prog w = .ok (.enter 93 #[v]) w := by kernel_rfl
theorem allW_one {ws : List Int} (h : ws.length = 1) : allW ws = inB (ws.getD 0 0) 0 65535 := by
  unfold allW inB
  rw [Bool.eq_iff_iff]
  simp only [decide_eq_true_eq]
  constructor
  · intro hh; exact hh 0 (by omega)
  · intro hh k hk
    obtain rfl : k = 0 := by omega
    exact hh
theorem allW_two {ws : List Int} (h : ws.length = 2) : allW ws = (inB (ws.getD 0 0) 0 65535 && inB (ws.getD 1 0) 0 65535) := by
  unfold allW inB
  rw [Bool.eq_iff_iff]
  simp only [decide_eq_true_eq, Bool.and_eq_true]
  constructor
  · intro hh; exact ⟨hh 0 (by omega), hh 1 (by omega)⟩
  · intro hh k hk
    obtain rfl | rfl : k = 0 ∨ k = 1 := by omega
    · exact hh.1
    · exact hh.2
theorem okI_1 (pl nn wa : Int) (ws : List Int) (l1 l2 : Nat) (h1 : l1 = ws.length) : okR 1 pl nn wa ws l1 l2 = (rnB pl nn 2000 && (decide (wa = 0) && (decide (l1 = 0) && (decide (l2 = 0))))) := by
  by_cases hl : l1 = 0
  · have hW : allW ws = true := allW_good (fun k hk => by omega)
    rw [Bool.eq_iff_iff]; simp [okR, okK, zrB, inB, fitB, rnB, hW, hl]; omega
  · rw [Bool.eq_iff_iff]; simp [okR, okK, zrB, hl]
theorem okI_2 (pl nn wa : Int) (ws : List Int) (l1 l2 : Nat) (h1 : l1 = ws.length) : okR 2 pl nn wa ws l1 l2 = (rnB pl nn 2000 && (decide (wa = 0) && (decide (l1 = 0) && (decide (l2 = 0))))) := by
  by_cases hl : l1 = 0
  · have hW : allW ws = true := allW_good (fun k hk => by omega)
    rw [Bool.eq_iff_iff]; simp [okR, okK, zrB, inB, fitB, rnB, hW, hl]; omega
  · rw [Bool.eq_iff_iff]; simp [okR, okK, zrB, hl]
theorem okI_3 (pl nn wa : Int) (ws : List Int) (l1 l2 : Nat) (h1 : l1 = ws.length) : okR 3 pl nn wa ws l1 l2 = (rnB pl nn 125 && (decide (wa = 0) && (decide (l1 = 0) && (decide (l2 = 0))))) := by
  by_cases hl : l1 = 0
  · have hW : allW ws = true := allW_good (fun k hk => by omega)
    rw [Bool.eq_iff_iff]; simp [okR, okK, zrB, inB, fitB, rnB, hW, hl]; omega
  · rw [Bool.eq_iff_iff]; simp [okR, okK, zrB, hl]
theorem okI_4 (pl nn wa : Int) (ws : List Int) (l1 l2 : Nat) (h1 : l1 = ws.length) : okR 4 pl nn wa ws l1 l2 = (rnB pl nn 125 && (decide (wa = 0) && (decide (l1 = 0) && (decide (l2 = 0))))) := by
  by_cases hl : l1 = 0
  · have hW : allW ws = true := allW_good (fun k hk => by omega)
    rw [Bool.eq_iff_iff]; simp [okR, okK, zrB, inB, fitB, rnB, hW, hl]; omega
  · rw [Bool.eq_iff_iff]; simp [okR, okK, zrB, hl]
theorem okI_5 (pl nn wa : Int) (ws : List Int) (l1 l2 : Nat) (h1 : l1 = ws.length) : okR 5 pl nn wa ws l1 l2 = (decide (l2 = 1) && (inB pl 0 65535 && (decide (nn = 0) && (decide (wa = 0) && (decide (l1 = 0)))))) := by
  by_cases hl : l1 = 0
  · have hW : allW ws = true := allW_good (fun k hk => by omega)
    rw [Bool.eq_iff_iff]; simp [okR, okK, zrB, inB, fitB, rnB, hW, hl]; omega
  · rw [Bool.eq_iff_iff]; simp [okR, okK, zrB, hl]
theorem okI_6 (pl nn wa : Int) (ws : List Int) (l1 l2 : Nat) (h1 : l1 = ws.length) : okR 6 pl nn wa ws l1 l2 = (decide (l1 = 1) && (inB pl 0 65535 && (inB (ws.getD 0 0) 0 65535 && (decide (nn = 0) && (decide (wa = 0) && (decide (l2 = 0))))))) := by
  by_cases hl : l1 = 1
  · rw [Bool.eq_iff_iff, okR, allW_one (by omega)]; simp [okR, okK, zrB, inB, fitB, rnB, hl]; omega
  · rw [Bool.eq_iff_iff]; simp [okR, okK, zrB, hl]
theorem okI_15 (pl nn wa : Int) (ws : List Int) (l1 l2 : Nat) (h1 : l1 = ws.length) : okR 15 pl nn wa ws l1 l2 = (rnB pl (l2 : Int) 1968 && (decide (nn = 0) && (decide (wa = 0) && (decide (l1 = 0))))) := by
  by_cases hl : l1 = 0
  · have hW : allW ws = true := allW_good (fun k hk => by omega)
    rw [Bool.eq_iff_iff]; simp [okR, okK, zrB, inB, fitB, rnB, hW, hl]; omega
  · rw [Bool.eq_iff_iff]; simp [okR, okK, zrB, hl]
theorem okI_16 (pl nn wa : Int) (ws : List Int) (l1 l2 : Nat) (h1 : l1 = ws.length) : okR 16 pl nn wa ws l1 l2 = (rnB pl (l1 : Int) 123 && (allW ws && (decide (nn = 0) && (decide (wa = 0) && (decide (l2 = 0)))))) := by
  cases hW : allW ws
  · simp [okR, hW]
  · rw [Bool.eq_iff_iff]; simp [okR, okK, zrB, inB, fitB, rnB, hW]; omega
theorem okI_22 (pl nn wa : Int) (ws : List Int) (l1 l2 : Nat) (h1 : l1 = ws.length) : okR 22 pl nn wa ws l1 l2 = (decide (l1 = 2) && (inB pl 0 65535 && (inB (ws.getD 0 0) 0 65535 && (inB (ws.getD 1 0) 0 65535 && (decide (nn = 0) && (decide (wa = 0) && (decide (l2 = 0)))))))) := by
  by_cases hl : l1 = 2
  · rw [Bool.eq_iff_iff, okR, allW_two (by omega)]; simp [okR, okK, zrB, inB, fitB, rnB, hl]; omega
  · rw [Bool.eq_iff_iff]; simp [okR, okK, zrB, hl]
theorem okI_23 (pl nn wa : Int) (ws : List Int) (l1 l2 : Nat) (h1 : l1 = ws.length) : okR 23 pl nn wa ws l1 l2 = (rnB pl nn 125 && (rnB wa (l1 : Int) 121 && (allW ws && (decide (l2 = 0))))) := by
  cases hW : allW ws
  · simp [okR, hW]
  · rw [Bool.eq_iff_iff]; simp [okR, okK, zrB, inB, fitB, rnB, hW]; omega
end Go.Proofs.YtohikbpolofklaaDoor
namespace Go.Proofs.YtohikbpolofklaaDoor
open Go.RowKit
set_option linter.unusedVariables false
set_option linter.unusedSimpArgs false
abbrev WfQ (kd pl nn wa : Int) (ws : List Int) : Prop := (∀ n ∈ ws, -9223372036854775808 ≤ n ∧ n ≤ 9223372036854775807) ∧ (Lit.int .i64 kd).wf = true ∧ (Lit.int .i64 pl).wf = true ∧ (Lit.int .i64 nn).wf = true ∧ (Lit.int .i64 wa).wf = true
theorem specReqOk_q (kd pl nn wa : Int) (a1 a2 : Option Addr) (l1 l2 c1 c2 : Nat) (ws : List Int) (bs : List Bool) (w : World) (h1 : l1 = ws.length) (h2 : l2 = bs.length) (s1 : SlI w a1 ws) (s2 : SlB w a2 bs) (hl1 : ws.length ≤ 2000000) (hl2 : bs.length ≤ 2000000) :
    Calls Tryd.prog 32 #[rq kd pl nn wa a1 a2 l1 l2 c1 c2] w fun e w' => e = .returned (.bool (okR kd pl nn wa ws l1 l2)) ∧ Below w.heap.size w w' :=
  specReqOk_any kd pl nn wa a1 a2 l1 l2 c1 c2 ws w h1 s1 hl1 (by omega) _ rfl
theorem okR_kind {kd pl nn wa : Int} {ws : List Int} {l1 l2 : Nat} (h : okR kd pl nn wa ws l1 l2 = true) : kd = 1 ∨ kd = 2 ∨ kd = 3 ∨ kd = 4 ∨ kd = 5 ∨ kd = 6 ∨ kd = 15 ∨ kd = 16 ∨ kd = 22 ∨ kd = 23 := by
  by_cases hk : kd = 1 ∨ kd = 2 ∨ kd = 3 ∨ kd = 4 ∨ kd = 5 ∨ kd = 6 ∨ kd = 15 ∨ kd = 16 ∨ kd = 22 ∨ kd = 23
  · exact hk
  · have e : okR kd pl nn wa ws l1 l2 = false := by
      have k1 : ¬ kd = 1 := by omega
      have k2 : ¬ kd = 2 := by omega
      have k3 : ¬ kd = 3 := by omega
      have k4 : ¬ kd = 4 := by omega
      have k5 : ¬ kd = 5 := by omega
      have k6 : ¬ kd = 6 := by omega
      have k7 : ¬ kd = 15 := by omega
      have k8 : ¬ kd = 16 := by omega
      have k9 : ¬ kd = 22 := by omega
      have k10 : ¬ kd = 23 := by omega
      simp [okR, okK, k1, k2, k3, k4, k5, k6, k7, k8, k9, k10]
    rw [e] at h
    cases h
def spcN (kd nn : Int) (l1 l2 : Nat) : Int := if kd = 5 ∨ kd = 15 then l2 else if kd = 6 ∨ kd = 22 then 1 else if kd = 16 then l1 else nn
def spc0 (kd : Int) : Int := if kd = 1 ∨ kd = 5 ∨ kd = 15 then 0 else if kd = 2 then 1 else if kd = 4 then 3 else 2
def spcV (b : Bool) (kd pl nn : Int) (l1 l2 : Nat) : Value := bif b then .tuple #[.int .i64 (spc0 kd), .int .i64 pl, .int .i64 (spcN kd nn l1 l2)] else .tuple #[.int .i64 (-1), .int .i64 0, .int .i64 0]
end Go.Proofs.YtohikbpolofklaaDoor
namespace Go.Proofs.YtohikbpolofklaaDoor
theorem i64_and_mask (n : Int) (k : Nat) (m : Int) (hm : (BitVec.ofInt 64 m).toNat = 2 ^ k - 1) (hk : k ≤ 62) : bits .and .i64 n m = n % ((2 ^ k : Nat) : Int) := by
  have key : (BitVec.ofInt 64 n &&& BitVec.ofInt 64 m).toNat = (n % ((2 ^ 64 : Nat) : Int)).toNat % 2 ^ k := by
    rw [BitVec.toNat_and, BitVec.toNat_ofInt, hm, Nat.and_two_pow_sub_one_eq_mod]
  show IntKind.i64.wrap ((BitVec.ofInt 64 n &&& BitVec.ofInt 64 m).toNat : Nat) = n % ((2 ^ k : Nat) : Int)
  have hlt : 2 ^ k ≤ 2 ^ 62 := Nat.pow_le_pow_right (by decide) hk
  have hpos : 0 < 2 ^ k := Nat.two_pow_pos k
  have e1 : (((n % ((2 ^ 64 : Nat) : Int)).toNat % 2 ^ k : Nat) : Int) = n % ((2 ^ k : Nat) : Int) := by
    have h0 : 0 ≤ n % ((2 ^ 64 : Nat) : Int) := Int.emod_nonneg _ (by decide)
    rw [Int.natCast_emod, Int.toNat_of_nonneg h0]
    refine Int.emod_emod_of_dvd n ?_
    exact Int.natCast_dvd_natCast.2 (Nat.pow_dvd_pow 2 (by omega))
  rw [key, e1, IntKind.wrap_i64]
  have h1 : 0 ≤ n % ((2 ^ k : Nat) : Int) := Int.emod_nonneg _ (by omega)
  have h2 : n % ((2 ^ k : Nat) : Int) < ((2 ^ k : Nat) : Int) := Int.emod_lt_of_pos _ (by omega)
  omega
theorem and16 (n : Int) : bits .and .i64 n 65535 = n % 65536 := i64_and_mask n 16 65535 (by decide) (by decide)
theorem wraps_i64' (n : Int) (h₀ : 0 ≤ n) (h₁ : n < 2 ^ 32) : IntKind.i64.wrap n = n := by rw [IntKind.wrap_i64]; omega
theorem or8 (x y : Int) (h0 : 0 ≤ x) (h1 : x ≤ 255) (h2 : 0 ≤ y) (h3 : y ≤ 255) : bits .or .i64 (x * 256) y = x * 256 + y :=
  bits_join .i64 32 (by decide) wraps_i64' 8 (x * 256) y (by omega) (by omega) (by omega) h2 (by omega) (by omega)
end Go.Proofs.YtohikbpolofklaaDoor
namespace Go.Proofs.YtohikbpolofklaaDoor
open Go.RowKit
theorem Sl.cellsAt {w : World} {ad : Addr} {zs : List Int} (h : Sl w (some ad) zs) : ∀ j u, (zs.map (Value.int .u8))[j]? = some u → w.cell? (ad.add j) = some u := by
  intro j u hu
  rcases h with h | ⟨b, off, ha, _, hc⟩
  · subst h; simp at hu
  · obtain rfl : ad = ⟨b, off, none⟩ := by simpa using ha
    have hj : j < zs.length := by
      have := (List.getElem?_eq_some_iff.1 hu).1
      simpa using this
    have e : Addr.add ⟨b, off, none⟩ j = ⟨b, off + j, none⟩ := by
      by_cases h0 : j = 0
      · subst h0; simp [Addr.add]
      · simp [Addr.add, h0]
    rw [e, hc j hj]
    rw [← hu]
    simp [hj]
theorem ones (zs : List Int) : ∀ u ∈ zs.map (Value.int .u8), u.oneCell' = true := ints_oneCell _ _
theorem two_cells {w1 : World} {x y : Int} : ∀ j u, ([Value.int .u8 x, Value.int .u8 y])[j]? = some u → (w1.alloc (.cells #[.int .u8 x, .int .u8 y] 5)).cell? ((⟨w1.heap.size, 0, none⟩ : Addr).add j) = some u := by
  intro j u hu
  match j, hu with
  | 0, hu => simp at hu; subst hu; simp [Addr.add]
  | 1, hu => simp at hu; subst hu; simp [Addr.add]
  | k + 2, hu => simp at hu
theorem two_ones (x y : Int) : ∀ u ∈ [Value.int .u8 x, Value.int .u8 y], u.oneCell' = true := by
  intro u hu; simp at hu; rcases hu with rfl | rfl <;> rfl
theorem own_end {W w1 w2 : World} {o1 : Obj} {v1 v2 : Value} {zs : List Int} {x y x' y' : Int} (hb : Below W.heap.size W w1) (hv1 : ∀ k, v1.ownBlock = some k → W.heap.size ≤ k)
    (h2 : w2.ownsRow W.heap.size 5 1 v2 (zs.length + 2) (zs.map (Value.int .u8) ++ [Value.int .u8 x, Value.int .u8 y])) (g2 : (w1.alloc o1).grownBy w2 v1.ownBlock) (ex : x = x') (ey : y = y') :
    Own w2 W.heap.size v2 (zs ++ [x', y']) ∧ Below W.heap.size W w2 := by
  subst ex ey
  refine ⟨by simpa [Own] using h2, ?_⟩
  exact (hb.alloc hb.size o1).grown g2 (by have := hb.size; simp; omega) hv1
set_option maxHeartbeats 1000000 in
theorem specPutWord_any (ad : Addr) (n cap : Nat) (zs : List Int) (x : Int) (w : World) (hn : n = zs.length) (hs : Sl w (some ad) zs) (hl : zs.length ≤ 2000000) :
    Calls Tryd.prog 41 #[.slice (some ad) n cap, .int .i64 x] w fun e w' => ∃ v, e = .returned v ∧ Own w' w.heap.size v (zs ++ [x / 256 % 256, x % 256]) ∧ Below w.heap.size w w' := by
  subst hn
  obtain ⟨i0, hi, hz0, hz1, hz2⟩ := info_parts Tryd.info5
  have hml : zs.length + 2 ≤ maxLen := by unfold maxLen; omega
  have o0 := World.ownsRow_lit (base := w.heap.size) (e := 5) (size := 1) w #[] 0 (Nat.le_refl _) (by omega) rfl
  have c0 := (hs.below ((Below.refl _ w).alloc (Nat.le_refl _) (.cells #[] 5))).cellsAt
  have ex : Hid (bits BinOp.and IntKind.i64 x 65535 / 256 % 256 = x / 256 % 256) := by rw [and16]; exact (by omega : x % 65536 / 256 % 256 = x / 256 % 256)
  have ey : Hid (bits BinOp.and IntKind.i64 x 65535 % 256 = x % 256) := by rw [and16]; exact (by omega : x % 65536 % 256 = x % 256)
  clear hs
  go_enter Tryd.func41, Tryd.ntmps41
  go_wp2_with (first | (at_builtin; refine wpList_append_own _ rfl (.tmp 7) (.tmp 8) 22 rfl w.heap.size 5 i0 (.int .u8 0) 1 1 Tryd.underlying22 hi hz0 hz1 hz2 rfl (by decide) (.slice (some ⟨w.heap.size, 0, none⟩) 0 0) 0 [] rfl o0 ad zs.length cap (zs.map (Value.int .u8)) rfl (by simp) c0 (ones zs) (by omega) (by omega) (by simp) ?_; intro v1 w1 o1 g1 _; simp only [Nat.zero_add, List.nil_append] at o1; have hb1 : Below w.heap.size w w1 := ((Below.refl _ w).alloc (Nat.le_refl _) (.cells #[] 5)).grown g1 (by simp) (fun k hk => by simp [Value.ownBlock] at hk; omega)) | (at_builtin; refine wpList_append_own _ rfl (.tmp 9) (.tmp 15) 22 rfl w.heap.size 5 i0 (.int .u8 0) 1 1 Tryd.underlying22 hi hz0 hz1 hz2 rfl (by decide) v1 zs.length (zs.map (Value.int .u8)) rfl (o1.alloc _) ⟨w1.heap.size, 0, none⟩ 2 2 [.int .u8 (bits BinOp.and IntKind.i64 x 65535 / 256 % 256), .int .u8 (bits BinOp.and IntKind.i64 x 65535 % 256)] rfl (by simp) two_cells (two_ones _ _) (by omega) (by omega) (by have := hb1.size; simp; omega) ?_; intro v2 w2 o2 g2 _))
  go_ret
  exact ⟨_, rfl, own_end hb1 (fun k hk => (o1.lt k hk).1) o2 g2 ex.out ey.out⟩
end Go.Proofs.YtohikbpolofklaaDoor
namespace Go.Proofs.YtohikbpolofklaaDoor
open Go.RowKit
def pv (bits : List Bool) : Nat → Nat → Int
  | 0, _ => 0
  | k + 1, j => if k / 8 = j ∧ bits.getD k false = true then pv bits k j + (2 ^ (k % 8) : Nat) else pv bits k j
theorem pv_bound (bs : List Bool) : ∀ k j, 0 ≤ pv bs k j ∧ (j < k / 8 → pv bs k j < 256) ∧ (j = k / 8 → pv bs k j < (2 ^ (k % 8) : Nat)) ∧ (k / 8 < j → pv bs k j = 0)
  | 0, j => by simp [pv]
  | k + 1, j => by
    obtain ⟨h0, h1, h2, h3⟩ := pv_bound bs k j
    have hp : (2 ^ (k % 8) : Nat) ≤ 128 ∧ 1 ≤ (2 ^ (k % 8) : Nat) := by
      have : k % 8 < 8 := Nat.mod_lt _ (by decide)
      generalize k % 8 = r at *
      match r, this with
      | 0, _ => decide
      | 1, _ => decide
      | 2, _ => decide
      | 3, _ => decide
      | 4, _ => decide
      | 5, _ => decide
      | 6, _ => decide
      | 7, _ => decide
    have key : pv bs (k + 1) j = pv bs k j ∨ (k / 8 = j ∧ pv bs (k + 1) j = pv bs k j + (2 ^ (k % 8) : Nat)) := by
      rw [pv]
      by_cases h : k / 8 = j ∧ bs.getD k false = true
      · right; rw [if_pos h]; exact ⟨h.1, rfl⟩
      · left; rw [if_neg h]
    by_cases hm : k % 8 = 7
    · have e1 : (k + 1) / 8 = k / 8 + 1 := by omega
      have e2 : (k + 1) % 8 = 0 := by omega
      have e3 : (2 ^ (k % 8) : Nat) = 128 := by rw [hm]
      rw [e1, e2]
      rcases key with hk | ⟨hj, hk⟩
      · rw [hk]; refine ⟨h0, fun h => ?_, fun h => ?_, fun h => h3 (by omega)⟩
        · by_cases hh : j = k / 8
          · have := h2 hh; omega
          · exact h1 (by omega)
        · rw [h3 (by omega)]; decide
      · rw [hk]; refine ⟨by omega, fun _ => by have := h2 hj.symm; omega, fun h => by omega, fun h => by omega⟩
    · have e1 : (k + 1) / 8 = k / 8 := by omega
      have e2 : (k + 1) % 8 = k % 8 + 1 := by omega
      have e3 : (2 ^ (k % 8 + 1) : Nat) = 2 * 2 ^ (k % 8) := by rw [Nat.pow_succ]; omega
      rw [e1, e2, e3]
      rcases key with hk | ⟨hj, hk⟩
      · rw [hk]; exact ⟨h0, h1, fun h => by have := h2 h; omega, h3⟩
      · rw [hk]; exact ⟨by omega, fun h => by omega, fun h => by have := h2 h; omega, fun h => by omega⟩
theorem or_bit : ∀ r : Nat, r < 8 → ∀ x : Nat, x < 2 ^ r → bits .or .u8 (x : Int) ((2 ^ r : Nat) : Int) = (x : Int) + ((2 ^ r : Nat) : Int) := by decide
theorem or_pv (bs : List Bool) (k : Nat) : bits .or .u8 (pv bs k (k / 8)) ((2 ^ (k % 8) : Nat) : Int) = pv bs k (k / 8) + ((2 ^ (k % 8) : Nat) : Int) := by
  obtain ⟨h0, _, h2, _⟩ := pv_bound bs k (k / 8)
  obtain ⟨x, hx⟩ := Int.eq_ofNat_of_zero_le h0
  have := h2 rfl
  rw [hx] at this ⊢
  exact or_bit (k % 8) (Nat.mod_lt _ (by decide)) x (by omega)
theorem two_pow8 (k : Nat) : (2 : Int) ^ (k % 8) % 256 = ((2 ^ (k % 8) : Nat) : Int) := by
  have : k % 8 < 8 := Nat.mod_lt _ (by decide)
  generalize k % 8 = r at *
  match r, this with
  | 0, _ => decide
  | 1, _ => decide
  | 2, _ => decide
  | 3, _ => decide
  | 4, _ => decide
  | 5, _ => decide
  | 6, _ => decide
  | 7, _ => decide
theorem pack_set {wr : World} {g m k : Nat} {t : TypeId} {bs : List Bool} (hrow : wr.rowIs g t m (fun i => .int .u8 (pv bs k i))) (hbit : bs.getD k false = true) :
    (wr.setCell ⟨g, k / 8, none⟩ (.int .u8 (bits BinOp.or IntKind.u8 (pv bs k (k / 8)) (2 ^ (k % 8) % 256)))).rowIs g t m (fun i => .int .u8 (pv bs (k + 1) i)) := by
  rw [two_pow8, or_pv]
  refine (hrow.set (k / 8) _).congr (fun i _ => ?_)
  by_cases e : i = k / 8
  · subst e; rw [if_pos rfl, pv, if_pos ⟨rfl, hbit⟩]
  · rw [if_neg e, pv, if_neg (fun h => e h.1.symm)]
set_option maxHeartbeats 2000000 in
theorem specPackBits_any (a : Option Addr) (n cap m : Nat) (bs : List Bool) (w : World) (hn : n = bs.length) (hm : m = (n + 7) / 8) (hs : SlB w a bs) (hl : n ≤ 2000000) :
    Calls Tryd.prog 44 #[.slice a n cap] w fun e w' => e = .returned (.slice (some ⟨w.heap.size, 0, none⟩) m m) ∧ w'.rowIs w.heap.size 5 m (fun i => .int .u8 (pv bs n i)) ∧ Below w.heap.size w w' := by
  have hmk := run_make_row' (P := Tryd.prog) 22 5 (.int .u8 0) 1 Tryd.underlying22 Tryd.info5 rfl .i64 .i64 m (by omega) (by omega)
  have hmi : ((n : Int) + 7) / 8 = (m : Int) := by omega
  have HN : Hid (n = bs.length) := hn
  have HMM : Hid (m = (n + 7) / 8) := hm
  clear hn hm
  go_enter Tryd.func44, Tryd.ntmps44
  go_wp2
  clear hmk
  go_loopw [4] (fun i wr => ∃ k : Nat, k ≤ n ∧ i = .int .i64 k ∧ wr.rowIs w.heap.size 5 m (fun i => .int .u8 (pv bs k i)) ∧ Below w.heap.size w wr) (fun i _ => n - (intOf i).toNat)
  case atStart => exact ⟨0, Nat.zero_le _, rfl, (World.rowIs_made w _ _ _).congr (fun i _ => by simp [pv]), (Below.refl _ _).alloc (Nat.le_refl _) _⟩
  case round =>
    obtain ⟨k, hk, rfl, hrow, hb⟩ := hrel
    by_cases hlt : k < n
    · obtain ⟨b, off, rfl, hb0, hc0⟩ := cell_atB hs (k := k) (by have := HN.out; omega)
      have hc : wr.cell? ⟨b, off + k, none⟩ = some (.bool (bs.getD k false)) := by rw [hb.cell (p := ⟨b, off + k, none⟩) hb0]; exact hc0
      have hi : (k : Int) < (n : Int) := by omega
      have hd : k / 8 < m := by have := HMM.out; omega
      have hst := hrow.cell hd
      have hfz := hrow.frozen (k / 8)
      by_cases hbit : bs.getD k false = true
      · rw [hbit] at hc
        have R : Hid ((wr.setCell ⟨w.heap.size, k / 8, none⟩ (.int .u8 (bits BinOp.or IntKind.u8 (pv bs k (k / 8)) (2 ^ (k % 8) % 256)))).rowIs w.heap.size 5 m (fun i => .int .u8 (pv bs (k + 1) i))) := pack_set hrow hbit
        have B1 : Hid (Below w.heap.size w (wr.setCell ⟨w.heap.size, k / 8, none⟩ (.int .u8 (bits BinOp.or IntKind.u8 (pv bs k (k / 8)) (2 ^ (k % 8) % 256))))) := hb.setCell (Nat.le_refl _) _
        clear hc0 hs hrow hb
        go_wp2
        go_roundw
        case rel => exact ⟨k + 1, by omega, by go_num, R.out, B1.out⟩
        case measure => simp [intOf]; omega
      · have hbit' : bs.getD k false = false := by simpa using hbit
        rw [hbit'] at hc
        have R : Hid (wr.rowIs w.heap.size 5 m (fun i => .int .u8 (pv bs (k + 1) i))) := hrow.congr (fun i _ => by rw [pv, if_neg (fun h => hbit h.2)])
        clear hrow hc0 hs hst hfz
        go_wp2
        go_roundw
        case rel => exact ⟨k + 1, by omega, by go_num, R.out, hb⟩
        case measure => simp [intOf]; omega
    · obtain rfl : k = n := by omega
      have R : Hid (wr.rowIs w.heap.size 5 m (fun i => .int .u8 (pv bs k i))) := hrow
      clear hrow hs
      go_wp2
      go_ret
      exact ⟨rfl, R.out, hb⟩
set_option maxHeartbeats 1000000 in
theorem bytesFor_any (x : Int) (w : World) (h0 : 0 ≤ x) (h1 : x ≤ 9223372036854775807) :
    Calls Tryd.prog 65 #[.int .i64 x] w fun e w' => e = .returned (.int .i64 ((x + 7) / 8)) ∧ w' = w := by
  by_cases h : x % 8 = 0
  · have e : (x + 7) / 8 = x / 8 := by omega
    rw [e]
    have h' : (x % 8 == 0) = true := by simp [h]
    clear e
    go_enter Tryd.func65, Tryd.ntmps65
    go_wp2
    go_ret
    exact ⟨rfl, rfl⟩
  · have e : (x + 7) / 8 = x / 8 + 1 := by omega
    rw [e]
    have h' : (x % 8 == 0) = false := by simp [h]
    clear e
    go_enter Tryd.func65, Tryd.ntmps65
    go_wp2
    go_ret
    exact ⟨rfl, rfl⟩
set_option maxHeartbeats 2000000 in
theorem implPackBits_any (a : Option Addr) (n cap m : Nat) (bs : List Bool) (w : World) (hn : n = bs.length) (hm : m = (n + 7) / 8) (hs : SlB w a bs) (hl : n ≤ 2000000) :
    Calls Tryd.prog 61 #[.slice a n cap] w fun e w' => e = .returned (.slice (some ⟨w.heap.size, 0, none⟩) m m) ∧ w'.rowIs w.heap.size 5 m (fun i => .int .u8 (pv bs n i)) ∧ Below w.heap.size w w' := by
  have hmk := run_make_row' (P := Tryd.prog) 22 5 (.int .u8 0) 1 Tryd.underlying22 Tryd.info5 rfl .i64 .i64 m (by omega) (by omega)
  have hmi : ((n : Int) + 7) / 8 = (m : Int) := by omega
  have HN : Hid (n = bs.length) := hn
  have HMM : Hid (m = (n + 7) / 8) := hm
  clear hn hm
  go_enter Tryd.func61, Tryd.ntmps61
  go_wp2_with fail
  refine (bytesFor_any _ _ (by omega) (by omega)).mono ?_
  rintro e w1 ⟨rfl, e1⟩
  subst e1
  rw [hmi]
  go_wp2
  clear hmk
  go_loopw [12] (fun i wr => ∃ k : Nat, k ≤ n ∧ i = .int .i64 k ∧ wr.rowIs w1.heap.size 5 m (fun i => .int .u8 (pv bs k i)) ∧ Below w1.heap.size w1 wr) (fun i _ => n - (intOf i).toNat)
  case atStart => exact ⟨0, Nat.zero_le _, rfl, (World.rowIs_made w1 _ _ _).congr (fun i _ => by simp [pv]), (Below.refl _ _).alloc (Nat.le_refl _) _⟩
  case round =>
    obtain ⟨k, hk, rfl, hrow, hb⟩ := hrel
    by_cases hlt : k < n
    · obtain ⟨b, off, rfl, hb0, hc0⟩ := cell_atB hs (k := k) (by have := HN.out; omega)
      have hc : wr.cell? ⟨b, off + k, none⟩ = some (.bool (bs.getD k false)) := by rw [hb.cell (p := ⟨b, off + k, none⟩) hb0]; exact hc0
      have hi : (k : Int) < (n : Int) := by omega
      have hd : k / 8 < m := by have := HMM.out; omega
      have hst := hrow.cell hd
      have hfz := hrow.frozen (k / 8)
      by_cases hbit : bs.getD k false = true
      · rw [hbit] at hc
        have R : Hid ((wr.setCell ⟨w1.heap.size, k / 8, none⟩ (.int .u8 (bits BinOp.or IntKind.u8 (pv bs k (k / 8)) (2 ^ (k % 8) % 256)))).rowIs w1.heap.size 5 m (fun i => .int .u8 (pv bs (k + 1) i))) := pack_set hrow hbit
        have B1 : Hid (Below w1.heap.size w1 (wr.setCell ⟨w1.heap.size, k / 8, none⟩ (.int .u8 (bits BinOp.or IntKind.u8 (pv bs k (k / 8)) (2 ^ (k % 8) % 256))))) := hb.setCell (Nat.le_refl _) _
        clear hc0 hs hrow hb
        go_wp2_with fail
        go_region
        go_wp2
        go_roundw
        case rel => exact ⟨k + 1, by omega, by go_num, R.out, B1.out.drew⟩
        case measure => simp [intOf]; omega
      · have hbit' : bs.getD k false = false := by simpa using hbit
        rw [hbit'] at hc
        have R : Hid (wr.rowIs w1.heap.size 5 m (fun i => .int .u8 (pv bs (k + 1) i))) := hrow.congr (fun i _ => by rw [pv, if_neg (fun h => hbit h.2)])
        clear hrow hc0 hs hst hfz
        go_wp2
        go_roundw
        case rel => exact ⟨k + 1, by omega, by go_num, R.out, hb⟩
        case measure => simp [intOf]; omega
    · obtain rfl : k = n := by omega
      have R : Hid (wr.rowIs w1.heap.size 5 m (fun i => .int .u8 (pv bs k i))) := hrow
      clear hrow hs
      go_wp2
      go_ret
      exact ⟨rfl, R.out, hb⟩
end Go.Proofs.YtohikbpolofklaaDoor
namespace Go.Proofs.YtohikbpolofklaaDoor
open Go.RowKit
def marksF (s n : Nat) : List Int := (List.range n).map (fun i : Nat => ((s : Int) + (i : Int)) % 256)
theorem marksF_length (s n : Nat) : (marksF s n).length = n := by simp [marksF]
theorem marksF_get (s n i : Nat) (h : i < n) : (marksF s n).getD i 0 = ((s : Int) + (i : Int)) % 256 := by simp [marksF, h]
def MarkedF (s : Nat) (w wr : World) (g cap k : Nat) : Prop :=
  w.grownBy wr (some g) ∧ ∃ cur, wr.heap[g]? = some (.cells cur 5 (0, 0)) ∧ cur.size = cap ∧ ∀ i, i < k → cur[i]? = some (.int .u8 (((s : Int) + (i : Int)) % 256))
theorem markedF_step {w wr : World} {s g cap k : Nat} (h : MarkedF s w wr g cap k) (hk : k < cap) : MarkedF s w (wr.setCell ⟨g, k, none⟩ (.int .u8 (((s : Int) + (k : Int)) % 256))) g cap (k + 1) := by
  obtain ⟨hg, cur, hh, hs, hc⟩ := h
  refine ⟨⟨hg.os, hg.tape, hg.output, by simpa [World.setCell] using hg.size, fun j hj hne => ?_⟩, cur.setIfInBounds k (.int .u8 (((s : Int) + (k : Int)) % 256)), by simp [World.setCell, Array.getElem?_modify, hh], by simpa using hs, fun i hi => ?_⟩
  · rw [Below.heap_setCell _ _ _ _ (fun e => hne (by simpa using e))]; exact hg.block j hj hne
  · rw [Array.getElem?_setIfInBounds]
    by_cases e : i = k
    · subst e; rw [if_pos rfl, if_pos (by omega)]
    · rw [if_neg (fun h => e h.symm)]; exact hc i (by omega)
theorem markedF_cell {w wr : World} {s g cap k : Nat} (h : MarkedF s w wr g cap k) (hk : k < cap) : (∃ v, wr.cell? ⟨g, k, none⟩ = some v) ∧ wr.frozen? ⟨g, k, none⟩ = false := by
  obtain ⟨_, cur, hh, hs, _⟩ := h
  refine ⟨⟨cur[k]'(by omega), ?_⟩, by simp [World.frozen?, hh]⟩
  simp [World.cell?, hh, hs, hk]
theorem markedF_done {w wr : World} {s base g n cap : Nat} (h : MarkedF s w wr g cap n) (hb : base ≤ g) (hn : n ≤ cap) (hm : cap ≤ maxLen) : Own wr base (.slice (some ⟨g, 0, none⟩) n cap) (marksF s n) := by
  obtain ⟨_, cur, hh, hs, hc⟩ := h
  refine ⟨by simp, .inr ⟨g, cap, cur, by rw [marksF_length], hb, hh, by rw [marksF_length]; exact hn, hm, by simpa using hs, ?_⟩⟩
  rw [marksF_length, Nat.mul_one]
  apply List.ext_getElem?
  intro i
  by_cases hi : i < n
  · rw [List.getElem?_take, if_pos hi, Array.getElem?_toList, hc i hi]
    simp [marksF, hi]
  · rw [List.getElem?_eq_none (by simp; omega), List.getElem?_eq_none (by simp [marksF]; omega)]
set_option maxHeartbeats 1000000 in
theorem markByteS_from (a : Option Addr) (n cap base s : Nat) (zs : List Int) (w : World) (h : Own w base (.slice a n cap) zs) (hl : n ≤ 3000000) (hs' : s ≤ 9000000) :
    Calls Tryd.prog 13 #[.slice a n cap, .int .i64 (s : Int)] w fun e w' => e = .returned (.int .i64 ((s : Int) + (n : Int))) ∧ Own w' base (.slice a n cap) (marksF s n) ∧ w.grownBy w' (Value.slice a n cap).ownBlock := by
  by_cases h0 : n = 0
  · subst h0
    have e : zs = [] := List.eq_nil_of_length_eq_zero h.sl.1.symm
    subst e
    have h' : Own w base (.slice a 0 cap) (marksF s 0) := h
    go_enter Tryd.func13, Tryd.ntmps13
    go_wp2
    refine wp_loop_rounds 1 ?_
    rw [rounds_succ]
    go_wp2
    go_ret
    exact ⟨by simp, h', World.grownBy.refl _ _⟩
  · obtain ⟨g, cur, rfl, hb, hgl, hh, hle, hm, hs⟩ := h.cells (by omega)
    have M0 : MarkedF s w w g cap 0 := ⟨World.grownBy.refl _ _, cur, hh, hs, fun i hi => absurd hi (Nat.not_lt_zero _)⟩
    clear hh h
    go_enter Tryd.func13, Tryd.ntmps13
    go_wp2
    go_loopw [1, 5] (fun kk i wr => ∃ k : Nat, k ≤ n ∧ i = .int .i64 k ∧ kk = .int .i64 ((s : Int) + (k : Int)) ∧ MarkedF s w wr g cap k) (fun _ i _ => n - (intOf i).toNat)
    case atStart => exact ⟨0, Nat.zero_le _, rfl, by simp, M0⟩
    case round =>
      obtain ⟨k, hk, rfl, rfl, hM⟩ := hrel
      by_cases hlt : k < n
      · obtain ⟨⟨v, hc⟩, hf⟩ := markedF_cell hM (by omega)
        have hM1 := markedF_step hM (by omega)
        have hi : (k : Int) < (n : Int) := by omega
        clear hM M0
        go_wp2
        go_roundw
        case rel => exact ⟨k + 1, by omega, by go_num, by go_num, hM1⟩
        case measure => simp [intOf]; omega
      · obtain rfl : k = n := by omega
        have hD := markedF_done hM hb hle hm
        have hG : Hid (w.grownBy wr (some g)) := hM.1
        clear hM M0
        go_wp2
        go_ret
        exact ⟨rfl, hD, hG.out⟩
set_option maxHeartbeats 1000000 in
theorem heldByteS_from (a : Option Addr) (n cap s : Nat) (w : World) (hs : Sl w a (marksF s n)) (hl : n ≤ 3000000) (hs' : s ≤ 9000000) :
    Calls Tryd.prog 15 #[.slice a n cap, .int .i64 (s : Int)] w fun e w' => e = .returned (.int .i64 ((s : Int) + (n : Int))) ∧ w' = w := by
  have ml := marksF_length s n
  go_enter Tryd.func15, Tryd.ntmps15
  go_wp2
  go_loop [1, 5] (fun kk i => ∃ k : Nat, k ≤ n ∧ i = .int .i64 k ∧ kk = .int .i64 ((s : Int) + (k : Int))) (fun _ i => n - (intOf i).toNat)
  case atStart => exact ⟨0, Nat.zero_le _, rfl, by simp⟩
  case round =>
    obtain ⟨k, hk, rfl, rfl⟩ := hrel
    by_cases hlt : k < n
    · obtain ⟨b, off, rfl, _, hc⟩ := cell_at hs (k := k) (by omega)
      rw [marksF_get s n k hlt] at hc
      have hi : (k : Int) < (n : Int) := by omega
      clear hs ml
      go_wp2
      go_round
      case rel => exact ⟨k + 1, by omega, by go_num, by go_num⟩
      case measure => simp [intOf]; omega
    · obtain rfl : k = n := by omega
      clear hs ml
      go_wp2
      go_ret
      exact ⟨rfl, rfl⟩
end Go.Proofs.YtohikbpolofklaaDoor
namespace Go.Proofs.YtohikbpolofklaaDoor
open Go.RowKit
set_option linter.unusedVariables false
set_option linter.unusedSimpArgs false
def wb (x : Int) : List Int := [x / 256 % 256, x % 256]
def wbs : List Int → List Int
  | [] => []
  | x :: r => x / 256 % 256 :: x % 256 :: wbs r
theorem wbs_length (ws : List Int) : (wbs ws).length = 2 * ws.length := by
  induction ws with
  | nil => rfl
  | cons x r ih => simp [wbs, ih]; omega
theorem wbs_snoc (ws : List Int) (x : Int) : wbs (ws ++ [x]) = wbs ws ++ [x / 256 % 256, x % 256] := by
  induction ws with
  | nil => rfl
  | cons y r ih => simp [wbs, ih]
theorem take_snoc {ws : List Int} {k : Nat} (h : k < ws.length) : ws.take (k + 1) = ws.take k ++ [ws.getD k 0] := by
  rw [List.take_add_one]; simp [h]
theorem wbs_step (ws : List Int) (k : Nat) (h : k < ws.length) : wbs (ws.take (k + 1)) = wbs (ws.take k) ++ [ws.getD k 0 / 256 % 256, ws.getD k 0 % 256] := by
  rw [take_snoc h, wbs_snoc]
def Nw (w w' : World) (e : Ending) (zs : List Int) : Prop :=
  ∃ g c n, e = .returned (.slice (some ⟨g, 0, none⟩) n c) ∧ n = zs.length ∧ Own w' w.heap.size (.slice (some ⟨g, 0, none⟩) n c) zs ∧ Below w.heap.size w w'
theorem own_some {w : World} {base : Nat} {v : Value} {zs : List Int} (h : Own w base v zs) (hp : 0 < zs.length) : ∃ g c, v = .slice (some ⟨g, 0, none⟩) zs.length c ∧ base ≤ g ∧ g < w.heap.size := by
  have hl := fun k e => World.ownsRow.lt h k e
  obtain ⟨_, h2⟩ := h
  rcases h2 with ⟨hv, h3⟩ | ⟨g, cap, cur, hv, hg, hh, _⟩
  · simp at h3; subst h3; simp at hp
  · exact ⟨g, cap, hv, hg, (hl g (by rw [hv]; rfl)).2⟩
theorem wpList_app {w : World} {ops : Array Oper} {rest : List Oper} {o : Oper} {a : Act} {Q : Exit → Act → World → Prop} (hgd : o.guard = none) (s x : Operand)
    (ho : o.op = .call { callee := .builtin .append, args := #[s, x], argTypes := #[22, 22] }) (base : Nat) (v : Value) (zs : List Int) (hs : a.eval s = v) (hown : Own w base v zs)
    (ad : Addr) (m c : Nat) (ys : List Int) (hx : a.eval x = .slice (some ad) m c) (hm : m = ys.length) (hsl : Sl w (some ad) ys) (hlen : zs.length + ys.length ≤ 4000000) (hbase : base ≤ w.heap.size)
    (h : ∀ v' w', Own w' base v' (zs ++ ys) → w.grownBy w' v.ownBlock → wpList Tryd.prog ops Q rest (a.put o.dst v') w') : wpList Tryd.prog ops Q (o :: rest) a w := by
  obtain ⟨i0, hi, hz0, hz1, hz2⟩ := info_parts Tryd.info5
  subst hm
  refine wpList_append_own w hgd s x 22 ho base 5 i0 (.int .u8 0) 1 1 Tryd.underlying22 hi hz0 hz1 hz2 rfl (by decide) v zs.length (zs.map (Value.int .u8)) hs hown ad ys.length c (ys.map (Value.int .u8)) hx (by simp) hsl.cellsAt (ones ys) (by unfold maxLen; omega) (by omega) hbase ?_
  intro v' w' h1 h2 _
  exact h v' w' (by simpa [Own] using h1) h2
theorem sl_lit1 (w : World) (x : Int) {g : Nat} (hg : g = w.heap.size) : Sl (w.alloc (.cells #[.int .u8 x] 5)) (some ⟨g, 0, none⟩) [x] := hg ▸
  .inr ⟨_, 0, rfl, by simp, fun i hi => by
    have : i = 0 := by simp at hi; omega
    subst this; simp⟩
theorem sl_lit2 (w : World) (x y : Int) {g : Nat} (hg : g = w.heap.size) : Sl (w.alloc (.cells #[.int .u8 x, .int .u8 y] 5)) (some ⟨g, 0, none⟩) [x, y] := hg ▸
  .inr ⟨_, 0, rfl, by simp, fun i hi => by
    have : i = 0 ∨ i = 1 := by simp at hi; omega
    rcases this with rfl | rfl <;> simp⟩
theorem own_lit1 (w : World) (x : Int) (B : Nat) (hB : B ≤ w.heap.size) : Own (w.alloc (.cells #[.int .u8 x] 5)) B (.slice (some ⟨w.heap.size, 0, none⟩) 1 1) [x] := by
  refine ⟨by simp, .inr ⟨w.heap.size, 1, #[.int .u8 x], rfl, hB, ?_, by simp, by unfold maxLen; omega, by simp, by simp⟩⟩
  show (w.heap.push (.cells #[.int .u8 x] 5 (0, 0)))[w.heap.size]? = _
  simp
theorem own_zero {w : World} {g cap : Nat} {cur : Array Value} {B : Nat} (hB : B ≤ g) (hh : w.heap[g]? = some (.cells cur 5 (0, 0))) (hc : cur.size = cap) (hm : cap ≤ maxLen) : Own w B (.slice (some ⟨g, 0, none⟩) 0 cap) [] :=
  ⟨by simp, .inr ⟨g, cap, cur, rfl, hB, hh, by simp, hm, by simp [hc], by simp⟩⟩
theorem bel_grown {B : Nat} {w0 w w' : World} {base : Nat} {v : Value} {zs : List Int} (hb : Below B w0 w) (h : Own w base v zs) (hg : w.grownBy w' v.ownBlock) (h1 : B ≤ base) (h2 : B ≤ w.heap.size) : Below B w0 w' := below_own hb h hg h1 h2
set_option maxHeartbeats 2000000 in
theorem wordBytes_any (a : Option Addr) (n cap : Nat) (ws : List Int) (w : World) (hn : n = ws.length) (hs : SlI w a ws) (hl : ws.length ≤ 1000000) (hp : 0 < ws.length) :
    Calls Tryd.prog 62 #[.slice a n cap] w fun e w' => Nw w w' e (wbs ws) := by
  subst hn
  obtain ⟨i0, hi, hz0, hz1, hz2⟩ := info_parts Tryd.info5
  have hml : 2 * ws.length + 2 ≤ maxLen := by unfold maxLen; omega
  have HP : Hid (0 < ws.length) := hp
  clear hp
  go_enter Tryd.func62, Tryd.ntmps62
  go_wp2_with (at_make; refine wpList_make_own _ rfl (.const (.int .i64 0)) (.tmp 8) 22 rfl w.heap.size 5 i0 (.int .u8 0) 1 Tryd.underlying22 hi hz0 hz1 .i64 .i64 (2 * (ws.length : Int)) (2 * ws.length) rfl rfl (by omega) (by rw [hz2]; omega) (by omega) (Nat.le_refl _) ?_; intro w0 o0 g0)
  have hb0 : Below w.heap.size w w0 := (Below.refl _ w).grown g0 (Nat.le_refl _) (fun k hk => by cases hk)
  go_loopw [3, 12] (fun v i wr => ∃ k : Nat, k ≤ ws.length ∧ i = .int .i64 k ∧ Own wr w.heap.size v (wbs (ws.take k)) ∧ Below w.heap.size w wr) (fun _ i _ => ws.length - (intOf i).toNat)
  case atStart => exact ⟨0, Nat.zero_le _, rfl, o0, hb0⟩
  case round =>
    obtain ⟨k, hk, rfl, ho, hb⟩ := hrel
    by_cases hlt : k < ws.length
    · obtain ⟨b, off, rfl, hbl, hc0⟩ := cell_atI hs hlt
      have hc : wr.cell? ⟨b, off + k, none⟩ = some (.int .i64 (ws.getD k 0)) := by rw [hb.cell (p := ⟨b, off + k, none⟩) hbl]; exact hc0
      have HS : Hid (wbs (ws.take (k + 1)) = wbs (ws.take k) ++ [ws.getD k 0 / 256 % 256, ws.getD k 0 % 256]) := wbs_step ws k hlt
      have HLn : Hid ((wbs (ws.take k)).length + 2 ≤ 4000000) := by show (wbs (ws.take k)).length + 2 ≤ 4000000; rw [wbs_length, List.length_take]; omega
      generalize ws.getD k 0 = z at *
      have hi' : (k : Int) < (ws.length : Int) := by omega
      clear hc0 hs hb0 g0 o0
      go_wp2_with (at_builtin; refine wpList_app rfl (.tmp 16) (.tmp 22) rfl w.heap.size u3 (wbs (ws.take k)) rfl (ho.below (bel_alloc _ _)) ⟨wr.heap.size, 0, none⟩ 2 2 [z / 256 % 256, z % 256] rfl rfl (sl_lit2 _ _ _ rfl) HLn.out (by have := hb.size; simp; omega) ?_; intro v' w1 o1 g1; have hb1 : Below w.heap.size w w1 := bel_grown (bel_next hb (bel_alloc _ _)) (ho.below (bel_alloc _ _)) g1 (Nat.le_refl _) (by have := hb.size; simp; omega); rw [← HS.out] at o1; clear ho hb g1)
      go_roundw
      case rel => first | exact ⟨k + 1, by omega, by go_num, o1, hb1⟩ | exact ⟨_, _, _, ⟨k + 1, by omega, by go_num, o1, hb1⟩, rfl, rfl, rfl⟩
      case measure => simp [intOf]; omega
    · have e : ws.take k = ws := List.take_of_length_le (by omega)
      rw [e] at ho
      obtain ⟨g, c, hv, hg, hgl⟩ := own_some ho (by rw [wbs_length]; have := HP.out; omega)
      subst hv
      have R : Nw w wr (.returned (.slice (some ⟨g, 0, none⟩) (wbs ws).length c)) (wbs ws) := ⟨g, c, _, rfl, rfl, ho, hb⟩
      clear hs hb0 g0 o0 ho hb e
      go_wp2
      go_ret
      exact R
set_option maxHeartbeats 2000000 in
theorem putKind_any (kd : Int) (a : Option Addr) (n cap : Nat) (ws : List Int) (w : World) (hn : n = ws.length) (hs : SlI w a ws) (hl : ws.length ≤ 1000000) (hp : 0 < ws.length) :
    Calls Tryd.prog 58 #[.int .i64 kd, .slice a n cap] w fun e w' => Nw w w' e (kd % 256 :: wbs ws) := by
  have B0 := bel_alloc w (.cells #[.int .u8 (kd % 256)] 5)
  have o0 := own_lit1 w (kd % 256) w.heap.size (Nat.le_refl _)
  have H : Hid (n = ws.length ∧ SlI (w.alloc (.cells #[.int .u8 (kd % 256)] 5)) a ws ∧ ws.length ≤ 1000000 ∧ 0 < ws.length) := ⟨hn, hs.below B0, hl, hp⟩
  clear hn hs hl hp
  go_enter Tryd.func58, Tryd.ntmps58
  go_wp2_with fail
  refine (wordBytes_any _ _ _ ws _ H.out.1 H.out.2.1 H.out.2.2.1 H.out.2.2.2).mono ?_
  rintro e w1 ⟨g, c, m, rfl, hm, o1, b1'⟩
  have B1 := bel_next B0 b1'
  have o0' := o0.below b1'
  have HM : Hid (m = (wbs ws).length) := hm
  have hs1 := o1.sl.2
  have HLn : Hid ([kd % 256].length + (wbs ws).length ≤ 4000000) := by show [kd % 256].length + (wbs ws).length ≤ 4000000; rw [wbs_length]; have := H.out.2.2.1; simp; omega
  clear hm o0 b1' o1 B0
  go_wp2_with (at_builtin; refine wpList_app rfl (.tmp 7) (.tmp 9) rfl w.heap.size (.slice (some ⟨w.heap.size, 0, none⟩) 1 1) [kd % 256] rfl o0' ⟨g, 0, none⟩ m c (wbs ws) rfl HM.out hs1 HLn.out B1.size ?_; intro v' w2 o2 g2; have B2 : Below w.heap.size w w2 := bel_grown B1 o0' g2 (Nat.le_refl _) B1.size; obtain ⟨g', c', hv, _, _⟩ := own_some o2 (by simp); subst hv; have R : Nw w w2 (.returned (.slice (some ⟨g', 0, none⟩) ([kd % 256] ++ wbs ws).length c')) (kd % 256 :: wbs ws) := ⟨g', c', _, rfl, rfl, o2, B2⟩; clear o2 g2 o0' hs1)
  go_ret
  exact R
set_option maxHeartbeats 1000000 in
theorem coilWord_any (x : Bool) (w : World) : Calls Tryd.prog 59 #[.bool x] w fun e w' => e = .returned (.int .i64 (bif x then 65280 else 0)) ∧ w' = w := by
  cases x
  · go_enter Tryd.func59, Tryd.ntmps59
    go_wp2
    go_ret
    exact ⟨rfl, rfl⟩
  · go_enter Tryd.func59, Tryd.ntmps59
    go_wp2
    go_ret
    exact ⟨rfl, rfl⟩
end Go.Proofs.YtohikbpolofklaaDoor
namespace Go.Proofs.YtohikbpolofklaaDoor
open Go.RowKit
set_option linter.unusedVariables false
set_option linter.unusedSimpArgs false
set_option maxHeartbeats 4000000 in
theorem grow_nil (x : Int) (n : Nat) (w : World) (hx : x = (n : Int)) (h0 : 0 < n) (hl : n ≤ 4000000) :
    Calls Tryd.prog 66 #[.slice none 0 0, .int .i64 x] w fun e w' => ∃ g G, e = .returned (.slice (some ⟨g, 0, none⟩) 0 G) ∧ Own w' w.heap.size (.slice (some ⟨g, 0, none⟩) 0 G) [] ∧ Below w.heap.size w w' := by
  subst hx
  obtain ⟨i0, hi, hz0, hz1, hz2⟩ := info_parts Tryd.info5
  have hold : (Builtin.firstCells i0.size 0 (.slice none 0 0)).run Tryd.prog w.drew = .ok ([] : List Value).toArray w.drew := run_firstCells_none w.drew i0.size 0 0 0
  have h := Lib.run_append_grow_zeros w 22 3 22 5 i0 (.int .u8 0) .i64 .i64 Tryd.underlying22 Tryd.underlying3 hi hz0 none 0 0 [] hold n h0 (by omega) (by omega) (by omega) (by rw [hz2]; omega)
    (growslice_fits (by omega) (by rw [hz2]; omega))
  have hG0 := grownCap_ge w (0 + n) 0 5
  have hG1 := grownCap_le_maxLen w (0 + n) 0 5 (by unfold maxLen; omega)
  obtain ⟨G, hG⟩ : ∃ G, G = grownCap w (0 + n) 0 5 := ⟨_, rfl⟩
  rw [← hG] at h hG0 hG1
  clear hold hG
  obtain ⟨cur, hcur⟩ : ∃ cur, cur = ([] : List Value).toArray ++ Builtin.zeroCells (Value.int IntKind.u8 0).cells n ++ Builtin.zeroCells (Value.int IntKind.u8 0).cells (G - (0 + n)) := ⟨_, rfl⟩
  have hsz : cur.size = G := by rw [hcur]; simp [Builtin.zeroCells, Value.cells]; omega
  rw [← hcur] at h
  have hh : (w.drew.alloc (.cells cur 5)).heap[w.heap.size]? = some (.cells cur 5 (0, 0)) := Blk.new w.drew cur 5
  have B1 : Below w.heap.size w (w.drew.alloc (.cells cur 5)) := (Below.refl _ w).drew.alloc (Nat.le_refl _) _
  have ho := own_zero (B := w.heap.size) (Nat.le_refl _) hh hsz hG1
  generalize w.drew.alloc (.cells cur 5) = w1 at *
  have h1 : ¬ ((n : Int) < 0) := by omega
  have h4 : (n : Int) > 0 := by omega
  have hz : 0 + n = n := Nat.zero_add n
  rw [hz] at h hG0
  clear hcur hsz hh hz
  go_enter Tryd.func66, Tryd.ntmps66
  go_wp2_with (at_builtin; refine Lib.wpList_append_run _ rfl _ _ _ _ rfl _ _ rfl rfl _ _ h ?_)
  go_ret
  exact ⟨_, _, rfl, ho, B1⟩
theorem own_some' {w : World} {base : Nat} {v : Value} {zs : List Int} (h : Own w base v zs) (hp : 0 < zs.length) : ∃ g c n, v = .slice (some ⟨g, 0, none⟩) n c ∧ n = zs.length := by
  obtain ⟨g, c, hv, _⟩ := own_some h hp
  exact ⟨g, c, _, hv, rfl⟩
theorem own_mono {w : World} {base base' : Nat} {v : Value} {zs : List Int} (h : Own w base v zs) (hb : base' ≤ base) : Own w base' v zs := by
  obtain ⟨h1, h2⟩ := h
  refine ⟨h1, ?_⟩
  rcases h2 with h2 | ⟨g, cap, cur, hv, hg, r⟩
  · exact .inl h2
  · exact .inr ⟨g, cap, cur, hv, by omega, r⟩
set_option maxRecDepth 20000 in
set_option maxHeartbeats 8000000 in
theorem concat3 (G : Nat) (d0 d1 d2 : Addr) (n0 n1 n2 c0 c1 c2 : Nat) (z0 z1 z2 : List Int) (w : World) (x0 : w.cell? ⟨G, 0, none⟩ = some (.slice (some d0) n0 c0)) (x1 : w.cell? ⟨G, 1, none⟩ = some (.slice (some d1) n1 c1)) (x2 : w.cell? ⟨G, 2, none⟩ = some (.slice (some d2) n2 c2)) (hG : G < w.heap.size)
    (h0 : n0 = z0.length) (h1 : n1 = z1.length) (h2 : n2 = z2.length) (s0 : Sl w (some d0) z0) (s1 : Sl w (some d1) z1) (s2 : Sl w (some d2) z2) (hp : 0 < n1) (l0 : n0 ≤ 1000000) (l1 : n1 ≤ 1000000) (l2 : n2 ≤ 1000000) :
    Calls Tryd.prog 64 #[.slice (some ⟨G, 0, none⟩) 3 3] w fun e w' => Nw w w' e (z0 ++ z1 ++ z2) := by
  have HH : Hid (n0 = z0.length ∧ n1 = z1.length ∧ n2 = z2.length ∧ Sl w (some d0) z0 ∧ Sl w (some d1) z1 ∧ Sl w (some d2) z2 ∧ G < w.heap.size) := ⟨h0, h1, h2, s0, s1, s2, hG⟩
  have q0 : ¬ ((n0 : Int) < 0) := by omega
  have q1 : ¬ ((n0 : Int) + (n1 : Int) < 0) := by omega
  have q2 : ¬ ((n0 : Int) + (n1 : Int) + (n2 : Int) < 0) := by omega
  have HP : Hid (0 < n1 ∧ n0 ≤ 1000000 ∧ n1 ≤ 1000000 ∧ n2 ≤ 1000000) := ⟨hp, l0, l1, l2⟩
  clear h0 h1 h2 s0 s1 s2 hG hp
  go_enter Tryd.func64, Tryd.ntmps64
  go_wp2
  refine wp_loop_rounds 4 ?_
  rw [rounds_succ]
  go_wp2
  rw [rounds_succ]
  go_wp2
  rw [rounds_succ]
  go_wp2
  rw [rounds_succ]
  go_wp2_with fail
  refine (grow_nil _ (n0 + n1 + n2) _ (by omega) (by have := HP.out; omega) (by have := HP.out; omega)).mono ?_
  rintro e w1 ⟨g, C, rfl, o1, b1⟩
  have y0 : w1.cell? ⟨G, 0, none⟩ = _ := (b1.cell (p := ⟨G, 0, none⟩) HH.out.2.2.2.2.2.2).trans x0
  have y1 : w1.cell? ⟨G, 1, none⟩ = _ := (b1.cell (p := ⟨G, 1, none⟩) HH.out.2.2.2.2.2.2).trans x1
  have y2 : w1.cell? ⟨G, 2, none⟩ = _ := (b1.cell (p := ⟨G, 2, none⟩) HH.out.2.2.2.2.2.2).trans x2
  clear x0 x1 x2 q0 q1 q2
  go_wp2
  refine wp_loop_rounds 4 ?_
  rw [rounds_succ]
  go_wp2_with (at_builtin; refine wpList_app rfl (.tmp 31) (.tmp 32) rfl w.heap.size (.slice (some ⟨g, 0, none⟩) 0 C) [] rfl o1 d0 n0 c0 z0 rfl HH.out.1 (HH.out.2.2.2.1.below b1) (by have := HP.out; have := HH.out; simp; omega) b1.size ?_; intro v2 w2 o2 g2; have b2 : Below w.heap.size w w2 := bel_grown b1 o1 g2 (Nat.le_refl _) b1.size; have m1 : w2.cell? ⟨G, 1, none⟩ = _ := (b2.cell (p := ⟨G, 1, none⟩) HH.out.2.2.2.2.2.2).trans ((b1.cell (p := ⟨G, 1, none⟩) HH.out.2.2.2.2.2.2).symm.trans y1); have m2 : w2.cell? ⟨G, 2, none⟩ = _ := (b2.cell (p := ⟨G, 2, none⟩) HH.out.2.2.2.2.2.2).trans ((b1.cell (p := ⟨G, 2, none⟩) HH.out.2.2.2.2.2.2).symm.trans y2); clear o1 g2 y0 y1 y2)
  rw [rounds_succ]
  go_wp2_with (at_builtin; refine wpList_app rfl (.tmp 31) (.tmp 32) rfl w.heap.size v2 ([] ++ z0) rfl o2 d1 n1 c1 z1 rfl HH.out.2.1 (HH.out.2.2.2.2.1.below b2) (by have := HP.out; have := HH.out; simp; omega) b2.size ?_; intro v3 w3 o3 g3; have b3 : Below w.heap.size w w3 := bel_grown b2 o2 g3 (Nat.le_refl _) b2.size; have r2 : w3.cell? ⟨G, 2, none⟩ = _ := (b3.cell (p := ⟨G, 2, none⟩) HH.out.2.2.2.2.2.2).trans ((b2.cell (p := ⟨G, 2, none⟩) HH.out.2.2.2.2.2.2).symm.trans m2); clear o2 g3 m1 m2)
  rw [rounds_succ]
  go_wp2_with (at_builtin; refine wpList_app rfl (.tmp 31) (.tmp 32) rfl w.heap.size v3 ([] ++ z0 ++ z1) rfl o3 d2 n2 c2 z2 rfl HH.out.2.2.1 (HH.out.2.2.2.2.2.1.below b3) (by have := HP.out; have := HH.out; simp; omega) b3.size ?_; intro v4 w4 o4 g4; have b4 : Below w.heap.size w w4 := bel_grown b3 o3 g4 (Nat.le_refl _) b3.size; obtain ⟨g', c', n', hv, hn'⟩ := own_some' o4 (by have := HP.out; have := HH.out; simp; omega); subst hv; have R : Nw w w4 (.returned (.slice (some ⟨g', 0, none⟩) n' c')) (z0 ++ z1 ++ z2) := ⟨g', c', _, rfl, by simpa using hn', by simpa using o4, b4⟩; clear o3 o4 g4 r2 hn')
  rw [rounds_succ]
  go_wp2
  go_ret
  exact R
set_option maxHeartbeats 4000000 in
theorem putCounted_any (gh gm nh nm ch cm : Nat) (zh zm : List Int) (w : World) (hh : nh = zh.length) (hm : nm = zm.length) (sh : Sl w (some ⟨gh, 0, none⟩) zh) (sm : Sl w (some ⟨gm, 0, none⟩) zm) (lh : nh ≤ 1000000) (lm : nm ≤ 1000000) :
    Calls Tryd.prog 60 #[.slice (some ⟨gh, 0, none⟩) nh ch, .slice (some ⟨gm, 0, none⟩) nm cm] w fun e w' => Nw w w' e (zh ++ [(nm : Int) % 256] ++ zm) := by
  obtain ⟨W1, hW1⟩ : ∃ W1, W1 = w.alloc (.cells #[.int .u8 ((nm : Int) % 256)] 5) := ⟨_, rfl⟩
  obtain ⟨W2, hW2⟩ : ∃ W2, W2 = W1.alloc (.cells #[.slice (some ⟨gh, 0, none⟩) nh ch, .slice (some ⟨w.heap.size, 0, none⟩) 1 1, .slice (some ⟨gm, 0, none⟩) nm cm] 22) := ⟨_, rfl⟩
  have B1 : Below w.heap.size w W1 := by rw [hW1]; exact bel_alloc _ _
  have B2' : Below W1.heap.size W1 W2 := by rw [hW2]; exact bel_alloc _ _
  have B2 := bel_next B1 B2'
  have hs1 : W1.heap.size = w.heap.size + 1 := by rw [hW1]; simp
  have X : Blk W2 (w.heap.size + 1) 22 #[.slice (some ⟨gh, 0, none⟩) nh ch, .slice (some ⟨w.heap.size, 0, none⟩) 1 1, .slice (some ⟨gm, 0, none⟩) nm cm] := by rw [hW2, ← hs1]; exact Blk.new _ _ _
  have s1 : Sl W2 (some ⟨w.heap.size, 0, none⟩) [(nm : Int) % 256] := Sl.below (by rw [hW1]; exact sl_lit1 _ _ rfl) B2'
  have HW : Hid (W2 = (w.alloc (.cells #[.int .u8 ((nm : Int) % 256)] 5)).alloc (.cells #[.slice (some ⟨gh, 0, none⟩) nh ch, .slice (some ⟨w.heap.size, 0, none⟩) 1 1, .slice (some ⟨gm, 0, none⟩) nm cm] 22)) := by rw [← hW1]; exact hW2
  have K := concat3 (w.heap.size + 1) ⟨gh, 0, none⟩ ⟨w.heap.size, 0, none⟩ ⟨gm, 0, none⟩ nh 1 nm ch 1 cm zh [(nm : Int) % 256] zm W2 (X.cell 0 rfl) (X.cell 1 rfl) (X.cell 2 rfl) X.lt hh rfl hm (sh.below B2) s1 (sm.below B2) (by omega) lh (by omega) lm
  have HK : Hid (Calls Tryd.prog 64 #[.slice (some ⟨w.heap.size + 1, 0, none⟩) 3 3] W2 fun e w' => Nw W2 w' e (zh ++ [(nm : Int) % 256] ++ zm)) := K
  clear K X s1 sh sm hh hm hW1 hW2 B1 B2' hs1
  go_enter Tryd.func60, Tryd.ntmps60
  go_wp2_with fail
  rw [← HW.out]
  refine HK.out.mono ?_
  rintro e w3 ⟨g, c, n, rfl, hn, o3, b3⟩
  have R : Nw w w3 (.returned (.slice (some ⟨g, 0, none⟩) n c)) (zh ++ [(nm : Int) % 256] ++ zm) := ⟨g, c, n, rfl, hn, own_mono o3 B2.size, bel_next B2 b3⟩
  clear hn o3 b3
  go_wp2
  go_ret
  exact R
end Go.Proofs.YtohikbpolofklaaDoor
