/- Listeners of frames by silences: what the laws' own helpers do with one; which are right; a new one. -/
import Derived.Test.YtoofkikenfgbpaaDoorReq1
import Derived.Test.YtoofkikenfgbpaaDoorBys
import Derived.Test.YtoofkikenfgbpaaDoorMarks2
namespace Go.Proofs.YtoofkikenfgbpaaDoor
open Go.RowKit

set_option linter.unusedVariables false

set_option linter.unusedSimpArgs false

/-- A listener as a value. -/
abbrev rt (a : Option Addr) (l c : Nat) (ls : Int) (bd : Bool) (hf wh : Int) : Value := .agg #[.slice a l c, .int .i64 ls, .bool bd, .int .i64 hf, .int .i64 wh]

theorem Blk.five {w : World} {g : Nat} {t : TypeId} {v0 v1 v2 v3 v4 : Value} (h : Blk w g t #[v0, v1, v2, v3, v4]) : w.cell? ⟨g, 0, none⟩ = some v0 ∧ w.cell? ⟨g, 1, none⟩ = some v1 ∧ w.cell? ⟨g, 2, none⟩ = some v2 ∧ w.cell? ⟨g, 3, none⟩ = some v3 ∧ w.cell? ⟨g, 4, none⟩ = some v4 :=
  ⟨h.cell 0 rfl, h.cell 1 rfl, h.cell 2 rfl, h.cell 3 rfl, h.cell 4 rfl⟩

theorem Own.monoT {w : World} {base base' : Nat} {v : Value} {zs : List Int} (h : Own w base v zs) (hb : base' ≤ base) : Own w base' v zs := by
  obtain ⟨h1, h2⟩ := h
  refine ⟨h1, ?_⟩
  rcases h2 with h2 | ⟨g, cap, cur, hv, hg, r⟩
  · exact .inl h2
  · exact .inr ⟨g, cap, cur, hv, by omega, r⟩

/-- A listener is right. -/
def okT (l : Nat) (ls : Int) (bd : Bool) (hf wh : Int) : Bool := decide (1 ≤ hf ∧ hf ≤ 1000 ∧ hf ≤ wh ∧ wh ≤ 1000 ∧ l ≤ 257 ∧ 0 ≤ ls ∧ ls ≤ 4294967295) && (!bd || decide (0 < l))

def okSl (hf wh : Int) : Bool := decide (1 ≤ hf ∧ hf ≤ 1000 ∧ hf ≤ wh ∧ wh ≤ 1000)

set_option maxRecDepth 20000 in
set_option maxHeartbeats 4000000 in
theorem implRtuOk_any (a : Option Addr) (l c : Nat) (ls : Int) (bd : Bool) (hf wh : Int) (w : World) (hl : l ≤ 2000000) (b : Bool) (hb : okT l ls bd hf wh = b) :
    Calls Tryd.prog 13 #[rt a l c ls bd hf wh] w fun e w' => e = .returned (.bool b) ∧ Below w.heap.size w w' := by
  have b0 := bel_alloc w (.cells #[.slice a l c, .int .i64 ls, .bool bd, .int .i64 hf, .int .i64 wh] 33)
  subst hb
  by_cases h0 : l = 0
  · subst h0
    cases bd
    case true =>
      rw [show okT 0 ls true hf wh = false by unfold okT; simp]
      go_enter Tryd.func13, Tryd.ntmps13
      go_wp2_with (first | (go_at_call 34; go_in) | (go_at_call 30; go_in))
      go_ret
      exact ⟨rfl, b0⟩
    by_cases t_ls1 : 0 ≤ ls
    case neg =>
      rw [show okT 0 ls _ hf wh = false by unfold okT; rw [decide_eq_false (by omega)]; rfl]
      go_enter Tryd.func13, Tryd.ntmps13
      go_wp2_with (first | (go_at_call 34; go_in) | (go_at_call 30; go_in))
      go_ret
      exact ⟨rfl, b0⟩
    by_cases t_ls2 : ls ≤ 4294967295
    case neg =>
      rw [show okT 0 ls _ hf wh = false by unfold okT; rw [decide_eq_false (by omega)]; rfl]
      go_enter Tryd.func13, Tryd.ntmps13
      go_wp2_with (first | (go_at_call 34; go_in) | (go_at_call 30; go_in))
      go_ret
      exact ⟨rfl, b0⟩
    by_cases t_hf1 : 1 ≤ hf
    case neg =>
      rw [show okT 0 ls _ hf wh = false by unfold okT; rw [decide_eq_false (by omega)]; rfl]
      go_enter Tryd.func13, Tryd.ntmps13
      go_wp2_with (first | (go_at_call 34; go_in) | (go_at_call 30; go_in))
      go_ret
      exact ⟨rfl, b0⟩
    by_cases t_wh1 : hf ≤ wh
    case neg =>
      rw [show okT 0 ls _ hf wh = false by unfold okT; rw [decide_eq_false (by omega)]; rfl]
      go_enter Tryd.func13, Tryd.ntmps13
      go_wp2_with (first | (go_at_call 34; go_in) | (go_at_call 30; go_in))
      go_ret
      exact ⟨rfl, b0⟩
    by_cases t_wh2 : wh ≤ 1000
    case neg =>
      rw [show okT 0 ls _ hf wh = false by unfold okT; rw [decide_eq_false (by omega)]; rfl]
      go_enter Tryd.func13, Tryd.ntmps13
      go_wp2_with (first | (go_at_call 34; go_in) | (go_at_call 30; go_in))
      go_ret
      exact ⟨rfl, b0⟩
    rw [show okT 0 ls false hf wh = true by unfold okT; rw [decide_eq_true (by omega)]; rfl]
    go_enter Tryd.func13, Tryd.ntmps13
    go_wp2_with (first | (go_at_call 34; go_in) | (go_at_call 30; go_in))
    go_ret
    exact ⟨rfl, b0⟩
  · have h0i : ¬ (l : Int) = 0 := by omega
    by_cases t_len : (l : Int) ≤ 257
    case neg =>
      rw [show okT l ls _ hf wh = false by unfold okT; rw [decide_eq_false (by omega)]; rfl]
      go_enter Tryd.func13, Tryd.ntmps13
      go_wp2_with (first | (go_at_call 34; go_in) | (go_at_call 30; go_in))
      go_ret
      exact ⟨rfl, b0⟩
    by_cases t_ls1 : 0 ≤ ls
    case neg =>
      rw [show okT l ls _ hf wh = false by unfold okT; rw [decide_eq_false (by omega)]; rfl]
      go_enter Tryd.func13, Tryd.ntmps13
      go_wp2_with (first | (go_at_call 34; go_in) | (go_at_call 30; go_in))
      go_ret
      exact ⟨rfl, b0⟩
    by_cases t_ls2 : ls ≤ 4294967295
    case neg =>
      rw [show okT l ls _ hf wh = false by unfold okT; rw [decide_eq_false (by omega)]; rfl]
      go_enter Tryd.func13, Tryd.ntmps13
      go_wp2_with (first | (go_at_call 34; go_in) | (go_at_call 30; go_in))
      go_ret
      exact ⟨rfl, b0⟩
    by_cases t_hf1 : 1 ≤ hf
    case neg =>
      rw [show okT l ls _ hf wh = false by unfold okT; rw [decide_eq_false (by omega)]; rfl]
      go_enter Tryd.func13, Tryd.ntmps13
      go_wp2_with (first | (go_at_call 34; go_in) | (go_at_call 30; go_in))
      go_ret
      exact ⟨rfl, b0⟩
    by_cases t_wh1 : hf ≤ wh
    case neg =>
      rw [show okT l ls _ hf wh = false by unfold okT; rw [decide_eq_false (by omega)]; rfl]
      go_enter Tryd.func13, Tryd.ntmps13
      go_wp2_with (first | (go_at_call 34; go_in) | (go_at_call 30; go_in))
      go_ret
      exact ⟨rfl, b0⟩
    by_cases t_wh2 : wh ≤ 1000
    case neg =>
      rw [show okT l ls _ hf wh = false by unfold okT; rw [decide_eq_false (by omega)]; rfl]
      go_enter Tryd.func13, Tryd.ntmps13
      go_wp2_with (first | (go_at_call 34; go_in) | (go_at_call 30; go_in))
      go_ret
      exact ⟨rfl, b0⟩
    rw [show okT l ls bd hf wh = true by unfold okT; rw [decide_eq_true (by omega), decide_eq_true (show 0 < l by omega)]; cases bd <;> rfl]
    go_enter Tryd.func13, Tryd.ntmps13
    go_wp2_with (first | (go_at_call 34; go_in) | (go_at_call 30; go_in))
    go_ret
    exact ⟨rfl, b0⟩

set_option maxRecDepth 20000 in
set_option maxHeartbeats 4000000 in
theorem implRtuNew_any (hf wh : Int) (w : World) :
    Calls Tryd.prog 11 #[.int .i64 hf, .int .i64 wh] w fun e w' => e = .returned (rt none 0 0 0 false (if okSl hf wh = true then hf else 0) (if okSl hf wh = true then wh else 0)) ∧ Below w.heap.size w w' := by
  by_cases t_hf1 : 1 ≤ hf
  case neg =>
    rw [show okSl hf wh = false by unfold okSl; exact decide_eq_false (by omega)]
    simp only [Bool.false_eq_true, if_false]
    go_enter Tryd.func11, Tryd.ntmps11
    go_wp2_with (first | (go_at_call 34; go_in) | (go_at_call 30; go_in))
    refine bodyPost_ret (v := rt none 0 0 0 false 0 0) (by simp [results, Tryd.results11, go_sem]) rfl ?_
    exact ⟨rfl, bel_alloc _ _⟩
  by_cases t_wh1 : hf ≤ wh
  case neg =>
    rw [show okSl hf wh = false by unfold okSl; exact decide_eq_false (by omega)]
    simp only [Bool.false_eq_true, if_false]
    go_enter Tryd.func11, Tryd.ntmps11
    go_wp2_with (first | (go_at_call 34; go_in) | (go_at_call 30; go_in))
    refine bodyPost_ret (v := rt none 0 0 0 false 0 0) (by simp [results, Tryd.results11, go_sem]) rfl ?_
    exact ⟨rfl, bel_alloc _ _⟩
  by_cases t_wh2 : wh ≤ 1000
  case neg =>
    rw [show okSl hf wh = false by unfold okSl; exact decide_eq_false (by omega)]
    simp only [Bool.false_eq_true, if_false]
    go_enter Tryd.func11, Tryd.ntmps11
    go_wp2_with (first | (go_at_call 34; go_in) | (go_at_call 30; go_in))
    refine bodyPost_ret (v := rt none 0 0 0 false 0 0) (by simp [results, Tryd.results11, go_sem]) rfl ?_
    exact ⟨rfl, bel_alloc _ _⟩
  rw [show okSl hf wh = true by unfold okSl; exact decide_eq_true (by omega)]
  simp only [if_true]
  go_enter Tryd.func11, Tryd.ntmps11
  go_wp2_with (first | (go_at_call 34; go_in) | (go_at_call 30; go_in))
  refine bodyPost_ret (v := rt none 0 0 0 false hf wh) (by simp [results, Tryd.results11, go_sem]) rfl ?_
  exact ⟨rfl, bel_alloc _ _⟩

theorem grown_trT {w w1 w2 : World} {row : Option Nat} (h1 : w.grownBy w1 row) (h2 : w1.grownBy w2 row) : w.grownBy w2 row :=
  ⟨h2.os.trans h1.os, h2.tape.trans h1.tape, h2.output.trans h1.output, Nat.le_trans h1.size h2.size, fun k hk hne => (h2.block k (Nat.lt_of_lt_of_le hk h1.size) hne).trans (h1.block k hk hne)⟩

end Go.Proofs.YtoofkikenfgbpaaDoor
