/- Frames on streams: what a head may be. -/
import Derived.Test.YtimgohnnapaafaaMb1
import Derived.Test.YtimgohnnapaafaaG1
import Derived.Test.YtimgohnnapaafaaCopT
import Derived.Lib.MinMax
namespace Go.Proofs.Ytimgohnnapaafaa
open Go.RowKit

set_option linter.unusedVariables false

set_option linter.unusedSimpArgs false

/-- What is there of a head may be one. -/
def nxM (bs : List Int) : Bool := decide (bs.getD 2 0 = 0 ∧ bs.getD 3 0 = 0 ∧ (bs.length < 6 ∨ (2 ≤ wAt bs 4 ∧ wAt bs 4 ≤ 254)))

theorem nxM_yes {bs : List Int} (h : bs.getD 2 0 = 0 ∧ bs.getD 3 0 = 0 ∧ (bs.length < 6 ∨ (2 ≤ wAt bs 4 ∧ wAt bs 4 ≤ 254))) : nxM bs = true := decide_eq_true h

theorem nxM_no {bs : List Int} (h : ¬ (bs.getD 2 0 = 0 ∧ bs.getD 3 0 = 0 ∧ (bs.length < 6 ∨ (2 ≤ wAt bs 4 ∧ wAt bs 4 ≤ 254)))) : nxM bs = false := decide_eq_false h

theorem getD_out {bs : List Int} {k : Nat} (h : bs.length ≤ k) : bs.getD k 0 = 0 := by
  rw [List.getD_eq_getElem?_getD, List.getElem?_eq_none (by omega)]; rfl

set_option maxRecDepth 20000 in
set_option maxHeartbeats 1000000 in
theorem mayBegin_any (a : Option Addr) (l c : Nat) (bs : List Int) (w : World) (hn : l = bs.length) (hlc : l ≤ c) (hs : Sl w a bs) (hr : ∀ z ∈ bs, 0 ≤ z ∧ z ≤ 255) (hl : bs.length ≤ 2000000) (q : Bool) (hq : nxM bs = q) :
    Calls Try.prog 114 #[.slice a l c] w fun e w' => e = .returned (.bool q) ∧ Below w.heap.size w w' := by
  have HN : Hid (l = bs.length) := hn
  have HS : Hid (Sl w a bs) := hs
  have HR : Hid (∀ z ∈ bs, 0 ≤ z ∧ z ≤ 255) := hr
  have hl2 : l ≤ 2000000 := by omega
  by_cases h2 : l ≤ 2
  · obtain rfl : q = true := by rw [← hq]; exact nxM_yes ⟨getD_out (by omega), getD_out (by omega), .inl (by omega)⟩
    have m1 : min 2 (l : Int) = (l : Int) := by omega
    have m2 : min 4 (l : Int) = (l : Int) := by omega
    have F6 : Hid (decide (4 + 2 ≤ bs.length) = false) := hide (by simp; omega)
    clear hn hs hr hl hq
    go_enter Try.func114, Try.ntmps114
    go_wp2_with fail
    all_goals (
      refine wp_loop_rounds 1 ?_
      rw [rounds_succ]
      go_wp2_with fail
      refine (implWordAt_q _ _ _ bs 4 4 _ rfl HN.out HS.out HR.out hl2).mono ?_
      rintro e w1 ⟨rfl, b1⟩
      rw [F6.out]
      generalize wAt bs 4 = x at *
      go_wp2_with fail
      go_ret
      exact ⟨rfl, b1⟩)
  by_cases h3 : l = 3
  · subst h3
    obtain ⟨b, off, rfl, hb0, hc0⟩ := cell_at hs (k := 2) (by omega)
    have F6 : Hid (decide (4 + 2 ≤ bs.length) = false) := hide (by simp; omega)
    by_cases z2 : bs.getD 2 0 = 0
    · obtain rfl : q = true := by rw [← hq]; exact nxM_yes ⟨z2, getD_out (by omega), .inl (by omega)⟩
      rw [z2] at hc0
      have m1 : min (2 : Int) 3 = 2 := by omega
      have m2 : min (4 : Int) 3 = 3 := by omega
      have c2 : ¬ c = 2 := by omega
      clear hn hs hr hl hq z2
      go_enter Try.func114, Try.ntmps114
      go_wp2_with fail
      refine wp_loop_rounds 2 ?_
      rw [rounds_succ]
      go_wp2_with fail
      rw [rounds_succ]
      go_wp2_with fail
      refine (implWordAt_q _ _ _ bs 4 4 _ rfl HN.out HS.out HR.out hl2).mono ?_
      rintro e w1 ⟨rfl, b1⟩
      rw [F6.out]
      generalize wAt bs 4 = x at *
      go_wp2_with fail
      go_ret
      exact ⟨rfl, b1⟩
    · obtain rfl : q = false := by rw [← hq]; exact nxM_no (fun h => z2 h.1)
      have c2 : ¬ c = 2 := by omega
      have m1 : min (2 : Int) 3 = 2 := by omega
      have m2 : min (4 : Int) 3 = 3 := by omega
      clear hn hs hr hl hq
      generalize bs.getD 2 0 = z at *
      have z2' : (z != 0) = true := by simpa using z2
      go_enter Try.func114, Try.ntmps114
      go_wp2_with fail
      refine wp_loop_rounds 1 ?_
      rw [rounds_succ]
      go_wp2_with fail
      go_ret
      exact ⟨rfl, Below.refl _ _⟩
  have m1 : min 2 (l : Int) = 2 := by omega
  have m2 : min 4 (l : Int) = 4 := by omega
  have c2 : ¬ c = 2 := by omega
  obtain ⟨b, off, rfl, hb0, hc0⟩ := cell_at hs (k := 2) (by omega)
  obtain ⟨b', off', e', _, hc1⟩ := cell_at hs (k := 3) (by omega)
  simp only [Option.some.injEq, Addr.mk.injEq, and_true] at e'
  obtain ⟨rfl, rfl⟩ := e'
  have q4 : (4 : Int) ≤ (l : Int) := by omega
  have q4c : (4 : Int) ≤ (c : Int) := by omega
  by_cases z2 : bs.getD 2 0 = 0
  case neg =>
    obtain rfl : q = false := by rw [← hq]; exact nxM_no (fun h => z2 h.1)
    clear hn hs hr hl hq hc1
    generalize bs.getD 2 0 = z at *
    have z2' : (z != 0) = true := by simpa using z2
    go_enter Try.func114, Try.ntmps114
    go_wp2_with fail
    refine wp_loop_rounds 1 ?_
    rw [rounds_succ]
    go_wp2_with fail
    go_ret
    exact ⟨rfl, Below.refl _ _⟩
  by_cases z3 : bs.getD 3 0 = 0
  case neg =>
    obtain rfl : q = false := by rw [← hq]; exact nxM_no (fun h => z3 h.2.1)
    rw [z2] at hc0
    clear hn hs hr hl hq z2
    generalize bs.getD 3 0 = z at *
    have z2' : (z != 0) = true := by simpa using z3
    go_enter Try.func114, Try.ntmps114
    go_wp2_with fail
    refine wp_loop_rounds 2 ?_
    rw [rounds_succ]
    go_wp2_with fail
    rw [rounds_succ]
    go_wp2_with fail
    go_ret
    exact ⟨rfl, Below.refl _ _⟩
  have HM : Hid (q = decide (bs.length < 6 ∨ (2 ≤ wAt bs 4 ∧ wAt bs 4 ≤ 254))) := by show q = _; rw [← hq]; unfold nxM; simp only [z2, z3, true_and]
  rw [z2] at hc0
  rw [z3] at hc1
  clear hn hs hr hl hq z2 z3
  go_enter Try.func114, Try.ntmps114
  go_wp2_with fail
  refine wp_loop_rounds 3 ?_
  rw [rounds_succ]
  go_wp2_with fail
  rw [rounds_succ]
  go_wp2_with fail
  rw [rounds_succ]
  go_wp2_with fail
  refine (implWordAt_q _ _ _ bs 4 4 _ rfl HN.out HS.out HR.out hl2).mono ?_
  rintro e w1 ⟨rfl, b1⟩
  have hbd := wAt_bd HR.out 4
  by_cases h6 : 4 + 2 ≤ bs.length
  · rw [decide_eq_true h6]
    have HM2 : Hid (q = decide (2 ≤ wAt bs 4 ∧ wAt bs 4 ≤ 254)) := by show q = _; rw [HM.out]; exact decide_eq_decide.2 ⟨fun h => h.resolve_left (by omega), fun h => .inr h⟩
    clear HM
    generalize wAt bs 4 = x at *
    by_cases x2 : 2 ≤ x
    · by_cases x3 : x ≤ 254
      · have R := HM2.out
        rw [decide_eq_true ⟨x2, x3⟩] at R
        subst R
        clear HM2
        go_wp2_with fail
        go_ret
        exact ⟨rfl, b1⟩
      · have R := HM2.out
        rw [decide_eq_false (fun h => x3 h.2)] at R
        subst R
        clear HM2
        have dx : decide (x ≤ 254) = false := decide_eq_false x3
        go_wp2_with fail
        go_ret
        exact ⟨rfl, b1⟩
    · have R := HM2.out
      rw [decide_eq_false (fun h => x2 h.1)] at R
      subst R
      clear HM2
      go_wp2_with fail
      go_ret
      exact ⟨rfl, b1⟩
  · rw [decide_eq_false h6]
    have R := HM.out
    rw [decide_eq_true (.inl (by omega))] at R
    subst R
    clear HM
    generalize wAt bs 4 = x at *
    go_wp2_with fail
    go_ret
    exact ⟨rfl, b1⟩

end Go.Proofs.Ytimgohnnapaafaa
