/- How two rules compare: byPlaces. -/
import Derived.Test.YtklnfeblkffgiaaDoorSrP
import Derived.Test.YtklnfeblkffgiaaDoorRgX
namespace Go.Proofs.YtklnfeblkffgiaaDoor
open Go.RowKit

set_option linter.unusedVariables false

set_option linter.unusedSimpArgs false

def cmpI (x y : Int) : Int := if x < y then -1 else if y < x then 1 else 0

theorem isNaN_any (x : Int) (w : World) : Calls Tryd.prog 81 #[.int .i64 x] w fun e w' => e = .returned (.bool false) ∧ w' = w := by
  go_enter Tryd.func81, Tryd.ntmps81
  go_wp2
  go_ret
  exact ⟨rfl, rfl⟩

theorem compare_any (x y : Int) (w : World) : Calls Tryd.prog 72 #[.int .i64 x, .int .i64 y] w fun e w' => e = .returned (.int .i64 (cmpI x y)) ∧ w' = w := by
  unfold cmpI
  by_cases h : x < y
  · rw [if_pos h]
    go_enter Tryd.func72, Tryd.ntmps72
    go_wp2_with fail
    refine (isNaN_any x _).mono ?_
    rintro e w1 ⟨rfl, rfl⟩
    go_wp2_with fail
    refine (isNaN_any y _).mono ?_
    rintro e w2 ⟨rfl, rfl⟩
    go_wp2
    go_ret
    exact ⟨rfl, rfl⟩
  · rw [if_neg h]
    by_cases h' : y < x
    · rw [if_pos h']
      go_enter Tryd.func72, Tryd.ntmps72
      go_wp2_with fail
      refine (isNaN_any x _).mono ?_
      rintro e w1 ⟨rfl, rfl⟩
      go_wp2_with fail
      refine (isNaN_any y _).mono ?_
      rintro e w2 ⟨rfl, rfl⟩
      go_wp2
      go_ret
      exact ⟨rfl, rfl⟩
    · rw [if_neg h']
      go_enter Tryd.func72, Tryd.ntmps72
      go_wp2_with fail
      refine (isNaN_any x _).mono ?_
      rintro e w1 ⟨rfl, rfl⟩
      go_wp2_with fail
      refine (isNaN_any y _).mono ?_
      rintro e w2 ⟨rfl, rfl⟩
      go_wp2
      go_ret
      exact ⟨rfl, rfl⟩

def orI (x y z : Int) : Int := if x ≠ 0 then x else if y ≠ 0 then y else z

set_option maxHeartbeats 1000000 in
theorem or_any (g : Nat) (x y z : Int) (w : World) (h0 : w.cell? ⟨g, 0, none⟩ = some (.int .i64 x)) (h1 : w.cell? ⟨g, 1, none⟩ = some (.int .i64 y)) (h2 : w.cell? ⟨g, 2, none⟩ = some (.int .i64 z)) :
    Calls Tryd.prog 71 #[.slice (some ⟨g, 0, none⟩) 3 3] w fun e w' => e = .returned (.int .i64 (orI x y z)) ∧ w' = w := by
  unfold orI
  by_cases e0 : x = 0
  · rw [if_neg (by omega)]
    by_cases e1 : y = 0
    · rw [if_neg (by omega)]
      by_cases e2 : z = 0
      · subst e2
        go_enter Tryd.func71, Tryd.ntmps71
        go_wp2
        refine wp_loop_rounds 4 ?_
        rw [rounds_succ]
        go_wp2
        rw [rounds_succ]
        go_wp2
        rw [rounds_succ]
        go_wp2
        rw [rounds_succ]
        go_wp2
        go_ret
        exact ⟨rfl, rfl⟩
      · go_enter Tryd.func71, Tryd.ntmps71
        go_wp2
        refine wp_loop_rounds 4 ?_
        rw [rounds_succ]
        go_wp2
        rw [rounds_succ]
        go_wp2
        rw [rounds_succ]
        go_wp2
        go_ret
        exact ⟨rfl, rfl⟩
    · rw [if_pos e1]
      go_enter Tryd.func71, Tryd.ntmps71
      go_wp2
      refine wp_loop_rounds 4 ?_
      rw [rounds_succ]
      go_wp2
      rw [rounds_succ]
      go_wp2
      go_ret
      exact ⟨rfl, rfl⟩
  · rw [if_pos e0]
    go_enter Tryd.func71, Tryd.ntmps71
    go_wp2
    refine wp_loop_rounds 4 ?_
    rw [rounds_succ]
    go_wp2
    go_ret
    exact ⟨rfl, rfl⟩

/-- How two rules compare. -/
def cmpR (a b : Ru) : Int := orI (cmpI a.u b.u) (cmpI a.s b.s) (cmpI a.lo b.lo)

theorem cmpR_lt (a b : Ru) : cmpR a b < 0 ↔ ltR a b := by
  unfold cmpR orI cmpI ltR
  repeat' split
  all_goals omega

theorem cmpR_in (a b : Ru) : -1 ≤ cmpR a b ∧ cmpR a b ≤ 1 := by
  unfold cmpR orI cmpI
  repeat' split
  all_goals omega

set_option maxHeartbeats 2000000 in
theorem byPlaces_any (a b : Ru) (w : World) : Calls Tryd.prog 63 #[.agg (ruc a), .agg (ruc b)] w fun e w' => e = .returned (.int .i64 (cmpR a b)) ∧ Below w.heap.size w w' := by
  obtain ⟨W, hW⟩ : ∃ W, W = (w.alloc (.cells (ruc a) 33)).alloc (.cells (ruc b) 33) := ⟨_, rfl⟩
  have B0 : Below w.heap.size w W := by rw [hW]; exact ((Below.refl _ w).alloc (Nat.le_refl _) _).alloc (by simp) _
  have HS : Hid (W.heap.size = w.heap.size + 2) := by rw [hW]; simp [Hid]
  have HC : Hid (W.cell? ⟨w.heap.size, 0, none⟩ = some (.int .i64 a.u) ∧ W.cell? ⟨w.heap.size, 1, none⟩ = some (.int .i64 a.s) ∧ W.cell? ⟨w.heap.size, 2, none⟩ = some (.int .i64 a.lo) ∧ W.cell? ⟨w.heap.size + 1, 0, none⟩ = some (.int .i64 b.u) ∧ W.cell? ⟨w.heap.size + 1, 1, none⟩ = some (.int .i64 b.s) ∧ W.cell? ⟨w.heap.size + 1, 2, none⟩ = some (.int .i64 b.lo)) := by rw [hW]; refine ⟨?_, ?_, ?_, ?_, ?_, ?_⟩ <;> simp [go_sem]
  have cells : ∀ {u : World}, Below W.heap.size W u → u.cell? ⟨w.heap.size, 0, none⟩ = some (.int .i64 a.u) ∧ u.cell? ⟨w.heap.size, 1, none⟩ = some (.int .i64 a.s) ∧ u.cell? ⟨w.heap.size, 2, none⟩ = some (.int .i64 a.lo) ∧ u.cell? ⟨w.heap.size + 1, 0, none⟩ = some (.int .i64 b.u) ∧ u.cell? ⟨w.heap.size + 1, 1, none⟩ = some (.int .i64 b.s) ∧ u.cell? ⟨w.heap.size + 1, 2, none⟩ = some (.int .i64 b.lo) := fun hb => by
    have hs := HS.out
    obtain ⟨k0, k1, k2, k3, k4, k5⟩ := HC.out
    refine ⟨?_, ?_, ?_, ?_, ?_, ?_⟩
    · rw [hb.cell (p := ⟨w.heap.size, 0, none⟩) (by show w.heap.size < W.heap.size; omega)]; exact k0
    · rw [hb.cell (p := ⟨w.heap.size, 1, none⟩) (by show w.heap.size < W.heap.size; omega)]; exact k1
    · rw [hb.cell (p := ⟨w.heap.size, 2, none⟩) (by show w.heap.size < W.heap.size; omega)]; exact k2
    · rw [hb.cell (p := ⟨w.heap.size + 1, 0, none⟩) (by show w.heap.size + 1 < W.heap.size; omega)]; exact k3
    · rw [hb.cell (p := ⟨w.heap.size + 1, 1, none⟩) (by show w.heap.size + 1 < W.heap.size; omega)]; exact k4
    · rw [hb.cell (p := ⟨w.heap.size + 1, 2, none⟩) (by show w.heap.size + 1 < W.heap.size; omega)]; exact k5
  go_enter Tryd.func63, Tryd.ntmps63
  go_wp2
  rw [← hW]
  clear hW
  refine wp_region_any (by kernel_rfl) ?_
  refine wpAny_vals (fun u => Below W.heap.size W u) (fun i v u => match i with
  | 0 => v = .pointer (some ⟨w.heap.size, 0, none⟩)
  | 1 => v = .int .i64 a.u
  | 2 => v = .pointer (some ⟨w.heap.size + 1, 0, none⟩)
  | 3 => v = .int .i64 b.u
  | 4 => v = .int .i64 (cmpI a.u b.u)
  | 5 => v = .pointer (some ⟨w.heap.size, 1, none⟩)
  | 6 => v = .int .i64 a.s
  | 7 => v = .pointer (some ⟨w.heap.size + 1, 1, none⟩)
  | 8 => v = .int .i64 b.s
  | 9 => v = .int .i64 (cmpI a.s b.s)
  | 10 => v = .pointer (some ⟨w.heap.size, 2, none⟩)
  | 11 => v = .int .i64 a.lo
  | 12 => v = .pointer (some ⟨w.heap.size + 1, 2, none⟩)
  | 13 => v = .int .i64 b.lo
  | 14 => v = .int .i64 (cmpI a.lo b.lo)
  | 15 => ∃ g, v = .slice (some ⟨g, 0, none⟩) 3 3 ∧ g < u.heap.size ∧ u.cell? ⟨g, 0, none⟩ = some (.int .i64 (cmpI a.u b.u)) ∧ u.cell? ⟨g, 1, none⟩ = some (.int .i64 (cmpI a.s b.s)) ∧ u.cell? ⟨g, 2, none⟩ = some (.int .i64 (cmpI a.lo b.lo))
  | 16 => v = .int .i64 (cmpR a b)
  | 17 => v = .int .i64 (cmpR a b)
  | _ => True) (by kernel_rfl) (by kernel_rfl) ?_ (Below.refl _ _).drew ?_ ?_ _ _ rfl (by decide) (fun i => by simp [Array.getD]; try (split <;> rfl))
  · intro i v u u' h hb
    match i, h with
    | 15, h =>
      obtain ⟨g, hg, hlt, q0, q1, q2⟩ := h
      refine ⟨g, hg, by have := hb.size; omega, ?_, ?_, ?_⟩
      · rw [hb.cell (p := ⟨g, 0, none⟩) hlt]; exact q0
      · rw [hb.cell (p := ⟨g, 1, none⟩) hlt]; exact q1
      · rw [hb.cell (p := ⟨g, 2, none⟩) hlt]; exact q2
    | 0, h => exact h
    | 1, h => exact h
    | 2, h => exact h
    | 3, h => exact h
    | 4, h => exact h
    | 5, h => exact h
    | 6, h => exact h
    | 7, h => exact h
    | 8, h => exact h
    | 9, h => exact h
    | 10, h => exact h
    | 11, h => exact h
    | 12, h => exact h
    | 13, h => exact h
    | 14, h => exact h
    | 16, h => exact h
    | 17, h => exact h
    | (k + 18), h => trivial
  · intro vs u hR hall
    have e17 : vs 17 = .int .i64 (cmpR a b) := hall 17 (by simp)
    have BU := bel_next B0 hR
    simp only [putsL]
    rw [e17]
    clear hall e17 cells HC HS B0
    go_simp
    go_wp2
    go_ret
    exact ⟨rfl, BU⟩
  · intro u i o ρ hR ho hρ hc hf hd
    have hi : i < 18 := by
      have := (Array.getElem?_eq_some_iff.1 ho).1
      simpa using this
    obtain rfl | rfl | rfl | rfl | rfl | rfl | rfl | rfl | rfl | rfl | rfl | rfl | rfl | rfl | rfl | rfl | rfl | rfl : i = 0 ∨ i = 1 ∨ i = 2 ∨ i = 3 ∨ i = 4 ∨ i = 5 ∨ i = 6 ∨ i = 7 ∨ i = 8 ∨ i = 9 ∨ i = 10 ∨ i = 11 ∨ i = 12 ∨ i = 13 ∨ i = 14 ∨ i = 15 ∨ i = 16 ∨ i = 17 := by omega
    all_goals (simp only [List.getElem?_toArray, List.getElem?_cons_zero, List.getElem?_cons_succ, Option.some.injEq] at ho; subst ho)
    · -- 0
      have s2 : ρ (.tmp 2) = .pointer (some ⟨w.heap.size, 0, none⟩) := (hρ 2 (by kernel_rfl)).trans rfl
      exact .inl ⟨rfl, .inl ⟨.pointer (some ⟨w.heap.size, 0, none⟩), u, run_field_op rfl s2 (by go_simp), rfl, hR, Below.refl _ _⟩⟩
    · -- 1
      obtain ⟨c0, c1, c2, d0, d1, d2⟩ := cells hR
      have h0 : ρ (.tmp 5) = .pointer (some ⟨w.heap.size, 0, none⟩) := hd ⟨0, .data⟩ (by simp) rfl 5 rfl
      have hr : (Instr.loadAt 3 (.pointer (some ⟨w.heap.size, 0, none⟩))).run Tryd.prog u = .ok (.int .i64 a.u) u := by go_simp
      exact .inl ⟨rfl, .inl ⟨.int .i64 a.u, u, run_load_op rfl h0 hr, rfl, hR, Below.refl _ _⟩⟩
    · -- 2
      have s3 : ρ (.tmp 3) = .pointer (some ⟨w.heap.size + 1, 0, none⟩) := (hρ 3 (by kernel_rfl)).trans rfl
      exact .inl ⟨rfl, .inl ⟨.pointer (some ⟨w.heap.size + 1, 0, none⟩), u, run_field_op rfl s3 (by go_simp), rfl, hR, Below.refl _ _⟩⟩
    · -- 3
      obtain ⟨c0, c1, c2, d0, d1, d2⟩ := cells hR
      have h2 : ρ (.tmp 7) = .pointer (some ⟨w.heap.size + 1, 0, none⟩) := hd ⟨2, .data⟩ (by simp) rfl 7 rfl
      have hr : (Instr.loadAt 3 (.pointer (some ⟨w.heap.size + 1, 0, none⟩))).run Tryd.prog u = .ok (.int .i64 b.u) u := by go_simp
      exact .inl ⟨rfl, .inl ⟨.int .i64 b.u, u, run_load_op rfl h2 hr, rfl, hR, Below.refl _ _⟩⟩
    · -- 4
      have h1 : ρ (.tmp 6) = .int .i64 a.u := hd ⟨1, .data⟩ (by simp) rfl 6 rfl
      have h3 : ρ (.tmp 8) = .int .i64 b.u := hd ⟨3, .data⟩ (by simp) rfl 8 rfl
      refine .inl ⟨rfl, .inr ⟨_, _, run_call_op rfl (hf _) (args := #[.int .i64 a.u, .int .i64 b.u]) (by simp [h1, h3]) (by kernel_rfl), ?_⟩⟩
      refine (compare_any a.u b.u _).mono ?_
      rintro e u' ⟨rfl, rfl⟩
      exact ⟨_, rfl, rfl, hR, Below.refl _ _⟩
    · -- 5
      have s2 : ρ (.tmp 2) = .pointer (some ⟨w.heap.size, 0, none⟩) := (hρ 2 (by kernel_rfl)).trans rfl
      exact .inl ⟨rfl, .inl ⟨.pointer (some ⟨w.heap.size, 1, none⟩), u, run_field_op rfl s2 (by go_simp), rfl, hR, Below.refl _ _⟩⟩
    · -- 6
      obtain ⟨c0, c1, c2, d0, d1, d2⟩ := cells hR
      have h5 : ρ (.tmp 10) = .pointer (some ⟨w.heap.size, 1, none⟩) := hd ⟨5, .data⟩ (by simp) rfl 10 rfl
      have hr : (Instr.loadAt 3 (.pointer (some ⟨w.heap.size, 1, none⟩))).run Tryd.prog u = .ok (.int .i64 a.s) u := by go_simp
      exact .inl ⟨rfl, .inl ⟨.int .i64 a.s, u, run_load_op rfl h5 hr, rfl, hR, Below.refl _ _⟩⟩
    · -- 7
      have s3 : ρ (.tmp 3) = .pointer (some ⟨w.heap.size + 1, 0, none⟩) := (hρ 3 (by kernel_rfl)).trans rfl
      exact .inl ⟨rfl, .inl ⟨.pointer (some ⟨w.heap.size + 1, 1, none⟩), u, run_field_op rfl s3 (by go_simp), rfl, hR, Below.refl _ _⟩⟩
    · -- 8
      obtain ⟨c0, c1, c2, d0, d1, d2⟩ := cells hR
      have h7 : ρ (.tmp 12) = .pointer (some ⟨w.heap.size + 1, 1, none⟩) := hd ⟨7, .data⟩ (by simp) rfl 12 rfl
      have hr : (Instr.loadAt 3 (.pointer (some ⟨w.heap.size + 1, 1, none⟩))).run Tryd.prog u = .ok (.int .i64 b.s) u := by go_simp
      exact .inl ⟨rfl, .inl ⟨.int .i64 b.s, u, run_load_op rfl h7 hr, rfl, hR, Below.refl _ _⟩⟩
    · -- 9
      have h6 : ρ (.tmp 11) = .int .i64 a.s := hd ⟨6, .data⟩ (by simp) rfl 11 rfl
      have h8 : ρ (.tmp 13) = .int .i64 b.s := hd ⟨8, .data⟩ (by simp) rfl 13 rfl
      refine .inl ⟨rfl, .inr ⟨_, _, run_call_op rfl (hf _) (args := #[.int .i64 a.s, .int .i64 b.s]) (by simp [h6, h8]) (by kernel_rfl), ?_⟩⟩
      refine (compare_any a.s b.s _).mono ?_
      rintro e u' ⟨rfl, rfl⟩
      exact ⟨_, rfl, rfl, hR, Below.refl _ _⟩
    · -- 10
      have s2 : ρ (.tmp 2) = .pointer (some ⟨w.heap.size, 0, none⟩) := (hρ 2 (by kernel_rfl)).trans rfl
      exact .inl ⟨rfl, .inl ⟨.pointer (some ⟨w.heap.size, 2, none⟩), u, run_field_op rfl s2 (by go_simp), rfl, hR, Below.refl _ _⟩⟩
    · -- 11
      obtain ⟨c0, c1, c2, d0, d1, d2⟩ := cells hR
      have h10 : ρ (.tmp 15) = .pointer (some ⟨w.heap.size, 2, none⟩) := hd ⟨10, .data⟩ (by simp) rfl 15 rfl
      have hr : (Instr.loadAt 3 (.pointer (some ⟨w.heap.size, 2, none⟩))).run Tryd.prog u = .ok (.int .i64 a.lo) u := by go_simp
      exact .inl ⟨rfl, .inl ⟨.int .i64 a.lo, u, run_load_op rfl h10 hr, rfl, hR, Below.refl _ _⟩⟩
    · -- 12
      have s3 : ρ (.tmp 3) = .pointer (some ⟨w.heap.size + 1, 0, none⟩) := (hρ 3 (by kernel_rfl)).trans rfl
      exact .inl ⟨rfl, .inl ⟨.pointer (some ⟨w.heap.size + 1, 2, none⟩), u, run_field_op rfl s3 (by go_simp), rfl, hR, Below.refl _ _⟩⟩
    · -- 13
      obtain ⟨c0, c1, c2, d0, d1, d2⟩ := cells hR
      have h12 : ρ (.tmp 17) = .pointer (some ⟨w.heap.size + 1, 2, none⟩) := hd ⟨12, .data⟩ (by simp) rfl 17 rfl
      have hr : (Instr.loadAt 3 (.pointer (some ⟨w.heap.size + 1, 2, none⟩))).run Tryd.prog u = .ok (.int .i64 b.lo) u := by go_simp
      exact .inl ⟨rfl, .inl ⟨.int .i64 b.lo, u, run_load_op rfl h12 hr, rfl, hR, Below.refl _ _⟩⟩
    · -- 14
      have h11 : ρ (.tmp 16) = .int .i64 a.lo := hd ⟨11, .data⟩ (by simp) rfl 16 rfl
      have h13 : ρ (.tmp 18) = .int .i64 b.lo := hd ⟨13, .data⟩ (by simp) rfl 18 rfl
      refine .inl ⟨rfl, .inr ⟨_, _, run_call_op rfl (hf _) (args := #[.int .i64 a.lo, .int .i64 b.lo]) (by simp [h11, h13]) (by kernel_rfl), ?_⟩⟩
      refine (compare_any a.lo b.lo _).mono ?_
      rintro e u' ⟨rfl, rfl⟩
      exact ⟨_, rfl, rfl, hR, Below.refl _ _⟩
    · -- 15
      have h4 : ρ (.tmp 9) = .int .i64 (cmpI a.u b.u) := hd ⟨4, .data⟩ (by simp) rfl 9 rfl
      have h9 : ρ (.tmp 14) = .int .i64 (cmpI a.s b.s) := hd ⟨9, .data⟩ (by simp) rfl 14 rfl
      have h14 : ρ (.tmp 19) = .int .i64 (cmpI a.lo b.lo) := hd ⟨14, .data⟩ (by simp) rfl 19 rfl
      have hr : (Instr.buildSlice 55 3 #[(0, .int .i64 (cmpI a.u b.u)), (1, .int .i64 (cmpI a.s b.s)), (2, .int .i64 (cmpI a.lo b.lo))]).run Tryd.prog u = .ok (.slice (some ⟨u.heap.size, 0, none⟩) 3 3) (u.alloc (.cells #[.int .i64 (cmpI a.u b.u), .int .i64 (cmpI a.s b.s), .int .i64 (cmpI a.lo b.lo)] 3)) := by go_simp
      refine .inl ⟨rfl, .inl ⟨_, _, run_build_op rfl (qs := #[(0, .int .i64 (cmpI a.u b.u)), (1, .int .i64 (cmpI a.s b.s)), (2, .int .i64 (cmpI a.lo b.lo))]) (by simp [h4, h9, h14]) hr, ⟨_, rfl, by simp, ?_, ?_, ?_⟩, hR.alloc hR.size _, (Below.refl _ _).alloc (Nat.le_refl _) _⟩⟩
      all_goals simp [go_sem]
    · -- 16
      obtain ⟨g, hg, _, q0, q1, q2⟩ := hd ⟨15, .data⟩ (by simp) rfl 20 rfl
      refine .inl ⟨rfl, .inr ⟨_, _, run_call_op rfl (hf _) (args := #[.slice (some ⟨g, 0, none⟩) 3 3]) (by simp [hg]) (by kernel_rfl), ?_⟩⟩
      refine (or_any g _ _ _ _ q0 q1 q2).mono ?_
      rintro e u' ⟨rfl, rfl⟩
      exact ⟨_, rfl, rfl, hR, Below.refl _ _⟩
    · -- 17
      have h16 : ρ (.tmp 21) = .int .i64 (cmpR a b) := hd ⟨16, .data⟩ (by simp) rfl 21 rfl
      exact .inl ⟨rfl, .inl ⟨_, u, rfl, h16, hR, Below.refl _ _⟩⟩

end Go.Proofs.YtklnfeblkffgiaaDoor
