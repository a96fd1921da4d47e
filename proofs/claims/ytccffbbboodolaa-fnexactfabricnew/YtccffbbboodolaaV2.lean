/- Texts that the proof needs, joined: Sr1 Sr2 SrQ Sr3. -/
import Derived.Test.YtccffbbboodolaaV1
namespace Go.Proofs.Ytccffbbboodolaa
open Go.RowKit
set_option linter.unusedVariables false
set_option linter.unusedSimpArgs false
def cmpI (x y : Int) : Int := if x < y then -1 else if y < x then 1 else 0
theorem isNaN_any (x : Int) (w : World) : Calls Try.prog 78 #[.int .i64 x] w fun e w' => e = .returned (.bool false) ∧ w' = w := by
  go_enter Try.func78, Try.ntmps78
  go_wp2
  go_ret
  exact ⟨rfl, rfl⟩
theorem compare_any (x y : Int) (w : World) : Calls Try.prog 73 #[.int .i64 x, .int .i64 y] w fun e w' => e = .returned (.int .i64 (cmpI x y)) ∧ w' = w := by
  unfold cmpI
  by_cases h : x < y
  · rw [if_pos h]
    go_enter Try.func73, Try.ntmps73
    go_wp2_with fail
    refine (isNaN_any x _).mono ?_
    rintro e w1 ⟨rfl, rfl⟩
    go_wp2_with fail
    refine (isNaN_any y _).mono ?_
    rintro e w2 ⟨rfl, rfl⟩
    go_wp2
    go_ret
    exact ⟨rfl, rfl⟩
  · rw [if_neg h]
    by_cases h' : y < x
    · rw [if_pos h']
      go_enter Try.func73, Try.ntmps73
      go_wp2_with fail
      refine (isNaN_any x _).mono ?_
      rintro e w1 ⟨rfl, rfl⟩
      go_wp2_with fail
      refine (isNaN_any y _).mono ?_
      rintro e w2 ⟨rfl, rfl⟩
      go_wp2
      go_ret
      exact ⟨rfl, rfl⟩
    · rw [if_neg h']
      go_enter Try.func73, Try.ntmps73
      go_wp2_with fail
      refine (isNaN_any x _).mono ?_
      rintro e w1 ⟨rfl, rfl⟩
      go_wp2_with fail
      refine (isNaN_any y _).mono ?_
      rintro e w2 ⟨rfl, rfl⟩
      go_wp2
      go_ret
      exact ⟨rfl, rfl⟩
def orI (x y z : Int) : Int := if x ≠ 0 then x else if y ≠ 0 then y else z
set_option maxHeartbeats 1000000 in
theorem or_any (g : Nat) (x y z : Int) (w : World) (h0 : w.cell? ⟨g, 0, none⟩ = some (.int .i64 x)) (h1 : w.cell? ⟨g, 1, none⟩ = some (.int .i64 y)) (h2 : w.cell? ⟨g, 2, none⟩ = some (.int .i64 z)) :
    Calls Try.prog 72 #[.slice (some ⟨g, 0, none⟩) 3 3] w fun e w' => e = .returned (.int .i64 (orI x y z)) ∧ w' = w := by
  unfold orI
  by_cases e0 : x = 0
  · rw [if_neg (by omega)]
    by_cases e1 : y = 0
    · rw [if_neg (by omega)]
      by_cases e2 : z = 0
      · subst e2
        go_enter Try.func72, Try.ntmps72
        go_wp2
        refine wp_loop_rounds 4 ?_
        rw [rounds_succ]
        go_wp2
        rw [rounds_succ]
        go_wp2
        rw [rounds_succ]
        go_wp2
        rw [rounds_succ]
        go_wp2
        go_ret
        exact ⟨rfl, rfl⟩
      · go_enter Try.func72, Try.ntmps72
        go_wp2
        refine wp_loop_rounds 4 ?_
        rw [rounds_succ]
        go_wp2
        rw [rounds_succ]
        go_wp2
        rw [rounds_succ]
        go_wp2
        go_ret
        exact ⟨rfl, rfl⟩
    · rw [if_pos e1]
      go_enter Try.func72, Try.ntmps72
      go_wp2
      refine wp_loop_rounds 4 ?_
      rw [rounds_succ]
      go_wp2
      rw [rounds_succ]
      go_wp2
      go_ret
      exact ⟨rfl, rfl⟩
  · rw [if_pos e0]
    go_enter Try.func72, Try.ntmps72
    go_wp2
    refine wp_loop_rounds 4 ?_
    rw [rounds_succ]
    go_wp2
    go_ret
    exact ⟨rfl, rfl⟩
def cmpR (a b : Ru) : Int := orI (cmpI a.u b.u) (cmpI a.s b.s) (cmpI a.lo b.lo)
theorem cmpR_lt (a b : Ru) : cmpR a b < 0 ↔ ltR a b := by
  unfold cmpR orI cmpI ltR
  repeat' split
  all_goals omega
set_option maxHeartbeats 2000000 in
theorem byPlaces_any (a b : Ru) (w : World) : Calls Try.prog 65 #[.agg (ruc a), .agg (ruc b)] w fun e w' => e = .returned (.int .i64 (cmpR a b)) ∧ Below w.heap.size w w' := by
  obtain ⟨W, hW⟩ : ∃ W, W = (w.alloc (.cells (ruc a) 65)).alloc (.cells (ruc b) 65) := ⟨_, rfl⟩
  have B0 : Below w.heap.size w W := by rw [hW]; exact ((Below.refl _ w).alloc (Nat.le_refl _) _).alloc (by simp) _
  have HS : Hid (W.heap.size = w.heap.size + 2) := by rw [hW]; simp [Hid]
  have HC : Hid (W.cell? ⟨w.heap.size, 0, none⟩ = some (.int .i64 a.u) ∧ W.cell? ⟨w.heap.size, 1, none⟩ = some (.int .i64 a.s) ∧ W.cell? ⟨w.heap.size, 2, none⟩ = some (.int .i64 a.lo) ∧ W.cell? ⟨w.heap.size + 1, 0, none⟩ = some (.int .i64 b.u) ∧ W.cell? ⟨w.heap.size + 1, 1, none⟩ = some (.int .i64 b.s) ∧ W.cell? ⟨w.heap.size + 1, 2, none⟩ = some (.int .i64 b.lo)) := by rw [hW]; refine ⟨?_, ?_, ?_, ?_, ?_, ?_⟩ <;> simp [go_sem]
  have cells : ∀ {u : World}, Below W.heap.size W u → u.cell? ⟨w.heap.size, 0, none⟩ = some (.int .i64 a.u) ∧ u.cell? ⟨w.heap.size, 1, none⟩ = some (.int .i64 a.s) ∧ u.cell? ⟨w.heap.size, 2, none⟩ = some (.int .i64 a.lo) ∧ u.cell? ⟨w.heap.size + 1, 0, none⟩ = some (.int .i64 b.u) ∧ u.cell? ⟨w.heap.size + 1, 1, none⟩ = some (.int .i64 b.s) ∧ u.cell? ⟨w.heap.size + 1, 2, none⟩ = some (.int .i64 b.lo) := fun hb => by
    have hs := HS.out
    obtain ⟨k0, k1, k2, k3, k4, k5⟩ := HC.out
    refine ⟨?_, ?_, ?_, ?_, ?_, ?_⟩
    · rw [hb.cell (p := ⟨w.heap.size, 0, none⟩) (by show w.heap.size < W.heap.size; omega)]; exact k0
    · rw [hb.cell (p := ⟨w.heap.size, 1, none⟩) (by show w.heap.size < W.heap.size; omega)]; exact k1
    · rw [hb.cell (p := ⟨w.heap.size, 2, none⟩) (by show w.heap.size < W.heap.size; omega)]; exact k2
    · rw [hb.cell (p := ⟨w.heap.size + 1, 0, none⟩) (by show w.heap.size + 1 < W.heap.size; omega)]; exact k3
    · rw [hb.cell (p := ⟨w.heap.size + 1, 1, none⟩) (by show w.heap.size + 1 < W.heap.size; omega)]; exact k4
    · rw [hb.cell (p := ⟨w.heap.size + 1, 2, none⟩) (by show w.heap.size + 1 < W.heap.size; omega)]; exact k5
  go_enter Try.func65, Try.ntmps65
  go_wp2
  rw [← hW]
  clear hW
  refine wp_region_any (by kernel_rfl) ?_
  refine wpAny_vals (fun u => Below W.heap.size W u) (fun i v u => match i with
  | 0 => v = .pointer (some ⟨w.heap.size, 0, none⟩)
  | 1 => v = .int .i64 a.u
  | 2 => v = .pointer (some ⟨w.heap.size + 1, 0, none⟩)
  | 3 => v = .int .i64 b.u
  | 4 => v = .int .i64 (cmpI a.u b.u)
  | 5 => v = .pointer (some ⟨w.heap.size, 1, none⟩)
  | 6 => v = .int .i64 a.s
  | 7 => v = .pointer (some ⟨w.heap.size + 1, 1, none⟩)
  | 8 => v = .int .i64 b.s
  | 9 => v = .int .i64 (cmpI a.s b.s)
  | 10 => v = .pointer (some ⟨w.heap.size, 2, none⟩)
  | 11 => v = .int .i64 a.lo
  | 12 => v = .pointer (some ⟨w.heap.size + 1, 2, none⟩)
  | 13 => v = .int .i64 b.lo
  | 14 => v = .int .i64 (cmpI a.lo b.lo)
  | 15 => ∃ g, v = .slice (some ⟨g, 0, none⟩) 3 3 ∧ g < u.heap.size ∧ u.cell? ⟨g, 0, none⟩ = some (.int .i64 (cmpI a.u b.u)) ∧ u.cell? ⟨g, 1, none⟩ = some (.int .i64 (cmpI a.s b.s)) ∧ u.cell? ⟨g, 2, none⟩ = some (.int .i64 (cmpI a.lo b.lo))
  | 16 => v = .int .i64 (cmpR a b)
  | 17 => v = .int .i64 (cmpR a b)
  | _ => True) (by kernel_rfl) (by kernel_rfl) ?_ (Below.refl _ _).drew ?_ ?_ _ _ rfl (by decide) (fun i => by simp [Array.getD]; try (split <;> rfl))
  · intro i v u u' h hb
    match i, h with
    | 15, h =>
      obtain ⟨g, hg, hlt, q0, q1, q2⟩ := h
      refine ⟨g, hg, by have := hb.size; omega, ?_, ?_, ?_⟩
      · rw [hb.cell (p := ⟨g, 0, none⟩) hlt]; exact q0
      · rw [hb.cell (p := ⟨g, 1, none⟩) hlt]; exact q1
      · rw [hb.cell (p := ⟨g, 2, none⟩) hlt]; exact q2
    | 0, h => exact h
    | 1, h => exact h
    | 2, h => exact h
    | 3, h => exact h
    | 4, h => exact h
    | 5, h => exact h
    | 6, h => exact h
    | 7, h => exact h
    | 8, h => exact h
    | 9, h => exact h
    | 10, h => exact h
    | 11, h => exact h
    | 12, h => exact h
    | 13, h => exact h
    | 14, h => exact h
    | 16, h => exact h
    | 17, h => exact h
    | (k + 18), h => trivial
  · intro vs u hR hall
    have e17 : vs 17 = .int .i64 (cmpR a b) := hall 17 (by simp)
    have BU := bel_next B0 hR
    simp only [putsL]
    rw [e17]
    clear hall e17 cells HC HS B0
    go_simp
    go_wp2
    go_ret
    exact ⟨rfl, BU⟩
  · intro u i o ρ hR ho hρ hc hf hd
    have hi : i < 18 := by
      have := (Array.getElem?_eq_some_iff.1 ho).1
      simpa using this
    obtain rfl | rfl | rfl | rfl | rfl | rfl | rfl | rfl | rfl | rfl | rfl | rfl | rfl | rfl | rfl | rfl | rfl | rfl : i = 0 ∨ i = 1 ∨ i = 2 ∨ i = 3 ∨ i = 4 ∨ i = 5 ∨ i = 6 ∨ i = 7 ∨ i = 8 ∨ i = 9 ∨ i = 10 ∨ i = 11 ∨ i = 12 ∨ i = 13 ∨ i = 14 ∨ i = 15 ∨ i = 16 ∨ i = 17 := by omega
    all_goals (simp only [List.getElem?_toArray, List.getElem?_cons_zero, List.getElem?_cons_succ, Option.some.injEq] at ho; subst ho)
    · -- 0
      have s2 : ρ (.tmp 2) = .pointer (some ⟨w.heap.size, 0, none⟩) := (hρ 2 (by kernel_rfl)).trans rfl
      exact .inl ⟨rfl, .inl ⟨.pointer (some ⟨w.heap.size, 0, none⟩), u, run_field_op rfl s2 (by go_simp), rfl, hR, Below.refl _ _⟩⟩
    · -- 1
      obtain ⟨c0, c1, c2, d0, d1, d2⟩ := cells hR
      have h0 : ρ (.tmp 5) = .pointer (some ⟨w.heap.size, 0, none⟩) := hd ⟨0, .data⟩ (by simp) rfl 5 rfl
      have hr : (Instr.loadAt 3 (.pointer (some ⟨w.heap.size, 0, none⟩))).run Try.prog u = .ok (.int .i64 a.u) u := by go_simp
      exact .inl ⟨rfl, .inl ⟨.int .i64 a.u, u, run_load_op rfl h0 hr, rfl, hR, Below.refl _ _⟩⟩
    · -- 2
      have s3 : ρ (.tmp 3) = .pointer (some ⟨w.heap.size + 1, 0, none⟩) := (hρ 3 (by kernel_rfl)).trans rfl
      exact .inl ⟨rfl, .inl ⟨.pointer (some ⟨w.heap.size + 1, 0, none⟩), u, run_field_op rfl s3 (by go_simp), rfl, hR, Below.refl _ _⟩⟩
    · -- 3
      obtain ⟨c0, c1, c2, d0, d1, d2⟩ := cells hR
      have h2 : ρ (.tmp 7) = .pointer (some ⟨w.heap.size + 1, 0, none⟩) := hd ⟨2, .data⟩ (by simp) rfl 7 rfl
      have hr : (Instr.loadAt 3 (.pointer (some ⟨w.heap.size + 1, 0, none⟩))).run Try.prog u = .ok (.int .i64 b.u) u := by go_simp
      exact .inl ⟨rfl, .inl ⟨.int .i64 b.u, u, run_load_op rfl h2 hr, rfl, hR, Below.refl _ _⟩⟩
    · -- 4
      have h1 : ρ (.tmp 6) = .int .i64 a.u := hd ⟨1, .data⟩ (by simp) rfl 6 rfl
      have h3 : ρ (.tmp 8) = .int .i64 b.u := hd ⟨3, .data⟩ (by simp) rfl 8 rfl
      refine .inl ⟨rfl, .inr ⟨_, _, run_call_op rfl (hf _) (args := #[.int .i64 a.u, .int .i64 b.u]) (by simp [h1, h3]) (by kernel_rfl), ?_⟩⟩
      refine (compare_any a.u b.u _).mono ?_
      rintro e u' ⟨rfl, rfl⟩
      exact ⟨_, rfl, rfl, hR, Below.refl _ _⟩
    · -- 5
      have s2 : ρ (.tmp 2) = .pointer (some ⟨w.heap.size, 0, none⟩) := (hρ 2 (by kernel_rfl)).trans rfl
      exact .inl ⟨rfl, .inl ⟨.pointer (some ⟨w.heap.size, 1, none⟩), u, run_field_op rfl s2 (by go_simp), rfl, hR, Below.refl _ _⟩⟩
    · -- 6
      obtain ⟨c0, c1, c2, d0, d1, d2⟩ := cells hR
      have h5 : ρ (.tmp 10) = .pointer (some ⟨w.heap.size, 1, none⟩) := hd ⟨5, .data⟩ (by simp) rfl 10 rfl
      have hr : (Instr.loadAt 3 (.pointer (some ⟨w.heap.size, 1, none⟩))).run Try.prog u = .ok (.int .i64 a.s) u := by go_simp
      exact .inl ⟨rfl, .inl ⟨.int .i64 a.s, u, run_load_op rfl h5 hr, rfl, hR, Below.refl _ _⟩⟩
    · -- 7
      have s3 : ρ (.tmp 3) = .pointer (some ⟨w.heap.size + 1, 0, none⟩) := (hρ 3 (by kernel_rfl)).trans rfl
      exact .inl ⟨rfl, .inl ⟨.pointer (some ⟨w.heap.size + 1, 1, none⟩), u, run_field_op rfl s3 (by go_simp), rfl, hR, Below.refl _ _⟩⟩
    · -- 8
      obtain ⟨c0, c1, c2, d0, d1, d2⟩ := cells hR
      have h7 : ρ (.tmp 12) = .pointer (some ⟨w.heap.size + 1, 1, none⟩) := hd ⟨7, .data⟩ (by simp) rfl 12 rfl
      have hr : (Instr.loadAt 3 (.pointer (some ⟨w.heap.size + 1, 1, none⟩))).run Try.prog u = .ok (.int .i64 b.s) u := by go_simp
      exact .inl ⟨rfl, .inl ⟨.int .i64 b.s, u, run_load_op rfl h7 hr, rfl, hR, Below.refl _ _⟩⟩
    · -- 9
      have h6 : ρ (.tmp 11) = .int .i64 a.s := hd ⟨6, .data⟩ (by simp) rfl 11 rfl
      have h8 : ρ (.tmp 13) = .int .i64 b.s := hd ⟨8, .data⟩ (by simp) rfl 13 rfl
      refine .inl ⟨rfl, .inr ⟨_, _, run_call_op rfl (hf _) (args := #[.int .i64 a.s, .int .i64 b.s]) (by simp [h6, h8]) (by kernel_rfl), ?_⟩⟩
      refine (compare_any a.s b.s _).mono ?_
      rintro e u' ⟨rfl, rfl⟩
      exact ⟨_, rfl, rfl, hR, Below.refl _ _⟩
    · -- 10
      have s2 : ρ (.tmp 2) = .pointer (some ⟨w.heap.size, 0, none⟩) := (hρ 2 (by kernel_rfl)).trans rfl
      exact .inl ⟨rfl, .inl ⟨.pointer (some ⟨w.heap.size, 2, none⟩), u, run_field_op rfl s2 (by go_simp), rfl, hR, Below.refl _ _⟩⟩
    · -- 11
      obtain ⟨c0, c1, c2, d0, d1, d2⟩ := cells hR
      have h10 : ρ (.tmp 15) = .pointer (some ⟨w.heap.size, 2, none⟩) := hd ⟨10, .data⟩ (by simp) rfl 15 rfl
      have hr : (Instr.loadAt 3 (.pointer (some ⟨w.heap.size, 2, none⟩))).run Try.prog u = .ok (.int .i64 a.lo) u := by go_simp
      exact .inl ⟨rfl, .inl ⟨.int .i64 a.lo, u, run_load_op rfl h10 hr, rfl, hR, Below.refl _ _⟩⟩
    · -- 12
      have s3 : ρ (.tmp 3) = .pointer (some ⟨w.heap.size + 1, 0, none⟩) := (hρ 3 (by kernel_rfl)).trans rfl
      exact .inl ⟨rfl, .inl ⟨.pointer (some ⟨w.heap.size + 1, 2, none⟩), u, run_field_op rfl s3 (by go_simp), rfl, hR, Below.refl _ _⟩⟩
    · -- 13
      obtain ⟨c0, c1, c2, d0, d1, d2⟩ := cells hR
      have h12 : ρ (.tmp 17) = .pointer (some ⟨w.heap.size + 1, 2, none⟩) := hd ⟨12, .data⟩ (by simp) rfl 17 rfl
      have hr : (Instr.loadAt 3 (.pointer (some ⟨w.heap.size + 1, 2, none⟩))).run Try.prog u = .ok (.int .i64 b.lo) u := by go_simp
      exact .inl ⟨rfl, .inl ⟨.int .i64 b.lo, u, run_load_op rfl h12 hr, rfl, hR, Below.refl _ _⟩⟩
    · -- 14
      have h11 : ρ (.tmp 16) = .int .i64 a.lo := hd ⟨11, .data⟩ (by simp) rfl 16 rfl
      have h13 : ρ (.tmp 18) = .int .i64 b.lo := hd ⟨13, .data⟩ (by simp) rfl 18 rfl
      refine .inl ⟨rfl, .inr ⟨_, _, run_call_op rfl (hf _) (args := #[.int .i64 a.lo, .int .i64 b.lo]) (by simp [h11, h13]) (by kernel_rfl), ?_⟩⟩
      refine (compare_any a.lo b.lo _).mono ?_
      rintro e u' ⟨rfl, rfl⟩
      exact ⟨_, rfl, rfl, hR, Below.refl _ _⟩
    · -- 15
      have h4 : ρ (.tmp 9) = .int .i64 (cmpI a.u b.u) := hd ⟨4, .data⟩ (by simp) rfl 9 rfl
      have h9 : ρ (.tmp 14) = .int .i64 (cmpI a.s b.s) := hd ⟨9, .data⟩ (by simp) rfl 14 rfl
      have h14 : ρ (.tmp 19) = .int .i64 (cmpI a.lo b.lo) := hd ⟨14, .data⟩ (by simp) rfl 19 rfl
      have hr : (Instr.buildSlice 45 3 #[(0, .int .i64 (cmpI a.u b.u)), (1, .int .i64 (cmpI a.s b.s)), (2, .int .i64 (cmpI a.lo b.lo))]).run Try.prog u = .ok (.slice (some ⟨u.heap.size, 0, none⟩) 3 3) (u.alloc (.cells #[.int .i64 (cmpI a.u b.u), .int .i64 (cmpI a.s b.s), .int .i64 (cmpI a.lo b.lo)] 3)) := by go_simp
      refine .inl ⟨rfl, .inl ⟨_, _, run_build_op rfl (qs := #[(0, .int .i64 (cmpI a.u b.u)), (1, .int .i64 (cmpI a.s b.s)), (2, .int .i64 (cmpI a.lo b.lo))]) (by simp [h4, h9, h14]) hr, ⟨_, rfl, by simp, ?_, ?_, ?_⟩, hR.alloc hR.size _, (Below.refl _ _).alloc (Nat.le_refl _) _⟩⟩
      all_goals simp [go_sem]
    · -- 16
      obtain ⟨g, hg, _, q0, q1, q2⟩ := hd ⟨15, .data⟩ (by simp) rfl 20 rfl
      refine .inl ⟨rfl, .inr ⟨_, _, run_call_op rfl (hf _) (args := #[.slice (some ⟨g, 0, none⟩) 3 3]) (by simp [hg]) (by kernel_rfl), ?_⟩⟩
      refine (or_any g _ _ _ _ q0 q1 q2).mono ?_
      rintro e u' ⟨rfl, rfl⟩
      exact ⟨_, rfl, rfl, hR, Below.refl _ _⟩
    · -- 17
      have h16 : ρ (.tmp 21) = .int .i64 (cmpR a b) := hd ⟨16, .data⟩ (by simp) rfl 21 rfl
      exact .inl ⟨rfl, .inl ⟨_, u, rfl, h16, hR, Below.refl _ _⟩⟩
end Go.Proofs.Ytccffbbboodolaa
namespace Go.Proofs.Ytccffbbboodolaa
open Go.RowKit
set_option linter.unusedVariables false
set_option linter.unusedSimpArgs false
set_option maxRecDepth 20000 in
set_option maxHeartbeats 4000000 in
theorem insertion_any (g n c a b : Nat) (f : Nat → Ru) (w0 w : World) (hb : Below w0.heap.size w0 w) (hg : w0.heap.size ≤ g) (hr : RowU w g n f) (hbn : b ≤ n) (hn : n ≤ 1000000) (ha : a ≤ n) :
    Calls Try.prog 79 #[.slice (some ⟨g, 0, none⟩) n c, .int .i64 (a : Int), .int .i64 (b : Int), .func (.func 65) #[] #[]] w fun e w' => e = .returned (.tuple #[]) ∧ ∃ f', RowU w' g n f' ∧ PermIn a b f f' ∧ SortedOn f' a b ∧ Below w0.heap.size w0 w' := by
  have wa : IntKind.i64.wrap ((a : Int) + 1) = ((a + 1 : Nat) : Int) := by rw [IntKind.wrap_i64]; omega
  go_enter Try.func79, Try.ntmps79
  go_wp2
  go_loopw [8] (fun i wr => ∃ (k : Nat) (h : Nat → Ru), a < k ∧ (k ≤ b ∨ k = a + 1) ∧ i = .int .i64 k ∧ RowU wr g n h ∧ PermIn a b f h ∧ SortedOn h a k ∧ Below w0.heap.size w0 wr) (fun i _ => b - (intOf i).toNat)
  case atStart => exact ⟨a + 1, f, by omega, .inr rfl, by first | rfl | simp, hr, PermIn.refl _ _ _, fun p q h1 h2 h3 => by omega, hb⟩
  case round =>
    obtain ⟨k, h0, hk, hkb, rfl, hrow0, hp0, hso, hbl0⟩ := hrel
    by_cases hlt : k < b
    · have hi : (k : Int) < (b : Int) := by omega
      have HS0 : Hid (RowU wr g n h0 ∧ PermIn a b f h0 ∧ SortedOn h0 a k ∧ Below w0.heap.size w0 wr) := ⟨hrow0, hp0, hso, hbl0⟩
      clear hrow0 hp0 hso hbl0 hr hb hkb
      go_wp2
      go_loopw [9] (fun i wr => ∃ (j : Nat) (h : Nat → Ru), a ≤ j ∧ j ≤ k ∧ i = .int .i64 j ∧ RowU wr g n h ∧ PermIn a b f h ∧ InsI h a k j ∧ Below w0.heap.size w0 wr) (fun i _ => (intOf i).toNat)
      case atStart => exact ⟨k, h0, by omega, Nat.le_refl _, rfl, HS0.out.1, HS0.out.2.1, InsI.start HS0.out.2.2.1, HS0.out.2.2.2⟩
      case round =>
        clear HS0
        obtain ⟨j, h, hja, hjk, rfl, hrow, hp, hI, hbl⟩ := hrel
        have HROW : Hid (RowU wr g n h ∧ Below w0.heap.size w0 wr) := ⟨hrow, hbl⟩
        have HP : Hid (PermIn a b f h) := hp
        have HI : Hid (InsI h a k j) := hI
        clear hrow hbl hp hI
        by_cases hj : a < j
        · have hj' : (a : Int) < (j : Int) := by omega
          obtain ⟨m, hm⟩ : ∃ m, j = m + 1 := ⟨j - 1, by omega⟩
          have wm : IntKind.i64.wrap ((j : Int) - 1) = (m : Int) := by rw [IntKind.wrap_i64]; omega
          have hjn : (j : Int) < (n : Int) := by omega
          have hmn : (m : Int) < (n : Int) := by omega
          have hIJ : ¬ j = m := by omega
          have hJI : ¬ m = j := by omega
          have HM : Hid (j = m + 1) := hm
          by_cases hx : ltR (h j) (h m)
          · have hc0 : cmpR (h j) (h m) < 0 := (cmpR_lt _ _).2 hx
            have HL : Hid (ltR (h j) (h (j - 1))) := by rw [show j - 1 = m by omega]; exact hx
            clear hx hm
            go_wp2
            refine wp_region_any (by kernel_rfl) ?_
            refine wpAny_vals (fun u => Below wr.heap.size wr u) (fun i v u => match i with
              | 0 => v = .int .i64 (j : Int)
              | 1 => v = .int .i64 (a : Int)
              | 2 => v = .bool true
              | 3 => v = .bool true
              | 4 => v = .func (.func 65) #[] #[]
              | 5 => v = .slice (some ⟨g, 0, none⟩) n c
              | 6 => v = .int .i64 (j : Int)
              | 7 => v = .pointer (some ⟨g, j * 7, none⟩)
              | 8 => v = .agg (ruc (h j))
              | 9 => v = .slice (some ⟨g, 0, none⟩) n c
              | 10 => v = .int .i64 (j : Int)
              | 11 => v = .int .i64 (m : Int)
              | 12 => v = .pointer (some ⟨g, m * 7, none⟩)
              | 13 => v = .agg (ruc (h m))
              | 14 => v = .int .i64 (cmpR (h j) (h m))
              | 15 => v = .bool true
              | 16 => v = .bool true
              | _ => True) (by kernel_rfl) (by kernel_rfl) (fun _ _ _ _ h _ => h) (Below.refl _ _).drew ?_ ?_ _ _ rfl (by decide) (fun i => by simp [Array.getD]; try (split <;> rfl))
            · intro vs u hR hall
              have e16 : vs 16 = .bool true := hall 16 (by simp)
              simp only [putsL]
              rw [e16]
              clear hall e16
              have HROW2 : Hid (RowU u g n h ∧ Below w0.heap.size w0 u) := ⟨HROW.out.1.below hR, bel_next HROW.out.2 hR⟩
              clear hR HROW
              go_simp
              go_wp2
              refine wp_region_any (by kernel_rfl) ?_
              refine wpAny_valw (fun l u => RowU u g n (fun k => if l 15 = true ∧ k = j then h m else if l 17 = true ∧ k = m then h j else h k) ∧ Below w0.heap.size w0 u) (fun _ _ => True) (fun i v u => match i with
                | 0 => v = .slice (some ⟨g, 0, none⟩) n c
                | 1 => v = .int .i64 (j : Int)
                | 2 => v = .slice (some ⟨g, 0, none⟩) n c
                | 3 => v = .int .i64 (j : Int)
                | 4 => v = .int .i64 (m : Int)
                | 5 => v = .slice (some ⟨g, 0, none⟩) n c
                | 6 => v = .int .i64 (j : Int)
                | 7 => v = .int .i64 (m : Int)
                | 8 => v = .pointer (some ⟨g, m * 7, none⟩)
                | 9 => v = .agg (ruc (h m))
                | 10 => v = .slice (some ⟨g, 0, none⟩) n c
                | 11 => v = .int .i64 (j : Int)
                | 12 => v = .pointer (some ⟨g, j * 7, none⟩)
                | 13 => v = .agg (ruc (h j))
                | 14 => v = .pointer (some ⟨g, j * 7, none⟩)
                | 16 => v = .pointer (some ⟨g, m * 7, none⟩)
                | _ => True) (by kernel_rfl) (by kernel_rfl) (fun _ _ _ _ h _ => h) (fun _ => trivial) ⟨RowS.congr (RowS.below HROW2.out.1 (Below.refl _ _).drew) (fun k _ => by simp), HROW2.out.2.drew⟩ ?_ ?_ _ _ rfl (by decide) (fun i => by simp [Array.getD]; try (split <;> rfl))
              · intro vs u hR _
                have R2 : RowU u g n (fun k => h (swI j m k)) := hR.1.congr (fun k _ => congrArg rul (by by_cases e1 : k = j <;> by_cases e2 : k = m <;> simp [swI, e1, e2, hJI, hIJ]))
                have B2 := hR.2
                have HX : Hid (RowU u g n (fun k => h (swI j m k)) ∧ Below w0.heap.size w0 u) := ⟨R2, B2⟩
                clear R2 B2 hR HROW2
                simp only [putsL]
                go_simp
                go_wp2
                go_roundw
                case rel => exact ⟨m, _, (by have := HM.out; omega), (by have := HM.out; omega), by first | rfl | go_num, HX.out.1, HP.out.trans (PermIn.swap _ (by omega) (by omega) (by have := HM.out; omega) (by have := HM.out; omega)), (by have := HI.out.step hj hjk HL.out; rw [show j - 1 = m by have := HM.out; omega] at this; exact this), HX.out.2⟩
                case measure => (have := HM.out; simp [intOf]; omega)
              · intro u i o ρ l hR ho hli hcl hρ hc hf hd hv
                have hi : i < 18 := by
                  have := (Array.getElem?_eq_some_iff.1 ho).1
                  simpa using this
                obtain rfl | rfl | rfl | rfl | rfl | rfl | rfl | rfl | rfl | rfl | rfl | rfl | rfl | rfl | rfl | rfl | rfl | rfl : i = 0 ∨ i = 1 ∨ i = 2 ∨ i = 3 ∨ i = 4 ∨ i = 5 ∨ i = 6 ∨ i = 7 ∨ i = 8 ∨ i = 9 ∨ i = 10 ∨ i = 11 ∨ i = 12 ∨ i = 13 ∨ i = 14 ∨ i = 15 ∨ i = 16 ∨ i = 17 := by omega
                all_goals (simp only [List.getElem?_toArray, List.getElem?_cons_zero, List.getElem?_cons_succ, Option.some.injEq] at ho; subst ho)
                · -- 0
                  have s0 : ρ (.tmp 0) = .slice (some ⟨g, 0, none⟩) n c := (hρ 0 (by kernel_rfl)).trans rfl
                  exact .inl ⟨rfl, .inl ⟨_, u, rfl, s0, (by simpa [updB] using hR), trivial⟩⟩
                · -- 1
                  have s9 : ρ (.tmp 9) = .int .i64 (j : Int) := (hρ 9 (by kernel_rfl)).trans rfl
                  exact .inl ⟨rfl, .inl ⟨_, u, rfl, s9, (by simpa [updB] using hR), trivial⟩⟩
                · -- 2
                  have s0 : ρ (.tmp 0) = .slice (some ⟨g, 0, none⟩) n c := (hρ 0 (by kernel_rfl)).trans rfl
                  exact .inl ⟨rfl, .inl ⟨_, u, rfl, s0, (by simpa [updB] using hR), trivial⟩⟩
                · -- 3
                  have s9 : ρ (.tmp 9) = .int .i64 (j : Int) := (hρ 9 (by kernel_rfl)).trans rfl
                  exact .inl ⟨rfl, .inl ⟨_, u, rfl, s9, (by simpa [updB] using hR), trivial⟩⟩
                · -- 4
                  have h3 : ρ (.tmp 40) = .int .i64 (j : Int) := hv 3 40 rfl (hd ⟨3, .data⟩ (by simp) rfl)
                  exact .inl ⟨rfl, .inl ⟨.int .i64 (m : Int), u, run_bin_op rfl h3 (hc _) (by go_simp), rfl, (by simpa [updB] using hR), trivial⟩⟩
                · -- 5
                  have s0 : ρ (.tmp 0) = .slice (some ⟨g, 0, none⟩) n c := (hρ 0 (by kernel_rfl)).trans rfl
                  exact .inl ⟨rfl, .inl ⟨_, u, rfl, s0, (by simpa [updB] using hR), trivial⟩⟩
                · -- 6
                  have s9 : ρ (.tmp 9) = .int .i64 (j : Int) := (hρ 9 (by kernel_rfl)).trans rfl
                  exact .inl ⟨rfl, .inl ⟨_, u, rfl, s9, (by simpa [updB] using hR), trivial⟩⟩
                · -- 7
                  have h6 : ρ (.tmp 43) = .int .i64 (j : Int) := hv 6 43 rfl (hd ⟨6, .data⟩ (by simp) rfl)
                  exact .inl ⟨rfl, .inl ⟨.int .i64 (m : Int), u, run_bin_op rfl h6 (hc _) (by go_simp), rfl, (by simpa [updB] using hR), trivial⟩⟩
                · -- 8
                  have h5 : ρ (.tmp 42) = .slice (some ⟨g, 0, none⟩) n c := hv 5 42 rfl (hd ⟨5, .data⟩ (by simp) rfl)
                  have h7 : ρ (.tmp 44) = .int .i64 (m : Int) := hv 7 44 rfl (hd ⟨7, .data⟩ (by simp) rfl)
                  exact .inl ⟨rfl, .inl ⟨.pointer (some ⟨g, m * 7, none⟩), u, run_index_op rfl h5 h7 (by go_simp), rfl, (by simpa [updB] using hR), trivial⟩⟩
                · -- 9
                  have n1 : l 15 = false := (by cases hx : l 15; (rfl); (have h1 := hcl 15 _ rfl hx ⟨9, .data⟩ (by simp) rfl; rw [hli] at h1; cases h1))
                  have n2 : l 17 = false := (by cases hx : l 17; (rfl); (have h1 := hcl 17 _ rfl hx ⟨9, .phase⟩ (by simp) rfl; rw [hli] at h1; cases h1))
                  have R0 : RowU u g n h := hR.1.congr (fun k _ => by simp [n1, n2])
                  obtain ⟨d0, d1, d2, d3, d4, d5, d6⟩ := RowU.seven R0 (show m < n from by omega)
                  clear R0
                  have h8 : ρ (.tmp 45) = .pointer (some ⟨g, m * 7, none⟩) := hv 8 45 rfl (hd ⟨8, .data⟩ (by simp) rfl)
                  have hr : (Instr.loadAt 65 (.pointer (some ⟨g, m * 7, none⟩))).run Try.prog u = .ok (.agg (ruc (h m))) u := by go_simp
                  exact .inl ⟨rfl, .inl ⟨.agg (ruc (h m)), u, run_load_op rfl h8 hr, rfl, (by simpa [updB] using hR), trivial⟩⟩
                · -- 10
                  have s0 : ρ (.tmp 0) = .slice (some ⟨g, 0, none⟩) n c := (hρ 0 (by kernel_rfl)).trans rfl
                  exact .inl ⟨rfl, .inl ⟨_, u, rfl, s0, (by simpa [updB] using hR), trivial⟩⟩
                · -- 11
                  have s9 : ρ (.tmp 9) = .int .i64 (j : Int) := (hρ 9 (by kernel_rfl)).trans rfl
                  exact .inl ⟨rfl, .inl ⟨_, u, rfl, s9, (by simpa [updB] using hR), trivial⟩⟩
                · -- 12
                  have h10 : ρ (.tmp 47) = .slice (some ⟨g, 0, none⟩) n c := hv 10 47 rfl (hd ⟨10, .data⟩ (by simp) rfl)
                  have h11 : ρ (.tmp 48) = .int .i64 (j : Int) := hv 11 48 rfl (hd ⟨11, .data⟩ (by simp) rfl)
                  exact .inl ⟨rfl, .inl ⟨.pointer (some ⟨g, j * 7, none⟩), u, run_index_op rfl h10 h11 (by go_simp), rfl, (by simpa [updB] using hR), trivial⟩⟩
                · -- 13
                  have n1 : l 15 = false := (by cases hx : l 15; (rfl); (have h1 := hcl 15 _ rfl hx ⟨13, .phase⟩ (by simp) rfl; rw [hli] at h1; cases h1))
                  have n2 : l 17 = false := (by cases hx : l 17; (rfl); (have h1 := hcl 17 _ rfl hx ⟨13, .data⟩ (by simp) rfl; rw [hli] at h1; cases h1))
                  have R0 : RowU u g n h := hR.1.congr (fun k _ => by simp [n1, n2])
                  obtain ⟨d0, d1, d2, d3, d4, d5, d6⟩ := RowU.seven R0 (show j < n from by omega)
                  clear R0
                  have h12 : ρ (.tmp 49) = .pointer (some ⟨g, j * 7, none⟩) := hv 12 49 rfl (hd ⟨12, .data⟩ (by simp) rfl)
                  have hr : (Instr.loadAt 65 (.pointer (some ⟨g, j * 7, none⟩))).run Try.prog u = .ok (.agg (ruc (h j))) u := by go_simp
                  exact .inl ⟨rfl, .inl ⟨.agg (ruc (h j)), u, run_load_op rfl h12 hr, rfl, (by simpa [updB] using hR), trivial⟩⟩
                · -- 14
                  have h0 : ρ (.tmp 37) = .slice (some ⟨g, 0, none⟩) n c := hv 0 37 rfl (hd ⟨0, .data⟩ (by simp) rfl)
                  have h1 : ρ (.tmp 38) = .int .i64 (j : Int) := hv 1 38 rfl (hd ⟨1, .data⟩ (by simp) rfl)
                  exact .inl ⟨rfl, .inl ⟨.pointer (some ⟨g, j * 7, none⟩), u, run_index_op rfl h0 h1 (by go_simp), rfl, (by simpa [updB] using hR), trivial⟩⟩
                · -- 15
                  obtain ⟨d0, d1, d2, d3, d4, d5, d6⟩ := RowU.seven hR.1 (show j < n from by omega)
                  have f0 := RowS.fro hR.1 (j * 7)
                  have f1 := RowS.fro hR.1 (j * 7 + 1)
                  have f2 := RowS.fro hR.1 (j * 7 + 2)
                  have f3 := RowS.fro hR.1 (j * 7 + 3)
                  have f4 := RowS.fro hR.1 (j * 7 + 4)
                  have f5 := RowS.fro hR.1 (j * 7 + 5)
                  have f6 := RowS.fro hR.1 (j * 7 + 6)
                  have h14 : ρ (.tmp 51) = .pointer (some ⟨g, j * 7, none⟩) := hv 14 51 rfl (hd ⟨14, .data⟩ (by simp) rfl)
                  have h9 : ρ (.tmp 46) = .agg (ruc (h m)) := hv 9 46 rfl (hd ⟨9, .data⟩ (by simp) rfl)
                  have hr : (Instr.storeAt 65 (.pointer (some ⟨g, j * 7, none⟩)) (.agg (ruc (h m)))).run Try.prog u = .ok () ((((((((u).setCell ⟨g, j * 7, none⟩ (.int .i64 (h m).u)).setCell ⟨g, j * 7 + 1, none⟩ (.int .i64 (h m).s)).setCell ⟨g, j * 7 + 2, none⟩ (.int .i64 (h m).lo)).setCell ⟨g, j * 7 + 3, none⟩ (.int .i64 (h m).hi)).setCell ⟨g, j * 7 + 4, none⟩ (.int .i64 (h m).p)).setCell ⟨g, j * 7 + 5, none⟩ (.int .i64 (h m).t)).setCell ⟨g, j * 7 + 6, none⟩ (.int .i64 (h m).sh)) := by go_simp
                  have hR2 := RowS.set hR.1 (show j < n from by omega) (rul (h m)) rfl
                  have hB2 := setL_below (g := g) hg (rul (h m)) u (j * 7) hR.2
                  exact .inl ⟨rfl, .inr (.inr ⟨rfl, _, run_store_op rfl h14 h9 hr, ⟨hR2.congr (fun k _ => by by_cases e : k = j <;> simp [updB, e, hIJ, hJI]), hB2⟩, trivial⟩)⟩
                · -- 16
                  have h2 : ρ (.tmp 39) = .slice (some ⟨g, 0, none⟩) n c := hv 2 39 rfl (hd ⟨2, .data⟩ (by simp) rfl)
                  have h4 : ρ (.tmp 41) = .int .i64 (m : Int) := hv 4 41 rfl (hd ⟨4, .data⟩ (by simp) rfl)
                  exact .inl ⟨rfl, .inl ⟨.pointer (some ⟨g, m * 7, none⟩), u, run_index_op rfl h2 h4 (by go_simp), rfl, (by simpa [updB] using hR), trivial⟩⟩
                · -- 17
                  obtain ⟨d0, d1, d2, d3, d4, d5, d6⟩ := RowU.seven hR.1 (show m < n from by omega)
                  have f0 := RowS.fro hR.1 (m * 7)
                  have f1 := RowS.fro hR.1 (m * 7 + 1)
                  have f2 := RowS.fro hR.1 (m * 7 + 2)
                  have f3 := RowS.fro hR.1 (m * 7 + 3)
                  have f4 := RowS.fro hR.1 (m * 7 + 4)
                  have f5 := RowS.fro hR.1 (m * 7 + 5)
                  have f6 := RowS.fro hR.1 (m * 7 + 6)
                  have h16 : ρ (.tmp 52) = .pointer (some ⟨g, m * 7, none⟩) := hv 16 52 rfl (hd ⟨16, .data⟩ (by simp) rfl)
                  have h13 : ρ (.tmp 50) = .agg (ruc (h j)) := hv 13 50 rfl (hd ⟨13, .data⟩ (by simp) rfl)
                  have hr : (Instr.storeAt 65 (.pointer (some ⟨g, m * 7, none⟩)) (.agg (ruc (h j)))).run Try.prog u = .ok () ((((((((u).setCell ⟨g, m * 7, none⟩ (.int .i64 (h j).u)).setCell ⟨g, m * 7 + 1, none⟩ (.int .i64 (h j).s)).setCell ⟨g, m * 7 + 2, none⟩ (.int .i64 (h j).lo)).setCell ⟨g, m * 7 + 3, none⟩ (.int .i64 (h j).hi)).setCell ⟨g, m * 7 + 4, none⟩ (.int .i64 (h j).p)).setCell ⟨g, m * 7 + 5, none⟩ (.int .i64 (h j).t)).setCell ⟨g, m * 7 + 6, none⟩ (.int .i64 (h j).sh)) := by go_simp
                  have hR2 := RowS.set hR.1 (show m < n from by omega) (rul (h j)) rfl
                  have hB2 := setL_below (g := g) hg (rul (h j)) u (m * 7) hR.2
                  exact .inl ⟨rfl, .inr (.inr ⟨rfl, _, run_store_op rfl h16 h13 hr, ⟨hR2.congr (fun k _ => by by_cases e : k = m <;> simp [updB, e, hIJ, hJI]), hB2⟩, trivial⟩)⟩
            · intro u i o ρ hR ho hρ hc hf hd
              have hi : i < 17 := by
                have := (Array.getElem?_eq_some_iff.1 ho).1
                simpa using this
              obtain rfl | rfl | rfl | rfl | rfl | rfl | rfl | rfl | rfl | rfl | rfl | rfl | rfl | rfl | rfl | rfl | rfl : i = 0 ∨ i = 1 ∨ i = 2 ∨ i = 3 ∨ i = 4 ∨ i = 5 ∨ i = 6 ∨ i = 7 ∨ i = 8 ∨ i = 9 ∨ i = 10 ∨ i = 11 ∨ i = 12 ∨ i = 13 ∨ i = 14 ∨ i = 15 ∨ i = 16 := by omega
              all_goals (simp only [List.getElem?_toArray, List.getElem?_cons_zero, List.getElem?_cons_succ, Option.some.injEq] at ho; subst ho)
              · -- 0
                have s9 : ρ (.tmp 9) = .int .i64 (j : Int) := (hρ 9 (by kernel_rfl)).trans rfl
                exact .inl ⟨rfl, .inl ⟨_, u, rfl, s9, hR, Below.refl _ _⟩⟩
              · -- 1
                have s1 : ρ (.tmp 1) = .int .i64 (a : Int) := (hρ 1 (by kernel_rfl)).trans rfl
                exact .inl ⟨rfl, .inl ⟨_, u, rfl, s1, hR, Below.refl _ _⟩⟩
              · -- 2
                have h0 : ρ (.tmp 18) = .int .i64 (j : Int) := hd ⟨0, .data⟩ (by simp) rfl 18 rfl
                have h1 : ρ (.tmp 19) = .int .i64 (a : Int) := hd ⟨1, .data⟩ (by simp) rfl 19 rfl
                exact .inl ⟨rfl, .inl ⟨.bool true, u, run_bin_op rfl h0 h1 (by go_simp), rfl, hR, Below.refl _ _⟩⟩
              · -- 3
                have h2 : ρ (.tmp 20) = .bool true := hd ⟨2, .data⟩ (by simp) rfl 20 rfl
                exact .inl ⟨rfl, .inl ⟨_, u, rfl, h2, hR, Below.refl _ _⟩⟩
              · -- 4
                have g3 : ρ (.tmp 21) = .bool true := hd ⟨3, .guard⟩ (by simp) rfl 21 rfl
                have s3 : ρ (.tmp 3) = .func (.func 65) #[] #[] := (hρ 3 (by kernel_rfl)).trans rfl
                exact .inl ⟨(by show (match ρ (.tmp 21) with | .bool b => b == true | _ => false) = true; rw [g3]; rfl), .inl ⟨_, u, rfl, s3, hR, Below.refl _ _⟩⟩
              · -- 5
                have g3 : ρ (.tmp 21) = .bool true := hd ⟨3, .guard⟩ (by simp) rfl 21 rfl
                have s0 : ρ (.tmp 0) = .slice (some ⟨g, 0, none⟩) n c := (hρ 0 (by kernel_rfl)).trans rfl
                exact .inl ⟨(by show (match ρ (.tmp 21) with | .bool b => b == true | _ => false) = true; rw [g3]; rfl), .inl ⟨_, u, rfl, s0, hR, Below.refl _ _⟩⟩
              · -- 6
                have g3 : ρ (.tmp 21) = .bool true := hd ⟨3, .guard⟩ (by simp) rfl 21 rfl
                have s9 : ρ (.tmp 9) = .int .i64 (j : Int) := (hρ 9 (by kernel_rfl)).trans rfl
                exact .inl ⟨(by show (match ρ (.tmp 21) with | .bool b => b == true | _ => false) = true; rw [g3]; rfl), .inl ⟨_, u, rfl, s9, hR, Below.refl _ _⟩⟩
              · -- 7
                have g3 : ρ (.tmp 21) = .bool true := hd ⟨3, .guard⟩ (by simp) rfl 21 rfl
                have h5 : ρ (.tmp 23) = .slice (some ⟨g, 0, none⟩) n c := hd ⟨5, .data⟩ (by simp) rfl 23 rfl
                have h6 : ρ (.tmp 24) = .int .i64 (j : Int) := hd ⟨6, .data⟩ (by simp) rfl 24 rfl
                exact .inl ⟨(by show (match ρ (.tmp 21) with | .bool b => b == true | _ => false) = true; rw [g3]; rfl), .inl ⟨.pointer (some ⟨g, j * 7, none⟩), u, run_index_op rfl h5 h6 (by go_simp), rfl, hR, Below.refl _ _⟩⟩
              · -- 8
                have R0 : RowU u g n h := HROW.out.1.below hR
                obtain ⟨d0, d1, d2, d3, d4, d5, d6⟩ := RowU.seven R0 (show j < n from by omega)
                clear R0
                have g3 : ρ (.tmp 21) = .bool true := hd ⟨3, .guard⟩ (by simp) rfl 21 rfl
                have h7 : ρ (.tmp 25) = .pointer (some ⟨g, j * 7, none⟩) := hd ⟨7, .data⟩ (by simp) rfl 25 rfl
                have hr : (Instr.loadAt 65 (.pointer (some ⟨g, j * 7, none⟩))).run Try.prog u = .ok (.agg (ruc (h j))) u := by go_simp
                exact .inl ⟨(by show (match ρ (.tmp 21) with | .bool b => b == true | _ => false) = true; rw [g3]; rfl), .inl ⟨.agg (ruc (h j)), u, run_load_op rfl h7 hr, rfl, hR, Below.refl _ _⟩⟩
              · -- 9
                have g3 : ρ (.tmp 21) = .bool true := hd ⟨3, .guard⟩ (by simp) rfl 21 rfl
                have s0 : ρ (.tmp 0) = .slice (some ⟨g, 0, none⟩) n c := (hρ 0 (by kernel_rfl)).trans rfl
                exact .inl ⟨(by show (match ρ (.tmp 21) with | .bool b => b == true | _ => false) = true; rw [g3]; rfl), .inl ⟨_, u, rfl, s0, hR, Below.refl _ _⟩⟩
              · -- 10
                have g3 : ρ (.tmp 21) = .bool true := hd ⟨3, .guard⟩ (by simp) rfl 21 rfl
                have s9 : ρ (.tmp 9) = .int .i64 (j : Int) := (hρ 9 (by kernel_rfl)).trans rfl
                exact .inl ⟨(by show (match ρ (.tmp 21) with | .bool b => b == true | _ => false) = true; rw [g3]; rfl), .inl ⟨_, u, rfl, s9, hR, Below.refl _ _⟩⟩
              · -- 11
                have g3 : ρ (.tmp 21) = .bool true := hd ⟨3, .guard⟩ (by simp) rfl 21 rfl
                have h10 : ρ (.tmp 28) = .int .i64 (j : Int) := hd ⟨10, .data⟩ (by simp) rfl 28 rfl
                exact .inl ⟨(by show (match ρ (.tmp 21) with | .bool b => b == true | _ => false) = true; rw [g3]; rfl), .inl ⟨.int .i64 (m : Int), u, run_bin_op rfl h10 (hc _) (by go_simp), rfl, hR, Below.refl _ _⟩⟩
              · -- 12
                have g3 : ρ (.tmp 21) = .bool true := hd ⟨3, .guard⟩ (by simp) rfl 21 rfl
                have h9 : ρ (.tmp 27) = .slice (some ⟨g, 0, none⟩) n c := hd ⟨9, .data⟩ (by simp) rfl 27 rfl
                have h11 : ρ (.tmp 29) = .int .i64 (m : Int) := hd ⟨11, .data⟩ (by simp) rfl 29 rfl
                exact .inl ⟨(by show (match ρ (.tmp 21) with | .bool b => b == true | _ => false) = true; rw [g3]; rfl), .inl ⟨.pointer (some ⟨g, m * 7, none⟩), u, run_index_op rfl h9 h11 (by go_simp), rfl, hR, Below.refl _ _⟩⟩
              · -- 13
                have R0 : RowU u g n h := HROW.out.1.below hR
                obtain ⟨d0, d1, d2, d3, d4, d5, d6⟩ := RowU.seven R0 (show m < n from by omega)
                clear R0
                have g3 : ρ (.tmp 21) = .bool true := hd ⟨3, .guard⟩ (by simp) rfl 21 rfl
                have h12 : ρ (.tmp 30) = .pointer (some ⟨g, m * 7, none⟩) := hd ⟨12, .data⟩ (by simp) rfl 30 rfl
                have hr : (Instr.loadAt 65 (.pointer (some ⟨g, m * 7, none⟩))).run Try.prog u = .ok (.agg (ruc (h m))) u := by go_simp
                exact .inl ⟨(by show (match ρ (.tmp 21) with | .bool b => b == true | _ => false) = true; rw [g3]; rfl), .inl ⟨.agg (ruc (h m)), u, run_load_op rfl h12 hr, rfl, hR, Below.refl _ _⟩⟩
              · -- 14
                have g3 : ρ (.tmp 21) = .bool true := hd ⟨3, .guard⟩ (by simp) rfl 21 rfl
                have h8 : ρ (.tmp 26) = .agg (ruc (h j)) := hd ⟨8, .data⟩ (by simp) rfl 26 rfl
                have h13 : ρ (.tmp 31) = .agg (ruc (h m)) := hd ⟨13, .data⟩ (by simp) rfl 31 rfl
                have h4 : ρ (.tmp 22) = .func (.func 65) #[] #[] := hd ⟨4, .data⟩ (by simp) rfl 22 rfl
                refine .inl ⟨(by show (match ρ (.tmp 21) with | .bool b => b == true | _ => false) = true; rw [g3]; rfl), .inr ⟨_, _, run_callv_op rfl h4 (args := #[.agg (ruc (h j)), .agg (ruc (h m))]) (by simp [h8, h13]) (by kernel_rfl), ?_⟩⟩
                refine (byPlaces_any (h j) (h m) _).mono ?_
                rintro e u' ⟨rfl, b'⟩
                exact ⟨_, rfl, rfl, bel_next hR b', b'⟩
              · -- 15
                have g3 : ρ (.tmp 21) = .bool true := hd ⟨3, .guard⟩ (by simp) rfl 21 rfl
                have h14 : ρ (.tmp 32) = .int .i64 (cmpR (h j) (h m)) := hd ⟨14, .data⟩ (by simp) rfl 32 rfl
                exact .inl ⟨(by show (match ρ (.tmp 21) with | .bool b => b == true | _ => false) = true; rw [g3]; rfl), .inl ⟨.bool true, u, run_bin_op rfl h14 (hc _) (by go_simp), rfl, hR, Below.refl _ _⟩⟩
              · -- 16
                have h3 : ρ (.tmp 21) = .bool true := hd ⟨3, .data⟩ (by simp) rfl 21 rfl
                have h15 : ρ (.tmp 33) = .bool true := hd ⟨15, .data⟩ (by simp) rfl 33 rfl
                exact .inl ⟨rfl, .inl ⟨_, u, run_pick_op rfl h3, (by simpa using h15), hR, Below.refl _ _⟩⟩
          · have hc0 : ¬ cmpR (h j) (h m) < 0 := fun e => hx ((cmpR_lt _ _).1 e)
            have HL : Hid (¬ ltR (h j) (h (j - 1))) := by rw [show j - 1 = m by omega]; exact hx
            clear hx hm
            go_wp2
            refine wp_region_any (by kernel_rfl) ?_
            refine wpAny_vals (fun u => Below wr.heap.size wr u) (fun i v u => match i with
              | 0 => v = .int .i64 (j : Int)
              | 1 => v = .int .i64 (a : Int)
              | 2 => v = .bool true
              | 3 => v = .bool true
              | 4 => v = .func (.func 65) #[] #[]
              | 5 => v = .slice (some ⟨g, 0, none⟩) n c
              | 6 => v = .int .i64 (j : Int)
              | 7 => v = .pointer (some ⟨g, j * 7, none⟩)
              | 8 => v = .agg (ruc (h j))
              | 9 => v = .slice (some ⟨g, 0, none⟩) n c
              | 10 => v = .int .i64 (j : Int)
              | 11 => v = .int .i64 (m : Int)
              | 12 => v = .pointer (some ⟨g, m * 7, none⟩)
              | 13 => v = .agg (ruc (h m))
              | 14 => v = .int .i64 (cmpR (h j) (h m))
              | 15 => v = .bool false
              | 16 => v = .bool false
              | _ => True) (by kernel_rfl) (by kernel_rfl) (fun _ _ _ _ h _ => h) (Below.refl _ _).drew ?_ ?_ _ _ rfl (by decide) (fun i => by simp [Array.getD]; try (split <;> rfl))
            · intro vs u hR hall
              have e16 : vs 16 = .bool false := hall 16 (by simp)
              simp only [putsL]
              rw [e16]
              clear hall e16
              have RX : RowU u g n h := HROW.out.1.below hR
              have BX := bel_next HROW.out.2 hR
              have HX : Hid (RowU u g n h ∧ PermIn a b f h ∧ SortedOn h a (k + 1) ∧ Below w0.heap.size w0 u) := ⟨RX, HP.out, HI.out.fin hjk (.inr HL.out), BX⟩
              clear RX BX hR HROW HP HI
              go_simp
              go_wp2
              go_roundw
              case rel => exact ⟨k + 1, h, by omega, by omega, by go_num, HX.out.1, HX.out.2.1, HX.out.2.2.1, HX.out.2.2.2⟩
              case measure => simp [intOf]; omega
            · intro u i o ρ hR ho hρ hc hf hd
              have hi : i < 17 := by
                have := (Array.getElem?_eq_some_iff.1 ho).1
                simpa using this
              obtain rfl | rfl | rfl | rfl | rfl | rfl | rfl | rfl | rfl | rfl | rfl | rfl | rfl | rfl | rfl | rfl | rfl : i = 0 ∨ i = 1 ∨ i = 2 ∨ i = 3 ∨ i = 4 ∨ i = 5 ∨ i = 6 ∨ i = 7 ∨ i = 8 ∨ i = 9 ∨ i = 10 ∨ i = 11 ∨ i = 12 ∨ i = 13 ∨ i = 14 ∨ i = 15 ∨ i = 16 := by omega
              all_goals (simp only [List.getElem?_toArray, List.getElem?_cons_zero, List.getElem?_cons_succ, Option.some.injEq] at ho; subst ho)
              · -- 0
                have s9 : ρ (.tmp 9) = .int .i64 (j : Int) := (hρ 9 (by kernel_rfl)).trans rfl
                exact .inl ⟨rfl, .inl ⟨_, u, rfl, s9, hR, Below.refl _ _⟩⟩
              · -- 1
                have s1 : ρ (.tmp 1) = .int .i64 (a : Int) := (hρ 1 (by kernel_rfl)).trans rfl
                exact .inl ⟨rfl, .inl ⟨_, u, rfl, s1, hR, Below.refl _ _⟩⟩
              · -- 2
                have h0 : ρ (.tmp 18) = .int .i64 (j : Int) := hd ⟨0, .data⟩ (by simp) rfl 18 rfl
                have h1 : ρ (.tmp 19) = .int .i64 (a : Int) := hd ⟨1, .data⟩ (by simp) rfl 19 rfl
                exact .inl ⟨rfl, .inl ⟨.bool true, u, run_bin_op rfl h0 h1 (by go_simp), rfl, hR, Below.refl _ _⟩⟩
              · -- 3
                have h2 : ρ (.tmp 20) = .bool true := hd ⟨2, .data⟩ (by simp) rfl 20 rfl
                exact .inl ⟨rfl, .inl ⟨_, u, rfl, h2, hR, Below.refl _ _⟩⟩
              · -- 4
                have g3 : ρ (.tmp 21) = .bool true := hd ⟨3, .guard⟩ (by simp) rfl 21 rfl
                have s3 : ρ (.tmp 3) = .func (.func 65) #[] #[] := (hρ 3 (by kernel_rfl)).trans rfl
                exact .inl ⟨(by show (match ρ (.tmp 21) with | .bool b => b == true | _ => false) = true; rw [g3]; rfl), .inl ⟨_, u, rfl, s3, hR, Below.refl _ _⟩⟩
              · -- 5
                have g3 : ρ (.tmp 21) = .bool true := hd ⟨3, .guard⟩ (by simp) rfl 21 rfl
                have s0 : ρ (.tmp 0) = .slice (some ⟨g, 0, none⟩) n c := (hρ 0 (by kernel_rfl)).trans rfl
                exact .inl ⟨(by show (match ρ (.tmp 21) with | .bool b => b == true | _ => false) = true; rw [g3]; rfl), .inl ⟨_, u, rfl, s0, hR, Below.refl _ _⟩⟩
              · -- 6
                have g3 : ρ (.tmp 21) = .bool true := hd ⟨3, .guard⟩ (by simp) rfl 21 rfl
                have s9 : ρ (.tmp 9) = .int .i64 (j : Int) := (hρ 9 (by kernel_rfl)).trans rfl
                exact .inl ⟨(by show (match ρ (.tmp 21) with | .bool b => b == true | _ => false) = true; rw [g3]; rfl), .inl ⟨_, u, rfl, s9, hR, Below.refl _ _⟩⟩
              · -- 7
                have g3 : ρ (.tmp 21) = .bool true := hd ⟨3, .guard⟩ (by simp) rfl 21 rfl
                have h5 : ρ (.tmp 23) = .slice (some ⟨g, 0, none⟩) n c := hd ⟨5, .data⟩ (by simp) rfl 23 rfl
                have h6 : ρ (.tmp 24) = .int .i64 (j : Int) := hd ⟨6, .data⟩ (by simp) rfl 24 rfl
                exact .inl ⟨(by show (match ρ (.tmp 21) with | .bool b => b == true | _ => false) = true; rw [g3]; rfl), .inl ⟨.pointer (some ⟨g, j * 7, none⟩), u, run_index_op rfl h5 h6 (by go_simp), rfl, hR, Below.refl _ _⟩⟩
              · -- 8
                have R0 : RowU u g n h := HROW.out.1.below hR
                obtain ⟨d0, d1, d2, d3, d4, d5, d6⟩ := RowU.seven R0 (show j < n from by omega)
                clear R0
                have g3 : ρ (.tmp 21) = .bool true := hd ⟨3, .guard⟩ (by simp) rfl 21 rfl
                have h7 : ρ (.tmp 25) = .pointer (some ⟨g, j * 7, none⟩) := hd ⟨7, .data⟩ (by simp) rfl 25 rfl
                have hr : (Instr.loadAt 65 (.pointer (some ⟨g, j * 7, none⟩))).run Try.prog u = .ok (.agg (ruc (h j))) u := by go_simp
                exact .inl ⟨(by show (match ρ (.tmp 21) with | .bool b => b == true | _ => false) = true; rw [g3]; rfl), .inl ⟨.agg (ruc (h j)), u, run_load_op rfl h7 hr, rfl, hR, Below.refl _ _⟩⟩
              · -- 9
                have g3 : ρ (.tmp 21) = .bool true := hd ⟨3, .guard⟩ (by simp) rfl 21 rfl
                have s0 : ρ (.tmp 0) = .slice (some ⟨g, 0, none⟩) n c := (hρ 0 (by kernel_rfl)).trans rfl
                exact .inl ⟨(by show (match ρ (.tmp 21) with | .bool b => b == true | _ => false) = true; rw [g3]; rfl), .inl ⟨_, u, rfl, s0, hR, Below.refl _ _⟩⟩
              · -- 10
                have g3 : ρ (.tmp 21) = .bool true := hd ⟨3, .guard⟩ (by simp) rfl 21 rfl
                have s9 : ρ (.tmp 9) = .int .i64 (j : Int) := (hρ 9 (by kernel_rfl)).trans rfl
                exact .inl ⟨(by show (match ρ (.tmp 21) with | .bool b => b == true | _ => false) = true; rw [g3]; rfl), .inl ⟨_, u, rfl, s9, hR, Below.refl _ _⟩⟩
              · -- 11
                have g3 : ρ (.tmp 21) = .bool true := hd ⟨3, .guard⟩ (by simp) rfl 21 rfl
                have h10 : ρ (.tmp 28) = .int .i64 (j : Int) := hd ⟨10, .data⟩ (by simp) rfl 28 rfl
                exact .inl ⟨(by show (match ρ (.tmp 21) with | .bool b => b == true | _ => false) = true; rw [g3]; rfl), .inl ⟨.int .i64 (m : Int), u, run_bin_op rfl h10 (hc _) (by go_simp), rfl, hR, Below.refl _ _⟩⟩
              · -- 12
                have g3 : ρ (.tmp 21) = .bool true := hd ⟨3, .guard⟩ (by simp) rfl 21 rfl
                have h9 : ρ (.tmp 27) = .slice (some ⟨g, 0, none⟩) n c := hd ⟨9, .data⟩ (by simp) rfl 27 rfl
                have h11 : ρ (.tmp 29) = .int .i64 (m : Int) := hd ⟨11, .data⟩ (by simp) rfl 29 rfl
                exact .inl ⟨(by show (match ρ (.tmp 21) with | .bool b => b == true | _ => false) = true; rw [g3]; rfl), .inl ⟨.pointer (some ⟨g, m * 7, none⟩), u, run_index_op rfl h9 h11 (by go_simp), rfl, hR, Below.refl _ _⟩⟩
              · -- 13
                have R0 : RowU u g n h := HROW.out.1.below hR
                obtain ⟨d0, d1, d2, d3, d4, d5, d6⟩ := RowU.seven R0 (show m < n from by omega)
                clear R0
                have g3 : ρ (.tmp 21) = .bool true := hd ⟨3, .guard⟩ (by simp) rfl 21 rfl
                have h12 : ρ (.tmp 30) = .pointer (some ⟨g, m * 7, none⟩) := hd ⟨12, .data⟩ (by simp) rfl 30 rfl
                have hr : (Instr.loadAt 65 (.pointer (some ⟨g, m * 7, none⟩))).run Try.prog u = .ok (.agg (ruc (h m))) u := by go_simp
                exact .inl ⟨(by show (match ρ (.tmp 21) with | .bool b => b == true | _ => false) = true; rw [g3]; rfl), .inl ⟨.agg (ruc (h m)), u, run_load_op rfl h12 hr, rfl, hR, Below.refl _ _⟩⟩
              · -- 14
                have g3 : ρ (.tmp 21) = .bool true := hd ⟨3, .guard⟩ (by simp) rfl 21 rfl
                have h8 : ρ (.tmp 26) = .agg (ruc (h j)) := hd ⟨8, .data⟩ (by simp) rfl 26 rfl
                have h13 : ρ (.tmp 31) = .agg (ruc (h m)) := hd ⟨13, .data⟩ (by simp) rfl 31 rfl
                have h4 : ρ (.tmp 22) = .func (.func 65) #[] #[] := hd ⟨4, .data⟩ (by simp) rfl 22 rfl
                refine .inl ⟨(by show (match ρ (.tmp 21) with | .bool b => b == true | _ => false) = true; rw [g3]; rfl), .inr ⟨_, _, run_callv_op rfl h4 (args := #[.agg (ruc (h j)), .agg (ruc (h m))]) (by simp [h8, h13]) (by kernel_rfl), ?_⟩⟩
                refine (byPlaces_any (h j) (h m) _).mono ?_
                rintro e u' ⟨rfl, b'⟩
                exact ⟨_, rfl, rfl, bel_next hR b', b'⟩
              · -- 15
                have g3 : ρ (.tmp 21) = .bool true := hd ⟨3, .guard⟩ (by simp) rfl 21 rfl
                have h14 : ρ (.tmp 32) = .int .i64 (cmpR (h j) (h m)) := hd ⟨14, .data⟩ (by simp) rfl 32 rfl
                exact .inl ⟨(by show (match ρ (.tmp 21) with | .bool b => b == true | _ => false) = true; rw [g3]; rfl), .inl ⟨.bool false, u, run_bin_op rfl h14 (hc _) (by go_simp), rfl, hR, Below.refl _ _⟩⟩
              · -- 16
                have h3 : ρ (.tmp 21) = .bool true := hd ⟨3, .data⟩ (by simp) rfl 21 rfl
                have h15 : ρ (.tmp 33) = .bool false := hd ⟨15, .data⟩ (by simp) rfl 33 rfl
                exact .inl ⟨rfl, .inl ⟨_, u, run_pick_op rfl h3, (by simpa using h15), hR, Below.refl _ _⟩⟩
        · have hj' : ¬ (a : Int) < (j : Int) := by omega
          go_wp2
          refine wp_region_any (by kernel_rfl) ?_
          refine wpAny_vals (fun u => Below wr.heap.size wr u) (fun i v u => match i with
            | 0 => v = .int .i64 (j : Int)
            | 1 => v = .int .i64 (a : Int)
            | 2 => v = .bool false
            | 3 => v = .bool false
            | 4 => v = undef
            | 5 => v = undef
            | 6 => v = undef
            | 7 => v = undef
            | 8 => v = undef
            | 9 => v = undef
            | 10 => v = undef
            | 11 => v = undef
            | 12 => v = undef
            | 13 => v = undef
            | 14 => v = undef
            | 15 => v = undef
            | 16 => v = .bool false
            | _ => True) (by kernel_rfl) (by kernel_rfl) (fun _ _ _ _ h _ => h) (Below.refl _ _).drew ?_ ?_ _ _ rfl (by decide) (fun i => by simp [Array.getD]; try (split <;> rfl))
          · intro vs u hR hall
            have e16 : vs 16 = .bool false := hall 16 (by simp)
            simp only [putsL]
            rw [e16]
            clear hall e16
            have RX : RowU u g n h := HROW.out.1.below hR
            have BX := bel_next HROW.out.2 hR
            have HX : Hid (RowU u g n h ∧ PermIn a b f h ∧ SortedOn h a (k + 1) ∧ Below w0.heap.size w0 u) := ⟨RX, HP.out, HI.out.fin hjk (.inl (by omega)), BX⟩
            clear RX BX hR HROW HP HI
            go_simp
            go_wp2
            go_roundw
            case rel => exact ⟨k + 1, h, by omega, by omega, by go_num, HX.out.1, HX.out.2.1, HX.out.2.2.1, HX.out.2.2.2⟩
            case measure => simp [intOf]; omega
          · intro u i o ρ hR ho hρ hc hf hd
            have hi : i < 17 := by
              have := (Array.getElem?_eq_some_iff.1 ho).1
              simpa using this
            obtain rfl | rfl | rfl | rfl | rfl | rfl | rfl | rfl | rfl | rfl | rfl | rfl | rfl | rfl | rfl | rfl | rfl : i = 0 ∨ i = 1 ∨ i = 2 ∨ i = 3 ∨ i = 4 ∨ i = 5 ∨ i = 6 ∨ i = 7 ∨ i = 8 ∨ i = 9 ∨ i = 10 ∨ i = 11 ∨ i = 12 ∨ i = 13 ∨ i = 14 ∨ i = 15 ∨ i = 16 := by omega
            all_goals (simp only [List.getElem?_toArray, List.getElem?_cons_zero, List.getElem?_cons_succ, Option.some.injEq] at ho; subst ho)
            · -- 0
              have s9 : ρ (.tmp 9) = .int .i64 (j : Int) := (hρ 9 (by kernel_rfl)).trans rfl
              exact .inl ⟨rfl, .inl ⟨_, u, rfl, s9, hR, Below.refl _ _⟩⟩
            · -- 1
              have s1 : ρ (.tmp 1) = .int .i64 (a : Int) := (hρ 1 (by kernel_rfl)).trans rfl
              exact .inl ⟨rfl, .inl ⟨_, u, rfl, s1, hR, Below.refl _ _⟩⟩
            · -- 2
              have h0 : ρ (.tmp 18) = .int .i64 (j : Int) := hd ⟨0, .data⟩ (by simp) rfl 18 rfl
              have h1 : ρ (.tmp 19) = .int .i64 (a : Int) := hd ⟨1, .data⟩ (by simp) rfl 19 rfl
              exact .inl ⟨rfl, .inl ⟨.bool false, u, run_bin_op rfl h0 h1 (by go_simp), rfl, hR, Below.refl _ _⟩⟩
            · -- 3
              have h2 : ρ (.tmp 20) = .bool false := hd ⟨2, .data⟩ (by simp) rfl 20 rfl
              exact .inl ⟨rfl, .inl ⟨_, u, rfl, h2, hR, Below.refl _ _⟩⟩
            · -- 4
              have g3 : ρ (.tmp 21) = .bool false := hd ⟨3, .guard⟩ (by simp) rfl 21 rfl
              exact .inr ⟨(by show (match ρ (.tmp 21) with | .bool b => b == true | _ => false) = false; rw [g3]; rfl), rfl⟩
            · -- 5
              have g3 : ρ (.tmp 21) = .bool false := hd ⟨3, .guard⟩ (by simp) rfl 21 rfl
              exact .inr ⟨(by show (match ρ (.tmp 21) with | .bool b => b == true | _ => false) = false; rw [g3]; rfl), rfl⟩
            · -- 6
              have g3 : ρ (.tmp 21) = .bool false := hd ⟨3, .guard⟩ (by simp) rfl 21 rfl
              exact .inr ⟨(by show (match ρ (.tmp 21) with | .bool b => b == true | _ => false) = false; rw [g3]; rfl), rfl⟩
            · -- 7
              have g3 : ρ (.tmp 21) = .bool false := hd ⟨3, .guard⟩ (by simp) rfl 21 rfl
              exact .inr ⟨(by show (match ρ (.tmp 21) with | .bool b => b == true | _ => false) = false; rw [g3]; rfl), rfl⟩
            · -- 8
              have g3 : ρ (.tmp 21) = .bool false := hd ⟨3, .guard⟩ (by simp) rfl 21 rfl
              exact .inr ⟨(by show (match ρ (.tmp 21) with | .bool b => b == true | _ => false) = false; rw [g3]; rfl), rfl⟩
            · -- 9
              have g3 : ρ (.tmp 21) = .bool false := hd ⟨3, .guard⟩ (by simp) rfl 21 rfl
              exact .inr ⟨(by show (match ρ (.tmp 21) with | .bool b => b == true | _ => false) = false; rw [g3]; rfl), rfl⟩
            · -- 10
              have g3 : ρ (.tmp 21) = .bool false := hd ⟨3, .guard⟩ (by simp) rfl 21 rfl
              exact .inr ⟨(by show (match ρ (.tmp 21) with | .bool b => b == true | _ => false) = false; rw [g3]; rfl), rfl⟩
            · -- 11
              have g3 : ρ (.tmp 21) = .bool false := hd ⟨3, .guard⟩ (by simp) rfl 21 rfl
              exact .inr ⟨(by show (match ρ (.tmp 21) with | .bool b => b == true | _ => false) = false; rw [g3]; rfl), rfl⟩
            · -- 12
              have g3 : ρ (.tmp 21) = .bool false := hd ⟨3, .guard⟩ (by simp) rfl 21 rfl
              exact .inr ⟨(by show (match ρ (.tmp 21) with | .bool b => b == true | _ => false) = false; rw [g3]; rfl), rfl⟩
            · -- 13
              have g3 : ρ (.tmp 21) = .bool false := hd ⟨3, .guard⟩ (by simp) rfl 21 rfl
              exact .inr ⟨(by show (match ρ (.tmp 21) with | .bool b => b == true | _ => false) = false; rw [g3]; rfl), rfl⟩
            · -- 14
              have g3 : ρ (.tmp 21) = .bool false := hd ⟨3, .guard⟩ (by simp) rfl 21 rfl
              exact .inr ⟨(by show (match ρ (.tmp 21) with | .bool b => b == true | _ => false) = false; rw [g3]; rfl), rfl⟩
            · -- 15
              have g3 : ρ (.tmp 21) = .bool false := hd ⟨3, .guard⟩ (by simp) rfl 21 rfl
              exact .inr ⟨(by show (match ρ (.tmp 21) with | .bool b => b == true | _ => false) = false; rw [g3]; rfl), rfl⟩
            · -- 16
              have h3 : ρ (.tmp 21) = .bool false := hd ⟨3, .data⟩ (by simp) rfl 21 rfl
              exact .inl ⟨rfl, .inl ⟨_, u, run_pick_op rfl h3, (by simpa using hc _), hR, Below.refl _ _⟩⟩
    · have hi : ¬ (k : Int) < (b : Int) := by omega
      have HS0 : Hid (RowU wr g n h0 ∧ PermIn a b f h0 ∧ SortedOn h0 a b ∧ Below w0.heap.size w0 wr) := ⟨hrow0, hp0, fun p q h1 h2 h3 => hso p q h1 h2 (by omega), hbl0⟩
      clear hrow0 hp0 hso hbl0 hr hb
      go_wp2
      refine bodyPost_end (v := .tuple #[]) (by simp [results, Try.results79, go_sem]) rfl ⟨rfl, h0, HS0.out⟩
end Go.Proofs.Ytccffbbboodolaa
namespace Go.Proofs.Ytccffbbboodolaa
set_option linter.unusedVariables false
theorem PermIn.of {a b : Nat} {f : Nat → Ru} (σ τ : Nat → Nat) (h1 : ∀ k, (k < a ∨ b ≤ k) → σ k = k ∧ τ k = k) (h2 : ∀ k, a ≤ k → k < b → a ≤ σ k ∧ σ k < b ∧ a ≤ τ k ∧ τ k < b) (h3 : ∀ k, τ (σ k) = k ∧ σ (τ k) = k) : PermIn a b f (fun k => f (σ k)) :=
  ⟨σ, τ, h1, h2, h3, fun _ => rfl⟩
def srI (a b m k : Nat) : Nat := if a ≤ k ∧ k < a + m then k - a + b else if b ≤ k ∧ k < b + m then k - b + a else k
theorem srI_zero (a b k : Nat) : srI a b 0 k = k := by unfold srI; rw [if_neg (by omega), if_neg (by omega)]
theorem srI_step {a b i : Nat} (h : a + i < b) (k : Nat) : srI a b i (swI (a + i) (b + i) k) = srI a b (i + 1) k := by
  unfold srI swI
  repeat' split
  all_goals omega
def rtI (a m b k : Nat) : Nat := if a ≤ k ∧ k < a + (b - m) then k + (m - a) else if a + (b - m) ≤ k ∧ k < b then k - (b - m) else k
theorem rtI_gt {m i j : Nat} (h : j < i) (hi : i ≤ m) (hj : 0 < j) (k : Nat) : srI (m - i) m j (rtI (m - (i - j)) m (m + j) k) = rtI (m - i) m (m + j) k := by
  unfold srI rtI
  repeat' split
  all_goals omega
theorem rtI_lt {m i j : Nat} (h : i < j) (hi : i ≤ m) (h0 : 0 < i) (k : Nat) : srI (m - i) (m + j - i) i (rtI (m - i) m (m + (j - i)) k) = rtI (m - i) m (m + j) k := by
  unfold srI rtI
  repeat' split
  all_goals omega
theorem rtI_eq {m i : Nat} (hi : i ≤ m) (k : Nat) : srI (m - i) m i k = rtI (m - i) m (m + i) k := by
  unfold srI rtI
  repeat' split
  all_goals omega
theorem rtI_inv {a m b : Nat} (h1 : a ≤ m) (h2 : m ≤ b) (k : Nat) : rtI a (a + (b - m)) b (rtI a m b k) = k ∧ rtI a m b (rtI a (a + (b - m)) b k) = k := by
  unfold rtI
  constructor
  all_goals (repeat' split)
  all_goals omega
theorem PermIn.rot {a m b : Nat} (f : Nat → Ru) (h1 : a ≤ m) (h2 : m ≤ b) : PermIn a b f (fun k => f (rtI a m b k)) := by
  refine PermIn.of (rtI a m b) (rtI a (a + (b - m)) b) (fun k hk => ?_) (fun k ha hb => ?_) (rtI_inv h1 h2)
  · unfold rtI
    constructor
    all_goals (repeat' split)
    all_goals omega
  · unfold rtI
    refine ⟨?_, ?_, ?_, ?_⟩
    all_goals (repeat' split)
    all_goals omega
def mvU (a i k : Nat) : Nat := if a ≤ k ∧ k + 1 < i then k + 1 else if k + 1 = i ∧ a ≤ k then a else k
def mvD (i e k : Nat) : Nat := if i < k ∧ k < e then k - 1 else if k = i ∧ i < e then e - 1 else k
theorem mvU_start (a k : Nat) : mvU a (a + 1) k = k := by unfold mvU; repeat' split
                                                          all_goals omega
theorem mvU_step {a k : Nat} (h : a ≤ k) (x : Nat) : mvU a (k + 1) (swI k (k + 1) x) = mvU a (k + 1 + 1) x := by
  unfold mvU swI
  repeat' split
  all_goals omega
theorem mvD_start (m k : Nat) : mvD m (m + 1) k = k := by unfold mvD; repeat' split
                                                          all_goals omega
theorem mvD_step {k m : Nat} (h : 0 < k) (hm : k ≤ m) (x : Nat) : mvD k (m + 1) (swI k (k - 1) x) = mvD (k - 1) (m + 1) x := by
  unfold mvD swI
  repeat' split
  all_goals omega
theorem mv_inv {a i : Nat} (h : a < i) (k : Nat) : mvD a i (mvU a i k) = k ∧ mvU a i (mvD a i k) = k := by
  unfold mvU mvD
  constructor
  all_goals (repeat' split)
  all_goals omega
theorem PermIn.up {a i b : Nat} (f : Nat → Ru) (h : a < i) (hi : i ≤ b) : PermIn a b f (fun k => f (mvU a i k)) := by
  refine PermIn.of (mvU a i) (mvD a i) (fun k hk => ?_) (fun k ha hb => ?_) (mv_inv h)
  · unfold mvU mvD
    constructor
    all_goals (repeat' split)
    all_goals omega
  · unfold mvU mvD
    refine ⟨?_, ?_, ?_, ?_⟩
    all_goals (repeat' split)
    all_goals omega
theorem PermIn.down {a i e b : Nat} (f : Nat → Ru) (h : i < e) (ha : a ≤ i) (hi : e ≤ b) : PermIn a b f (fun k => f (mvD i e k)) := by
  refine PermIn.mono ?_ ha hi
  refine PermIn.of (mvD i e) (mvU i e) (fun k hk => ?_) (fun k ha hb => ?_) (fun k => ⟨(mv_inv h k).2, (mv_inv h k).1⟩)
  · unfold mvU mvD
    constructor
    all_goals (repeat' split)
    all_goals omega
  · unfold mvU mvD
    refine ⟨?_, ?_, ?_, ?_⟩
    all_goals (repeat' split)
    all_goals omega
theorem sorted_up {f : Nat → Ru} {a b i : Nat} (hs : SortedOn f (a + 1) b) (h1 : a + 1 ≤ i) (h2 : i ≤ b) (hl : i = a + 1 ∨ ltR (f (i - 1)) (f a)) (hr : i = b ∨ ¬ ltR (f i) (f a)) : SortedOn (fun k => f (mvU a i k)) a b := by
  intro x y hx hxy hy
  show leR (f (mvU a i x)) (f (mvU a i y))
  by_cases x1 : x + 1 < i
  · have ex : mvU a i x = x + 1 := by unfold mvU; rw [if_pos (by omega)]
    rw [ex]
    by_cases y1 : y + 1 < i
    · have ey : mvU a i y = y + 1 := by unfold mvU; rw [if_pos (by omega)]
      rw [ey]
      exact hs.le (by omega) (by omega) (by omega)
    · by_cases y2 : y + 1 = i
      · have ey : mvU a i y = a := by unfold mvU; rw [if_neg (by omega), if_pos (by omega)]
        rw [ey]
        rcases hl with hl | hl
        · omega
        · exact (hs.le (by omega) (show x + 1 ≤ i - 1 by omega) (by omega)).trans hl.le
      · have ey : mvU a i y = y := by unfold mvU; rw [if_neg (by omega), if_neg (by omega)]
        rw [ey]
        exact hs.le (by omega) (by omega) (by omega)
  · by_cases x2 : x + 1 = i
    · have ex : mvU a i x = a := by unfold mvU; rw [if_neg (by omega), if_pos (by omega)]
      have ey : mvU a i y = y := by unfold mvU; rw [if_neg (by omega), if_neg (by omega)]
      rw [ex, ey]
      rcases hr with hr | hr
      · omega
      · have e1 : leR (f a) (f i) := hr
        exact e1.trans (hs.le (by omega) (by omega) (by omega))
    · have ex : mvU a i x = x := by unfold mvU; rw [if_neg (by omega), if_neg (by omega)]
      have ey : mvU a i y = y := by unfold mvU; rw [if_neg (by omega), if_neg (by omega)]
      rw [ex, ey]
      exact hs.le (by omega) (by omega) (by omega)
theorem sorted_down {f : Nat → Ru} {a m i : Nat} (hs : SortedOn f a m) (h1 : a ≤ i) (h2 : i ≤ m) (hl : i = a ∨ ¬ ltR (f m) (f (i - 1))) (hr : i = m ∨ ltR (f m) (f i)) : SortedOn (fun k => f (mvD i (m + 1) k)) a (m + 1) := by
  intro x y hx hxy hy
  show leR (f (mvD i (m + 1) x)) (f (mvD i (m + 1) y))
  have lo : ∀ z, z < i → mvD i (m + 1) z = z := fun z hz => by unfold mvD; rw [if_neg (by omega), if_neg (by omega)]
  have at' : mvD i (m + 1) i = m := by unfold mvD; rw [if_neg (by omega), if_pos (by omega)]; omega
  have hi' : ∀ z, i < z → z < m + 1 → mvD i (m + 1) z = z - 1 := fun z h1 h2 => by unfold mvD; rw [if_pos (by omega)]
  by_cases y1 : y < i
  · rw [lo x (by omega), lo y y1]
    exact hs.le hx (by omega) (by omega)
  · by_cases y2 : y = i
    · subst y2
      rw [lo x hxy, at']
      rcases hl with hl | hl
      · omega
      · have e1 : leR (f (y - 1)) (f m) := hl
        exact (hs.le hx (by omega) (by omega)).trans e1
    · rw [hi' y (by omega) hy]
      by_cases x1 : x < i
      · rw [lo x x1]
        exact hs.le hx (by omega) (by omega)
      · by_cases x2 : x = i
        · subst x2
          rw [at']
          rcases hr with hr | hr
          · omega
          · exact hr.le.trans (hs.le (by omega) (by omega) (by omega))
        · rw [hi' x (by omega) (by omega)]
          exact hs.le (by omega) (by omega) (by omega)
structure Cutd (f : Nat → Ru) (a m b mid s : Nat) : Prop where
  hm : mid = (a + b) / 2
  am : a ≤ m
  mb : m ≤ b
  ab : a < b
  lo : (mid < m → mid + m - b ≤ s ∧ s ≤ mid) ∧ (m ≤ mid → a ≤ s ∧ s ≤ m)
  p1 : (mid < m ∧ s = mid + m - b) ∨ (m ≤ mid ∧ s = a) ∨ leR (f (s - 1)) (f (mid + m - s))
  p2 : (mid < m ∧ s = mid) ∨ (m ≤ mid ∧ s = m) ∨ ltR (f (mid + m - s - 1)) (f s)
theorem Cutd.in' {f : Nat → Ru} {a m b mid s : Nat} (h : Cutd f a m b mid s) : a ≤ s ∧ s ≤ m ∧ m ≤ mid + m - s ∧ mid + m - s ≤ b ∧ s ≤ mid ∧ mid ≤ mid + m - s ∧ a ≤ mid ∧ mid < b ∧ s ≤ mid + m := by
  obtain ⟨h1, h2, h3, h4, h5, _, _⟩ := h
  omega
theorem Cutd.cross {f : Nat → Ru} {a m b mid s : Nat} (h : Cutd f a m b mid s) (sl : SortedOn f a m) (sr : SortedOn f m b) {x y : Nat} (hx : a ≤ x) (hx' : x < mid) (hy : mid ≤ y) (hy' : y < b) :
    leR (f (rtI s m (mid + m - s) x)) (f (rtI s m (mid + m - s) y)) := by
  obtain ⟨i1, i2, i3, i4, i5, i6, i7, i8, i9⟩ := h.in'
  have h1 := h.hm
  have h4 := h.ab
  have lo := h.lo
  by_cases x1 : x < s
  · have ex : rtI s m (mid + m - s) x = x := by unfold rtI; rw [if_neg (by omega), if_neg (by omega)]
    rw [ex]
    by_cases y1 : y < mid + m - s
    · have ey : rtI s m (mid + m - s) y = y - (mid + m - s - m) := by unfold rtI; rw [if_neg (by omega), if_pos (by omega)]
      rw [ey]
      exact sl.le hx (by omega) (by omega)
    · have ey : rtI s m (mid + m - s) y = y := by unfold rtI; rw [if_neg (by omega), if_neg (by omega)]
      rw [ey]
      rcases h.p1 with p | p | p
      · omega
      · omega
      · exact ((sl.le hx (show x ≤ s - 1 by omega) (by omega)).trans p).trans (sr.le (by omega) (by omega) hy')
  · have ex : rtI s m (mid + m - s) x = x + (m - s) := by unfold rtI; rw [if_pos (by omega)]
    rw [ex]
    by_cases y1 : y < mid + m - s
    · have ey : rtI s m (mid + m - s) y = y - (mid + m - s - m) := by unfold rtI; rw [if_neg (by omega), if_pos (by omega)]
      rw [ey]
      rcases h.p2 with p | p | p
      · omega
      · omega
      · exact ((sr.le (by omega) (show x + (m - s) ≤ mid + m - s - 1 by omega) (by omega)).trans p.le).trans (sl.le (by omega) (by omega) (by omega))
    · have ey : rtI s m (mid + m - s) y = y := by unfold rtI; rw [if_neg (by omega), if_neg (by omega)]
      rw [ey]
      exact sr.le (by omega) (by omega) hy'
theorem Cutd.runs {f : Nat → Ru} {a m b mid s : Nat} (h : Cutd f a m b mid s) (sl : SortedOn f a m) (sr : SortedOn f m b) :
    SortedOn (fun k => f (rtI s m (mid + m - s) k)) a s ∧ SortedOn (fun k => f (rtI s m (mid + m - s) k)) s mid ∧ SortedOn (fun k => f (rtI s m (mid + m - s) k)) mid (mid + m - s) ∧ SortedOn (fun k => f (rtI s m (mid + m - s) k)) (mid + m - s) b := by
  obtain ⟨i1, i2, i3, i4, i5, i6, i7, i8, i9⟩ := h.in'
  have e1 : ∀ k, k < s → rtI s m (mid + m - s) k = k := fun k hk => by unfold rtI; rw [if_neg (by omega), if_neg (by omega)]
  have e2 : ∀ k, s ≤ k → k < mid → rtI s m (mid + m - s) k = k + (m - s) := fun k h1 h2 => by unfold rtI; rw [if_pos (by omega)]
  have e3 : ∀ k, mid ≤ k → k < mid + m - s → rtI s m (mid + m - s) k = k - (mid + m - s - m) := fun k h1 h2 => by unfold rtI; rw [if_neg (by omega), if_pos (by omega)]
  have e4 : ∀ k, mid + m - s ≤ k → rtI s m (mid + m - s) k = k := fun k h1 => by unfold rtI; rw [if_neg (by omega), if_neg (by omega)]
  refine ⟨fun x y hx hxy hy => ?_, fun x y hx hxy hy => ?_, fun x y hx hxy hy => ?_, fun x y hx hxy hy => ?_⟩
  · show leR (f (rtI _ _ _ x)) (f (rtI _ _ _ y)); rw [e1 x (by omega), e1 y hy]; exact sl.le hx (by omega) (by omega)
  · show leR (f (rtI _ _ _ x)) (f (rtI _ _ _ y)); rw [e2 x hx (by omega), e2 y (by omega) hy]; exact sr.le (by omega) (by omega) (by omega)
  · show leR (f (rtI _ _ _ x)) (f (rtI _ _ _ y)); rw [e3 x hx (by omega), e3 y (by omega) hy]; exact sl.le (by omega) (by omega) (by omega)
  · show leR (f (rtI _ _ _ x)) (f (rtI _ _ _ y)); rw [e4 x hx, e4 y (by omega)]; exact sr.le (by omega) (by omega) (by omega)
theorem sorted_halves {g g1 g2 : Nat → Ru} {a mid b : Nat} (h1 : a ≤ mid) (h2 : mid ≤ b) (hc : ∀ x y, a ≤ x → x < mid → mid ≤ y → y < b → leR (g x) (g y)) (p1 : PermIn a mid g g1) (s1 : SortedOn g1 a mid) (p2 : PermIn mid b g1 g2) (s2 : SortedOn g2 mid b) : SortedOn g2 a b := by
  intro x y hx hxy hy
  by_cases y1 : y < mid
  · rw [p2.out (.inl (by omega)), p2.out (.inl y1)]
    exact s1 x y hx hxy y1
  · by_cases x1 : mid ≤ x
    · exact s2 x y x1 hxy hy
    · rw [p2.out (.inl (by omega))]
      obtain ⟨j, j1, j2, ej⟩ := p2.from' (k := y) (by omega) hy
      obtain ⟨i, i1, i2, ei⟩ := p1.from' (k := x) hx (by omega)
      rw [ej, ei, p1.out (.inr j1)]
      exact hc i j i1 i2 j1 j2
end Go.Proofs.Ytccffbbboodolaa
namespace Go.Proofs.Ytccffbbboodolaa
open Go.RowKit
set_option linter.unusedVariables false
set_option linter.unusedSimpArgs false
theorem RowU.ext {w : World} {g n : Nat} {f f' : Nat → Ru} (h : RowU w g n f) (e : ∀ k, f k = f' k) : RowU w g n f' := RowS.congr h (fun k _ => by rw [e k])
set_option maxRecDepth 20000 in
set_option maxHeartbeats 4000000 in
theorem swapRange_any (g n c a b m : Nat) (f : Nat → Ru) (w0 w : World) (hb : Below w0.heap.size w0 w) (hg : w0.heap.size ≤ g) (hr : RowU w g n f) (hab : a + m ≤ b) (hbn : b + m ≤ n) (hn : n ≤ 1000000) :
    Calls Try.prog 82 #[.slice (some ⟨g, 0, none⟩) n c, .int .i64 (a : Int), .int .i64 (b : Int), .int .i64 (m : Int), .func (.func 65) #[] #[]] w fun e w' => e = .returned (.tuple #[]) ∧ RowU w' g n (fun k => f (srI a b m k)) ∧ Below w0.heap.size w0 w' := by
  go_enter Try.func82, Try.ntmps82
  go_wp2
  go_loopw [10] (fun i wr => ∃ (k : Nat), k ≤ m ∧ i = .int .i64 k ∧ RowU wr g n (fun x => f (srI a b k x)) ∧ Below w0.heap.size w0 wr) (fun i _ => m - (intOf i).toNat)
  case atStart => exact ⟨0, by omega, rfl, RowU.ext hr (fun k => by rw [srI_zero]), hb⟩
  case round =>
    obtain ⟨z, hz, rfl, hrow, hbl⟩ := hrel
    obtain ⟨h, hh⟩ : ∃ h : Nat → Ru, h = fun x => f (srI a b z x) := ⟨_, rfl⟩
    rw [← hh] at hrow
    have HH : Hid (h = fun x => f (srI a b z x)) := hh
    have HROW : Hid (RowU wr g n h ∧ Below w0.heap.size w0 wr) := ⟨hrow, hbl⟩
    clear hrow hbl hh hr hb
    by_cases hlt : z < m
    · have hi' : (z : Int) < (m : Int) := by omega
      obtain ⟨p, hp⟩ : ∃ p, p = a + z := ⟨_, rfl⟩
      obtain ⟨q, hq⟩ : ∃ q, q = b + z := ⟨_, rfl⟩
      have wp' : IntKind.i64.wrap ((a : Int) + (z : Int)) = (p : Int) := by rw [IntKind.wrap_i64]; omega
      have wq' : IntKind.i64.wrap ((b : Int) + (z : Int)) = (q : Int) := by rw [IntKind.wrap_i64]; omega
      have hpn : (p : Int) < (n : Int) := by omega
      have hqn : (q : Int) < (n : Int) := by omega
      have hIJ : ¬ p = q := by omega
      have hJI : ¬ q = p := by omega
      have HP : Hid (p = a + z ∧ q = b + z) := ⟨hp, hq⟩
      have hpn2 : p < n := by omega
      have hqn2 : q < n := by omega
      clear hp hq
      go_wp2
      refine wp_region_any (by kernel_rfl) ?_
      refine wpAny_valw (fun l u => RowU u g n (fun k => if l 21 = true ∧ k = p then h q else if l 23 = true ∧ k = q then h p else h k) ∧ Below w0.heap.size w0 u) (fun _ _ => True) (fun i v u => match i with
        | 0 => v = .slice (some ⟨g, 0, none⟩) n c
        | 1 => v = .int .i64 (a : Int)
        | 2 => v = .int .i64 (z : Int)
        | 3 => v = .int .i64 (p : Int)
        | 4 => v = .slice (some ⟨g, 0, none⟩) n c
        | 5 => v = .int .i64 (b : Int)
        | 6 => v = .int .i64 (z : Int)
        | 7 => v = .int .i64 (q : Int)
        | 8 => v = .slice (some ⟨g, 0, none⟩) n c
        | 9 => v = .int .i64 (b : Int)
        | 10 => v = .int .i64 (z : Int)
        | 11 => v = .int .i64 (q : Int)
        | 12 => v = .pointer (some ⟨g, q * 7, none⟩)
        | 13 => v = .agg (ruc (h q))
        | 14 => v = .slice (some ⟨g, 0, none⟩) n c
        | 15 => v = .int .i64 (a : Int)
        | 16 => v = .int .i64 (z : Int)
        | 17 => v = .int .i64 (p : Int)
        | 18 => v = .pointer (some ⟨g, p * 7, none⟩)
        | 19 => v = .agg (ruc (h p))
        | 20 => v = .pointer (some ⟨g, p * 7, none⟩)
        | 22 => v = .pointer (some ⟨g, q * 7, none⟩)
        | _ => True) (by kernel_rfl) (by kernel_rfl) (fun _ _ _ _ h _ => h) (fun _ => trivial) ⟨RowS.congr (RowS.below HROW.out.1 (Below.refl _ _).drew) (fun k _ => by simp), HROW.out.2.drew⟩ ?_ ?_ _ _ rfl (by decide) (fun i => by simp [Array.getD]; try (split <;> rfl))
      · intro vs u hR _
        have R1 : RowU u g n (fun k => h (swI p q k)) := hR.1.congr (fun k _ => congrArg rul (by by_cases e1 : k = p <;> by_cases e2 : k = q <;> simp [swI, e1, e2, hJI, hIJ]))
        have R2 : RowU u g n (fun k => f (srI a b (z + 1) k)) := RowU.ext R1 (fun k => by rw [← srI_step (show a + z < b by omega), ← HP.out.1, ← HP.out.2, HH.out])
        have HX : Hid (RowU u g n (fun k => f (srI a b (z + 1) k)) ∧ Below w0.heap.size w0 u) := ⟨R2, hR.2⟩
        clear R1 R2 hR HROW HH
        simp only [putsL]
        go_simp
        go_wp2
        go_roundw
        case rel => exact ⟨z + 1, by omega, by go_num, HX.out.1, HX.out.2⟩
        case measure => simp [intOf]; omega
      · intro u i o ρ l hR ho hli hcl hρ hc hf hd hv
        have hi : i < 24 := by
          have := (Array.getElem?_eq_some_iff.1 ho).1
          simpa using this
        obtain rfl | rfl | rfl | rfl | rfl | rfl | rfl | rfl | rfl | rfl | rfl | rfl | rfl | rfl | rfl | rfl | rfl | rfl | rfl | rfl | rfl | rfl | rfl | rfl : i = 0 ∨ i = 1 ∨ i = 2 ∨ i = 3 ∨ i = 4 ∨ i = 5 ∨ i = 6 ∨ i = 7 ∨ i = 8 ∨ i = 9 ∨ i = 10 ∨ i = 11 ∨ i = 12 ∨ i = 13 ∨ i = 14 ∨ i = 15 ∨ i = 16 ∨ i = 17 ∨ i = 18 ∨ i = 19 ∨ i = 20 ∨ i = 21 ∨ i = 22 ∨ i = 23 := by omega
        all_goals (simp only [List.getElem?_toArray, List.getElem?_cons_zero, List.getElem?_cons_succ, Option.some.injEq] at ho; subst ho)
        · -- 0
          have s0 : ρ (.tmp 0) = .slice (some ⟨g, 0, none⟩) n c := (hρ 0 (by kernel_rfl)).trans rfl
          exact .inl ⟨rfl, .inl ⟨_, u, rfl, s0, (by simpa [updB] using hR), trivial⟩⟩
        · -- 1
          have s1 : ρ (.tmp 1) = .int .i64 (a : Int) := (hρ 1 (by kernel_rfl)).trans rfl
          exact .inl ⟨rfl, .inl ⟨_, u, rfl, s1, (by simpa [updB] using hR), trivial⟩⟩
        · -- 2
          have s10 : ρ (.tmp 10) = .int .i64 (z : Int) := (hρ 10 (by kernel_rfl)).trans rfl
          exact .inl ⟨rfl, .inl ⟨_, u, rfl, s10, (by simpa [updB] using hR), trivial⟩⟩
        · -- 3
          have h1 : ρ (.tmp 17) = .int .i64 (a : Int) := hv 1 17 rfl (hd ⟨1, .data⟩ (by simp) rfl)
          have h2 : ρ (.tmp 18) = .int .i64 (z : Int) := hv 2 18 rfl (hd ⟨2, .data⟩ (by simp) rfl)
          exact .inl ⟨rfl, .inl ⟨.int .i64 (p : Int), u, run_bin_op rfl h1 h2 (by go_simp), rfl, (by simpa [updB] using hR), trivial⟩⟩
        · -- 4
          have s0 : ρ (.tmp 0) = .slice (some ⟨g, 0, none⟩) n c := (hρ 0 (by kernel_rfl)).trans rfl
          exact .inl ⟨rfl, .inl ⟨_, u, rfl, s0, (by simpa [updB] using hR), trivial⟩⟩
        · -- 5
          have s2 : ρ (.tmp 2) = .int .i64 (b : Int) := (hρ 2 (by kernel_rfl)).trans rfl
          exact .inl ⟨rfl, .inl ⟨_, u, rfl, s2, (by simpa [updB] using hR), trivial⟩⟩
        · -- 6
          have s10 : ρ (.tmp 10) = .int .i64 (z : Int) := (hρ 10 (by kernel_rfl)).trans rfl
          exact .inl ⟨rfl, .inl ⟨_, u, rfl, s10, (by simpa [updB] using hR), trivial⟩⟩
        · -- 7
          have h5 : ρ (.tmp 21) = .int .i64 (b : Int) := hv 5 21 rfl (hd ⟨5, .data⟩ (by simp) rfl)
          have h6 : ρ (.tmp 22) = .int .i64 (z : Int) := hv 6 22 rfl (hd ⟨6, .data⟩ (by simp) rfl)
          exact .inl ⟨rfl, .inl ⟨.int .i64 (q : Int), u, run_bin_op rfl h5 h6 (by go_simp), rfl, (by simpa [updB] using hR), trivial⟩⟩
        · -- 8
          have s0 : ρ (.tmp 0) = .slice (some ⟨g, 0, none⟩) n c := (hρ 0 (by kernel_rfl)).trans rfl
          exact .inl ⟨rfl, .inl ⟨_, u, rfl, s0, (by simpa [updB] using hR), trivial⟩⟩
        · -- 9
          have s2 : ρ (.tmp 2) = .int .i64 (b : Int) := (hρ 2 (by kernel_rfl)).trans rfl
          exact .inl ⟨rfl, .inl ⟨_, u, rfl, s2, (by simpa [updB] using hR), trivial⟩⟩
        · -- 10
          have s10 : ρ (.tmp 10) = .int .i64 (z : Int) := (hρ 10 (by kernel_rfl)).trans rfl
          exact .inl ⟨rfl, .inl ⟨_, u, rfl, s10, (by simpa [updB] using hR), trivial⟩⟩
        · -- 11
          have h9 : ρ (.tmp 25) = .int .i64 (b : Int) := hv 9 25 rfl (hd ⟨9, .data⟩ (by simp) rfl)
          have h10 : ρ (.tmp 26) = .int .i64 (z : Int) := hv 10 26 rfl (hd ⟨10, .data⟩ (by simp) rfl)
          exact .inl ⟨rfl, .inl ⟨.int .i64 (q : Int), u, run_bin_op rfl h9 h10 (by go_simp), rfl, (by simpa [updB] using hR), trivial⟩⟩
        · -- 12
          have h8 : ρ (.tmp 24) = .slice (some ⟨g, 0, none⟩) n c := hv 8 24 rfl (hd ⟨8, .data⟩ (by simp) rfl)
          have h11 : ρ (.tmp 27) = .int .i64 (q : Int) := hv 11 27 rfl (hd ⟨11, .data⟩ (by simp) rfl)
          exact .inl ⟨rfl, .inl ⟨.pointer (some ⟨g, q * 7, none⟩), u, run_index_op rfl h8 h11 (by go_simp), rfl, (by simpa [updB] using hR), trivial⟩⟩
        · -- 13
          have n1 : l 21 = false := (by cases hx : l 21; (rfl); (have h1 := hcl 21 _ rfl hx ⟨13, .data⟩ (by simp) rfl; rw [hli] at h1; cases h1))
          have n2 : l 23 = false := (by cases hx : l 23; (rfl); (have h1 := hcl 23 _ rfl hx ⟨13, .phase⟩ (by simp) rfl; rw [hli] at h1; cases h1))
          have R0 : RowU u g n h := hR.1.congr (fun k _ => by simp [n1, n2])
          obtain ⟨d0, d1, d2, d3, d4, d5, d6⟩ := RowU.seven R0 (show q < n from by omega)
          clear R0
          have h12 : ρ (.tmp 28) = .pointer (some ⟨g, q * 7, none⟩) := hv 12 28 rfl (hd ⟨12, .data⟩ (by simp) rfl)
          have hr : (Instr.loadAt 65 (.pointer (some ⟨g, q * 7, none⟩))).run Try.prog u = .ok (.agg (ruc (h q))) u := by go_simp
          exact .inl ⟨rfl, .inl ⟨.agg (ruc (h q)), u, run_load_op rfl h12 hr, rfl, (by simpa [updB] using hR), trivial⟩⟩
        · -- 14
          have s0 : ρ (.tmp 0) = .slice (some ⟨g, 0, none⟩) n c := (hρ 0 (by kernel_rfl)).trans rfl
          exact .inl ⟨rfl, .inl ⟨_, u, rfl, s0, (by simpa [updB] using hR), trivial⟩⟩
        · -- 15
          have s1 : ρ (.tmp 1) = .int .i64 (a : Int) := (hρ 1 (by kernel_rfl)).trans rfl
          exact .inl ⟨rfl, .inl ⟨_, u, rfl, s1, (by simpa [updB] using hR), trivial⟩⟩
        · -- 16
          have s10 : ρ (.tmp 10) = .int .i64 (z : Int) := (hρ 10 (by kernel_rfl)).trans rfl
          exact .inl ⟨rfl, .inl ⟨_, u, rfl, s10, (by simpa [updB] using hR), trivial⟩⟩
        · -- 17
          have h15 : ρ (.tmp 31) = .int .i64 (a : Int) := hv 15 31 rfl (hd ⟨15, .data⟩ (by simp) rfl)
          have h16 : ρ (.tmp 32) = .int .i64 (z : Int) := hv 16 32 rfl (hd ⟨16, .data⟩ (by simp) rfl)
          exact .inl ⟨rfl, .inl ⟨.int .i64 (p : Int), u, run_bin_op rfl h15 h16 (by go_simp), rfl, (by simpa [updB] using hR), trivial⟩⟩
        · -- 18
          have h14 : ρ (.tmp 30) = .slice (some ⟨g, 0, none⟩) n c := hv 14 30 rfl (hd ⟨14, .data⟩ (by simp) rfl)
          have h17 : ρ (.tmp 33) = .int .i64 (p : Int) := hv 17 33 rfl (hd ⟨17, .data⟩ (by simp) rfl)
          exact .inl ⟨rfl, .inl ⟨.pointer (some ⟨g, p * 7, none⟩), u, run_index_op rfl h14 h17 (by go_simp), rfl, (by simpa [updB] using hR), trivial⟩⟩
        · -- 19
          have n1 : l 21 = false := (by cases hx : l 21; (rfl); (have h1 := hcl 21 _ rfl hx ⟨19, .phase⟩ (by simp) rfl; rw [hli] at h1; cases h1))
          have n2 : l 23 = false := (by cases hx : l 23; (rfl); (have h1 := hcl 23 _ rfl hx ⟨19, .data⟩ (by simp) rfl; rw [hli] at h1; cases h1))
          have R0 : RowU u g n h := hR.1.congr (fun k _ => by simp [n1, n2])
          obtain ⟨d0, d1, d2, d3, d4, d5, d6⟩ := RowU.seven R0 (show p < n from by omega)
          clear R0
          have h18 : ρ (.tmp 34) = .pointer (some ⟨g, p * 7, none⟩) := hv 18 34 rfl (hd ⟨18, .data⟩ (by simp) rfl)
          have hr : (Instr.loadAt 65 (.pointer (some ⟨g, p * 7, none⟩))).run Try.prog u = .ok (.agg (ruc (h p))) u := by go_simp
          exact .inl ⟨rfl, .inl ⟨.agg (ruc (h p)), u, run_load_op rfl h18 hr, rfl, (by simpa [updB] using hR), trivial⟩⟩
        · -- 20
          have h0 : ρ (.tmp 16) = .slice (some ⟨g, 0, none⟩) n c := hv 0 16 rfl (hd ⟨0, .data⟩ (by simp) rfl)
          have h3 : ρ (.tmp 19) = .int .i64 (p : Int) := hv 3 19 rfl (hd ⟨3, .data⟩ (by simp) rfl)
          exact .inl ⟨rfl, .inl ⟨.pointer (some ⟨g, p * 7, none⟩), u, run_index_op rfl h0 h3 (by go_simp), rfl, (by simpa [updB] using hR), trivial⟩⟩
        · -- 21
          obtain ⟨d0, d1, d2, d3, d4, d5, d6⟩ := RowU.seven hR.1 (show p < n from by omega)
          have f0 := RowS.fro hR.1 (p * 7)
          have f1 := RowS.fro hR.1 (p * 7 + 1)
          have f2 := RowS.fro hR.1 (p * 7 + 2)
          have f3 := RowS.fro hR.1 (p * 7 + 3)
          have f4 := RowS.fro hR.1 (p * 7 + 4)
          have f5 := RowS.fro hR.1 (p * 7 + 5)
          have f6 := RowS.fro hR.1 (p * 7 + 6)
          have h20 : ρ (.tmp 36) = .pointer (some ⟨g, p * 7, none⟩) := hv 20 36 rfl (hd ⟨20, .data⟩ (by simp) rfl)
          have h13 : ρ (.tmp 29) = .agg (ruc (h q)) := hv 13 29 rfl (hd ⟨13, .data⟩ (by simp) rfl)
          have hr : (Instr.storeAt 65 (.pointer (some ⟨g, p * 7, none⟩)) (.agg (ruc (h q)))).run Try.prog u = .ok () ((((((((u).setCell ⟨g, p * 7, none⟩ (.int .i64 (h q).u)).setCell ⟨g, p * 7 + 1, none⟩ (.int .i64 (h q).s)).setCell ⟨g, p * 7 + 2, none⟩ (.int .i64 (h q).lo)).setCell ⟨g, p * 7 + 3, none⟩ (.int .i64 (h q).hi)).setCell ⟨g, p * 7 + 4, none⟩ (.int .i64 (h q).p)).setCell ⟨g, p * 7 + 5, none⟩ (.int .i64 (h q).t)).setCell ⟨g, p * 7 + 6, none⟩ (.int .i64 (h q).sh)) := by go_simp
          have hR2 := RowS.set hR.1 (show p < n from by omega) (rul (h q)) rfl
          have hB2 := setL_below (g := g) hg (rul (h q)) u (p * 7) hR.2
          exact .inl ⟨rfl, .inr (.inr ⟨rfl, _, run_store_op rfl h20 h13 hr, ⟨hR2.congr (fun k _ => by by_cases e : k = p <;> simp [updB, e, hIJ, hJI]), hB2⟩, trivial⟩)⟩
        · -- 22
          have h4 : ρ (.tmp 20) = .slice (some ⟨g, 0, none⟩) n c := hv 4 20 rfl (hd ⟨4, .data⟩ (by simp) rfl)
          have h7 : ρ (.tmp 23) = .int .i64 (q : Int) := hv 7 23 rfl (hd ⟨7, .data⟩ (by simp) rfl)
          exact .inl ⟨rfl, .inl ⟨.pointer (some ⟨g, q * 7, none⟩), u, run_index_op rfl h4 h7 (by go_simp), rfl, (by simpa [updB] using hR), trivial⟩⟩
        · -- 23
          obtain ⟨d0, d1, d2, d3, d4, d5, d6⟩ := RowU.seven hR.1 (show q < n from by omega)
          have f0 := RowS.fro hR.1 (q * 7)
          have f1 := RowS.fro hR.1 (q * 7 + 1)
          have f2 := RowS.fro hR.1 (q * 7 + 2)
          have f3 := RowS.fro hR.1 (q * 7 + 3)
          have f4 := RowS.fro hR.1 (q * 7 + 4)
          have f5 := RowS.fro hR.1 (q * 7 + 5)
          have f6 := RowS.fro hR.1 (q * 7 + 6)
          have h22 : ρ (.tmp 37) = .pointer (some ⟨g, q * 7, none⟩) := hv 22 37 rfl (hd ⟨22, .data⟩ (by simp) rfl)
          have h19 : ρ (.tmp 35) = .agg (ruc (h p)) := hv 19 35 rfl (hd ⟨19, .data⟩ (by simp) rfl)
          have hr : (Instr.storeAt 65 (.pointer (some ⟨g, q * 7, none⟩)) (.agg (ruc (h p)))).run Try.prog u = .ok () ((((((((u).setCell ⟨g, q * 7, none⟩ (.int .i64 (h p).u)).setCell ⟨g, q * 7 + 1, none⟩ (.int .i64 (h p).s)).setCell ⟨g, q * 7 + 2, none⟩ (.int .i64 (h p).lo)).setCell ⟨g, q * 7 + 3, none⟩ (.int .i64 (h p).hi)).setCell ⟨g, q * 7 + 4, none⟩ (.int .i64 (h p).p)).setCell ⟨g, q * 7 + 5, none⟩ (.int .i64 (h p).t)).setCell ⟨g, q * 7 + 6, none⟩ (.int .i64 (h p).sh)) := by go_simp
          have hR2 := RowS.set hR.1 (show q < n from by omega) (rul (h p)) rfl
          have hB2 := setL_below (g := g) hg (rul (h p)) u (q * 7) hR.2
          exact .inl ⟨rfl, .inr (.inr ⟨rfl, _, run_store_op rfl h22 h19 hr, ⟨hR2.congr (fun k _ => by by_cases e : k = q <;> simp [updB, e, hIJ, hJI]), hB2⟩, trivial⟩)⟩
    · have hi' : ¬ (z : Int) < (m : Int) := by omega
      have HX : Hid (RowU wr g n (fun k => f (srI a b m k)) ∧ Below w0.heap.size w0 wr) := ⟨by have e := HH.out; subst e; rw [show m = z by omega]; exact HROW.out.1, HROW.out.2⟩
      clear HROW HH
      go_wp2
      refine bodyPost_end (v := .tuple #[]) (by simp [results, Try.results82, go_sem]) rfl ⟨rfl, HX.out⟩
end Go.Proofs.Ytccffbbboodolaa
