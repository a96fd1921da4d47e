/- RulesOk of the program. -/
import Derived.Test.YtklnfeblkffgiaaDoorSr8
import Derived.Test.YtklnfeblkffgiaaDoorSrR
namespace Go.Proofs.YtklnfeblkffgiaaDoor
open Go.RowKit

set_option linter.unusedVariables false

set_option linter.unusedSimpArgs false

set_option maxRecDepth 20000 in
set_option maxHeartbeats 2000000 in
theorem areApart_any (a : Option Addr) (n cap : Nat) (f : Nat → Ru) (w : World) (hs : SlU w a n f) (hn : n ≤ 24) (hok : ∀ k, k < n → (f k).lo ≤ (f k).hi) (b : Bool) (hb : b = true ↔ Apart f n) :
    Calls Tryd.prog 45 #[.slice a n cap] w fun e w' => e = .returned (.bool b) ∧ Below w.heap.size w w' := by
  have HB : Hid (b = true ↔ Apart f n) := hb
  have HOK : Hid (∀ k, k < n → (f k).lo ≤ (f k).hi) := hok
  clear hb hok
  go_enter Tryd.func45, Tryd.ntmps45
  go_wp2_with fail
  refine (sortedBy_any a n cap f _ hs hn).mono ?_
  rintro e w1 ⟨rfl, h, R1, P1, S1, B1⟩
  have HI : Hid (True ∧ (AdjOk h n ↔ Apart f n)) := ⟨trivial, apart_iff HOK.out P1 S1⟩
  clear P1 S1 HOK hs
  go_wp2
  go_loopw [4] (fun i wr => ∃ z : Nat, 1 ≤ z ∧ (z ≤ n ∨ z = 1) ∧ i = .int .i64 z ∧ RowU wr w.heap.size n h ∧ (∀ j, j + 1 < z → j + 1 < n → hasR (h j) (h (j + 1)).u (h (j + 1)).s (h (j + 1)).lo = false) ∧ Below w.heap.size w wr) (fun i _ => n - (intOf i).toNat)
  case atStart => exact ⟨1, Nat.le_refl _, .inr rfl, rfl, R1, fun j h1 h2 => by omega, B1⟩
  case round =>
    clear R1 B1
    obtain ⟨z, hz, hzn, rfl, hrow, hadj, hbl⟩ := hrel
    have HA : Hid (∀ j, j + 1 < z → j + 1 < n → hasR (h j) (h (j + 1)).u (h (j + 1)).s (h (j + 1)).lo = false) := hadj
    clear hadj
    by_cases hlt : z < n
    · have hi : (z : Int) < (n : Int) := by omega
      obtain ⟨y, hy⟩ : ∃ y, z = y + 1 := ⟨z - 1, by omega⟩
      have wy : IntKind.i64.wrap ((z : Int) - 1) = (y : Int) := by rw [IntKind.wrap_i64]; omega
      have hyn : (y : Int) < (n : Int) := by omega
      have hyn2 : y < n := by omega
      obtain ⟨c0, c1, c2, c3, c4, c5, c6⟩ := RowU.seven hrow hlt
      obtain ⟨hv, hhv⟩ : ∃ hv, hasR (h y) (h z).u (h z).s (h z).lo = hv := ⟨_, rfl⟩
      have HV : Hid (hasR (h y) (h z).u (h z).s (h z).lo = hv) := hhv
      have HY : Hid (z = y + 1) := hy
      obtain ⟨gB, hgB⟩ : ∃ gB, gB = wr.heap.size := ⟨_, rfl⟩
      obtain ⟨W, hW⟩ : ∃ W, W = wr.alloc (.cells (ruc (h z)) 33) := ⟨_, rfl⟩
      have HW : Hid (RowU W w.heap.size n h ∧ Below w.heap.size w W ∧ gB < W.heap.size ∧ ∀ u, Below W.heap.size W u → u.cell? ⟨gB, 0, none⟩ = some (.int .i64 (h z).u) ∧ u.cell? ⟨gB, 1, none⟩ = some (.int .i64 (h z).s) ∧ u.cell? ⟨gB, 2, none⟩ = some (.int .i64 (h z).lo)) := by
        have hl : gB < W.heap.size := by rw [hW, hgB]; simp
        refine ⟨by rw [hW]; exact hrow.below ((Below.refl _ _).alloc (Nat.le_refl _) _), by rw [hW]; exact bel_next hbl ((Below.refl _ _).alloc (Nat.le_refl _) _), hl, fun u hu => ⟨?_, ?_, ?_⟩⟩
        · rw [hu.cell (p := ⟨gB, 0, none⟩) hl, hW, hgB]; simp [go_sem]
        · rw [hu.cell (p := ⟨gB, 1, none⟩) hl, hW, hgB]; simp [go_sem]
        · rw [hu.cell (p := ⟨gB, 2, none⟩) hl, hW, hgB]; simp [go_sem]
      clear hhv hy hrow hbl
      go_wp2
      rw [← hW, ← hgB]
      clear hW hgB c0 c1 c2 c3 c4 c5 c6
      refine wp_region_any (by kernel_rfl) ?_
      refine wpAny_vals (fun u => Below W.heap.size W u) (fun i v u => match i with
        | 0 => v = .slice (some ⟨w.heap.size, 0, none⟩) n n
        | 1 => v = .int .i64 (z : Int)
        | 2 => v = .int .i64 (y : Int)
        | 3 => v = .pointer (some ⟨w.heap.size, y * 7, none⟩)
        | 4 => v = .agg (ruc (h y))
        | 5 => v = .pointer (some ⟨gB, 0, none⟩)
        | 6 => v = .int .i64 (h z).u
        | 7 => v = .pointer (some ⟨gB, 1, none⟩)
        | 8 => v = .int .i64 (h z).s
        | 9 => v = .pointer (some ⟨gB, 2, none⟩)
        | 10 => v = .int .i64 (h z).lo
        | 11 => v = .bool hv
        | _ => True) (by kernel_rfl) (by kernel_rfl) (fun _ _ _ _ h _ => h) (Below.refl _ _).drew ?_ ?_ _ _ rfl (by decide) (fun i => by simp [Array.getD]; try (split <;> rfl))
      · intro vs u hR hall
        have e16 : vs 11 = .bool hv := hall 11 (by simp)
        simp only [putsL]
        rw [e16]
        clear hall e16
        have HX : Hid (RowU u w.heap.size n h ∧ Below w.heap.size w u) := ⟨HW.out.1.below hR, bel_next HW.out.2.1 hR⟩
        clear hR HW
        cases hv with
        | false =>
          go_simp
          go_wp2
          go_roundw
          case rel => exact ⟨z + 1, by omega, by omega, by go_num, HX.out.1, fun j h1 h2 => (by have := HY.out; by_cases e : j = y; (subst e; rw [← this]; exact HV.out); (exact HA.out j (by omega) h2)), HX.out.2⟩
          case measure => simp [intOf]; omega
        | true =>
          have hno : b = false := by cases b with | false => rfl | true => (have h9 := (HI.out.2.trans HB.out.symm).2 rfl y (by have := HY.out; omega); rw [← HY.out, HV.out] at h9; cases h9)
          subst hno
          go_simp
          go_wp2
          go_ret
          exact ⟨rfl, HX.out.2⟩
      · intro u i o ρ hR ho hρ hc hf hd
        have hi : i < 12 := by
          have := (Array.getElem?_eq_some_iff.1 ho).1
          simpa using this
        obtain rfl | rfl | rfl | rfl | rfl | rfl | rfl | rfl | rfl | rfl | rfl | rfl : i = 0 ∨ i = 1 ∨ i = 2 ∨ i = 3 ∨ i = 4 ∨ i = 5 ∨ i = 6 ∨ i = 7 ∨ i = 8 ∨ i = 9 ∨ i = 10 ∨ i = 11 := by omega
        all_goals (simp only [List.getElem?_toArray, List.getElem?_cons_zero, List.getElem?_cons_succ, Option.some.injEq] at ho; subst ho)
        · -- 0
          have s3 : ρ (.tmp 3) = .slice (some ⟨w.heap.size, 0, none⟩) n n := (hρ 3 (by kernel_rfl)).trans rfl
          exact .inl ⟨rfl, .inl ⟨_, u, rfl, s3, hR, Below.refl _ _⟩⟩
        · -- 1
          have s4 : ρ (.tmp 4) = .int .i64 (z : Int) := (hρ 4 (by kernel_rfl)).trans rfl
          exact .inl ⟨rfl, .inl ⟨_, u, rfl, s4, hR, Below.refl _ _⟩⟩
        · -- 2
          have h1 : ρ (.tmp 19) = .int .i64 (z : Int) := hd ⟨1, .data⟩ (by simp) rfl 19 rfl
          exact .inl ⟨rfl, .inl ⟨.int .i64 (y : Int), u, run_bin_op rfl h1 (hc _) (by go_simp), rfl, hR, Below.refl _ _⟩⟩
        · -- 3
          have h0 : ρ (.tmp 18) = .slice (some ⟨w.heap.size, 0, none⟩) n n := hd ⟨0, .data⟩ (by simp) rfl 18 rfl
          have h2 : ρ (.tmp 20) = .int .i64 (y : Int) := hd ⟨2, .data⟩ (by simp) rfl 20 rfl
          exact .inl ⟨rfl, .inl ⟨.pointer (some ⟨w.heap.size, y * 7, none⟩), u, run_index_op rfl h0 h2 (by go_simp), rfl, hR, Below.refl _ _⟩⟩
        · -- 4
          have R0 : RowU u w.heap.size n h := HW.out.1.below hR
          obtain ⟨d0, d1, d2, d3, d4, d5, d6⟩ := RowU.seven R0 (show y < n from by omega)
          clear R0
          have h3 : ρ (.tmp 21) = .pointer (some ⟨w.heap.size, y * 7, none⟩) := hd ⟨3, .data⟩ (by simp) rfl 21 rfl
          have hr : (Instr.loadAt 33 (.pointer (some ⟨w.heap.size, y * 7, none⟩))).run Tryd.prog u = .ok (.agg (ruc (h y))) u := by go_simp
          exact .inl ⟨rfl, .inl ⟨.agg (ruc (h y)), u, run_load_op rfl h3 hr, rfl, hR, Below.refl _ _⟩⟩
        · -- 5
          have s5 : ρ (.tmp 5) = .pointer (some ⟨gB, 0, none⟩) := (hρ 5 (by kernel_rfl)).trans rfl
          exact .inl ⟨rfl, .inl ⟨.pointer (some ⟨gB, 0, none⟩), u, run_field_op rfl s5 (by go_simp), rfl, hR, Below.refl _ _⟩⟩
        · -- 6
          obtain ⟨q0, q1, q2⟩ := HW.out.2.2.2 u hR
          have h5 : ρ (.tmp 23) = .pointer (some ⟨gB, 0, none⟩) := hd ⟨5, .data⟩ (by simp) rfl 23 rfl
          have hr : (Instr.loadAt 3 (.pointer (some ⟨gB, 0, none⟩))).run Tryd.prog u = .ok (.int .i64 (h z).u) u := by go_simp
          exact .inl ⟨rfl, .inl ⟨.int .i64 (h z).u, u, run_load_op rfl h5 hr, rfl, hR, Below.refl _ _⟩⟩
        · -- 7
          have s5 : ρ (.tmp 5) = .pointer (some ⟨gB, 0, none⟩) := (hρ 5 (by kernel_rfl)).trans rfl
          exact .inl ⟨rfl, .inl ⟨.pointer (some ⟨gB, 1, none⟩), u, run_field_op rfl s5 (by go_simp), rfl, hR, Below.refl _ _⟩⟩
        · -- 8
          obtain ⟨q0, q1, q2⟩ := HW.out.2.2.2 u hR
          have h7 : ρ (.tmp 25) = .pointer (some ⟨gB, 1, none⟩) := hd ⟨7, .data⟩ (by simp) rfl 25 rfl
          have hr : (Instr.loadAt 3 (.pointer (some ⟨gB, 1, none⟩))).run Tryd.prog u = .ok (.int .i64 (h z).s) u := by go_simp
          exact .inl ⟨rfl, .inl ⟨.int .i64 (h z).s, u, run_load_op rfl h7 hr, rfl, hR, Below.refl _ _⟩⟩
        · -- 9
          have s5 : ρ (.tmp 5) = .pointer (some ⟨gB, 0, none⟩) := (hρ 5 (by kernel_rfl)).trans rfl
          exact .inl ⟨rfl, .inl ⟨.pointer (some ⟨gB, 2, none⟩), u, run_field_op rfl s5 (by go_simp), rfl, hR, Below.refl _ _⟩⟩
        · -- 10
          obtain ⟨q0, q1, q2⟩ := HW.out.2.2.2 u hR
          have h9 : ρ (.tmp 27) = .pointer (some ⟨gB, 2, none⟩) := hd ⟨9, .data⟩ (by simp) rfl 27 rfl
          have hr : (Instr.loadAt 3 (.pointer (some ⟨gB, 2, none⟩))).run Tryd.prog u = .ok (.int .i64 (h z).lo) u := by go_simp
          exact .inl ⟨rfl, .inl ⟨.int .i64 (h z).lo, u, run_load_op rfl h9 hr, rfl, hR, Below.refl _ _⟩⟩
        · -- 11
          have h4 : ρ (.tmp 22) = .agg (ruc (h y)) := hd ⟨4, .data⟩ (by simp) rfl 22 rfl
          have h6 : ρ (.tmp 24) = .int .i64 (h z).u := hd ⟨6, .data⟩ (by simp) rfl 24 rfl
          have h8 : ρ (.tmp 26) = .int .i64 (h z).s := hd ⟨8, .data⟩ (by simp) rfl 26 rfl
          have h10 : ρ (.tmp 28) = .int .i64 (h z).lo := hd ⟨10, .data⟩ (by simp) rfl 28 rfl
          refine .inl ⟨rfl, .inr ⟨_, _, run_call_op rfl (hf _) (args := #[.agg (ruc (h y)), .int .i64 (h z).u, .int .i64 (h z).s, .int .i64 (h z).lo]) (by simp [h4, h6, h8, h10]) (by kernel_rfl), ?_⟩⟩
          refine (has_any (h y) (h z).u (h z).s (h z).lo _).mono ?_
          rintro e u' ⟨he, b'⟩
          rw [HV.out] at he
          exact ⟨_, he, rfl, bel_next hR b', b'⟩
    · have hi : ¬ (z : Int) < (n : Int) := by omega
      have hyes : b = true := HB.out.2 (HI.out.2.1 (fun j hj => HA.out j (by omega) hj))
      subst hyes
      clear hrow
      go_wp2
      go_ret
      exact ⟨rfl, hbl⟩

set_option maxRecDepth 20000 in
set_option maxHeartbeats 2000000 in
theorem implRulesOk_any (a : Option Addr) (n cap : Nat) (f : Nat → Ru) (w : World) (hs : SlU w a n f) (hl : n ≤ 2000000) (h64 : ∀ k, k < n → -9223372036854775808 ≤ (f k).sh ∧ (f k).sh ≤ 9223372036854775807) (b : Bool) (hb : b = true ↔ OkRs f n) :
    Calls Tryd.prog 26 #[.slice a n cap] w fun e w' => e = .returned (.bool b) ∧ Below w.heap.size w w' := by
  have HB : Hid (b = true ↔ OkRs f n) := hb
  clear hb
  by_cases hn : 24 < n
  · have d : (24 : Int) < (n : Int) := by omega
    have hno : b = false := by cases b with | false => rfl | true => (have := (HB.out.1 rfl).1; omega)
    subst hno
    clear hs
    go_enter Tryd.func26, Tryd.ntmps26
    go_wp2
    go_ret
    exact ⟨rfl, Below.refl _ _⟩
  · have d : ¬ (24 : Int) < (n : Int) := by omega
    go_enter Tryd.func26, Tryd.ntmps26
    go_wp2
    go_loopw [10] (fun i wr => ∃ z : Nat, z ≤ n ∧ i = .int .i64 z ∧ (∀ k, k < z → OkRu (f k)) ∧ Below w.heap.size w wr) (fun i _ => n - (intOf i).toNat)
    case atStart => exact ⟨0, Nat.zero_le _, rfl, fun k hk => by omega, Below.refl _ _⟩
    case round =>
      obtain ⟨z, hz, rfl, hall, hbl⟩ := hrel
      by_cases hlt : z < n
      · have hi : (z : Int) < (n : Int) := by omega
        obtain ⟨bb, off, rfl, hb0, c0, c1, c2, c3, c4, c5, c6⟩ := SlU.seven (SlS.below hs hbl) hlt
        have B1 : Below w.heap.size w (wr.alloc (.cells (ruc (f z)) 33)) := bel_next hbl ((Below.refl _ _).alloc (Nat.le_refl _) _)
        have HA : Hid (∀ k, k < z → OkRu (f k)) := hall
        clear hall
        go_wp2_with fail
        refine (isRight_any (f z) _ (h64 z hlt)).mono ?_
        rintro e w2 ⟨rfl, b2⟩
        have B2 := bel_next B1 b2
        clear B1 b2 hbl c0 c1 c2 c3 c4 c5 c6
        by_cases ho : OkRu (f z)
        · rw [decide_eq_true ho]
          go_wp2
          go_roundw
          case rel => exact ⟨z + 1, by omega, by go_num, fun k hk => (by by_cases e : k = z; (subst e; exact ho); (exact HA.out k (by omega))), B2⟩
          case measure => simp [intOf]; omega
        · rw [decide_eq_false ho]
          have hno : b = false := by cases b with | false => rfl | true => exact absurd ((HB.out.1 rfl).2.1 z hlt) ho
          subst hno
          go_wp2
          go_ret
          exact ⟨rfl, B2⟩
      · have hi : ¬ (z : Int) < (n : Int) := by omega
        have S2 := SlS.below hs hbl
        have HA : Hid (∀ k, k < n → OkRu (f k)) := fun k hk => hall k (by omega)
        clear hall
        go_wp2_with fail
        refine (areApart_any a n cap f _ S2 (by omega) (fun k hk => (HA.out k hk).2.2.1.2.1) b ⟨fun h => (HB.out.1 h).2.2, fun h => HB.out.2 ⟨by omega, HA.out, h⟩⟩).mono ?_
        rintro e w2 ⟨rfl, b2⟩
        have B2 := bel_next hbl b2
        clear b2 hbl S2
        go_wp2
        go_ret
        exact ⟨rfl, B2⟩

end Go.Proofs.YtklnfeblkffgiaaDoor
