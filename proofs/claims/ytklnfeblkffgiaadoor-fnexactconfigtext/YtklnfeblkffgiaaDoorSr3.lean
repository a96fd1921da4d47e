/- Exchanging two runs of rules. -/
import Derived.Test.YtklnfeblkffgiaaDoorSr2
import Derived.Test.YtklnfeblkffgiaaDoorSrQ
namespace Go.Proofs.YtklnfeblkffgiaaDoor
open Go.RowKit

set_option linter.unusedVariables false

set_option linter.unusedSimpArgs false

theorem RowU.ext {w : World} {g n : Nat} {f f' : Nat → Ru} (h : RowU w g n f) (e : ∀ k, f k = f' k) : RowU w g n f' := RowS.congr h (fun k _ => by rw [e k])

set_option maxRecDepth 20000 in
set_option maxHeartbeats 4000000 in
theorem swapRange_any (g n c a b m : Nat) (f : Nat → Ru) (w0 w : World) (hb : Below w0.heap.size w0 w) (hg : w0.heap.size ≤ g) (hr : RowU w g n f) (hab : a + m ≤ b) (hbn : b + m ≤ n) (hn : n ≤ 1000000) :
    Calls Tryd.prog 116 #[.slice (some ⟨g, 0, none⟩) n c, .int .i64 (a : Int), .int .i64 (b : Int), .int .i64 (m : Int), .func (.func 63) #[] #[]] w fun e w' => e = .returned (.tuple #[]) ∧ RowU w' g n (fun k => f (srI a b m k)) ∧ Below w0.heap.size w0 w' := by
  go_enter Tryd.func116, Tryd.ntmps116
  go_wp2
  go_loopw [10] (fun i wr => ∃ (k : Nat), k ≤ m ∧ i = .int .i64 k ∧ RowU wr g n (fun x => f (srI a b k x)) ∧ Below w0.heap.size w0 wr) (fun i _ => m - (intOf i).toNat)
  case atStart => exact ⟨0, by omega, rfl, RowU.ext hr (fun k => by rw [srI_zero]), hb⟩
  case round =>
    obtain ⟨z, hz, rfl, hrow, hbl⟩ := hrel
    obtain ⟨h, hh⟩ : ∃ h : Nat → Ru, h = fun x => f (srI a b z x) := ⟨_, rfl⟩
    rw [← hh] at hrow
    have HH : Hid (h = fun x => f (srI a b z x)) := hh
    have HROW : Hid (RowU wr g n h ∧ Below w0.heap.size w0 wr) := ⟨hrow, hbl⟩
    clear hrow hbl hh hr hb
    by_cases hlt : z < m
    · have hi' : (z : Int) < (m : Int) := by omega
      obtain ⟨p, hp⟩ : ∃ p, p = a + z := ⟨_, rfl⟩
      obtain ⟨q, hq⟩ : ∃ q, q = b + z := ⟨_, rfl⟩
      have wp' : IntKind.i64.wrap ((a : Int) + (z : Int)) = (p : Int) := by rw [IntKind.wrap_i64]; omega
      have wq' : IntKind.i64.wrap ((b : Int) + (z : Int)) = (q : Int) := by rw [IntKind.wrap_i64]; omega
      have hpn : (p : Int) < (n : Int) := by omega
      have hqn : (q : Int) < (n : Int) := by omega
      have hIJ : ¬ p = q := by omega
      have hJI : ¬ q = p := by omega
      have HP : Hid (p = a + z ∧ q = b + z) := ⟨hp, hq⟩
      have hpn2 : p < n := by omega
      have hqn2 : q < n := by omega
      clear hp hq
      go_wp2
      refine wp_region_any (by kernel_rfl) ?_
      refine wpAny_valw (fun l u => RowU u g n (fun k => if l 21 = true ∧ k = p then h q else if l 23 = true ∧ k = q then h p else h k) ∧ Below w0.heap.size w0 u) (fun _ _ => True) (fun i v u => match i with
        | 0 => v = .slice (some ⟨g, 0, none⟩) n c
        | 1 => v = .int .i64 (a : Int)
        | 2 => v = .int .i64 (z : Int)
        | 3 => v = .int .i64 (p : Int)
        | 4 => v = .slice (some ⟨g, 0, none⟩) n c
        | 5 => v = .int .i64 (b : Int)
        | 6 => v = .int .i64 (z : Int)
        | 7 => v = .int .i64 (q : Int)
        | 8 => v = .slice (some ⟨g, 0, none⟩) n c
        | 9 => v = .int .i64 (b : Int)
        | 10 => v = .int .i64 (z : Int)
        | 11 => v = .int .i64 (q : Int)
        | 12 => v = .pointer (some ⟨g, q * 7, none⟩)
        | 13 => v = .agg (ruc (h q))
        | 14 => v = .slice (some ⟨g, 0, none⟩) n c
        | 15 => v = .int .i64 (a : Int)
        | 16 => v = .int .i64 (z : Int)
        | 17 => v = .int .i64 (p : Int)
        | 18 => v = .pointer (some ⟨g, p * 7, none⟩)
        | 19 => v = .agg (ruc (h p))
        | 20 => v = .pointer (some ⟨g, p * 7, none⟩)
        | 22 => v = .pointer (some ⟨g, q * 7, none⟩)
        | _ => True) (by kernel_rfl) (by kernel_rfl) (fun _ _ _ _ h _ => h) (fun _ => trivial) ⟨RowS.congr (RowS.below HROW.out.1 (Below.refl _ _).drew) (fun k _ => by simp), HROW.out.2.drew⟩ ?_ ?_ _ _ rfl (by decide) (fun i => by simp [Array.getD]; try (split <;> rfl))
      · intro vs u hR _
        have R1 : RowU u g n (fun k => h (swI p q k)) := hR.1.congr (fun k _ => congrArg rul (by by_cases e1 : k = p <;> by_cases e2 : k = q <;> simp [swI, e1, e2, hJI, hIJ]))
        have R2 : RowU u g n (fun k => f (srI a b (z + 1) k)) := RowU.ext R1 (fun k => by rw [← srI_step (show a + z < b by omega), ← HP.out.1, ← HP.out.2, HH.out])
        have HX : Hid (RowU u g n (fun k => f (srI a b (z + 1) k)) ∧ Below w0.heap.size w0 u) := ⟨R2, hR.2⟩
        clear R1 R2 hR HROW HH
        simp only [putsL]
        go_simp
        go_wp2
        go_roundw
        case rel => exact ⟨z + 1, by omega, by go_num, HX.out.1, HX.out.2⟩
        case measure => simp [intOf]; omega
      · intro u i o ρ l hR ho hli hcl hρ hc hf hd hv
        have hi : i < 24 := by
          have := (Array.getElem?_eq_some_iff.1 ho).1
          simpa using this
        obtain rfl | rfl | rfl | rfl | rfl | rfl | rfl | rfl | rfl | rfl | rfl | rfl | rfl | rfl | rfl | rfl | rfl | rfl | rfl | rfl | rfl | rfl | rfl | rfl : i = 0 ∨ i = 1 ∨ i = 2 ∨ i = 3 ∨ i = 4 ∨ i = 5 ∨ i = 6 ∨ i = 7 ∨ i = 8 ∨ i = 9 ∨ i = 10 ∨ i = 11 ∨ i = 12 ∨ i = 13 ∨ i = 14 ∨ i = 15 ∨ i = 16 ∨ i = 17 ∨ i = 18 ∨ i = 19 ∨ i = 20 ∨ i = 21 ∨ i = 22 ∨ i = 23 := by omega
        all_goals (simp only [List.getElem?_toArray, List.getElem?_cons_zero, List.getElem?_cons_succ, Option.some.injEq] at ho; subst ho)
        · -- 0
          have s0 : ρ (.tmp 0) = .slice (some ⟨g, 0, none⟩) n c := (hρ 0 (by kernel_rfl)).trans rfl
          exact .inl ⟨rfl, .inl ⟨_, u, rfl, s0, (by simpa [updB] using hR), trivial⟩⟩
        · -- 1
          have s1 : ρ (.tmp 1) = .int .i64 (a : Int) := (hρ 1 (by kernel_rfl)).trans rfl
          exact .inl ⟨rfl, .inl ⟨_, u, rfl, s1, (by simpa [updB] using hR), trivial⟩⟩
        · -- 2
          have s10 : ρ (.tmp 10) = .int .i64 (z : Int) := (hρ 10 (by kernel_rfl)).trans rfl
          exact .inl ⟨rfl, .inl ⟨_, u, rfl, s10, (by simpa [updB] using hR), trivial⟩⟩
        · -- 3
          have h1 : ρ (.tmp 17) = .int .i64 (a : Int) := hv 1 17 rfl (hd ⟨1, .data⟩ (by simp) rfl)
          have h2 : ρ (.tmp 18) = .int .i64 (z : Int) := hv 2 18 rfl (hd ⟨2, .data⟩ (by simp) rfl)
          exact .inl ⟨rfl, .inl ⟨.int .i64 (p : Int), u, run_bin_op rfl h1 h2 (by go_simp), rfl, (by simpa [updB] using hR), trivial⟩⟩
        · -- 4
          have s0 : ρ (.tmp 0) = .slice (some ⟨g, 0, none⟩) n c := (hρ 0 (by kernel_rfl)).trans rfl
          exact .inl ⟨rfl, .inl ⟨_, u, rfl, s0, (by simpa [updB] using hR), trivial⟩⟩
        · -- 5
          have s2 : ρ (.tmp 2) = .int .i64 (b : Int) := (hρ 2 (by kernel_rfl)).trans rfl
          exact .inl ⟨rfl, .inl ⟨_, u, rfl, s2, (by simpa [updB] using hR), trivial⟩⟩
        · -- 6
          have s10 : ρ (.tmp 10) = .int .i64 (z : Int) := (hρ 10 (by kernel_rfl)).trans rfl
          exact .inl ⟨rfl, .inl ⟨_, u, rfl, s10, (by simpa [updB] using hR), trivial⟩⟩
        · -- 7
          have h5 : ρ (.tmp 21) = .int .i64 (b : Int) := hv 5 21 rfl (hd ⟨5, .data⟩ (by simp) rfl)
          have h6 : ρ (.tmp 22) = .int .i64 (z : Int) := hv 6 22 rfl (hd ⟨6, .data⟩ (by simp) rfl)
          exact .inl ⟨rfl, .inl ⟨.int .i64 (q : Int), u, run_bin_op rfl h5 h6 (by go_simp), rfl, (by simpa [updB] using hR), trivial⟩⟩
        · -- 8
          have s0 : ρ (.tmp 0) = .slice (some ⟨g, 0, none⟩) n c := (hρ 0 (by kernel_rfl)).trans rfl
          exact .inl ⟨rfl, .inl ⟨_, u, rfl, s0, (by simpa [updB] using hR), trivial⟩⟩
        · -- 9
          have s2 : ρ (.tmp 2) = .int .i64 (b : Int) := (hρ 2 (by kernel_rfl)).trans rfl
          exact .inl ⟨rfl, .inl ⟨_, u, rfl, s2, (by simpa [updB] using hR), trivial⟩⟩
        · -- 10
          have s10 : ρ (.tmp 10) = .int .i64 (z : Int) := (hρ 10 (by kernel_rfl)).trans rfl
          exact .inl ⟨rfl, .inl ⟨_, u, rfl, s10, (by simpa [updB] using hR), trivial⟩⟩
        · -- 11
          have h9 : ρ (.tmp 25) = .int .i64 (b : Int) := hv 9 25 rfl (hd ⟨9, .data⟩ (by simp) rfl)
          have h10 : ρ (.tmp 26) = .int .i64 (z : Int) := hv 10 26 rfl (hd ⟨10, .data⟩ (by simp) rfl)
          exact .inl ⟨rfl, .inl ⟨.int .i64 (q : Int), u, run_bin_op rfl h9 h10 (by go_simp), rfl, (by simpa [updB] using hR), trivial⟩⟩
        · -- 12
          have h8 : ρ (.tmp 24) = .slice (some ⟨g, 0, none⟩) n c := hv 8 24 rfl (hd ⟨8, .data⟩ (by simp) rfl)
          have h11 : ρ (.tmp 27) = .int .i64 (q : Int) := hv 11 27 rfl (hd ⟨11, .data⟩ (by simp) rfl)
          exact .inl ⟨rfl, .inl ⟨.pointer (some ⟨g, q * 7, none⟩), u, run_index_op rfl h8 h11 (by go_simp), rfl, (by simpa [updB] using hR), trivial⟩⟩
        · -- 13
          have n1 : l 21 = false := (by cases hx : l 21; (rfl); (have h1 := hcl 21 _ rfl hx ⟨13, .data⟩ (by simp) rfl; rw [hli] at h1; cases h1))
          have n2 : l 23 = false := (by cases hx : l 23; (rfl); (have h1 := hcl 23 _ rfl hx ⟨13, .phase⟩ (by simp) rfl; rw [hli] at h1; cases h1))
          have R0 : RowU u g n h := hR.1.congr (fun k _ => by simp [n1, n2])
          obtain ⟨d0, d1, d2, d3, d4, d5, d6⟩ := RowU.seven R0 (show q < n from by omega)
          clear R0
          have h12 : ρ (.tmp 28) = .pointer (some ⟨g, q * 7, none⟩) := hv 12 28 rfl (hd ⟨12, .data⟩ (by simp) rfl)
          have hr : (Instr.loadAt 33 (.pointer (some ⟨g, q * 7, none⟩))).run Tryd.prog u = .ok (.agg (ruc (h q))) u := by go_simp
          exact .inl ⟨rfl, .inl ⟨.agg (ruc (h q)), u, run_load_op rfl h12 hr, rfl, (by simpa [updB] using hR), trivial⟩⟩
        · -- 14
          have s0 : ρ (.tmp 0) = .slice (some ⟨g, 0, none⟩) n c := (hρ 0 (by kernel_rfl)).trans rfl
          exact .inl ⟨rfl, .inl ⟨_, u, rfl, s0, (by simpa [updB] using hR), trivial⟩⟩
        · -- 15
          have s1 : ρ (.tmp 1) = .int .i64 (a : Int) := (hρ 1 (by kernel_rfl)).trans rfl
          exact .inl ⟨rfl, .inl ⟨_, u, rfl, s1, (by simpa [updB] using hR), trivial⟩⟩
        · -- 16
          have s10 : ρ (.tmp 10) = .int .i64 (z : Int) := (hρ 10 (by kernel_rfl)).trans rfl
          exact .inl ⟨rfl, .inl ⟨_, u, rfl, s10, (by simpa [updB] using hR), trivial⟩⟩
        · -- 17
          have h15 : ρ (.tmp 31) = .int .i64 (a : Int) := hv 15 31 rfl (hd ⟨15, .data⟩ (by simp) rfl)
          have h16 : ρ (.tmp 32) = .int .i64 (z : Int) := hv 16 32 rfl (hd ⟨16, .data⟩ (by simp) rfl)
          exact .inl ⟨rfl, .inl ⟨.int .i64 (p : Int), u, run_bin_op rfl h15 h16 (by go_simp), rfl, (by simpa [updB] using hR), trivial⟩⟩
        · -- 18
          have h14 : ρ (.tmp 30) = .slice (some ⟨g, 0, none⟩) n c := hv 14 30 rfl (hd ⟨14, .data⟩ (by simp) rfl)
          have h17 : ρ (.tmp 33) = .int .i64 (p : Int) := hv 17 33 rfl (hd ⟨17, .data⟩ (by simp) rfl)
          exact .inl ⟨rfl, .inl ⟨.pointer (some ⟨g, p * 7, none⟩), u, run_index_op rfl h14 h17 (by go_simp), rfl, (by simpa [updB] using hR), trivial⟩⟩
        · -- 19
          have n1 : l 21 = false := (by cases hx : l 21; (rfl); (have h1 := hcl 21 _ rfl hx ⟨19, .phase⟩ (by simp) rfl; rw [hli] at h1; cases h1))
          have n2 : l 23 = false := (by cases hx : l 23; (rfl); (have h1 := hcl 23 _ rfl hx ⟨19, .data⟩ (by simp) rfl; rw [hli] at h1; cases h1))
          have R0 : RowU u g n h := hR.1.congr (fun k _ => by simp [n1, n2])
          obtain ⟨d0, d1, d2, d3, d4, d5, d6⟩ := RowU.seven R0 (show p < n from by omega)
          clear R0
          have h18 : ρ (.tmp 34) = .pointer (some ⟨g, p * 7, none⟩) := hv 18 34 rfl (hd ⟨18, .data⟩ (by simp) rfl)
          have hr : (Instr.loadAt 33 (.pointer (some ⟨g, p * 7, none⟩))).run Tryd.prog u = .ok (.agg (ruc (h p))) u := by go_simp
          exact .inl ⟨rfl, .inl ⟨.agg (ruc (h p)), u, run_load_op rfl h18 hr, rfl, (by simpa [updB] using hR), trivial⟩⟩
        · -- 20
          have h0 : ρ (.tmp 16) = .slice (some ⟨g, 0, none⟩) n c := hv 0 16 rfl (hd ⟨0, .data⟩ (by simp) rfl)
          have h3 : ρ (.tmp 19) = .int .i64 (p : Int) := hv 3 19 rfl (hd ⟨3, .data⟩ (by simp) rfl)
          exact .inl ⟨rfl, .inl ⟨.pointer (some ⟨g, p * 7, none⟩), u, run_index_op rfl h0 h3 (by go_simp), rfl, (by simpa [updB] using hR), trivial⟩⟩
        · -- 21
          obtain ⟨d0, d1, d2, d3, d4, d5, d6⟩ := RowU.seven hR.1 (show p < n from by omega)
          have f0 := RowS.fro hR.1 (p * 7)
          have f1 := RowS.fro hR.1 (p * 7 + 1)
          have f2 := RowS.fro hR.1 (p * 7 + 2)
          have f3 := RowS.fro hR.1 (p * 7 + 3)
          have f4 := RowS.fro hR.1 (p * 7 + 4)
          have f5 := RowS.fro hR.1 (p * 7 + 5)
          have f6 := RowS.fro hR.1 (p * 7 + 6)
          have h20 : ρ (.tmp 36) = .pointer (some ⟨g, p * 7, none⟩) := hv 20 36 rfl (hd ⟨20, .data⟩ (by simp) rfl)
          have h13 : ρ (.tmp 29) = .agg (ruc (h q)) := hv 13 29 rfl (hd ⟨13, .data⟩ (by simp) rfl)
          have hr : (Instr.storeAt 33 (.pointer (some ⟨g, p * 7, none⟩)) (.agg (ruc (h q)))).run Tryd.prog u = .ok () ((((((((u).setCell ⟨g, p * 7, none⟩ (.int .i64 (h q).u)).setCell ⟨g, p * 7 + 1, none⟩ (.int .i64 (h q).s)).setCell ⟨g, p * 7 + 2, none⟩ (.int .i64 (h q).lo)).setCell ⟨g, p * 7 + 3, none⟩ (.int .i64 (h q).hi)).setCell ⟨g, p * 7 + 4, none⟩ (.int .i64 (h q).p)).setCell ⟨g, p * 7 + 5, none⟩ (.int .i64 (h q).t)).setCell ⟨g, p * 7 + 6, none⟩ (.int .i64 (h q).sh)) := by go_simp
          have hR2 := RowS.set hR.1 (show p < n from by omega) (rul (h q)) rfl
          have hB2 := setL_below (g := g) hg (rul (h q)) u (p * 7) hR.2
          exact .inl ⟨rfl, .inr (.inr ⟨rfl, _, run_store_op rfl h20 h13 hr, ⟨hR2.congr (fun k _ => by by_cases e : k = p <;> simp [updB, e, hIJ, hJI]), hB2⟩, trivial⟩)⟩
        · -- 22
          have h4 : ρ (.tmp 20) = .slice (some ⟨g, 0, none⟩) n c := hv 4 20 rfl (hd ⟨4, .data⟩ (by simp) rfl)
          have h7 : ρ (.tmp 23) = .int .i64 (q : Int) := hv 7 23 rfl (hd ⟨7, .data⟩ (by simp) rfl)
          exact .inl ⟨rfl, .inl ⟨.pointer (some ⟨g, q * 7, none⟩), u, run_index_op rfl h4 h7 (by go_simp), rfl, (by simpa [updB] using hR), trivial⟩⟩
        · -- 23
          obtain ⟨d0, d1, d2, d3, d4, d5, d6⟩ := RowU.seven hR.1 (show q < n from by omega)
          have f0 := RowS.fro hR.1 (q * 7)
          have f1 := RowS.fro hR.1 (q * 7 + 1)
          have f2 := RowS.fro hR.1 (q * 7 + 2)
          have f3 := RowS.fro hR.1 (q * 7 + 3)
          have f4 := RowS.fro hR.1 (q * 7 + 4)
          have f5 := RowS.fro hR.1 (q * 7 + 5)
          have f6 := RowS.fro hR.1 (q * 7 + 6)
          have h22 : ρ (.tmp 37) = .pointer (some ⟨g, q * 7, none⟩) := hv 22 37 rfl (hd ⟨22, .data⟩ (by simp) rfl)
          have h19 : ρ (.tmp 35) = .agg (ruc (h p)) := hv 19 35 rfl (hd ⟨19, .data⟩ (by simp) rfl)
          have hr : (Instr.storeAt 33 (.pointer (some ⟨g, q * 7, none⟩)) (.agg (ruc (h p)))).run Tryd.prog u = .ok () ((((((((u).setCell ⟨g, q * 7, none⟩ (.int .i64 (h p).u)).setCell ⟨g, q * 7 + 1, none⟩ (.int .i64 (h p).s)).setCell ⟨g, q * 7 + 2, none⟩ (.int .i64 (h p).lo)).setCell ⟨g, q * 7 + 3, none⟩ (.int .i64 (h p).hi)).setCell ⟨g, q * 7 + 4, none⟩ (.int .i64 (h p).p)).setCell ⟨g, q * 7 + 5, none⟩ (.int .i64 (h p).t)).setCell ⟨g, q * 7 + 6, none⟩ (.int .i64 (h p).sh)) := by go_simp
          have hR2 := RowS.set hR.1 (show q < n from by omega) (rul (h p)) rfl
          have hB2 := setL_below (g := g) hg (rul (h p)) u (q * 7) hR.2
          exact .inl ⟨rfl, .inr (.inr ⟨rfl, _, run_store_op rfl h22 h19 hr, ⟨hR2.congr (fun k _ => by by_cases e : k = q <;> simp [updB, e, hIJ, hJI]), hB2⟩, trivial⟩)⟩
    · have hi' : ¬ (z : Int) < (m : Int) := by omega
      have HX : Hid (RowU wr g n (fun k => f (srI a b m k)) ∧ Below w0.heap.size w0 wr) := ⟨by have e := HH.out; subst e; rw [show m = z by omega]; exact HROW.out.1, HROW.out.2⟩
      clear HROW HH
      go_wp2
      refine bodyPost_end (v := .tuple #[]) (by simp [results, Tryd.results116, go_sem]) rfl ⟨rfl, HX.out⟩

end Go.Proofs.YtklnfeblkffgiaaDoor
