/- Insertion: the sort of up to twenty. -/
import Derived.Test.YtklnfeblkffgiaaDoorSr1
namespace Go.Proofs.YtklnfeblkffgiaaDoor
open Go.RowKit

set_option linter.unusedVariables false

set_option linter.unusedSimpArgs false

set_option maxRecDepth 20000 in
set_option maxHeartbeats 4000000 in
theorem insertion_any (g n c a b : Nat) (f : Nat → Ru) (w0 w : World) (hb : Below w0.heap.size w0 w) (hg : w0.heap.size ≤ g) (hr : RowU w g n f) (hbn : b ≤ n) (hn : n ≤ 1000000) (ha : a ≤ n) :
    Calls Tryd.prog 93 #[.slice (some ⟨g, 0, none⟩) n c, .int .i64 (a : Int), .int .i64 (b : Int), .func (.func 63) #[] #[]] w fun e w' => e = .returned (.tuple #[]) ∧ ∃ f', RowU w' g n f' ∧ PermIn a b f f' ∧ SortedOn f' a b ∧ Below w0.heap.size w0 w' := by
  have wa : IntKind.i64.wrap ((a : Int) + 1) = ((a + 1 : Nat) : Int) := by rw [IntKind.wrap_i64]; omega
  go_enter Tryd.func93, Tryd.ntmps93
  go_wp2
  go_loopw [8] (fun i wr => ∃ (k : Nat) (h : Nat → Ru), a < k ∧ (k ≤ b ∨ k = a + 1) ∧ i = .int .i64 k ∧ RowU wr g n h ∧ PermIn a b f h ∧ SortedOn h a k ∧ Below w0.heap.size w0 wr) (fun i _ => b - (intOf i).toNat)
  case atStart => exact ⟨a + 1, f, by omega, .inr rfl, by first | rfl | simp, hr, PermIn.refl _ _ _, fun p q h1 h2 h3 => by omega, hb⟩
  case round =>
    obtain ⟨k, h0, hk, hkb, rfl, hrow0, hp0, hso, hbl0⟩ := hrel
    by_cases hlt : k < b
    · have hi : (k : Int) < (b : Int) := by omega
      have HS0 : Hid (RowU wr g n h0 ∧ PermIn a b f h0 ∧ SortedOn h0 a k ∧ Below w0.heap.size w0 wr) := ⟨hrow0, hp0, hso, hbl0⟩
      clear hrow0 hp0 hso hbl0 hr hb hkb
      go_wp2
      go_loopw [9] (fun i wr => ∃ (j : Nat) (h : Nat → Ru), a ≤ j ∧ j ≤ k ∧ i = .int .i64 j ∧ RowU wr g n h ∧ PermIn a b f h ∧ InsI h a k j ∧ Below w0.heap.size w0 wr) (fun i _ => (intOf i).toNat)
      case atStart => exact ⟨k, h0, by omega, Nat.le_refl _, rfl, HS0.out.1, HS0.out.2.1, InsI.start HS0.out.2.2.1, HS0.out.2.2.2⟩
      case round =>
        clear HS0
        obtain ⟨j, h, hja, hjk, rfl, hrow, hp, hI, hbl⟩ := hrel
        have HROW : Hid (RowU wr g n h ∧ Below w0.heap.size w0 wr) := ⟨hrow, hbl⟩
        have HP : Hid (PermIn a b f h) := hp
        have HI : Hid (InsI h a k j) := hI
        clear hrow hbl hp hI
        by_cases hj : a < j
        · have hj' : (a : Int) < (j : Int) := by omega
          obtain ⟨m, hm⟩ : ∃ m, j = m + 1 := ⟨j - 1, by omega⟩
          have wm : IntKind.i64.wrap ((j : Int) - 1) = (m : Int) := by rw [IntKind.wrap_i64]; omega
          have hjn : (j : Int) < (n : Int) := by omega
          have hmn : (m : Int) < (n : Int) := by omega
          have hIJ : ¬ j = m := by omega
          have hJI : ¬ m = j := by omega
          have HM : Hid (j = m + 1) := hm
          by_cases hx : ltR (h j) (h m)
          · have hc0 : cmpR (h j) (h m) < 0 := (cmpR_lt _ _).2 hx
            have HL : Hid (ltR (h j) (h (j - 1))) := by rw [show j - 1 = m by omega]; exact hx
            clear hx hm
            go_wp2
            refine wp_region_any (by kernel_rfl) ?_
            refine wpAny_vals (fun u => Below wr.heap.size wr u) (fun i v u => match i with
              | 0 => v = .int .i64 (j : Int)
              | 1 => v = .int .i64 (a : Int)
              | 2 => v = .bool true
              | 3 => v = .bool true
              | 4 => v = .func (.func 63) #[] #[]
              | 5 => v = .slice (some ⟨g, 0, none⟩) n c
              | 6 => v = .int .i64 (j : Int)
              | 7 => v = .pointer (some ⟨g, j * 7, none⟩)
              | 8 => v = .agg (ruc (h j))
              | 9 => v = .slice (some ⟨g, 0, none⟩) n c
              | 10 => v = .int .i64 (j : Int)
              | 11 => v = .int .i64 (m : Int)
              | 12 => v = .pointer (some ⟨g, m * 7, none⟩)
              | 13 => v = .agg (ruc (h m))
              | 14 => v = .int .i64 (cmpR (h j) (h m))
              | 15 => v = .bool true
              | 16 => v = .bool true
              | _ => True) (by kernel_rfl) (by kernel_rfl) (fun _ _ _ _ h _ => h) (Below.refl _ _).drew ?_ ?_ _ _ rfl (by decide) (fun i => by simp [Array.getD]; try (split <;> rfl))
            · intro vs u hR hall
              have e16 : vs 16 = .bool true := hall 16 (by simp)
              simp only [putsL]
              rw [e16]
              clear hall e16
              have HROW2 : Hid (RowU u g n h ∧ Below w0.heap.size w0 u) := ⟨HROW.out.1.below hR, bel_next HROW.out.2 hR⟩
              clear hR HROW
              go_simp
              go_wp2
              refine wp_region_any (by kernel_rfl) ?_
              refine wpAny_valw (fun l u => RowU u g n (fun k => if l 15 = true ∧ k = j then h m else if l 17 = true ∧ k = m then h j else h k) ∧ Below w0.heap.size w0 u) (fun _ _ => True) (fun i v u => match i with
                | 0 => v = .slice (some ⟨g, 0, none⟩) n c
                | 1 => v = .int .i64 (j : Int)
                | 2 => v = .slice (some ⟨g, 0, none⟩) n c
                | 3 => v = .int .i64 (j : Int)
                | 4 => v = .int .i64 (m : Int)
                | 5 => v = .slice (some ⟨g, 0, none⟩) n c
                | 6 => v = .int .i64 (j : Int)
                | 7 => v = .int .i64 (m : Int)
                | 8 => v = .pointer (some ⟨g, m * 7, none⟩)
                | 9 => v = .agg (ruc (h m))
                | 10 => v = .slice (some ⟨g, 0, none⟩) n c
                | 11 => v = .int .i64 (j : Int)
                | 12 => v = .pointer (some ⟨g, j * 7, none⟩)
                | 13 => v = .agg (ruc (h j))
                | 14 => v = .pointer (some ⟨g, j * 7, none⟩)
                | 16 => v = .pointer (some ⟨g, m * 7, none⟩)
                | _ => True) (by kernel_rfl) (by kernel_rfl) (fun _ _ _ _ h _ => h) (fun _ => trivial) ⟨RowS.congr (RowS.below HROW2.out.1 (Below.refl _ _).drew) (fun k _ => by simp), HROW2.out.2.drew⟩ ?_ ?_ _ _ rfl (by decide) (fun i => by simp [Array.getD]; try (split <;> rfl))
              · intro vs u hR _
                have R2 : RowU u g n (fun k => h (swI j m k)) := hR.1.congr (fun k _ => congrArg rul (by by_cases e1 : k = j <;> by_cases e2 : k = m <;> simp [swI, e1, e2, hJI, hIJ]))
                have B2 := hR.2
                have HX : Hid (RowU u g n (fun k => h (swI j m k)) ∧ Below w0.heap.size w0 u) := ⟨R2, B2⟩
                clear R2 B2 hR HROW2
                simp only [putsL]
                go_simp
                go_wp2
                go_roundw
                case rel => exact ⟨m, _, (by have := HM.out; omega), (by have := HM.out; omega), by first | rfl | go_num, HX.out.1, HP.out.trans (PermIn.swap _ (by omega) (by omega) (by have := HM.out; omega) (by have := HM.out; omega)), (by have := HI.out.step hj hjk HL.out; rw [show j - 1 = m by have := HM.out; omega] at this; exact this), HX.out.2⟩
                case measure => (have := HM.out; simp [intOf]; omega)
              · intro u i o ρ l hR ho hli hcl hρ hc hf hd hv
                have hi : i < 18 := by
                  have := (Array.getElem?_eq_some_iff.1 ho).1
                  simpa using this
                obtain rfl | rfl | rfl | rfl | rfl | rfl | rfl | rfl | rfl | rfl | rfl | rfl | rfl | rfl | rfl | rfl | rfl | rfl : i = 0 ∨ i = 1 ∨ i = 2 ∨ i = 3 ∨ i = 4 ∨ i = 5 ∨ i = 6 ∨ i = 7 ∨ i = 8 ∨ i = 9 ∨ i = 10 ∨ i = 11 ∨ i = 12 ∨ i = 13 ∨ i = 14 ∨ i = 15 ∨ i = 16 ∨ i = 17 := by omega
                all_goals (simp only [List.getElem?_toArray, List.getElem?_cons_zero, List.getElem?_cons_succ, Option.some.injEq] at ho; subst ho)
                · -- 0
                  have s0 : ρ (.tmp 0) = .slice (some ⟨g, 0, none⟩) n c := (hρ 0 (by kernel_rfl)).trans rfl
                  exact .inl ⟨rfl, .inl ⟨_, u, rfl, s0, (by simpa [updB] using hR), trivial⟩⟩
                · -- 1
                  have s9 : ρ (.tmp 9) = .int .i64 (j : Int) := (hρ 9 (by kernel_rfl)).trans rfl
                  exact .inl ⟨rfl, .inl ⟨_, u, rfl, s9, (by simpa [updB] using hR), trivial⟩⟩
                · -- 2
                  have s0 : ρ (.tmp 0) = .slice (some ⟨g, 0, none⟩) n c := (hρ 0 (by kernel_rfl)).trans rfl
                  exact .inl ⟨rfl, .inl ⟨_, u, rfl, s0, (by simpa [updB] using hR), trivial⟩⟩
                · -- 3
                  have s9 : ρ (.tmp 9) = .int .i64 (j : Int) := (hρ 9 (by kernel_rfl)).trans rfl
                  exact .inl ⟨rfl, .inl ⟨_, u, rfl, s9, (by simpa [updB] using hR), trivial⟩⟩
                · -- 4
                  have h3 : ρ (.tmp 40) = .int .i64 (j : Int) := hv 3 40 rfl (hd ⟨3, .data⟩ (by simp) rfl)
                  exact .inl ⟨rfl, .inl ⟨.int .i64 (m : Int), u, run_bin_op rfl h3 (hc _) (by go_simp), rfl, (by simpa [updB] using hR), trivial⟩⟩
                · -- 5
                  have s0 : ρ (.tmp 0) = .slice (some ⟨g, 0, none⟩) n c := (hρ 0 (by kernel_rfl)).trans rfl
                  exact .inl ⟨rfl, .inl ⟨_, u, rfl, s0, (by simpa [updB] using hR), trivial⟩⟩
                · -- 6
                  have s9 : ρ (.tmp 9) = .int .i64 (j : Int) := (hρ 9 (by kernel_rfl)).trans rfl
                  exact .inl ⟨rfl, .inl ⟨_, u, rfl, s9, (by simpa [updB] using hR), trivial⟩⟩
                · -- 7
                  have h6 : ρ (.tmp 43) = .int .i64 (j : Int) := hv 6 43 rfl (hd ⟨6, .data⟩ (by simp) rfl)
                  exact .inl ⟨rfl, .inl ⟨.int .i64 (m : Int), u, run_bin_op rfl h6 (hc _) (by go_simp), rfl, (by simpa [updB] using hR), trivial⟩⟩
                · -- 8
                  have h5 : ρ (.tmp 42) = .slice (some ⟨g, 0, none⟩) n c := hv 5 42 rfl (hd ⟨5, .data⟩ (by simp) rfl)
                  have h7 : ρ (.tmp 44) = .int .i64 (m : Int) := hv 7 44 rfl (hd ⟨7, .data⟩ (by simp) rfl)
                  exact .inl ⟨rfl, .inl ⟨.pointer (some ⟨g, m * 7, none⟩), u, run_index_op rfl h5 h7 (by go_simp), rfl, (by simpa [updB] using hR), trivial⟩⟩
                · -- 9
                  have n1 : l 15 = false := (by cases hx : l 15; (rfl); (have h1 := hcl 15 _ rfl hx ⟨9, .data⟩ (by simp) rfl; rw [hli] at h1; cases h1))
                  have n2 : l 17 = false := (by cases hx : l 17; (rfl); (have h1 := hcl 17 _ rfl hx ⟨9, .phase⟩ (by simp) rfl; rw [hli] at h1; cases h1))
                  have R0 : RowU u g n h := hR.1.congr (fun k _ => by simp [n1, n2])
                  obtain ⟨d0, d1, d2, d3, d4, d5, d6⟩ := RowU.seven R0 (show m < n from by omega)
                  clear R0
                  have h8 : ρ (.tmp 45) = .pointer (some ⟨g, m * 7, none⟩) := hv 8 45 rfl (hd ⟨8, .data⟩ (by simp) rfl)
                  have hr : (Instr.loadAt 33 (.pointer (some ⟨g, m * 7, none⟩))).run Tryd.prog u = .ok (.agg (ruc (h m))) u := by go_simp
                  exact .inl ⟨rfl, .inl ⟨.agg (ruc (h m)), u, run_load_op rfl h8 hr, rfl, (by simpa [updB] using hR), trivial⟩⟩
                · -- 10
                  have s0 : ρ (.tmp 0) = .slice (some ⟨g, 0, none⟩) n c := (hρ 0 (by kernel_rfl)).trans rfl
                  exact .inl ⟨rfl, .inl ⟨_, u, rfl, s0, (by simpa [updB] using hR), trivial⟩⟩
                · -- 11
                  have s9 : ρ (.tmp 9) = .int .i64 (j : Int) := (hρ 9 (by kernel_rfl)).trans rfl
                  exact .inl ⟨rfl, .inl ⟨_, u, rfl, s9, (by simpa [updB] using hR), trivial⟩⟩
                · -- 12
                  have h10 : ρ (.tmp 47) = .slice (some ⟨g, 0, none⟩) n c := hv 10 47 rfl (hd ⟨10, .data⟩ (by simp) rfl)
                  have h11 : ρ (.tmp 48) = .int .i64 (j : Int) := hv 11 48 rfl (hd ⟨11, .data⟩ (by simp) rfl)
                  exact .inl ⟨rfl, .inl ⟨.pointer (some ⟨g, j * 7, none⟩), u, run_index_op rfl h10 h11 (by go_simp), rfl, (by simpa [updB] using hR), trivial⟩⟩
                · -- 13
                  have n1 : l 15 = false := (by cases hx : l 15; (rfl); (have h1 := hcl 15 _ rfl hx ⟨13, .phase⟩ (by simp) rfl; rw [hli] at h1; cases h1))
                  have n2 : l 17 = false := (by cases hx : l 17; (rfl); (have h1 := hcl 17 _ rfl hx ⟨13, .data⟩ (by simp) rfl; rw [hli] at h1; cases h1))
                  have R0 : RowU u g n h := hR.1.congr (fun k _ => by simp [n1, n2])
                  obtain ⟨d0, d1, d2, d3, d4, d5, d6⟩ := RowU.seven R0 (show j < n from by omega)
                  clear R0
                  have h12 : ρ (.tmp 49) = .pointer (some ⟨g, j * 7, none⟩) := hv 12 49 rfl (hd ⟨12, .data⟩ (by simp) rfl)
                  have hr : (Instr.loadAt 33 (.pointer (some ⟨g, j * 7, none⟩))).run Tryd.prog u = .ok (.agg (ruc (h j))) u := by go_simp
                  exact .inl ⟨rfl, .inl ⟨.agg (ruc (h j)), u, run_load_op rfl h12 hr, rfl, (by simpa [updB] using hR), trivial⟩⟩
                · -- 14
                  have h0 : ρ (.tmp 37) = .slice (some ⟨g, 0, none⟩) n c := hv 0 37 rfl (hd ⟨0, .data⟩ (by simp) rfl)
                  have h1 : ρ (.tmp 38) = .int .i64 (j : Int) := hv 1 38 rfl (hd ⟨1, .data⟩ (by simp) rfl)
                  exact .inl ⟨rfl, .inl ⟨.pointer (some ⟨g, j * 7, none⟩), u, run_index_op rfl h0 h1 (by go_simp), rfl, (by simpa [updB] using hR), trivial⟩⟩
                · -- 15
                  obtain ⟨d0, d1, d2, d3, d4, d5, d6⟩ := RowU.seven hR.1 (show j < n from by omega)
                  have f0 := RowS.fro hR.1 (j * 7)
                  have f1 := RowS.fro hR.1 (j * 7 + 1)
                  have f2 := RowS.fro hR.1 (j * 7 + 2)
                  have f3 := RowS.fro hR.1 (j * 7 + 3)
                  have f4 := RowS.fro hR.1 (j * 7 + 4)
                  have f5 := RowS.fro hR.1 (j * 7 + 5)
                  have f6 := RowS.fro hR.1 (j * 7 + 6)
                  have h14 : ρ (.tmp 51) = .pointer (some ⟨g, j * 7, none⟩) := hv 14 51 rfl (hd ⟨14, .data⟩ (by simp) rfl)
                  have h9 : ρ (.tmp 46) = .agg (ruc (h m)) := hv 9 46 rfl (hd ⟨9, .data⟩ (by simp) rfl)
                  have hr : (Instr.storeAt 33 (.pointer (some ⟨g, j * 7, none⟩)) (.agg (ruc (h m)))).run Tryd.prog u = .ok () ((((((((u).setCell ⟨g, j * 7, none⟩ (.int .i64 (h m).u)).setCell ⟨g, j * 7 + 1, none⟩ (.int .i64 (h m).s)).setCell ⟨g, j * 7 + 2, none⟩ (.int .i64 (h m).lo)).setCell ⟨g, j * 7 + 3, none⟩ (.int .i64 (h m).hi)).setCell ⟨g, j * 7 + 4, none⟩ (.int .i64 (h m).p)).setCell ⟨g, j * 7 + 5, none⟩ (.int .i64 (h m).t)).setCell ⟨g, j * 7 + 6, none⟩ (.int .i64 (h m).sh)) := by go_simp
                  have hR2 := RowS.set hR.1 (show j < n from by omega) (rul (h m)) rfl
                  have hB2 := setL_below (g := g) hg (rul (h m)) u (j * 7) hR.2
                  exact .inl ⟨rfl, .inr (.inr ⟨rfl, _, run_store_op rfl h14 h9 hr, ⟨hR2.congr (fun k _ => by by_cases e : k = j <;> simp [updB, e, hIJ, hJI]), hB2⟩, trivial⟩)⟩
                · -- 16
                  have h2 : ρ (.tmp 39) = .slice (some ⟨g, 0, none⟩) n c := hv 2 39 rfl (hd ⟨2, .data⟩ (by simp) rfl)
                  have h4 : ρ (.tmp 41) = .int .i64 (m : Int) := hv 4 41 rfl (hd ⟨4, .data⟩ (by simp) rfl)
                  exact .inl ⟨rfl, .inl ⟨.pointer (some ⟨g, m * 7, none⟩), u, run_index_op rfl h2 h4 (by go_simp), rfl, (by simpa [updB] using hR), trivial⟩⟩
                · -- 17
                  obtain ⟨d0, d1, d2, d3, d4, d5, d6⟩ := RowU.seven hR.1 (show m < n from by omega)
                  have f0 := RowS.fro hR.1 (m * 7)
                  have f1 := RowS.fro hR.1 (m * 7 + 1)
                  have f2 := RowS.fro hR.1 (m * 7 + 2)
                  have f3 := RowS.fro hR.1 (m * 7 + 3)
                  have f4 := RowS.fro hR.1 (m * 7 + 4)
                  have f5 := RowS.fro hR.1 (m * 7 + 5)
                  have f6 := RowS.fro hR.1 (m * 7 + 6)
                  have h16 : ρ (.tmp 52) = .pointer (some ⟨g, m * 7, none⟩) := hv 16 52 rfl (hd ⟨16, .data⟩ (by simp) rfl)
                  have h13 : ρ (.tmp 50) = .agg (ruc (h j)) := hv 13 50 rfl (hd ⟨13, .data⟩ (by simp) rfl)
                  have hr : (Instr.storeAt 33 (.pointer (some ⟨g, m * 7, none⟩)) (.agg (ruc (h j)))).run Tryd.prog u = .ok () ((((((((u).setCell ⟨g, m * 7, none⟩ (.int .i64 (h j).u)).setCell ⟨g, m * 7 + 1, none⟩ (.int .i64 (h j).s)).setCell ⟨g, m * 7 + 2, none⟩ (.int .i64 (h j).lo)).setCell ⟨g, m * 7 + 3, none⟩ (.int .i64 (h j).hi)).setCell ⟨g, m * 7 + 4, none⟩ (.int .i64 (h j).p)).setCell ⟨g, m * 7 + 5, none⟩ (.int .i64 (h j).t)).setCell ⟨g, m * 7 + 6, none⟩ (.int .i64 (h j).sh)) := by go_simp
                  have hR2 := RowS.set hR.1 (show m < n from by omega) (rul (h j)) rfl
                  have hB2 := setL_below (g := g) hg (rul (h j)) u (m * 7) hR.2
                  exact .inl ⟨rfl, .inr (.inr ⟨rfl, _, run_store_op rfl h16 h13 hr, ⟨hR2.congr (fun k _ => by by_cases e : k = m <;> simp [updB, e, hIJ, hJI]), hB2⟩, trivial⟩)⟩
            · intro u i o ρ hR ho hρ hc hf hd
              have hi : i < 17 := by
                have := (Array.getElem?_eq_some_iff.1 ho).1
                simpa using this
              obtain rfl | rfl | rfl | rfl | rfl | rfl | rfl | rfl | rfl | rfl | rfl | rfl | rfl | rfl | rfl | rfl | rfl : i = 0 ∨ i = 1 ∨ i = 2 ∨ i = 3 ∨ i = 4 ∨ i = 5 ∨ i = 6 ∨ i = 7 ∨ i = 8 ∨ i = 9 ∨ i = 10 ∨ i = 11 ∨ i = 12 ∨ i = 13 ∨ i = 14 ∨ i = 15 ∨ i = 16 := by omega
              all_goals (simp only [List.getElem?_toArray, List.getElem?_cons_zero, List.getElem?_cons_succ, Option.some.injEq] at ho; subst ho)
              · -- 0
                have s9 : ρ (.tmp 9) = .int .i64 (j : Int) := (hρ 9 (by kernel_rfl)).trans rfl
                exact .inl ⟨rfl, .inl ⟨_, u, rfl, s9, hR, Below.refl _ _⟩⟩
              · -- 1
                have s1 : ρ (.tmp 1) = .int .i64 (a : Int) := (hρ 1 (by kernel_rfl)).trans rfl
                exact .inl ⟨rfl, .inl ⟨_, u, rfl, s1, hR, Below.refl _ _⟩⟩
              · -- 2
                have h0 : ρ (.tmp 18) = .int .i64 (j : Int) := hd ⟨0, .data⟩ (by simp) rfl 18 rfl
                have h1 : ρ (.tmp 19) = .int .i64 (a : Int) := hd ⟨1, .data⟩ (by simp) rfl 19 rfl
                exact .inl ⟨rfl, .inl ⟨.bool true, u, run_bin_op rfl h0 h1 (by go_simp), rfl, hR, Below.refl _ _⟩⟩
              · -- 3
                have h2 : ρ (.tmp 20) = .bool true := hd ⟨2, .data⟩ (by simp) rfl 20 rfl
                exact .inl ⟨rfl, .inl ⟨_, u, rfl, h2, hR, Below.refl _ _⟩⟩
              · -- 4
                have g3 : ρ (.tmp 21) = .bool true := hd ⟨3, .guard⟩ (by simp) rfl 21 rfl
                have s3 : ρ (.tmp 3) = .func (.func 63) #[] #[] := (hρ 3 (by kernel_rfl)).trans rfl
                exact .inl ⟨(by show (match ρ (.tmp 21) with | .bool b => b == true | _ => false) = true; rw [g3]; rfl), .inl ⟨_, u, rfl, s3, hR, Below.refl _ _⟩⟩
              · -- 5
                have g3 : ρ (.tmp 21) = .bool true := hd ⟨3, .guard⟩ (by simp) rfl 21 rfl
                have s0 : ρ (.tmp 0) = .slice (some ⟨g, 0, none⟩) n c := (hρ 0 (by kernel_rfl)).trans rfl
                exact .inl ⟨(by show (match ρ (.tmp 21) with | .bool b => b == true | _ => false) = true; rw [g3]; rfl), .inl ⟨_, u, rfl, s0, hR, Below.refl _ _⟩⟩
              · -- 6
                have g3 : ρ (.tmp 21) = .bool true := hd ⟨3, .guard⟩ (by simp) rfl 21 rfl
                have s9 : ρ (.tmp 9) = .int .i64 (j : Int) := (hρ 9 (by kernel_rfl)).trans rfl
                exact .inl ⟨(by show (match ρ (.tmp 21) with | .bool b => b == true | _ => false) = true; rw [g3]; rfl), .inl ⟨_, u, rfl, s9, hR, Below.refl _ _⟩⟩
              · -- 7
                have g3 : ρ (.tmp 21) = .bool true := hd ⟨3, .guard⟩ (by simp) rfl 21 rfl
                have h5 : ρ (.tmp 23) = .slice (some ⟨g, 0, none⟩) n c := hd ⟨5, .data⟩ (by simp) rfl 23 rfl
                have h6 : ρ (.tmp 24) = .int .i64 (j : Int) := hd ⟨6, .data⟩ (by simp) rfl 24 rfl
                exact .inl ⟨(by show (match ρ (.tmp 21) with | .bool b => b == true | _ => false) = true; rw [g3]; rfl), .inl ⟨.pointer (some ⟨g, j * 7, none⟩), u, run_index_op rfl h5 h6 (by go_simp), rfl, hR, Below.refl _ _⟩⟩
              · -- 8
                have R0 : RowU u g n h := HROW.out.1.below hR
                obtain ⟨d0, d1, d2, d3, d4, d5, d6⟩ := RowU.seven R0 (show j < n from by omega)
                clear R0
                have g3 : ρ (.tmp 21) = .bool true := hd ⟨3, .guard⟩ (by simp) rfl 21 rfl
                have h7 : ρ (.tmp 25) = .pointer (some ⟨g, j * 7, none⟩) := hd ⟨7, .data⟩ (by simp) rfl 25 rfl
                have hr : (Instr.loadAt 33 (.pointer (some ⟨g, j * 7, none⟩))).run Tryd.prog u = .ok (.agg (ruc (h j))) u := by go_simp
                exact .inl ⟨(by show (match ρ (.tmp 21) with | .bool b => b == true | _ => false) = true; rw [g3]; rfl), .inl ⟨.agg (ruc (h j)), u, run_load_op rfl h7 hr, rfl, hR, Below.refl _ _⟩⟩
              · -- 9
                have g3 : ρ (.tmp 21) = .bool true := hd ⟨3, .guard⟩ (by simp) rfl 21 rfl
                have s0 : ρ (.tmp 0) = .slice (some ⟨g, 0, none⟩) n c := (hρ 0 (by kernel_rfl)).trans rfl
                exact .inl ⟨(by show (match ρ (.tmp 21) with | .bool b => b == true | _ => false) = true; rw [g3]; rfl), .inl ⟨_, u, rfl, s0, hR, Below.refl _ _⟩⟩
              · -- 10
                have g3 : ρ (.tmp 21) = .bool true := hd ⟨3, .guard⟩ (by simp) rfl 21 rfl
                have s9 : ρ (.tmp 9) = .int .i64 (j : Int) := (hρ 9 (by kernel_rfl)).trans rfl
                exact .inl ⟨(by show (match ρ (.tmp 21) with | .bool b => b == true | _ => false) = true; rw [g3]; rfl), .inl ⟨_, u, rfl, s9, hR, Below.refl _ _⟩⟩
              · -- 11
                have g3 : ρ (.tmp 21) = .bool true := hd ⟨3, .guard⟩ (by simp) rfl 21 rfl
                have h10 : ρ (.tmp 28) = .int .i64 (j : Int) := hd ⟨10, .data⟩ (by simp) rfl 28 rfl
                exact .inl ⟨(by show (match ρ (.tmp 21) with | .bool b => b == true | _ => false) = true; rw [g3]; rfl), .inl ⟨.int .i64 (m : Int), u, run_bin_op rfl h10 (hc _) (by go_simp), rfl, hR, Below.refl _ _⟩⟩
              · -- 12
                have g3 : ρ (.tmp 21) = .bool true := hd ⟨3, .guard⟩ (by simp) rfl 21 rfl
                have h9 : ρ (.tmp 27) = .slice (some ⟨g, 0, none⟩) n c := hd ⟨9, .data⟩ (by simp) rfl 27 rfl
                have h11 : ρ (.tmp 29) = .int .i64 (m : Int) := hd ⟨11, .data⟩ (by simp) rfl 29 rfl
                exact .inl ⟨(by show (match ρ (.tmp 21) with | .bool b => b == true | _ => false) = true; rw [g3]; rfl), .inl ⟨.pointer (some ⟨g, m * 7, none⟩), u, run_index_op rfl h9 h11 (by go_simp), rfl, hR, Below.refl _ _⟩⟩
              · -- 13
                have R0 : RowU u g n h := HROW.out.1.below hR
                obtain ⟨d0, d1, d2, d3, d4, d5, d6⟩ := RowU.seven R0 (show m < n from by omega)
                clear R0
                have g3 : ρ (.tmp 21) = .bool true := hd ⟨3, .guard⟩ (by simp) rfl 21 rfl
                have h12 : ρ (.tmp 30) = .pointer (some ⟨g, m * 7, none⟩) := hd ⟨12, .data⟩ (by simp) rfl 30 rfl
                have hr : (Instr.loadAt 33 (.pointer (some ⟨g, m * 7, none⟩))).run Tryd.prog u = .ok (.agg (ruc (h m))) u := by go_simp
                exact .inl ⟨(by show (match ρ (.tmp 21) with | .bool b => b == true | _ => false) = true; rw [g3]; rfl), .inl ⟨.agg (ruc (h m)), u, run_load_op rfl h12 hr, rfl, hR, Below.refl _ _⟩⟩
              · -- 14
                have g3 : ρ (.tmp 21) = .bool true := hd ⟨3, .guard⟩ (by simp) rfl 21 rfl
                have h8 : ρ (.tmp 26) = .agg (ruc (h j)) := hd ⟨8, .data⟩ (by simp) rfl 26 rfl
                have h13 : ρ (.tmp 31) = .agg (ruc (h m)) := hd ⟨13, .data⟩ (by simp) rfl 31 rfl
                have h4 : ρ (.tmp 22) = .func (.func 63) #[] #[] := hd ⟨4, .data⟩ (by simp) rfl 22 rfl
                refine .inl ⟨(by show (match ρ (.tmp 21) with | .bool b => b == true | _ => false) = true; rw [g3]; rfl), .inr ⟨_, _, run_callv_op rfl h4 (args := #[.agg (ruc (h j)), .agg (ruc (h m))]) (by simp [h8, h13]) (by kernel_rfl), ?_⟩⟩
                refine (byPlaces_any (h j) (h m) _).mono ?_
                rintro e u' ⟨rfl, b'⟩
                exact ⟨_, rfl, rfl, bel_next hR b', b'⟩
              · -- 15
                have g3 : ρ (.tmp 21) = .bool true := hd ⟨3, .guard⟩ (by simp) rfl 21 rfl
                have h14 : ρ (.tmp 32) = .int .i64 (cmpR (h j) (h m)) := hd ⟨14, .data⟩ (by simp) rfl 32 rfl
                exact .inl ⟨(by show (match ρ (.tmp 21) with | .bool b => b == true | _ => false) = true; rw [g3]; rfl), .inl ⟨.bool true, u, run_bin_op rfl h14 (hc _) (by go_simp), rfl, hR, Below.refl _ _⟩⟩
              · -- 16
                have h3 : ρ (.tmp 21) = .bool true := hd ⟨3, .data⟩ (by simp) rfl 21 rfl
                have h15 : ρ (.tmp 33) = .bool true := hd ⟨15, .data⟩ (by simp) rfl 33 rfl
                exact .inl ⟨rfl, .inl ⟨_, u, run_pick_op rfl h3, (by simpa using h15), hR, Below.refl _ _⟩⟩
          · have hc0 : ¬ cmpR (h j) (h m) < 0 := fun e => hx ((cmpR_lt _ _).1 e)
            have HL : Hid (¬ ltR (h j) (h (j - 1))) := by rw [show j - 1 = m by omega]; exact hx
            clear hx hm
            go_wp2
            refine wp_region_any (by kernel_rfl) ?_
            refine wpAny_vals (fun u => Below wr.heap.size wr u) (fun i v u => match i with
              | 0 => v = .int .i64 (j : Int)
              | 1 => v = .int .i64 (a : Int)
              | 2 => v = .bool true
              | 3 => v = .bool true
              | 4 => v = .func (.func 63) #[] #[]
              | 5 => v = .slice (some ⟨g, 0, none⟩) n c
              | 6 => v = .int .i64 (j : Int)
              | 7 => v = .pointer (some ⟨g, j * 7, none⟩)
              | 8 => v = .agg (ruc (h j))
              | 9 => v = .slice (some ⟨g, 0, none⟩) n c
              | 10 => v = .int .i64 (j : Int)
              | 11 => v = .int .i64 (m : Int)
              | 12 => v = .pointer (some ⟨g, m * 7, none⟩)
              | 13 => v = .agg (ruc (h m))
              | 14 => v = .int .i64 (cmpR (h j) (h m))
              | 15 => v = .bool false
              | 16 => v = .bool false
              | _ => True) (by kernel_rfl) (by kernel_rfl) (fun _ _ _ _ h _ => h) (Below.refl _ _).drew ?_ ?_ _ _ rfl (by decide) (fun i => by simp [Array.getD]; try (split <;> rfl))
            · intro vs u hR hall
              have e16 : vs 16 = .bool false := hall 16 (by simp)
              simp only [putsL]
              rw [e16]
              clear hall e16
              have RX : RowU u g n h := HROW.out.1.below hR
              have BX := bel_next HROW.out.2 hR
              have HX : Hid (RowU u g n h ∧ PermIn a b f h ∧ SortedOn h a (k + 1) ∧ Below w0.heap.size w0 u) := ⟨RX, HP.out, HI.out.fin hjk (.inr HL.out), BX⟩
              clear RX BX hR HROW HP HI
              go_simp
              go_wp2
              go_roundw
              case rel => exact ⟨k + 1, h, by omega, by omega, by go_num, HX.out.1, HX.out.2.1, HX.out.2.2.1, HX.out.2.2.2⟩
              case measure => simp [intOf]; omega
            · intro u i o ρ hR ho hρ hc hf hd
              have hi : i < 17 := by
                have := (Array.getElem?_eq_some_iff.1 ho).1
                simpa using this
              obtain rfl | rfl | rfl | rfl | rfl | rfl | rfl | rfl | rfl | rfl | rfl | rfl | rfl | rfl | rfl | rfl | rfl : i = 0 ∨ i = 1 ∨ i = 2 ∨ i = 3 ∨ i = 4 ∨ i = 5 ∨ i = 6 ∨ i = 7 ∨ i = 8 ∨ i = 9 ∨ i = 10 ∨ i = 11 ∨ i = 12 ∨ i = 13 ∨ i = 14 ∨ i = 15 ∨ i = 16 := by omega
              all_goals (simp only [List.getElem?_toArray, List.getElem?_cons_zero, List.getElem?_cons_succ, Option.some.injEq] at ho; subst ho)
              · -- 0
                have s9 : ρ (.tmp 9) = .int .i64 (j : Int) := (hρ 9 (by kernel_rfl)).trans rfl
                exact .inl ⟨rfl, .inl ⟨_, u, rfl, s9, hR, Below.refl _ _⟩⟩
              · -- 1
                have s1 : ρ (.tmp 1) = .int .i64 (a : Int) := (hρ 1 (by kernel_rfl)).trans rfl
                exact .inl ⟨rfl, .inl ⟨_, u, rfl, s1, hR, Below.refl _ _⟩⟩
              · -- 2
                have h0 : ρ (.tmp 18) = .int .i64 (j : Int) := hd ⟨0, .data⟩ (by simp) rfl 18 rfl
                have h1 : ρ (.tmp 19) = .int .i64 (a : Int) := hd ⟨1, .data⟩ (by simp) rfl 19 rfl
                exact .inl ⟨rfl, .inl ⟨.bool true, u, run_bin_op rfl h0 h1 (by go_simp), rfl, hR, Below.refl _ _⟩⟩
              · -- 3
                have h2 : ρ (.tmp 20) = .bool true := hd ⟨2, .data⟩ (by simp) rfl 20 rfl
                exact .inl ⟨rfl, .inl ⟨_, u, rfl, h2, hR, Below.refl _ _⟩⟩
              · -- 4
                have g3 : ρ (.tmp 21) = .bool true := hd ⟨3, .guard⟩ (by simp) rfl 21 rfl
                have s3 : ρ (.tmp 3) = .func (.func 63) #[] #[] := (hρ 3 (by kernel_rfl)).trans rfl
                exact .inl ⟨(by show (match ρ (.tmp 21) with | .bool b => b == true | _ => false) = true; rw [g3]; rfl), .inl ⟨_, u, rfl, s3, hR, Below.refl _ _⟩⟩
              · -- 5
                have g3 : ρ (.tmp 21) = .bool true := hd ⟨3, .guard⟩ (by simp) rfl 21 rfl
                have s0 : ρ (.tmp 0) = .slice (some ⟨g, 0, none⟩) n c := (hρ 0 (by kernel_rfl)).trans rfl
                exact .inl ⟨(by show (match ρ (.tmp 21) with | .bool b => b == true | _ => false) = true; rw [g3]; rfl), .inl ⟨_, u, rfl, s0, hR, Below.refl _ _⟩⟩
              · -- 6
                have g3 : ρ (.tmp 21) = .bool true := hd ⟨3, .guard⟩ (by simp) rfl 21 rfl
                have s9 : ρ (.tmp 9) = .int .i64 (j : Int) := (hρ 9 (by kernel_rfl)).trans rfl
                exact .inl ⟨(by show (match ρ (.tmp 21) with | .bool b => b == true | _ => false) = true; rw [g3]; rfl), .inl ⟨_, u, rfl, s9, hR, Below.refl _ _⟩⟩
              · -- 7
                have g3 : ρ (.tmp 21) = .bool true := hd ⟨3, .guard⟩ (by simp) rfl 21 rfl
                have h5 : ρ (.tmp 23) = .slice (some ⟨g, 0, none⟩) n c := hd ⟨5, .data⟩ (by simp) rfl 23 rfl
                have h6 : ρ (.tmp 24) = .int .i64 (j : Int) := hd ⟨6, .data⟩ (by simp) rfl 24 rfl
                exact .inl ⟨(by show (match ρ (.tmp 21) with | .bool b => b == true | _ => false) = true; rw [g3]; rfl), .inl ⟨.pointer (some ⟨g, j * 7, none⟩), u, run_index_op rfl h5 h6 (by go_simp), rfl, hR, Below.refl _ _⟩⟩
              · -- 8
                have R0 : RowU u g n h := HROW.out.1.below hR
                obtain ⟨d0, d1, d2, d3, d4, d5, d6⟩ := RowU.seven R0 (show j < n from by omega)
                clear R0
                have g3 : ρ (.tmp 21) = .bool true := hd ⟨3, .guard⟩ (by simp) rfl 21 rfl
                have h7 : ρ (.tmp 25) = .pointer (some ⟨g, j * 7, none⟩) := hd ⟨7, .data⟩ (by simp) rfl 25 rfl
                have hr : (Instr.loadAt 33 (.pointer (some ⟨g, j * 7, none⟩))).run Tryd.prog u = .ok (.agg (ruc (h j))) u := by go_simp
                exact .inl ⟨(by show (match ρ (.tmp 21) with | .bool b => b == true | _ => false) = true; rw [g3]; rfl), .inl ⟨.agg (ruc (h j)), u, run_load_op rfl h7 hr, rfl, hR, Below.refl _ _⟩⟩
              · -- 9
                have g3 : ρ (.tmp 21) = .bool true := hd ⟨3, .guard⟩ (by simp) rfl 21 rfl
                have s0 : ρ (.tmp 0) = .slice (some ⟨g, 0, none⟩) n c := (hρ 0 (by kernel_rfl)).trans rfl
                exact .inl ⟨(by show (match ρ (.tmp 21) with | .bool b => b == true | _ => false) = true; rw [g3]; rfl), .inl ⟨_, u, rfl, s0, hR, Below.refl _ _⟩⟩
              · -- 10
                have g3 : ρ (.tmp 21) = .bool true := hd ⟨3, .guard⟩ (by simp) rfl 21 rfl
                have s9 : ρ (.tmp 9) = .int .i64 (j : Int) := (hρ 9 (by kernel_rfl)).trans rfl
                exact .inl ⟨(by show (match ρ (.tmp 21) with | .bool b => b == true | _ => false) = true; rw [g3]; rfl), .inl ⟨_, u, rfl, s9, hR, Below.refl _ _⟩⟩
              · -- 11
                have g3 : ρ (.tmp 21) = .bool true := hd ⟨3, .guard⟩ (by simp) rfl 21 rfl
                have h10 : ρ (.tmp 28) = .int .i64 (j : Int) := hd ⟨10, .data⟩ (by simp) rfl 28 rfl
                exact .inl ⟨(by show (match ρ (.tmp 21) with | .bool b => b == true | _ => false) = true; rw [g3]; rfl), .inl ⟨.int .i64 (m : Int), u, run_bin_op rfl h10 (hc _) (by go_simp), rfl, hR, Below.refl _ _⟩⟩
              · -- 12
                have g3 : ρ (.tmp 21) = .bool true := hd ⟨3, .guard⟩ (by simp) rfl 21 rfl
                have h9 : ρ (.tmp 27) = .slice (some ⟨g, 0, none⟩) n c := hd ⟨9, .data⟩ (by simp) rfl 27 rfl
                have h11 : ρ (.tmp 29) = .int .i64 (m : Int) := hd ⟨11, .data⟩ (by simp) rfl 29 rfl
                exact .inl ⟨(by show (match ρ (.tmp 21) with | .bool b => b == true | _ => false) = true; rw [g3]; rfl), .inl ⟨.pointer (some ⟨g, m * 7, none⟩), u, run_index_op rfl h9 h11 (by go_simp), rfl, hR, Below.refl _ _⟩⟩
              · -- 13
                have R0 : RowU u g n h := HROW.out.1.below hR
                obtain ⟨d0, d1, d2, d3, d4, d5, d6⟩ := RowU.seven R0 (show m < n from by omega)
                clear R0
                have g3 : ρ (.tmp 21) = .bool true := hd ⟨3, .guard⟩ (by simp) rfl 21 rfl
                have h12 : ρ (.tmp 30) = .pointer (some ⟨g, m * 7, none⟩) := hd ⟨12, .data⟩ (by simp) rfl 30 rfl
                have hr : (Instr.loadAt 33 (.pointer (some ⟨g, m * 7, none⟩))).run Tryd.prog u = .ok (.agg (ruc (h m))) u := by go_simp
                exact .inl ⟨(by show (match ρ (.tmp 21) with | .bool b => b == true | _ => false) = true; rw [g3]; rfl), .inl ⟨.agg (ruc (h m)), u, run_load_op rfl h12 hr, rfl, hR, Below.refl _ _⟩⟩
              · -- 14
                have g3 : ρ (.tmp 21) = .bool true := hd ⟨3, .guard⟩ (by simp) rfl 21 rfl
                have h8 : ρ (.tmp 26) = .agg (ruc (h j)) := hd ⟨8, .data⟩ (by simp) rfl 26 rfl
                have h13 : ρ (.tmp 31) = .agg (ruc (h m)) := hd ⟨13, .data⟩ (by simp) rfl 31 rfl
                have h4 : ρ (.tmp 22) = .func (.func 63) #[] #[] := hd ⟨4, .data⟩ (by simp) rfl 22 rfl
                refine .inl ⟨(by show (match ρ (.tmp 21) with | .bool b => b == true | _ => false) = true; rw [g3]; rfl), .inr ⟨_, _, run_callv_op rfl h4 (args := #[.agg (ruc (h j)), .agg (ruc (h m))]) (by simp [h8, h13]) (by kernel_rfl), ?_⟩⟩
                refine (byPlaces_any (h j) (h m) _).mono ?_
                rintro e u' ⟨rfl, b'⟩
                exact ⟨_, rfl, rfl, bel_next hR b', b'⟩
              · -- 15
                have g3 : ρ (.tmp 21) = .bool true := hd ⟨3, .guard⟩ (by simp) rfl 21 rfl
                have h14 : ρ (.tmp 32) = .int .i64 (cmpR (h j) (h m)) := hd ⟨14, .data⟩ (by simp) rfl 32 rfl
                exact .inl ⟨(by show (match ρ (.tmp 21) with | .bool b => b == true | _ => false) = true; rw [g3]; rfl), .inl ⟨.bool false, u, run_bin_op rfl h14 (hc _) (by go_simp), rfl, hR, Below.refl _ _⟩⟩
              · -- 16
                have h3 : ρ (.tmp 21) = .bool true := hd ⟨3, .data⟩ (by simp) rfl 21 rfl
                have h15 : ρ (.tmp 33) = .bool false := hd ⟨15, .data⟩ (by simp) rfl 33 rfl
                exact .inl ⟨rfl, .inl ⟨_, u, run_pick_op rfl h3, (by simpa using h15), hR, Below.refl _ _⟩⟩
        · have hj' : ¬ (a : Int) < (j : Int) := by omega
          go_wp2
          refine wp_region_any (by kernel_rfl) ?_
          refine wpAny_vals (fun u => Below wr.heap.size wr u) (fun i v u => match i with
            | 0 => v = .int .i64 (j : Int)
            | 1 => v = .int .i64 (a : Int)
            | 2 => v = .bool false
            | 3 => v = .bool false
            | 4 => v = undef
            | 5 => v = undef
            | 6 => v = undef
            | 7 => v = undef
            | 8 => v = undef
            | 9 => v = undef
            | 10 => v = undef
            | 11 => v = undef
            | 12 => v = undef
            | 13 => v = undef
            | 14 => v = undef
            | 15 => v = undef
            | 16 => v = .bool false
            | _ => True) (by kernel_rfl) (by kernel_rfl) (fun _ _ _ _ h _ => h) (Below.refl _ _).drew ?_ ?_ _ _ rfl (by decide) (fun i => by simp [Array.getD]; try (split <;> rfl))
          · intro vs u hR hall
            have e16 : vs 16 = .bool false := hall 16 (by simp)
            simp only [putsL]
            rw [e16]
            clear hall e16
            have RX : RowU u g n h := HROW.out.1.below hR
            have BX := bel_next HROW.out.2 hR
            have HX : Hid (RowU u g n h ∧ PermIn a b f h ∧ SortedOn h a (k + 1) ∧ Below w0.heap.size w0 u) := ⟨RX, HP.out, HI.out.fin hjk (.inl (by omega)), BX⟩
            clear RX BX hR HROW HP HI
            go_simp
            go_wp2
            go_roundw
            case rel => exact ⟨k + 1, h, by omega, by omega, by go_num, HX.out.1, HX.out.2.1, HX.out.2.2.1, HX.out.2.2.2⟩
            case measure => simp [intOf]; omega
          · intro u i o ρ hR ho hρ hc hf hd
            have hi : i < 17 := by
              have := (Array.getElem?_eq_some_iff.1 ho).1
              simpa using this
            obtain rfl | rfl | rfl | rfl | rfl | rfl | rfl | rfl | rfl | rfl | rfl | rfl | rfl | rfl | rfl | rfl | rfl : i = 0 ∨ i = 1 ∨ i = 2 ∨ i = 3 ∨ i = 4 ∨ i = 5 ∨ i = 6 ∨ i = 7 ∨ i = 8 ∨ i = 9 ∨ i = 10 ∨ i = 11 ∨ i = 12 ∨ i = 13 ∨ i = 14 ∨ i = 15 ∨ i = 16 := by omega
            all_goals (simp only [List.getElem?_toArray, List.getElem?_cons_zero, List.getElem?_cons_succ, Option.some.injEq] at ho; subst ho)
            · -- 0
              have s9 : ρ (.tmp 9) = .int .i64 (j : Int) := (hρ 9 (by kernel_rfl)).trans rfl
              exact .inl ⟨rfl, .inl ⟨_, u, rfl, s9, hR, Below.refl _ _⟩⟩
            · -- 1
              have s1 : ρ (.tmp 1) = .int .i64 (a : Int) := (hρ 1 (by kernel_rfl)).trans rfl
              exact .inl ⟨rfl, .inl ⟨_, u, rfl, s1, hR, Below.refl _ _⟩⟩
            · -- 2
              have h0 : ρ (.tmp 18) = .int .i64 (j : Int) := hd ⟨0, .data⟩ (by simp) rfl 18 rfl
              have h1 : ρ (.tmp 19) = .int .i64 (a : Int) := hd ⟨1, .data⟩ (by simp) rfl 19 rfl
              exact .inl ⟨rfl, .inl ⟨.bool false, u, run_bin_op rfl h0 h1 (by go_simp), rfl, hR, Below.refl _ _⟩⟩
            · -- 3
              have h2 : ρ (.tmp 20) = .bool false := hd ⟨2, .data⟩ (by simp) rfl 20 rfl
              exact .inl ⟨rfl, .inl ⟨_, u, rfl, h2, hR, Below.refl _ _⟩⟩
            · -- 4
              have g3 : ρ (.tmp 21) = .bool false := hd ⟨3, .guard⟩ (by simp) rfl 21 rfl
              exact .inr ⟨(by show (match ρ (.tmp 21) with | .bool b => b == true | _ => false) = false; rw [g3]; rfl), rfl⟩
            · -- 5
              have g3 : ρ (.tmp 21) = .bool false := hd ⟨3, .guard⟩ (by simp) rfl 21 rfl
              exact .inr ⟨(by show (match ρ (.tmp 21) with | .bool b => b == true | _ => false) = false; rw [g3]; rfl), rfl⟩
            · -- 6
              have g3 : ρ (.tmp 21) = .bool false := hd ⟨3, .guard⟩ (by simp) rfl 21 rfl
              exact .inr ⟨(by show (match ρ (.tmp 21) with | .bool b => b == true | _ => false) = false; rw [g3]; rfl), rfl⟩
            · -- 7
              have g3 : ρ (.tmp 21) = .bool false := hd ⟨3, .guard⟩ (by simp) rfl 21 rfl
              exact .inr ⟨(by show (match ρ (.tmp 21) with | .bool b => b == true | _ => false) = false; rw [g3]; rfl), rfl⟩
            · -- 8
              have g3 : ρ (.tmp 21) = .bool false := hd ⟨3, .guard⟩ (by simp) rfl 21 rfl
              exact .inr ⟨(by show (match ρ (.tmp 21) with | .bool b => b == true | _ => false) = false; rw [g3]; rfl), rfl⟩
            · -- 9
              have g3 : ρ (.tmp 21) = .bool false := hd ⟨3, .guard⟩ (by simp) rfl 21 rfl
              exact .inr ⟨(by show (match ρ (.tmp 21) with | .bool b => b == true | _ => false) = false; rw [g3]; rfl), rfl⟩
            · -- 10
              have g3 : ρ (.tmp 21) = .bool false := hd ⟨3, .guard⟩ (by simp) rfl 21 rfl
              exact .inr ⟨(by show (match ρ (.tmp 21) with | .bool b => b == true | _ => false) = false; rw [g3]; rfl), rfl⟩
            · -- 11
              have g3 : ρ (.tmp 21) = .bool false := hd ⟨3, .guard⟩ (by simp) rfl 21 rfl
              exact .inr ⟨(by show (match ρ (.tmp 21) with | .bool b => b == true | _ => false) = false; rw [g3]; rfl), rfl⟩
            · -- 12
              have g3 : ρ (.tmp 21) = .bool false := hd ⟨3, .guard⟩ (by simp) rfl 21 rfl
              exact .inr ⟨(by show (match ρ (.tmp 21) with | .bool b => b == true | _ => false) = false; rw [g3]; rfl), rfl⟩
            · -- 13
              have g3 : ρ (.tmp 21) = .bool false := hd ⟨3, .guard⟩ (by simp) rfl 21 rfl
              exact .inr ⟨(by show (match ρ (.tmp 21) with | .bool b => b == true | _ => false) = false; rw [g3]; rfl), rfl⟩
            · -- 14
              have g3 : ρ (.tmp 21) = .bool false := hd ⟨3, .guard⟩ (by simp) rfl 21 rfl
              exact .inr ⟨(by show (match ρ (.tmp 21) with | .bool b => b == true | _ => false) = false; rw [g3]; rfl), rfl⟩
            · -- 15
              have g3 : ρ (.tmp 21) = .bool false := hd ⟨3, .guard⟩ (by simp) rfl 21 rfl
              exact .inr ⟨(by show (match ρ (.tmp 21) with | .bool b => b == true | _ => false) = false; rw [g3]; rfl), rfl⟩
            · -- 16
              have h3 : ρ (.tmp 21) = .bool false := hd ⟨3, .data⟩ (by simp) rfl 21 rfl
              exact .inl ⟨rfl, .inl ⟨_, u, run_pick_op rfl h3, (by simpa using hc _), hR, Below.refl _ _⟩⟩
    · have hi : ¬ (k : Int) < (b : Int) := by omega
      have HS0 : Hid (RowU wr g n h0 ∧ PermIn a b f h0 ∧ SortedOn h0 a b ∧ Below w0.heap.size w0 wr) := ⟨hrow0, hp0, fun p q h1 h2 h3 => hso p q h1 h2 (by omega), hbl0⟩
      clear hrow0 hp0 hso hbl0 hr hb
      go_wp2
      refine bodyPost_end (v := .tuple #[]) (by simp [results, Tryd.results93, go_sem]) rfl ⟨rfl, h0, HS0.out⟩

end Go.Proofs.YtklnfeblkffgiaaDoor
