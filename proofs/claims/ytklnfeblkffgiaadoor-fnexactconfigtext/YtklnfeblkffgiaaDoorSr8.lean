/- Rules sorted into a list of their own. -/
import Derived.Test.YtklnfeblkffgiaaDoorSr7
import Derived.Test.YtklnfeblkffgiaaDoorCpS
namespace Go.Proofs.YtklnfeblkffgiaaDoor
open Go.RowKit

set_option linter.unusedVariables false

set_option linter.unusedSimpArgs false

theorem szU33 : (Tryd.prog.info? 33).map (·.size) = some 7 := by kernel_rfl

set_option maxRecDepth 20000 in
set_option maxHeartbeats 1000000 in
theorem copyOfU (a : Option Addr) (n cap : Nat) (f : Nat → Ru) (w : World) (hs : SlU w a n f) (hl : n ≤ 2000000) :
    Calls Tryd.prog 69 #[.slice a n cap] w fun e w' => e = .returned (.slice (some ⟨w.heap.size, 0, none⟩) n n) ∧ RowU w' w.heap.size n f ∧ Below w.heap.size w w' := by
  have hmk := run_make_st (P := Tryd.prog) 24 33 (.agg (ruc ⟨0, 0, 0, 0, 0, 0, 0⟩)) 7 56 Tryd.underlying24 Tryd.info33 .i64 .i64 n (by omega) (by omega)
  obtain ⟨W, hW⟩ : ∃ W, W = w.alloc (.cells (madeCells (Value.agg (ruc ⟨0, 0, 0, 0, 0, 0, 0⟩)).cells (n * 7)) 33) := ⟨_, rfl⟩
  have b0 : Below w.heap.size w W := by rw [hW]; exact (Below.refl _ w).alloc (Nat.le_refl _) _
  have hh : W.heap[w.heap.size]? = some (.cells (madeCells (Value.agg (ruc ⟨0, 0, 0, 0, 0, 0, 0⟩)).cells (n * 7)) 33 (0, 0)) := by rw [hW]; show (w.heap.push _)[w.heap.size]? = _; simp
  have hs1 := SlS.below hs b0
  have HRUN : Hid (∃ w2, (Builtin.copy_ #[24, 24] 3 #[.slice (some ⟨w.heap.size, 0, none⟩) n n, .slice a n cap]).run Tryd.prog W = .ok (goInt n) w2 ∧ RowU w2 w.heap.size n f ∧ Below w.heap.size w w2) := by
    rcases hs1 with h0 | ⟨b, off, rfl, hlt, hc⟩
    · subst h0
      exact ⟨W, run_copy_st0 W _ _ _ 33 _ _ _ _ 7 Tryd.underlying24 szU33, ⟨_, hh, by simp [madeCells], fun k hk => by omega⟩, b0⟩
    · have hF : ∀ k, k < n → (rul (f k)).length = 7 := fun _ _ => rfl
      refine ⟨_, run_copy_st W _ _ _ 33 w.heap.size n n cap 7 ⟨b, off, none⟩ _ 33 (flatS 7 n (fun k => rul (f k))) Tryd.underlying24 szU33 hh (flatS_length _ _ _) (flatS_src (by decide) hF hc) (by rw [flatS_length, size_madeCells]) (flatS_mem (by decide) hF (fun k _ v hv => by simp at hv; rcases hv with rfl | rfl | rfl | rfl | rfl | rfl | rfl <;> rfl)), ?_, below_setRow b0 (Nat.le_refl _) _⟩
      exact RowS.ofFlat (by exact setRow_heap W w.heap.size _ _ 33 _ hh) hF
  clear hs hs1 hh
  obtain ⟨w2, hr2, R2, B2⟩ := HRUN.out
  have HR : Hid ((Builtin.copy_ #[24, 24] 3 #[.slice (some ⟨w.heap.size, 0, none⟩) n n, .slice a n cap]).run Tryd.prog W = .ok (goInt n) w2) := hr2
  have HX : Hid (RowU w2 w.heap.size n f ∧ Below w.heap.size w w2) := ⟨R2, B2⟩
  clear HRUN hr2 R2 B2 b0
  rw [hW] at HR
  go_enter Tryd.func69, Tryd.ntmps69
  go_wp2_with (refine wpList_copy_run rfl (.tmp 7) (.tmp 8) 24 24 rfl _ _ rfl rfl _ HR.out ?_)
  go_ret
  exact ⟨rfl, HX.out⟩

theorem SortedOn.empty (f : Nat → Ru) (a b : Nat) (h : b ≤ a + 1) : SortedOn f a b := fun i j h1 h2 h3 => by omega

set_option maxRecDepth 20000 in
set_option maxHeartbeats 2000000 in
theorem stable_any (g n c : Nat) (f : Nat → Ru) (w0 w : World) (hb : Below w0.heap.size w0 w) (hg : w0.heap.size ≤ g) (hr : RowU w g n f) (hn : n ≤ 24) :
    Calls Tryd.prog 80 #[.slice (some ⟨g, 0, none⟩) n c, .int .i64 (n : Int), .func (.func 63) #[] #[]] w fun e w' => e = .returned (.tuple #[]) ∧ ∃ f', RowU w' g n f' ∧ PermIn 0 n f f' ∧ SortedOn f' 0 n ∧ Below w0.heap.size w0 w' := by
  by_cases h20 : 20 ≤ n
  · have d1 : (20 : Int) ≤ (n : Int) := by omega
    have d2 : ¬ (40 : Int) ≤ (n : Int) := by omega
    go_enter Tryd.func80, Tryd.ntmps80
    go_wp2
    refine wp_loop_rounds 2 ?_
    rw [rounds_succ]
    go_wp2_with fail
    refine (insertion_any g n c 0 20 f w0 _ hb hg hr h20 (by omega) (by omega)).mono ?_
    rintro e w1 ⟨rfl, f1, R1, P1, S1, B1⟩
    clear hr hb
    go_wp2
    rw [rounds_succ]
    go_wp2_with fail
    refine (insertion_any g n c 20 n f1 w0 _ B1 hg R1 (Nat.le_refl _) (by omega) h20).mono ?_
    rintro e w2 ⟨rfl, f2, R2, P2, S2, B2⟩
    have PP : PermIn 0 n f f2 := (P1.mono (Nat.le_refl _) h20).trans (P2.mono (by omega) (Nat.le_refl _))
    have SL : SortedOn f2 0 20 := fun i j h1 h2 h3 => by rw [P2.out (.inl (by omega)), P2.out (.inl h3)]; exact S1 i j h1 h2 h3
    clear R1 B1 P1 P2 S1
    by_cases h21 : 20 < n
    · have d3 : (20 : Int) < (n : Int) := by omega
      have d4 : ¬ (40 : Int) < (n : Int) := by omega
      go_wp2
      refine wp_loop_rounds 2 ?_
      rw [rounds_succ]
      go_wp2
      refine wp_loop_rounds 1 ?_
      rw [rounds_succ]
      go_wp2_with fail
      refine (symMerge_any n g n c 0 20 n f2 w0 _ B2 hg R2 (by omega) h21 (Nat.le_refl _) (by omega) SL S2 (by omega)).mono ?_
      rintro e w3 ⟨rfl, f3, R3, P3, S3, B3⟩
      have HX : Hid (∃ f', RowU w3 g n f' ∧ PermIn 0 n f f' ∧ SortedOn f' 0 n ∧ Below w0.heap.size w0 w3) := ⟨f3, R3, PP.trans P3, S3, B3⟩
      clear R2 B2 PP SL S2 R3 B3 P3 S3
      go_wp2
      rw [rounds_succ]
      go_wp2
      refine bodyPost_end (v := .tuple #[]) (by simp [results, Tryd.results80, go_sem]) rfl ⟨rfl, HX.out⟩
    · have d3 : ¬ (20 : Int) < (n : Int) := by omega
      have HX : Hid (∃ f', RowU w2 g n f' ∧ PermIn 0 n f f' ∧ SortedOn f' 0 n ∧ Below w0.heap.size w0 w2) := ⟨f2, R2, PP, (by rw [show n = 20 by omega]; exact SL), B2⟩
      clear R2 B2 PP SL S2
      go_wp2
      refine wp_loop_rounds 1 ?_
      rw [rounds_succ]
      go_wp2
      refine bodyPost_end (v := .tuple #[]) (by simp [results, Tryd.results80, go_sem]) rfl ⟨rfl, HX.out⟩
  · have d1 : ¬ (20 : Int) ≤ (n : Int) := by omega
    have d3 : ¬ (20 : Int) < (n : Int) := by omega
    go_enter Tryd.func80, Tryd.ntmps80
    go_wp2
    refine wp_loop_rounds 1 ?_
    rw [rounds_succ]
    go_wp2_with fail
    refine (insertion_any g n c 0 n f w0 _ hb hg hr (Nat.le_refl _) (by omega) (by omega)).mono ?_
    rintro e w1 ⟨rfl, f1, R1, P1, S1, B1⟩
    have HX : Hid (∃ f', RowU w1 g n f' ∧ PermIn 0 n f f' ∧ SortedOn f' 0 n ∧ Below w0.heap.size w0 w1) := ⟨f1, R1, P1, S1, B1⟩
    clear R1 B1 P1 S1 hr hb
    go_wp2
    refine wp_loop_rounds 1 ?_
    rw [rounds_succ]
    go_wp2
    refine bodyPost_end (v := .tuple #[]) (by simp [results, Tryd.results80, go_sem]) rfl ⟨rfl, HX.out⟩

set_option maxHeartbeats 1000000 in
theorem sortStable_any (g n c : Nat) (f : Nat → Ru) (w0 w : World) (hb : Below w0.heap.size w0 w) (hg : w0.heap.size ≤ g) (hr : RowU w g n f) (hn : n ≤ 24) :
    Calls Tryd.prog 70 #[.slice (some ⟨g, 0, none⟩) n c, .func (.func 63) #[] #[]] w fun e w' => e = .returned (.tuple #[]) ∧ ∃ f', RowU w' g n f' ∧ PermIn 0 n f f' ∧ SortedOn f' 0 n ∧ Below w0.heap.size w0 w' := by
  go_enter Tryd.func70, Tryd.ntmps70
  go_wp2_with fail
  refine (stable_any g n c f w0 _ hb hg hr hn).mono ?_
  rintro e w1 ⟨rfl, hx⟩
  have HX : Hid _ := hx
  clear hx hr hb
  go_wp2
  refine bodyPost_end (v := .tuple #[]) (by simp [results, Tryd.results70, go_sem]) rfl ⟨rfl, HX.out⟩

set_option maxHeartbeats 1000000 in
theorem sortedBy_any (a : Option Addr) (n cap : Nat) (f : Nat → Ru) (w : World) (hs : SlU w a n f) (hn : n ≤ 24) :
    Calls Tryd.prog 62 #[.slice a n cap, .func (.func 63) #[] #[]] w fun e w' => e = .returned (.slice (some ⟨w.heap.size, 0, none⟩) n n) ∧ ∃ f', RowU w' w.heap.size n f' ∧ PermIn 0 n f f' ∧ SortedOn f' 0 n ∧ Below w.heap.size w w' := by
  go_enter Tryd.func62, Tryd.ntmps62
  go_wp2_with fail
  refine (copyOfU a n cap f _ hs (by omega)).mono ?_
  rintro e w1 ⟨rfl, R1, B1⟩
  clear hs
  go_wp2_with fail
  refine (sortStable_any w.heap.size n n f w _ B1 (Nat.le_refl _) R1 hn).mono ?_
  rintro e w2 ⟨rfl, hx⟩
  have HX : Hid _ := hx
  clear hx R1 B1
  go_wp2
  go_ret
  exact ⟨rfl, HX.out⟩

end Go.Proofs.YtklnfeblkffgiaaDoor
