/- Listeners of frames by silences: what the laws' own helpers do with one; which are right; a new one. -/
import Derived.Test.YtimgohnnapaafaaReq1
import Derived.Test.YtimgohnnapaafaaBys
import Derived.Test.YtimgohnnapaafaaMarks2
namespace Go.Proofs.Ytimgohnnapaafaa
open Go.RowKit

set_option linter.unusedVariables false

set_option linter.unusedSimpArgs false

/-- A listener as a value. -/
abbrev rt (a : Option Addr) (l c : Nat) (ls : Int) (bd : Bool) (hf wh : Int) : Value := .agg #[.slice a l c, .int .i64 ls, .bool bd, .int .i64 hf, .int .i64 wh]

theorem Blk.five {w : World} {g : Nat} {t : TypeId} {v0 v1 v2 v3 v4 : Value} (h : Blk w g t #[v0, v1, v2, v3, v4]) : w.cell? ⟨g, 0, none⟩ = some v0 ∧ w.cell? ⟨g, 1, none⟩ = some v1 ∧ w.cell? ⟨g, 2, none⟩ = some v2 ∧ w.cell? ⟨g, 3, none⟩ = some v3 ∧ w.cell? ⟨g, 4, none⟩ = some v4 :=
  ⟨h.cell 0 rfl, h.cell 1 rfl, h.cell 2 rfl, h.cell 3 rfl, h.cell 4 rfl⟩

theorem Own.monoT {w : World} {base base' : Nat} {v : Value} {zs : List Int} (h : Own w base v zs) (hb : base' ≤ base) : Own w base' v zs := by
  obtain ⟨h1, h2⟩ := h
  refine ⟨h1, ?_⟩
  rcases h2 with h2 | ⟨g, cap, cur, hv, hg, r⟩
  · exact .inl h2
  · exact .inr ⟨g, cap, cur, hv, by omega, r⟩

theorem toByteS_t (a : Option Addr) (n cap : Nat) (zs : List Int) (w : World) (hn : n = zs.length) (hs : Sl w a zs) (hl : zs.length ≤ 2000000) :
    Calls Try.prog 55 #[.slice a n cap] w fun e w' => ∃ g, e = .returned (.slice (some ⟨g, 0, none⟩) n n) ∧ Own w' w.heap.size (.slice (some ⟨g, 0, none⟩) n n) zs ∧ Below w.heap.size w w' := by
  refine (toByteS_any a n cap zs w hn hs hl).mono ?_
  rintro e w' ⟨rfl, q, b⟩
  exact ⟨_, rfl, Own.ofRow q hn (Nat.le_refl _) (by unfold maxLen; omega), b⟩

theorem eqByteS_t (a a' : Option Addr) (n n' cap cap' : Nat) (zs : List Int) (w : World) (hn : n = zs.length) (hn' : n' = zs.length) (hs : Sl w a zs) (hs' : Sl w a' zs) (hl : zs.length ≤ 2000000) :
    Calls Try.prog 19 #[.slice a n cap, .slice a' n' cap'] w fun e w' => e = .returned (.bool true) ∧ Below w.heap.size w w' := by
  refine (eqByteS_true a a' n n' cap cap' zs w hn hn' hs hs' hl).mono ?_
  rintro e w' ⟨rfl, k, rfl⟩
  exact ⟨rfl, drew_refl _ _⟩

set_option maxHeartbeats 2000000 in
theorem szRtu_fits (a : Option Addr) (l c : Nat) (ls : Int) (bd : Bool) (hf wh : Int) (w : World) (h : l ≤ 1048576) :
    Calls Try.prog 38 #[rt a l c ls bd hf wh, .int .i64 1048576] w fun e w' => e = .returned (.int .i64 (1048576 - (l : Int))) ∧ Below w.heap.size w w' := by
  have h' : ¬ (1048576 - (l : Int) < 0) := by omega
  go_enter Try.func38, Try.ntmps38
  go_wp2_with (go_at_call 51; go_in)
  go_ret
  exact ⟨rfl, bel_alloc _ _⟩

set_option maxHeartbeats 2000000 in
theorem szRtu_big (a : Option Addr) (l c : Nat) (ls : Int) (bd : Bool) (hf wh : Int) (w : World) (hm : l ≤ maxLen) (h : ¬ l ≤ 1048576) :
    Calls Try.prog 38 #[rt a l c ls bd hf wh, .int .i64 1048576] w fun e w' => e = .returned (.int .i64 (-1)) ∧ Below w.heap.size w w' := by
  unfold maxLen at hm
  have h' : (1048576 - (l : Int) < 0) := by omega
  go_enter Try.func38, Try.ntmps38
  go_wp2_with (go_at_call 51; go_in)
  go_ret
  exact ⟨rfl, bel_alloc _ _⟩

set_option maxRecDepth 20000 in
set_option maxHeartbeats 4000000 in
theorem toRtu_any (a : Option Addr) (l c : Nat) (ls : Int) (bd : Bool) (hf wh : Int) (zs : List Int) (w : World) (hn : l = zs.length) (hs : Sl w a zs) (hl : zs.length ≤ 2000000) :
    Calls Try.prog 47 #[rt a l c ls bd hf wh] w fun e w' => ∃ g, e = .returned (rt (some ⟨g, 0, none⟩) l l ls bd hf wh) ∧ Own w' w.heap.size (.slice (some ⟨g, 0, none⟩) l l) zs ∧ Below w.heap.size w w' := by
  have HN : Hid (l = zs.length) := hn
  obtain ⟨W0, hW0'⟩ : ∃ W0, W0 = ((w.alloc (.cells #[.slice a l c, .int .i64 ls, .bool bd, .int .i64 hf, .int .i64 wh] 35)).alloc (.cells #[.slice none 0 0, .int .i64 0, .bool false, .int .i64 0, .int .i64 0] 24)).alloc (.cells #[.slice none 0 0, .int .i64 0, .bool false, .int .i64 0, .int .i64 0] 24) := ⟨_, rfl⟩
  have hW0 : Hid (W0 = _) := hW0'
  have hz : W0.heap.size = w.heap.size + 1 + 1 + 1 := by rw [hW0']; simp
  have B0 : Below w.heap.size w W0 := by rw [hW0']; exact bel_next (bel_next (bel_alloc w _) (bel_alloc _ _)) (bel_alloc _ _)
  have A0 : Blk W0 w.heap.size 35 #[.slice a l c, .int .i64 ls, .bool bd, .int .i64 hf, .int .i64 wh] := by rw [hW0']; exact ((Blk.new w _ _).below (bel_alloc _ _)).below (bel_alloc _ _)
  have R0 : Blk W0 (w.heap.size + 1) 24 #[.slice none 0 0, .int .i64 0, .bool false, .int .i64 0, .int .i64 0] := by
    rw [hW0']; have := (Blk.new (w.alloc (.cells #[.slice a l c, .int .i64 ls, .bool bd, .int .i64 hf, .int .i64 wh] 35)) #[.slice none 0 0, .int .i64 0, .bool false, .int .i64 0, .int .i64 0] 24).below (bel_alloc _ (.cells #[.slice none 0 0, .int .i64 0, .bool false, .int .i64 0, .int .i64 0] 24)); simpa using this
  have O0 : Blk W0 (w.heap.size + 1 + 1) 24 #[.slice none 0 0, .int .i64 0, .bool false, .int .i64 0, .int .i64 0] := by
    rw [hW0']; have := Blk.new ((w.alloc (.cells #[.slice a l c, .int .i64 ls, .bool bd, .int .i64 hf, .int .i64 wh] 35)).alloc (.cells #[.slice none 0 0, .int .i64 0, .bool false, .int .i64 0, .int .i64 0] 24)) #[.slice none 0 0, .int .i64 0, .bool false, .int .i64 0, .int .i64 0] 24; simpa using this
  have S1 : Hid (Sl W0 a zs) := hs.below B0
  clear hn hs hW0'
  go_enter Try.func47, Try.ntmps47
  go_wp2_with fail
  rw [← hW0.out]
  refine (toByteS_t a l c zs _ HN.out S1.out hl).mono ?_
  rintro e w1 ⟨g, rfl, i1, b1'⟩
  have b1 := bel_next B0 b1'
  have A1 := A0.below b1'
  have R1 := R0.below b1'
  have O1 := O0.below b1'
  obtain ⟨x0, x1, x2, x3, x4⟩ := A1.five
  obtain ⟨r0, r1, r2, r3, r4⟩ := R1.five
  obtain ⟨o0, o1, o2, o3, o4⟩ := O1.five
  have fo := O1.fro
  have fr := R1.fro
  have eO : ExB w1 (w.heap.size + 1 + 1) 24 := ⟨_, O1⟩
  have eR : ExB w1 (w.heap.size + 1) 24 := ⟨_, R1⟩
  have HJ : Hid (Own w1 W0.heap.size (.slice (some ⟨g, 0, none⟩) l l) zs ∧ Below w.heap.size w w1 ∧ ExB w1 (w.heap.size + 1 + 1) 24 ∧ ExB w1 (w.heap.size + 1) 24) := ⟨i1, b1, eO, eR⟩
  have hz0 : w.heap.size ≤ W0.heap.size := by omega
  clear b1' B0 A0 R0 O0 A1 R1 O1 i1 b1 eO eR
  go_wp2
  refine bodyPost_ret (v := rt (some ⟨g, 0, none⟩) l l ls bd hf wh) (by simp [results, Try.results47, go_sem, r0, r1, r2, r3, r4]) rfl ?_
  obtain ⟨j3, b3, eO, eR⟩ := HJ.out
  exact ⟨g, rfl, Own.monoT (show Own _ _ _ _ from (row_setE (row_setE (row_setE (row_setE (row_setE (row_setE (row_setE (row_setE (row_setE (row_setE j3 eO (by decide)) (ExB.set eO) (by decide)) (ExB.set (ExB.set eO)) (by decide)) (ExB.set (ExB.set (ExB.set eO))) (by decide)) (ExB.set (ExB.set (ExB.set (ExB.set eO)))) (by decide)) (ExB.set (ExB.set (ExB.set (ExB.set (ExB.set eR))))) (by decide)) (ExB.set (ExB.set (ExB.set (ExB.set (ExB.set (ExB.set eR)))))) (by decide)) (ExB.set (ExB.set (ExB.set (ExB.set (ExB.set (ExB.set (ExB.set eR))))))) (by decide)) (ExB.set (ExB.set (ExB.set (ExB.set (ExB.set (ExB.set (ExB.set (ExB.set eR)))))))) (by decide)) (ExB.set (ExB.set (ExB.set (ExB.set (ExB.set (ExB.set (ExB.set (ExB.set (ExB.set eR))))))))) (by decide))) hz0, ((((((((((b3.setCell (p := ⟨w.heap.size + 1 + 1, 0, none⟩) (by show w.heap.size ≤ w.heap.size + 1 + 1; omega) _).setCell (p := ⟨w.heap.size + 1 + 1, 1, none⟩) (by show w.heap.size ≤ w.heap.size + 1 + 1; omega) _).setCell (p := ⟨w.heap.size + 1 + 1, 2, none⟩) (by show w.heap.size ≤ w.heap.size + 1 + 1; omega) _).setCell (p := ⟨w.heap.size + 1 + 1, 3, none⟩) (by show w.heap.size ≤ w.heap.size + 1 + 1; omega) _).setCell (p := ⟨w.heap.size + 1 + 1, 4, none⟩) (by show w.heap.size ≤ w.heap.size + 1 + 1; omega) _).setCell (p := ⟨w.heap.size + 1, 0, none⟩) (by show w.heap.size ≤ w.heap.size + 1; omega) _).setCell (p := ⟨w.heap.size + 1, 1, none⟩) (by show w.heap.size ≤ w.heap.size + 1; omega) _).setCell (p := ⟨w.heap.size + 1, 2, none⟩) (by show w.heap.size ≤ w.heap.size + 1; omega) _).setCell (p := ⟨w.heap.size + 1, 3, none⟩) (by show w.heap.size ≤ w.heap.size + 1; omega) _).setCell (p := ⟨w.heap.size + 1, 4, none⟩) (by show w.heap.size ≤ w.heap.size + 1; omega) _)⟩

set_option maxRecDepth 20000 in
set_option maxHeartbeats 4000000 in
theorem eqRtu_true (a a' : Option Addr) (l l' c c' : Nat) (ls : Int) (bd : Bool) (hf wh : Int) (zs : List Int) (w : World) (hn : l = zs.length) (hn' : l' = zs.length) (hs : Sl w a zs) (hs' : Sl w a' zs) (hl : zs.length ≤ 2000000) :
    Calls Try.prog 29 #[rt a l c ls bd hf wh, rt a' l' c' ls bd hf wh] w fun e w' => e = .returned (.bool true) ∧ Below w.heap.size w w' := by
  have HN : Hid (l = zs.length ∧ l' = zs.length) := ⟨hn, hn'⟩
  obtain ⟨W0, hW0'⟩ : ∃ W0, W0 = (w.alloc (.cells #[.slice a l c, .int .i64 ls, .bool bd, .int .i64 hf, .int .i64 wh] 24)).alloc (.cells #[.slice a' l' c', .int .i64 ls, .bool bd, .int .i64 hf, .int .i64 wh] 24) := ⟨_, rfl⟩
  have hW0 : Hid (W0 = _) := hW0'
  have B0 : Below w.heap.size w W0 := by rw [hW0']; exact bel_next (bel_alloc w _) (bel_alloc _ _)
  have X0 : Blk W0 w.heap.size 24 #[.slice a l c, .int .i64 ls, .bool bd, .int .i64 hf, .int .i64 wh] := by rw [hW0']; exact (Blk.new w _ _).below (bel_alloc _ _)
  have Y0 : Blk W0 (w.heap.size + 1) 24 #[.slice a' l' c', .int .i64 ls, .bool bd, .int .i64 hf, .int .i64 wh] := by
    rw [hW0']; have := Blk.new (w.alloc (.cells #[.slice a l c, .int .i64 ls, .bool bd, .int .i64 hf, .int .i64 wh] 24)) #[.slice a' l' c', .int .i64 ls, .bool bd, .int .i64 hf, .int .i64 wh] 24; simpa using this
  have HS : Hid (Sl W0 a zs ∧ Sl W0 a' zs) := ⟨hs.below B0, hs'.below B0⟩
  clear hn hn' hs hs' hW0'
  go_enter Try.func29, Try.ntmps29
  go_wp2_with fail
  rw [← hW0.out]
  refine (eqByteS_t _ _ _ _ _ _ zs _ HN.out.1 HN.out.2 HS.out.1 HS.out.2 hl).mono ?_
  rintro e w1 ⟨rfl, b1'⟩
  have b1 := bel_next B0 b1'
  obtain ⟨x0, x1, x2, x3, x4⟩ := (X0.below b1').five
  obtain ⟨y0, y1, y2, y3, y4⟩ := (Y0.below b1').five
  clear b1' B0 X0 Y0 x0 y0
  cases bd
  all_goals (
    go_wp2
    go_ret
    exact ⟨rfl, b1⟩)

/-- A listener is right. -/
def okT (l : Nat) (ls : Int) (bd : Bool) (hf wh : Int) : Bool := decide (1 ≤ hf ∧ hf ≤ 1000 ∧ hf ≤ wh ∧ wh ≤ 1000 ∧ l ≤ 257 ∧ 0 ≤ ls ∧ ls ≤ 4294967295) && (!bd || decide (0 < l))

def okSl (hf wh : Int) : Bool := decide (1 ≤ hf ∧ hf ≤ 1000 ∧ hf ≤ wh ∧ wh ≤ 1000)

set_option maxRecDepth 20000 in
set_option maxHeartbeats 4000000 in
theorem specRtuOk_any (a : Option Addr) (l c : Nat) (ls : Int) (bd : Bool) (hf wh : Int) (w : World) (hl : l ≤ 2000000) (b : Bool) (hb : okT l ls bd hf wh = b) :
    Calls Try.prog 41 #[rt a l c ls bd hf wh] w fun e w' => e = .returned (.bool b) ∧ Below w.heap.size w w' := by
  have b0 := bel_alloc w (.cells #[.slice a l c, .int .i64 ls, .bool bd, .int .i64 hf, .int .i64 wh] 24)
  subst hb
  by_cases t_hf1 : 1 ≤ hf
  case neg =>
    rw [show okT l ls _ hf wh = false by unfold okT; rw [decide_eq_false (by omega)]; rfl]
    go_enter Try.func41, Try.ntmps41
    go_wp2_with (first | (go_at_call 24; go_in) | (go_at_call 58; go_in))
    go_ret
    exact ⟨rfl, b0⟩
  by_cases t_hf2 : hf ≤ 1000
  case neg =>
    rw [show okT l ls _ hf wh = false by unfold okT; rw [decide_eq_false (by omega)]; rfl]
    go_enter Try.func41, Try.ntmps41
    go_wp2_with (first | (go_at_call 24; go_in) | (go_at_call 58; go_in))
    go_ret
    exact ⟨rfl, b0⟩
  by_cases t_wh1 : hf ≤ wh
  case neg =>
    rw [show okT l ls _ hf wh = false by unfold okT; rw [decide_eq_false (by omega)]; rfl]
    go_enter Try.func41, Try.ntmps41
    go_wp2_with (first | (go_at_call 24; go_in) | (go_at_call 58; go_in))
    go_ret
    exact ⟨rfl, b0⟩
  by_cases t_wh2 : wh ≤ 1000
  case neg =>
    rw [show okT l ls _ hf wh = false by unfold okT; rw [decide_eq_false (by omega)]; rfl]
    go_enter Try.func41, Try.ntmps41
    go_wp2_with (first | (go_at_call 24; go_in) | (go_at_call 58; go_in))
    go_ret
    exact ⟨rfl, b0⟩
  by_cases t_len : (l : Int) ≤ 257
  case neg =>
    rw [show okT l ls _ hf wh = false by unfold okT; rw [decide_eq_false (by omega)]; rfl]
    go_enter Try.func41, Try.ntmps41
    go_wp2_with (first | (go_at_call 24; go_in) | (go_at_call 58; go_in))
    go_ret
    exact ⟨rfl, b0⟩
  by_cases t_ls1 : 0 ≤ ls
  case neg =>
    rw [show okT l ls _ hf wh = false by unfold okT; rw [decide_eq_false (by omega)]; rfl]
    go_enter Try.func41, Try.ntmps41
    go_wp2_with (first | (go_at_call 24; go_in) | (go_at_call 58; go_in))
    go_ret
    exact ⟨rfl, b0⟩
  by_cases t_ls2 : ls ≤ 4294967295
  case neg =>
    rw [show okT l ls _ hf wh = false by unfold okT; rw [decide_eq_false (by omega)]; rfl]
    go_enter Try.func41, Try.ntmps41
    go_wp2_with (first | (go_at_call 24; go_in) | (go_at_call 58; go_in))
    go_ret
    exact ⟨rfl, b0⟩
  have hd : decide (1 ≤ hf ∧ hf ≤ 1000 ∧ hf ≤ wh ∧ wh ≤ 1000 ∧ l ≤ 257 ∧ 0 ≤ ls ∧ ls ≤ 4294967295) = true := decide_eq_true (by omega)
  cases bd
  · rw [show okT l ls false hf wh = true by unfold okT; rw [hd]; rfl]
    clear hd
    go_enter Try.func41, Try.ntmps41
    go_wp2_with (first | (go_at_call 24; go_in) | (go_at_call 58; go_in))
    go_ret
    exact ⟨rfl, b0⟩
  · by_cases h0 : 0 < (l : Int)
    · have h0n : 0 < l := by omega
      rw [show okT l ls true hf wh = true by unfold okT; rw [hd, decide_eq_true (by omega)]; rfl]
      clear hd
      go_enter Try.func41, Try.ntmps41
      go_wp2_with (first | (go_at_call 24; go_in) | (go_at_call 58; go_in))
      go_ret
      exact ⟨rfl, b0⟩
    · have h0n : ¬ 0 < l := by omega
      rw [show okT l ls true hf wh = false by unfold okT; rw [hd, decide_eq_false (by omega)]; rfl]
      clear hd
      go_enter Try.func41, Try.ntmps41
      go_wp2_with (first | (go_at_call 24; go_in) | (go_at_call 58; go_in))
      go_ret
      exact ⟨rfl, b0⟩

set_option maxRecDepth 20000 in
set_option maxHeartbeats 4000000 in
theorem implRtuOk_any (a : Option Addr) (l c : Nat) (ls : Int) (bd : Bool) (hf wh : Int) (w : World) (hl : l ≤ 2000000) (b : Bool) (hb : okT l ls bd hf wh = b) :
    Calls Try.prog 91 #[rt a l c ls bd hf wh] w fun e w' => e = .returned (.bool b) ∧ Below w.heap.size w w' := by
  have b0 := bel_alloc w (.cells #[.slice a l c, .int .i64 ls, .bool bd, .int .i64 hf, .int .i64 wh] 24)
  subst hb
  by_cases h0 : l = 0
  · subst h0
    cases bd
    case true =>
      rw [show okT 0 ls true hf wh = false by unfold okT; simp]
      go_enter Try.func91, Try.ntmps91
      go_wp2_with (first | (go_at_call 93; go_in) | (go_at_call 56; go_in))
      go_ret
      exact ⟨rfl, b0⟩
    by_cases t_ls1 : 0 ≤ ls
    case neg =>
      rw [show okT 0 ls _ hf wh = false by unfold okT; rw [decide_eq_false (by omega)]; rfl]
      go_enter Try.func91, Try.ntmps91
      go_wp2_with (first | (go_at_call 93; go_in) | (go_at_call 56; go_in))
      go_ret
      exact ⟨rfl, b0⟩
    by_cases t_ls2 : ls ≤ 4294967295
    case neg =>
      rw [show okT 0 ls _ hf wh = false by unfold okT; rw [decide_eq_false (by omega)]; rfl]
      go_enter Try.func91, Try.ntmps91
      go_wp2_with (first | (go_at_call 93; go_in) | (go_at_call 56; go_in))
      go_ret
      exact ⟨rfl, b0⟩
    by_cases t_hf1 : 1 ≤ hf
    case neg =>
      rw [show okT 0 ls _ hf wh = false by unfold okT; rw [decide_eq_false (by omega)]; rfl]
      go_enter Try.func91, Try.ntmps91
      go_wp2_with (first | (go_at_call 93; go_in) | (go_at_call 56; go_in))
      go_ret
      exact ⟨rfl, b0⟩
    by_cases t_wh1 : hf ≤ wh
    case neg =>
      rw [show okT 0 ls _ hf wh = false by unfold okT; rw [decide_eq_false (by omega)]; rfl]
      go_enter Try.func91, Try.ntmps91
      go_wp2_with (first | (go_at_call 93; go_in) | (go_at_call 56; go_in))
      go_ret
      exact ⟨rfl, b0⟩
    by_cases t_wh2 : wh ≤ 1000
    case neg =>
      rw [show okT 0 ls _ hf wh = false by unfold okT; rw [decide_eq_false (by omega)]; rfl]
      go_enter Try.func91, Try.ntmps91
      go_wp2_with (first | (go_at_call 93; go_in) | (go_at_call 56; go_in))
      go_ret
      exact ⟨rfl, b0⟩
    rw [show okT 0 ls false hf wh = true by unfold okT; rw [decide_eq_true (by omega)]; rfl]
    go_enter Try.func91, Try.ntmps91
    go_wp2_with (first | (go_at_call 93; go_in) | (go_at_call 56; go_in))
    go_ret
    exact ⟨rfl, b0⟩
  · have h0i : ¬ (l : Int) = 0 := by omega
    by_cases t_len : (l : Int) ≤ 257
    case neg =>
      rw [show okT l ls _ hf wh = false by unfold okT; rw [decide_eq_false (by omega)]; rfl]
      go_enter Try.func91, Try.ntmps91
      go_wp2_with (first | (go_at_call 93; go_in) | (go_at_call 56; go_in))
      go_ret
      exact ⟨rfl, b0⟩
    by_cases t_ls1 : 0 ≤ ls
    case neg =>
      rw [show okT l ls _ hf wh = false by unfold okT; rw [decide_eq_false (by omega)]; rfl]
      go_enter Try.func91, Try.ntmps91
      go_wp2_with (first | (go_at_call 93; go_in) | (go_at_call 56; go_in))
      go_ret
      exact ⟨rfl, b0⟩
    by_cases t_ls2 : ls ≤ 4294967295
    case neg =>
      rw [show okT l ls _ hf wh = false by unfold okT; rw [decide_eq_false (by omega)]; rfl]
      go_enter Try.func91, Try.ntmps91
      go_wp2_with (first | (go_at_call 93; go_in) | (go_at_call 56; go_in))
      go_ret
      exact ⟨rfl, b0⟩
    by_cases t_hf1 : 1 ≤ hf
    case neg =>
      rw [show okT l ls _ hf wh = false by unfold okT; rw [decide_eq_false (by omega)]; rfl]
      go_enter Try.func91, Try.ntmps91
      go_wp2_with (first | (go_at_call 93; go_in) | (go_at_call 56; go_in))
      go_ret
      exact ⟨rfl, b0⟩
    by_cases t_wh1 : hf ≤ wh
    case neg =>
      rw [show okT l ls _ hf wh = false by unfold okT; rw [decide_eq_false (by omega)]; rfl]
      go_enter Try.func91, Try.ntmps91
      go_wp2_with (first | (go_at_call 93; go_in) | (go_at_call 56; go_in))
      go_ret
      exact ⟨rfl, b0⟩
    by_cases t_wh2 : wh ≤ 1000
    case neg =>
      rw [show okT l ls _ hf wh = false by unfold okT; rw [decide_eq_false (by omega)]; rfl]
      go_enter Try.func91, Try.ntmps91
      go_wp2_with (first | (go_at_call 93; go_in) | (go_at_call 56; go_in))
      go_ret
      exact ⟨rfl, b0⟩
    rw [show okT l ls bd hf wh = true by unfold okT; rw [decide_eq_true (by omega), decide_eq_true (show 0 < l by omega)]; cases bd <;> rfl]
    go_enter Try.func91, Try.ntmps91
    go_wp2_with (first | (go_at_call 93; go_in) | (go_at_call 56; go_in))
    go_ret
    exact ⟨rfl, b0⟩

set_option maxRecDepth 20000 in
set_option maxHeartbeats 4000000 in
theorem specRtuNew_any (hf wh : Int) (w : World) :
    Calls Try.prog 25 #[.int .i64 hf, .int .i64 wh] w fun e w' => e = .returned (rt none 0 0 0 false (if okSl hf wh = true then hf else 0) (if okSl hf wh = true then wh else 0)) ∧ Below w.heap.size w w' := by
  by_cases t_hf1 : 1 ≤ hf
  case neg =>
    rw [show okSl hf wh = false by unfold okSl; exact decide_eq_false (by omega)]
    simp only [Bool.false_eq_true, if_false]
    go_enter Try.func25, Try.ntmps25
    go_wp2_with (first | (go_at_call 24; go_in) | (go_at_call 58; go_in))
    refine bodyPost_ret (v := rt none 0 0 0 false 0 0) (by simp [results, Try.results25, go_sem]) rfl ?_
    exact ⟨rfl, bel_alloc _ _⟩
  by_cases t_hf2 : hf ≤ 1000
  case neg =>
    rw [show okSl hf wh = false by unfold okSl; exact decide_eq_false (by omega)]
    simp only [Bool.false_eq_true, if_false]
    go_enter Try.func25, Try.ntmps25
    go_wp2_with (first | (go_at_call 24; go_in) | (go_at_call 58; go_in))
    refine bodyPost_ret (v := rt none 0 0 0 false 0 0) (by simp [results, Try.results25, go_sem]) rfl ?_
    exact ⟨rfl, bel_alloc _ _⟩
  by_cases t_wh1 : hf ≤ wh
  case neg =>
    rw [show okSl hf wh = false by unfold okSl; exact decide_eq_false (by omega)]
    simp only [Bool.false_eq_true, if_false]
    go_enter Try.func25, Try.ntmps25
    go_wp2_with (first | (go_at_call 24; go_in) | (go_at_call 58; go_in))
    refine bodyPost_ret (v := rt none 0 0 0 false 0 0) (by simp [results, Try.results25, go_sem]) rfl ?_
    exact ⟨rfl, bel_alloc _ _⟩
  by_cases t_wh2 : wh ≤ 1000
  case neg =>
    rw [show okSl hf wh = false by unfold okSl; exact decide_eq_false (by omega)]
    simp only [Bool.false_eq_true, if_false]
    go_enter Try.func25, Try.ntmps25
    go_wp2_with (first | (go_at_call 24; go_in) | (go_at_call 58; go_in))
    refine bodyPost_ret (v := rt none 0 0 0 false 0 0) (by simp [results, Try.results25, go_sem]) rfl ?_
    exact ⟨rfl, bel_alloc _ _⟩
  rw [show okSl hf wh = true by unfold okSl; exact decide_eq_true (by omega)]
  simp only [if_true]
  go_enter Try.func25, Try.ntmps25
  go_wp2_with (first | (go_at_call 24; go_in) | (go_at_call 58; go_in))
  refine bodyPost_ret (v := rt none 0 0 0 false hf wh) (by simp [results, Try.results25, go_sem]) rfl ?_
  exact ⟨rfl, bel_alloc _ _⟩

set_option maxRecDepth 20000 in
set_option maxHeartbeats 4000000 in
theorem implRtuNew_any (hf wh : Int) (w : World) :
    Calls Try.prog 27 #[.int .i64 hf, .int .i64 wh] w fun e w' => e = .returned (rt none 0 0 0 false (if okSl hf wh = true then hf else 0) (if okSl hf wh = true then wh else 0)) ∧ Below w.heap.size w w' := by
  by_cases t_hf1 : 1 ≤ hf
  case neg =>
    rw [show okSl hf wh = false by unfold okSl; exact decide_eq_false (by omega)]
    simp only [Bool.false_eq_true, if_false]
    go_enter Try.func27, Try.ntmps27
    go_wp2_with (first | (go_at_call 93; go_in) | (go_at_call 56; go_in))
    refine bodyPost_ret (v := rt none 0 0 0 false 0 0) (by simp [results, Try.results27, go_sem]) rfl ?_
    exact ⟨rfl, bel_alloc _ _⟩
  by_cases t_wh1 : hf ≤ wh
  case neg =>
    rw [show okSl hf wh = false by unfold okSl; exact decide_eq_false (by omega)]
    simp only [Bool.false_eq_true, if_false]
    go_enter Try.func27, Try.ntmps27
    go_wp2_with (first | (go_at_call 93; go_in) | (go_at_call 56; go_in))
    refine bodyPost_ret (v := rt none 0 0 0 false 0 0) (by simp [results, Try.results27, go_sem]) rfl ?_
    exact ⟨rfl, bel_alloc _ _⟩
  by_cases t_wh2 : wh ≤ 1000
  case neg =>
    rw [show okSl hf wh = false by unfold okSl; exact decide_eq_false (by omega)]
    simp only [Bool.false_eq_true, if_false]
    go_enter Try.func27, Try.ntmps27
    go_wp2_with (first | (go_at_call 93; go_in) | (go_at_call 56; go_in))
    refine bodyPost_ret (v := rt none 0 0 0 false 0 0) (by simp [results, Try.results27, go_sem]) rfl ?_
    exact ⟨rfl, bel_alloc _ _⟩
  rw [show okSl hf wh = true by unfold okSl; exact decide_eq_true (by omega)]
  simp only [if_true]
  go_enter Try.func27, Try.ntmps27
  go_wp2_with (first | (go_at_call 93; go_in) | (go_at_call 56; go_in))
  refine bodyPost_ret (v := rt none 0 0 0 false hf wh) (by simp [results, Try.results27, go_sem]) rfl ?_
  exact ⟨rfl, bel_alloc _ _⟩

theorem grown_trT {w w1 w2 : World} {row : Option Nat} (h1 : w.grownBy w1 row) (h2 : w1.grownBy w2 row) : w.grownBy w2 row :=
  ⟨h2.os.trans h1.os, h2.tape.trans h1.tape, h2.output.trans h1.output, Nat.le_trans h1.size h2.size, fun k hk hne => (h2.block k (Nat.lt_of_lt_of_le hk h1.size) hne).trans (h1.block k hk hne)⟩

set_option maxHeartbeats 1000000 in
theorem markRtu_sv (sv : Int) (a : Option Addr) (l c base s : Nat) (ls : Int) (bd : Bool) (hf wh : Int) (zs : List Int) (w : World) (hsv : sv = (s : Int)) (h : Own w base (.slice a l c) zs) (hl : l ≤ 3000000) (hs' : s ≤ 9000000) :
    Calls Try.prog 32 #[rt a l c ls bd hf wh, .int .i64 sv] w fun e w' => e = .returned (.int .i64 (sv + (l : Int))) ∧ Own w' base (.slice a l c) (marksF s l) ∧ w.grownBy w' (Value.slice a l c).ownBlock := by
  subst hsv
  have HO : Hid (Own (w.alloc (.cells #[.slice a l c, .int .i64 ls, .bool bd, .int .i64 hf, .int .i64 wh] 24)) base (.slice a l c) zs) := h.below (bel_alloc _ _)
  have HG : Hid (w.grownBy (w.alloc (.cells #[.slice a l c, .int .i64 ls, .bool bd, .int .i64 hf, .int .i64 wh] 24)) (Value.slice a l c).ownBlock) := World.grownBy_alloc w _ _
  clear h
  go_enter Try.func32, Try.ntmps32
  go_wp2_with fail
  refine (markByteS_from a l c base s zs _ HO.out hl hs').mono ?_
  rintro e w1 ⟨rfl, o1, g1⟩
  have R : Hid (Own w1 base (.slice a l c) (marksF s l) ∧ w.grownBy w1 (Value.slice a l c).ownBlock) := ⟨o1, grown_trT HG.out g1⟩
  clear o1 g1
  go_wp2
  go_ret
  exact ⟨rfl, R.out⟩

set_option maxHeartbeats 1000000 in
theorem heldRtu_sv (sv : Int) (a : Option Addr) (l c s : Nat) (ls : Int) (bd : Bool) (hf wh : Int) (w : World) (hsv : sv = (s : Int)) (h : Sl w a (marksF s l)) (hl : l ≤ 3000000) (hs' : s ≤ 9000000) :
    Calls Try.prog 35 #[rt a l c ls bd hf wh, .int .i64 sv] w fun e w' => e = .returned (.int .i64 (sv + (l : Int))) ∧ Below w.heap.size w w' := by
  subst hsv
  have HS : Hid (Sl (w.alloc (.cells #[.slice a l c, .int .i64 ls, .bool bd, .int .i64 hf, .int .i64 wh] 24)) a (marksF s l)) := h.below (bel_alloc _ _)
  have HB := bel_alloc w (.cells #[.slice a l c, .int .i64 ls, .bool bd, .int .i64 hf, .int .i64 wh] 24)
  have f0 : ¬ ((s : Int) + (l : Int) < 0) := by omega
  clear h
  go_enter Try.func35, Try.ntmps35
  go_wp2_with fail
  refine (heldByteS_from a l c s _ HS.out hl hs').mono ?_
  rintro e w1 ⟨rfl, e1⟩
  subst e1
  go_wp2
  go_ret
  exact ⟨rfl, HB⟩

end Go.Proofs.Ytimgohnnapaafaa
