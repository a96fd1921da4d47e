/- Listeners of frames in digits: what the laws' own helpers do with one; which are right; a new one. -/
import Derived.Test.YtimgohnnapaafaaRtu1
namespace Go.Proofs.Ytimgohnnapaafaa
open Go.RowKit

set_option linter.unusedVariables false

set_option linter.unusedSimpArgs false

/-- A listener as a value. -/
abbrev sc (a : Option Addr) (l c : Nat) (op : Bool) (ls wt : Int) : Value := .agg #[.slice a l c, .bool op, .int .i64 ls, .int .i64 wt]

theorem Blk.four {w : World} {g : Nat} {t : TypeId} {v0 v1 v2 v3 : Value} (h : Blk w g t #[v0, v1, v2, v3]) : w.cell? ⟨g, 0, none⟩ = some v0 ∧ w.cell? ⟨g, 1, none⟩ = some v1 ∧ w.cell? ⟨g, 2, none⟩ = some v2 ∧ w.cell? ⟨g, 3, none⟩ = some v3 :=
  ⟨h.cell 0 rfl, h.cell 1 rfl, h.cell 2 rfl, h.cell 3 rfl⟩

set_option maxHeartbeats 2000000 in
theorem szAscii_fits (a : Option Addr) (l c : Nat) (op : Bool) (ls wt : Int) (w : World) (h : l ≤ 1048576) :
    Calls Try.prog 39 #[sc a l c op ls wt, .int .i64 1048576] w fun e w' => e = .returned (.int .i64 (1048576 - (l : Int))) ∧ Below w.heap.size w w' := by
  have h' : ¬ (1048576 - (l : Int) < 0) := by omega
  go_enter Try.func39, Try.ntmps39
  go_wp2_with (go_at_call 51; go_in)
  go_ret
  exact ⟨rfl, bel_alloc _ _⟩

set_option maxHeartbeats 2000000 in
theorem szAscii_big (a : Option Addr) (l c : Nat) (op : Bool) (ls wt : Int) (w : World) (hm : l ≤ maxLen) (h : ¬ l ≤ 1048576) :
    Calls Try.prog 39 #[sc a l c op ls wt, .int .i64 1048576] w fun e w' => e = .returned (.int .i64 (-1)) ∧ Below w.heap.size w w' := by
  unfold maxLen at hm
  have h' : (1048576 - (l : Int) < 0) := by omega
  go_enter Try.func39, Try.ntmps39
  go_wp2_with (go_at_call 51; go_in)
  go_ret
  exact ⟨rfl, bel_alloc _ _⟩

set_option maxRecDepth 20000 in
set_option maxHeartbeats 4000000 in
theorem toAscii_any (a : Option Addr) (l c : Nat) (op : Bool) (ls wt : Int) (zs : List Int) (w : World) (hn : l = zs.length) (hs : Sl w a zs) (hl : zs.length ≤ 2000000) :
    Calls Try.prog 48 #[sc a l c op ls wt] w fun e w' => ∃ g, e = .returned (sc (some ⟨g, 0, none⟩) l l op ls wt) ∧ Own w' w.heap.size (.slice (some ⟨g, 0, none⟩) l l) zs ∧ Below w.heap.size w w' := by
  have HN : Hid (l = zs.length) := hn
  obtain ⟨W0, hW0'⟩ : ∃ W0, W0 = ((w.alloc (.cells #[.slice a l c, .bool op, .int .i64 ls, .int .i64 wt] 36)).alloc (.cells #[.slice none 0 0, .bool false, .int .i64 0, .int .i64 0] 26)).alloc (.cells #[.slice none 0 0, .bool false, .int .i64 0, .int .i64 0] 26) := ⟨_, rfl⟩
  have hW0 : Hid (W0 = _) := hW0'
  have hz : W0.heap.size = w.heap.size + 1 + 1 + 1 := by rw [hW0']; simp
  have B0 : Below w.heap.size w W0 := by rw [hW0']; exact bel_next (bel_next (bel_alloc w _) (bel_alloc _ _)) (bel_alloc _ _)
  have A0 : Blk W0 w.heap.size 36 #[.slice a l c, .bool op, .int .i64 ls, .int .i64 wt] := by rw [hW0']; exact ((Blk.new w _ _).below (bel_alloc _ _)).below (bel_alloc _ _)
  have R0 : Blk W0 (w.heap.size + 1) 26 #[.slice none 0 0, .bool false, .int .i64 0, .int .i64 0] := by
    rw [hW0']; have := (Blk.new (w.alloc (.cells #[.slice a l c, .bool op, .int .i64 ls, .int .i64 wt] 36)) #[.slice none 0 0, .bool false, .int .i64 0, .int .i64 0] 26).below (bel_alloc _ (.cells #[.slice none 0 0, .bool false, .int .i64 0, .int .i64 0] 26)); simpa using this
  have O0 : Blk W0 (w.heap.size + 1 + 1) 26 #[.slice none 0 0, .bool false, .int .i64 0, .int .i64 0] := by
    rw [hW0']; have := Blk.new ((w.alloc (.cells #[.slice a l c, .bool op, .int .i64 ls, .int .i64 wt] 36)).alloc (.cells #[.slice none 0 0, .bool false, .int .i64 0, .int .i64 0] 26)) #[.slice none 0 0, .bool false, .int .i64 0, .int .i64 0] 26; simpa using this
  have S1 : Hid (Sl W0 a zs) := hs.below B0
  clear hn hs hW0'
  go_enter Try.func48, Try.ntmps48
  go_wp2_with fail
  rw [← hW0.out]
  refine (toByteS_t a l c zs _ HN.out S1.out hl).mono ?_
  rintro e w1 ⟨g, rfl, i1, b1'⟩
  have b1 := bel_next B0 b1'
  have A1 := A0.below b1'
  have R1 := R0.below b1'
  have O1 := O0.below b1'
  obtain ⟨x0, x1, x2, x3⟩ := A1.four
  obtain ⟨r0, r1, r2, r3⟩ := R1.four
  obtain ⟨o0, o1, o2, o3⟩ := O1.four
  have fo := O1.fro
  have fr := R1.fro
  have eO : ExB w1 (w.heap.size + 1 + 1) 26 := ⟨_, O1⟩
  have eR : ExB w1 (w.heap.size + 1) 26 := ⟨_, R1⟩
  have HJ : Hid (Own w1 W0.heap.size (.slice (some ⟨g, 0, none⟩) l l) zs ∧ Below w.heap.size w w1 ∧ ExB w1 (w.heap.size + 1 + 1) 26 ∧ ExB w1 (w.heap.size + 1) 26) := ⟨i1, b1, eO, eR⟩
  have hz0 : w.heap.size ≤ W0.heap.size := by omega
  clear b1' B0 A0 R0 O0 A1 R1 O1 i1 b1 eO eR
  go_wp2
  refine bodyPost_ret (v := sc (some ⟨g, 0, none⟩) l l op ls wt) (by simp [results, Try.results48, go_sem, r0, r1, r2, r3]) rfl ?_
  obtain ⟨j3, b3, eO, eR⟩ := HJ.out
  exact ⟨g, rfl, Own.monoT (show Own _ _ _ _ from (row_setE (row_setE (row_setE (row_setE (row_setE (row_setE (row_setE (row_setE j3 eO (by decide)) (ExB.set eO) (by decide)) (ExB.set (ExB.set eO)) (by decide)) (ExB.set (ExB.set (ExB.set eO))) (by decide)) (ExB.set (ExB.set (ExB.set (ExB.set eR)))) (by decide)) (ExB.set (ExB.set (ExB.set (ExB.set (ExB.set eR))))) (by decide)) (ExB.set (ExB.set (ExB.set (ExB.set (ExB.set (ExB.set eR)))))) (by decide)) (ExB.set (ExB.set (ExB.set (ExB.set (ExB.set (ExB.set (ExB.set eR))))))) (by decide))) hz0, ((((((((b3.setCell (p := ⟨w.heap.size + 1 + 1, 0, none⟩) (by show w.heap.size ≤ w.heap.size + 1 + 1; omega) _).setCell (p := ⟨w.heap.size + 1 + 1, 1, none⟩) (by show w.heap.size ≤ w.heap.size + 1 + 1; omega) _).setCell (p := ⟨w.heap.size + 1 + 1, 2, none⟩) (by show w.heap.size ≤ w.heap.size + 1 + 1; omega) _).setCell (p := ⟨w.heap.size + 1 + 1, 3, none⟩) (by show w.heap.size ≤ w.heap.size + 1 + 1; omega) _).setCell (p := ⟨w.heap.size + 1, 0, none⟩) (by show w.heap.size ≤ w.heap.size + 1; omega) _).setCell (p := ⟨w.heap.size + 1, 1, none⟩) (by show w.heap.size ≤ w.heap.size + 1; omega) _).setCell (p := ⟨w.heap.size + 1, 2, none⟩) (by show w.heap.size ≤ w.heap.size + 1; omega) _).setCell (p := ⟨w.heap.size + 1, 3, none⟩) (by show w.heap.size ≤ w.heap.size + 1; omega) _)⟩

set_option maxRecDepth 20000 in
set_option maxHeartbeats 4000000 in
theorem eqAscii_true (a a' : Option Addr) (l l' c c' : Nat) (op : Bool) (ls wt : Int) (zs : List Int) (w : World) (hn : l = zs.length) (hn' : l' = zs.length) (hs : Sl w a zs) (hs' : Sl w a' zs) (hl : zs.length ≤ 2000000) :
    Calls Try.prog 30 #[sc a l c op ls wt, sc a' l' c' op ls wt] w fun e w' => e = .returned (.bool true) ∧ Below w.heap.size w w' := by
  have HN : Hid (l = zs.length ∧ l' = zs.length) := ⟨hn, hn'⟩
  obtain ⟨W0, hW0'⟩ : ∃ W0, W0 = (w.alloc (.cells #[.slice a l c, .bool op, .int .i64 ls, .int .i64 wt] 26)).alloc (.cells #[.slice a' l' c', .bool op, .int .i64 ls, .int .i64 wt] 26) := ⟨_, rfl⟩
  have hW0 : Hid (W0 = _) := hW0'
  have B0 : Below w.heap.size w W0 := by rw [hW0']; exact bel_next (bel_alloc w _) (bel_alloc _ _)
  have X0 : Blk W0 w.heap.size 26 #[.slice a l c, .bool op, .int .i64 ls, .int .i64 wt] := by rw [hW0']; exact (Blk.new w _ _).below (bel_alloc _ _)
  have Y0 : Blk W0 (w.heap.size + 1) 26 #[.slice a' l' c', .bool op, .int .i64 ls, .int .i64 wt] := by
    rw [hW0']; have := Blk.new (w.alloc (.cells #[.slice a l c, .bool op, .int .i64 ls, .int .i64 wt] 26)) #[.slice a' l' c', .bool op, .int .i64 ls, .int .i64 wt] 26; simpa using this
  have HS : Hid (Sl W0 a zs ∧ Sl W0 a' zs) := ⟨hs.below B0, hs'.below B0⟩
  clear hn hn' hs hs' hW0'
  go_enter Try.func30, Try.ntmps30
  go_wp2_with fail
  rw [← hW0.out]
  refine (eqByteS_t _ _ _ _ _ _ zs _ HN.out.1 HN.out.2 HS.out.1 HS.out.2 hl).mono ?_
  rintro e w1 ⟨rfl, b1'⟩
  have b1 := bel_next B0 b1'
  obtain ⟨x0, x1, x2, x3⟩ := (X0.below b1').four
  obtain ⟨y0, y1, y2, y3⟩ := (Y0.below b1').four
  clear b1' B0 X0 Y0 x0 y0
  cases op
  all_goals (
    go_wp2
    go_ret
    exact ⟨rfl, b1⟩)

/-- A listener is right. -/
def okAk (zs : List Int) (op : Bool) (ls wt : Int) : Bool := decide (1 ≤ wt ∧ wt ≤ 1000 ∧ zs.length ≤ 600 ∧ 0 ≤ ls ∧ ls ≤ 4294967295) && ((op == decide (0 < zs.length)) && (!op || decide (zs.getD 0 0 = 58)))

theorem okAk_no {zs : List Int} {op : Bool} {ls wt : Int} (h : ¬ (1 ≤ wt ∧ wt ≤ 1000 ∧ zs.length ≤ 600 ∧ 0 ≤ ls ∧ ls ≤ 4294967295)) : okAk zs op ls wt = false := by unfold okAk; rw [decide_eq_false h]; rfl

theorem okAk_tt0 {zs : List Int} {ls wt : Int} (h : ¬ 0 < zs.length) : okAk zs true ls wt = false := by unfold okAk; rw [decide_eq_false h]; simp

theorem okAk_ff1 {zs : List Int} {ls wt : Int} (h : 0 < zs.length) : okAk zs false ls wt = false := by unfold okAk; rw [decide_eq_true h]; simp

theorem okAk_tt1 {zs : List Int} {ls wt : Int} (h : ¬ zs.getD 0 0 = 58) : okAk zs true ls wt = false := by unfold okAk; rw [decide_eq_false h]; simp

theorem okAk_ff {zs : List Int} {ls wt : Int} (h : 1 ≤ wt ∧ wt ≤ 1000 ∧ zs.length ≤ 600 ∧ 0 ≤ ls ∧ ls ≤ 4294967295) (h0 : ¬ 0 < zs.length) : okAk zs false ls wt = true := by unfold okAk; rw [decide_eq_true h, decide_eq_false h0]; rfl

theorem okAk_tt {zs : List Int} {ls wt : Int} (h : 1 ≤ wt ∧ wt ≤ 1000 ∧ zs.length ≤ 600 ∧ 0 ≤ ls ∧ ls ≤ 4294967295) (h0 : 0 < zs.length) (h1 : zs.getD 0 0 = 58) : okAk zs true ls wt = true := by unfold okAk; rw [decide_eq_true h, decide_eq_true h0, decide_eq_true h1]; rfl

set_option maxRecDepth 20000 in
set_option maxHeartbeats 4000000 in
theorem specAsciiOk_any (a : Option Addr) (l c : Nat) (op : Bool) (ls wt : Int) (zs : List Int) (w : World) (hn : l = zs.length) (hs : Sl w a zs) (hl : l ≤ 2000000) (b : Bool) (hb : okAk zs op ls wt = b) :
    Calls Try.prog 45 #[sc a l c op ls wt] w fun e w' => e = .returned (.bool b) ∧ Below w.heap.size w w' := by
  have b0 := bel_alloc w (.cells #[.slice a l c, .bool op, .int .i64 ls, .int .i64 wt] 26)
  subst hb
  by_cases t_wt1 : 1 ≤ wt
  case neg =>
    rw [okAk_no (by omega)]
    clear hs hn
    go_enter Try.func45, Try.ntmps45
    go_wp2_with (first | (go_at_call 24; go_in) | (go_at_call 58; go_in))
    go_ret
    exact ⟨rfl, b0⟩
  by_cases t_wt2 : wt ≤ 1000
  case neg =>
    rw [okAk_no (by omega)]
    clear hs hn
    go_enter Try.func45, Try.ntmps45
    go_wp2_with (first | (go_at_call 24; go_in) | (go_at_call 58; go_in))
    go_ret
    exact ⟨rfl, b0⟩
  by_cases t_len : (l : Int) ≤ 600
  case neg =>
    rw [okAk_no (by omega)]
    clear hs hn
    go_enter Try.func45, Try.ntmps45
    go_wp2_with (first | (go_at_call 24; go_in) | (go_at_call 58; go_in))
    go_ret
    exact ⟨rfl, b0⟩
  by_cases t_ls1 : 0 ≤ ls
  case neg =>
    rw [okAk_no (by omega)]
    clear hs hn
    go_enter Try.func45, Try.ntmps45
    go_wp2_with (first | (go_at_call 24; go_in) | (go_at_call 58; go_in))
    go_ret
    exact ⟨rfl, b0⟩
  by_cases t_ls2 : ls ≤ 4294967295
  case neg =>
    rw [okAk_no (by omega)]
    clear hs hn
    go_enter Try.func45, Try.ntmps45
    go_wp2_with (first | (go_at_call 24; go_in) | (go_at_call 58; go_in))
    go_ret
    exact ⟨rfl, b0⟩
  by_cases h0 : l = 0
  · have h0n : ¬ 0 < zs.length := by omega
    subst h0
    cases op
    case true =>
      rw [okAk_tt0 h0n]
      clear hs hn
      go_enter Try.func45, Try.ntmps45
      go_wp2_with (first | (go_at_call 24; go_in) | (go_at_call 58; go_in))
      go_ret
      exact ⟨rfl, b0⟩
    rw [okAk_ff (by omega) h0n]
    clear hs hn
    go_enter Try.func45, Try.ntmps45
    go_wp2_with (first | (go_at_call 24; go_in) | (go_at_call 58; go_in))
    go_ret
    exact ⟨rfl, b0⟩
  · have h0c : ¬ (l : Int) = 0 := by omega
    have h0p : (0 : Int) < (l : Int) := by omega
    cases op
    case false =>
      rw [okAk_ff1 (by omega)]
      clear hs hn
      go_enter Try.func45, Try.ntmps45
      go_wp2_with (first | (go_at_call 24; go_in) | (go_at_call 58; go_in))
      go_ret
      exact ⟨rfl, b0⟩
    have h0n : 0 < zs.length := by omega
    have h0i : 0 < (l : Int) := by omega
    have h0l : 0 < l := by omega
    obtain ⟨b, off, rfl, hbl, hc⟩ := cell_at hs (k := 0) h0n
    rw [Nat.add_zero] at hc
    by_cases h58 : zs.getD 0 0 = 58
    case neg =>
      rw [okAk_tt1 h58]
      have h58b : (zs.getD 0 0 == 58) = false := by simpa using h58
      have h58n : (zs.getD 0 0 != 58) = true := by simpa using h58
      generalize zs.getD 0 0 = z at *
      clear hs hn h0n
      go_enter Try.func45, Try.ntmps45
      go_wp2_with (first | (go_at_call 24; go_in) | (go_at_call 58; go_in))
      go_ret
      exact ⟨rfl, b0⟩
    have h58b : (zs.getD 0 0 == 58) = true := by simpa using h58
    have h58n : (zs.getD 0 0 != 58) = false := by simpa using h58
    rw [okAk_tt (by omega) h0n h58]
    clear h58
    generalize zs.getD 0 0 = z at *
    clear hs hn h0n
    go_enter Try.func45, Try.ntmps45
    go_wp2_with (first | (go_at_call 24; go_in) | (go_at_call 58; go_in))
    go_ret
    exact ⟨rfl, b0⟩

set_option maxRecDepth 20000 in
set_option maxHeartbeats 4000000 in
theorem implAsciiOk_any (a : Option Addr) (l c : Nat) (op : Bool) (ls wt : Int) (zs : List Int) (w : World) (hn : l = zs.length) (hs : Sl w a zs) (hl : l ≤ 2000000) (b : Bool) (hb : okAk zs op ls wt = b) :
    Calls Try.prog 101 #[sc a l c op ls wt] w fun e w' => e = .returned (.bool b) ∧ Below w.heap.size w w' := by
  have b0 := bel_alloc w (.cells #[.slice a l c, .bool op, .int .i64 ls, .int .i64 wt] 26)
  subst hb
  by_cases h0 : l = 0
  · have h0n : ¬ 0 < zs.length := by omega
    subst h0
    cases op
    case true =>
      rw [okAk_tt0 h0n]
      clear hs hn
      go_enter Try.func101, Try.ntmps101
      go_wp2_with (first | (go_at_call 93; go_in) | (go_at_call 57; go_in) | (go_at_call 65; go_in))
      go_ret
      exact ⟨rfl, b0⟩
    by_cases t_ls1 : 0 ≤ ls
    case neg =>
      rw [okAk_no (by omega)]
      clear hs hn
      go_enter Try.func101, Try.ntmps101
      go_wp2_with (first | (go_at_call 93; go_in) | (go_at_call 57; go_in) | (go_at_call 65; go_in))
      go_ret
      exact ⟨rfl, b0⟩
    by_cases t_ls2 : ls ≤ 4294967295
    case neg =>
      rw [okAk_no (by omega)]
      clear hs hn
      go_enter Try.func101, Try.ntmps101
      go_wp2_with (first | (go_at_call 93; go_in) | (go_at_call 57; go_in) | (go_at_call 65; go_in))
      go_ret
      exact ⟨rfl, b0⟩
    by_cases t_wt1 : 1 ≤ wt
    case neg =>
      rw [okAk_no (by omega)]
      clear hs hn
      go_enter Try.func101, Try.ntmps101
      go_wp2_with (first | (go_at_call 93; go_in) | (go_at_call 57; go_in) | (go_at_call 65; go_in))
      go_ret
      exact ⟨rfl, b0⟩
    by_cases t_wt2 : wt ≤ 1000
    case neg =>
      rw [okAk_no (by omega)]
      clear hs hn
      go_enter Try.func101, Try.ntmps101
      go_wp2_with (first | (go_at_call 93; go_in) | (go_at_call 57; go_in) | (go_at_call 65; go_in))
      go_ret
      exact ⟨rfl, b0⟩
    rw [okAk_ff (by omega) h0n]
    clear hs hn
    go_enter Try.func101, Try.ntmps101
    go_wp2_with (first | (go_at_call 93; go_in) | (go_at_call 57; go_in) | (go_at_call 65; go_in))
    go_ret
    exact ⟨rfl, b0⟩
  · have h0c : ¬ (l : Int) = 0 := by omega
    have h0p : (0 : Int) < (l : Int) := by omega
    cases op
    case false =>
      rw [okAk_ff1 (by omega)]
      clear hs hn
      go_enter Try.func101, Try.ntmps101
      go_wp2_with (first | (go_at_call 93; go_in) | (go_at_call 57; go_in) | (go_at_call 65; go_in))
      go_ret
      exact ⟨rfl, b0⟩
    have h0n : 0 < zs.length := by omega
    have h0i : 0 < (l : Int) := by omega
    have h0l : 0 < l := by omega
    obtain ⟨b, off, rfl, hbl, hc⟩ := cell_at hs (k := 0) h0n
    rw [Nat.add_zero] at hc
    by_cases h58 : zs.getD 0 0 = 58
    case neg =>
      rw [okAk_tt1 h58]
      have h58b : (zs.getD 0 0 == 58) = false := by simpa using h58
      have h58n : (zs.getD 0 0 != 58) = true := by simpa using h58
      generalize zs.getD 0 0 = z at *
      clear hs hn h0n
      go_enter Try.func101, Try.ntmps101
      go_wp2_with (first | (go_at_call 93; go_in) | (go_at_call 57; go_in) | (go_at_call 65; go_in))
      go_ret
      exact ⟨rfl, b0⟩
    have h58b : (zs.getD 0 0 == 58) = true := by simpa using h58
    have h58n : (zs.getD 0 0 != 58) = false := by simpa using h58
    by_cases t_len : (l : Int) ≤ 600
    case neg =>
      rw [okAk_no (by omega)]
      clear h58
      generalize zs.getD 0 0 = z at *
      clear hs hn h0n
      go_enter Try.func101, Try.ntmps101
      go_wp2_with (first | (go_at_call 93; go_in) | (go_at_call 57; go_in) | (go_at_call 65; go_in))
      go_ret
      exact ⟨rfl, b0⟩
    by_cases t_ls1 : 0 ≤ ls
    case neg =>
      rw [okAk_no (by omega)]
      clear h58
      generalize zs.getD 0 0 = z at *
      clear hs hn h0n
      go_enter Try.func101, Try.ntmps101
      go_wp2_with (first | (go_at_call 93; go_in) | (go_at_call 57; go_in) | (go_at_call 65; go_in))
      go_ret
      exact ⟨rfl, b0⟩
    by_cases t_ls2 : ls ≤ 4294967295
    case neg =>
      rw [okAk_no (by omega)]
      clear h58
      generalize zs.getD 0 0 = z at *
      clear hs hn h0n
      go_enter Try.func101, Try.ntmps101
      go_wp2_with (first | (go_at_call 93; go_in) | (go_at_call 57; go_in) | (go_at_call 65; go_in))
      go_ret
      exact ⟨rfl, b0⟩
    by_cases t_wt1 : 1 ≤ wt
    case neg =>
      rw [okAk_no (by omega)]
      clear h58
      generalize zs.getD 0 0 = z at *
      clear hs hn h0n
      go_enter Try.func101, Try.ntmps101
      go_wp2_with (first | (go_at_call 93; go_in) | (go_at_call 57; go_in) | (go_at_call 65; go_in))
      go_ret
      exact ⟨rfl, b0⟩
    by_cases t_wt2 : wt ≤ 1000
    case neg =>
      rw [okAk_no (by omega)]
      clear h58
      generalize zs.getD 0 0 = z at *
      clear hs hn h0n
      go_enter Try.func101, Try.ntmps101
      go_wp2_with (first | (go_at_call 93; go_in) | (go_at_call 57; go_in) | (go_at_call 65; go_in))
      go_ret
      exact ⟨rfl, b0⟩
    rw [okAk_tt (by omega) h0n h58]
    clear h58
    generalize zs.getD 0 0 = z at *
    clear hs hn h0n
    go_enter Try.func101, Try.ntmps101
    go_wp2_with (first | (go_at_call 93; go_in) | (go_at_call 57; go_in) | (go_at_call 65; go_in))
    go_ret
    exact ⟨rfl, b0⟩

set_option maxRecDepth 20000 in
set_option maxHeartbeats 4000000 in
theorem specAsciiNew_any (wt : Int) (w : World) :
    Calls Try.prog 26 #[.int .i64 wt] w fun e w' => e = .returned (sc none 0 0 false 0 (if 1 ≤ wt ∧ wt ≤ 1000 then wt else 0)) ∧ Below w.heap.size w w' := by
  by_cases t_wt1 : 1 ≤ wt
  case neg =>
    rw [if_neg (by omega)]
    go_enter Try.func26, Try.ntmps26
    go_wp2_with (first | (go_at_call 24; go_in) | (go_at_call 58; go_in))
    refine bodyPost_ret (v := sc none 0 0 false 0 0) (by simp [results, Try.results26, go_sem]) rfl ?_
    exact ⟨rfl, bel_alloc _ _⟩
  by_cases t_wt2 : wt ≤ 1000
  case neg =>
    rw [if_neg (by omega)]
    go_enter Try.func26, Try.ntmps26
    go_wp2_with (first | (go_at_call 24; go_in) | (go_at_call 58; go_in))
    refine bodyPost_ret (v := sc none 0 0 false 0 0) (by simp [results, Try.results26, go_sem]) rfl ?_
    exact ⟨rfl, bel_alloc _ _⟩
  rw [if_pos (by omega)]
  go_enter Try.func26, Try.ntmps26
  go_wp2_with (first | (go_at_call 24; go_in) | (go_at_call 58; go_in))
  refine bodyPost_ret (v := sc none 0 0 false 0 wt) (by simp [results, Try.results26, go_sem]) rfl ?_
  exact ⟨rfl, bel_alloc _ _⟩

set_option maxRecDepth 20000 in
set_option maxHeartbeats 4000000 in
theorem implAsciiNew_any (wt : Int) (w : World) :
    Calls Try.prog 28 #[.int .i64 wt] w fun e w' => e = .returned (sc none 0 0 false 0 (if 1 ≤ wt ∧ wt ≤ 1000 then wt else 0)) ∧ Below w.heap.size w w' := by
  by_cases t_wt1 : 1 ≤ wt
  case neg =>
    rw [if_neg (by omega)]
    go_enter Try.func28, Try.ntmps28
    go_wp2_with (first | (go_at_call 93; go_in) | (go_at_call 57; go_in) | (go_at_call 65; go_in))
    refine bodyPost_ret (v := sc none 0 0 false 0 0) (by simp [results, Try.results28, go_sem]) rfl ?_
    exact ⟨rfl, bel_alloc _ _⟩
  by_cases t_wt2 : wt ≤ 1000
  case neg =>
    rw [if_neg (by omega)]
    go_enter Try.func28, Try.ntmps28
    go_wp2_with (first | (go_at_call 93; go_in) | (go_at_call 57; go_in) | (go_at_call 65; go_in))
    refine bodyPost_ret (v := sc none 0 0 false 0 0) (by simp [results, Try.results28, go_sem]) rfl ?_
    exact ⟨rfl, bel_alloc _ _⟩
  rw [if_pos (by omega)]
  go_enter Try.func28, Try.ntmps28
  go_wp2_with (first | (go_at_call 93; go_in) | (go_at_call 57; go_in) | (go_at_call 65; go_in))
  refine bodyPost_ret (v := sc none 0 0 false 0 wt) (by simp [results, Try.results28, go_sem]) rfl ?_
  exact ⟨rfl, bel_alloc _ _⟩

set_option maxHeartbeats 1000000 in
theorem markAscii_sv (sv : Int) (a : Option Addr) (l c base s : Nat) (op : Bool) (ls wt : Int) (zs : List Int) (w : World) (hsv : sv = (s : Int)) (h : Own w base (.slice a l c) zs) (hl : l ≤ 3000000) (hs' : s ≤ 9000000) :
    Calls Try.prog 33 #[sc a l c op ls wt, .int .i64 sv] w fun e w' => e = .returned (.int .i64 (sv + (l : Int))) ∧ Own w' base (.slice a l c) (marksF s l) ∧ w.grownBy w' (Value.slice a l c).ownBlock := by
  subst hsv
  have HO : Hid (Own (w.alloc (.cells #[.slice a l c, .bool op, .int .i64 ls, .int .i64 wt] 26)) base (.slice a l c) zs) := h.below (bel_alloc _ _)
  have HG : Hid (w.grownBy (w.alloc (.cells #[.slice a l c, .bool op, .int .i64 ls, .int .i64 wt] 26)) (Value.slice a l c).ownBlock) := World.grownBy_alloc w _ _
  clear h
  go_enter Try.func33, Try.ntmps33
  go_wp2_with fail
  refine (markByteS_from a l c base s zs _ HO.out hl hs').mono ?_
  rintro e w1 ⟨rfl, o1, g1⟩
  have R : Hid (Own w1 base (.slice a l c) (marksF s l) ∧ w.grownBy w1 (Value.slice a l c).ownBlock) := ⟨o1, grown_trT HG.out g1⟩
  clear o1 g1
  go_wp2
  go_ret
  exact ⟨rfl, R.out⟩

set_option maxHeartbeats 1000000 in
theorem heldAscii_sv (sv : Int) (a : Option Addr) (l c s : Nat) (op : Bool) (ls wt : Int) (w : World) (hsv : sv = (s : Int)) (h : Sl w a (marksF s l)) (hl : l ≤ 3000000) (hs' : s ≤ 9000000) :
    Calls Try.prog 36 #[sc a l c op ls wt, .int .i64 sv] w fun e w' => e = .returned (.int .i64 (sv + (l : Int))) ∧ Below w.heap.size w w' := by
  subst hsv
  have HS : Hid (Sl (w.alloc (.cells #[.slice a l c, .bool op, .int .i64 ls, .int .i64 wt] 26)) a (marksF s l)) := h.below (bel_alloc _ _)
  have HB := bel_alloc w (.cells #[.slice a l c, .bool op, .int .i64 ls, .int .i64 wt] 26)
  have f0 : ¬ ((s : Int) + (l : Int) < 0) := by omega
  clear h
  go_enter Try.func36, Try.ntmps36
  go_wp2_with fail
  refine (heldByteS_from a l c s _ HS.out hl hs').mono ?_
  rintro e w1 ⟨rfl, e1⟩
  subst e1
  go_wp2
  go_ret
  exact ⟨rfl, HB⟩

end Go.Proofs.Ytimgohnnapaafaa
