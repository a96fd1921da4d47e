/- Ports of the program: which are right. -/
import Derived.Test.YtimgohnnapaafaaPort1
import Derived.Test.YtimgohnnapaafaaMb3
import Derived.Deep.RegionHeld3
namespace Go.Proofs.Ytimgohnnapaafaa
open Go.RowKit

set_option linter.unusedVariables false

set_option linter.unusedSimpArgs false

def ctd (er : Int) : Bool := decide (0 ≤ er ∧ er ≤ 1000000)

set_option maxHeartbeats 1000000 in
theorem isCounted_any (er : Int) (w : World) (b : Bool) (hb : ctd er = b) :
    Calls Try.prog 86 #[.agg #[.int .i64 er]] w fun e w' => e = .returned (.bool b) ∧ Below w.heap.size w w' := by
  subst hb
  by_cases h1 : 0 ≤ er
  · by_cases h2 : er ≤ 1000000
    · rw [show ctd er = true from decide_eq_true ⟨h1, h2⟩]
      go_enter Try.func86, Try.ntmps86
      go_wp2
      go_ret
      exact ⟨rfl, bel_alloc _ _⟩
    · rw [show ctd er = false from decide_eq_false (fun h => h2 h.2)]
      go_enter Try.func86, Try.ntmps86
      go_wp2
      go_ret
      exact ⟨by simp [h2, Act.eval], bel_alloc _ _⟩
  · rw [show ctd er = false from decide_eq_false (fun h => h1 h.1)]
    go_enter Try.func86, Try.ntmps86
    go_wp2
    go_ret
    exact ⟨rfl, bel_alloc _ _⟩

set_option maxHeartbeats 2000000 in
theorem rtuRight_any (er : Int) (a : Option Addr) (l c : Nat) (ls : Int) (bd : Bool) (hf wh : Int) (w : World) (hl : l ≤ 2000000) (b b2 : Bool) (hb : ctd er = b) (hb2 : okT l ls bd hf wh = b2) :
    Calls Try.prog 89 #[.agg #[.int .i64 er, .slice a l c, .int .i64 ls, .bool bd, .int .i64 hf, .int .i64 wh]] w fun e w' => e = .returned (.bool (b && b2)) ∧ Below w.heap.size w w' := by
  have B0 := bel_alloc w (.cells #[.int .i64 er, .slice a l c, .int .i64 ls, .bool bd, .int .i64 hf, .int .i64 wh] 92)
  have X0 := Blk.new w #[.int .i64 er, .slice a l c, .int .i64 ls, .bool bd, .int .i64 hf, .int .i64 wh] 92
  obtain ⟨x0, x1, x2, x3, x4, x5⟩ := X0.six
  skip
  go_enter Try.func89, Try.ntmps89
  go_wp2_with fail
  refine (isCounted_any er _ b hb).mono ?_
  rintro e w1 ⟨rfl, b'⟩
  have B1 := bel_next B0 b'
  have X1 := X0.below b'
  skip
  clear b' B0 X0 x0 x1 x2 x3 x4 x5
  obtain ⟨x0, x1, x2, x3, x4, x5⟩ := X1.six
  cases b
  · go_wp2
    go_ret
    exact ⟨rfl, B1⟩
  · go_wp2_with fail
    refine (implRtuOk_any a l c ls bd hf wh _ hl b2 hb2).mono ?_
    rintro e w2 ⟨rfl, b'⟩
    have B2 := bel_next B1 b'
    clear b' B1 X1 x0 x1 x2 x3 x4 x5
    go_wp2
    go_ret
    exact ⟨by simp [Act.eval], B2⟩

set_option maxHeartbeats 2000000 in
theorem asciiRight_any (er : Int) (a : Option Addr) (l c : Nat) (op : Bool) (ls wt : Int) (zs : List Int) (w : World) (hn : l = zs.length) (hs : Sl w a zs) (hl : l ≤ 2000000) (b b2 : Bool) (hb : ctd er = b) (hb2 : okAk zs op ls wt = b2) :
    Calls Try.prog 99 #[.agg #[.int .i64 er, .slice a l c, .bool op, .int .i64 ls, .int .i64 wt]] w fun e w' => e = .returned (.bool (b && b2)) ∧ Below w.heap.size w w' := by
  have B0 := bel_alloc w (.cells #[.int .i64 er, .slice a l c, .bool op, .int .i64 ls, .int .i64 wt] 94)
  have X0 := Blk.new w #[.int .i64 er, .slice a l c, .bool op, .int .i64 ls, .int .i64 wt] 94
  obtain ⟨x0, x1, x2, x3, x4⟩ := X0.five
  have HN : Hid (l = zs.length) := hn; clear hn
  go_enter Try.func99, Try.ntmps99
  go_wp2_with fail
  refine (isCounted_any er _ b hb).mono ?_
  rintro e w1 ⟨rfl, b'⟩
  have B1 := bel_next B0 b'
  have X1 := X0.below b'
  have HS1 := (hs.below (bel_alloc w (.cells #[.int .i64 er, .slice a l c, .bool op, .int .i64 ls, .int .i64 wt] 94))).below b'
  clear b' B0 X0 x0 x1 x2 x3 x4
  obtain ⟨x0, x1, x2, x3, x4⟩ := X1.five
  cases b
  · go_wp2
    go_ret
    exact ⟨rfl, B1⟩
  · go_wp2_with fail
    refine (implAsciiOk_any a l c op ls wt zs _ HN.out HS1 hl b2 hb2).mono ?_
    rintro e w2 ⟨rfl, b'⟩
    have B2 := bel_next B1 b'
    clear b' B1 X1 x0 x1 x2 x3 x4
    go_wp2
    go_ret
    exact ⟨by simp [Act.eval], B2⟩

/-- A stream is right, by the program. -/
def okSt (zs : List Int) (sh : Bool) : Bool := bif sh then decide (zs.length = 0) else decide (nxC zs ≠ 1 ∧ zs.length ≤ 600)

theorem sl_zero {w : World} {zs : List Int} (h : Sl w none zs) : zs = [] := by
  cases zs with
  | nil => rfl
  | cons z r => obtain ⟨ad, e⟩ := sl_some h (by simp); cases e

set_option maxHeartbeats 2000000 in
theorem implStreamOk_any (a : Option Addr) (l c : Nat) (sh : Bool) (zs : List Int) (w : World) (hn : l = zs.length) (hlc : l ≤ c) (hs : Sl w a zs) (hr : ∀ z ∈ zs, 0 ≤ z ∧ z ≤ 255) (hl : l ≤ 2000000) (b : Bool) (hb : okSt zs sh = b) :
    Calls Try.prog 109 #[.agg #[.slice a l c, .bool sh]] w fun e w' => e = .returned (.bool b) ∧ Below w.heap.size w w' := by
  have B0 := bel_alloc w (.cells #[.slice a l c, .bool sh] 28)
  have X0 := Blk.new w #[.slice a l c, .bool sh] 28
  have x0 := X0.cell 0 rfl
  have x1 := X0.cell 1 rfl
  have HS0 := hs.below B0
  have HH : Hid (l = zs.length) := hn
  clear hn
  cases sh
  · obtain ⟨k, hk⟩ : ∃ k, nxC zs = k := ⟨_, rfl⟩
    have HK : Hid (nxC zs = k) := hk
    by_cases h1 : k = 1
    · subst h1
      obtain ⟨_, h6, h7, h8, h9, _⟩ := nxC_one hk
      have hb' : b = false := by rw [← hb]; simp [okSt, hk]
      subst hb'
      obtain ⟨s, hs4⟩ : ∃ s : Nat, (s : Int) = 6 + wAt zs 4 := ⟨(6 + wAt zs 4).toNat, by omega⟩
      obtain ⟨bb, off, rfl⟩ : ∃ bb off, a = some ⟨bb, off, none⟩ := by
        rcases hs with e | ⟨bb, off, e, _⟩
        · subst e; simp at h6
        · exact ⟨bb, off, e⟩
      have HS4 : Hid ((s : Int) = 6 + wAt zs 4) := hs4
      clear h7 h8 h9 hb hs hk hs4 h6
      go_enter Try.func109, Try.ntmps109
      go_wp2_with fail
      refine (firstFrame_yes bb off l c s zs _ HH.out hlc HS0 hr (by have := HH.out; omega) HK.out HS4.out).mono ?_
      rintro e w1 ⟨rfl, b'⟩
      have B1 := bel_next B0 b'
      clear b' B0 X0 x0 x1 HS0
      go_wp2
      go_ret
      exact ⟨rfl, B1⟩
    · have hb' : b = decide (zs.length ≤ 600) := by rw [← hb]; simp [okSt, hk, h1]
      subst hb'
      clear hb hs hk
      go_enter Try.func109, Try.ntmps109
      go_wp2_with fail
      refine (firstFrame_no a l c zs _ HH.out hlc HS0 hr (by have := HH.out; omega) k HK.out h1).mono ?_
      rintro e w1 ⟨rfl, b'⟩
      have B1 := bel_next B0 b'
      have x0 := (X0.below b').cell 0 rfl
      have HD : Hid (decide (zs.length ≤ 600) = decide ((l : Int) ≤ 600)) := by have := HH.out; show _ = _; congr 1; simp; omega
      clear b' B0 X0 x1 HS0
      go_wp2
      go_ret
      exact ⟨by rw [HD.out]; simp [Act.eval, h1], B1⟩
  · have hb' : b = decide (zs.length = 0) := by rw [← hb]; rfl
    subst hb'
    have HD : Hid (decide (zs.length = 0) = ((l : Int) == 0)) := by have := HH.out; show _ = _; by_cases h0 : l = 0 <;> simp [← this, h0]
    clear HS0 hs hb
    go_enter Try.func109, Try.ntmps109
    go_wp2
    go_ret
    exact ⟨by rw [HD.out]; simp [Act.eval], B0⟩

end Go.Proofs.Ytimgohnnapaafaa
