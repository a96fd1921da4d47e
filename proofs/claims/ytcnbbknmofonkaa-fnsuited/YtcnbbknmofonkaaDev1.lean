/- Devices as values: sizes, copies, equality. -/
import Derived.Test.YtcnbbknmofonkaaWr1
namespace Go.Proofs.Ytcnbbknmofonkaa
open Go.RowKit

set_option linter.unusedVariables false

/-- A device as a value. -/
abbrev dv (a1 a2 a3 a4 : Option Addr) (l1 l2 l3 l4 c1 c2 c3 c4 : Nat) : Value := .agg #[.slice a1 l1 c1, .slice a2 l2 c2, .slice a3 l3 c3, .slice a4 l4 c4]

theorem Blk.four {w : World} {g : Nat} {t : TypeId} {v0 v1 v2 v3 : Value} (h : Blk w g t #[v0, v1, v2, v3]) : w.cell? ⟨g, 0, none⟩ = some v0 ∧ w.cell? ⟨g, 1, none⟩ = some v1 ∧ w.cell? ⟨g, 2, none⟩ = some v2 ∧ w.cell? ⟨g, 3, none⟩ = some v3 :=
  ⟨h.cell 0 rfl, h.cell 1 rfl, h.cell 2 rfl, h.cell 3 rfl⟩

/-- The four rows, read. -/
def SlD (w : World) (a1 a2 a3 a4 : Option Addr) (cs is : List Bool) (hs rs : List Int) : Prop := SlB w a1 cs ∧ SlB w a2 is ∧ SlI w a3 hs ∧ SlI w a4 rs

/-- The four lengths. -/
def LnD (l1 l2 l3 l4 : Nat) (cs is : List Bool) (hs rs : List Int) : Prop := l1 = cs.length ∧ l2 = is.length ∧ l3 = hs.length ∧ l4 = rs.length

/-- No row of more than this. -/
def SmD (m : Nat) (cs is : List Bool) (hs rs : List Int) : Prop := cs.length ≤ m ∧ is.length ≤ m ∧ hs.length ≤ m ∧ rs.length ≤ m

/-- Two slices of the call's own that lie apart. -/
def Df (v u : Value) : Prop := v.ownBlock = none ∨ u.ownBlock = none ∨ v.ownBlock ≠ u.ownBlock

theorem Df.symm {v u : Value} (h : Df v u) : Df u v := by
  rcases h with h | h | h
  · exact .inr (.inl h)
  · exact .inl h
  · exact .inr (.inr (fun e => h e.symm))

theorem Df.ne {v u : Value} (h : Df v u) : v.ownBlock = none ∨ v.ownBlock ≠ u.ownBlock := by
  rcases h with h | h | h
  · exact .inl h
  · cases e : v.ownBlock with
    | none => exact .inl rfl
    | some k => exact .inr (by rw [h]; simp)
  · exact .inr h

/-- A row that lies below where another one begins. -/
theorem Df.ofBase {w w' : World} {b1 b2 s1 s2 n1 n2 : Nat} {e1 e2 : TypeId} {v1 v2 : Value} {x1 x2 : List Value} (h1 : w.ownsRow b1 e1 s1 v1 n1 x1) (h2 : w'.ownsRow b2 e2 s2 v2 n2 x2) (hb : w.heap.size ≤ b2) : Df v1 v2 := by
  cases e : v1.ownBlock with
  | none => exact .inl e
  | some k =>
    refine .inr (.inr ?_)
    intro e2
    have q1 := (World.ownsRow.lt h1 k e).2
    have q2 := (World.ownsRow.lt h2 k (by rw [← e2]; exact e)).1
    omega

/-- The four rows, of the call's own and apart. -/
def OwnD (w : World) (B : Nat) (a1 a2 a3 a4 : Option Addr) (l1 l2 l3 l4 c1 c2 c3 c4 : Nat) (cs is : List Bool) (hs rs : List Int) : Prop :=
  OwnB w B (.slice a1 l1 c1) cs ∧ OwnB w B (.slice a2 l2 c2) is ∧ OwnI w B (.slice a3 l3 c3) hs ∧ OwnI w B (.slice a4 l4 c4) rs ∧ Df (.slice a1 l1 c1) (.slice a2 l2 c2) ∧ Df (.slice a3 l3 c3) (.slice a4 l4 c4)

theorem SlD.below {w w' : World} {a1 a2 a3 a4 : Option Addr} {cs is : List Bool} {hs rs : List Int} (h : SlD w a1 a2 a3 a4 cs is hs rs) (hb : Below w.heap.size w w') : SlD w' a1 a2 a3 a4 cs is hs rs :=
  ⟨h.1.below hb, h.2.1.below hb, h.2.2.1.below hb, h.2.2.2.below hb⟩

theorem OwnD.below {w w' : World} {B : Nat} {a1 a2 a3 a4 : Option Addr} {l1 l2 l3 l4 c1 c2 c3 c4 : Nat} {cs is : List Bool} {hs rs : List Int} (h : OwnD w B a1 a2 a3 a4 l1 l2 l3 l4 c1 c2 c3 c4 cs is hs rs) (hb : Below w.heap.size w w') : OwnD w' B a1 a2 a3 a4 l1 l2 l3 l4 c1 c2 c3 c4 cs is hs rs :=
  ⟨h.1.below hb, h.2.1.below hb, h.2.2.1.below hb, h.2.2.2.1.below hb, h.2.2.2.2⟩

theorem OwnD.sl {w : World} {B : Nat} {a1 a2 a3 a4 : Option Addr} {l1 l2 l3 l4 c1 c2 c3 c4 : Nat} {cs is : List Bool} {hs rs : List Int} (h : OwnD w B a1 a2 a3 a4 l1 l2 l3 l4 c1 c2 c3 c4 cs is hs rs) : LnD l1 l2 l3 l4 cs is hs rs ∧ SlD w a1 a2 a3 a4 cs is hs rs :=
  ⟨⟨h.1.sl.1, h.2.1.sl.1, h.2.2.1.sl.1, h.2.2.2.1.sl.1⟩, h.1.sl.2, h.2.1.sl.2, h.2.2.1.sl.2, h.2.2.2.1.sl.2⟩

theorem OwnD.mono {w : World} {B B' : Nat} {a1 a2 a3 a4 : Option Addr} {l1 l2 l3 l4 c1 c2 c3 c4 : Nat} {cs is : List Bool} {hs rs : List Int} (h : OwnD w B a1 a2 a3 a4 l1 l2 l3 l4 c1 c2 c3 c4 cs is hs rs) (hb : B' ≤ B) : OwnD w B' a1 a2 a3 a4 l1 l2 l3 l4 c1 c2 c3 c4 cs is hs rs :=
  ⟨h.1.mono hb, h.2.1.mono hb, h.2.2.1.mono hb, h.2.2.2.1.mono hb, h.2.2.2.2⟩

theorem bel_set4 {B : Nat} {W w : World} {g : Nat} {v0 v1 v2 v3 : Value} (hb : Below B W w) (hg : B ≤ g) : Below B W ((((w.setCell ⟨g, 0, none⟩ v0).setCell ⟨g, 1, none⟩ v1).setCell ⟨g, 2, none⟩ v2).setCell ⟨g, 3, none⟩ v3) :=
  (((hb.setCell (p := ⟨g, 0, none⟩) hg _).setCell (p := ⟨g, 1, none⟩) hg _).setCell (p := ⟨g, 2, none⟩) hg _).setCell (p := ⟨g, 3, none⟩) hg _

theorem row_set4 {w : World} {base size n g : Nat} {e t : TypeId} {v v0 v1 v2 v3 : Value} {xs : List Value} (h : w.ownsRow base e size v n xs) (hb : ExB w g t) (ht : t ≠ e) :
    ((((w.setCell ⟨g, 0, none⟩ v0).setCell ⟨g, 1, none⟩ v1).setCell ⟨g, 2, none⟩ v2).setCell ⟨g, 3, none⟩ v3).ownsRow base e size v n xs :=
  row_setE (row_setE (row_setE (row_setE h hb ht) (ExB.set hb) ht) (ExB.set (ExB.set hb)) ht) (ExB.set (ExB.set (ExB.set hb))) ht

theorem OwnD.set4 {w : World} {B g : Nat} {t : TypeId} {v0 v1 v2 v3 : Value} {a1 a2 a3 a4 : Option Addr} {l1 l2 l3 l4 c1 c2 c3 c4 : Nat} {cs is : List Bool} {hs rs : List Int} (h : OwnD w B a1 a2 a3 a4 l1 l2 l3 l4 c1 c2 c3 c4 cs is hs rs) (hb : ExB w g t) (h1 : t ≠ 4) (h2 : t ≠ 3) :
    OwnD ((((w.setCell ⟨g, 0, none⟩ v0).setCell ⟨g, 1, none⟩ v1).setCell ⟨g, 2, none⟩ v2).setCell ⟨g, 3, none⟩ v3) B a1 a2 a3 a4 l1 l2 l3 l4 c1 c2 c3 c4 cs is hs rs :=
  ⟨row_set4 h.1 hb h1, row_set4 h.2.1 hb h1, row_set4 h.2.2.1 hb h2, row_set4 h.2.2.2.1 hb h2, h.2.2.2.2⟩

set_option maxHeartbeats 2000000 in
theorem szDevice_at (a1 a2 a3 a4 : Option Addr) (l1 l2 l3 l4 c1 c2 c3 c4 : Nat) (m : Int) (w : World) (hm : m ≤ 1048576) (h : (l1 : Int) + (l2 : Int) + (l3 : Int) + (l4 : Int) ≤ m) :
    Calls Try.prog 6 #[.agg #[.slice a1 l1 c1, .slice a2 l2 c2, .slice a3 l3 c3, .slice a4 l4 c4], .int .i64 m] w fun e w' => e = .returned (.int .i64 (m - (l1 : Int) - (l2 : Int) - (l3 : Int) - (l4 : Int))) ∧ Below w.heap.size w w' := by
  have h1 : ¬ (m - (l1 : Int) < 0) := by omega
  have h2 : ¬ (m - (l1 : Int) - (l2 : Int) < 0) := by omega
  have h3 : ¬ (m - (l1 : Int) - (l2 : Int) - (l3 : Int) < 0) := by omega
  have h4 : ¬ (m - (l1 : Int) - (l2 : Int) - (l3 : Int) - (l4 : Int) < 0) := by omega
  go_enter Try.func6, Try.ntmps6
  go_wp2_with (first | (go_at_call 34; go_in) | (go_at_call 33; go_in))
  go_ret
  exact ⟨rfl, bel_alloc _ _⟩

set_option maxHeartbeats 4000000 in
theorem szDevice_over (a1 a2 a3 a4 : Option Addr) (l1 l2 l3 l4 c1 c2 c3 c4 : Nat) (m : Int) (w : World) (hm0 : 0 ≤ m) (hm : m ≤ 1048576) (q1 : l1 ≤ maxLen) (q2 : l2 ≤ maxLen) (q3 : l3 ≤ maxLen) (q4 : l4 ≤ maxLen) (h : ¬ (l1 : Int) + (l2 : Int) + (l3 : Int) + (l4 : Int) ≤ m) :
    Calls Try.prog 6 #[.agg #[.slice a1 l1 c1, .slice a2 l2 c2, .slice a3 l3 c3, .slice a4 l4 c4], .int .i64 m] w fun e w' => e = .returned (.int .i64 (-1)) ∧ Below w.heap.size w w' := by
  unfold maxLen at q1 q2 q3 q4
  by_cases h1 : m - (l1 : Int) < 0
  · go_enter Try.func6, Try.ntmps6
    go_wp2_with (first | (go_at_call 34; go_in) | (go_at_call 33; go_in))
    go_ret
    exact ⟨rfl, bel_alloc _ _⟩
  by_cases h2 : m - (l1 : Int) - (l2 : Int) < 0
  · go_enter Try.func6, Try.ntmps6
    go_wp2_with (first | (go_at_call 34; go_in) | (go_at_call 33; go_in))
    go_ret
    exact ⟨rfl, bel_alloc _ _⟩
  by_cases h3 : m - (l1 : Int) - (l2 : Int) - (l3 : Int) < 0
  · go_enter Try.func6, Try.ntmps6
    go_wp2_with (first | (go_at_call 34; go_in) | (go_at_call 33; go_in))
    go_ret
    exact ⟨rfl, bel_alloc _ _⟩
  have h4 : m - (l1 : Int) - (l2 : Int) - (l3 : Int) - (l4 : Int) < 0 := by omega
  go_enter Try.func6, Try.ntmps6
  go_wp2_with (first | (go_at_call 34; go_in) | (go_at_call 33; go_in))
  go_ret
  exact ⟨rfl, bel_alloc _ _⟩

set_option maxHeartbeats 2000000 in
theorem szReq_at (kd pl nn wa : Int) (a1 a2 : Option Addr) (l1 l2 c1 c2 : Nat) (m : Int) (w : World) (hm : m ≤ 1048576) (h : (l1 : Int) + (l2 : Int) ≤ m) :
    Calls Try.prog 35 #[.agg #[.int .i64 kd, .int .i64 pl, .int .i64 nn, .slice a1 l1 c1, .slice a2 l2 c2, .int .i64 wa], .int .i64 m] w fun e w' => e = .returned (.int .i64 (m - (l1 : Int) - (l2 : Int))) ∧ Below w.heap.size w w' := by
  have h1 : ¬ (m - (l1 : Int) < 0) := by omega
  have h2 : ¬ (m - (l1 : Int) - (l2 : Int) < 0) := by omega
  go_enter Try.func35, Try.ntmps35
  go_wp2_with (first | (go_at_call 34; go_in) | (go_at_call 33; go_in))
  go_ret
  exact ⟨rfl, bel_alloc _ _⟩

set_option maxHeartbeats 2000000 in
theorem szReq_over (kd pl nn wa : Int) (a1 a2 : Option Addr) (l1 l2 c1 c2 : Nat) (m : Int) (w : World) (hm0 : 0 ≤ m) (hm : m ≤ 1048576) (hm1 : l1 ≤ maxLen) (hm2 : l2 ≤ maxLen) (h : ¬ (l1 : Int) + (l2 : Int) ≤ m) :
    Calls Try.prog 35 #[.agg #[.int .i64 kd, .int .i64 pl, .int .i64 nn, .slice a1 l1 c1, .slice a2 l2 c2, .int .i64 wa], .int .i64 m] w fun e w' => e = .returned (.int .i64 (-1)) ∧ Below w.heap.size w w' := by
  unfold maxLen at hm1 hm2
  by_cases h1 : m - (l1 : Int) < 0
  · go_enter Try.func35, Try.ntmps35
    go_wp2_with (first | (go_at_call 34; go_in) | (go_at_call 33; go_in))
    go_ret
    exact ⟨rfl, bel_alloc _ _⟩
  · have h2 : m - (l1 : Int) - (l2 : Int) < 0 := by omega
    go_enter Try.func35, Try.ntmps35
    go_wp2_with (first | (go_at_call 34; go_in) | (go_at_call 33; go_in))
    go_ret
    exact ⟨rfl, bel_alloc _ _⟩

set_option maxRecDepth 20000 in
set_option maxHeartbeats 8000000 in
theorem toDevice_any (a1 a2 a3 a4 : Option Addr) (l1 l2 l3 l4 c1 c2 c3 c4 : Nat) (cs is : List Bool) (hs rs : List Int) (w : World) (hn : LnD l1 l2 l3 l4 cs is hs rs) (hs0 : SlD w a1 a2 a3 a4 cs is hs rs) (hl : SmD 2000000 cs is hs rs) :
    Calls Try.prog 9 #[.agg #[.slice a1 l1 c1, .slice a2 l2 c2, .slice a3 l3 c3, .slice a4 l4 c4]] w fun e w' => ∃ g1 g2 g3 g4, e = .returned (.agg #[.slice (some ⟨g1, 0, none⟩) l1 l1, .slice (some ⟨g2, 0, none⟩) l2 l2, .slice (some ⟨g3, 0, none⟩) l3 l3, .slice (some ⟨g4, 0, none⟩) l4 l4]) ∧ OwnD w' w.heap.size (some ⟨g1, 0, none⟩) (some ⟨g2, 0, none⟩) (some ⟨g3, 0, none⟩) (some ⟨g4, 0, none⟩) l1 l2 l3 l4 l1 l2 l3 l4 cs is hs rs ∧ Below w.heap.size w w' := by
  obtain ⟨W0, hW0⟩ : ∃ W0, W0 = ((w.alloc (.cells #[.slice a1 l1 c1, .slice a2 l2 c2, .slice a3 l3 c3, .slice a4 l4 c4] 25)).alloc (.cells #[.slice none 0 0, .slice none 0 0, .slice none 0 0, .slice none 0 0] 29)).alloc (.cells #[.slice none 0 0, .slice none 0 0, .slice none 0 0, .slice none 0 0] 29) := ⟨_, rfl⟩
  have HW : Hid (W0 = _) := hW0
  have HN : Hid (LnD l1 l2 l3 l4 cs is hs rs) := hn
  have HL : Hid (SmD 2000000 cs is hs rs) := hl
  have hz : W0.heap.size = w.heap.size + 1 + 1 + 1 := by rw [hW0]; simp
  have b0 : Below w.heap.size w W0 := by rw [hW0]; exact bel_next (bel_next (bel_alloc w _) (bel_alloc _ _)) (bel_alloc _ _)
  have A0 : Blk W0 w.heap.size 25 #[.slice a1 l1 c1, .slice a2 l2 c2, .slice a3 l3 c3, .slice a4 l4 c4] := by rw [hW0]; exact ((Blk.new w _ _).below (bel_alloc _ _)).below (bel_alloc _ _)
  have R0 : Blk W0 (w.heap.size + 1) 29 #[.slice none 0 0, .slice none 0 0, .slice none 0 0, .slice none 0 0] := by
    rw [hW0]; have := (Blk.new (w.alloc (.cells #[.slice a1 l1 c1, .slice a2 l2 c2, .slice a3 l3 c3, .slice a4 l4 c4] 25)) #[.slice none 0 0, .slice none 0 0, .slice none 0 0, .slice none 0 0] 29).below (bel_alloc _ (.cells #[.slice none 0 0, .slice none 0 0, .slice none 0 0, .slice none 0 0] 29)); simpa using this
  have O0 : Blk W0 (w.heap.size + 1 + 1) 29 #[.slice none 0 0, .slice none 0 0, .slice none 0 0, .slice none 0 0] := by
    rw [hW0]; have := Blk.new ((w.alloc (.cells #[.slice a1 l1 c1, .slice a2 l2 c2, .slice a3 l3 c3, .slice a4 l4 c4] 25)).alloc (.cells #[.slice none 0 0, .slice none 0 0, .slice none 0 0, .slice none 0 0] 29)) #[.slice none 0 0, .slice none 0 0, .slice none 0 0, .slice none 0 0] 29; simpa using this
  have HS : Hid (SlD w a1 a2 a3 a4 cs is hs rs) := hs0
  clear hW0 hn hl hs0
  go_enter Try.func9, Try.ntmps9
  go_upto_region 2 with fail
  rw [← HW.out]
  have ca := A0.cell 0 rfl
  go_wp2_with fail
  refine (toBoolS_ok a1 l1 c1 cs _ HN.out.1 (HS.out.1.below b0) (by have := HL.out.1; omega)).mono ?_
  rintro e w1 ⟨g1, rfl, i1, b'⟩
  have b1 := bel_next b0 b'
  have A1 := A0.below b'
  have R1 := R0.below b'
  have O1 := O0.below b'
  have co := O1.cell 0 rfl
  have fo := O1.fro 0
  have A2 := A1.setNe (g' := w.heap.size + 1 + 1) (j := 0) (y := .slice (some ⟨g1, 0, none⟩) l1 l1) (by omega)
  have R2 := R1.setNe (g' := w.heap.size + 1 + 1) (j := 0) (y := .slice (some ⟨g1, 0, none⟩) l1 l1) (by omega)
  have O2 := O1.set 0 (.slice (some ⟨g1, 0, none⟩) l1 l1)
  have b2 := b1.setCell (p := ⟨w.heap.size + 1 + 1, 0, none⟩) (by show w.heap.size ≤ w.heap.size + 1 + 1; omega) (.slice (some ⟨g1, 0, none⟩) l1 l1)
  have r21 : OwnB _ _ (.slice (some ⟨g1, 0, none⟩) l1 l1) cs := row_set (j := 0) (y := .slice (some ⟨g1, 0, none⟩) l1 l1) i1 O1 (by decide)
  have HB : Hid (W0.heap.size ≤ w1.heap.size) := b'.size
  clear b' ca A0 R0 O0 A1 R1 O1 b0 b1 i1 
  go_upto_region 3 with fail
  clear co fo
  obtain ⟨w2, hw2⟩ : ∃ x, x = w1.setCell ⟨w.heap.size + 1 + 1, 0, none⟩ (.slice (some ⟨g1, 0, none⟩) l1 l1) := ⟨_, rfl⟩
  have HZ1 : Hid (w.heap.size ≤ w2.heap.size) := by show w.heap.size ≤ w2.heap.size; rw [hw2]; exact b2.size
  simp only [← hw2] at r21 A2 R2 O2 b2 ⊢
  clear hw2 HB
  have ca := A2.cell 1 rfl
  go_wp2_with fail
  refine (toBoolS_ok a2 l2 c2 is _ HN.out.2.1 (HS.out.2.1.below b2) (by have := HL.out.2.1; omega)).mono ?_
  rintro e w3 ⟨g2, rfl, i2, b'⟩
  have b3 := bel_next b2 b'
  have A3 := A2.below b'
  have R3 := R2.below b'
  have O3 := O2.below b'
  have r21' := r21.below b'
  have D12 := Df.ofBase r21 i2 (Nat.le_refl _)
  have co := O3.cell 1 rfl
  have fo := O3.fro 1
  clear r21
  have A4 := A3.setNe (g' := w.heap.size + 1 + 1) (j := 1) (y := .slice (some ⟨g2, 0, none⟩) l2 l2) (by omega)
  have R4 := R3.setNe (g' := w.heap.size + 1 + 1) (j := 1) (y := .slice (some ⟨g2, 0, none⟩) l2 l2) (by omega)
  have O4 := O3.set 1 (.slice (some ⟨g2, 0, none⟩) l2 l2)
  have b4 := b3.setCell (p := ⟨w.heap.size + 1 + 1, 1, none⟩) (by show w.heap.size ≤ w.heap.size + 1 + 1; omega) (.slice (some ⟨g2, 0, none⟩) l2 l2)
  have r41 : OwnB _ _ (.slice (some ⟨g1, 0, none⟩) l1 l1) cs := row_set (j := 1) (y := .slice (some ⟨g2, 0, none⟩) l2 l2) r21' O3 (by decide)
  have r42 : OwnB _ _ (.slice (some ⟨g2, 0, none⟩) l2 l2) is := row_set (j := 1) (y := .slice (some ⟨g2, 0, none⟩) l2 l2) i2 O3 (by decide)
  have HB : Hid (w2.heap.size ≤ w3.heap.size) := b'.size
  clear b' ca A2 R2 O2 A3 R3 O3 b2 b3 i2 r21'
  go_upto_region 4 with fail
  clear co fo
  obtain ⟨w4, hw4⟩ : ∃ x, x = w3.setCell ⟨w.heap.size + 1 + 1, 1, none⟩ (.slice (some ⟨g2, 0, none⟩) l2 l2) := ⟨_, rfl⟩
  have HZ2 : Hid (w.heap.size ≤ w4.heap.size) := by show w.heap.size ≤ w4.heap.size; rw [hw4]; exact b4.size
  simp only [← hw4] at r41 r42 A4 R4 O4 b4 ⊢
  clear hw4 HB
  have ca := A4.cell 2 rfl
  go_wp2_with fail
  refine (toIntS_ok a3 l3 c3 hs _ HN.out.2.2.1 (HS.out.2.2.1.below b4) (by have := HL.out.2.2.1; omega)).mono ?_
  rintro e w5 ⟨g3, rfl, i3, b'⟩
  have b5 := bel_next b4 b'
  have A5 := A4.below b'
  have R5 := R4.below b'
  have O5 := O4.below b'
  have r41' := r41.below b'
  have r42' := r42.below b'
  have D13 := Df.ofBase r41 i3 (Nat.le_refl _)
  have D23 := Df.ofBase r42 i3 (Nat.le_refl _)
  have co := O5.cell 2 rfl
  have fo := O5.fro 2
  clear r41 r42
  have A6 := A5.setNe (g' := w.heap.size + 1 + 1) (j := 2) (y := .slice (some ⟨g3, 0, none⟩) l3 l3) (by omega)
  have R6 := R5.setNe (g' := w.heap.size + 1 + 1) (j := 2) (y := .slice (some ⟨g3, 0, none⟩) l3 l3) (by omega)
  have O6 := O5.set 2 (.slice (some ⟨g3, 0, none⟩) l3 l3)
  have b6 := b5.setCell (p := ⟨w.heap.size + 1 + 1, 2, none⟩) (by show w.heap.size ≤ w.heap.size + 1 + 1; omega) (.slice (some ⟨g3, 0, none⟩) l3 l3)
  have r61 : OwnB _ _ (.slice (some ⟨g1, 0, none⟩) l1 l1) cs := row_set (j := 2) (y := .slice (some ⟨g3, 0, none⟩) l3 l3) r41' O5 (by decide)
  have r62 : OwnB _ _ (.slice (some ⟨g2, 0, none⟩) l2 l2) is := row_set (j := 2) (y := .slice (some ⟨g3, 0, none⟩) l3 l3) r42' O5 (by decide)
  have r63 : OwnI _ _ (.slice (some ⟨g3, 0, none⟩) l3 l3) hs := row_set (j := 2) (y := .slice (some ⟨g3, 0, none⟩) l3 l3) i3 O5 (by decide)
  have HB : Hid (w4.heap.size ≤ w5.heap.size) := b'.size
  clear b' ca A4 R4 O4 A5 R5 O5 b4 b5 i3 r41' r42'
  go_upto_region 5 with fail
  clear co fo
  obtain ⟨w6, hw6⟩ : ∃ x, x = w5.setCell ⟨w.heap.size + 1 + 1, 2, none⟩ (.slice (some ⟨g3, 0, none⟩) l3 l3) := ⟨_, rfl⟩
  have HZ3 : Hid (w.heap.size ≤ w6.heap.size) := by show w.heap.size ≤ w6.heap.size; rw [hw6]; exact b6.size
  simp only [← hw6] at r61 r62 r63 A6 R6 O6 b6 ⊢
  clear hw6 HB
  have ca := A6.cell 3 rfl
  go_wp2_with fail
  refine (toIntS_ok a4 l4 c4 rs _ HN.out.2.2.2 (HS.out.2.2.2.below b6) (by have := HL.out.2.2.2; omega)).mono ?_
  rintro e w7 ⟨g4, rfl, i4, b'⟩
  have b7 := bel_next b6 b'
  have A7 := A6.below b'
  have R7 := R6.below b'
  have O7 := O6.below b'
  have r61' := r61.below b'
  have r62' := r62.below b'
  have r63' := r63.below b'
  have D14 := Df.ofBase r61 i4 (Nat.le_refl _)
  have D24 := Df.ofBase r62 i4 (Nat.le_refl _)
  have D34 := Df.ofBase r63 i4 (Nat.le_refl _)
  have co := O7.cell 3 rfl
  have fo := O7.fro 3
  clear r61 r62 r63
  obtain ⟨o0, o1, o2, o3⟩ := O7.four
  obtain ⟨r0, r1, r2, r3⟩ := R7.four
  have fo := O7.fro
  have fr := R7.fro
  have eO : ExB w7 (w.heap.size + 1 + 1) 29 := ⟨_, O7⟩
  have eR : ExB w7 (w.heap.size + 1) 29 := ⟨_, R7⟩
  have HH : Hid ((OwnB w7 W0.heap.size (.slice (some ⟨g1, 0, none⟩) l1 l1) cs ∧ OwnB w7 w2.heap.size (.slice (some ⟨g2, 0, none⟩) l2 l2) is ∧ OwnI w7 w4.heap.size (.slice (some ⟨g3, 0, none⟩) l3 l3) hs ∧ OwnI w7 w6.heap.size (.slice (some ⟨g4, 0, none⟩) l4 l4) rs) ∧ Below w.heap.size w w7 ∧ ExB w7 (w.heap.size + 1 + 1) 29 ∧ ExB w7 (w.heap.size + 1) 29 ∧ Df (.slice (some ⟨g1, 0, none⟩) l1 l1) (.slice (some ⟨g2, 0, none⟩) l2 l2) ∧ Df (.slice (some ⟨g3, 0, none⟩) l3 l3) (.slice (some ⟨g4, 0, none⟩) l4 l4) ∧ w.heap.size ≤ W0.heap.size) := ⟨⟨r61', r62', r63', i4⟩, b7, eO, eR, D12, D34, by omega⟩
  clear A6 R6 O6 A7 R7 O7 b6 b7 b' co ca eO eR i4 D12 D34 D13 D23 D14 D24 r61' r62' r63'
  go_wp2
  refine bodyPost_ret (v := .agg #[.slice (some ⟨g1, 0, none⟩) l1 l1, .slice (some ⟨g2, 0, none⟩) l2 l2, .slice (some ⟨g3, 0, none⟩) l3 l3, .slice (some ⟨g4, 0, none⟩) l4 l4]) (by simp [results, Try.results9, go_sem, r0, r1, r2, r3]) rfl ?_
  obtain ⟨⟨p1, p2, p3, p4⟩, b7, eO, eR, d12, d34, hz0⟩ := HH.out
  have hz2 := HZ1.out
  have hz4 := HZ2.out
  have hz6 := HZ3.out
  refine ⟨g1, g2, g3, g4, rfl, ⟨?_, ?_, ?_, ?_, d12, d34⟩, ?_⟩
  · exact OwnB.mono (show OwnB _ _ _ _ from row_set4 (row_setE p1 eO (by decide)) (ExB.set eR) (by decide)) (by omega)
  · exact OwnB.mono (show OwnB _ _ _ _ from row_set4 (row_setE p2 eO (by decide)) (ExB.set eR) (by decide)) (by omega)
  · exact OwnI.mono (show OwnI _ _ _ _ from row_set4 (row_setE p3 eO (by decide)) (ExB.set eR) (by decide)) (by omega)
  · exact OwnI.mono (show OwnI _ _ _ _ from row_set4 (row_setE p4 eO (by decide)) (ExB.set eR) (by decide)) (by omega)
  · exact bel_set4 (b7.setCell (p := ⟨w.heap.size + 1 + 1, 3, none⟩) (by show w.heap.size ≤ w.heap.size + 1 + 1; omega) _) (by omega)

set_option maxRecDepth 20000 in
set_option maxHeartbeats 4000000 in
theorem eqDevice_true (a1 a2 a3 a4 : Option Addr) (l1 l2 l3 l4 c1 c2 c3 c4 : Nat) (x1 x2 x3 x4 : Option Addr) (m1 m2 m3 m4 d1 d2 d3 d4 : Nat) (cs is : List Bool) (hs rs : List Int) (w : World) (hn : LnD l1 l2 l3 l4 cs is hs rs) (hm : LnD m1 m2 m3 m4 cs is hs rs) (hs0 : SlD w a1 a2 a3 a4 cs is hs rs) (hx0 : SlD w x1 x2 x3 x4 cs is hs rs) (hl : SmD 2000000 cs is hs rs) :
    Calls Try.prog 12 #[.agg #[.slice a1 l1 c1, .slice a2 l2 c2, .slice a3 l3 c3, .slice a4 l4 c4], .agg #[.slice x1 m1 d1, .slice x2 m2 d2, .slice x3 m3 d3, .slice x4 m4 d4]] w fun e w' => e = .returned (.bool true) ∧ Below w.heap.size w w' := by
  obtain ⟨W0, hW0⟩ : ∃ W0, W0 = (w.alloc (.cells #[.slice a1 l1 c1, .slice a2 l2 c2, .slice a3 l3 c3, .slice a4 l4 c4] 29)).alloc (.cells #[.slice x1 m1 d1, .slice x2 m2 d2, .slice x3 m3 d3, .slice x4 m4 d4] 29) := ⟨_, rfl⟩
  have HW : Hid (W0 = _) := hW0
  have b0 : Below w.heap.size w W0 := by rw [hW0]; exact bel_next (bel_alloc w _) (bel_alloc _ _)
  have X0 : Blk W0 w.heap.size 29 #[.slice a1 l1 c1, .slice a2 l2 c2, .slice a3 l3 c3, .slice a4 l4 c4] := by rw [hW0]; exact (Blk.new w _ _).below (bel_alloc _ _)
  have Y0 : Blk W0 (w.heap.size + 1) 29 #[.slice x1 m1 d1, .slice x2 m2 d2, .slice x3 m3 d3, .slice x4 m4 d4] := by rw [hW0]; have := Blk.new (w.alloc (.cells #[.slice a1 l1 c1, .slice a2 l2 c2, .slice a3 l3 c3, .slice a4 l4 c4] 29)) #[.slice x1 m1 d1, .slice x2 m2 d2, .slice x3 m3 d3, .slice x4 m4 d4] 29; simpa using this
  have HS : Hid (LnD l1 l2 l3 l4 cs is hs rs ∧ LnD m1 m2 m3 m4 cs is hs rs ∧ SlD w a1 a2 a3 a4 cs is hs rs ∧ SlD w x1 x2 x3 x4 cs is hs rs ∧ SmD 2000000 cs is hs rs) := ⟨hn, hm, hs0, hx0, hl⟩
  clear hn hm hs0 hx0 hl hW0
  go_enter Try.func12, Try.ntmps12
  go_upto_region 1 with fail
  rw [← HW.out]
  have cx := X0.cell 0 rfl
  have cy := Y0.cell 0 rfl
  go_wp2_with fail
  refine (eqBoolS_ok _ _ _ _ _ _ cs _ HS.out.1.1 HS.out.2.1.1 (HS.out.2.2.1.1.below b0) (HS.out.2.2.2.1.1.below b0) (by have := HS.out.2.2.2.2.1; omega)).mono ?_
  rintro e w1 ⟨rfl, b'⟩
  have b1 := bel_next b0 b'
  have X1 := X0.below b'
  have Y1 := Y0.below b'
  clear cx cy X0 Y0 b0 b'
  have cx := X1.cell 1 rfl
  have cy := Y1.cell 1 rfl
  go_wp2_with fail
  refine (eqBoolS_ok _ _ _ _ _ _ is _ HS.out.1.2.1 HS.out.2.1.2.1 (HS.out.2.2.1.2.1.below b1) (HS.out.2.2.2.1.2.1.below b1) (by have := HS.out.2.2.2.2.2.1; omega)).mono ?_
  rintro e w2 ⟨rfl, b'⟩
  have b2 := bel_next b1 b'
  have X2 := X1.below b'
  have Y2 := Y1.below b'
  clear cx cy X1 Y1 b1 b'
  have cx := X2.cell 2 rfl
  have cy := Y2.cell 2 rfl
  go_wp2_with fail
  refine (eqIntS_ok _ _ _ _ _ _ hs _ HS.out.1.2.2.1 HS.out.2.1.2.2.1 (HS.out.2.2.1.2.2.1.below b2) (HS.out.2.2.2.1.2.2.1.below b2) (by have := HS.out.2.2.2.2.2.2.1; omega)).mono ?_
  rintro e w3 ⟨rfl, b'⟩
  have b3 := bel_next b2 b'
  have X3 := X2.below b'
  have Y3 := Y2.below b'
  clear cx cy X2 Y2 b2 b'
  have cx := X3.cell 3 rfl
  have cy := Y3.cell 3 rfl
  go_wp2_with fail
  refine (eqIntS_ok _ _ _ _ _ _ rs _ HS.out.1.2.2.2 HS.out.2.1.2.2.2 (HS.out.2.2.1.2.2.2.below b3) (HS.out.2.2.2.1.2.2.2.below b3) (by have := HS.out.2.2.2.2.2.2.2; omega)).mono ?_
  rintro e w4 ⟨rfl, b'⟩
  have b4 := bel_next b3 b'
  have X4 := X3.below b'
  have Y4 := Y3.below b'
  clear cx cy X3 Y3 b3 b'
  go_wp2
  go_ret
  exact ⟨rfl, b4⟩

end Go.Proofs.Ytcnbbknmofonkaa
