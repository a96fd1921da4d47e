/- Answers as values: sizes, copies, equality. -/
import Derived.Test.YtgamicfcdkjleaaWr1
namespace Go.Proofs.Ytgamicfcdkjleaa
open Go.RowKit

set_option linter.unusedVariables false

/-- An answer as a value. -/
abbrev rp (kd fl pl nn : Int) (a1 a2 : Option Addr) (l1 l2 c1 c2 : Nat) : Value := .agg #[.int .i64 kd, .int .i64 fl, .int .i64 pl, .int .i64 nn, .slice a1 l1 c1, .slice a2 l2 c2]

set_option maxHeartbeats 2000000 in
theorem szResp_at (kd fl pl nn : Int) (a1 a2 : Option Addr) (l1 l2 c1 c2 : Nat) (m : Int) (w : World) (hm : m ≤ 1048576) (h : (l1 : Int) + (l2 : Int) ≤ m) :
    Calls Try.prog 16 #[.agg #[.int .i64 kd, .int .i64 fl, .int .i64 pl, .int .i64 nn, .slice a1 l1 c1, .slice a2 l2 c2], .int .i64 m] w fun e w' => e = .returned (.int .i64 (m - (l1 : Int) - (l2 : Int))) ∧ Below w.heap.size w w' := by
  have h1 : ¬ (m - (l1 : Int) < 0) := by omega
  have h2 : ¬ (m - (l1 : Int) - (l2 : Int) < 0) := by omega
  go_enter Try.func16, Try.ntmps16
  go_wp2_with (first | (go_at_call 47; go_in) | (go_at_call 48; go_in))
  go_ret
  exact ⟨rfl, bel_alloc _ _⟩

set_option maxHeartbeats 2000000 in
theorem szResp_over (kd fl pl nn : Int) (a1 a2 : Option Addr) (l1 l2 c1 c2 : Nat) (m : Int) (w : World) (hm0 : 0 ≤ m) (hm : m ≤ 1048576) (hm1 : l1 ≤ maxLen) (hm2 : l2 ≤ maxLen) (h : ¬ (l1 : Int) + (l2 : Int) ≤ m) :
    Calls Try.prog 16 #[.agg #[.int .i64 kd, .int .i64 fl, .int .i64 pl, .int .i64 nn, .slice a1 l1 c1, .slice a2 l2 c2], .int .i64 m] w fun e w' => e = .returned (.int .i64 (-1)) ∧ Below w.heap.size w w' := by
  unfold maxLen at hm1 hm2
  by_cases h1 : m - (l1 : Int) < 0
  · go_enter Try.func16, Try.ntmps16
    go_wp2_with (first | (go_at_call 47; go_in) | (go_at_call 48; go_in))
    go_ret
    exact ⟨rfl, bel_alloc _ _⟩
  · have h2 : m - (l1 : Int) - (l2 : Int) < 0 := by omega
    go_enter Try.func16, Try.ntmps16
    go_wp2_with (first | (go_at_call 47; go_in) | (go_at_call 48; go_in))
    go_ret
    exact ⟨rfl, bel_alloc _ _⟩

theorem rowp_set6 {w : World} {base size n g : Nat} {e t : TypeId} {v v0 v1 v2 v3 v4 v5 : Value} {xs : List Value} (h : w.ownsRow base e size v n xs) (hb : ExB w g t) (ht : t ≠ e) :
    ((((((w.setCell ⟨g, 0, none⟩ v0).setCell ⟨g, 1, none⟩ v1).setCell ⟨g, 2, none⟩ v2).setCell ⟨g, 3, none⟩ v3).setCell ⟨g, 4, none⟩ v4).setCell ⟨g, 5, none⟩ v5).ownsRow base e size v n xs :=
  row_setE (row_setE (row_setE (row_setE (row_setE (row_setE h hb ht) (ExB.set hb) ht) (ExB.set (ExB.set hb)) ht) (ExB.set (ExB.set (ExB.set hb))) ht) (ExB.set (ExB.set (ExB.set (ExB.set hb)))) ht) (ExB.set (ExB.set (ExB.set (ExB.set (ExB.set hb))))) ht

theorem belp_set6 {B : Nat} {W w : World} {g : Nat} {v0 v1 v2 v3 v4 v5 : Value} (hb : Below B W w) (hg : B ≤ g) :
    Below B W ((((((w.setCell ⟨g, 0, none⟩ v0).setCell ⟨g, 1, none⟩ v1).setCell ⟨g, 2, none⟩ v2).setCell ⟨g, 3, none⟩ v3).setCell ⟨g, 4, none⟩ v4).setCell ⟨g, 5, none⟩ v5) :=
  (((((hb.setCell (p := ⟨g, 0, none⟩) hg _).setCell (p := ⟨g, 1, none⟩) hg _).setCell (p := ⟨g, 2, none⟩) hg _).setCell (p := ⟨g, 3, none⟩) hg _).setCell (p := ⟨g, 4, none⟩) hg _).setCell (p := ⟨g, 5, none⟩) hg _

set_option maxRecDepth 20000 in
set_option maxHeartbeats 4000000 in
theorem toResp_any (kd fl pl nn : Int) (a1 a2 : Option Addr) (l1 l2 c1 c2 : Nat) (ws : List Int) (bs : List Bool) (w : World) (h1 : l1 = ws.length) (h2 : l2 = bs.length) (s1 : SlI w a1 ws) (s2 : SlB w a2 bs) (hl1 : l1 ≤ 2000000) (hl2 : l2 ≤ 2000000) :
    Calls Try.prog 18 #[.agg #[.int .i64 kd, .int .i64 fl, .int .i64 pl, .int .i64 nn, .slice a1 l1 c1, .slice a2 l2 c2]] w fun e w' => ∃ g1 g2, e = .returned (.agg #[.int .i64 kd, .int .i64 fl, .int .i64 pl, .int .i64 nn, .slice (some ⟨g1, 0, none⟩) l1 l1, .slice (some ⟨g2, 0, none⟩) l2 l2]) ∧
      OwnI w' w.heap.size (.slice (some ⟨g1, 0, none⟩) l1 l1) ws ∧ OwnB w' w.heap.size (.slice (some ⟨g2, 0, none⟩) l2 l2) bs ∧ Below w.heap.size w w' := by
  have H1 : Hid (l1 = ws.length) := h1
  have H2 : Hid (l2 = bs.length) := h2
  have HL : Hid (ws.length ≤ 2000000 ∧ bs.length ≤ 20000000) := by show _ ∧ _; omega
  obtain ⟨W0, hW0'⟩ : ∃ W0, W0 = ((w.alloc (.cells #[.int .i64 kd, .int .i64 fl, .int .i64 pl, .int .i64 nn, .slice a1 l1 c1, .slice a2 l2 c2] 37)).alloc (.cells #[.int .i64 0, .int .i64 0, .int .i64 0, .int .i64 0, .slice none 0 0, .slice none 0 0] 40)).alloc (.cells #[.int .i64 kd, .int .i64 fl, .int .i64 pl, .int .i64 nn, .slice none 0 0, .slice none 0 0] 40) := ⟨_, rfl⟩
  have hW0 : Hid (W0 = _) := hW0'
  have hz : W0.heap.size = w.heap.size + 1 + 1 + 1 := by rw [hW0']; simp
  have B0 : Below w.heap.size w W0 := by rw [hW0']; exact bel_next (bel_next (bel_alloc w _) (bel_alloc _ _)) (bel_alloc _ _)
  have A0 : Blk W0 w.heap.size 37 #[.int .i64 kd, .int .i64 fl, .int .i64 pl, .int .i64 nn, .slice a1 l1 c1, .slice a2 l2 c2] := by rw [hW0']; exact ((Blk.new w _ _).below (bel_alloc _ _)).below (bel_alloc _ _)
  have R0 : Blk W0 (w.heap.size + 1) 40 #[.int .i64 0, .int .i64 0, .int .i64 0, .int .i64 0, .slice none 0 0, .slice none 0 0] := by
    rw [hW0']; have := (Blk.new (w.alloc (.cells #[.int .i64 kd, .int .i64 fl, .int .i64 pl, .int .i64 nn, .slice a1 l1 c1, .slice a2 l2 c2] 37)) #[.int .i64 0, .int .i64 0, .int .i64 0, .int .i64 0, .slice none 0 0, .slice none 0 0] 40).below (bel_alloc _ (.cells #[.int .i64 kd, .int .i64 fl, .int .i64 pl, .int .i64 nn, .slice none 0 0, .slice none 0 0] 40)); simpa using this
  have O0 : Blk W0 (w.heap.size + 1 + 1) 40 #[.int .i64 kd, .int .i64 fl, .int .i64 pl, .int .i64 nn, .slice none 0 0, .slice none 0 0] := by
    rw [hW0']; have := Blk.new ((w.alloc (.cells #[.int .i64 kd, .int .i64 fl, .int .i64 pl, .int .i64 nn, .slice a1 l1 c1, .slice a2 l2 c2] 37)).alloc (.cells #[.int .i64 0, .int .i64 0, .int .i64 0, .int .i64 0, .slice none 0 0, .slice none 0 0] 40)) #[.int .i64 kd, .int .i64 fl, .int .i64 pl, .int .i64 nn, .slice none 0 0, .slice none 0 0] 40; simpa using this
  have S1 : Hid (SlI W0 a1 ws) := s1.below B0
  have S2 : Hid (SlB w a2 bs) := s2
  have c03 := A0.cell 4 rfl
  clear h1 h2 s1 s2 hW0'
  go_enter Try.func18, Try.ntmps18
  go_upto_region 6 with fail
  rw [← hW0.out]
  go_wp2_with fail
  refine (toIntS_ok a1 l1 c1 ws _ H1.out S1.out HL.out.1).mono ?_
  rintro e w1 ⟨g1, rfl, i1, b1'⟩
  have b1 := bel_next B0 b1'
  have A1 := A0.below b1'
  have R1 := R0.below b1'
  have O1 := O0.below b1'
  have co := O1.cell 4 rfl
  have fo := O1.fro 4
  have A2 := A1.setNe (g' := w.heap.size + 1 + 1) (j := 4) (y := .slice (some ⟨g1, 0, none⟩) l1 l1) (by omega)
  have R2 := R1.setNe (g' := w.heap.size + 1 + 1) (j := 4) (y := .slice (some ⟨g1, 0, none⟩) l1 l1) (by omega)
  have O2 := O1.set 4 (.slice (some ⟨g1, 0, none⟩) l1 l1)
  have I2 : OwnI (w1.setCell ⟨w.heap.size + 1 + 1, 4, none⟩ (.slice (some ⟨g1, 0, none⟩) l1 l1)) W0.heap.size (.slice (some ⟨g1, 0, none⟩) l1 l1) ws := row_set i1 O1 (by decide)
  have b2 := b1.setCell (p := ⟨w.heap.size + 1 + 1, 4, none⟩) (by show w.heap.size ≤ w.heap.size + 1 + 1; omega) (.slice (some ⟨g1, 0, none⟩) l1 l1)
  clear b1' B0 A0 R0 O0 A1 R1 O1 i1 b1 c03
  go_upto_region 7 with fail
  generalize w1.setCell ⟨w.heap.size + 1 + 1, 4, none⟩ (.slice (some ⟨g1, 0, none⟩) l1 l1) = w2 at *
  have c04 := A2.cell 5 rfl
  clear co fo
  go_wp2_with fail
  refine (toBoolS_ok a2 l2 c2 bs _ H2.out (S2_below S2.out b2) HL.out.2).mono ?_
  rintro e w3 ⟨g2, rfl, j3, b3'⟩
  have b3 := bel_next b2 b3'
  have R3 := R2.below b3'
  have O3 := O2.below b3'
  have I3 := I2.below b3'
  have o0 := O3.cell 0 rfl
  have o1 := O3.cell 1 rfl
  have o2 := O3.cell 2 rfl
  have o3 := O3.cell 3 rfl
  have o4 := O3.cell 4 rfl
  have o5 := O3.cell 5 rfl
  have r0 := R3.cell 0 rfl
  have r1 := R3.cell 1 rfl
  have r2 := R3.cell 2 rfl
  have r3 := R3.cell 3 rfl
  have r4 := R3.cell 4 rfl
  have r5 := R3.cell 5 rfl
  have fo := O3.fro
  have fr := R3.fro
  have HH : Hid (OwnI w3 W0.heap.size (.slice (some ⟨g1, 0, none⟩) l1 l1) ws) := I3
  have b2s : Hid (w.heap.size ≤ w2.heap.size) := b2.size
  have eO : ExB w3 (w.heap.size + 1 + 1) 40 := ⟨_, O3⟩
  have eR : ExB w3 (w.heap.size + 1) 40 := ⟨_, R3⟩
  have HJ : Hid (OwnB w3 w2.heap.size (.slice (some ⟨g2, 0, none⟩) l2 l2) bs ∧ Below w.heap.size w w3 ∧ ExB w3 (w.heap.size + 1 + 1) 40 ∧ ExB w3 (w.heap.size + 1) 40) := ⟨j3, b3, eO, eR⟩
  have hz2 : w.heap.size ≤ w2.heap.size := by have := b2s.out; omega
  have hz0 : w.heap.size ≤ W0.heap.size := by omega
  clear A2 R2 O2 I2 b3' b2 c04 I3 O3 R3 j3 b3 eO eR
  go_wp2
  refine bodyPost_ret (v := .agg #[.int .i64 kd, .int .i64 fl, .int .i64 pl, .int .i64 nn, .slice (some ⟨g1, 0, none⟩) l1 l1, .slice (some ⟨g2, 0, none⟩) l2 l2]) (by simp [results, Try.results18, go_sem, r0, r1, r2, r3, r4, r5]) rfl ?_
  obtain ⟨j3, b3, eO, eR⟩ := HJ.out
  refine ⟨g1, g2, rfl, ?_, ?_, ?_⟩
  · exact OwnI.mono (show OwnI _ _ _ _ from rowp_set6 (row_setE HH.out eO (by decide)) (ExB.set eR) (by decide)) hz0
  · exact OwnB.mono (show OwnB _ _ _ _ from rowp_set6 (row_setE j3 eO (by decide)) (ExB.set eR) (by decide)) hz2
  · exact belp_set6 (b3.setCell (p := ⟨w.heap.size + 1 + 1, 5, none⟩) (by show w.heap.size ≤ w.heap.size + 1 + 1; omega) _) (Nat.le_succ _)

set_option maxHeartbeats 2000000 in
theorem eqResp_true (kd fl pl nn : Int) (a1 a2 a1' a2' : Option Addr) (l1 l2 l1' l2' c1 c2 c1' c2' : Nat) (ws : List Int) (bs : List Bool) (w : World) (h1 : l1 = ws.length) (h2 : l2 = bs.length) (h1' : l1' = ws.length) (h2' : l2' = bs.length) (s1 : SlI w a1 ws) (s2 : SlB w a2 bs) (s1' : SlI w a1' ws) (s2' : SlB w a2' bs) (hl1 : ws.length ≤ 2000000) (hl2 : bs.length ≤ 2000000) :
    Calls Try.prog 20 #[.agg #[.int .i64 kd, .int .i64 fl, .int .i64 pl, .int .i64 nn, .slice a1 l1 c1, .slice a2 l2 c2], .agg #[.int .i64 kd, .int .i64 fl, .int .i64 pl, .int .i64 nn, .slice a1' l1' c1', .slice a2' l2' c2']] w fun e w' => e = .returned (.bool true) ∧ Below w.heap.size w w' := by
  obtain ⟨W0, hW0'⟩ : ∃ W0, W0 = (w.alloc (.cells #[.int .i64 kd, .int .i64 fl, .int .i64 pl, .int .i64 nn, .slice a1 l1 c1, .slice a2 l2 c2] 40)).alloc (.cells #[.int .i64 kd, .int .i64 fl, .int .i64 pl, .int .i64 nn, .slice a1' l1' c1', .slice a2' l2' c2'] 40) := ⟨_, rfl⟩
  have hW0 : Hid (W0 = _) := hW0'
  have B0 : Below w.heap.size w W0 := by rw [hW0']; exact bel_next (bel_alloc w _) (bel_alloc _ _)
  have X0 : Blk W0 w.heap.size 40 #[.int .i64 kd, .int .i64 fl, .int .i64 pl, .int .i64 nn, .slice a1 l1 c1, .slice a2 l2 c2] := by rw [hW0']; exact (Blk.new w _ _).below (bel_alloc _ _)
  have Y0 : Blk W0 (w.heap.size + 1) 40 #[.int .i64 kd, .int .i64 fl, .int .i64 pl, .int .i64 nn, .slice a1' l1' c1', .slice a2' l2' c2'] := by
    rw [hW0']; have := Blk.new (w.alloc (.cells #[.int .i64 kd, .int .i64 fl, .int .i64 pl, .int .i64 nn, .slice a1 l1 c1, .slice a2 l2 c2] 40)) #[.int .i64 kd, .int .i64 fl, .int .i64 pl, .int .i64 nn, .slice a1' l1' c1', .slice a2' l2' c2'] 40; simpa using this
  have HH : Hid (l1 = ws.length ∧ l2 = bs.length ∧ l1' = ws.length ∧ l2' = bs.length ∧ SlI W0 a1 ws ∧ SlB W0 a2 bs ∧ SlI W0 a1' ws ∧ SlB W0 a2' bs) := ⟨h1, h2, h1', h2', s1.below B0, s2.below B0, s1'.below B0, s2'.below B0⟩
  obtain ⟨x0, x1, x2, x3, x4, x5⟩ := X0.six
  obtain ⟨y0, y1, y2, y3, y4, y5⟩ := Y0.six
  clear h1 h2 h1' h2' s1 s2 s1' s2' hW0'
  go_enter Try.func20, Try.ntmps20
  go_upto_region 1 with fail
  rw [← hW0.out]
  go_wp2_with fail
  refine (eqIntS_ok _ _ _ _ _ _ ws _ HH.out.1 HH.out.2.2.1 HH.out.2.2.2.2.1 HH.out.2.2.2.2.2.2.1 hl1).mono ?_
  rintro e w1 ⟨rfl, b1'⟩
  have b1 := bel_next B0 b1'
  have X1 := X0.below b1'
  have Y1 := Y0.below b1'
  have S1 : Hid (SlB w1 a2 bs ∧ SlB w1 a2' bs) := ⟨HH.out.2.2.2.2.2.1.below b1', HH.out.2.2.2.2.2.2.2.below b1'⟩
  clear x0 x1 x2 x3 x4 x5 y0 y1 y2 y3 y4 y5 X0 Y0 B0 b1'
  have x5 := X1.cell 5 rfl
  have y5 := Y1.cell 5 rfl
  go_wp2_with fail
  refine (eqBoolS_ok _ _ _ _ _ _ bs _ HH.out.2.1 HH.out.2.2.2.1 S1.out.1 S1.out.2 (by omega)).mono ?_
  rintro e w2 ⟨rfl, b2'⟩
  have b2 := bel_next b1 b2'
  go_wp2
  go_ret
  exact ⟨rfl, b2⟩

end Go.Proofs.Ytgamicfcdkjleaa
