/- Texts that the proof needs, joined: Resp1 Do2 Cr1 Hr0 S1 WordAt1 R2 R3 R4 G1 G2. -/
import Derived.Test.YtmhdneenjoelfaaGreatV3
import Derived.Test.YtmhdneenjoelfaaGreatV9
import Derived.Test.YtmhdneenjoelfaaGreatV7
import Derived.Test.YtmhdneenjoelfaaGreatV1
import Derived.Lib.AppendZerosOnto
import Derived.Lib.SliceRun
import Derived.Lib.Walk
import Derived.Test.YtmhdneenjoelfaaGreatV6
import Derived.Deep.RegionWith
import Derived.Deep.RegionHeld3
import Derived.Test.YtmhdneenjoelfaaGreatV4
namespace Go.Proofs.YtmhdneenjoelfaaGreat
open Go.RowKit
set_option linter.unusedVariables false
abbrev rp (kd fl pl nn : Int) (a1 a2 : Option Addr) (l1 l2 c1 c2 : Nat) : Value := .agg #[.int .i64 kd, .int .i64 fl, .int .i64 pl, .int .i64 nn, .slice a1 l1 c1, .slice a2 l2 c2]
set_option maxHeartbeats 2000000 in
theorem szResp_at (kd fl pl nn : Int) (a1 a2 : Option Addr) (l1 l2 c1 c2 : Nat) (m : Int) (w : World) (hm : m ≤ 1048576) (h : (l1 : Int) + (l2 : Int) ≤ m) :
    Calls Tryz.prog 25 #[.agg #[.int .i64 kd, .int .i64 fl, .int .i64 pl, .int .i64 nn, .slice a1 l1 c1, .slice a2 l2 c2], .int .i64 m] w fun e w' => e = .returned (.int .i64 (m - (l1 : Int) - (l2 : Int))) ∧ Below w.heap.size w w' := by
  have h1 : ¬ (m - (l1 : Int) < 0) := by omega
  have h2 : ¬ (m - (l1 : Int) - (l2 : Int) < 0) := by omega
  go_enter Tryz.func25, Tryz.ntmps25
  go_wp2_with (first | (go_at_call 69; go_in) | (go_at_call 70; go_in))
  go_ret
  exact ⟨rfl, bel_alloc _ _⟩
set_option maxHeartbeats 2000000 in
theorem szResp_over (kd fl pl nn : Int) (a1 a2 : Option Addr) (l1 l2 c1 c2 : Nat) (m : Int) (w : World) (hm0 : 0 ≤ m) (hm : m ≤ 1048576) (hm1 : l1 ≤ maxLen) (hm2 : l2 ≤ maxLen) (h : ¬ (l1 : Int) + (l2 : Int) ≤ m) :
    Calls Tryz.prog 25 #[.agg #[.int .i64 kd, .int .i64 fl, .int .i64 pl, .int .i64 nn, .slice a1 l1 c1, .slice a2 l2 c2], .int .i64 m] w fun e w' => e = .returned (.int .i64 (-1)) ∧ Below w.heap.size w w' := by
  unfold maxLen at hm1 hm2
  by_cases h1 : m - (l1 : Int) < 0
  · go_enter Tryz.func25, Tryz.ntmps25
    go_wp2_with (first | (go_at_call 69; go_in) | (go_at_call 70; go_in))
    go_ret
    exact ⟨rfl, bel_alloc _ _⟩
  · have h2 : m - (l1 : Int) - (l2 : Int) < 0 := by omega
    go_enter Tryz.func25, Tryz.ntmps25
    go_wp2_with (first | (go_at_call 69; go_in) | (go_at_call 70; go_in))
    go_ret
    exact ⟨rfl, bel_alloc _ _⟩
theorem rowp_set6 {w : World} {base size n g : Nat} {e t : TypeId} {v v0 v1 v2 v3 v4 v5 : Value} {xs : List Value} (h : w.ownsRow base e size v n xs) (hb : ExB w g t) (ht : t ≠ e) :
    ((((((w.setCell ⟨g, 0, none⟩ v0).setCell ⟨g, 1, none⟩ v1).setCell ⟨g, 2, none⟩ v2).setCell ⟨g, 3, none⟩ v3).setCell ⟨g, 4, none⟩ v4).setCell ⟨g, 5, none⟩ v5).ownsRow base e size v n xs :=
  row_setE (row_setE (row_setE (row_setE (row_setE (row_setE h hb ht) (ExB.set hb) ht) (ExB.set (ExB.set hb)) ht) (ExB.set (ExB.set (ExB.set hb))) ht) (ExB.set (ExB.set (ExB.set (ExB.set hb)))) ht) (ExB.set (ExB.set (ExB.set (ExB.set (ExB.set hb))))) ht
theorem belp_set6 {B : Nat} {W w : World} {g : Nat} {v0 v1 v2 v3 v4 v5 : Value} (hb : Below B W w) (hg : B ≤ g) :
    Below B W ((((((w.setCell ⟨g, 0, none⟩ v0).setCell ⟨g, 1, none⟩ v1).setCell ⟨g, 2, none⟩ v2).setCell ⟨g, 3, none⟩ v3).setCell ⟨g, 4, none⟩ v4).setCell ⟨g, 5, none⟩ v5) :=
  (((((hb.setCell (p := ⟨g, 0, none⟩) hg _).setCell (p := ⟨g, 1, none⟩) hg _).setCell (p := ⟨g, 2, none⟩) hg _).setCell (p := ⟨g, 3, none⟩) hg _).setCell (p := ⟨g, 4, none⟩) hg _).setCell (p := ⟨g, 5, none⟩) hg _
set_option maxRecDepth 20000 in
set_option maxHeartbeats 4000000 in
theorem toResp_any (kd fl pl nn : Int) (a1 a2 : Option Addr) (l1 l2 c1 c2 : Nat) (ws : List Int) (bs : List Bool) (w : World) (h1 : l1 = ws.length) (h2 : l2 = bs.length) (s1 : SlI w a1 ws) (s2 : SlB w a2 bs) (hl1 : l1 ≤ 2000000) (hl2 : l2 ≤ 2000000) :
    Calls Tryz.prog 27 #[.agg #[.int .i64 kd, .int .i64 fl, .int .i64 pl, .int .i64 nn, .slice a1 l1 c1, .slice a2 l2 c2]] w fun e w' => ∃ g1 g2, e = .returned (.agg #[.int .i64 kd, .int .i64 fl, .int .i64 pl, .int .i64 nn, .slice (some ⟨g1, 0, none⟩) l1 l1, .slice (some ⟨g2, 0, none⟩) l2 l2]) ∧
      OwnI w' w.heap.size (.slice (some ⟨g1, 0, none⟩) l1 l1) ws ∧ OwnB w' w.heap.size (.slice (some ⟨g2, 0, none⟩) l2 l2) bs ∧ Below w.heap.size w w' := by
  have H1 : Hid (l1 = ws.length) := h1
  have H2 : Hid (l2 = bs.length) := h2
  have HL : Hid (ws.length ≤ 2000000 ∧ bs.length ≤ 20000000) := by show _ ∧ _; omega
  obtain ⟨W0, hW0'⟩ : ∃ W0, W0 = ((w.alloc (.cells #[.int .i64 kd, .int .i64 fl, .int .i64 pl, .int .i64 nn, .slice a1 l1 c1, .slice a2 l2 c2] 63)).alloc (.cells #[.int .i64 0, .int .i64 0, .int .i64 0, .int .i64 0, .slice none 0 0, .slice none 0 0] 37)).alloc (.cells #[.int .i64 kd, .int .i64 fl, .int .i64 pl, .int .i64 nn, .slice none 0 0, .slice none 0 0] 37) := ⟨_, rfl⟩
  have hW0 : Hid (W0 = _) := hW0'
  have hz : W0.heap.size = w.heap.size + 1 + 1 + 1 := by rw [hW0']; simp
  have B0 : Below w.heap.size w W0 := by rw [hW0']; exact bel_next (bel_next (bel_alloc w _) (bel_alloc _ _)) (bel_alloc _ _)
  have A0 : Blk W0 w.heap.size 63 #[.int .i64 kd, .int .i64 fl, .int .i64 pl, .int .i64 nn, .slice a1 l1 c1, .slice a2 l2 c2] := by rw [hW0']; exact ((Blk.new w _ _).below (bel_alloc _ _)).below (bel_alloc _ _)
  have R0 : Blk W0 (w.heap.size + 1) 37 #[.int .i64 0, .int .i64 0, .int .i64 0, .int .i64 0, .slice none 0 0, .slice none 0 0] := by
    rw [hW0']; have := (Blk.new (w.alloc (.cells #[.int .i64 kd, .int .i64 fl, .int .i64 pl, .int .i64 nn, .slice a1 l1 c1, .slice a2 l2 c2] 63)) #[.int .i64 0, .int .i64 0, .int .i64 0, .int .i64 0, .slice none 0 0, .slice none 0 0] 37).below (bel_alloc _ (.cells #[.int .i64 kd, .int .i64 fl, .int .i64 pl, .int .i64 nn, .slice none 0 0, .slice none 0 0] 37)); simpa using this
  have O0 : Blk W0 (w.heap.size + 1 + 1) 37 #[.int .i64 kd, .int .i64 fl, .int .i64 pl, .int .i64 nn, .slice none 0 0, .slice none 0 0] := by
    rw [hW0']; have := Blk.new ((w.alloc (.cells #[.int .i64 kd, .int .i64 fl, .int .i64 pl, .int .i64 nn, .slice a1 l1 c1, .slice a2 l2 c2] 63)).alloc (.cells #[.int .i64 0, .int .i64 0, .int .i64 0, .int .i64 0, .slice none 0 0, .slice none 0 0] 37)) #[.int .i64 kd, .int .i64 fl, .int .i64 pl, .int .i64 nn, .slice none 0 0, .slice none 0 0] 37; simpa using this
  have S1 : Hid (SlI W0 a1 ws) := s1.below B0
  have S2 : Hid (SlB w a2 bs) := s2
  have c03 := A0.cell 4 rfl
  clear h1 h2 s1 s2 hW0'
  go_enter Tryz.func27, Tryz.ntmps27
  go_upto_region 6 with fail
  rw [← hW0.out]
  go_wp2_with fail
  refine (toIntS_ok a1 l1 c1 ws _ H1.out S1.out HL.out.1).mono ?_
  rintro e w1 ⟨g1, rfl, i1, b1'⟩
  have b1 := bel_next B0 b1'
  have A1 := A0.below b1'
  have R1 := R0.below b1'
  have O1 := O0.below b1'
  have co := O1.cell 4 rfl
  have fo := O1.fro 4
  have A2 := A1.setNe (g' := w.heap.size + 1 + 1) (j := 4) (y := .slice (some ⟨g1, 0, none⟩) l1 l1) (by omega)
  have R2 := R1.setNe (g' := w.heap.size + 1 + 1) (j := 4) (y := .slice (some ⟨g1, 0, none⟩) l1 l1) (by omega)
  have O2 := O1.set 4 (.slice (some ⟨g1, 0, none⟩) l1 l1)
  have I2 : OwnI (w1.setCell ⟨w.heap.size + 1 + 1, 4, none⟩ (.slice (some ⟨g1, 0, none⟩) l1 l1)) W0.heap.size (.slice (some ⟨g1, 0, none⟩) l1 l1) ws := row_set i1 O1 (by decide)
  have b2 := b1.setCell (p := ⟨w.heap.size + 1 + 1, 4, none⟩) (by show w.heap.size ≤ w.heap.size + 1 + 1; omega) (.slice (some ⟨g1, 0, none⟩) l1 l1)
  clear b1' B0 A0 R0 O0 A1 R1 O1 i1 b1 c03
  go_upto_region 7 with fail
  generalize w1.setCell ⟨w.heap.size + 1 + 1, 4, none⟩ (.slice (some ⟨g1, 0, none⟩) l1 l1) = w2 at *
  have c04 := A2.cell 5 rfl
  clear co fo
  go_wp2_with fail
  refine (toBoolS_ok a2 l2 c2 bs _ H2.out (S2_below S2.out b2) HL.out.2).mono ?_
  rintro e w3 ⟨g2, rfl, j3, b3'⟩
  have b3 := bel_next b2 b3'
  have R3 := R2.below b3'
  have O3 := O2.below b3'
  have I3 := I2.below b3'
  have o0 := O3.cell 0 rfl
  have o1 := O3.cell 1 rfl
  have o2 := O3.cell 2 rfl
  have o3 := O3.cell 3 rfl
  have o4 := O3.cell 4 rfl
  have o5 := O3.cell 5 rfl
  have r0 := R3.cell 0 rfl
  have r1 := R3.cell 1 rfl
  have r2 := R3.cell 2 rfl
  have r3 := R3.cell 3 rfl
  have r4 := R3.cell 4 rfl
  have r5 := R3.cell 5 rfl
  have fo := O3.fro
  have fr := R3.fro
  have HH : Hid (OwnI w3 W0.heap.size (.slice (some ⟨g1, 0, none⟩) l1 l1) ws) := I3
  have b2s : Hid (w.heap.size ≤ w2.heap.size) := b2.size
  have eO : ExB w3 (w.heap.size + 1 + 1) 37 := ⟨_, O3⟩
  have eR : ExB w3 (w.heap.size + 1) 37 := ⟨_, R3⟩
  have HJ : Hid (OwnB w3 w2.heap.size (.slice (some ⟨g2, 0, none⟩) l2 l2) bs ∧ Below w.heap.size w w3 ∧ ExB w3 (w.heap.size + 1 + 1) 37 ∧ ExB w3 (w.heap.size + 1) 37) := ⟨j3, b3, eO, eR⟩
  have hz2 : w.heap.size ≤ w2.heap.size := by have := b2s.out; omega
  have hz0 : w.heap.size ≤ W0.heap.size := by omega
  clear A2 R2 O2 I2 b3' b2 c04 I3 O3 R3 j3 b3 eO eR
  go_wp2
  refine bodyPost_ret (v := .agg #[.int .i64 kd, .int .i64 fl, .int .i64 pl, .int .i64 nn, .slice (some ⟨g1, 0, none⟩) l1 l1, .slice (some ⟨g2, 0, none⟩) l2 l2]) (by simp [results, Tryz.results27, go_sem, r0, r1, r2, r3, r4, r5]) rfl ?_
  obtain ⟨j3, b3, eO, eR⟩ := HJ.out
  refine ⟨g1, g2, rfl, ?_, ?_, ?_⟩
  · exact OwnI.mono (show OwnI _ _ _ _ from rowp_set6 (row_setE HH.out eO (by decide)) (ExB.set eR) (by decide)) hz0
  · exact OwnB.mono (show OwnB _ _ _ _ from rowp_set6 (row_setE j3 eO (by decide)) (ExB.set eR) (by decide)) hz2
  · exact belp_set6 (b3.setCell (p := ⟨w.heap.size + 1 + 1, 5, none⟩) (by show w.heap.size ≤ w.heap.size + 1 + 1; omega) _) (Nat.le_succ _)
set_option maxHeartbeats 2000000 in
theorem eqResp_true (kd fl pl nn : Int) (a1 a2 a1' a2' : Option Addr) (l1 l2 l1' l2' c1 c2 c1' c2' : Nat) (ws : List Int) (bs : List Bool) (w : World) (h1 : l1 = ws.length) (h2 : l2 = bs.length) (h1' : l1' = ws.length) (h2' : l2' = bs.length) (s1 : SlI w a1 ws) (s2 : SlB w a2 bs) (s1' : SlI w a1' ws) (s2' : SlB w a2' bs) (hl1 : ws.length ≤ 2000000) (hl2 : bs.length ≤ 2000000) :
    Calls Tryz.prog 28 #[.agg #[.int .i64 kd, .int .i64 fl, .int .i64 pl, .int .i64 nn, .slice a1 l1 c1, .slice a2 l2 c2], .agg #[.int .i64 kd, .int .i64 fl, .int .i64 pl, .int .i64 nn, .slice a1' l1' c1', .slice a2' l2' c2']] w fun e w' => e = .returned (.bool true) ∧ Below w.heap.size w w' := by
  obtain ⟨W0, hW0'⟩ : ∃ W0, W0 = (w.alloc (.cells #[.int .i64 kd, .int .i64 fl, .int .i64 pl, .int .i64 nn, .slice a1 l1 c1, .slice a2 l2 c2] 37)).alloc (.cells #[.int .i64 kd, .int .i64 fl, .int .i64 pl, .int .i64 nn, .slice a1' l1' c1', .slice a2' l2' c2'] 37) := ⟨_, rfl⟩
  have hW0 : Hid (W0 = _) := hW0'
  have B0 : Below w.heap.size w W0 := by rw [hW0']; exact bel_next (bel_alloc w _) (bel_alloc _ _)
  have X0 : Blk W0 w.heap.size 37 #[.int .i64 kd, .int .i64 fl, .int .i64 pl, .int .i64 nn, .slice a1 l1 c1, .slice a2 l2 c2] := by rw [hW0']; exact (Blk.new w _ _).below (bel_alloc _ _)
  have Y0 : Blk W0 (w.heap.size + 1) 37 #[.int .i64 kd, .int .i64 fl, .int .i64 pl, .int .i64 nn, .slice a1' l1' c1', .slice a2' l2' c2'] := by
    rw [hW0']; have := Blk.new (w.alloc (.cells #[.int .i64 kd, .int .i64 fl, .int .i64 pl, .int .i64 nn, .slice a1 l1 c1, .slice a2 l2 c2] 37)) #[.int .i64 kd, .int .i64 fl, .int .i64 pl, .int .i64 nn, .slice a1' l1' c1', .slice a2' l2' c2'] 37; simpa using this
  have HH : Hid (l1 = ws.length ∧ l2 = bs.length ∧ l1' = ws.length ∧ l2' = bs.length ∧ SlI W0 a1 ws ∧ SlB W0 a2 bs ∧ SlI W0 a1' ws ∧ SlB W0 a2' bs) := ⟨h1, h2, h1', h2', s1.below B0, s2.below B0, s1'.below B0, s2'.below B0⟩
  obtain ⟨x0, x1, x2, x3, x4, x5⟩ := X0.six
  obtain ⟨y0, y1, y2, y3, y4, y5⟩ := Y0.six
  clear h1 h2 h1' h2' s1 s2 s1' s2' hW0'
  go_enter Tryz.func28, Tryz.ntmps28
  go_upto_region 1 with fail
  rw [← hW0.out]
  go_wp2_with fail
  refine (eqIntS_ok _ _ _ _ _ _ ws _ HH.out.1 HH.out.2.2.1 HH.out.2.2.2.2.1 HH.out.2.2.2.2.2.2.1 hl1).mono ?_
  rintro e w1 ⟨rfl, b1'⟩
  have b1 := bel_next B0 b1'
  have X1 := X0.below b1'
  have Y1 := Y0.below b1'
  have S1 : Hid (SlB w1 a2 bs ∧ SlB w1 a2' bs) := ⟨HH.out.2.2.2.2.2.1.below b1', HH.out.2.2.2.2.2.2.2.below b1'⟩
  clear x0 x1 x2 x3 x4 x5 y0 y1 y2 y3 y4 y5 X0 Y0 B0 b1'
  have x5 := X1.cell 5 rfl
  have y5 := Y1.cell 5 rfl
  go_wp2_with fail
  refine (eqBoolS_ok _ _ _ _ _ _ bs _ HH.out.2.1 HH.out.2.2.2.1 S1.out.1 S1.out.2 (by omega)).mono ?_
  rintro e w2 ⟨rfl, b2'⟩
  have b2 := bel_next b1 b2'
  go_wp2
  go_ret
  exact ⟨rfl, b2⟩
end Go.Proofs.YtmhdneenjoelfaaGreat
namespace Go.Proofs.YtmhdneenjoelfaaGreat
open Go.RowKit Go.Joins
set_option linter.unusedVariables false
set_option linter.unusedSimpArgs false
abbrev SlOd (w : World) (a : Option Addr) (n : Nat) (f : Nat → Od) : Prop := SlL w a 8 n (fun k => odE (f k))
def BdOd (n : Nat) (f : Nat → Od) : Prop := n ≤ 2000000 ∧ ∀ k, k < n → (f k).ws.length ≤ 2000000 ∧ (f k).bs.length ≤ 2000000
abbrev SlDn (w : World) (a : Option Addr) (n : Nat) (f : Nat → Dn) : Prop := SlL w a 8 n (fun k => dnE (f k))
theorem SlDn.eight {w : World} {a : Option Addr} {n : Nat} {f : Nat → Dn} (h : SlL w a 8 n (fun k => dnE (f k))) {k : Nat} (hk : k < n) : ∃ b off a1 a2 l1 l2 c1 c2, a = some ⟨b, off, none⟩ ∧ b < w.heap.size ∧ l1 = (f k).ws.length ∧ l2 = (f k).bs.length ∧
    (w.cell? ⟨b, off + k * 8, none⟩ = some (.int .i64 (f k).id) ∧ w.cell? ⟨b, off + k * 8 + 1, none⟩ = some (.int .i64 (f k).pa) ∧ w.cell? ⟨b, off + k * 8 + 2, none⟩ = some (.int .i64 (f k).kd) ∧ w.cell? ⟨b, off + k * 8 + 3, none⟩ = some (.int .i64 (f k).fl) ∧ w.cell? ⟨b, off + k * 8 + 4, none⟩ = some (.int .i64 (f k).pl) ∧ w.cell? ⟨b, off + k * 8 + 5, none⟩ = some (.int .i64 (f k).n) ∧ w.cell? ⟨b, off + k * 8 + 6, none⟩ = some (.slice a1 l1 c1) ∧ w.cell? ⟨b, off + k * 8 + 7, none⟩ = some (.slice a2 l2 c2)) ∧ SlI w a1 (f k).ws ∧ SlB w a2 (f k).bs := by
  obtain ⟨b, off, a1, a2, c1, c2, ha, hb, hc, s1, s2⟩ := SlL.at h hk
  exact ⟨b, off, a1, a2, _, _, c1, c2, ha, hb, rfl, rfl, ⟨hc 0 (by decide), hc 1 (by decide), hc 2 (by decide), hc 3 (by decide), hc 4 (by decide), hc 5 (by decide), hc 6 (by decide), hc 7 (by decide)⟩, s1, s2⟩
set_option maxRecDepth 20000 in
set_option maxHeartbeats 2000000 in
theorem eqDone_true (C : Dn) (a1 a2 a1' a2' : Option Addr) (l1 l2 c1 c2 c1' c2' : Nat) (w : World) (h1 : l1 = C.ws.length) (h2 : l2 = C.bs.length) (s1 : SlI w a1 C.ws) (s2 : SlB w a2 C.bs) (s1' : SlI w a1' C.ws) (s2' : SlB w a2' C.bs) (hl1 : C.ws.length ≤ 2000000) (hl2 : C.bs.length ≤ 2000000) :
    Calls Tryz.prog 60 #[.agg (dnd C a1 a2 l1 l2 c1 c2), .agg (dnd C a1' a2' l1 l2 c1' c2')] w fun e w' => e = .returned (.bool true) ∧ Below w.heap.size w w' := by
  have B0 : Below w.heap.size w ((w.alloc (.cells (dnd C a1 a2 l1 l2 c1 c2) 43)).alloc (.cells (dnd C a1' a2' l1 l2 c1' c2') 43)) := bel_nx (bel_alloc _ _) (bel_alloc _ _)
  have HS : Hid (SlI w a1 C.ws ∧ SlB w a2 C.bs ∧ SlI w a1' C.ws ∧ SlB w a2' C.bs ∧ l1 = C.ws.length ∧ l2 = C.bs.length) := ⟨s1, s2, s1', s2', h1, h2⟩
  clear s1 s2 s1' s2' h1 h2
  go_enter Tryz.func60, Tryz.ntmps60
  go_wp2_with fail
  refine (eqResp_true C.kd C.fl C.pl C.n a1 a2 a1' a2' l1 l2 l1 l2 c1 c2 c1' c2' C.ws C.bs _ HS.out.2.2.2.2.1 HS.out.2.2.2.2.2 HS.out.2.2.2.2.1 HS.out.2.2.2.2.2 (HS.out.1.below B0) (HS.out.2.1.below B0) (HS.out.2.2.1.below B0) (HS.out.2.2.2.1.below B0) (by omega) (by omega)).mono ?_
  rintro e w1 ⟨rfl, b1⟩
  have B1 := bel_nx B0 b1
  clear B0 b1
  go_wp2
  go_ret
  exact ⟨rfl, B1⟩
def BdDn (n : Nat) (f : Nat → Dn) : Prop := n ≤ 2000000 ∧ ∀ k, k < n → (f k).ws.length ≤ 2000000 ∧ (f k).bs.length ≤ 2000000
set_option maxRecDepth 20000 in
set_option maxHeartbeats 2000000 in
theorem eqDoneS_true (a a' : Option Addr) (n c c' : Nat) (f : Nat → Dn) (w : World) (h : SlDn w a n f) (h' : SlDn w a' n f) (hb : BdDn n f) :
    Calls Tryz.prog 18 #[.slice a n c, .slice a' n c'] w fun e w' => e = .returned (.bool true) ∧ Below w.heap.size w w' := by
  have HH : Hid (SlDn w a n f ∧ SlDn w a' n f ∧ BdDn n f) := ⟨h, h', hb⟩
  have hn8 : n ≤ 2000000 := hb.1
  clear h h' hb
  go_enter Tryz.func18, Tryz.ntmps18
  go_wp2
  go_loopw [5] (fun i wr => ∃ z : Nat, z ≤ n ∧ i = .int .i64 z ∧ Below w.heap.size w wr) (fun i _ => n - (intOf i).toNat)
  case atStart => exact ⟨0, Nat.zero_le _, rfl, Below.refl _ _⟩
  case round =>
    obtain ⟨z, hz, rfl, hbl⟩ := hrel
    by_cases hlt : z < n
    · have hi : (z : Int) < (n : Int) := by omega
      obtain ⟨g, off, a1, a2, l1, l2, c1, c2, rfl, hb0, hl1, hl2, ⟨d0, d1, d2, d3, d4, d5, d6, d7⟩, s1, s2⟩ := SlDn.eight (HH.out.1.below hbl) hlt
      obtain ⟨g', off', a1', a2', l1', l2', c1', c2', rfl, hb0', hl1', hl2', ⟨e0, e1, e2, e3, e4, e5, e6, e7⟩, s1', s2'⟩ := SlDn.eight (HH.out.2.1.below hbl) hlt
      obtain ⟨C, hC⟩ : ∃ C, C = f z := ⟨_, rfl⟩
      obtain rfl : l1' = l1 := by omega
      obtain rfl : l2' = l2 := by omega
      rw [← hC] at d0 d1 d2 d3 d4 d5 e0 e1 e2 e3 e4 e5 s1 s2 s1' s2' hl1 hl2
      have HB : Hid (C.ws.length ≤ 2000000 ∧ C.bs.length ≤ 2000000 ∧ SlI wr a1 C.ws ∧ SlB wr a2 C.bs ∧ SlI wr a1' C.ws ∧ SlB wr a2' C.bs ∧ l1' = C.ws.length ∧ l2' = C.bs.length) := ⟨by rw [hC]; exact (HH.out.2.2.2 z hlt).1, by rw [hC]; exact (HH.out.2.2.2 z hlt).2, s1, s2, s1', s2', hl1, hl2⟩
      clear s1 s2 s1' s2' hC hl1 hl2 hl1' hl2' hb0 hb0'
      go_wp2_with fail
      go_region_with (go_at_call 60; refine (eqDone_true C a1 a2 a1' a2' l1' l2' c1 c2 c1' c2' _ HB.out.2.2.2.2.2.2.1 HB.out.2.2.2.2.2.2.2 (HB.out.2.2.1.below (by first | exact Below.refl _ _ | exact (Below.refl _ _).drew | exact (Below.refl _ _).drew.drew)) (HB.out.2.2.2.1.below (by first | exact Below.refl _ _ | exact (Below.refl _ _).drew | exact (Below.refl _ _).drew.drew)) (HB.out.2.2.2.2.1.below (by first | exact Below.refl _ _ | exact (Below.refl _ _).drew | exact (Below.refl _ _).drew.drew)) (HB.out.2.2.2.2.2.1.below (by first | exact Below.refl _ _ | exact (Below.refl _ _).drew | exact (Below.refl _ _).drew.drew)) HB.out.1 HB.out.2.1).mono ?_; rintro e w1 ⟨rfl, b1'⟩; have b1 : Below wr.heap.size wr w1 := bel_nx (by first | exact Below.refl _ _ | exact (Below.refl _ _).drew | exact (Below.refl _ _).drew.drew) b1'; clear b1')
      all_goals (
        have B1 := bel_nx hbl b1
        clear hbl b1 d0 d1 d2 d3 d4 d5 d6 d7 e0 e1 e2 e3 e4 e5 e6 e7
        go_wp2
        go_roundw
        case rel => exact ⟨z + 1, by omega, by go_num, B1⟩
        case measure => simp [intOf]; omega)
    · have hi : ¬ (z : Int) < (n : Int) := by omega
      go_wp2
      go_ret
      exact ⟨rfl, hbl⟩
end Go.Proofs.YtmhdneenjoelfaaGreat
namespace Go.Proofs.YtmhdneenjoelfaaGreat
open Go.RowKit Go.Joins
set_option linter.unusedVariables false
set_option linter.unusedSimpArgs false
abbrev rp0 : Array Value := #[.int .i64 0, .int .i64 0, .int .i64 0, .int .i64 0, .slice none 0 0, .slice none 0 0]
def RrP (w w' : World) (e : Ending) (kd fl pl nn : Int) (l1 l2 : Nat) (ws : List Int) (bs : List Bool) : Prop :=
  ∃ a1 a2 c1 c2, e = .returned (.agg (rpL kd fl pl nn a1 a2 l1 l2 c1 c2)) ∧ OwnI w' w.heap.size (.slice a1 l1 c1) ws ∧ OwnB w' w.heap.size (.slice a2 l2 c2) bs ∧ Below w.heap.size w w'
def CrP (w : World) (B : Nat) (kd fl pl nn : Int) (m1 m2 : Nat) (ws : List Int) (bs : List Bool) (wx : World) : Prop :=
  ∃ g1 g2, Blk wx B 37 (rpL kd fl pl nn (some ⟨g1, 0, none⟩) (some ⟨g2, 0, none⟩) m1 m2 m1 m2) ∧ OwnI wx w.heap.size (.slice (some ⟨g1, 0, none⟩) m1 m1) ws ∧ OwnB wx w.heap.size (.slice (some ⟨g2, 0, none⟩) m2 m2) bs ∧ Blk wx (B + 1) 37 rp0 ∧ Below w.heap.size w wx
theorem crA {w u : World} {B : Nat} {kd fl pl nn : Int} {q1 q2 : Option Addr} {m1 m2 k1 k2 g1 g2 : Nat} {ws : List Int} {bs : List Bool} (hB : Blk u B 37 (rpL kd fl pl nn q1 q2 m1 m2 k1 k2)) (o1 : OwnI u w.heap.size (.slice (some ⟨g1, 0, none⟩) m1 m1) ws) (o2 : OwnB u w.heap.size (.slice (some ⟨g2, 0, none⟩) m2 m2) bs) (hR : Blk u (B + 1) 37 rp0) (hb : Below w.heap.size w u) (hBw : w.heap.size ≤ B) :
    CrP w B kd fl pl nn m1 m2 ws bs ((u.setCell ⟨B, 4, none⟩ (.slice (some ⟨g1, 0, none⟩) m1 m1)).setCell ⟨B, 5, none⟩ (.slice (some ⟨g2, 0, none⟩) m2 m2)) := by
  refine ⟨g1, g2, ?_, row_setE (row_setE o1 ⟨_, hB⟩ (by decide)) (ExB.set ⟨_, hB⟩) (by decide), row_setE (row_setE o2 ⟨_, hB⟩ (by decide)) (ExB.set ⟨_, hB⟩) (by decide), (hR.setNe (by omega)).setNe (by omega), (hb.setCell (p := ⟨B, 4, none⟩) hBw _).setCell (p := ⟨B, 5, none⟩) hBw _⟩
  have h9 := (hB.set 4 (.slice (some ⟨g1, 0, none⟩) m1 m1)).set 5 (.slice (some ⟨g2, 0, none⟩) m2 m2)
  simpa using h9
set_option maxRecDepth 20000 in
set_option maxHeartbeats 1000000 in
theorem implCopyResp_any (kd fl pl nn : Int) (q1 q2 : Option Addr) (m1 m2 k1 k2 : Nat) (ws : List Int) (bs : List Bool) (w : World) (h1 : m1 = ws.length) (h2 : m2 = bs.length) (s1 : SlI w q1 ws) (s2 : SlB w q2 bs) (hl1 : m1 ≤ 2000000) (hl2 : m2 ≤ 2000000) :
    Calls Tryz.prog 40 #[.agg (rpL kd fl pl nn q1 q2 m1 m2 k1 k2)] w fun e w' => RrP w w' e kd fl pl nn m1 m2 ws bs := by
  obtain ⟨B, hB⟩ : ∃ B, B = w.heap.size := ⟨_, rfl⟩
  obtain ⟨W, hW⟩ : ∃ W, W = (w.alloc (.cells (rpL kd fl pl nn q1 q2 m1 m2 k1 k2) 37)).alloc (.cells rp0 37) := ⟨_, rfl⟩
  have bW : Below w.heap.size w W := by rw [hW]; exact bel_nx (bel_alloc _ _) (bel_alloc _ _)
  have HW : Hid (Below w.heap.size w W ∧ Blk W B 37 (rpL kd fl pl nn q1 q2 m1 m2 k1 k2) ∧ Blk W (B + 1) 37 rp0 ∧ SlI W q1 ws ∧ SlB W q2 bs ∧ m1 = ws.length ∧ m2 = bs.length ∧ w.heap.size ≤ B) := ⟨bW, by rw [hW, hB]; exact (Blk.new w _ _).below (bel_alloc _ _), by rw [hW, hB]; have := Blk.new (w.alloc (.cells (rpL kd fl pl nn q1 q2 m1 m2 k1 k2) 37)) rp0 37; simpa using this, s1.below bW, s2.below bW, h1, h2, by omega⟩
  clear bW h1 h2 s1 s2
  go_enter Tryz.func40, Tryz.ntmps40
  go_upto_region 1 with fail
  rw [← hW]
  have hB1 : w.heap.size + 1 = B + 1 := by omega
  rw [hB1, ← hB]
  clear hW hB hB1
  obtain ⟨y0, y1, y2, y3, y4, y5⟩ := HW.out.2.1.six3
  go_cut [] (fun wx => CrP w B kd fl pl nn m1 m2 ws bs wx)
  case first =>
    go_region_with (first
      | (go_at_call 96; refine (copyOfI q1 m1 k1 ws _ HW.out.2.2.2.2.2.1 (HW.out.2.2.2.1.below (by first | exact Below.refl _ _ | exact (Below.refl _ _).drew | exact (Below.refl _ _).drew.drew)) (by have := HW.out.2.2.2.2.2.1; omega)).mono ?_; rintro e w1 ⟨g1, rfl, O1', b1'⟩; have H1 : Hid (Below W.heap.size W w1 ∧ OwnI w1 w.heap.size (.slice (some ⟨g1, 0, none⟩) m1 m1) ws) := (by have b9 : Below W.heap.size W w1 := bel_nx (by first | exact Below.refl _ _ | exact (Below.refl _ _).drew | exact (Below.refl _ _).drew.drew) b1'; exact ⟨b9, OwnI.mono (show OwnI _ _ _ _ from O1') HW.out.1.size⟩); clear O1' b1'; obtain ⟨z0, z1, z2, z3, z4, z5⟩ := (HW.out.2.1.below H1.out.1).six3; have zf := (HW.out.2.1.below H1.out.1).fro; have zf3 := zf 4; have zf4 := zf 5)
      | (go_at_call 97; refine (copyOfB q2 m2 k2 bs _ HW.out.2.2.2.2.2.2.1 (HW.out.2.2.2.2.1.below (by first | exact H1.out.1 | exact H1.out.1.drew | exact H1.out.1.drew.drew)) (by have := HW.out.2.2.2.2.2.2.1; omega)).mono ?_; rintro e w2 ⟨g2, rfl, O2', b2'⟩; have H2 : Hid (Below W.heap.size W w2 ∧ OwnI w2 w.heap.size (.slice (some ⟨g1, 0, none⟩) m1 m1) ws ∧ OwnB w2 w.heap.size (.slice (some ⟨g2, 0, none⟩) m2 m2) bs) := (by have b8 : Below w1.heap.size w1 w2 := bel_nx (by first | exact Below.refl _ _ | exact (Below.refl _ _).drew | exact (Below.refl _ _).drew.drew) b2'; have b9 := bel_nx H1.out.1 b8; exact ⟨b9, H1.out.2.below b8, OwnB.mono (show OwnB _ _ _ _ from O2') (Nat.le_trans HW.out.1.size (Nat.le_trans H1.out.1.size (by first | exact Nat.le_refl _ | (simp))))⟩); clear O2' b2'; obtain ⟨x0, x1, x2, x3, x4, x5⟩ := (HW.out.2.1.below H2.out.1).six3; have xf := (HW.out.2.1.below H2.out.1).fro; have xf3 := xf 4; have xf4 := xf 5))
    all_goals (go_wp2_with fail; go_meet; first | exact crA (HW.out.2.1.below H2.out.1) H2.out.2.1 H2.out.2.2 (HW.out.2.2.1.below H2.out.1) (bel_nx HW.out.1 H2.out.1) HW.out.2.2.2.2.2.2.2 | exact crB (HW.out.2.1.below H2.out.1) H2.out.2.1 H2.out.2.2 (HW.out.2.2.1.below H2.out.1) (bel_nx HW.out.1 H2.out.1) HW.out.2.2.2.2.2.2.2)
  case rest =>
  obtain ⟨g1, g2, X1, O1, O2, R1, b1⟩ := hcut
  rename World => u
  have HX : Hid (OwnI u w.heap.size (.slice (some ⟨g1, 0, none⟩) m1 m1) ws ∧ OwnB u w.heap.size (.slice (some ⟨g2, 0, none⟩) m2 m2) bs ∧ Below w.heap.size w u ∧ Blk u (B + 1) 37 rp0) := ⟨O1, O2, b1, R1⟩
  clear y0 y1 y2 y3 y4 y5
  obtain ⟨y0, y1, y2, y3, y4, y5⟩ := X1.six3
  obtain ⟨x0, x1, x2, x3, x4, x5⟩ := R1.six3
  have f0 := R1.fro 0
  have f1 := R1.fro 1
  have f2 := R1.fro 2
  have f3 := R1.fro 3
  have f4 := R1.fro 4
  have f5 := R1.fro 5
  have HY : Hid (OwnI (setL u (B + 1) 0 (rpL kd fl pl nn (some ⟨g1, 0, none⟩) (some ⟨g2, 0, none⟩) m1 m2 m1 m2).toList) w.heap.size (.slice (some ⟨g1, 0, none⟩) m1 m1) ws ∧ OwnB (setL u (B + 1) 0 (rpL kd fl pl nn (some ⟨g1, 0, none⟩) (some ⟨g2, 0, none⟩) m1 m2 m1 m2).toList) w.heap.size (.slice (some ⟨g2, 0, none⟩) m2 m2) bs ∧ Below w.heap.size w (setL u (B + 1) 0 (rpL kd fl pl nn (some ⟨g1, 0, none⟩) (some ⟨g2, 0, none⟩) m1 m2 m1 m2).toList)) := ⟨row_stL O1 ⟨_, R1⟩ (by decide), row_stL O2 ⟨_, R1⟩ (by decide), setL_below (by have := HW.out.2.2.2.2.2.2.2; omega) _ _ _ b1⟩
  clear X1 O1 O2 R1 b1 HX HW
  go_wp2
  refine bodyPost_ret (v := .agg (rpL kd fl pl nn (some ⟨g1, 0, none⟩) (some ⟨g2, 0, none⟩) m1 m2 m1 m2)) (by simp [results, Tryz.results40, go_sem, x0, x1, x2, x3, x4, x5]) rfl ⟨_, _, _, _, rfl, HY.out.1, HY.out.2.1, HY.out.2.2⟩
def RespPst (w w' : World) (e : Ending) (kd fl pl nn : Int) (ws : List Int) (bs : List Bool) : Prop :=
  ∃ r1 r2 l1 l2 c1 c2, e = .returned (.agg (rpL kd fl pl nn r1 r2 l1 l2 c1 c2)) ∧ l1 = ws.length ∧ l2 = bs.length ∧ OwnI w' w.heap.size (.slice r1 l1 c1) ws ∧ OwnB w' w.heap.size (.slice r2 l2 c2) bs ∧ Below w.heap.size w w'
set_option maxRecDepth 20000 in
set_option maxHeartbeats 1000000 in
theorem specCopyResp_q (kd fl pl nn : Int) (q1 q2 : Option Addr) (m1 m2 k1 k2 : Nat) (ws : List Int) (bs : List Bool) (w : World) (h1 : m1 = ws.length) (h2 : m2 = bs.length) (s1 : SlI w q1 ws) (s2 : SlB w q2 bs) (hl1 : ws.length ≤ 2000000) (hl2 : bs.length ≤ 2000000) :
    Calls Tryz.prog 72 #[.agg (rpL kd fl pl nn q1 q2 m1 m2 k1 k2)] w fun e w' => RespPst w w' e kd fl pl nn ws bs := by
  obtain ⟨B, hB⟩ : ∃ B, B = w.heap.size := ⟨_, rfl⟩
  obtain ⟨W, hW⟩ : ∃ W, W = (w.alloc (.cells (rpL kd fl pl nn q1 q2 m1 m2 k1 k2) 37)).alloc (.cells #[.int .i64 0, .int .i64 0, .int .i64 0, .int .i64 0, .slice none 0 0, .slice none 0 0] 37) := ⟨_, rfl⟩
  have bW : Below w.heap.size w W := by rw [hW]; exact bel_nx (bel_alloc _ _) (bel_alloc _ _)
  have HW : Hid (Below w.heap.size w W ∧ Blk W B 37 (rpL kd fl pl nn q1 q2 m1 m2 k1 k2) ∧ Blk W (B + 1) 37 #[.int .i64 0, .int .i64 0, .int .i64 0, .int .i64 0, .slice none 0 0, .slice none 0 0] ∧ w.heap.size ≤ W.heap.size) := ⟨bW, by rw [hW, hB]; exact (Blk.new w _ _).below (bel_alloc _ _), by rw [hW, hB]; have := Blk.new (w.alloc (.cells (rpL kd fl pl nn q1 q2 m1 m2 k1 k2) 37)) #[.int .i64 0, .int .i64 0, .int .i64 0, .int .i64 0, .slice none 0 0, .slice none 0 0] 37; simpa using this, bW.size⟩
  have HS : Hid (m1 = ws.length ∧ m2 = bs.length ∧ SlI w q1 ws ∧ SlB w q2 bs ∧ w.heap.size = B) := ⟨h1, h2, s1, s2, hB.symm⟩
  clear bW h1 h2 s1 s2
  go_enter Tryz.func72, Tryz.ntmps72
  go_upto_region 1 with fail
  rw [← hW, ← hB]
  clear hW hB
  obtain ⟨⟨y0, y1, y2, y3, y4, y5⟩, _⟩ := (HW.out.2.1.below (bel_alloc W (.cells #[] 3))).six2
  go_upto_region 2 with (at_builtin; refine wpList_appIO rfl (.tmp 3) (.tmp 5) rfl w.heap.size (.slice (some ⟨W.heap.size, 0, none⟩) 0 0) [] rfl (newI W w.heap.size HW.out.2.2.2) q1 m1 k1 ws rfl HS.out.1 (HS.out.2.2.1.below (bel_nx HW.out.1 (bel_alloc _ _))) (by simp; omega) (by have := HW.out.2.2.2; simp; omega) ?_; intro v1 w1 O1 g1'; have g1 : (W.alloc (.cells #[] 3)).grownBy w1 (some W.heap.size) := g1'; clear g1'; have HU : Hid (OwnI w1 w.heap.size v1 ws ∧ Below w.heap.size w w1 ∧ Blk w1 B 37 (rpL kd fl pl nn q1 q2 m1 m2 k1 k2) ∧ Blk w1 (B + 1) 37 #[.int .i64 0, .int .i64 0, .int .i64 0, .int .i64 0, .slice none 0 0, .slice none 0 0]) := ⟨by simpa using O1, grown_below2 (bel_nx HW.out.1 (bel_alloc _ _)) g1 HW.out.2.2.2 (by have := HW.out.2.2.2; simp; omega), (HW.out.2.1.below (bel_alloc _ _)).grown g1 (by have := HW.out.2.1.lt; intro e9; have := Option.some.inj e9; omega), (HW.out.2.2.1.below (bel_alloc _ _)).grown g1 (by have := HW.out.2.2.1.lt; intro e9; have := Option.some.inj e9; omega)⟩; clear O1 g1; obtain ⟨a1, c1, n1, hv1, hn1⟩ := ownI_shape2 HU.out.1; subst hv1; have HN1 : Hid (n1 = ws.length) := hn1; clear hn1; obtain ⟨⟨x0, x1, x2, x3, x4, x5⟩, ⟨f0, f1, f2, f3, f4, f5⟩⟩ := HU.out.2.2.1.six2)
  obtain ⟨W2, hW2⟩ : ∃ W2, W2 = w1.setCell ⟨B, 4, none⟩ (.slice a1 n1 c1) := ⟨_, rfl⟩
  have HV : Hid (OwnI W2 w.heap.size (.slice a1 n1 c1) ws ∧ Below w.heap.size w W2 ∧ Blk W2 B 37 (rpL kd fl pl nn a1 q2 n1 m2 c1 k2) ∧ Blk W2 (B + 1) 37 #[.int .i64 0, .int .i64 0, .int .i64 0, .int .i64 0, .slice none 0 0, .slice none 0 0] ∧ w.heap.size ≤ W2.heap.size) := by
    have hb : Below w.heap.size w W2 := by rw [hW2]; exact HU.out.2.1.setCell (p := ⟨B, 4, none⟩) (by show w.heap.size ≤ B; rw [HS.out.2.2.2.2]; exact Nat.le_refl _) _
    exact ⟨by rw [hW2]; exact row_setE HU.out.1 ⟨_, HU.out.2.2.1⟩ (by decide), hb, by rw [hW2]; have h9 := HU.out.2.2.1.set 4 (.slice a1 n1 c1); simpa using h9, by rw [hW2]; exact HU.out.2.2.2.setNe (by omega), hb.size⟩
  rw [← hW2]
  clear hW2 HU x0 x1 x2 x3 x4 x5 f0 f1 f2 f3 f4 f5 y0 y1 y2 y3 y4 y5 HW
  obtain ⟨⟨y0, y1, y2, y3, y4, y5⟩, _⟩ := (HV.out.2.2.1.below (bel_alloc W2 (.cells #[] 4))).six2
  go_upto_region 3 with (at_builtin; refine wpList_appBO rfl (.tmp 8) (.tmp 10) rfl w.heap.size (.slice (some ⟨W2.heap.size, 0, none⟩) 0 0) [] rfl (newB W2 w.heap.size HV.out.2.2.2.2) q2 m2 k2 bs rfl HS.out.2.1 (HS.out.2.2.2.1.below (bel_nx HV.out.2.1 (bel_alloc _ _))) (by simp; omega) (by have := HV.out.2.2.2.2; simp; omega) ?_; intro v2 w2 O2 g2'; have g2 : (W2.alloc (.cells #[] 4)).grownBy w2 (some W2.heap.size) := g2'; clear g2'; have HU : Hid (OwnB w2 w.heap.size v2 bs ∧ Below w.heap.size w w2 ∧ Blk w2 B 37 (rpL kd fl pl nn a1 q2 n1 m2 c1 k2) ∧ Blk w2 (B + 1) 37 #[.int .i64 0, .int .i64 0, .int .i64 0, .int .i64 0, .slice none 0 0, .slice none 0 0] ∧ OwnI w2 w.heap.size (.slice a1 n1 c1) ws) := ⟨by simpa using O2, grown_below2 (bel_nx HV.out.2.1 (bel_alloc _ _)) g2 HV.out.2.2.2.2 (by have := HV.out.2.2.2.2; simp; omega), (HV.out.2.2.1.below (bel_alloc _ _)).grown g2 (by have := HV.out.2.2.1.lt; intro e9; have := Option.some.inj e9; omega), (HV.out.2.2.2.1.below (bel_alloc _ _)).grown g2 (by have := HV.out.2.2.2.1.lt; intro e9; have := Option.some.inj e9; omega), (OwnI.below HV.out.1 (bel_alloc _ _)).kept g2 (.inr (by intro e9; have := (World.ownsRow.lt HV.out.1 _ e9).2; simp at this))⟩; clear O2 g2; obtain ⟨a2, c2, n2, hv2, hn2⟩ := ownB_shape HU.out.1; subst hv2; have HN2 : Hid (n2 = bs.length) := hn2; clear hn2; obtain ⟨⟨x0, x1, x2, x3, x4, x5⟩, ⟨f0, f1, f2, f3, f4, f5⟩⟩ := HU.out.2.2.1.six2)
  obtain ⟨W3, hW3⟩ : ∃ W3, W3 = w2.setCell ⟨B, 5, none⟩ (.slice a2 n2 c2) := ⟨_, rfl⟩
  have HX : Hid (OwnI W3 w.heap.size (.slice a1 n1 c1) ws ∧ OwnB W3 w.heap.size (.slice a2 n2 c2) bs ∧ Below w.heap.size w W3 ∧ Blk W3 B 37 (rpL kd fl pl nn a1 a2 n1 n2 c1 c2) ∧ Blk W3 (B + 1) 37 #[.int .i64 0, .int .i64 0, .int .i64 0, .int .i64 0, .slice none 0 0, .slice none 0 0]) := by
    have hb : Below w.heap.size w W3 := by rw [hW3]; exact HU.out.2.1.setCell (p := ⟨B, 5, none⟩) (by show w.heap.size ≤ B; rw [HS.out.2.2.2.2]; exact Nat.le_refl _) _
    exact ⟨by rw [hW3]; exact row_setE HU.out.2.2.2.2 ⟨_, HU.out.2.2.1⟩ (by decide), by rw [hW3]; exact row_setE HU.out.1 ⟨_, HU.out.2.2.1⟩ (by decide), hb, by rw [hW3]; have h9 := HU.out.2.2.1.set 5 (.slice a2 n2 c2); simpa using h9, by rw [hW3]; exact HU.out.2.2.2.1.setNe (by omega)⟩
  rw [← hW3]
  clear hW3 HU HV x0 x1 x2 x3 x4 x5 f0 f1 f2 f3 f4 f5 y0 y1 y2 y3 y4 y5
  obtain ⟨⟨y0, y1, y2, y3, y4, y5⟩, _⟩ := HX.out.2.2.2.1.six2
  obtain ⟨⟨x0, x1, x2, x3, x4, x5⟩, ⟨f0, f1, f2, f3, f4, f5⟩⟩ := HX.out.2.2.2.2.six2
  have HY : Hid (OwnI (setL W3 (B + 1) 0 (rpL kd fl pl nn a1 a2 n1 n2 c1 c2).toList) w.heap.size (.slice a1 n1 c1) ws ∧ OwnB (setL W3 (B + 1) 0 (rpL kd fl pl nn a1 a2 n1 n2 c1 c2).toList) w.heap.size (.slice a2 n2 c2) bs ∧ Below w.heap.size w (setL W3 (B + 1) 0 (rpL kd fl pl nn a1 a2 n1 n2 c1 c2).toList)) := ⟨row_stL HX.out.1 ⟨_, HX.out.2.2.2.2⟩ (by decide), row_stL HX.out.2.1 ⟨_, HX.out.2.2.2.2⟩ (by decide), setL_below (by have := HS.out.2.2.2.2; omega) _ _ _ HX.out.2.2.1⟩
  clear HX
  go_wp2
  refine bodyPost_ret (v := .agg (rpL kd fl pl nn a1 a2 n1 n2 c1 c2)) (by simp [results, Tryz.results72, go_sem, x0, x1, x2, x3, x4, x5]) rfl ⟨a1, a2, n1, n2, c1, c2, rfl, HN1.out, HN2.out, HY.out.1, HY.out.2.1, HY.out.2.2⟩
theorem specCopyResp_any (kd fl pl nn : Int) (q1 q2 : Option Addr) (m1 m2 k1 k2 : Nat) (ws : List Int) (bs : List Bool) (w : World) (h1 : m1 = ws.length) (h2 : m2 = bs.length) (s1 : SlI w q1 ws) (s2 : SlB w q2 bs) (hl1 : m1 ≤ 2000000) (hl2 : m2 ≤ 2000000) :
    Calls Tryz.prog 72 #[.agg (rpL kd fl pl nn q1 q2 m1 m2 k1 k2)] w fun e w' => RrP w w' e kd fl pl nn m1 m2 ws bs := by
  refine (specCopyResp_q kd fl pl nn q1 q2 m1 m2 k1 k2 ws bs w h1 h2 s1 s2 (by omega) (by omega)).mono ?_
  rintro e w' ⟨r1, r2, l1, l2, c1, c2, he, e1, e2, o1, o2, hb⟩
  obtain rfl : l1 = m1 := by omega
  obtain rfl : l2 = m2 := by omega
  exact ⟨r1, r2, c1, c2, he, o1, o2, hb⟩
end Go.Proofs.YtmhdneenjoelfaaGreat
namespace Go.Proofs.YtmhdneenjoelfaaGreat
open Go.RowKit Go.Joins
set_option linter.unusedVariables false
set_option linter.unusedSimpArgs false
theorem wpList_bs {P : Program} {ops : Array Oper} {rest : List Oper} {op : Oper} {a : Act} {w w' : World} {Q : Exit → Act → World → Prop} (hgd : op.guard = none) (t : TypeId) (k : Nat) (ps : Array (Nat × Operand)) (ho : op.op = .buildSlice t k ps) (qs : Array (Nat × Value)) (hq : ps.map (fun (i, x) => (i, a.eval x)) = qs) (v : Value) (hr : (Instr.buildSlice t k qs).run P w = .ok v w')
    (h : wpList P ops Q rest (a.put op.dst v) w') : wpList P ops Q (op :: rest) a w :=
  wpList_plain hgd fun K hK => by
    unfold Oper.wp execOp
    simp only [ho, hq]
    rw [Sem.run_bind, hr]
    exact hK _ _ h
theorem run_bs_op {P : Program} {ρ : Operand → Value} {o : Oper} {u u' : World} {t : TypeId} {k : Nat} {ps : Array (Nat × Operand)} {qs : Array (Nat × Value)} {v : Value} (ho : o.op = .buildSlice t k ps) (ha : ps.map (fun (i, x) => (i, ρ x)) = qs) (hr : (Instr.buildSlice t k qs).run P u = .ok v u') : (execOp ρ o).run P u = .ok (.value v) u' := by
  unfold execOp
  simp only [ho, ha]
  rw [Sem.run_bind, hr]
  rfl
theorem run_bsD (D : Dn) (a1 a2 : Option Addr) (l1 l2 c1 c2 : Nat) (w : World) : (Instr.buildSlice 39 1 #[(0, .agg (dnd D a1 a2 l1 l2 c1 c2))]).run Tryz.prog w = .ok (.slice (some ⟨w.heap.size, 0, none⟩) 1 1) (w.alloc (.cells (dnd D a1 a2 l1 l2 c1 c2) 43)) := by kernel_rfl
theorem run_bs0D (w : World) : (Instr.buildSlice 39 0 #[]).run Tryz.prog w = .ok (.slice (some ⟨w.heap.size, 0, none⟩) 0 0) (w.alloc (.cells #[] 43)) := by kernel_rfl
theorem topL_one {w : World} {base lo : Nat} {t : TypeId} {v : Value} {vs : List Value} {E : El} (h : w.ownsRow base t 8 v 1 vs) (hl : vs.length = 8) (p : ElAt w lo w.heap.size vs E) (hlo : base ≤ lo) (hlw : lo ≤ w.heap.size) : ∃ a c, v = .slice a 1 c ∧ TopL w base w.heap.size t 8 (.slice a 1 c) 1 (fun _ => E) := by
  rcases h.2 with ⟨hv, h0⟩ | ⟨g, cap, cur, hv, hb, hh, hle, _, hs, ht⟩
  · cases h0
  · refine ⟨_, _, hv, fun _ => vs, fun k => if k = 0 then lo else w.heap.size, .inr ⟨g, 0, cap, rfl, hb, cur, hh, by rw [hs]; omega, fun k hk j hj => ?_⟩, ⟨by simpa using hlo, fun k => ?_, fun k hk => ?_⟩, by simp, fun g' o m c he h0 => ?_⟩
    · obtain rfl : k = 0 := by omega
      have hlt : j < 1 * 8 := by omega
      have e0 : 0 + 0 * 8 + j = j := by omega
      show cur[0 + 0 * 8 + j]? = vs[j]?
      rw [e0, ← ht, List.getElem?_take, if_pos hlt, Array.getElem?_toList]
    · by_cases e : k = 0
      · subst e; simpa using hlw
      · simp [e]
    · obtain rfl : k = 0 := by omega
      simpa using p
    · simp only [Value.slice.injEq, Option.some.injEq, Addr.mk.injEq] at he
      obtain ⟨⟨rfl, _, _⟩, _, _⟩ := he
      exact (Array.getElem?_eq_some_iff.1 hh).1
theorem topL_nil (w : World) (base hi : Nat) (t : TypeId) (s : Nat) (a : Option Addr) (c : Nat) (G : Nat → El) (h : base ≤ hi) : TopL w base hi t s (.slice a 0 c) 0 G := ⟨fun _ => [], fun _ => base, .inl ⟨rfl, a, c, rfl⟩, InE.start w base _ _, h, fun _ _ _ _ _ h => absurd h (Nat.lt_irrefl 0)⟩
theorem row_nil {w : World} {base g : Nat} {t : TypeId} {s : Nat} (hb : base ≤ g) (h : Blk w g t #[]) : w.ownsRow base t s (.slice (some ⟨g, 0, none⟩) 0 0) 0 [] := ⟨by simp, .inr ⟨g, 0, #[], rfl, hb, h, Nat.le_refl _, by simp, by simp, by simp⟩⟩
set_option maxRecDepth 20000 in
set_option maxHeartbeats 1000000 in
theorem asks_any (L : La) (a a1 a2 : Option Addr) (n cp l1 l2 c1 c2 B : Nat) (nu un : Int) (w : World) (hB : Blk w B 32 (lac L a n cp a1 a2 l1 l2 c1 c2)) :
    Calls Tryz.prog 37 #[.pointer (some ⟨B, 0, none⟩), .int .i64 nu, .int .i64 un] w fun e w' => e = .returned (.bool (L.bz && ((L.nu == nu) && (L.c.un == un)))) ∧ w' = w := by
  obtain ⟨⟨y0, y1, y2, y3, y4, y5, y6, y7, y8, y9, y10, y11, y12, y13, y14, y15, y16⟩, _⟩ := hB.svn
  obtain ⟨x0, hx0⟩ : ∃ x, L.bz = x := ⟨_, rfl⟩
  obtain ⟨x1, hx1⟩ : ∃ x, (L.nu == nu) = x := ⟨_, rfl⟩
  obtain ⟨x2, hx2⟩ : ∃ x, (L.c.un == un) = x := ⟨_, rfl⟩
  rw [hx0] at y1
  rw [hx0, hx1, hx2]
  clear hB hx0
  cases x0 <;> cases x1 <;> cases x2 <;> (
    go_enter Tryz.func37, Tryz.ntmps37
    go_wp2
    go_ret
    exact ⟨rfl, rfl⟩)
end Go.Proofs.YtmhdneenjoelfaaGreat
namespace Go.Proofs.YtmhdneenjoelfaaGreat
open Go.RowKit
set_option linter.unusedVariables false
set_option linter.unusedSimpArgs false
theorem first_diff {α : Type} [DecidableEq α] (d : α) : ∀ (zs ys : List α), zs.length = ys.length → zs ≠ ys → ∃ k, k < zs.length ∧ zs.getD k d ≠ ys.getD k d ∧ ∀ j, j < k → zs.getD j d = ys.getD j d
  | [], [], _, h => absurd rfl h
  | [], _ :: _, h, _ => by simp at h
  | _ :: _, [], h, _ => by simp at h
  | x :: r, y :: s, hl, hne => by
    by_cases e : x = y
    · subst e
      obtain ⟨k, h1, h2, h3⟩ := first_diff d r s (by simpa using hl) (fun h => hne (by rw [h]))
      refine ⟨k + 1, by simp; omega, by simpa using h2, fun j hj => ?_⟩
      cases j with
      | zero => simp
      | succ j => simpa using h3 j (by omega)
    · exact ⟨0, by simp, by simpa using e, fun j hj => by omega⟩
set_option maxHeartbeats 2000000 in
theorem equal_int_ne (a a' : Option Addr) (n n' cap cap' : Nat) (zs ys : List Int) (w : World) (hn : n = zs.length) (hn' : n' = zs.length) (hy : zs.length = ys.length) (hs : SlI w a zs) (hs' : SlI w a' ys) (hl : zs.length ≤ 2000000) (hne : zs ≠ ys) :
    Calls Tryz.prog 127 #[.slice a n cap, .slice a' n' cap'] w fun e w' => e = .returned (.bool false) ∧ Below w.heap.size w w' := by
  subst hn hn'
  obtain ⟨d, hd, hdn, hdj⟩ := first_diff 0 zs ys hy hne
  have HY : Hid (zs.length = ys.length) := hy
  have HD : Hid (∀ j, j < d → zs.getD j 0 = ys.getD j 0) := hdj
  clear hy hdj hne
  go_enter Tryz.func127, Tryz.ntmps127
  go_wp2
  go_loopw [13] (fun i wr => ∃ k : Nat, k ≤ d ∧ i = .int .i64 k ∧ ∃ n, wr = w.drewN n) (fun i _ => d - (intOf i).toNat)
  case atStart => exact ⟨0, Nat.zero_le _, rfl, 0, rfl⟩
  case round =>
    obtain ⟨k, hk, rfl, n, rfl⟩ := hrel
    have hlt : k < zs.length := by omega
    obtain ⟨b, off, rfl, _, hc⟩ := cell_atI hs hlt
    obtain ⟨b', off', rfl, _, hc'⟩ := cell_atI hs' (show k < ys.length by have := HY.out; omega)
    have hi : (k : Int) < (zs.length : Int) := by omega
    by_cases hkd : k < d
    · rw [← HD.out k hkd] at hc'
      clear hs hs'
      go_wp2
      go_quiet (fail)
      go_wp2
      go_roundw
      case rel => first | exact ⟨k + 1, by omega, by go_num, _, rfl⟩ | exact ⟨_, _, ⟨k + 1, by omega, by go_num, _, rfl⟩, rfl, rfl⟩
      case measure => simp [intOf]; omega
    · obtain rfl : k = d := by omega
      clear hs hs'
      generalize zs.getD k 0 = x at *
      generalize ys.getD k 0 = y at *
      go_wp2
      go_quiet (fail)
      go_wp2
      go_ret
      exact ⟨rfl, bel_drewN (drew_refl _ _) _⟩
set_option maxHeartbeats 2000000 in
theorem equal_bool_ne (a a' : Option Addr) (n n' cap cap' : Nat) (zs ys : List Bool) (w : World) (hn : n = zs.length) (hn' : n' = zs.length) (hy : zs.length = ys.length) (hs : SlB w a zs) (hs' : SlB w a' ys) (hl : zs.length ≤ 2000000) (hne : zs ≠ ys) :
    Calls Tryz.prog 126 #[.slice a n cap, .slice a' n' cap'] w fun e w' => e = .returned (.bool false) ∧ Below w.heap.size w w' := by
  subst hn hn'
  obtain ⟨d, hd, hdn, hdj⟩ := first_diff false zs ys hy hne
  have HY : Hid (zs.length = ys.length) := hy
  have HD : Hid (∀ j, j < d → zs.getD j false = ys.getD j false) := hdj
  clear hy hdj hne
  go_enter Tryz.func126, Tryz.ntmps126
  go_wp2
  go_loopw [13] (fun i wr => ∃ k : Nat, k ≤ d ∧ i = .int .i64 k ∧ ∃ n, wr = w.drewN n) (fun i _ => d - (intOf i).toNat)
  case atStart => exact ⟨0, Nat.zero_le _, rfl, 0, rfl⟩
  case round =>
    obtain ⟨k, hk, rfl, n, rfl⟩ := hrel
    have hlt : k < zs.length := by omega
    obtain ⟨b, off, rfl, _, hc⟩ := cell_atB hs hlt
    obtain ⟨b', off', rfl, _, hc'⟩ := cell_atB hs' (show k < ys.length by have := HY.out; omega)
    have hi : (k : Int) < (zs.length : Int) := by omega
    by_cases hkd : k < d
    · rw [← HD.out k hkd] at hc'
      clear hs hs'
      go_wp2
      go_quiet (fail)
      go_wp2
      go_roundw
      case rel => first | exact ⟨k + 1, by omega, by go_num, _, rfl⟩ | exact ⟨_, _, ⟨k + 1, by omega, by go_num, _, rfl⟩, rfl, rfl⟩
      case measure => simp [intOf]; omega
    · obtain rfl : k = d := by omega
      clear hs hs'
      generalize zs.getD k false = x at *
      generalize ys.getD k false = y at *
      obtain rfl : y = !x := by cases x <;> cases y <;> simp_all
      clear hdn
      cases x
      all_goals (
        go_wp2
        go_quiet (fail)
        go_wp2
        go_ret
        exact ⟨rfl, bel_drewN (drew_refl _ _) _⟩)
theorem equal_int_any (a a' : Option Addr) (n n' cap cap' : Nat) (zs ys : List Int) (w : World) (hn : n = zs.length) (hn' : n' = ys.length) (hs : SlI w a zs) (hs' : SlI w a' ys) (hl : zs.length ≤ 2000000) (hl' : ys.length ≤ 2000000) (b : Bool) (hb : decide (zs = ys) = b) :
    Calls Tryz.prog 127 #[.slice a n cap, .slice a' n' cap'] w fun e w' => e = .returned (.bool b) ∧ Below w.heap.size w w' := by
  subst hb
  by_cases h : zs = ys
  · subst h
    rw [decide_eq_true rfl]
    exact equal_int a a' n n' cap cap' zs w hn hn' hs hs' hl
  · rw [decide_eq_false h]
    by_cases hy : zs.length = ys.length
    · exact equal_int_ne a a' n n' cap cap' zs ys w hn (hn'.trans hy.symm) hy hs hs' hl h
    · exact equal_int_len a a' n n' cap cap' w (by omega) (by omega) (by omega)
theorem equal_bool_any (a a' : Option Addr) (n n' cap cap' : Nat) (zs ys : List Bool) (w : World) (hn : n = zs.length) (hn' : n' = ys.length) (hs : SlB w a zs) (hs' : SlB w a' ys) (hl : zs.length ≤ 2000000) (hl' : ys.length ≤ 2000000) (b : Bool) (hb : decide (zs = ys) = b) :
    Calls Tryz.prog 126 #[.slice a n cap, .slice a' n' cap'] w fun e w' => e = .returned (.bool b) ∧ Below w.heap.size w w' := by
  subst hb
  by_cases h : zs = ys
  · subst h
    rw [decide_eq_true rfl]
    exact equal_bool a a' n n' cap cap' zs w hn hn' hs hs' hl
  · rw [decide_eq_false h]
    by_cases hy : zs.length = ys.length
    · exact equal_bool_ne a a' n n' cap cap' zs ys w hn (hn'.trans hy.symm) hy hs hs' hl h
    · exact equal_bool_len a a' n n' cap cap' w (by omega) (by omega) (by omega)
set_option maxHeartbeats 2000000 in
theorem l4SameWords_any (a a' : Option Addr) (n n' cap cap' : Nat) (zs ys : List Int) (w : World) (hn : n = zs.length) (hn' : n' = ys.length) (hs : SlI w a zs) (hs' : SlI w a' ys) (hl : zs.length ≤ 2000000) (hl' : ys.length ≤ 2000000) (b : Bool) (hb : decide (zs = ys) = b) :
    Calls Tryz.prog 112 #[.slice a n cap, .slice a' n' cap'] w fun e w' => e = .returned (.bool b) ∧ Below w.heap.size w w' := by
  subst hb hn hn'
  by_cases hy : zs.length = ys.length
  · have hyi : (zs.length : Int) = (ys.length : Int) := by omega
    have HY : Hid (zs.length = ys.length) := hy
    by_cases h : zs = ys
    · subst h
      rw [decide_eq_true rfl]
      clear hy hyi
      go_enter Tryz.func112, Tryz.ntmps112
      go_wp2
      go_loopw [5] (fun i wr => ∃ k : Nat, k ≤ zs.length ∧ i = .int .i64 k ∧ ∃ n, wr = w.drewN n) (fun i _ => zs.length - (intOf i).toNat)
      case atStart => exact ⟨0, Nat.zero_le _, rfl, 0, rfl⟩
      case round =>
        obtain ⟨k, hk, rfl, n, rfl⟩ := hrel
        by_cases hlt : k < zs.length
        · obtain ⟨b, off, rfl, _, hc⟩ := cell_atI hs hlt
          obtain ⟨b', off', rfl, _, hc'⟩ := cell_atI hs' hlt
          have hi : (k : Int) < (zs.length : Int) := by omega
          clear hs hs'
          go_wp2
          go_quiet (fail)
          go_wp2
          go_roundw
          case rel => first | exact ⟨k + 1, by omega, by go_num, _, rfl⟩ | exact ⟨_, _, ⟨k + 1, by omega, by go_num, _, rfl⟩, rfl, rfl⟩
          case measure => simp [intOf]; omega
        · clear hs hs'
          go_wp2
          go_ret
          exact ⟨rfl, drew_refl _ _⟩
    · rw [decide_eq_false h]
      obtain ⟨d, hd, hdn, hdj⟩ := first_diff 0 zs ys hy h
      have HD : Hid (∀ j, j < d → zs.getD j 0 = ys.getD j 0) := hdj
      clear hdj h
      rw [← hy]
      clear hy hyi
      go_enter Tryz.func112, Tryz.ntmps112
      go_wp2
      go_loopw [5] (fun i wr => ∃ k : Nat, k ≤ d ∧ i = .int .i64 k ∧ ∃ n, wr = w.drewN n) (fun i _ => d - (intOf i).toNat)
      case atStart => exact ⟨0, Nat.zero_le _, rfl, 0, rfl⟩
      case round =>
        obtain ⟨k, hk, rfl, n, rfl⟩ := hrel
        have hlt : k < zs.length := by omega
        obtain ⟨b, off, rfl, _, hc⟩ := cell_atI hs hlt
        obtain ⟨b', off', rfl, _, hc'⟩ := cell_atI hs' (show k < ys.length by have := HY.out; omega)
        have hi : (k : Int) < (zs.length : Int) := by omega
        by_cases hkd : k < d
        · rw [← HD.out k hkd] at hc'
          clear hs hs'
          go_wp2
          go_quiet (fail)
          go_wp2
          go_roundw
          case rel => first | exact ⟨k + 1, by omega, by go_num, _, rfl⟩ | exact ⟨_, _, ⟨k + 1, by omega, by go_num, _, rfl⟩, rfl, rfl⟩
          case measure => simp [intOf]; omega
        · obtain rfl : k = d := by omega
          clear hs hs'
          generalize zs.getD k 0 = x at *
          generalize ys.getD k 0 = y at *
          go_wp2
          go_quiet (fail)
          go_wp2
          go_ret
          exact ⟨rfl, bel_drewN (drew_refl _ _) _⟩
  · rw [decide_eq_false (fun h => hy (by rw [h]))]
    have hyi : ¬ (zs.length : Int) = (ys.length : Int) := by omega
    clear hs hs' hy
    go_enter Tryz.func112, Tryz.ntmps112
    go_wp2
    go_ret
    exact ⟨rfl, Below.refl _ _⟩
def nfB (bs : List Bool) (n : Nat) : Bool := decide (∀ k, k < bs.length → n ≤ k → bs.getD k false = false)
theorem nfB_no {bs : List Bool} {n k : Nat} (h1 : n ≤ k) (h2 : k < bs.length) (h : bs.getD k false = true) : nfB bs n = false :=
  decide_eq_false (fun hh => by rw [hh k h2 h1] at h; cases h)
set_option maxHeartbeats 2000000 in
theorem indexB_any (a : Option Addr) (n cap : Nat) (zs : List Bool) (w : World) (hn : n = zs.length) (hs : SlB w a zs) (hl : zs.length ≤ 2000000) :
    Calls Tryz.prog 142 #[.slice a n cap, .bool true] w fun e w' => ∃ i : Int, e = .returned (.int .i64 i) ∧ decide (i ≥ 0) = !nfB zs 0 ∧ Below w.heap.size w w' := by
  subst hn
  go_enter Tryz.func142, Tryz.ntmps142
  go_wp2
  go_loopw [8] (fun i wr => ∃ k : Nat, k ≤ zs.length ∧ i = .int .i64 k ∧ (∀ j, j < k → zs.getD j false = false) ∧ wr = w) (fun i _ => zs.length - (intOf i).toNat)
  case atStart => exact ⟨0, Nat.zero_le _, rfl, fun j hj => by omega, rfl⟩
  case round =>
    obtain ⟨k, hk, rfl, hz, rfl⟩ := hrel
    have HZ : Hid (∀ j, j < k → zs.getD j false = false) := hz
    clear hz
    by_cases hlt : k < zs.length
    · obtain ⟨b, off, rfl, _, hc⟩ := cell_atB hs hlt
      have hi : (k : Int) < (zs.length : Int) := by omega
      cases hx : zs.getD k false
      · rw [hx] at hc
        have HN : Hid (∀ j, j < k + 1 → zs.getD j false = false) := by
          intro j hj
          by_cases h : j < k
          · exact HZ.out j h
          · rw [show j = k by omega]; exact hx
        clear hs hx
        go_wp2
        go_roundw
        case rel => exact ⟨k + 1, by omega, by go_num, HN.out, trivial⟩
        case measure => simp [intOf]; omega
      · rw [hx] at hc
        have HX : Hid (nfB zs 0 = false) := nfB_no (Nat.zero_le _) hlt hx
        clear hs hx
        go_wp2
        go_ret
        exact ⟨k, rfl, by rw [HX.out]; simp, Below.refl _ _⟩
    · have HX : Hid (nfB zs 0 = true) := decide_eq_true (fun j hj _ => HZ.out j (by omega))
      clear hs
      go_wp2
      go_ret
      exact ⟨-1, rfl, by rw [HX.out]; rfl, Below.refl _ _⟩
set_option maxHeartbeats 2000000 in
theorem containsB_any (a : Option Addr) (n cap : Nat) (zs : List Bool) (w : World) (hn : n = zs.length) (hs : SlB w a zs) (hl : zs.length ≤ 2000000) (b : Bool) (hb : nfB zs 0 = b) :
    Calls Tryz.prog 125 #[.slice a n cap, .bool true] w fun e w' => e = .returned (.bool (!b)) ∧ Below w.heap.size w w' := by
  have HS : Hid (SlB w a zs ∧ n = zs.length) := ⟨hs, hn⟩
  have HB : Hid (nfB zs 0 = b) := hb
  clear hs hn hb
  go_enter Tryz.func125, Tryz.ntmps125
  go_wp2_with fail
  refine (indexB_any a n cap zs _ HS.out.2 HS.out.1 hl).mono ?_
  rintro e w1 ⟨i, rfl, hi, b'⟩
  rw [HB.out] at hi
  have HI : Hid (decide (i ≥ 0) = !b) := hi
  clear hi
  go_wp2
  go_ret
  exact ⟨by first | (rw [← HI.out]; rfl) | exact congrArg (fun x => Ending.returned (Value.bool x)) HI.out, b'⟩
end Go.Proofs.YtmhdneenjoelfaaGreat
namespace Go.Proofs.YtmhdneenjoelfaaGreat
open Go.RowKit
def word2 (x y : Int) : Int := bits BinOp.or IntKind.i64 (x * 256) y
end Go.Proofs.YtmhdneenjoelfaaGreat
namespace Go.Proofs.YtmhdneenjoelfaaGreat
open Go.RowKit
set_option linter.unusedVariables false
set_option linter.unusedSimpArgs false
end Go.Proofs.YtmhdneenjoelfaaGreat
namespace Go.Proofs.YtmhdneenjoelfaaGreat
open Go.RowKit
set_option linter.unusedVariables false
set_option linter.unusedSimpArgs false
def packL (bs : List Bool) : List Int := (List.range ((bs.length + 7) / 8)).map (fun i => pv bs bs.length i)
end Go.Proofs.YtmhdneenjoelfaaGreat
namespace Go.Proofs.YtmhdneenjoelfaaGreat
open Go.RowKit
set_option linter.unusedVariables false
set_option linter.unusedSimpArgs false
end Go.Proofs.YtmhdneenjoelfaaGreat
namespace Go.Proofs.YtmhdneenjoelfaaGreat
open Go.RowKit
set_option linter.unusedVariables false
set_option linter.unusedSimpArgs false
def wAt (zs : List Int) (i : Nat) : Int := if i + 2 ≤ zs.length then zs.getD i 0 * 256 + zs.getD (i + 1) 0 else 0
def wsF (zs : List Int) (f : Nat) : List Int := (List.range ((zs.length - f) / 2)).map (fun k => wAt zs (f + 2 * k))
def wsT (zs : List Int) (f k : Nat) : List Int := (List.range k).map (fun k => wAt zs (f + 2 * k))
def NwI (w w' : World) (e : Ending) (zs : List Int) : Prop := ∃ a c n, e = .returned (.slice a n c) ∧ n = zs.length ∧ OwnI w' w.heap.size (.slice a n c) zs ∧ Below w.heap.size w w'
end Go.Proofs.YtmhdneenjoelfaaGreat
namespace Go.Proofs.YtmhdneenjoelfaaGreat
open Go.RowKit
set_option linter.unusedVariables false
set_option linter.unusedSimpArgs false
def kindB (k : Int) : Bool := decide (k = 1 ∨ k = 2 ∨ k = 3 ∨ k = 4 ∨ k = 5 ∨ k = 6 ∨ k = 15 ∨ k = 16 ∨ k = 22 ∨ k = 23)
set_option maxHeartbeats 2000000 in
theorem isKind_any (k : Int) (w : World) (b : Bool) (hb : kindB k = b) : Calls Tryz.prog 138 #[.int .i64 k] w fun e w' => e = .returned (.bool b) ∧ w' = w := by
  by_cases hk : k = 1 ∨ k = 2 ∨ k = 3 ∨ k = 4 ∨ k = 5 ∨ k = 6 ∨ k = 15 ∨ k = 16 ∨ k = 22 ∨ k = 23
  · have e : kindB k = true := decide_eq_true hk
    rw [e] at hb
    subst hb
    clear e
    obtain rfl | rfl | rfl | rfl | rfl | rfl | rfl | rfl | rfl | rfl := hk
    all_goals (
      go_enter Tryz.func138, Tryz.ntmps138
      go_wp2
      go_ret
      exact ⟨rfl, rfl⟩)
  · have e : kindB k = false := decide_eq_false hk
    rw [e] at hb
    subst hb
    have h1 : ¬ k = 1 := by omega
    have h2 : ¬ k = 2 := by omega
    have h3 : ¬ k = 3 := by omega
    have h4 : ¬ k = 4 := by omega
    have h5 : ¬ k = 5 := by omega
    have h6 : ¬ k = 6 := by omega
    have h15 : ¬ k = 15 := by omega
    have h16 : ¬ k = 16 := by omega
    have h22 : ¬ k = 22 := by omega
    have h23 : ¬ k = 23 := by omega
    clear hk e
    go_enter Tryz.func138, Tryz.ntmps138
    go_wp2
    go_ret
    exact ⟨rfl, rfl⟩
set_option maxHeartbeats 2000000 in
theorem l3Kind_any (k : Int) (w : World) (b : Bool) (hb : kindB k = b) : Calls Tryz.prog 130 #[.int .i64 k] w fun e w' => e = .returned (.bool b) ∧ w' = w := by
  by_cases hk : k = 1 ∨ k = 2 ∨ k = 3 ∨ k = 4 ∨ k = 5 ∨ k = 6 ∨ k = 15 ∨ k = 16 ∨ k = 22 ∨ k = 23
  · have e : kindB k = true := decide_eq_true hk
    rw [e] at hb
    subst hb
    clear e
    obtain rfl | rfl | rfl | rfl | rfl | rfl | rfl | rfl | rfl | rfl := hk
    all_goals (
      go_enter Tryz.func130, Tryz.ntmps130
      go_wp2_with (go_at_call 35; go_in)
      go_ret
      exact ⟨rfl, rfl⟩)
  · have e : kindB k = false := decide_eq_false hk
    rw [e] at hb
    subst hb
    have h15 : ¬ k = 15 := by omega
    have h16 : ¬ k = 16 := by omega
    have h22 : ¬ k = 22 := by omega
    have h23 : ¬ k = 23 := by omega
    have hq : (k == 23) = false := by simp [h23]
    have hq1 : (k == 15) = false := by simp [h15]
    have hq2 : (k == 16) = false := by simp [h16]
    have hq3 : (k == 22) = false := by simp [h22]
    by_cases h1 : 1 ≤ k
    · have h6 : ¬ k ≤ 6 := by omega
      clear hk e
      go_enter Tryz.func130, Tryz.ntmps130
      go_wp2_with (go_at_call 35; go_in)
      go_ret
      exact ⟨rfl, rfl⟩
    · clear hk e
      go_enter Tryz.func130, Tryz.ntmps130
      go_wp2_with (go_at_call 35; go_in)
      go_ret
      exact ⟨rfl, rfl⟩
def GP (w w' : World) (e : Ending) (kd pl nn wa : Int) (ws : List Int) (bs : List Bool) (code : Int) : Prop :=
  ∃ a1 a2 l1 l2 c1 c2, e = .returned (.tuple #[rq kd pl nn wa a1 a2 l1 l2 c1 c2, .int .i64 code]) ∧ l1 = ws.length ∧ l2 = bs.length ∧ OwnI w' w.heap.size (.slice a1 l1 c1) ws ∧ OwnB w' w.heap.size (.slice a2 l2 c2) bs ∧ Below w.heap.size w w'
end Go.Proofs.YtmhdneenjoelfaaGreat
