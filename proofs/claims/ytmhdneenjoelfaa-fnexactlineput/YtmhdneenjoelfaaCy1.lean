/- Questions and calls copied by the program: copyReq, copyCall. -/
import Derived.Test.YtmhdneenjoelfaaCl2
import Derived.Test.YtmhdneenjoelfaaCl4
import Derived.Deep.RegionWith
namespace Go.Proofs.Ytmhdneenjoelfaa
open Go.RowKit Go.Joins

set_option linter.unusedVariables false

set_option linter.unusedSimpArgs false

abbrev rqL (kd pl nn wa : Int) (a1 a2 : Option Addr) (l1 l2 c1 c2 : Nat) : Array Value := #[.int .i64 kd, .int .i64 pl, .int .i64 nn, .slice a1 l1 c1, .slice a2 l2 c2, .int .i64 wa]
abbrev rq0 : Array Value := #[.int .i64 0, .int .i64 0, .int .i64 0, .slice none 0 0, .slice none 0 0, .int .i64 0]

/-- A question of the call's own. -/
def RqP (w w' : World) (e : Ending) (kd pl nn wa : Int) (l1 l2 : Nat) (ws : List Int) (bs : List Bool) : Prop :=
  ∃ a1 a2 c1 c2, e = .returned (.agg (rqL kd pl nn wa a1 a2 l1 l2 c1 c2)) ∧ OwnI w' w.heap.size (.slice a1 l1 c1) ws ∧ OwnB w' w.heap.size (.slice a2 l2 c2) bs ∧ Below w.heap.size w w'

/-- Behind the two rows that are copied. -/
def CqP (w : World) (B : Nat) (kd pl nn wa : Int) (m1 m2 : Nat) (ws : List Int) (bs : List Bool) (wx : World) : Prop :=
  ∃ g1 g2, Blk wx B 28 (rqL kd pl nn wa (some ⟨g1, 0, none⟩) (some ⟨g2, 0, none⟩) m1 m2 m1 m2) ∧ OwnI wx w.heap.size (.slice (some ⟨g1, 0, none⟩) m1 m1) ws ∧ OwnB wx w.heap.size (.slice (some ⟨g2, 0, none⟩) m2 m2) bs ∧ Blk wx (B + 1) 28 rq0 ∧ Below w.heap.size w wx

theorem cqA {w u : World} {B : Nat} {kd pl nn wa : Int} {q1 q2 : Option Addr} {m1 m2 k1 k2 g1 g2 : Nat} {ws : List Int} {bs : List Bool} (hB : Blk u B 28 (rqL kd pl nn wa q1 q2 m1 m2 k1 k2)) (o1 : OwnI u w.heap.size (.slice (some ⟨g1, 0, none⟩) m1 m1) ws) (o2 : OwnB u w.heap.size (.slice (some ⟨g2, 0, none⟩) m2 m2) bs) (hR : Blk u (B + 1) 28 rq0) (hb : Below w.heap.size w u) (hBw : w.heap.size ≤ B) :
    CqP w B kd pl nn wa m1 m2 ws bs ((u.setCell ⟨B, 3, none⟩ (.slice (some ⟨g1, 0, none⟩) m1 m1)).setCell ⟨B, 4, none⟩ (.slice (some ⟨g2, 0, none⟩) m2 m2)) := by
  refine ⟨g1, g2, ?_, row_setE (row_setE o1 ⟨_, hB⟩ (by decide)) (ExB.set ⟨_, hB⟩) (by decide), row_setE (row_setE o2 ⟨_, hB⟩ (by decide)) (ExB.set ⟨_, hB⟩) (by decide), (hR.setNe (by omega)).setNe (by omega), (hb.setCell (p := ⟨B, 3, none⟩) hBw _).setCell (p := ⟨B, 4, none⟩) hBw _⟩
  have h9 := (hB.set 3 (.slice (some ⟨g1, 0, none⟩) m1 m1)).set 4 (.slice (some ⟨g2, 0, none⟩) m2 m2)
  simpa using h9

theorem cqB {w u : World} {B : Nat} {kd pl nn wa : Int} {q1 q2 : Option Addr} {m1 m2 k1 k2 g1 g2 : Nat} {ws : List Int} {bs : List Bool} (hB : Blk u B 28 (rqL kd pl nn wa q1 q2 m1 m2 k1 k2)) (o1 : OwnI u w.heap.size (.slice (some ⟨g1, 0, none⟩) m1 m1) ws) (o2 : OwnB u w.heap.size (.slice (some ⟨g2, 0, none⟩) m2 m2) bs) (hR : Blk u (B + 1) 28 rq0) (hb : Below w.heap.size w u) (hBw : w.heap.size ≤ B) :
    CqP w B kd pl nn wa m1 m2 ws bs ((u.setCell ⟨B, 4, none⟩ (.slice (some ⟨g2, 0, none⟩) m2 m2)).setCell ⟨B, 3, none⟩ (.slice (some ⟨g1, 0, none⟩) m1 m1)) := by
  refine ⟨g1, g2, ?_, row_setE (row_setE o1 ⟨_, hB⟩ (by decide)) (ExB.set ⟨_, hB⟩) (by decide), row_setE (row_setE o2 ⟨_, hB⟩ (by decide)) (ExB.set ⟨_, hB⟩) (by decide), (hR.setNe (by omega)).setNe (by omega), (hb.setCell (p := ⟨B, 4, none⟩) hBw _).setCell (p := ⟨B, 3, none⟩) hBw _⟩
  have h9 := (hB.set 4 (.slice (some ⟨g2, 0, none⟩) m2 m2)).set 3 (.slice (some ⟨g1, 0, none⟩) m1 m1)
  simpa using h9

theorem CqP.drewN {w wx : World} {B : Nat} {kd pl nn wa : Int} {m1 m2 : Nat} {ws : List Int} {bs : List Bool} (h : CqP w B kd pl nn wa m1 m2 ws bs wx) {w2 : World} (hb : Below wx.heap.size wx w2) : CqP w B kd pl nn wa m1 m2 ws bs w2 := by
  obtain ⟨g1, g2, h1, h2, h3, h4, h5⟩ := h
  exact ⟨g1, g2, h1.below hb, h2.below hb, h3.below hb, h4.below hb, bel_nx h5 hb⟩

set_option maxRecDepth 20000 in
set_option maxHeartbeats 1000000 in
theorem implCopyReq_any (kd pl nn wa : Int) (q1 q2 : Option Addr) (m1 m2 k1 k2 : Nat) (ws : List Int) (bs : List Bool) (w : World) (h1 : m1 = ws.length) (h2 : m2 = bs.length) (s1 : SlI w q1 ws) (s2 : SlB w q2 bs) (hl1 : m1 ≤ 2000000) (hl2 : m2 ≤ 2000000) :
    Calls Try.prog 67 #[.agg (rqL kd pl nn wa q1 q2 m1 m2 k1 k2)] w fun e w' => RqP w w' e kd pl nn wa m1 m2 ws bs := by
  obtain ⟨B, hB⟩ : ∃ B, B = w.heap.size := ⟨_, rfl⟩
  obtain ⟨W, hW⟩ : ∃ W, W = (w.alloc (.cells (rqL kd pl nn wa q1 q2 m1 m2 k1 k2) 28)).alloc (.cells rq0 28) := ⟨_, rfl⟩
  have bW : Below w.heap.size w W := by rw [hW]; exact bel_nx (bel_alloc _ _) (bel_alloc _ _)
  have HW : Hid (Below w.heap.size w W ∧ Blk W B 28 (rqL kd pl nn wa q1 q2 m1 m2 k1 k2) ∧ Blk W (B + 1) 28 rq0 ∧ SlI W q1 ws ∧ SlB W q2 bs ∧ m1 = ws.length ∧ m2 = bs.length ∧ w.heap.size ≤ B) := ⟨bW, by rw [hW, hB]; exact (Blk.new w _ _).below (bel_alloc _ _), by rw [hW, hB]; have := Blk.new (w.alloc (.cells (rqL kd pl nn wa q1 q2 m1 m2 k1 k2) 28)) rq0 28; simpa using this, s1.below bW, s2.below bW, h1, h2, by omega⟩
  clear bW h1 h2 s1 s2
  go_enter Try.func67, Try.ntmps67
  go_upto_region 1 with fail
  rw [← hW]
  have hB1 : w.heap.size + 1 = B + 1 := by omega
  rw [hB1, ← hB]
  clear hW hB hB1
  obtain ⟨y0, y1, y2, y3, y4, y5⟩ := HW.out.2.1.six3
  go_cut [] (fun wx => CqP w B kd pl nn wa m1 m2 ws bs wx)
  case first =>
    go_region_with (first
      | (go_at_call 97; refine (copyOfI q1 m1 k1 ws _ HW.out.2.2.2.2.2.1 (HW.out.2.2.2.1.below (by first | exact Below.refl _ _ | exact (Below.refl _ _).drew | exact (Below.refl _ _).drew.drew)) (by have := HW.out.2.2.2.2.2.1; omega)).mono ?_; rintro e w1 ⟨g1, rfl, O1', b1'⟩; have H1 : Hid (Below W.heap.size W w1 ∧ OwnI w1 w.heap.size (.slice (some ⟨g1, 0, none⟩) m1 m1) ws) := (by have b9 : Below W.heap.size W w1 := bel_nx (by first | exact Below.refl _ _ | exact (Below.refl _ _).drew | exact (Below.refl _ _).drew.drew) b1'; exact ⟨b9, OwnI.mono (show OwnI _ _ _ _ from O1') HW.out.1.size⟩); clear O1' b1'; obtain ⟨z0, z1, z2, z3, z4, z5⟩ := (HW.out.2.1.below H1.out.1).six3; have zf := (HW.out.2.1.below H1.out.1).fro; have zf3 := zf 3; have zf4 := zf 4)
      | (go_at_call 98; refine (copyOfB q2 m2 k2 bs _ HW.out.2.2.2.2.2.2.1 (HW.out.2.2.2.2.1.below (by first | exact H1.out.1 | exact H1.out.1.drew | exact H1.out.1.drew.drew)) (by have := HW.out.2.2.2.2.2.2.1; omega)).mono ?_; rintro e w2 ⟨g2, rfl, O2', b2'⟩; have H2 : Hid (Below W.heap.size W w2 ∧ OwnI w2 w.heap.size (.slice (some ⟨g1, 0, none⟩) m1 m1) ws ∧ OwnB w2 w.heap.size (.slice (some ⟨g2, 0, none⟩) m2 m2) bs) := (by have b8 : Below w1.heap.size w1 w2 := bel_nx (by first | exact Below.refl _ _ | exact (Below.refl _ _).drew | exact (Below.refl _ _).drew.drew) b2'; have b9 := bel_nx H1.out.1 b8; exact ⟨b9, H1.out.2.below b8, OwnB.mono (show OwnB _ _ _ _ from O2') (Nat.le_trans HW.out.1.size (Nat.le_trans H1.out.1.size (by first | exact Nat.le_refl _ | (simp))))⟩); clear O2' b2'; obtain ⟨x0, x1, x2, x3, x4, x5⟩ := (HW.out.2.1.below H2.out.1).six3; have xf := (HW.out.2.1.below H2.out.1).fro; have xf3 := xf 3; have xf4 := xf 4))
    all_goals (go_wp2_with fail; go_meet; first | exact cqA (HW.out.2.1.below H2.out.1) H2.out.2.1 H2.out.2.2 (HW.out.2.2.1.below H2.out.1) (bel_nx HW.out.1 H2.out.1) HW.out.2.2.2.2.2.2.2 | exact cqB (HW.out.2.1.below H2.out.1) H2.out.2.1 H2.out.2.2 (HW.out.2.2.1.below H2.out.1) (bel_nx HW.out.1 H2.out.1) HW.out.2.2.2.2.2.2.2)
  case rest =>
  obtain ⟨g1, g2, X1, O1, O2, R1, b1⟩ := hcut
  rename World => u
  have HX : Hid (OwnI u w.heap.size (.slice (some ⟨g1, 0, none⟩) m1 m1) ws ∧ OwnB u w.heap.size (.slice (some ⟨g2, 0, none⟩) m2 m2) bs ∧ Below w.heap.size w u ∧ Blk u (B + 1) 28 rq0) := ⟨O1, O2, b1, R1⟩
  clear y0 y1 y2 y3 y4 y5
  obtain ⟨y0, y1, y2, y3, y4, y5⟩ := X1.six3
  obtain ⟨x0, x1, x2, x3, x4, x5⟩ := R1.six3
  have f0 := R1.fro 0
  have f1 := R1.fro 1
  have f2 := R1.fro 2
  have f3 := R1.fro 3
  have f4 := R1.fro 4
  have f5 := R1.fro 5
  have HY : Hid (OwnI (setL u (B + 1) 0 (rqL kd pl nn wa (some ⟨g1, 0, none⟩) (some ⟨g2, 0, none⟩) m1 m2 m1 m2).toList) w.heap.size (.slice (some ⟨g1, 0, none⟩) m1 m1) ws ∧ OwnB (setL u (B + 1) 0 (rqL kd pl nn wa (some ⟨g1, 0, none⟩) (some ⟨g2, 0, none⟩) m1 m2 m1 m2).toList) w.heap.size (.slice (some ⟨g2, 0, none⟩) m2 m2) bs ∧ Below w.heap.size w (setL u (B + 1) 0 (rqL kd pl nn wa (some ⟨g1, 0, none⟩) (some ⟨g2, 0, none⟩) m1 m2 m1 m2).toList)) := ⟨row_stL O1 ⟨_, R1⟩ (by decide), row_stL O2 ⟨_, R1⟩ (by decide), setL_below (by have := HW.out.2.2.2.2.2.2.2; omega) _ _ _ b1⟩
  clear X1 O1 O2 R1 b1 HX HW
  go_wp2
  refine bodyPost_ret (v := .agg (rqL kd pl nn wa (some ⟨g1, 0, none⟩) (some ⟨g2, 0, none⟩) m1 m2 m1 m2)) (by simp [results, Try.results67, go_sem, x0, x1, x2, x3, x4, x5]) rfl ⟨_, _, _, _, rfl, HY.out.1, HY.out.2.1, HY.out.2.2⟩

end Go.Proofs.Ytmhdneenjoelfaa
