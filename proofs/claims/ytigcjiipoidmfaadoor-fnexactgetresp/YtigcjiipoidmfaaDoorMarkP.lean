/- Marks in answers. -/
import Derived.Test.YtigcjiipoidmfaaDoorResp1
import Derived.Test.YtigcjiipoidmfaaDoorG7
namespace Go.Proofs.YtigcjiipoidmfaaDoor
open Go.RowKit

set_option linter.unusedVariables false

set_option maxRecDepth 20000 in
set_option maxHeartbeats 4000000 in
theorem markResp_2 (kd fl pl nn : Int) (g1 g2 : Option Addr) (l1 l2 c1 c2 b1 b2 : Nat) (ws : List Int) (bs : List Bool) (w : World) (o1 : OwnI w b1 (.slice g1 l1 c1) ws) (o2 : OwnB w b2 (.slice g2 l2 c2) bs) (hl1 : l1 ≤ 2000000) (hl2 : l2 ≤ 2000000) :
    Calls Tryd.prog 18 #[rp kd fl pl nn g1 g2 l1 l2 c1 c2, .int .i64 1] w fun e w' => e = .returned (.int .i64 (1 + (l1 : Int) + (l2 : Int))) ∧ OwnI w' b1 (.slice g1 l1 c1) (marksI 1 l1) ∧ OwnB w' b2 (.slice g2 l2 c2) (marksB (1 + l1) l2) ∧
      (∀ base v zs, OwnI w base v zs → (v.ownBlock = none ∨ v.ownBlock ≠ (Value.slice g1 l1 c1).ownBlock) → OwnI w' base v zs) ∧ (∀ base v zs, OwnB w base v zs → (v.ownBlock = none ∨ v.ownBlock ≠ (Value.slice g2 l2 c2).ownBlock) → OwnB w' base v zs) ∧ (∀ base v zs, Own w base v zs → Own w' base v zs) ∧ (∀ g t cs, Blk w g t cs → t ≠ 3 → t ≠ 4 → Blk w' g t cs) ∧ (∀ B W, Below B W w → B ≤ b1 → B ≤ b2 → B ≤ w.heap.size → Below B W w') := by
  have B0 := bel_alloc w (.cells #[.int .i64 kd, .int .i64 fl, .int .i64 pl, .int .i64 nn, .slice g1 l1 c1, .slice g2 l2 c2] 27)
  have X0 := Blk.new w #[.int .i64 kd, .int .i64 fl, .int .i64 pl, .int .i64 nn, .slice g1 l1 c1, .slice g2 l2 c2] 27
  have p1 := o1.below B0
  have p2 := o2.below B0
  obtain ⟨x0, x1, x2, x3, x4, x5⟩ := X0.six
  obtain ⟨w0, hw0⟩ : ∃ w0, w0 = w.alloc (.cells #[.int .i64 kd, .int .i64 fl, .int .i64 pl, .int .i64 nn, .slice g1 l1 c1, .slice g2 l2 c2] 27) := ⟨_, rfl⟩
  have HW : Hid (w0 = _) := hw0
  rw [← hw0] at p1 p2 B0 X0 x0 x1 x2 x3 x4 x5
  clear hw0
  go_enter Tryd.func18, Tryd.ntmps18
  go_upto_region 1 with fail
  rw [← HW.out]
  go_wp2_with fail
  refine (markIntS_from _ _ _ _ 1 ws _ p1 (by omega) (by omega)).mono ?_
  rintro e w1 ⟨rfl, r1, gr1⟩
  have r2 := World.ownsRow.kept p2 gr1 (ne_types p2 p1 (by decide))
  have X1 := X0.row p1 gr1 (by decide)
  obtain ⟨y0, y1, y2, y3, y4, y5⟩ := X1.six
  have HK1 : Hid ((∀ base v zs, OwnI w base v zs → (v.ownBlock = none ∨ v.ownBlock ≠ (Value.slice g1 l1 c1).ownBlock) → OwnI w1 base v zs) ∧ (∀ base v zs, OwnB w base v zs → (v.ownBlock = none ∨ v.ownBlock ≠ (Value.slice g2 l2 c2).ownBlock) → OwnB w1 base v zs) ∧ (∀ base v zs, Own w base v zs → Own w1 base v zs) ∧ (∀ g t cs, Blk w g t cs → t ≠ 3 → t ≠ 4 → Blk w1 g t cs) ∧ (∀ B W, Below B W w → B ≤ b1 → B ≤ w.heap.size → Below B W w1 ∧ B ≤ w1.heap.size)) := by
    refine ⟨fun base v zs h hv => OwnI.kept (h.below B0) gr1 hv, fun base v zs h _ => World.ownsRow.kept (h.below B0) gr1 (ne_types (h.below B0) p1 (by decide)), fun base v zs h => Own.kept (h.below B0) gr1 (ne_types (h.below B0) p1 (by decide)), fun g t cs h ht _ => (h.below B0).row p1 gr1 ht, fun B W h hB hs => ?_⟩
    have q := h.trans (B0.mono hs)
    have q2 : B ≤ w0.heap.size := by have := B0.size; omega
    exact ⟨below_rowG q p1 gr1 hB q2, by have := gr1.size; omega⟩
  clear x0 x1 x2 x3 x4 x5 X0 gr1 p1 p2
  go_wp2_with fail
  refine (markBoolS_at _ _ _ _ (1 + l1) _ bs _ (by omega) r2 (by omega) (by omega)).mono ?_
  rintro e w2 ⟨rfl, t2, gr2⟩
  have t1 := World.ownsRow.kept r1 gr2 (ne_types r1 r2 (by decide))
  have HK : Hid (OwnI w2 b1 (.slice g1 l1 c1) (marksI 1 l1) ∧ OwnB w2 b2 (.slice g2 l2 c2) (marksB (1 + l1) l2) ∧ (∀ base v zs, OwnI w base v zs → (v.ownBlock = none ∨ v.ownBlock ≠ (Value.slice g1 l1 c1).ownBlock) → OwnI w2 base v zs) ∧ (∀ base v zs, OwnB w base v zs → (v.ownBlock = none ∨ v.ownBlock ≠ (Value.slice g2 l2 c2).ownBlock) → OwnB w2 base v zs) ∧ (∀ base v zs, Own w base v zs → Own w2 base v zs) ∧ (∀ g t cs, Blk w g t cs → t ≠ 3 → t ≠ 4 → Blk w2 g t cs) ∧ (∀ B W, Below B W w → B ≤ b1 → B ≤ b2 → B ≤ w.heap.size → Below B W w2)) := by
    refine ⟨t1, t2, fun base v zs h hv => ?_, fun base v zs h hv => ?_, fun base v zs h => ?_, fun g t cs h ht ht' => ?_, fun B W h hB hB2 hs => ?_⟩
    · have := HK1.out.1 base v zs h hv
      exact World.ownsRow.kept this gr2 (ne_types this r2 (by decide))
    · have := HK1.out.2.1 base v zs h hv
      exact World.ownsRow.kept this gr2 hv
    · have := HK1.out.2.2.1 base v zs h
      exact Own.kept this gr2 (ne_types this r2 (by decide))
    · exact (HK1.out.2.2.2.1 g t cs h ht ht').row r2 gr2 ht'
    · obtain ⟨q, q2⟩ := HK1.out.2.2.2.2 B W h hB hs
      exact below_rowG q r2 gr2 hB2 q2
  have ez : (1 : Int) + (l1 : Int) + (l2 : Int) = ((1 + l1 : Nat) : Int) + (l2 : Int) := by omega
  clear t1 t2 gr2 r1 r2 X1 y0 y1 y2 y3 y4 y5
  go_wp2
  go_ret
  exact ⟨by rw [ez]; rfl, HK.out⟩

set_option maxRecDepth 20000 in
set_option maxHeartbeats 4000000 in
theorem heldResp_any (kd fl pl nn : Int) (g1 g2 : Option Addr) (l1 l2 c1 c2 : Nat) (w : World) (s1 : SlI w g1 (marksI 1 l1)) (s2 : SlB w g2 (marksB (1 + l1) l2)) (hl1 : l1 ≤ 2000000) (hl2 : l2 ≤ 2000000) :
    Calls Tryd.prog 19 #[rp kd fl pl nn g1 g2 l1 l2 c1 c2, .int .i64 1] w fun e w' => e = .returned (.int .i64 (1 + (l1 : Int) + (l2 : Int))) ∧ Below w.heap.size w w' := by
  obtain ⟨w0, hw0⟩ : ∃ w0, w0 = w.alloc (.cells #[.int .i64 kd, .int .i64 fl, .int .i64 pl, .int .i64 nn, .slice g1 l1 c1, .slice g2 l2 c2] 27) := ⟨_, rfl⟩
  have HW : Hid (w0 = _) := hw0
  have B0 : Below w.heap.size w w0 := by rw [hw0]; exact bel_alloc _ _
  have X0 : Blk w0 w.heap.size 27 #[.int .i64 kd, .int .i64 fl, .int .i64 pl, .int .i64 nn, .slice g1 l1 c1, .slice g2 l2 c2] := by rw [hw0]; exact Blk.new _ _ _
  obtain ⟨x0, x1, x2, x3, x4, x5⟩ := X0.six
  have H : Hid (SlI w0 g1 (marksI 1 l1) ∧ SlB w0 g2 (marksB (1 + l1) l2)) := ⟨s1.below B0, s2.below B0⟩
  have f1 : ¬ ((1 : Int) + (l1 : Int) < 0) := by omega
  have f2 : ¬ (((1 + l1 : Nat) : Int) + (l2 : Int) < 0) := by omega
  have ez : (1 : Int) + (l1 : Int) + (l2 : Int) = ((1 + l1 : Nat) : Int) + (l2 : Int) := by omega
  clear hw0 s1 s2 X0
  go_enter Tryd.func19, Tryd.ntmps19
  go_upto_region 1 with fail
  rw [← HW.out]
  go_wp2_with fail
  refine (heldIntS_from _ _ _ 1 _ H.out.1 (by omega) (by omega)).mono ?_
  rintro e w1 ⟨rfl, rfl⟩
  go_wp2_with fail
  refine (heldBoolS_at _ _ _ (1 + l1) _ _ (by omega) H.out.2 (by omega) (by omega)).mono ?_
  rintro e w2 ⟨rfl, rfl⟩
  go_wp2
  go_ret
  exact ⟨by rw [ez]; rfl, B0⟩

theorem eqP_ok (kd fl pl nn : Int) (a1 a2 a1' a2' : Option Addr) (l1 l2 l1' l2' c1 c2 c1' c2' : Nat) (ws : List Int) (bs : List Bool) (w : World) (b b' : Nat) (h1 : l1 = ws.length) (h2 : l2 = bs.length) (h1' : l1' = ws.length) (h2' : l2' = bs.length) (o1 : OwnI w b (.slice a1 l1 c1) ws) (o2 : OwnB w b (.slice a2 l2 c2) bs) (o1' : OwnI w b' (.slice a1' l1' c1') ws) (o2' : OwnB w b' (.slice a2' l2' c2') bs) (hl1 : ws.length ≤ 2000000) (hl2 : bs.length ≤ 2000000) :
    Calls Tryd.prog 15 #[rp kd fl pl nn a1 a2 l1 l2 c1 c2, rp kd fl pl nn a1' a2' l1' l2' c1' c2'] w fun e w' => e = .returned (.bool true) ∧ Below w.heap.size w w' :=
  eqResp_true kd fl pl nn a1 a2 a1' a2' l1 l2 l1' l2' c1 c2 c1' c2' ws bs w h1 h2 h1' h2' o1.sl.2 o2.sl.2 o1'.sl.2 o2'.sl.2 hl1 (by omega)

end Go.Proofs.YtigcjiipoidmfaaDoor
