/- Questions: marks in them, and what GetReq tells as one. -/
import Derived.Test.YtcddiimjgfmnfaaG6
namespace Go.Proofs.Ytcddiimjgfmnfaa
open Go.RowKit

set_option linter.unusedVariables false

set_option linter.unusedSimpArgs false

theorem toB_ok (a : Option Addr) (n cap : Nat) (zs : List Int) (w : World) (hn : n = zs.length) (hs : Sl w a zs) (hl : zs.length ≤ 2000000) :
    Calls Try.prog 27 #[.slice a n cap] w fun e w' => ∃ g, e = .returned (.slice (some ⟨g, 0, none⟩) n n) ∧ Own w' w.heap.size (.slice (some ⟨g, 0, none⟩) n n) zs ∧ Below w.heap.size w w' := by
  refine (toByteS_any a n cap zs w hn hs hl).mono ?_
  rintro e w' ⟨rfl, q, b⟩
  exact ⟨_, rfl, Own.ofRow q hn (Nat.le_refl _) (by unfold maxLen; omega), b⟩

theorem gW_le (k : Int) (zs : List Int) (hl : zs.length ≤ 1048576) : (gW k zs).length ≤ 2000000 := by
  unfold gW
  split
  · simp
  · split
    · simp
    · split
      · rw [wsF_length]; omega
      · split
        · rw [wsF_length]; omega
        · simp

theorem gB_le (k : Int) (zs : List Int) (hr : ∀ z ∈ zs, 0 ≤ z ∧ z ≤ 255) : (gB k zs).length ≤ 2000000 := by
  unfold gB
  split
  · simp
  · split
    · have h := outU_le (zs.drop 6) (wAt zs 3) (by have := wAt_bd hr 3; omega)
      omega
    · simp

theorem gpz_form (zs : List Int) (hl : zs.length ≤ 1048576) (hr : ∀ z ∈ zs, 0 ≤ z ∧ z ≤ 255) : ∃ kd pl nn wa ws bs code, (∀ w w' e, GPz zs w w' e → GP w w' e kd pl nn wa ws bs code) ∧ ws.length ≤ 2000000 ∧ bs.length ≤ 2000000 := by
  by_cases h1 : zs.length = 0 ∨ kindB (zs.getD 0 0) = false
  · refine ⟨0, 0, 0, 0, [], [], 1, fun w w' e h => ?_, by simp, by simp⟩
    unfold GPz at h; rw [if_pos h1] at h; exact h
  · by_cases h2 : gOk (zs.getD 0 0) zs = true
    · refine ⟨zs.getD 0 0, wAt zs 1, gN (zs.getD 0 0) zs, gA (zs.getD 0 0) zs, gW (zs.getD 0 0) zs, gB (zs.getD 0 0) zs, 0, fun w w' e h => ?_, ?_, ?_⟩
      · unfold GPz at h; rw [if_neg h1, if_pos h2] at h; exact h
      · exact gW_le _ zs hl
      · exact gB_le _ zs hr
    · refine ⟨0, 0, 0, 0, [], [], 3, fun w w' e h => ?_, by simp, by simp⟩
      unfold GPz at h; rw [if_neg h1, if_neg h2] at h; exact h

theorem neq_lt {v1 v2 : Value} {B : Nat} (h1 : ∀ k, v1.ownBlock = some k → k < B) (h2 : ∀ k, v2.ownBlock = some k → B ≤ k) : v1.ownBlock = none ∨ v1.ownBlock ≠ v2.ownBlock := by
  cases e : v1.ownBlock with
  | none => exact .inl rfl
  | some k =>
    refine .inr (fun e2 => ?_)
    have a := h1 k e
    have b := h2 k e2.symm
    omega

set_option maxRecDepth 20000 in
set_option maxHeartbeats 4000000 in
theorem markReq_2 (kd pl nn wa : Int) (g1 g2 : Option Addr) (l1 l2 c1 c2 b1 b2 : Nat) (ws : List Int) (bs : List Bool) (w : World) (o1 : OwnI w b1 (.slice g1 l1 c1) ws) (o2 : OwnB w b2 (.slice g2 l2 c2) bs) (hl1 : l1 ≤ 2000000) (hl2 : l2 ≤ 2000000) :
    Calls Try.prog 23 #[rq kd pl nn wa g1 g2 l1 l2 c1 c2, .int .i64 1] w fun e w' => e = .returned (.int .i64 (1 + (l1 : Int) + (l2 : Int))) ∧ OwnI w' b1 (.slice g1 l1 c1) (marksI 1 l1) ∧ OwnB w' b2 (.slice g2 l2 c2) (marksB (1 + l1) l2) ∧
      (∀ base v zs, OwnI w base v zs → (v.ownBlock = none ∨ v.ownBlock ≠ (Value.slice g1 l1 c1).ownBlock) → OwnI w' base v zs) ∧ (∀ base v zs, OwnB w base v zs → (v.ownBlock = none ∨ v.ownBlock ≠ (Value.slice g2 l2 c2).ownBlock) → OwnB w' base v zs) ∧ (∀ base v zs, Own w base v zs → Own w' base v zs) ∧ (∀ g t cs, Blk w g t cs → t ≠ 3 → t ≠ 4 → Blk w' g t cs) ∧ (∀ B W, Below B W w → B ≤ b1 → B ≤ b2 → B ≤ w.heap.size → Below B W w') := by
  have B0 := bel_alloc w (.cells #[.int .i64 kd, .int .i64 pl, .int .i64 nn, .slice g1 l1 c1, .slice g2 l2 c2, .int .i64 wa] 27)
  have X0 := Blk.new w #[.int .i64 kd, .int .i64 pl, .int .i64 nn, .slice g1 l1 c1, .slice g2 l2 c2, .int .i64 wa] 27
  have p1 := o1.below B0
  have p2 := o2.below B0
  obtain ⟨x0, x1, x2, x3, x4, x5⟩ := X0.six
  obtain ⟨w0, hw0⟩ : ∃ w0, w0 = w.alloc (.cells #[.int .i64 kd, .int .i64 pl, .int .i64 nn, .slice g1 l1 c1, .slice g2 l2 c2, .int .i64 wa] 27) := ⟨_, rfl⟩
  have HW : Hid (w0 = _) := hw0
  rw [← hw0] at p1 p2 B0 X0 x0 x1 x2 x3 x4 x5
  clear hw0
  go_enter Try.func23, Try.ntmps23
  go_upto_region 1 with fail
  rw [← HW.out]
  go_wp2_with fail
  refine (markIntS_from _ _ _ _ 1 ws _ p1 (by omega) (by omega)).mono ?_
  rintro e w1 ⟨rfl, r1, gr1⟩
  have r2 := World.ownsRow.kept p2 gr1 (ne_types p2 p1 (by decide))
  have X1 := X0.row p1 gr1 (by decide)
  obtain ⟨y0, y1, y2, y3, y4, y5⟩ := X1.six
  have HK1 : Hid ((∀ base v zs, OwnI w base v zs → (v.ownBlock = none ∨ v.ownBlock ≠ (Value.slice g1 l1 c1).ownBlock) → OwnI w1 base v zs) ∧ (∀ base v zs, OwnB w base v zs → (v.ownBlock = none ∨ v.ownBlock ≠ (Value.slice g2 l2 c2).ownBlock) → OwnB w1 base v zs) ∧ (∀ base v zs, Own w base v zs → Own w1 base v zs) ∧ (∀ g t cs, Blk w g t cs → t ≠ 3 → t ≠ 4 → Blk w1 g t cs) ∧ (∀ B W, Below B W w → B ≤ b1 → B ≤ w.heap.size → Below B W w1 ∧ B ≤ w1.heap.size)) := by
    refine ⟨fun base v zs h hv => OwnI.kept (h.below B0) gr1 hv, fun base v zs h _ => World.ownsRow.kept (h.below B0) gr1 (ne_types (h.below B0) p1 (by decide)), fun base v zs h => Own.kept (h.below B0) gr1 (ne_types (h.below B0) p1 (by decide)), fun g t cs h ht _ => (h.below B0).row p1 gr1 ht, fun B W h hB hs => ?_⟩
    have q := h.trans (B0.mono hs)
    have q2 : B ≤ w0.heap.size := by have := B0.size; omega
    exact ⟨below_rowG q p1 gr1 hB q2, by have := gr1.size; omega⟩
  clear x0 x1 x2 x3 x4 x5 X0 gr1 p1 p2
  go_wp2_with fail
  refine (markBoolS_at _ _ _ _ (1 + l1) _ bs _ (by omega) r2 (by omega) (by omega)).mono ?_
  rintro e w2 ⟨rfl, t2, gr2⟩
  have t1 := World.ownsRow.kept r1 gr2 (ne_types r1 r2 (by decide))
  have HK : Hid (OwnI w2 b1 (.slice g1 l1 c1) (marksI 1 l1) ∧ OwnB w2 b2 (.slice g2 l2 c2) (marksB (1 + l1) l2) ∧ (∀ base v zs, OwnI w base v zs → (v.ownBlock = none ∨ v.ownBlock ≠ (Value.slice g1 l1 c1).ownBlock) → OwnI w2 base v zs) ∧ (∀ base v zs, OwnB w base v zs → (v.ownBlock = none ∨ v.ownBlock ≠ (Value.slice g2 l2 c2).ownBlock) → OwnB w2 base v zs) ∧ (∀ base v zs, Own w base v zs → Own w2 base v zs) ∧ (∀ g t cs, Blk w g t cs → t ≠ 3 → t ≠ 4 → Blk w2 g t cs) ∧ (∀ B W, Below B W w → B ≤ b1 → B ≤ b2 → B ≤ w.heap.size → Below B W w2)) := by
    refine ⟨t1, t2, fun base v zs h hv => ?_, fun base v zs h hv => ?_, fun base v zs h => ?_, fun g t cs h ht ht' => ?_, fun B W h hB hB2 hs => ?_⟩
    · have := HK1.out.1 base v zs h hv
      exact World.ownsRow.kept this gr2 (ne_types this r2 (by decide))
    · have := HK1.out.2.1 base v zs h hv
      exact World.ownsRow.kept this gr2 hv
    · have := HK1.out.2.2.1 base v zs h
      exact Own.kept this gr2 (ne_types this r2 (by decide))
    · exact (HK1.out.2.2.2.1 g t cs h ht ht').row r2 gr2 ht'
    · obtain ⟨q, q2⟩ := HK1.out.2.2.2.2 B W h hB hs
      exact below_rowG q r2 gr2 hB2 q2
  have ez : (1 : Int) + (l1 : Int) + (l2 : Int) = ((1 + l1 : Nat) : Int) + (l2 : Int) := by omega
  clear t1 t2 gr2 r1 r2 X1 y0 y1 y2 y3 y4 y5
  go_wp2
  go_ret
  exact ⟨by rw [ez]; rfl, HK.out⟩

theorem heldBoolS_at (a : Option Addr) (n cap s : Nat) (x : Int) (w : World) (hx : x = ((s : Nat) : Int)) (hs : SlB w a (marksB s n)) (hl : n ≤ 20000000) (hs' : s ≤ 9000000) :
    Calls Try.prog 64 #[.slice a n cap, .int .i64 x] w fun e w' => e = .returned (.int .i64 ((s : Int) + (n : Int))) ∧ w' = w := by
  subst hx
  exact heldBoolS_from a n cap s w hs hl hs'

set_option maxRecDepth 20000 in
set_option maxHeartbeats 4000000 in
theorem heldReq_any (kd pl nn wa : Int) (g1 g2 : Option Addr) (l1 l2 c1 c2 : Nat) (w : World) (s1 : SlI w g1 (marksI 1 l1)) (s2 : SlB w g2 (marksB (1 + l1) l2)) (hl1 : l1 ≤ 2000000) (hl2 : l2 ≤ 2000000) :
    Calls Try.prog 28 #[rq kd pl nn wa g1 g2 l1 l2 c1 c2, .int .i64 1] w fun e w' => e = .returned (.int .i64 (1 + (l1 : Int) + (l2 : Int))) ∧ Below w.heap.size w w' := by
  obtain ⟨w0, hw0⟩ : ∃ w0, w0 = w.alloc (.cells #[.int .i64 kd, .int .i64 pl, .int .i64 nn, .slice g1 l1 c1, .slice g2 l2 c2, .int .i64 wa] 27) := ⟨_, rfl⟩
  have HW : Hid (w0 = _) := hw0
  have B0 : Below w.heap.size w w0 := by rw [hw0]; exact bel_alloc _ _
  have X0 : Blk w0 w.heap.size 27 #[.int .i64 kd, .int .i64 pl, .int .i64 nn, .slice g1 l1 c1, .slice g2 l2 c2, .int .i64 wa] := by rw [hw0]; exact Blk.new _ _ _
  obtain ⟨x0, x1, x2, x3, x4, x5⟩ := X0.six
  have H : Hid (SlI w0 g1 (marksI 1 l1) ∧ SlB w0 g2 (marksB (1 + l1) l2)) := ⟨s1.below B0, s2.below B0⟩
  have f1 : ¬ ((1 : Int) + (l1 : Int) < 0) := by omega
  have f2 : ¬ (((1 + l1 : Nat) : Int) + (l2 : Int) < 0) := by omega
  have ez : (1 : Int) + (l1 : Int) + (l2 : Int) = ((1 + l1 : Nat) : Int) + (l2 : Int) := by omega
  clear hw0 s1 s2 X0
  go_enter Try.func28, Try.ntmps28
  go_upto_region 1 with fail
  rw [← HW.out]
  go_wp2_with fail
  refine (heldIntS_from _ _ _ 1 _ H.out.1 (by omega) (by omega)).mono ?_
  rintro e w1 ⟨rfl, rfl⟩
  go_wp2_with fail
  refine (heldBoolS_at _ _ _ (1 + l1) _ _ (by omega) H.out.2 (by omega) (by omega)).mono ?_
  rintro e w2 ⟨rfl, rfl⟩
  go_wp2
  go_ret
  exact ⟨by rw [ez]; rfl, B0⟩

theorem eqR_ok (kd pl nn wa : Int) (a1 a2 a1' a2' : Option Addr) (l1 l2 l1' l2' c1 c2 c1' c2' : Nat) (ws : List Int) (bs : List Bool) (w : World) (b b' : Nat) (h1 : l1 = ws.length) (h2 : l2 = bs.length) (h1' : l1' = ws.length) (h2' : l2' = bs.length) (o1 : OwnI w b (.slice a1 l1 c1) ws) (o2 : OwnB w b (.slice a2 l2 c2) bs) (o1' : OwnI w b' (.slice a1' l1' c1') ws) (o2' : OwnB w b' (.slice a2' l2' c2') bs) (hl1 : ws.length ≤ 2000000) (hl2 : bs.length ≤ 2000000) :
    Calls Try.prog 20 #[rq kd pl nn wa a1 a2 l1 l2 c1 c2, rq kd pl nn wa a1' a2' l1' l2' c1' c2'] w fun e w' => e = .returned (.bool true) ∧ Below w.heap.size w w' :=
  eqReq_true kd pl nn wa a1 a2 a1' a2' l1 l2 l1' l2' c1 c2 c1' c2' ws bs w h1 h2 h1' h2' o1.sl.2 o2.sl.2 o1'.sl.2 o2'.sl.2 hl1 (by omega)

theorem eqB_any (a a' : Option Addr) (n n' cap cap' : Nat) (zs : List Int) (w : World) (hn : n = zs.length) (hn' : n' = zs.length) (hs : Sl w a zs) (hs' : Sl w a' zs) (hl : zs.length ≤ 2000000) :
    Calls Try.prog 22 #[.slice a n cap, .slice a' n' cap'] w fun e w' => e = .returned (.bool true) ∧ Below w.heap.size w w' := by
  refine (eqByteS_true a a' n n' cap cap' zs w hn hn' hs hs' hl).mono ?_
  rintro e w' ⟨rfl, k, rfl⟩
  exact ⟨rfl, drew_refl _ _⟩

end Go.Proofs.Ytcddiimjgfmnfaa
