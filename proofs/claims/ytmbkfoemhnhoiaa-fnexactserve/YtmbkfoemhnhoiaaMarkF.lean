/- Marks in questions and in faults (without bytes). -/
import Derived.Test.YtmbkfoemhnhoiaaQ6
import Derived.Test.YtmbkfoemhnhoiaaResp1
namespace Go.Proofs.Ytmbkfoemhnhoiaa
open Go.RowKit

set_option linter.unusedVariables false

theorem ownI_nil (w : World) (B : Nat) : OwnI w B (.slice none 0 0) [] := ⟨rfl, .inl ⟨rfl, rfl⟩⟩

theorem ownB_nil (w : World) (B : Nat) : OwnB w B (.slice none 0 0) [] := ⟨rfl, .inl ⟨rfl, rfl⟩⟩

theorem ne_types {w : World} {b1 b2 s1 s2 n1 n2 : Nat} {e1 e2 : TypeId} {v1 v2 : Value} {x1 x2 : List Value} (h1 : w.ownsRow b1 e1 s1 v1 n1 x1) (h2 : w.ownsRow b2 e2 s2 v2 n2 x2) (he : e1 ≠ e2) : v1.ownBlock = none ∨ v1.ownBlock ≠ v2.ownBlock := by
  obtain ⟨_, h1⟩ := h1
  rcases h1 with ⟨hv, _⟩ | ⟨g, cap, cur, hv, _, hh, _⟩
  · subst hv; exact .inl rfl
  · refine .inr ?_
    intro e
    exact row_noBlk (v := v2) (g := g) (t := e1) (cs := cur) h2 hh he (by rw [← e, hv]; rfl)

theorem Blk.row {w w' : World} {g : Nat} {t : TypeId} {cs : Array Value} {b s n : Nat} {e : TypeId} {v : Value} {x : List Value} (h : Blk w g t cs) (hr : w.ownsRow b e s v n x) (hg : w.grownBy w' v.ownBlock) (he : t ≠ e) : Blk w' g t cs :=
  h.grown hg (row_noBlk hr h he)

theorem below_rowG {B : Nat} {w0 w w' : World} {base size n : Nat} {e : TypeId} {v : Value} {xs : List Value} (hb : Below B w0 w) (h : w.ownsRow base e size v n xs) (hg : w.grownBy w' v.ownBlock) (h1 : B ≤ base) (h2 : B ≤ w.heap.size) : Below B w0 w' :=
  hb.grown hg h2 (fun k hk => by have := (World.ownsRow.lt h k hk).1; omega)

theorem markBoolS_at (a : Option Addr) (n cap base s : Nat) (x : Int) (zs : List Bool) (w : World) (hx : x = ((s : Nat) : Int)) (h : OwnB w base (.slice a n cap) zs) (hl : n ≤ 20000000) (hs' : s ≤ 9000000) :
    Calls Try.prog 89 #[.slice a n cap, .int .i64 x] w fun e w' => e = .returned (.int .i64 ((s : Int) + (n : Int))) ∧ OwnB w' base (.slice a n cap) (marksB s n) ∧ w.grownBy w' (Value.slice a n cap).ownBlock := by
  subst hx
  exact markBoolS_from a n cap base s zs w h hl hs'

set_option maxRecDepth 20000 in
set_option maxHeartbeats 4000000 in
theorem markReq_any (kd pl nn wa : Int) (g1 g2 : Option Addr) (l1 l2 c1 c2 b1 b2 : Nat) (ws : List Int) (bs : List Bool) (w : World) (o1 : OwnI w b1 (.slice g1 l1 c1) ws) (o2 : OwnB w b2 (.slice g2 l2 c2) bs) (hl1 : l1 ≤ 2000000) (hl2 : l2 ≤ 2000000) :
    Calls Try.prog 38 #[rq kd pl nn wa g1 g2 l1 l2 c1 c2, .int .i64 1] w fun e w' => e = .returned (.int .i64 (1 + (l1 : Int) + (l2 : Int))) ∧ OwnI w' b1 (.slice g1 l1 c1) (marksI 1 l1) ∧ OwnB w' b2 (.slice g2 l2 c2) (marksB (1 + l1) l2) ∧
      (∀ base v zs, Own w base v zs → Own w' base v zs) ∧ (∀ g t cs, Blk w g t cs → t ≠ 3 → t ≠ 4 → Blk w' g t cs) ∧ (∀ B W, Below B W w → B ≤ b1 → B ≤ b2 → B ≤ w.heap.size → Below B W w') := by
  have B0 := bel_alloc w (.cells #[.int .i64 kd, .int .i64 pl, .int .i64 nn, .slice g1 l1 c1, .slice g2 l2 c2, .int .i64 wa] 27)
  have X0 := Blk.new w #[.int .i64 kd, .int .i64 pl, .int .i64 nn, .slice g1 l1 c1, .slice g2 l2 c2, .int .i64 wa] 27
  have p1 := o1.below B0
  have p2 := o2.below B0
  obtain ⟨x0, x1, x2, x3, x4, x5⟩ := X0.six
  obtain ⟨w0, hw0⟩ : ∃ w0, w0 = w.alloc (.cells #[.int .i64 kd, .int .i64 pl, .int .i64 nn, .slice g1 l1 c1, .slice g2 l2 c2, .int .i64 wa] 27) := ⟨_, rfl⟩
  have HW : Hid (w0 = _) := hw0
  rw [← hw0] at p1 p2 B0 X0 x0 x1 x2 x3 x4 x5
  clear hw0
  go_enter Try.func38, Try.ntmps38
  go_upto_region 1 with fail
  rw [← HW.out]
  go_wp2_with fail
  refine (markIntS_from _ _ _ _ 1 ws _ p1 (by omega) (by omega)).mono ?_
  rintro e w1 ⟨rfl, r1, gr1⟩
  have r2 := World.ownsRow.kept p2 gr1 (ne_types p2 p1 (by decide))
  have X1 := X0.row p1 gr1 (by decide)
  obtain ⟨y0, y1, y2, y3, y4, y5⟩ := X1.six
  have HK1 : Hid ((∀ base v zs, Own w base v zs → Own w1 base v zs) ∧ (∀ g t cs, Blk w g t cs → t ≠ 3 → t ≠ 4 → Blk w1 g t cs) ∧ (∀ B W, Below B W w → B ≤ b1 → B ≤ w.heap.size → Below B W w1 ∧ B ≤ w1.heap.size)) := by
    refine ⟨fun base v zs h => Own.kept (h.below B0) gr1 (ne_types (h.below B0) p1 (by decide)), fun g t cs h ht _ => (h.below B0).row p1 gr1 ht, fun B W h hB hs => ?_⟩
    have q := h.trans (B0.mono hs)
    have q2 : B ≤ w0.heap.size := by have := B0.size; omega
    exact ⟨below_rowG q p1 gr1 hB q2, by have := gr1.size; omega⟩
  clear x0 x1 x2 x3 x4 x5 X0 gr1 p1 p2
  go_wp2_with fail
  refine (markBoolS_at _ _ _ _ (1 + l1) _ bs _ (by omega) r2 (by omega) (by omega)).mono ?_
  rintro e w2 ⟨rfl, t2, gr2⟩
  have t1 := World.ownsRow.kept r1 gr2 (ne_types r1 r2 (by decide))
  have HK : Hid (OwnI w2 b1 (.slice g1 l1 c1) (marksI 1 l1) ∧ OwnB w2 b2 (.slice g2 l2 c2) (marksB (1 + l1) l2) ∧ (∀ base v zs, Own w base v zs → Own w2 base v zs) ∧ (∀ g t cs, Blk w g t cs → t ≠ 3 → t ≠ 4 → Blk w2 g t cs) ∧ (∀ B W, Below B W w → B ≤ b1 → B ≤ b2 → B ≤ w.heap.size → Below B W w2)) := by
    refine ⟨t1, t2, fun base v zs h => ?_, fun g t cs h ht ht' => ?_, fun B W h hB hB2 hs => ?_⟩
    · have := HK1.out.1 base v zs h
      exact Own.kept this gr2 (ne_types this r2 (by decide))
    · exact (HK1.out.2.1 g t cs h ht ht').row r2 gr2 ht'
    · obtain ⟨q, q2⟩ := HK1.out.2.2 B W h hB hs
      exact below_rowG q r2 gr2 hB2 q2
  have ez : (1 : Int) + (l1 : Int) + (l2 : Int) = ((1 + l1 : Nat) : Int) + (l2 : Int) := by omega
  clear t1 t2 gr2 r1 r2 X1 y0 y1 y2 y3 y4 y5
  go_wp2
  go_ret
  exact ⟨by rw [ez]; rfl, HK.out⟩

theorem heldBoolS_at (a : Option Addr) (n cap s : Nat) (x : Int) (w : World) (hx : x = ((s : Nat) : Int)) (hs : SlB w a (marksB s n)) (hl : n ≤ 20000000) (hs' : s ≤ 9000000) :
    Calls Try.prog 91 #[.slice a n cap, .int .i64 x] w fun e w' => e = .returned (.int .i64 ((s : Int) + (n : Int))) ∧ w' = w := by
  subst hx
  exact heldBoolS_from a n cap s w hs hl hs'

theorem grownN_below {w u : World} (h : w.grownBy u none) : Below w.heap.size w u := ⟨h.os, h.tape, h.output, h.size, fun k hk => h.block k hk (by simp)⟩

set_option maxHeartbeats 2000000 in
theorem markResp_0 (kd fl : Int) (w : World) :
    Calls Try.prog 39 #[rp kd fl 0 0 none none 0 0 0 0, .int .i64 1] w fun e w' => e = .returned (.int .i64 1) ∧ Below w.heap.size w w' := by
  have B0 := bel_alloc w (.cells #[.int .i64 kd, .int .i64 fl, .int .i64 0, .int .i64 0, .slice none 0 0, .slice none 0 0] 29)
  obtain ⟨x0, x1, x2, x3, x4, x5⟩ := (Blk.new w #[.int .i64 kd, .int .i64 fl, .int .i64 0, .int .i64 0, .slice none 0 0, .slice none 0 0] 29).six
  go_enter Try.func39, Try.ntmps39
  go_wp2_with fail
  refine (markIntS_from none 0 0 0 1 [] _ (ownI_nil _ _) (by omega) (by omega)).mono ?_
  rintro e w1 ⟨rfl, _, gr⟩
  have b1' := grownN_below gr
  have b1 := bel_next B0 b1'
  obtain ⟨x0, x1, x2, x3, x4, x5⟩ := ((Blk.new w #[.int .i64 kd, .int .i64 fl, .int .i64 0, .int .i64 0, .slice none 0 0, .slice none 0 0] 29).below b1').six
  clear gr b1' B0
  go_wp2_with fail
  refine (markBoolS_at none 0 0 0 1 _ [] _ rfl (ownB_nil _ _) (by omega) (by omega)).mono ?_
  rintro e w2 ⟨rfl, _, gr⟩
  have b2 := bel_next b1 (grownN_below gr)
  go_wp2
  go_ret
  exact ⟨rfl, b2⟩

set_option maxHeartbeats 2000000 in
theorem heldResp_0 (kd fl : Int) (w : World) :
    Calls Try.prog 41 #[rp kd fl 0 0 none none 0 0 0 0, .int .i64 1] w fun e w' => e = .returned (.int .i64 1) ∧ Below w.heap.size w w' := by
  have B0 := bel_alloc w (.cells #[.int .i64 kd, .int .i64 fl, .int .i64 0, .int .i64 0, .slice none 0 0, .slice none 0 0] 29)
  obtain ⟨x0, x1, x2, x3, x4, x5⟩ := (Blk.new w #[.int .i64 kd, .int .i64 fl, .int .i64 0, .int .i64 0, .slice none 0 0, .slice none 0 0] 29).six
  go_enter Try.func41, Try.ntmps41
  go_wp2_with fail
  refine (heldIntS_from none 0 0 1 _ (.inl rfl) (by omega) (by omega)).mono ?_
  rintro e w1 ⟨rfl, rfl⟩
  go_wp2_with fail
  refine (heldBoolS_at none 0 0 1 _ _ rfl (.inl rfl) (by omega) (by omega)).mono ?_
  rintro e w2 ⟨rfl, rfl⟩
  go_wp2
  go_ret
  exact ⟨rfl, B0⟩

end Go.Proofs.Ytmbkfoemhnhoiaa
