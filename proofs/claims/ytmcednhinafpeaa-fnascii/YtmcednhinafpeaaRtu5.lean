/- Frames that ended, none or one: what the laws' own helpers do with them. -/
import Derived.Test.YtmcednhinafpeaaRtu1
import Derived.LoopN
import Derived.Deep.RegionWith
namespace Go.Proofs.Ytmcednhinafpeaa
open Go.RowKit

set_option linter.unusedVariables false

set_option linter.unusedSimpArgs false

theorem Blk.three {w : World} {g : Nat} {t : TypeId} {v0 v1 v2 : Value} (h : Blk w g t #[v0, v1, v2]) : w.cell? ⟨g, 0, none⟩ = some v0 ∧ w.cell? ⟨g, 1, none⟩ = some v1 ∧ w.cell? ⟨g, 2, none⟩ = some v2 :=
  ⟨h.cell 0 rfl, h.cell 1 rfl, h.cell 2 rfl⟩

/-- Two values lie in no common block. -/
def DfT (v u : Value) : Prop := v.ownBlock = none ∨ u.ownBlock = none ∨ v.ownBlock ≠ u.ownBlock

theorem DfT.ne {v u : Value} (h : DfT v u) : v.ownBlock = none ∨ v.ownBlock ≠ u.ownBlock := by
  rcases h with h | h | h
  · exact .inl h
  · cases e : v.ownBlock with
    | none => exact .inl rfl
    | some k => exact .inr (by rw [h]; simp)
  · exact .inr h

theorem DfT.symm {v u : Value} (h : DfT v u) : DfT u v := by
  rcases h with h | h | h
  · exact .inr (.inl h)
  · exact .inl h
  · exact .inr (.inr (fun e => h e.symm))

/-- None, or one frame that ended, from block B on; x lies elsewhere than its bytes. -/
def GotV (w : World) (B : Nat) (x : Value) (ga : Option Addr) (gn : Nat) (gs : Option (Int × Int × List Int)) : Prop :=
  (gs = none ∧ gn = 0) ∨ ∃ k u ps g pa pn pc, gs = some (k, u, ps) ∧ ga = some ⟨g, 0, none⟩ ∧ gn = 1 ∧ B ≤ g ∧ Blk w g 39 #[.int .i64 k, .int .i64 u, .slice pa pn pc] ∧ pn = ps.length ∧ Own w B (.slice pa pn pc) ps ∧ DfT x (.slice pa pn pc) ∧ ps.length ≤ 300

theorem GotV.below {w w' : World} {B : Nat} {x : Value} {ga : Option Addr} {gn : Nat} {gs : Option (Int × Int × List Int)} (h : GotV w B x ga gn gs) (hb : Below w.heap.size w w') : GotV w' B x ga gn gs := by
  rcases h with h | ⟨k, u, ps, g, pa, pn, pc, h1, h2, h3, h4, h5, h6, h7, h8, h9⟩
  · exact .inl h
  · exact .inr ⟨k, u, ps, g, pa, pn, pc, h1, h2, h3, h4, h5.below hb, h6, h7.below hb, h8, h9⟩

theorem GotV.mono {w : World} {B B' : Nat} {x : Value} {ga : Option Addr} {gn : Nat} {gs : Option (Int × Int × List Int)} (h : GotV w B x ga gn gs) (hb : B' ≤ B) : GotV w B' x ga gn gs := by
  rcases h with h | ⟨k, u, ps, g, pa, pn, pc, h1, h2, h3, h4, h5, h6, h7, h8, h9⟩
  · exact .inl h
  · exact .inr ⟨k, u, ps, g, pa, pn, pc, h1, h2, h3, by omega, h5, h6, h7.monoT hb, h8, h9⟩

/-- Where a block below is written. -/
theorem GotV.kept {w w' : World} {B : Nat} {x : Value} {ga : Option Addr} {gn : Nat} {gs : Option (Int × Int × List Int)} {row : Option Nat} (h : GotV w B x ga gn gs) (hg : w.grownBy w' row) (hr : ∀ k, row = some k → k < B) : GotV w' B x ga gn gs := by
  rcases h with h | ⟨k, u, ps, g, pa, pn, pc, h1, h2, h3, h4, h5, h6, h7, h8, h9⟩
  · exact .inl h
  · refine .inr ⟨k, u, ps, g, pa, pn, pc, h1, h2, h3, h4, h5.grown hg (fun e => by have := hr g e; omega), h6, h7.kept hg ?_, h8, h9⟩
    cases e : (Value.slice pa pn pc).ownBlock with
    | none => exact .inl rfl
    | some j => exact .inr (fun e2 => by have := hr j e2.symm; have := (World.ownsRow.lt h7 j e).1; omega)

/-- Where x itself is written. -/
theorem GotV.keptX {w w' : World} {B base : Nat} {x : Value} {ga : Option Addr} {gn : Nat} {gs : Option (Int × Int × List Int)} {zs : List Int} (h : GotV w B x ga gn gs) (ho : Own w base x zs) (hg : w.grownBy w' x.ownBlock) : GotV w' B x ga gn gs := by
  rcases h with h | ⟨k, u, ps, g, pa, pn, pc, h1, h2, h3, h4, h5, h6, h7, h8, h9⟩
  · exact .inl h
  · exact .inr ⟨k, u, ps, g, pa, pn, pc, h1, h2, h3, h4, h5.grown hg (row_noBlk ho h5 (by decide)), h6, h7.kept hg h8.symm.ne, h8, h9⟩

/-- The marks of a frame that ended. -/
def mkG (s : Nat) (gs : Option (Int × Int × List Int)) : Option (Int × Int × List Int) := gs.map (fun p => ((s : Int), (s : Int) + 1, marksF (s + 2) p.2.2.length))

def cnG (gs : Option (Int × Int × List Int)) : Nat := match gs with | none => 0 | some p => 2 + p.2.2.length

set_option maxRecDepth 20000 in
set_option maxHeartbeats 4000000 in
theorem eqGot_true (k u : Int) (pa pa' : Option Addr) (pn pn' pc pc' : Nat) (ps : List Int) (w : World) (h1 : pn = ps.length) (h1' : pn' = ps.length) (s1 : Sl w pa ps) (s1' : Sl w pa' ps) (hl : ps.length ≤ 300) :
    Calls Try.prog 59 #[.agg #[.int .i64 k, .int .i64 u, .slice pa pn pc], .agg #[.int .i64 k, .int .i64 u, .slice pa' pn' pc']] w fun e w' => e = .returned (.bool true) ∧ Below w.heap.size w w' := by
  have HN : Hid (pn = ps.length ∧ pn' = ps.length) := ⟨h1, h1'⟩
  have B0 : Below w.heap.size w ((w.alloc (.cells #[.int .i64 k, .int .i64 u, .slice pa pn pc] 39)).alloc (.cells #[.int .i64 k, .int .i64 u, .slice pa' pn' pc'] 39)) := bel_next (bel_alloc w _) (bel_alloc _ _)
  have HS : Hid (Sl _ pa ps ∧ Sl _ pa' ps) := ⟨s1.below B0, s1'.below B0⟩
  clear h1 h1' s1 s1'
  go_enter Try.func59, Try.ntmps59
  go_wp2_with fail
  refine (eqByteS_t _ _ _ _ _ _ ps _ HN.out.1 HN.out.2 HS.out.1 HS.out.2 (by omega)).mono ?_
  rintro e w1 ⟨rfl, b1'⟩
  have b1 := bel_next B0 b1'
  clear b1' B0 HS
  go_wp2
  go_ret
  exact ⟨rfl, b1⟩

set_option maxRecDepth 20000 in
set_option maxHeartbeats 4000000 in
theorem eqGotS_true (x x' : Value) (ga ga' : Option Addr) (gn gn' gc gc' B B' : Nat) (gs : Option (Int × Int × List Int)) (w : World) (h : GotV w B x ga gn gs) (h' : GotV w B' x' ga' gn' gs) :
    Calls Try.prog 32 #[.slice ga gn gc, .slice ga' gn' gc'] w fun e w' => e = .returned (.bool true) ∧ Below w.heap.size w w' := by
  rcases h with ⟨rfl, rfl⟩ | ⟨k, u, ps, g, pa, pn, pc, rfl, rfl, rfl, _, h5, h6, h7, _, h9⟩
  · rcases h' with ⟨_, rfl⟩ | ⟨k, u, ps, g, pa, pn, pc, e, _⟩
    · go_enter Try.func32, Try.ntmps32
      go_wp2
      refine wp_loop_rounds 1 ?_
      rw [rounds_succ]
      go_wp2
      go_ret
      exact ⟨rfl, Below.refl _ _⟩
    · cases e
  · rcases h' with ⟨e, _⟩ | ⟨k', u', ps', g', pa', pn', pc', e, rfl, rfl, _, q5, q6, q7, _, _⟩
    · cases e
    · simp only [Option.some.injEq, Prod.mk.injEq] at e
      obtain ⟨rfl, rfl, rfl⟩ := e
      have HN : Hid (pn = ps.length ∧ pn' = ps.length ∧ ps.length ≤ 300) := ⟨h6, q6, h9⟩
      have HS : Hid (Sl w pa ps ∧ Sl w pa' ps) := ⟨h7.sl.2, q7.sl.2⟩
      obtain ⟨x0, x1, x2⟩ := h5.three
      obtain ⟨y0, y1, y2⟩ := q5.three
      clear h5 h6 h7 h9 q5 q6 q7
      go_enter Try.func32, Try.ntmps32
      go_wp2
      refine wp_loop_rounds 2 ?_
      rw [rounds_succ]
      go_wp2_with fail
      go_region_with (go_at_call 59; refine (eqGot_true k u pa pa' pn pn' pc pc' ps _ HN.out.1 HN.out.2.1 (HS.out.1.below ?_) (HS.out.2.below ?_) HN.out.2.2).mono ?_; (first | exact Below.refl _ _ | exact (Below.refl _ _).drew | exact (Below.refl _ _).drew.drew); (first | exact Below.refl _ _ | exact (Below.refl _ _).drew | exact (Below.refl _ _).drew.drew); rintro e w1 ⟨rfl, b1'⟩; have b1 : Below w.heap.size w w1 := bel_next (by first | exact Below.refl _ _ | exact (Below.refl _ _).drew | exact (Below.refl _ _).drew.drew) b1'; clear b1')
      all_goals (
        clear x0 x1 x2 y0 y1 y2
        go_wp2
        rw [rounds_succ]
        go_wp2
        go_ret
        exact ⟨rfl, b1⟩)

theorem markByteS_tv (sv : Int) (a : Option Addr) (n cap base s : Nat) (zs : List Int) (w : World) (hsv : sv = (s : Int)) (h : Own w base (.slice a n cap) zs) (hl : n ≤ 3000000) (hs' : s ≤ 9000000) :
    Calls Try.prog 21 #[.slice a n cap, .int .i64 sv] w fun e w' => e = .returned (.int .i64 (sv + (n : Int))) ∧ Own w' base (.slice a n cap) (marksF s n) ∧ w.grownBy w' (Value.slice a n cap).ownBlock := by
  subst hsv; exact markByteS_from a n cap base s zs w h hl hs'

theorem heldByteS_tv (sv : Int) (a : Option Addr) (n cap s : Nat) (w : World) (hsv : sv = (s : Int)) (h : Sl w a (marksF s n)) (hl : n ≤ 3000000) (hs' : s ≤ 9000000) :
    Calls Try.prog 22 #[.slice a n cap, .int .i64 sv] w fun e w' => e = .returned (.int .i64 (sv + (n : Int))) ∧ w' = w := by
  subst hsv
  exact heldByteS_from a n cap s w h hl hs'

theorem GotV.one {w : World} {B g : Nat} {x : Value} {k u : Int} {ps : List Int} {pa : Option Addr} {pn pc : Nat} (h4 : B ≤ g) (h5 : Blk w g 39 #[.int .i64 k, .int .i64 u, .slice pa pn pc]) (h6 : pn = ps.length) (h7 : Own w B (.slice pa pn pc) ps) (h8 : DfT x (.slice pa pn pc)) (h9 : ps.length ≤ 300) : GotV w B x (some ⟨g, 0, none⟩) 1 (some (k, u, ps)) :=
  .inr ⟨k, u, ps, g, pa, pn, pc, rfl, rfl, rfl, h4, h5, h6, h7, h8, h9⟩

set_option maxRecDepth 20000 in
set_option maxHeartbeats 4000000 in
theorem markGotS_sv (sv : Int) (x : Value) (ga : Option Addr) (gn gc B s : Nat) (gs : Option (Int × Int × List Int)) (w : World) (hsv : sv = (s : Int)) (h : GotV w B x ga gn gs) (hs : s ≤ 8000000) :
    Calls Try.prog 33 #[.slice ga gn gc, .int .i64 sv] w fun e w' => e = .returned (.int .i64 (sv + (cnG gs : Int))) ∧ GotV w' B x ga gn (mkG s gs) ∧ (∀ base zs, Own w base x zs → Own w' base x zs) ∧ (∀ B0 W, Below B0 W w → B0 ≤ B → B0 ≤ w.heap.size → Below B0 W w') ∧ (∀ g' t cs, Blk w g' t cs → t ≠ 39 → t ≠ 5 → Blk w' g' t cs) := by
  subst hsv
  rcases h with ⟨rfl, rfl⟩ | ⟨k, u, ps, g, pa, pn, pc, rfl, rfl, rfl, h4, h5, h6, h7, h8, h9⟩
  · go_enter Try.func33, Try.ntmps33
    go_wp2
    refine wp_loop_rounds 1 ?_
    rw [rounds_succ]
    go_wp2
    go_ret
    exact ⟨by simp [cnG], .inl ⟨rfl, rfl⟩, fun _ _ h => h, fun _ _ h _ _ => h, fun _ _ _ h _ _ => h⟩
  · obtain ⟨x0, x1, x2⟩ := h5.three
    have f0 := h5.fro 0
    have f1 := h5.fro 1
    have q5 := (h5.set 0 (.int .i64 (s : Int))).set 1 (.int .i64 ((s : Int) + 1))
    have q7 : Own ((w.setCell ⟨g, 0, none⟩ (.int .i64 (s : Int))).setCell ⟨g, 1, none⟩ (.int .i64 ((s : Int) + 1))) B (.slice pa pn pc) ps := row_set (row_set h7 h5 (by decide)) (h5.set 0 (.int .i64 (s : Int))) (by decide)
    have HX : Hid (∀ base zs, Own w base x zs → Own ((w.setCell ⟨g, 0, none⟩ (.int .i64 (s : Int))).setCell ⟨g, 1, none⟩ (.int .i64 ((s : Int) + 1))) base x zs) := fun base zs h => row_set (row_set h h5 (by decide)) (h5.set 0 (.int .i64 (s : Int))) (by decide)
    have HB : Hid (∀ B0 W, Below B0 W w → B0 ≤ B → B0 ≤ w.heap.size → Below B0 W ((w.setCell ⟨g, 0, none⟩ (.int .i64 (s : Int))).setCell ⟨g, 1, none⟩ (.int .i64 ((s : Int) + 1)))) := fun B0 W h h1 _ => (h.setCell (p := ⟨g, 0, none⟩) (by show B0 ≤ g; omega) _).setCell (p := ⟨g, 1, none⟩) (by show B0 ≤ g; omega) _
    have HK : Hid (∀ g' t cs, Blk w g' t cs → t ≠ 39 → Blk ((w.setCell ⟨g, 0, none⟩ (.int .i64 (s : Int))).setCell ⟨g, 1, none⟩ (.int .i64 ((s : Int) + 1))) g' t cs) := fun g' t cs h ht => by
      have hne : g' ≠ g := fun e => by subst e; unfold Blk at h h5; rw [h5] at h; simp at h; exact ht h.2.symm
      exact (h.setNe hne).setNe hne
    have HN : Hid (pn = ps.length ∧ ps.length ≤ 300 ∧ B ≤ g ∧ DfT x (.slice pa pn pc)) := ⟨h6, h9, h4, h8⟩
    have HZ : Hid (((w.setCell ⟨g, 0, none⟩ (.int .i64 (s : Int))).setCell ⟨g, 1, none⟩ (.int .i64 ((s : Int) + 1))).heap.size = w.heap.size) := by show _ = _; simp [World.setCell]
    clear h5 h6 h7 h8 h9
    go_enter Try.func33, Try.ntmps33
    go_wp2
    refine wp_loop_rounds 2 ?_
    rw [rounds_succ]
    go_wp2_with fail
    generalize (w.setCell ⟨g, 0, none⟩ (.int .i64 (s : Int))).setCell ⟨g, 1, none⟩ (.int .i64 ((s : Int) + 1)) = w1 at *
    refine (markByteS_tv _ pa pn pc B (s + 2) ps _ (by omega) q7 (by have := HN.out; omega) (by omega)).mono ?_
    rintro e w2 ⟨rfl, o2, g2⟩
    have q52 := q5.grown g2 (row_noBlk q7 q5 (by decide))
    have R : Hid (GotV w2 B x (some ⟨g, 0, none⟩) 1 (mkG s (some (k, u, ps))) ∧ (∀ base zs, Own w base x zs → Own w2 base x zs) ∧ (∀ B0 W, Below B0 W w → B0 ≤ B → B0 ≤ w.heap.size → Below B0 W w2) ∧ (∀ g' t cs, Blk w g' t cs → t ≠ 39 → t ≠ 5 → Blk w2 g' t cs)) := by
      obtain ⟨hn, h300, hBg, hd⟩ := HN.out
      refine ⟨?_, fun base zs h => (HX.out base zs h).kept g2 hd.ne, fun B0 W h h1 h2 => ?_, fun g' t cs h ht hu => (HK.out g' t cs h ht).grown g2 (row_noBlk q7 (HK.out g' t cs h ht) hu)⟩
      · have e : mkG s (some (k, u, ps)) = some ((s : Int), (s : Int) + 1, marksF (s + 2) pn) := by rw [hn]; rfl
        rw [e]
        exact GotV.one hBg q52 (marksF_length _ _).symm o2 hd (by rw [marksF_length, hn]; exact h300)
      · have b1 := HB.out B0 W h h1 h2
        exact b1.grown g2 (by have := b1.size; have := h.size; have := HZ.out; omega) (fun j hj => by have := (World.ownsRow.lt q7 j hj).1; omega)
    have E : Hid ((s : Int) + 1 + 1 + (pn : Int) = (s : Int) + (cnG (some (k, u, ps)) : Int)) := by show _ = _; rw [HN.out.1]; simp [cnG]; omega
    clear q5 q7 o2 g2 q52 x0 x1 x2 f0 f1
    go_wp2
    rw [rounds_succ]
    go_wp2
    go_ret
    exact ⟨by rw [E.out]; rfl, R.out⟩

set_option maxRecDepth 20000 in
set_option maxHeartbeats 4000000 in
theorem heldGotS_sv (sv : Int) (x : Value) (ga : Option Addr) (gn gc B s : Nat) (gs : Option (Int × Int × List Int)) (w : World) (hsv : sv = (s : Int)) (h : GotV w B x ga gn (mkG s gs)) (hs : s ≤ 8000000) :
    Calls Try.prog 34 #[.slice ga gn gc, .int .i64 sv] w fun e w' => e = .returned (.int .i64 (sv + (cnG gs : Int))) ∧ Below w.heap.size w w' := by
  subst hsv
  rcases h with ⟨e, rfl⟩ | ⟨k, u, ps, g, pa, pn, pc, e, rfl, rfl, h4, h5, h6, h7, h8, h9⟩
  · obtain rfl : gs = none := by cases gs <;> simp_all [mkG]
    go_enter Try.func34, Try.ntmps34
    go_wp2
    refine wp_loop_rounds 1 ?_
    rw [rounds_succ]
    go_wp2
    go_ret
    exact ⟨by simp [cnG], Below.refl _ _⟩
  · obtain ⟨k', u', ps', rfl⟩ : ∃ k' u' ps', gs = some (k', u', ps') := by
      cases gs with
      | none => simp [mkG] at e
      | some p => obtain ⟨a, b, c⟩ := p; exact ⟨a, b, c, rfl⟩
    simp only [mkG, Option.map_some, Option.some.injEq, Prod.mk.injEq] at e
    obtain ⟨rfl, rfl, rfl⟩ := e
    rw [marksF_length] at h6 h9
    obtain ⟨x0, x1, x2⟩ := h5.three
    have HN : Hid (pn = ps'.length ∧ ps'.length ≤ 300) := ⟨h6, h9⟩
    have HS : Hid (Sl w pa (marksF (s + 2) pn)) := by rw [h6]; exact h7.sl.2
    have f0 : ¬ ((s : Int) + 1 + 1 + (pn : Int) < 0) := by omega
    have E : Hid ((s : Int) + 1 + 1 + (pn : Int) = (s : Int) + (cnG (some (k', u', ps')) : Int)) := by show _ = _; rw [h6]; simp [cnG]; omega
    clear h5 h6 h7 h8 h9 h4
    go_enter Try.func34, Try.ntmps34
    go_wp2
    refine wp_loop_rounds 2 ?_
    rw [rounds_succ]
    go_wp2_with fail
    refine (heldByteS_tv _ pa pn pc (s + 2) _ (by omega) HS.out (by have := HN.out; omega) (by omega)).mono ?_
    rintro e w1 ⟨rfl, e1⟩
    subst e1
    clear x0 x1 x2
    go_wp2
    rw [rounds_succ]
    go_wp2
    go_ret
    exact ⟨by rw [E.out]; rfl, Below.refl _ _⟩

end Go.Proofs.Ytmcednhinafpeaa
