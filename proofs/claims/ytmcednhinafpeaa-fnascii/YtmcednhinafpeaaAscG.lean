/- Frames that ended, none or one, in a row that may have room behind them: what the laws' own helpers do with them. -/
import Derived.Test.YtmcednhinafpeaaAsc0
namespace Go.Proofs.Ytmcednhinafpeaa
open Go.RowKit

set_option linter.unusedVariables false

set_option linter.unusedSimpArgs false

/-- A frame that ended, as the first cells of a block. -/
abbrev gcs (k u : Int) (pa : Option Addr) (pn pc : Nat) (rs : List Value) : Array Value := (Value.int .i64 k :: Value.int .i64 u :: Value.slice pa pn pc :: rs).toArray

theorem gcs_three {w : World} {g : Nat} {t : TypeId} {k u : Int} {pa : Option Addr} {pn pc : Nat} {rs : List Value} (h : Blk w g t (gcs k u pa pn pc rs)) : w.cell? ⟨g, 0, none⟩ = some (.int .i64 k) ∧ w.cell? ⟨g, 1, none⟩ = some (.int .i64 u) ∧ w.cell? ⟨g, 2, none⟩ = some (.slice pa pn pc) :=
  ⟨h.cell 0 (by simp), h.cell 1 (by simp), h.cell 2 (by simp)⟩

theorem gcs_set {w : World} {g : Nat} {t : TypeId} {k u k' u' : Int} {pa : Option Addr} {pn pc : Nat} {rs : List Value} (h : Blk w g t (gcs k u pa pn pc rs)) : Blk ((w.setCell ⟨g, 0, none⟩ (.int .i64 k')).setCell ⟨g, 1, none⟩ (.int .i64 u')) g t (gcs k' u' pa pn pc rs) := by
  have := (h.set 0 (.int .i64 k')).set 1 (.int .i64 u')
  simpa using this

/-- None, or one frame that ended, from block B on; x lies elsewhere than its bytes. -/
def GotX (w : World) (B : Nat) (x : Value) (ga : Option Addr) (gn : Nat) (gs : Option (Int × Int × List Int)) : Prop :=
  (gs = none ∧ gn = 0) ∨ ∃ k u ps g pa pn pc rs, gs = some (k, u, ps) ∧ ga = some ⟨g, 0, none⟩ ∧ gn = 1 ∧ B ≤ g ∧ Blk w g 39 (gcs k u pa pn pc rs) ∧ pn = ps.length ∧ Own w B (.slice pa pn pc) ps ∧ DfT x (.slice pa pn pc) ∧ ps.length ≤ 300

theorem GotX.below {w w' : World} {B : Nat} {x : Value} {ga : Option Addr} {gn : Nat} {gs : Option (Int × Int × List Int)} (h : GotX w B x ga gn gs) (hb : Below w.heap.size w w') : GotX w' B x ga gn gs := by
  rcases h with h | ⟨k, u, ps, g, pa, pn, pc, rs, h1, h2, h3, h4, h5, h6, h7, h8, h9⟩
  · exact .inl h
  · exact .inr ⟨k, u, ps, g, pa, pn, pc, rs, h1, h2, h3, h4, h5.below hb, h6, h7.below hb, h8, h9⟩

theorem GotX.mono {w : World} {B B' : Nat} {x : Value} {ga : Option Addr} {gn : Nat} {gs : Option (Int × Int × List Int)} (h : GotX w B x ga gn gs) (hb : B' ≤ B) : GotX w B' x ga gn gs := by
  rcases h with h | ⟨k, u, ps, g, pa, pn, pc, rs, h1, h2, h3, h4, h5, h6, h7, h8, h9⟩
  · exact .inl h
  · exact .inr ⟨k, u, ps, g, pa, pn, pc, rs, h1, h2, h3, by omega, h5, h6, h7.monoT hb, h8, h9⟩

/-- Where a block below is written. -/
theorem GotX.kept {w w' : World} {B : Nat} {x : Value} {ga : Option Addr} {gn : Nat} {gs : Option (Int × Int × List Int)} {row : Option Nat} (h : GotX w B x ga gn gs) (hg : w.grownBy w' row) (hr : ∀ k, row = some k → k < B) : GotX w' B x ga gn gs := by
  rcases h with h | ⟨k, u, ps, g, pa, pn, pc, rs, h1, h2, h3, h4, h5, h6, h7, h8, h9⟩
  · exact .inl h
  · refine .inr ⟨k, u, ps, g, pa, pn, pc, rs, h1, h2, h3, h4, h5.grown hg (fun e => by have := hr g e; omega), h6, h7.kept hg ?_, h8, h9⟩
    cases e : (Value.slice pa pn pc).ownBlock with
    | none => exact .inl rfl
    | some j => exact .inr (fun e2 => by have := hr j e2.symm; have := (World.ownsRow.lt h7 j e).1; omega)

/-- Where x itself is written. -/
theorem GotX.keptX {w w' : World} {B base : Nat} {x : Value} {ga : Option Addr} {gn : Nat} {gs : Option (Int × Int × List Int)} {zs : List Int} (h : GotX w B x ga gn gs) (ho : Own w base x zs) (hg : w.grownBy w' x.ownBlock) : GotX w' B x ga gn gs := by
  rcases h with h | ⟨k, u, ps, g, pa, pn, pc, rs, h1, h2, h3, h4, h5, h6, h7, h8, h9⟩
  · exact .inl h
  · exact .inr ⟨k, u, ps, g, pa, pn, pc, rs, h1, h2, h3, h4, h5.grown hg (row_noBlk ho h5 (by decide)), h6, h7.kept hg h8.symm.ne, h8, h9⟩

set_option maxRecDepth 20000 in
set_option maxHeartbeats 4000000 in
theorem eqGotS_x (x x' : Value) (ga ga' : Option Addr) (gn gn' gc gc' B B' : Nat) (gs : Option (Int × Int × List Int)) (w : World) (h : GotX w B x ga gn gs) (h' : GotX w B' x' ga' gn' gs) :
    Calls Try.prog 32 #[.slice ga gn gc, .slice ga' gn' gc'] w fun e w' => e = .returned (.bool true) ∧ Below w.heap.size w w' := by
  rcases h with ⟨rfl, rfl⟩ | ⟨k, u, ps, g, pa, pn, pc, rs, rfl, rfl, rfl, _, h5, h6, h7, _, h9⟩
  · rcases h' with ⟨_, rfl⟩ | ⟨k, u, ps, g, pa, pn, pc, rs, e, _⟩
    · go_enter Try.func32, Try.ntmps32
      go_wp2
      refine wp_loop_rounds 1 ?_
      rw [rounds_succ]
      go_wp2
      go_ret
      exact ⟨rfl, Below.refl _ _⟩
    · cases e
  · rcases h' with ⟨e, _⟩ | ⟨k', u', ps', g', pa', pn', pc', rs', e, rfl, rfl, _, q5, q6, q7, _, _⟩
    · cases e
    · simp only [Option.some.injEq, Prod.mk.injEq] at e
      obtain ⟨rfl, rfl, rfl⟩ := e
      have HN : Hid (pn = ps.length ∧ pn' = ps.length ∧ ps.length ≤ 300) := ⟨h6, q6, h9⟩
      have HS : Hid (Sl w pa ps ∧ Sl w pa' ps) := ⟨h7.sl.2, q7.sl.2⟩
      obtain ⟨x0, x1, x2⟩ := (gcs_three h5)
      obtain ⟨y0, y1, y2⟩ := (gcs_three q5)
      clear h5 h6 h7 h9 q5 q6 q7
      go_enter Try.func32, Try.ntmps32
      go_wp2
      refine wp_loop_rounds 2 ?_
      rw [rounds_succ]
      go_wp2_with fail
      go_region_with (go_at_call 59; refine (eqGot_true k u pa pa' pn pn' pc pc' ps _ HN.out.1 HN.out.2.1 (HS.out.1.below ?_) (HS.out.2.below ?_) HN.out.2.2).mono ?_; (first | exact Below.refl _ _ | exact (Below.refl _ _).drew | exact (Below.refl _ _).drew.drew); (first | exact Below.refl _ _ | exact (Below.refl _ _).drew | exact (Below.refl _ _).drew.drew); rintro e w1 ⟨rfl, b1'⟩; have b1 : Below w.heap.size w w1 := bel_next (by first | exact Below.refl _ _ | exact (Below.refl _ _).drew | exact (Below.refl _ _).drew.drew) b1'; clear b1')
      all_goals (
        clear x0 x1 x2 y0 y1 y2
        go_wp2
        rw [rounds_succ]
        go_wp2
        go_ret
        exact ⟨rfl, b1⟩)

theorem GotX.one {w : World} {B g : Nat} {x : Value} {k u : Int} {ps : List Int} {pa : Option Addr} {pn pc : Nat} {rs : List Value} (h4 : B ≤ g) (h5 : Blk w g 39 (gcs k u pa pn pc rs)) (h6 : pn = ps.length) (h7 : Own w B (.slice pa pn pc) ps) (h8 : DfT x (.slice pa pn pc)) (h9 : ps.length ≤ 300) : GotX w B x (some ⟨g, 0, none⟩) 1 (some (k, u, ps)) :=
  .inr ⟨k, u, ps, g, pa, pn, pc, rs, rfl, rfl, rfl, h4, h5, h6, h7, h8, h9⟩

set_option maxRecDepth 20000 in
set_option maxHeartbeats 4000000 in
theorem markGotS_x (sv : Int) (x : Value) (ga : Option Addr) (gn gc B s : Nat) (gs : Option (Int × Int × List Int)) (w : World) (hsv : sv = (s : Int)) (h : GotX w B x ga gn gs) (hs : s ≤ 8000000) :
    Calls Try.prog 33 #[.slice ga gn gc, .int .i64 sv] w fun e w' => e = .returned (.int .i64 (sv + (cnG gs : Int))) ∧ GotX w' B x ga gn (mkG s gs) ∧ (∀ base zs, Own w base x zs → Own w' base x zs) ∧ (∀ B0 W, Below B0 W w → B0 ≤ B → B0 ≤ w.heap.size → Below B0 W w') ∧ (∀ g' t cs, Blk w g' t cs → t ≠ 39 → t ≠ 5 → Blk w' g' t cs) := by
  subst hsv
  rcases h with ⟨rfl, rfl⟩ | ⟨k, u, ps, g, pa, pn, pc, rs, rfl, rfl, rfl, h4, h5, h6, h7, h8, h9⟩
  · go_enter Try.func33, Try.ntmps33
    go_wp2
    refine wp_loop_rounds 1 ?_
    rw [rounds_succ]
    go_wp2
    go_ret
    exact ⟨by simp [cnG], .inl ⟨rfl, rfl⟩, fun _ _ h => h, fun _ _ h _ _ => h, fun _ _ _ h _ _ => h⟩
  · obtain ⟨x0, x1, x2⟩ := (gcs_three h5)
    have f0 := h5.fro 0
    have f1 := h5.fro 1
    have q5 := gcs_set (k' := (s : Int)) (u' := (s : Int) + 1) h5
    have q7 : Own ((w.setCell ⟨g, 0, none⟩ (.int .i64 (s : Int))).setCell ⟨g, 1, none⟩ (.int .i64 ((s : Int) + 1))) B (.slice pa pn pc) ps := row_set (row_set h7 h5 (by decide)) (h5.set 0 (.int .i64 (s : Int))) (by decide)
    have HX : Hid (∀ base zs, Own w base x zs → Own ((w.setCell ⟨g, 0, none⟩ (.int .i64 (s : Int))).setCell ⟨g, 1, none⟩ (.int .i64 ((s : Int) + 1))) base x zs) := fun base zs h => row_set (row_set h h5 (by decide)) (h5.set 0 (.int .i64 (s : Int))) (by decide)
    have HB : Hid (∀ B0 W, Below B0 W w → B0 ≤ B → B0 ≤ w.heap.size → Below B0 W ((w.setCell ⟨g, 0, none⟩ (.int .i64 (s : Int))).setCell ⟨g, 1, none⟩ (.int .i64 ((s : Int) + 1)))) := fun B0 W h h1 _ => (h.setCell (p := ⟨g, 0, none⟩) (by show B0 ≤ g; omega) _).setCell (p := ⟨g, 1, none⟩) (by show B0 ≤ g; omega) _
    have HK : Hid (∀ g' t cs, Blk w g' t cs → t ≠ 39 → Blk ((w.setCell ⟨g, 0, none⟩ (.int .i64 (s : Int))).setCell ⟨g, 1, none⟩ (.int .i64 ((s : Int) + 1))) g' t cs) := fun g' t cs h ht => by
      have hne : g' ≠ g := fun e => by subst e; unfold Blk at h h5; rw [h5] at h; simp at h; exact ht h.2.symm
      exact (h.setNe hne).setNe hne
    have HN : Hid (pn = ps.length ∧ ps.length ≤ 300 ∧ B ≤ g ∧ DfT x (.slice pa pn pc)) := ⟨h6, h9, h4, h8⟩
    have HZ : Hid (((w.setCell ⟨g, 0, none⟩ (.int .i64 (s : Int))).setCell ⟨g, 1, none⟩ (.int .i64 ((s : Int) + 1))).heap.size = w.heap.size) := by show _ = _; simp [World.setCell]
    clear h5 h6 h7 h8 h9
    go_enter Try.func33, Try.ntmps33
    go_wp2
    refine wp_loop_rounds 2 ?_
    rw [rounds_succ]
    go_wp2_with fail
    generalize (w.setCell ⟨g, 0, none⟩ (.int .i64 (s : Int))).setCell ⟨g, 1, none⟩ (.int .i64 ((s : Int) + 1)) = w1 at *
    refine (markByteS_tv _ pa pn pc B (s + 2) ps _ (by omega) q7 (by have := HN.out; omega) (by omega)).mono ?_
    rintro e w2 ⟨rfl, o2, g2⟩
    have q52 := q5.grown g2 (row_noBlk q7 q5 (by decide))
    have R : Hid (GotX w2 B x (some ⟨g, 0, none⟩) 1 (mkG s (some (k, u, ps))) ∧ (∀ base zs, Own w base x zs → Own w2 base x zs) ∧ (∀ B0 W, Below B0 W w → B0 ≤ B → B0 ≤ w.heap.size → Below B0 W w2) ∧ (∀ g' t cs, Blk w g' t cs → t ≠ 39 → t ≠ 5 → Blk w2 g' t cs)) := by
      obtain ⟨hn, h300, hBg, hd⟩ := HN.out
      refine ⟨?_, fun base zs h => (HX.out base zs h).kept g2 hd.ne, fun B0 W h h1 h2 => ?_, fun g' t cs h ht hu => (HK.out g' t cs h ht).grown g2 (row_noBlk q7 (HK.out g' t cs h ht) hu)⟩
      · have e : mkG s (some (k, u, ps)) = some ((s : Int), (s : Int) + 1, marksF (s + 2) pn) := by rw [hn]; rfl
        rw [e]
        exact GotX.one hBg q52 (marksF_length _ _).symm o2 hd (by rw [marksF_length, hn]; exact h300)
      · have b1 := HB.out B0 W h h1 h2
        exact b1.grown g2 (by have := b1.size; have := h.size; have := HZ.out; omega) (fun j hj => by have := (World.ownsRow.lt q7 j hj).1; omega)
    have E : Hid ((s : Int) + 1 + 1 + (pn : Int) = (s : Int) + (cnG (some (k, u, ps)) : Int)) := by show _ = _; rw [HN.out.1]; simp [cnG]; omega
    clear q5 q7 o2 g2 q52 x0 x1 x2 f0 f1
    go_wp2
    rw [rounds_succ]
    go_wp2
    go_ret
    exact ⟨by rw [E.out]; rfl, R.out⟩

set_option maxRecDepth 20000 in
set_option maxHeartbeats 4000000 in
theorem heldGotS_x (sv : Int) (x : Value) (ga : Option Addr) (gn gc B s : Nat) (gs : Option (Int × Int × List Int)) (w : World) (hsv : sv = (s : Int)) (h : GotX w B x ga gn (mkG s gs)) (hs : s ≤ 8000000) :
    Calls Try.prog 34 #[.slice ga gn gc, .int .i64 sv] w fun e w' => e = .returned (.int .i64 (sv + (cnG gs : Int))) ∧ Below w.heap.size w w' := by
  subst hsv
  rcases h with ⟨e, rfl⟩ | ⟨k, u, ps, g, pa, pn, pc, rs, e, rfl, rfl, h4, h5, h6, h7, h8, h9⟩
  · obtain rfl : gs = none := by cases gs <;> simp_all [mkG]
    go_enter Try.func34, Try.ntmps34
    go_wp2
    refine wp_loop_rounds 1 ?_
    rw [rounds_succ]
    go_wp2
    go_ret
    exact ⟨by simp [cnG], Below.refl _ _⟩
  · obtain ⟨k', u', ps', rfl⟩ : ∃ k' u' ps', gs = some (k', u', ps') := by
      cases gs with
      | none => simp [mkG] at e
      | some p => obtain ⟨a, b, c⟩ := p; exact ⟨a, b, c, rfl⟩
    simp only [mkG, Option.map_some, Option.some.injEq, Prod.mk.injEq] at e
    obtain ⟨rfl, rfl, rfl⟩ := e
    rw [marksF_length] at h6 h9
    obtain ⟨x0, x1, x2⟩ := (gcs_three h5)
    have HN : Hid (pn = ps'.length ∧ ps'.length ≤ 300) := ⟨h6, h9⟩
    have HS : Hid (Sl w pa (marksF (s + 2) pn)) := by rw [h6]; exact h7.sl.2
    have f0 : ¬ ((s : Int) + 1 + 1 + (pn : Int) < 0) := by omega
    have E : Hid ((s : Int) + 1 + 1 + (pn : Int) = (s : Int) + (cnG (some (k', u', ps')) : Int)) := by show _ = _; rw [h6]; simp [cnG]; omega
    clear h5 h6 h7 h8 h9 h4
    go_enter Try.func34, Try.ntmps34
    go_wp2
    refine wp_loop_rounds 2 ?_
    rw [rounds_succ]
    go_wp2_with fail
    refine (heldByteS_tv _ pa pn pc (s + 2) _ (by omega) HS.out (by have := HN.out; omega) (by omega)).mono ?_
    rintro e w1 ⟨rfl, e1⟩
    subst e1
    clear x0 x1 x2
    go_wp2
    rw [rounds_succ]
    go_wp2
    go_ret
    exact ⟨by rw [E.out]; rfl, Below.refl _ _⟩

/-- As GotX, its bytes below block bb. -/
def GotY (w : World) (B bb : Nat) (ga : Option Addr) (gn : Nat) (gs : Option (Int × Int × List Int)) : Prop :=
  (gs = none ∧ gn = 0) ∨ ∃ k u ps g pa pn pc rs, gs = some (k, u, ps) ∧ ga = some ⟨g, 0, none⟩ ∧ gn = 1 ∧ B ≤ g ∧ Blk w g 39 (gcs k u pa pn pc rs) ∧ pn = ps.length ∧ Own w B (.slice pa pn pc) ps ∧ (∀ j, (Value.slice pa pn pc).ownBlock = some j → j < bb) ∧ ps.length ≤ 300

theorem GotY.one {w : World} {B bb g : Nat} {k u : Int} {ps : List Int} {pa : Option Addr} {pn pc : Nat} {rs : List Value} (h4 : B ≤ g) (h5 : Blk w g 39 (gcs k u pa pn pc rs)) (h6 : pn = ps.length) (h7 : Own w B (.slice pa pn pc) ps) (h8 : ∀ j, (Value.slice pa pn pc).ownBlock = some j → j < bb) (h9 : ps.length ≤ 300) : GotY w B bb (some ⟨g, 0, none⟩) 1 (some (k, u, ps)) :=
  .inr ⟨k, u, ps, g, pa, pn, pc, rs, rfl, rfl, rfl, h4, h5, h6, h7, h8, h9⟩

end Go.Proofs.Ytmcednhinafpeaa
