/- A call and a line that are marked, and held. -/
import Derived.Test.YtmhdneenjoelfaaCl3
import Derived.Test.YtmhdneenjoelfaaLn1
namespace Go.Proofs.Ytmhdneenjoelfaa
open Go.RowKit Go.Joins

set_option linter.unusedVariables false

set_option linter.unusedSimpArgs false

/-- What two rows that were marked leave as it was. -/
def FrR (w w' : World) (v1 v2 : Value) : Prop := w.heap.size ≤ w'.heap.size ∧ ∀ k, k < w.heap.size → v1.ownBlock ≠ some k → v2.ownBlock ≠ some k → w'.heap[k]? = w.heap[k]?

theorem FrR.pre {w0 w w' : World} {v1 v2 : Value} (hb : Below w0.heap.size w0 w) (h : FrR w w' v1 v2) : FrR w0 w' v1 v2 :=
  ⟨Nat.le_trans hb.size h.1, fun k hk h1 h2 => by rw [h.2 k (Nat.lt_of_lt_of_le hk hb.size) h1 h2, hb.block k hk]⟩

theorem Blk.six3 {w : World} {g : Nat} {t : TypeId} {v0 v1 v2 v3 v4 v5 : Value} (h : Blk w g t #[v0, v1, v2, v3, v4, v5]) : w.cell? ⟨g, 0, none⟩ = some v0 ∧ w.cell? ⟨g, 1, none⟩ = some v1 ∧ w.cell? ⟨g, 2, none⟩ = some v2 ∧ w.cell? ⟨g, 3, none⟩ = some v3 ∧ w.cell? ⟨g, 4, none⟩ = some v4 ∧ w.cell? ⟨g, 5, none⟩ = some v5 :=
  ⟨h.cell 0 rfl, h.cell 1 rfl, h.cell 2 rfl, h.cell 3 rfl, h.cell 4 rfl, h.cell 5 rfl⟩

/-- Marked rows, of the call's own. -/
def MkR (w w' : World) (b s : Nat) (a1 a2 : Option Addr) (l1 l2 c1 c2 : Nat) : Prop :=
  OwnI w' b (.slice a1 l1 c1) (marksI s l1) ∧ OwnB w' b (.slice a2 l2 c2) (marksB (s + l1) l2) ∧ FrR w w' (.slice a1 l1 c1) (.slice a2 l2 c2) ∧ Below b w w'

set_option maxRecDepth 20000 in
set_option maxHeartbeats 2000000 in
theorem markReqL (kd pl nn wa : Int) (g1 g2 : Option Addr) (l1 l2 c1 c2 b s : Nat) (ws : List Int) (bs : List Bool) (w : World) (o1 : OwnI w b (.slice g1 l1 c1) ws) (o2 : OwnB w b (.slice g2 l2 c2) bs) (hb : b ≤ w.heap.size) (hl1 : l1 ≤ 1048600) (hl2 : l2 ≤ 1048600) (hs : s + l1 ≤ 9000000) :
    Calls Try.prog 51 #[.agg #[.int .i64 kd, .int .i64 pl, .int .i64 nn, .slice g1 l1 c1, .slice g2 l2 c2, .int .i64 wa], .int .i64 (s : Int)] w fun e w' => e = .returned (.int .i64 ((s + l1 + l2 : Nat) : Int)) ∧ MkR w w' b s g1 g2 l1 l2 c1 c2 := by
  obtain ⟨B, hB⟩ : ∃ B, B = w.heap.size := ⟨_, rfl⟩
  obtain ⟨W, hW⟩ : ∃ W, W = w.alloc (.cells #[.int .i64 kd, .int .i64 pl, .int .i64 nn, .slice g1 l1 c1, .slice g2 l2 c2, .int .i64 wa] 28) := ⟨_, rfl⟩
  have bW : Below w.heap.size w W := by rw [hW]; exact bel_alloc _ _
  have HW : Hid (Below w.heap.size w W ∧ Blk W B 28 #[.int .i64 kd, .int .i64 pl, .int .i64 nn, .slice g1 l1 c1, .slice g2 l2 c2, .int .i64 wa] ∧ OwnI W b (.slice g1 l1 c1) ws ∧ OwnB W b (.slice g2 l2 c2) bs ∧ b ≤ w.heap.size) := ⟨bW, by rw [hW, hB]; exact Blk.new w _ _, o1.below bW, o2.below bW, hb⟩
  clear bW o1 o2 hb
  go_enter Try.func51, Try.ntmps51
  go_upto_region 1 with fail
  rw [← hW, ← hB]
  clear hW hB
  obtain ⟨y0, y1, y2, y3, y4, y5⟩ := HW.out.2.1.six3
  go_wp2_with fail
  refine (markIntS_from g1 l1 c1 b s ws _ HW.out.2.2.1 (by omega) (by omega)).mono ?_
  rintro e u1 ⟨rfl, m1, gg1⟩
  obtain ⟨x1, hx1⟩ : ∃ x1 : Nat, (x1 : Int) = (s : Int) + (l1 : Int) := ⟨s + l1, by omega⟩
  rw [← hx1]
  have HU : Hid (W.grownBy u1 (Value.slice g1 l1 c1).ownBlock ∧ OwnB u1 b (.slice g2 l2 c2) bs ∧ Blk u1 B 28 #[.int .i64 kd, .int .i64 pl, .int .i64 nn, .slice g1 l1 c1, .slice g2 l2 c2, .int .i64 wa] ∧ x1 = s + l1 ∧ OwnI u1 b (.slice g1 l1 c1) (marksI s l1)) := ⟨gg1, HW.out.2.2.2.1.kept gg1 (ne_typesE HW.out.2.2.2.1 HW.out.2.2.1 (by decide)), HW.out.2.1.grown gg1 (row_noBlk HW.out.2.2.1 HW.out.2.1 (by decide)), by omega, m1⟩
  clear m1 gg1 y0 y1 y2 y3 y4 y5 hx1
  obtain ⟨y0, y1, y2, y3, y4, y5⟩ := HU.out.2.2.1.six3
  go_wp2_with fail
  refine (markBoolS_from g2 l2 c2 b x1 bs _ HU.out.2.1 (by omega) (by have := HU.out; omega)).mono ?_
  rintro e u2 ⟨rfl, m2, gg2⟩
  obtain ⟨x2, hx2⟩ : ∃ x2 : Nat, (x2 : Int) = (x1 : Int) + (l2 : Int) := ⟨x1 + l2, by omega⟩
  rw [← hx2]
  have HV : Hid (x2 = s + l1 + l2 ∧ MkR w u2 b s g1 g2 l1 l2 c1 c2) := by
    have hx := HU.out.2.2.2.1
    refine ⟨by omega, HU.out.2.2.2.2.kept gg2 (ne_typesE HU.out.2.2.2.2 HU.out.2.1 (by decide)), by rw [← hx]; exact m2, ⟨Nat.le_trans HW.out.1.size (Nat.le_trans HU.out.1.size gg2.size), fun k hk h1 h2 => ?_⟩, ?_⟩
    · have q1 := Nat.lt_of_lt_of_le hk HW.out.1.size
      rw [gg2.block k (Nat.lt_of_lt_of_le q1 HU.out.1.size) (fun e => h2 e.symm), HU.out.1.block k q1 (fun e => h1 e.symm), HW.out.1.block k hk]
    · exact ((HW.out.1.mono HW.out.2.2.2.2).grown HU.out.1 (Nat.le_trans HW.out.2.2.2.2 HW.out.1.size) (fun k hk => (World.ownsRow.lt HW.out.2.2.1 k hk).1)).grown gg2 (Nat.le_trans HW.out.2.2.2.2 (Nat.le_trans HW.out.1.size HU.out.1.size)) (fun k hk => (World.ownsRow.lt HU.out.2.1 k hk).1)
  clear m2 gg2 y0 y1 y2 y3 y4 y5 hx2
  go_wp2
  go_ret
  exact ⟨by rw [← HV.out.1]; rfl, HV.out.2⟩

set_option maxRecDepth 20000 in
set_option maxHeartbeats 2000000 in
theorem markCallL (C : Ca) (g1 g2 : Option Addr) (l1 l2 c1 c2 b s : Nat) (ws : List Int) (bs : List Bool) (w : World) (o1 : OwnI w b (.slice g1 l1 c1) ws) (o2 : OwnB w b (.slice g2 l2 c2) bs) (hb : b ≤ w.heap.size) (hl1 : l1 ≤ 1048600) (hl2 : l2 ≤ 1048600) (hs : s + l1 ≤ 9000000) :
    Calls Try.prog 19 #[.agg (cac C g1 g2 l1 l2 c1 c2), .int .i64 (s : Int)] w fun e w' => e = .returned (.int .i64 ((s + l1 + l2 : Nat) : Int)) ∧ MkR w w' b s g1 g2 l1 l2 c1 c2 := by
  have bW := bel_alloc w (.cells (cac C g1 g2 l1 l2 c1 c2) 30)
  have HW : Hid (OwnI (w.alloc (.cells (cac C g1 g2 l1 l2 c1 c2) 30)) b (.slice g1 l1 c1) ws ∧ OwnB (w.alloc (.cells (cac C g1 g2 l1 l2 c1 c2) 30)) b (.slice g2 l2 c2) bs ∧ b ≤ (w.alloc (.cells (cac C g1 g2 l1 l2 c1 c2) 30)).heap.size ∧ b ≤ w.heap.size ∧ Below w.heap.size w (w.alloc (.cells (cac C g1 g2 l1 l2 c1 c2) 30))) := ⟨o1.below bW, o2.below bW, Nat.le_trans hb bW.size, hb, bW⟩
  clear o1 o2 bW hb
  go_enter Try.func19, Try.ntmps19
  go_wp2_with fail
  refine (markReqL C.kd C.pl C.n C.wa g1 g2 l1 l2 c1 c2 b s ws bs _ HW.out.1 HW.out.2.1 HW.out.2.2.1 hl1 hl2 hs).mono ?_
  rintro e w1 ⟨rfl, m⟩
  have HM : Hid (MkR w w1 b s g1 g2 l1 l2 c1 c2) := ⟨m.1, m.2.1, FrR.pre HW.out.2.2.2.2 m.2.2.1, (HW.out.2.2.2.2.mono HW.out.2.2.2.1).trans m.2.2.2⟩
  clear m
  obtain ⟨x, hx⟩ : ∃ x : Nat, x = s + l1 + l2 := ⟨_, rfl⟩
  rw [← hx]
  have HX : Hid (x = s + l1 + l2) := hx
  clear hx HW
  go_wp2
  go_ret
  exact ⟨by rw [← HX.out]; rfl, HM.out⟩

set_option maxRecDepth 20000 in
set_option maxHeartbeats 2000000 in
theorem heldReqL (kd pl nn wa : Int) (g1 g2 : Option Addr) (l1 l2 c1 c2 s : Nat) (w : World) (s1 : SlI w g1 (marksI s l1)) (s2 : SlB w g2 (marksB (s + l1) l2)) (hl1 : l1 ≤ 1048600) (hl2 : l2 ≤ 1048600) (hs : s + l1 ≤ 9000000) :
    Calls Try.prog 86 #[.agg #[.int .i64 kd, .int .i64 pl, .int .i64 nn, .slice g1 l1 c1, .slice g2 l2 c2, .int .i64 wa], .int .i64 (s : Int)] w fun e w' => e = .returned (.int .i64 ((s + l1 + l2 : Nat) : Int)) ∧ Below w.heap.size w w' := by
  have bW := bel_alloc w (.cells #[.int .i64 kd, .int .i64 pl, .int .i64 nn, .slice g1 l1 c1, .slice g2 l2 c2, .int .i64 wa] 28)
  obtain ⟨x1, hx1⟩ : ∃ x1 : Nat, x1 = s + l1 := ⟨_, rfl⟩
  obtain ⟨x2, hx2⟩ : ∃ x2 : Nat, x2 = s + l1 + l2 := ⟨_, rfl⟩
  have HW : Hid (SlI (w.alloc (.cells #[.int .i64 kd, .int .i64 pl, .int .i64 nn, .slice g1 l1 c1, .slice g2 l2 c2, .int .i64 wa] 28)) g1 (marksI s l1) ∧ SlB (w.alloc (.cells #[.int .i64 kd, .int .i64 pl, .int .i64 nn, .slice g1 l1 c1, .slice g2 l2 c2, .int .i64 wa] 28)) g2 (marksB x1 l2) ∧ x1 = s + l1 ∧ x2 = s + l1 + l2) := ⟨s1.below bW, by rw [hx1]; exact s2.below bW, hx1, hx2⟩
  rw [← hx2]
  have y1 : ¬ (x1 : Int) < 0 := by omega
  have y2 : ¬ (x2 : Int) < 0 := by omega
  clear s1 s2 hx1 hx2
  go_enter Try.func86, Try.ntmps86
  go_wp2_with fail
  refine (heldIntS_from g1 l1 c1 s _ HW.out.1 (by omega) (by omega)).mono ?_
  rintro e u1 ⟨rfl, hu⟩
  subst hu
  rw [show (s : Int) + (l1 : Int) = (x1 : Int) by have := HW.out; omega]
  go_wp2_with fail
  refine (heldBoolS_from g2 l2 c2 x1 _ HW.out.2.1 (by omega) (by have := HW.out; omega)).mono ?_
  rintro e u2 ⟨rfl, hu⟩
  subst hu
  rw [show (x1 : Int) + (l2 : Int) = (x2 : Int) by have := HW.out; omega]
  go_wp2
  go_ret
  exact ⟨rfl, bW⟩

set_option maxRecDepth 20000 in
set_option maxHeartbeats 2000000 in
theorem heldCallL (C : Ca) (g1 g2 : Option Addr) (l1 l2 c1 c2 s : Nat) (w : World) (s1 : SlI w g1 (marksI s l1)) (s2 : SlB w g2 (marksB (s + l1) l2)) (hl1 : l1 ≤ 1048600) (hl2 : l2 ≤ 1048600) (hs : s + l1 ≤ 9000000) :
    Calls Try.prog 53 #[.agg (cac C g1 g2 l1 l2 c1 c2), .int .i64 (s : Int)] w fun e w' => e = .returned (.int .i64 ((s + l1 + l2 : Nat) : Int)) ∧ Below w.heap.size w w' := by
  have bW := bel_alloc w (.cells (cac C g1 g2 l1 l2 c1 c2) 30)
  have HW : Hid (SlI (w.alloc (.cells (cac C g1 g2 l1 l2 c1 c2) 30)) g1 (marksI s l1) ∧ SlB (w.alloc (.cells (cac C g1 g2 l1 l2 c1 c2) 30)) g2 (marksB (s + l1) l2)) := ⟨s1.below bW, s2.below bW⟩
  clear s1 s2
  obtain ⟨x, hx⟩ : ∃ x : Nat, x = s + l1 + l2 := ⟨_, rfl⟩
  have HX : Hid (x = s + l1 + l2) := hx
  rw [← hx]
  have y1 : ¬ (x : Int) < 0 := by omega
  clear hx
  go_enter Try.func53, Try.ntmps53
  go_wp2_with fail
  refine (heldReqL C.kd C.pl C.n C.wa g1 g2 l1 l2 c1 c2 s _ HW.out.1 HW.out.2 hl1 hl2 hs).mono ?_
  rintro e w1 ⟨rfl, b1⟩
  rw [← HX.out]
  have B1 := bel_nx bW b1
  clear b1 bW HW
  go_wp2
  go_ret
  exact ⟨rfl, B1⟩

/-- A line whose rows are marked, from x on those of what is asked. -/
def mkL (x : Nat) (L : La) : La := { L with c := { L.c with ws := marksI x L.c.ws.length, bs := marksB (x + L.c.ws.length) L.c.bs.length } }

def SmL (n : Nat) (f : Nat → Ca) (l1 l2 : Nat) : Prop := n + tlCa f n + l1 + l2 ≤ 1048600

theorem tlCa_eq (f : Nat → Ca) : ∀ n, tlCa f n = tl f n
  | 0 => rfl
  | n + 1 => by simp [tlCa, tl, tlCa_eq f n]

theorem SmL.ca {n l1 l2 : Nat} {f : Nat → Ca} (h : SmL n f l1 l2) : SmCa n f := by unfold SmL at h; unfold SmCa; omega

theorem SmL.ms {n l1 l2 : Nat} {f : Nat → Ca} (h : SmL n f l1 l2) : l1 ≤ 1048600 ∧ l2 ≤ 1048600 ∧ ∀ s, s ≤ 100 → msCa s f n + l1 ≤ 9000000 := by
  unfold SmL at h
  refine ⟨by omega, by omega, fun s hs => ?_⟩
  rw [msCa_eq]
  omega

/-- Blocks that are not v's and not of P are as they were. -/
def OutV (w w' : World) (n : Nat) (v : Value) (P : Nat → Prop) : Prop := w.heap.size ≤ w'.heap.size ∧ ∀ k, k < w.heap.size → ¬ (0 < n ∧ v.ownBlock = some k) → ¬ P k → w'.heap[k]? = w.heap[k]?

/-- Blocks from hi on are as they were. -/
def Keep (hi : Nat) (w w' : World) : Prop := w.heap.size ≤ w'.heap.size ∧ ∀ k, hi ≤ k → k < w.heap.size → w'.heap[k]? = w.heap[k]?

theorem Keep.blk {hi g : Nat} {w w' : World} {t : TypeId} {cs : Array Value} (h : Keep hi w w') (hb : Blk w g t cs) (hg : hi ≤ g) : Blk w' g t cs := by
  unfold Blk; rw [h.2 g hg hb.lt]; exact hb

theorem Keep.row {hi base s n : Nat} {w w' : World} {e : TypeId} {v : Value} {xs : List Value} (h : Keep hi w w') (hr : w.ownsRow base e s v n xs) (hb : hi ≤ base) : w'.ownsRow base e s v n xs :=
  row_same hr (fun g hg => h.2 g (Nat.le_trans hb (World.ownsRow.lt hr g hg).1) (World.ownsRow.lt hr g hg).2)

theorem Keep.below {hi : Nat} {w w' : World} (hb : Below w.heap.size w w') : Keep hi w w' := ⟨hb.size, fun k _ hk => hb.block k hk⟩

theorem Keep.trans {hi : Nat} {w w' w'' : World} (h : Keep hi w w') (h' : Keep hi w' w'') : Keep hi w w'' := ⟨Nat.le_trans h.1 h'.1, fun k hk hl => by rw [h'.2 k hk (Nat.lt_of_lt_of_le hl h.1), h.2 k hk hl]⟩

theorem Keep.mono {hi hi' : Nat} {w w' : World} (h : Keep hi w w') (hh : hi ≤ hi') : Keep hi' w w' := ⟨h.1, fun k hk hl => h.2 k (Nat.le_trans hh hk) hl⟩

theorem LnP.keep {w w' : World} {hi base n cp l1 l2 c1 c2 : Nat} {f : Nat → Ca} {L : La} {a a1 a2 : Option Addr} (h : LnP w base n f L a cp a1 a2 l1 l2 c1 c2) (hk : Keep hi w w') (hb : hi ≤ base) : LnP w' base n f L a cp a1 a2 l1 l2 c1 c2 := by
  obtain ⟨h1, h2, F, β, h3, h4, h5, h6, h7⟩ := h
  refine ⟨h1, h2, F, β, ?_, ?_, hk.row h5 hb, hk.row h6 hb, h7⟩
  · rcases h3 with q | ⟨g, o, c', hv, hbg, cs, r1, r2⟩
    · exact .inl q
    · exact .inr ⟨g, o, c', hv, hbg, cs, by rw [hk.2 g (by omega) (Array.getElem?_eq_some_iff.1 r1).1]; exact r1, r2⟩
  · obtain ⟨i0, i1, i2⟩ := h4
    refine ⟨i0, i1, fun k hk' => ?_⟩
    obtain ⟨b1, b2, k1, k2, e, o1, o2, t1, t2⟩ := i2 k hk'
    have hlo := bt_mono i1 (Nat.zero_le k)
    exact ⟨b1, b2, k1, k2, e, hk.row o1 (by omega), hk.row o2 (by omega), t1, t2⟩

theorem Blk.noEx {w : World} {g : Nat} {t t' : TypeId} {cs : Array Value} (h : Blk w g t cs) (ht : t ≠ t') : ¬ ExB w g t' := by
  rintro ⟨cs', h'⟩
  unfold Blk at h h'
  rw [h] at h'
  simp at h'
  exact ht h'.2

theorem row_noEx {w : World} {base s n g : Nat} {e t : TypeId} {v : Value} {xs : List Value} (h : w.ownsRow base e s v n xs) (hv : v.ownBlock = some g) (ht : e ≠ t) : ¬ ExB w g t := by
  obtain ⟨cs, hb⟩ := row_ex h hv
  exact Blk.noEx hb ht

theorem markCallS_L (a : Option Addr) (n c base s : Nat) (f : Nat → Ca) (F0 : Nat → List Value) (β : Nat → Nat) (w : World) (hO : OwnO w base 30 9 (.slice a n c) n F0) (hI : InE w base β F0 (fun k => caE (f k)) n) (hs : s ≤ 100) (hG : SmCa n f) :
    Calls Try.prog 50 #[.slice a n c, .int .i64 (s : Int)] w fun e w' => e = .returned (.int .i64 (msCa s f n : Int)) ∧ (∃ F', OwnO w' base 30 9 (.slice a n c) n F' ∧ InE w' base β F' (fun k => caE (mkCa (msCa s f k) (f k))) n ∧ ∀ j, j < n → ∀ k, Ob (F' j) k ↔ Ob (F0 j) k) ∧ Below base w w' ∧ OutV w w' n (.slice a n c) (fun k => ∃ j, j < n ∧ Ob (F0 j) k) := by
  by_cases h0 : n = 0
  · subst h0
    refine (markCa_nil a c s w).mono ?_
    rintro e w' ⟨rfl, rfl⟩
    exact ⟨rfl, ⟨F0, hO, hI.congr (fun _ _ => rfl) (fun k hk => by omega), fun _ _ _ => Iff.rfl⟩, Below.refl _ _, Nat.le_refl _, fun _ _ _ _ => rfl⟩
  · rcases hO with ⟨h9, _⟩ | ⟨g, o, c', hv, hbg, hR⟩
    · exact absurd h9 h0
    · simp only [Value.slice.injEq, true_and] at hv
      obtain ⟨rfl, rfl⟩ := hv
      refine (markCa_ne g o n c base s f F0 β w hR hbg hI hs hG).mono ?_
      rintro e w' ⟨rfl, ⟨F', q1, q2, q5⟩, q3, q4⟩
      exact ⟨rfl, ⟨F', .inr ⟨g, o, c, rfl, hbg, q1⟩, q2, q5⟩, q3, q4.1, fun k hk hne ho => q4.2 k hk (fun e => hne ⟨by omega, by rw [e]; rfl⟩) ho⟩

/-- A line of the call's own whose rows all lie below the block hi. -/
def LnPB (w : World) (base hi n : Nat) (f : Nat → Ca) (L : La) (a : Option Addr) (cp : Nat) (a1 a2 : Option Addr) (l1 l2 c1 c2 : Nat) : Prop :=
  l1 = L.c.ws.length ∧ l2 = L.c.bs.length ∧ ∃ (F : Nat → List Value) (β : Nat → Nat), OwnO w base 30 9 (.slice a n cp) n F ∧ InE w base β F (fun k => caE (f k)) n ∧ OwnI w base (.slice a1 l1 c1) L.c.ws ∧ OwnB w base (.slice a2 l2 c2) L.c.bs ∧
    (∀ k, (Value.slice a1 l1 c1).ownBlock = some k → ∀ j, j < n → ¬ Ob (F j) k) ∧ (∀ k, (Value.slice a2 l2 c2).ownBlock = some k → ∀ j, j < n → ¬ Ob (F j) k) ∧
    (∀ k, 0 < n → (Value.slice a n cp).ownBlock = some k → k < hi) ∧ (∀ k j, j < n → Ob (F j) k → k < hi) ∧ (∀ k, (Value.slice a1 l1 c1).ownBlock = some k → k < hi) ∧ (∀ k, (Value.slice a2 l2 c2).ownBlock = some k → k < hi)

theorem OwnO.blk {w : World} {base : Nat} {t : TypeId} {s : Nat} {v : Value} {n k : Nat} {F : Nat → List Value} (h : OwnO w base t s v n F) (h0 : 0 < n) (hk : v.ownBlock = some k) : ExB w k t ∧ k < w.heap.size ∧ base ≤ k := by
  rcases h with ⟨h9, _⟩ | ⟨g, o, c, rfl, hb, hR⟩
  · omega
  · simp [Value.ownBlock] at hk
    subst hk
    exact ⟨hR.exB, hR.lt, hb⟩

theorem LnP.pb {w : World} {base n cp l1 l2 c1 c2 : Nat} {f : Nat → Ca} {L : La} {a a1 a2 : Option Addr} (h : LnP w base n f L a cp a1 a2 l1 l2 c1 c2) : LnPB w base w.heap.size n f L a cp a1 a2 l1 l2 c1 c2 := by
  obtain ⟨h1, h2, F, β, h3, h4, h5, h6, h7, h8⟩ := h
  exact ⟨h1, h2, F, β, h3, h4, h5, h6, h7, h8, fun k h0 hk => (h3.blk h0 hk).2.1, fun k j hj ho => (h4.ob hj ho).2.2, fun k hk => (World.ownsRow.lt h5 k hk).2, fun k hk => (World.ownsRow.lt h6 k hk).2⟩

theorem LnPB.p {w : World} {base hi n cp l1 l2 c1 c2 : Nat} {f : Nat → Ca} {L : La} {a a1 a2 : Option Addr} (h : LnPB w base hi n f L a cp a1 a2 l1 l2 c1 c2) : LnP w base n f L a cp a1 a2 l1 l2 c1 c2 := by
  obtain ⟨h1, h2, F, β, h3, h4, h5, h6, h7, h8, _⟩ := h
  exact ⟨h1, h2, F, β, h3, h4, h5, h6, h7, h8⟩

theorem LnPB.below {w w' : World} {base hi n cp l1 l2 c1 c2 : Nat} {f : Nat → Ca} {L : La} {a a1 a2 : Option Addr} (h : LnPB w base hi n f L a cp a1 a2 l1 l2 c1 c2) (hb : Below w.heap.size w w') : LnPB w' base hi n f L a cp a1 a2 l1 l2 c1 c2 := by
  obtain ⟨h1, h2, F, β, h3, h4, h5, h6, h7⟩ := h
  exact ⟨h1, h2, F, β, h3.below hb, h4.below hb, h5.below hb, h6.below hb, h7⟩

theorem LnPB.keep {w w' : World} {hx base hi n cp l1 l2 c1 c2 : Nat} {f : Nat → Ca} {L : La} {a a1 a2 : Option Addr} (h : LnPB w base hi n f L a cp a1 a2 l1 l2 c1 c2) (hk : Keep hx w w') (hb : hx ≤ base) : LnPB w' base hi n f L a cp a1 a2 l1 l2 c1 c2 := by
  obtain ⟨h1, h2, F, β, h3, h4, h5, h6, h7⟩ := h
  refine ⟨h1, h2, F, β, ?_, ?_, hk.row h5 hb, hk.row h6 hb, h7⟩
  · rcases h3 with q | ⟨g, o, c', hv, hbg, cs, r1, r2⟩
    · exact .inl q
    · exact .inr ⟨g, o, c', hv, hbg, cs, by rw [hk.2 g (by omega) (Array.getElem?_eq_some_iff.1 r1).1]; exact r1, r2⟩
  · obtain ⟨i0, i1, i2⟩ := h4
    refine ⟨i0, i1, fun k hk' => ?_⟩
    obtain ⟨b1, b2, k1, k2, e, o1, o2, t1, t2⟩ := i2 k hk'
    have hlo := bt_mono i1 (Nat.zero_le k)
    exact ⟨b1, b2, k1, k2, e, hk.row o1 (by omega), hk.row o2 (by omega), t1, t2⟩

set_option maxRecDepth 20000 in
set_option maxHeartbeats 4000000 in
theorem markLine_any (L : La) (a a1 a2 : Option Addr) (n cp l1 l2 c1 c2 base s : Nat) (f : Nat → Ca) (hi : Nat) (w : World) (h : LnPB w base hi n f L a cp a1 a2 l1 l2 c1 c2) (hb : base ≤ w.heap.size) (hs : s ≤ 100) (hG : SmL n f l1 l2) :
    Calls Try.prog 18 #[.agg (lac L a n cp a1 a2 l1 l2 c1 c2), .int .i64 (s : Int)] w fun e w' => e = .returned (.int .i64 ((msCa s f n + l1 + l2 : Nat) : Int)) ∧ LnP w' base n (fun k => mkCa (msCa s f k) (f k)) (mkL (msCa s f n) L) a cp a1 a2 l1 l2 c1 c2 ∧ Below base w w' ∧ Keep hi w w' := by
  obtain ⟨hl1, hl2, F, β, h3, h4, h5, h6, h7, h8, z1, z2, z3, z4⟩ := h
  have HZ : Hid ((∀ k, 0 < n → (Value.slice a n cp).ownBlock = some k → k < hi) ∧ (∀ k j, j < n → Ob (F j) k → k < hi) ∧ (∀ k, (Value.slice a1 l1 c1).ownBlock = some k → k < hi) ∧ (∀ k, (Value.slice a2 l2 c2).ownBlock = some k → k < hi)) := ⟨z1, z2, z3, z4⟩
  clear z1 z2 z3 z4
  obtain ⟨B, hB⟩ : ∃ B, B = w.heap.size := ⟨_, rfl⟩
  obtain ⟨W, hW⟩ : ∃ W, W = w.alloc (.cells (lac L a n cp a1 a2 l1 l2 c1 c2) 32) := ⟨_, rfl⟩
  have bW : Below w.heap.size w W := by rw [hW]; exact bel_alloc _ _
  have A0 : Blk W B 32 (lac L a n cp a1 a2 l1 l2 c1 c2) := by rw [hW, hB]; exact Blk.new _ _ _
  have H0 : Hid (OwnO W base 30 9 (.slice a n cp) n F ∧ InE W base β F (fun k => caE (f k)) n ∧ OwnI W base (.slice a1 l1 c1) L.c.ws ∧ OwnB W base (.slice a2 l2 c2) L.c.bs ∧ Blk W B 32 (lac L a n cp a1 a2 l1 l2 c1 c2) ∧ Below w.heap.size w W ∧ (∀ j, j < n → ¬ Ob (F j) B) ∧ base ≤ w.heap.size ∧ SmL n f l1 l2) := ⟨h3.below bW, h4.below bW, h5.below bW, h6.below bW, A0, bW, fun j hj ho => by have := (h4.ob hj ho).2.2; omega, hb, hG⟩
  have HD : Hid (l1 = L.c.ws.length ∧ l2 = L.c.bs.length ∧ (∀ k, (Value.slice a1 l1 c1).ownBlock = some k → ∀ j, j < n → ¬ Ob (F j) k) ∧ (∀ k, (Value.slice a2 l2 c2).ownBlock = some k → ∀ j, j < n → ¬ Ob (F j) k)) := ⟨hl1, hl2, h7, h8⟩
  clear hl1 hl2 h3 h4 h5 h6 h7 h8 bW hG hb
  obtain ⟨⟨x0, x1, x2, x3, x4, x5, x6, x7, x8, x9, x10, x11, x12, x13, x14, x15, x16⟩, xf⟩ := A0.svn
  clear A0 xf
  go_enter Try.func18, Try.ntmps18
  go_upto_region 1 with fail
  rw [← hW, ← hB]
  clear hW hB
  go_wp2_with fail
  refine (markCallS_L a n cp base s f F β _ H0.out.1 H0.out.2.1 hs H0.out.2.2.2.2.2.2.2.2.ca).mono ?_
  rintro e w1 ⟨rfl, ⟨F', q1, q2, q5⟩, q3, q4⟩
  obtain ⟨x, hx⟩ : ∃ x : Nat, x = msCa s f n := ⟨_, rfl⟩
  rw [← hx]
  have H1 : Hid (OwnO w1 base 30 9 (.slice a n cp) n F' ∧ InE w1 base β F' (fun k => caE (mkCa (msCa s f k) (f k))) n ∧ OwnI w1 base (.slice a1 l1 c1) L.c.ws ∧ OwnB w1 base (.slice a2 l2 c2) L.c.bs ∧ Blk w1 B 32 (lac L a n cp a1 a2 l1 l2 c1 c2) ∧ Below base w w1 ∧ x = msCa s f n ∧ base ≤ w1.heap.size ∧ (∀ j, j < n → ∀ k, Ob (F' j) k ↔ Ob (F j) k) ∧ Keep hi w w1) := by
    have f0 := H0.out
    have hBl := f0.2.2.2.2.1.lt
    refine ⟨q1, q2, row_same f0.2.2.1 (fun g hg => ?_), row_same f0.2.2.2.1 (fun g hg => ?_), ?_, (f0.2.2.2.2.2.1.mono f0.2.2.2.2.2.2.2.1).trans q3, hx, Nat.le_trans f0.2.2.2.2.2.2.2.1 (Nat.le_trans f0.2.2.2.2.2.1.size q4.1), q5, Nat.le_trans f0.2.2.2.2.2.1.size q4.1, fun k hk hl => ?_⟩
    · exact q4.2 g (World.ownsRow.lt f0.2.2.1 g hg).2 (fun hq => row_noEx f0.2.2.1 hg (by decide) (f0.1.blk hq.1 hq.2).1) (by rintro ⟨j, hj, ho⟩; exact HD.out.2.2.1 g hg j hj ho)
    · exact q4.2 g (World.ownsRow.lt f0.2.2.2.1 g hg).2 (fun hq => row_noEx f0.2.2.2.1 hg (by decide) (f0.1.blk hq.1 hq.2).1) (by rintro ⟨j, hj, ho⟩; exact HD.out.2.2.2 g hg j hj ho)
    · unfold Blk
      rw [q4.2 B hBl (fun hq => Blk.noEx f0.2.2.2.2.1 (by decide) (f0.1.blk hq.1 hq.2).1) (by rintro ⟨j, hj, ho⟩; exact f0.2.2.2.2.2.2.1 j hj ho)]
      exact f0.2.2.2.2.1
    · rw [q4.2 k (Nat.lt_of_lt_of_le hl f0.2.2.2.2.2.1.size) (fun hq => by have := HZ.out.1 k hq.1 hq.2; omega) (by rintro ⟨j, hj, ho⟩; have := HZ.out.2.1 k j hj ho; omega)]
      exact f0.2.2.2.2.2.1.block k hl
  clear q1 q2 q3 q4 q5 hx x0 x1 x2 x3 x4 x5 x6 x7 x8 x9 x10 x11 x12 x13 x14 x15 x16
  obtain ⟨⟨x0, x1, x2, x3, x4, x5, x6, x7, x8, x9, x10, x11, x12, x13, x14, x15, x16⟩, xf⟩ := H1.out.2.2.2.2.1.svn
  clear xf
  go_wp2_with fail
  refine (markCallL L.c a1 a2 l1 l2 c1 c2 base x L.c.ws L.c.bs _ H1.out.2.2.1 H1.out.2.2.2.1 H1.out.2.2.2.2.2.2.2.1 (H0.out.2.2.2.2.2.2.2.2.ms).1 (H0.out.2.2.2.2.2.2.2.2.ms).2.1 (by have := H1.out.2.2.2.2.2.2.1; rw [this]; exact (H0.out.2.2.2.2.2.2.2.2.ms).2.2 s hs)).mono ?_
  rintro e w2 ⟨rfl, m⟩
  obtain ⟨y, hy⟩ : ∃ y : Nat, y = x + l1 + l2 := ⟨_, rfl⟩
  rw [← hy]
  have H2 : Hid (y = msCa s f n + l1 + l2 ∧ LnP w2 base n (fun k => mkCa (msCa s f k) (f k)) (mkL (msCa s f n) L) a cp a1 a2 l1 l2 c1 c2 ∧ Below base w w2 ∧ Keep hi w w2) := by
    have f1 := H1.out
    have d := HD.out
    obtain ⟨m1, m2, m3, m4⟩ := m
    have hxx := f1.2.2.2.2.2.2.1
    refine ⟨by omega, ⟨by simp [mkL, marksI_length]; exact d.1, by simp [mkL, marksB_length]; exact d.2.1, F', β, ?_, ?_, ?_, ?_, fun k hk j hj ho => d.2.2.1 k hk j hj ((f1.2.2.2.2.2.2.2.2.1 j hj k).1 ho), fun k hk j hj ho => d.2.2.2 k hk j hj ((f1.2.2.2.2.2.2.2.2.1 j hj k).1 ho)⟩, f1.2.2.2.2.2.1.trans m4, f1.2.2.2.2.2.2.2.2.2.trans ⟨m3.1, fun k hk hl => m3.2 k hl (fun e9 => by have := HZ.out.2.2.1 k e9; omega) (fun e9 => by have := HZ.out.2.2.2 k e9; omega)⟩⟩
    · rcases f1.1 with q | ⟨g, o, c', hv, hbg, hR⟩
      · exact .inl q
      · refine .inr ⟨g, o, c', hv, hbg, ?_⟩
        obtain ⟨cs, r1, r2⟩ := hR
        refine ⟨cs, ?_, r2⟩
        rw [m3.2 g (Array.getElem?_eq_some_iff.1 r1).1 (row_noBlk f1.2.2.1 (show Blk w1 g 30 cs from r1) (by decide)) (row_noBlk f1.2.2.2.1 (show Blk w1 g 30 cs from r1) (by decide))]
        exact r1
    · obtain ⟨i0, i1, i2⟩ := f1.2.1
      refine ⟨i0, i1, fun k hk => ?_⟩
      obtain ⟨b1, b2, k1, k2, e, o1, o2, t1, t2⟩ := i2 k hk
      have hob : ∀ g, (Value.slice b1 (caE (mkCa (msCa s f k) (f k))).ws.length k1).ownBlock = some g ∨ (Value.slice b2 (caE (mkCa (msCa s f k) (f k))).bs.length k2).ownBlock = some g → Ob (F k) g := fun g hg => (f1.2.2.2.2.2.2.2.2.1 k hk g).1 (by rw [e]; exact (Ob_els (by simp [caE, Value.ownBlock]) (by simp [caE, Value.ownBlock])).2 hg)
      refine ⟨b1, b2, k1, k2, e, row_same o1 (fun g hg => ?_), row_same o2 (fun g hg => ?_), t1, t2⟩
      · exact m3.2 g (World.ownsRow.lt o1 g hg).2 (fun e9 => d.2.2.1 g e9 k hk (hob g (.inl hg))) (fun e9 => d.2.2.2 g e9 k hk (hob g (.inl hg)))
      · exact m3.2 g (World.ownsRow.lt o2 g hg).2 (fun e9 => d.2.2.1 g e9 k hk (hob g (.inr hg))) (fun e9 => d.2.2.2 g e9 k hk (hob g (.inr hg)))
    · show OwnI w2 base (.slice a1 l1 c1) (marksI (msCa s f n) L.c.ws.length)
      rw [← hxx, ← d.1]; exact m1
    · show OwnB w2 base (.slice a2 l2 c2) (marksB (msCa s f n + L.c.ws.length) L.c.bs.length)
      rw [← hxx, ← d.1, ← d.2.1]; exact m2
  clear m hy x0 x1 x2 x3 x4 x5 x6 x7 x8 x9 x10 x11 x12 x13 x14 x15 x16 H0 H1
  go_wp2
  go_ret
  exact ⟨by rw [← H2.out.1]; rfl, H2.out.2.1, H2.out.2.2.1, H2.out.2.2.2⟩

set_option maxRecDepth 20000 in
set_option maxHeartbeats 4000000 in
theorem heldLine_any (L : La) (a a1 a2 : Option Addr) (n cp l1 l2 c1 c2 s : Nat) (f : Nat → Ca) (w : World) (h : LnR w n (fun k => mkCa (msCa s f k) (f k)) (mkL (msCa s f n) L) a a1 a2 l1 l2) (hs : s ≤ 100) (hG : SmL n f l1 l2) (L' : La) (hL' : L' = L) :
    Calls Try.prog 20 #[.agg (lac L' a n cp a1 a2 l1 l2 c1 c2), .int .i64 (s : Int)] w fun e w' => e = .returned (.int .i64 ((msCa s f n + l1 + l2 : Nat) : Int)) ∧ Below w.heap.size w w' := by
  subst hL'
  obtain ⟨B, hB⟩ : ∃ B, B = w.heap.size := ⟨_, rfl⟩
  obtain ⟨W, hW⟩ : ∃ W, W = w.alloc (.cells (lac L' a n cp a1 a2 l1 l2 c1 c2) 32) := ⟨_, rfl⟩
  have bW : Below w.heap.size w W := by rw [hW]; exact bel_alloc _ _
  have A0 : Blk W B 32 (lac L' a n cp a1 a2 l1 l2 c1 c2) := by rw [hW, hB]; exact Blk.new _ _ _
  obtain ⟨x, hx⟩ : ∃ x : Nat, x = msCa s f n := ⟨_, rfl⟩
  obtain ⟨y, hy⟩ : ∃ y : Nat, y = msCa s f n + l1 + l2 := ⟨_, rfl⟩
  have h1 : l1 = L'.c.ws.length := by have := h.1; simpa [mkL, marksI_length] using this
  have h2 : l2 = L'.c.bs.length := by have := h.2.1; simpa [mkL, marksB_length] using this
  have H0 : Hid (SlC W a n (fun k => mkCa (msCa s f k) (f k)) ∧ SlI W a1 (marksI x l1) ∧ SlB W a2 (marksB (x + l1) l2) ∧ Below w.heap.size w W ∧ SmL n f l1 l2 ∧ x = msCa s f n ∧ y = msCa s f n + l1 + l2) := by
    have h9 := h.below bW
    refine ⟨h9.2.2.1, ?_, ?_, bW, hG, hx, hy⟩
    · have := h9.2.2.2.1; rw [hx, h1]; exact this
    · have := h9.2.2.2.2; rw [hx, h1, h2]; exact this
  have y1 : ¬ (x : Int) < 0 := by omega
  have y2 : ¬ (y : Int) < 0 := by omega
  rw [← hy]
  obtain ⟨⟨x0, x1, x2, x3, x4, x5, x6, x7, x8, x9, x10, x11, x12, x13, x14, x15, x16⟩, xf⟩ := A0.svn
  clear h A0 bW hG hx hy h1 h2 xf
  go_enter Try.func20, Try.ntmps20
  go_upto_region 1 with fail
  rw [← hW, ← hB]
  clear hW hB
  go_wp2_with fail
  refine (heldCa_any a n cp s f _ H0.out.1 hs H0.out.2.2.2.2.1.ca).mono ?_
  rintro e w1 ⟨rfl, hw⟩
  have hw := hw.symm
  subst hw
  rw [← H0.out.2.2.2.2.2.1]
  go_wp2_with fail
  refine (heldCallL L'.c a1 a2 l1 l2 c1 c2 x _ H0.out.2.1 H0.out.2.2.1 (H0.out.2.2.2.2.1.ms).1 (H0.out.2.2.2.2.1.ms).2.1 (by have := H0.out.2.2.2.2.2.1; rw [this]; exact (H0.out.2.2.2.2.1.ms).2.2 s hs)).mono ?_
  rintro e w2 ⟨rfl, b2⟩
  rw [show ((x + l1 + l2 : Nat) : Int) = (y : Int) by have := H0.out; omega]
  have B2 : Hid (Below w.heap.size w w2) := bel_nx H0.out.2.2.2.1 b2
  clear b2 x0 x1 x2 x3 x4 x5 x6 x7 x8 x9 x10 x11 x12 x13 x14 x15 x16
  go_wp2
  go_ret
  exact ⟨rfl, B2.out⟩

end Go.Proofs.Ytmhdneenjoelfaa
