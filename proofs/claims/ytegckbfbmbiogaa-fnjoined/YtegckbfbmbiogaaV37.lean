/- Texts that the proof needs, joined: JnF. -/
import Derived.Test.YtegckbfbmbiogaaV25
import Derived.Test.YtegckbfbmbiogaaV28
import Derived.Test.YtegckbfbmbiogaaV33
import Derived.Test.YtegckbfbmbiogaaV34
import Derived.Test.YtegckbfbmbiogaaV36
import Derived.Deep.RegionWith
namespace Go.Proofs.Ytegckbfbmbiogaa
open Go.RowKit Go.Joins
set_option linter.unusedVariables false
set_option linter.unusedSimpArgs false
theorem OwnPs.keptRow {w w' : World} {base s n : Nat} {v v' : Value} {xs : List Value} {Ps : List Pa} (h : OwnPs w base v Ps) (ho : w.ownsRow base 49 s v' n xs) (hg : w.grownBy w' v'.ownBlock) : OwnPs w' base v Ps := by
  obtain ⟨F, β, h1, h2⟩ := h
  refine ⟨F, β, ?_, h2.keptR ho hg (by decide) (by decide)⟩
  rcases h1 with h9 | ⟨g, c, e, hb, hr⟩
  · exact .inl h9
  · obtain ⟨cs, hx⟩ := hr.exB
    exact .inr ⟨g, c, e, hb, hr.kept hg (row_noBlk ho hx (by decide))⟩
theorem OwnPs.keptX {w w' : World} {base gx : Nat} {v : Value} {Ps : List Pa} (h : OwnPs w base v Ps) (hg : w.grownBy w' (some gx)) (hx : ExB w gx 28) : OwnPs w' base v Ps := by
  obtain ⟨F, β, h1, h2⟩ := h
  refine ⟨F, β, ?_, h2.keptT hg hx (by decide) (by decide)⟩
  rcases h1 with h9 | ⟨g, c, e, hb, hr⟩
  · exact .inl h9
  · refine .inr ⟨g, c, e, hb, hr.kept hg (fun e9 => ?_)⟩
    obtain ⟨cs, hc⟩ := hr.exB
    obtain ⟨cs', hc'⟩ := hx
    have := Option.some.inj e9
    subst this
    have h9 := hc.symm.trans hc'
    simp at h9
def FA (u : World) (base : Nat) (a : Option Addr) (n : Nat) (A : Nat → An) : Prop :=
  n = 0 ∨ ∃ g F, a = some ⟨g, 0, none⟩ ∧ base ≤ g ∧ RowC u g 49 6 n F ∧ ∀ k, k < n → AnAt u base (F k) (A k)
theorem FA.sl {u : World} {base : Nat} {a : Option Addr} {n : Nat} {A : Nat → An} (h : FA u base a n A) : SlA u a n A := by
  rcases h with h | ⟨g, F, ha, hb, hr, h2⟩
  · exact .inl h
  · rw [ha]; exact slA_of hr h2
theorem FA.keptLt {u u' : World} {base gx : Nat} {a : Option Addr} {n : Nat} {A : Nat → An} (h : FA u base a n A) (hg : u.grownBy u' (some gx)) (hx : gx < base) : FA u' base a n A := by
  rcases h with h | ⟨g, F, ha, hb, hr, h2⟩
  · exact .inl h
  · exact .inr ⟨g, F, ha, hb, hr.kept hg (fun e => by have := Option.some.inj e; omega), fun k hk => (h2 k hk).keptLt hg hx⟩
theorem exB_other {w : World} {g : Nat} {base s n : Nat} {e t : TypeId} {v : Value} {xs : List Value} (h : w.ownsRow base e s v n xs) (hx : ExB w g t) (ht : t ≠ e) : v.ownBlock = none ∨ v.ownBlock ≠ some g := by
  obtain ⟨cs, hx⟩ := hx
  exact .inr (row_noBlk h hx ht)
theorem FA.keptX {u u' : World} {base gx : Nat} {a : Option Addr} {n : Nat} {A : Nat → An} (h : FA u base a n A) (hg : u.grownBy u' (some gx)) (hx : ExB u gx 28) : FA u' base a n A := by
  rcases h with h | ⟨g, F, ha, hb, hr, h2⟩
  · exact .inl h
  · refine .inr ⟨g, F, ha, hb, hr.kept hg (fun e9 => ?_), fun k hk => ?_⟩
    · obtain ⟨cs, hc⟩ := hr.exB
      obtain ⟨cs', hc'⟩ := hx
      have := Option.some.inj e9
      subst this
      have h9 := hc.symm.trans hc'
      simp at h9
    · obtain ⟨a1, a2, c1, c2, e, o1, o2⟩ := h2 k hk
      exact ⟨a1, a2, c1, c2, e, World.ownsRow.kept o1 hg (exB_other o1 hx (by decide)), World.ownsRow.kept o2 hg (exB_other o2 hx (by decide))⟩
theorem LsA.fa {w : World} {base : Nat} {a : Option Addr} {n c : Nat} {As : List An} (h : LsA w base (.slice a n c) As) : n = As.length ∧ FA w base a n (fun k => As.getD k default) := by
  rcases h.row with ⟨rfl, hv⟩ | ⟨g, c', F, hv, hb, hr, h2⟩
  · simp only [Value.slice.injEq] at hv
    exact ⟨hv.2.1, .inl hv.2.1⟩
  · simp only [Value.slice.injEq] at hv
    obtain ⟨rfl, rfl, _⟩ := hv
    exact ⟨rfl, .inr ⟨g, F, rfl, hb, hr, h2⟩⟩
theorem LsA.first6 {w : World} {base : Nat} {a : Option Addr} {n c : Nat} {As : List An} (h : LsA w base (.slice a n c) As) (h0 : 0 < n) : ∃ g F, a = some ⟨g, 0, none⟩ ∧ base ≤ g ∧ RowC w g 49 6 n F ∧ ∀ k, k < n → AnAt w base (F k) (As.getD k default) := by
  rcases h.row with ⟨rfl, hv⟩ | ⟨g, c', F, hv, hb, hr, h2⟩
  · simp only [Value.slice.injEq] at hv; omega
  · simp only [Value.slice.injEq] at hv
    obtain ⟨rfl, rfl, _⟩ := hv
    exact ⟨g, F, rfl, hb, hr, h2⟩
theorem fa_first {w : World} {base g n : Nat} {F : Nat → List Value} {A : Nat → An} {y : An} {a1 a2 : Option Addr} {c1 c2 : Nat} (hb : base ≤ g) (hr : RowC w g 49 6 n F) (h2 : ∀ k, k < n → AnAt w base (F k) (A k)) (h0 : 0 < n) (o1 : OwnI w base (.slice a1 y.ws.length c1) y.ws) (o2 : OwnB w base (.slice a2 y.bs.length c2) y.bs) : FA (setL w g 0 (anl y a1 a2 c1 c2)) base (some ⟨g, 0, none⟩) n (fun k => if k = 0 then y else A k) := by
  have hr2 := hr.set (k := 0) h0 (anl y a1 a2 c1 c2) rfl
  rw [Nat.zero_mul] at hr2
  refine .inr ⟨g, _, rfl, hb, hr2, fun k hk => ?_⟩
  by_cases e : k = 0
  · subst e
    simp only [if_true]
    exact ⟨a1, a2, c1, c2, rfl, row_setL o1 hr.exB (by decide), row_setL o2 hr.exB (by decide)⟩
  · simp only [if_neg e]
    obtain ⟨b1, b2, d1, d2, e9, p1, p2⟩ := h2 k hk
    exact ⟨b1, b2, d1, d2, e9, row_setL p1 hr.exB (by decide), row_setL p2 hr.exB (by decide)⟩
structure DJ (W : World) (ca : Option Addr) (cc : Nat) (zs : List Int) (gC B0 Bq bs1 : Nat) (kd pl nn wa : Int) (q1 q2 : Option Addr) (m1 m2 k1 k2 : Nat) (ws : List Int) (bs : List Bool) (la : Option Addr) (ln lc : Nat) (Ps : List Pa) (u : World) : Prop where
  cur : Cur W ca cc zs u gC
  r0 : Blk u B0 28 #[.int .i64 0, .int .i64 0, .int .i64 0, .slice none 0 0, .slice none 0 0, .int .i64 0]
  qb : Blk u Bq 28 (rqc kd pl nn wa q1 q2 m1 m2 k1 k2)
  o1 : OwnI u bs1 (.slice q1 m1 k1) ws
  o2 : OwnB u bs1 (.slice q2 m2 k2) bs
  ps : OwnPs u bs1 (.slice la ln lc) Ps
  sz : bs1 ≤ u.heap.size
  nm : gC < bs1 ∧ B0 < gC ∧ gC < Bq ∧ W.heap.size ≤ gC
section
variable {W : World} {ca : Option Addr} {cc : Nat} {zs : List Int} {gC B0 Bq bs1 : Nat} {kd pl nn wa : Int} {q1 q2 : Option Addr} {m1 m2 k1 k2 : Nat} {ws : List Int} {bs : List Bool} {la : Option Addr} {ln lc : Nat} {Ps : List Pa} {u u' : World}
theorem DJ.call (h : DJ W ca cc zs gC B0 Bq bs1 kd pl nn wa q1 q2 m1 m2 k1 k2 ws bs la ln lc Ps u) (c : Cur W ca cc zs u' gC) (hg : u.grownBy u' (some gC)) : DJ W ca cc zs gC B0 Bq bs1 kd pl nn wa q1 q2 m1 m2 k1 k2 ws bs la ln lc Ps u' :=
  ⟨c, h.r0.grown hg (fun e => by have := Option.some.inj e; have := h.nm; omega), h.qb.grown hg (fun e => by have := Option.some.inj e; have := h.nm; omega), World.ownsRow.kept h.o1 hg (lt_ne h.o1 h.nm.1), World.ownsRow.kept h.o2 hg (lt_ne h.o2 h.nm.1), h.ps.keptLt hg h.nm.1, Nat.le_trans h.sz hg.size, h.nm⟩
theorem DJ.below (h : DJ W ca cc zs gC B0 Bq bs1 kd pl nn wa q1 q2 m1 m2 k1 k2 ws bs la ln lc Ps u) (b : Below u.heap.size u u') : DJ W ca cc zs gC B0 Bq bs1 kd pl nn wa q1 q2 m1 m2 k1 k2 ws bs la ln lc Ps u' :=
  ⟨h.cur.belowU b, h.r0.below b, h.qb.below b, h.o1.below b, h.o2.below b, h.ps.below b, Nat.le_trans h.sz b.size, h.nm⟩
theorem DJ.app (h : DJ W ca cc zs gC B0 Bq bs1 kd pl nn wa q1 q2 m1 m2 k1 k2 ws bs la ln lc Ps u) {v : Value} {n : Nat} {xs : List Value} (ho : u.ownsRow bs1 49 6 v n xs) (hg : u.grownBy u' v.ownBlock) : DJ W ca cc zs gC B0 Bq bs1 kd pl nn wa q1 q2 m1 m2 k1 k2 ws bs la ln lc Ps u' :=
  ⟨h.cur.rowG ho hg h.nm.1, h.r0.grown hg (row_noBlk ho h.r0 (by decide)), h.qb.grown hg (row_noBlk ho h.qb (by decide)), World.ownsRow.kept h.o1 hg (ne_typesJ h.o1 ho (by decide)), World.ownsRow.kept h.o2 hg (ne_typesJ h.o2 ho (by decide)), h.ps.keptRow ho hg, Nat.le_trans h.sz hg.size, h.nm⟩
end
def SmA (x : An) : Prop := x.ws.length ≤ 900 ∧ x.bs.length ≤ 1900 ∧ (0 ≤ x.pl ∧ x.pl ≤ 65535) ∧ (0 ≤ x.nn ∧ x.nn ≤ 1900)
def JdPost (w w' : World) (e : Ending) : Prop :=
  ∃ (kd pl nn wa : Int) (q1 q2 : Option Addr) (m1 m2 k1 k2 : Nat) (ws : List Int) (bs : List Bool) (la : Option Addr) (ln lc : Nat) (Ps : List Pa) (ta : Option Addr) (tm tc : Nat) (A : Nat → An) (kq : Int) (base : Nat),
    e = .returned (.tuple #[.agg (rqc kd pl nn wa q1 q2 m1 m2 k1 k2), .slice la ln lc, .slice ta tm tc]) ∧ m1 = ws.length ∧ m2 = bs.length ∧ SlI w' q1 ws ∧ SlB w' q2 bs ∧ ws.length ≤ 1000 ∧ bs.length ≤ 1000 ∧ ln = Ps.length ∧ OwnPs w' base (.slice la ln lc) Ps ∧ SlA w' ta tm A ∧ ln ≤ 8 ∧ tm ≤ 9 ∧ (∀ k, k < ln → SmP kq (Ps.getD k default)) ∧ (∀ k, k < tm → (A k).ws.length ≤ 2000 ∧ (A k).bs.length ≤ 2000) ∧ Below w.heap.size w w'
theorem setG6J {u : World} {B : Nat} {t : TypeId} {x0 x1 x2 x3 x4 x5 v0 v1 v2 v3 v4 v5 : Value} (h : Blk u B t #[x0, x1, x2, x3, x4, x5]) : Blk ((((((u.setCell ⟨B, 0, none⟩ v0).setCell ⟨B, 1, none⟩ v1).setCell ⟨B, 2, none⟩ v2).setCell ⟨B, 3, none⟩ v3).setCell ⟨B, 4, none⟩ v4).setCell ⟨B, 5, none⟩ v5) B t #[v0, v1, v2, v3, v4, v5] := by
  have h9 := (((((h.set 0 v0).set 1 v1).set 2 v2).set 3 v3).set 4 v4).set 5 v5
  simpa using h9
set_option maxRecDepth 20000 in
set_option maxHeartbeats 4000000 in
theorem drawJoined_any (w : World) (ca : Option Addr) (cn cc : Nat) (zs : List Int) (hn : cn = zs.length) (hs : Sl w ca zs) (hr : ∀ z ∈ zs, 0 ≤ z ∧ z ≤ 255) (hl : zs.length ≤ 1048576) :
    Calls Try.prog 16 #[.slice ca cn cc] w fun e w' => JdPost w w' e := by
  obtain ⟨B0, hB0⟩ : ∃ B0, B0 = w.heap.size := ⟨_, rfl⟩
  obtain ⟨W, hW⟩ : ∃ W, W = w.alloc (.cells #[.int .i64 0, .int .i64 0, .int .i64 0, .slice none 0 0, .slice none 0 0, .int .i64 0] 28) := ⟨_, rfl⟩
  have bW : Below w.heap.size w W := by rw [hW]; exact bel_alloc _ _
  have HW : Hid (Blk W B0 28 #[.int .i64 0, .int .i64 0, .int .i64 0, .slice none 0 0, .slice none 0 0, .int .i64 0] ∧ Sl W ca zs ∧ cn = zs.length ∧ W.heap.size = B0 + 1) := ⟨by rw [hW, hB0]; exact Blk.new w _ _, hs.below bW, hn, by rw [hW, hB0]; simp⟩
  have HB0 : Hid (w.heap.size ≤ B0 ∧ Below w.heap.size w W) := ⟨by rw [hB0]; exact Nat.le_refl _, bW⟩
  clear hs hn bW
  go_enter Try.func16, Try.ntmps16
  go_upto_region 1 with fail
  rw [← hW, ← hB0]
  clear hW hB0
  go_wp2_with fail
  refine (l1New_any _ ca _ cc zs HW.out.2.2.1 HW.out.2.1 hr hl).mono ?_
  rintro e w1 ⟨rfl, C1, g1⟩
  obtain ⟨gC, hgC⟩ : ∃ gC, gC = W.heap.size := ⟨_, rfl⟩
  rw [← hgC] at C1 ⊢
  have HC1 : Hid (Cur W ca cc zs w1 gC ∧ Blk w1 B0 28 #[.int .i64 0, .int .i64 0, .int .i64 0, .slice none 0 0, .slice none 0 0, .int .i64 0] ∧ gC = W.heap.size) := ⟨C1, HW.out.1.grown g1 (by simp), hgC⟩
  clear hr C1 g1 hgC
  go_wp2_with fail
  refine (l3DrawN_any W ca cc zs w1 gC HC1.out.1).mono ?_
  rintro e w2 ⟨kd, pl, nn, wa, q1, q2, m1, m2, k1, k2, ws, bs, rfl, e1, e2, e3, e4, hok, o1, o2, C2, g2, hbd⟩
  obtain ⟨bs1, hbs1⟩ : ∃ bs1, bs1 = w1.heap.size := ⟨_, rfl⟩
  rw [← hbs1] at o1 o2
  obtain ⟨Bq, hBq⟩ : ∃ Bq, Bq = w2.heap.size := ⟨_, rfl⟩
  obtain ⟨W3, hW3⟩ : ∃ W3, W3 = w2.alloc (.cells (rqc kd pl nn wa q1 q2 m1 m2 k1 k2) 28) := ⟨_, rfl⟩
  have H3 : Hid (DJ W ca cc zs gC B0 Bq bs1 kd pl nn wa q1 q2 m1 m2 k1 k2 ws bs none 0 0 [] W3) := by
    have b3 : Below w2.heap.size w2 W3 := by rw [hW3]; exact bel_alloc _ _
    have hlt := HC1.out.1.hi
    have hB1 := HW.out.2.2.2
    have hg := HC1.out.2.2
    have hsz := g2.size
    refine ⟨C2.belowU b3, (HC1.out.2.1.grown g2 (fun e9 => by have := Option.some.inj e9; omega)).below b3, by rw [hW3, hBq]; exact Blk.new w2 _ _, o1.below b3, o2.below b3, ownPs_nil _ _ _ _, by have := b3.size; omega, by omega⟩
  have HQ0 : Hid (m1 = ws.length ∧ m2 = bs.length ∧ ws.length ≤ 6 ∧ bs.length ≤ 20 ∧ okR kd pl nn wa ws ws.length bs.length = true ∧ (0 ≤ nn ∧ nn ≤ 100) ∧ m1 ≤ k1 ∧ m2 ≤ k2) := ⟨e1, e2, by omega, by omega, by rw [← e1, ← e2]; exact hok, ⟨hbd.2.2.1, hbd.2.2.2⟩, own_capE o1, own_capE o2⟩
  clear e1 e2 e3 e4 hok o1 o2 C2 g2 hbd hbs1 HC1 HW
  have HOA : Hid (∀ u, DJ W ca cc zs gC B0 Bq bs1 kd pl nn wa q1 q2 m1 m2 k1 k2 ws bs none 0 0 [] u → Calls Try.prog 34 #[.pointer (some ⟨gC, 0, none⟩)] u fun e w' => ∃ (va : Option Addr) (vn vc : Nat) (l : List Ru), e = .returned (.slice va vn vc) ∧ vn = l.length ∧ vn ≤ 28 ∧ DJ W ca cc zs gC B0 Bq bs1 kd pl nn wa q1 q2 m1 m2 k1 k2 ws bs none 0 0 [] w' ∧ SlU w' va l.length (fun i => l.getD i default)) := by
    intro u h
    refine (l10One_any W ca cc zs u gC h.cur (Nat.le_trans h.nm.2.2.2 (Nat.le_of_lt h.cur.hi))).mono ?_
    rintro e w' ⟨va, vn, vc, l, rfl, hvn, hl28, D⟩
    exact ⟨va, vn, vc, l, rfl, hvn, by omega, h.call D.cur D.gr, D.own.sl.2⟩
  have HPA : Hid (∀ (u : World) (va : Option Addr) (vn vc : Nat) (l : List Ru), vn = l.length → vn ≤ 28 → DJ W ca cc zs gC B0 Bq bs1 kd pl nn wa q1 q2 m1 m2 k1 k2 ws bs none 0 0 [] u → SlU u va l.length (fun i => l.getD i default) → Calls Try.prog 9 #[.slice va vn vc, .int .i64 1, .agg (rqc kd pl nn wa q1 q2 m1 m2 k1 k2)] u fun e w' => ∃ (la : Option Addr) (ln lc : Nat) (f : Int) (Ps : List Pa), e = .returned (.tuple #[.slice la ln lc, .int .i64 f]) ∧ (ln = Ps.length ∧ ln ≤ 8 ∧ ∀ k, k < ln → SmP kd (Ps.getD k default)) ∧ DJ W ca cc zs gC B0 Bq bs1 kd pl nn wa q1 q2 m1 m2 k1 k2 ws bs la ln lc Ps w') := by
    intro u va vn vc l hvn h28 h hsl
    subst hvn
    obtain ⟨rk, hrk⟩ : ∃ b : Bool, b = true ↔ OkRs (fun i => l.getD i default) l.length := by
      by_cases h9 : OkRs (fun i => l.getD i default) l.length
      · exact ⟨true, fun _ => h9, fun _ => rfl⟩
      · exact ⟨false, ⟨fun e => Bool.noConfusion e, fun e => absurd e h9⟩⟩
    obtain ⟨uk, huk⟩ : ∃ b : Bool, b = true ↔ ∃ j, j < l.length ∧ (l.getD j default).u = 1 := by
      by_cases h9 : ∃ j, j < l.length ∧ (l.getD j default).u = 1
      · exact ⟨true, fun _ => h9, fun _ => rfl⟩
      · exact ⟨false, ⟨fun e => Bool.noConfusion e, fun e => absurd e h9⟩⟩
    refine (specParts_all kd va l.length vc (fun i => l.getD i default) 1 pl nn wa q1 q2 m1 m2 k1 k2 ws bs u hsl (by omega) HQ0.out.1 HQ0.out.2.1 h.o1.sl.2 h.o2.sl.2 (by have := HQ0.out; omega) (by have := HQ0.out; omega) HQ0.out.2.2.2.2.2.2.1 HQ0.out.2.2.2.2.2.2.2 rk uk hrk huk).mono ?_
    rintro e w' ⟨v, rfl, OP, b5⟩
    rw [HQ0.out.1, HQ0.out.2.1] at OP ⊢
    obtain ⟨p1, p2⟩ := pm_small (uk := uk) hrk HQ0.out.2.2.2.2.1 HQ0.out.2.2.2.2.2.1 HQ0.out.2.2.1 HQ0.out.2.2.2.1
    obtain ⟨la, lc, hv⟩ := OP.shape
    subst hv
    have h9 := h.below b5
    rw [HQ0.out.1, HQ0.out.2.1] at h9
    exact ⟨la, _, lc, _, _, rfl, ⟨rfl, p1, p2⟩, ⟨h9.cur, h9.r0, h9.qb, h9.o1, h9.o2, OwnPs.mono OP h.sz, h9.sz, h9.nm⟩⟩
  go_upto_region 3 with fail
  rw [← hW3, ← hBq]
  clear hW3 hBq
  obtain ⟨⟨y0, y1, y2, y3, y4, y5⟩, _⟩ := H3.out.qb.six2
  go_cut [7, 8] (fun v f wx => ∃ (la : Option Addr) (ln lc : Nat) (fx : Int) (Ps : List Pa), v = .slice la ln lc ∧ f = .int .i64 fx ∧ (ln = Ps.length ∧ ln ≤ 8 ∧ ∀ k, k < ln → SmP kd (Ps.getD k default)) ∧ DJ W ca cc zs gC B0 Bq bs1 kd pl nn wa q1 q2 m1 m2 k1 k2 ws bs la ln lc Ps wx)
  case first =>
    go_region_with (first
      | (go_at_call 34; refine (HOA.out _ ?_).mono ?_; (first | exact H3.out | exact H3.out.below (Below.refl _ _).drew | exact H3.out.below (Below.refl _ _).drew.drew); rintro e w4 ⟨va, vn, vc, l, rfl, ev, el, K4, S4⟩; have HEV := hide ev; clear ev; obtain ⟨⟨y0', y1', y2', y3', y4', y5'⟩, _⟩ := K4.qb.six2)
      | (go_at_call 9; refine (HPA.out _ _ _ _ l HEV.out el ?_ ?_).mono ?_; (first | exact K4 | exact K4.below (Below.refl _ _).drew | exact K4.below (Below.refl _ _).drew.drew); (first | exact S4 | exact SlS.below S4 (Below.refl _ _).drew | exact SlS.below S4 (Below.refl _ _).drew.drew); rintro e w5 ⟨la, ln, lc, ff, Ps, rfl, hps, K5⟩; have HPP := hide hps; clear hps))
    all_goals (go_wp2_with fail; go_meet; exact ⟨la, ln, lc, ff, Ps, rfl, rfl, HPP.out, K5⟩)
  case rest =>
  obtain ⟨la, ln, lc, fx, Ps, rfl, rfl, hps, K5⟩ := hcut
  rename World => w5
  have HPS : Hid (ln = Ps.length ∧ ln ≤ 8 ∧ ∀ k, k < ln → SmP kd (Ps.getD k default)) := hps
  have h8 := hps.2.1
  have H5 : Hid (DJ W ca cc zs gC B0 Bq bs1 kd pl nn wa q1 q2 m1 m2 k1 k2 ws bs la ln lc Ps w5) := K5
  clear hps K5 H3 HOA HPA y0 y1 y2 y3 y4 y5
  obtain ⟨W6, hW6⟩ : ∃ W6, W6 = w5.alloc (.cells #[] 49) := ⟨_, rfl⟩
  obtain ⟨g6, hg6⟩ : ∃ g6, g6 = w5.heap.size := ⟨_, rfl⟩
  have H6 : Hid (DJ W ca cc zs gC B0 Bq bs1 kd pl nn wa q1 q2 m1 m2 k1 k2 ws bs la ln lc Ps W6 ∧ LsA W6 bs1 (.slice (some ⟨g6, 0, none⟩) 0 0) []) := ⟨by rw [hW6]; exact H5.out.below (bel_alloc _ _), by rw [hW6, hg6]; exact newA w5 bs1 H5.out.sz⟩
  go_wp2
  rw [← hW6, ← hg6]
  clear hW6 hg6 H5
  go_loopw [9, 10] (fun t i wr => ∃ (z : Nat) (As : List An) (ta : Option Addr) (tn tc : Nat), z ≤ ln ∧ i = .int .i64 z ∧ t = .slice ta tn tc ∧ As.length = z ∧ LsA wr bs1 (.slice ta tn tc) As ∧ DJ W ca cc zs gC B0 Bq bs1 kd pl nn wa q1 q2 m1 m2 k1 k2 ws bs la ln lc Ps wr ∧ ∀ x ∈ As, SmA x) (fun _ i _ => ln - (intOf i).toNat)
  case atStart => exact ⟨0, [], _, _, _, Nat.zero_le _, rfl, rfl, rfl, H6.out.2, H6.out.1, fun x hx => by cases hx⟩
  case round =>
    obtain ⟨z, As, ta, tn, tc, hz, rfl, rfl, hlz, L, K, hsm⟩ := hrel
    have HL : Hid (As.length = z ∧ LsA wr bs1 (.slice ta tn tc) As ∧ DJ W ca cc zs gC B0 Bq bs1 kd pl nn wa q1 q2 m1 m2 k1 k2 ws bs la ln lc Ps wr ∧ ∀ x ∈ As, SmA x) := ⟨hlz, L, K, hsm⟩
    clear hlz L K hsm H6
    by_cases hlt : z < ln
    · have hi : (z : Int) < (ln : Int) := by omega
      obtain ⟨gb, off, a1, a2, c1, c2, rfl, p2, p3, p4, p5, p6, p7, po1, po2⟩ := HL.out.2.2.1.ps.own (k := z) (by have := HPS.out.1; omega)
      obtain ⟨P, hP⟩ : ∃ P, P = Ps.getD z default := ⟨_, rfl⟩
      rw [← hP] at p2 p3 p4 p5 p6 p7 po1 po2
      have hsp := HPS.out.2.2 z hlt
      rw [← hP] at hsp
      obtain ⟨t1, ht1⟩ : ∃ t1, t1 = P.ws.length := ⟨_, rfl⟩
      obtain ⟨t2, ht2⟩ : ∃ t2, t2 = P.bs.length := ⟨_, rfl⟩
      rw [← ht1] at p5 po1
      rw [← ht2] at p6 po2
      have HP : Hid (OwnI wr bs1 (.slice a1 t1 c1) P.ws ∧ OwnB wr bs1 (.slice a2 t2 c2) P.bs ∧ t1 = P.ws.length ∧ t2 = P.bs.length ∧ t1 ≤ 200 ∧ t2 ≤ 1000 ∧ (0 ≤ P.n ∧ P.n ≤ 900) ∧ (0 ≤ P.pl ∧ P.pl ≤ 65535)) := ⟨po1, po2, ht1, ht2, by have := hsp.2.2.1; omega, by have := hsp.2.2.2.1; omega, by have := hsp.2.1; omega, hsp.2.2.2.2.1⟩
      clear po1 po2 ht1 ht2 hsp hP
      go_wp2_with fail
      refine (l4Draw_any W ca cc zs _ gC P.kd P.pl P.n P.wa a1 a2 t1 t2 c1 c2 P.ws P.bs HP.out.2.2.1 HP.out.2.2.2.1 HP.out.2.2.2.2.1 HP.out.2.2.2.2.2.1 HP.out.2.2.2.2.2.2.1 HP.out.2.2.2.2.2.2.2 bs1 HL.out.2.2.1.nm.1 HP.out.1 HP.out.2.1 HL.out.2.2.1.cur).mono ?_
      rintro e w7 ⟨xk, xf, xp, xn, x1, x2, l1, l2, d1, d2, xs, ys, rfl, e1, e2, e3, e4, o1, o2, C7, g7, hb7⟩
      subst e1
      subst e2
      obtain ⟨y, hy⟩ : ∃ y : An, y = ⟨xk, xf, xp, xn, xs, ys⟩ := ⟨_, rfl⟩
      have K7 := HL.out.2.2.1.call C7 g7
      have L7 := HL.out.2.1.keptLt g7 HL.out.2.2.1.nm.1
      obtain ⟨W8, hW8⟩ : ∃ W8, W8 = w7.alloc (.cells #[.int .i64 xk, .int .i64 xf, .int .i64 xp, .int .i64 xn, .slice x1 xs.length d1, .slice x2 ys.length d2] 49) := ⟨_, rfl⟩
      have b8 : Below w7.heap.size w7 W8 := by rw [hW8]; exact bel_alloc _ _
      have H8 : Hid (DJ W ca cc zs gC B0 Bq bs1 kd pl nn wa q1 q2 m1 m2 k1 k2 ws bs (some ⟨gb, off, none⟩) ln lc Ps W8 ∧ LsA W8 bs1 (.slice ta tn tc) As ∧ Blk W8 w7.heap.size 49 #[.int .i64 y.kd, .int .i64 y.fl, .int .i64 y.pl, .int .i64 y.nn, .slice x1 y.ws.length d1, .slice x2 y.bs.length d2] ∧ OwnI W8 bs1 (.slice x1 y.ws.length d1) y.ws ∧ OwnB W8 bs1 (.slice x2 y.bs.length d2) y.bs ∧ SmA y ∧ As.length ≤ 1000 ∧ bs1 ≤ W8.heap.size) := by
        have hsz := HL.out.2.2.1.sz
        refine ⟨K7.below b8, L7.below b8, by rw [hW8, hy]; exact Blk.new w7 _ _, by rw [hy]; exact (OwnI.mono o1 hsz).below b8, by rw [hy]; exact (OwnB.mono o2 hsz).below b8, by rw [hy]; exact ⟨e3, e4, ⟨hb7.1, hb7.2.1⟩, hb7.2.2⟩, by have := HL.out.1; omega, Nat.le_trans K7.sz b8.size⟩
      have HSM : Hid ((∀ x ∈ As, SmA x) ∧ As.length = z) := ⟨HL.out.2.2.2, HL.out.1⟩
      clear e3 e4 o1 o2 C7 g7 hb7 K7 L7 b8 HP HL p2 p3 p4 p5 p6 p7
      go_wp2_with (at_builtin; rw [← hW8]; refine wpList_appA rfl (.tmp 29) (.tmp 37) rfl bs1 (.slice ta tn tc) As rfl H8.out.2.1 w7.heap.size 1 y x1 x2 d1 d2 rfl H8.out.2.2.1 H8.out.2.2.2.1 H8.out.2.2.2.2.1 H8.out.2.2.2.2.2.2.1 H8.out.2.2.2.2.2.2.2 ?_; intro v' w9 L9 g9 hk9; obtain ⟨FF, r1, r2⟩ := H8.out.2.1; have K9 := H8.out.1.app r1 g9; obtain ⟨ta9, tc9, hv9⟩ := L9.shape; subst hv9; obtain ⟨tn9, htn9⟩ : ∃ tn9, tn9 = (As ++ [y]).length := ⟨_, rfl⟩; rw [← htn9] at L9; rw [← htn9]; have H9 : Hid (LsA w9 bs1 (.slice ta9 tn9 tc9) (As ++ [y]) ∧ DJ W ca cc zs gC B0 Bq bs1 kd pl nn wa q1 q2 m1 m2 k1 k2 ws bs (some ⟨gb, off, none⟩) ln lc Ps w9) := ⟨L9, K9⟩; clear L9 K9 g9 hk9 r1 r2 htn9)
      go_roundw
      case rel =>
        refine ⟨z + 1, As ++ [y], ta9, _, tc9, by omega, by go_num, rfl, by rw [List.length_append, HSM.out.2]; rfl, H9.out.1, H9.out.2, fun x hx => ?_⟩
        rcases List.mem_append.1 hx with h9 | h9
        · exact HSM.out.1 x h9
        · rw [List.mem_singleton.1 h9]; exact H8.out.2.2.2.2.2.1
      case measure => simp [intOf]; omega
    · have hi : ¬ (z : Int) < (ln : Int) := by omega
      have HEZ : Hid (ln = z) := by show ln = z; omega
      go_wp2_with fail
      refine (l1Below_any W ca cc zs _ gC 10 (by decide) HL.out.2.2.1.cur).mono ?_
      rintro e u1 ⟨x, rfl, hx, C7, g7⟩
      have HU : Hid (LsA u1 bs1 (.slice ta tn tc) As ∧ DJ W ca cc zs gC B0 Bq bs1 kd pl nn wa q1 q2 m1 m2 k1 k2 ws bs la ln lc Ps u1 ∧ As.length = ln ∧ (∀ x ∈ As, SmA x) ∧ tn = As.length) := ⟨HL.out.2.1.keptLt g7 HL.out.2.2.1.nm.1, HL.out.2.2.1.call C7 g7, by have := HL.out.1; have := HEZ.out; omega, HL.out.2.2.2, HL.out.2.1.sl.1⟩
      clear C7 g7 HL HEZ hi
      have HQ : Hid (m1 = ws.length ∧ m2 = bs.length ∧ ws.length ≤ 1000 ∧ bs.length ≤ 1000) := ⟨HQ0.out.1, HQ0.out.2.1, by have := HQ0.out; omega, by have := HQ0.out; omega⟩
      have HM : Hid (tn ≤ 9 ∧ ∀ k, k < tn → (As.getD k default).ws.length ≤ 2000 ∧ (As.getD k default).bs.length ≤ 2000) := ⟨by have := HU.out; omega, fun k hk => by
        have hk' : k < As.length := by have := HU.out.2.2.2.2; omega
        have h9 := HU.out.2.2.2.1 (As.getD k default) (by rw [List.getD_eq_getElem?_getD, List.getElem?_eq_getElem hk']; simp)
        exact ⟨by have := h9.1; omega, by have := h9.2.1; omega⟩⟩
      have HF := hide HU.out.1.fa.2
      by_cases x0 : x = 0
      · subst x0
        by_cases ht : 0 < tn
        · have d0 : (0 : Int) < (tn : Int) := by omega
          obtain ⟨gt, F, rfl, hgt, hrc, hat⟩ := HU.out.1.first6 ht
          have h0at := hat 0 ht
          obtain ⟨b1, b2, dd1, dd2, eF, bo1, bo2⟩ := h0at
          obtain ⟨y, hy⟩ : ∃ y, y = As.getD 0 default := ⟨_, rfl⟩
          rw [← hy] at eF bo1 bo2
          have hsy : SmA y := by rw [hy]; have hk' : 0 < As.length := (by have := HU.out.2.2.2.2; omega); exact HU.out.2.2.2.1 _ (by rw [List.getD_eq_getElem?_getD, List.getElem?_eq_getElem hk']; simp)
          have cc' : ∀ j, j < 6 → u1.cell? ⟨gt, j, none⟩ = (anl y b1 b2 dd1 dd2)[j]? := fun j hj => by rw [← eF]; have h9 := hrc.cell (k := 0) (j := j) ht hj; rw [Nat.zero_mul, Nat.zero_add] at h9; exact h9
          obtain ⟨t1, ht1⟩ : ∃ t1, t1 = y.ws.length := ⟨_, rfl⟩
          obtain ⟨t2, ht2⟩ : ∃ t2, t2 = y.bs.length := ⟨_, rfl⟩
          have s0 : u1.cell? ⟨gt, 0, none⟩ = some (.int .i64 y.kd) := cc' 0 (by decide)
          have s1 : u1.cell? ⟨gt, 1, none⟩ = some (.int .i64 y.fl) := cc' 1 (by decide)
          have s2 : u1.cell? ⟨gt, 2, none⟩ = some (.int .i64 y.pl) := cc' 2 (by decide)
          have s3 : u1.cell? ⟨gt, 3, none⟩ = some (.int .i64 y.nn) := cc' 3 (by decide)
          have s4 : u1.cell? ⟨gt, 4, none⟩ = some (.slice b1 t1 dd1) := by rw [ht1]; exact cc' 4 (by decide)
          have s5 : u1.cell? ⟨gt, 5, none⟩ = some (.slice b2 t2 dd2) := by rw [ht2]; exact cc' 5 (by decide)
          have HY1 : Hid (OwnI u1 bs1 (.slice b1 t1 dd1) y.ws ∧ OwnB u1 bs1 (.slice b2 t2 dd2) y.bs ∧ t1 = y.ws.length ∧ t2 = y.bs.length ∧ SmA y ∧ bs1 ≤ gt ∧ RowC u1 gt 49 6 tn F ∧ ∀ k, k < tn → AnAt u1 bs1 (F k) (As.getD k default)) := ⟨by rw [ht1]; exact bo1, by rw [ht2]; exact bo2, ht1, ht2, hsy, hgt, hrc, hat⟩
          clear cc' eF bo1 bo2 hsy ht1 ht2 hy hgt hrc hat HF
          go_wp2_with fail
          refine (l4Bend_any W ca cc zs _ gC y.kd y.fl y.pl y.nn b1 b2 t1 t2 dd1 dd2 y.ws y.bs bs1 HY1.out.2.2.1 HY1.out.2.2.2.1 (by have := HY1.out; have := HY1.out.2.2.2.2.1.1; omega) (by have := HY1.out; have := HY1.out.2.2.2.2.1.2.1; omega) ⟨HY1.out.2.2.2.2.1.2.2.1.1, HY1.out.2.2.2.2.1.2.2.1.2, HY1.out.2.2.2.2.1.2.2.2.1, HY1.out.2.2.2.2.1.2.2.2.2⟩ HU.out.2.1.nm.1 HU.out.2.1.sz HY1.out.1 HY1.out.2.1 HU.out.2.1.cur).mono ?_
          rintro e u2 ⟨xk, xf, xp, xn, x1, x2, l1, l2, d1, d2, xs, ys, rfl, e1, e2, e3, e4, o1, o2, C8, g8⟩
          subst e1
          subst e2
          obtain ⟨Y, hY⟩ : ∃ Y : An, Y = ⟨xk, xf, xp, xn, xs, ys⟩ := ⟨_, rfl⟩
          have hgg : gC ≠ gt := by have := HY1.out.2.2.2.2.2.1; have := HU.out.2.1.nm; omega
          have K2 := HU.out.2.1.call C8 g8
          have R2 := HY1.out.2.2.2.2.2.2.1.kept g8 (fun e9 => hgg (Option.some.inj e9))
          obtain ⟨W9, hW9⟩ : ∃ W9, W9 = ((((((u2.setCell ⟨gt, 0, none⟩ (.int .i64 xk)).setCell ⟨gt, 1, none⟩ (.int .i64 xf)).setCell ⟨gt, 2, none⟩ (.int .i64 xp)).setCell ⟨gt, 3, none⟩ (.int .i64 xn)).setCell ⟨gt, 4, none⟩ (.slice x1 xs.length d1)).setCell ⟨gt, 5, none⟩ (.slice x2 ys.length d2)) := ⟨_, rfl⟩
          have gg9 : u2.grownBy W9 (some gt) := by rw [hW9]; exact setL_gr (g := gt) (anl Y x1 x2 d1 d2) u2 0 |> (fun h => by rw [hY] at h; exact h)
          have HF9 : Hid (FA W9 bs1 (some ⟨gt, 0, none⟩) tn (fun k => if k = 0 then Y else As.getD k default)) := by
            have h9 := fa_first (y := Y) (a1 := x1) (a2 := x2) (c1 := d1) (c2 := d2) HY1.out.2.2.2.2.2.1 R2 (fun k hk => (HY1.out.2.2.2.2.2.2.2 k hk).keptLt g8 HU.out.2.1.nm.1) ht (by rw [hY]; exact o1) (by rw [hY]; exact o2)
            rw [hY] at h9 ⊢
            rw [hW9]
            exact h9
          have HD9 : Hid (DJ W ca cc zs gC B0 Bq bs1 kd pl nn wa q1 q2 m1 m2 k1 k2 ws bs la ln lc Ps W9) := by
            have hx9 : ExB u2 gt 49 := R2.exB
            obtain ⟨cs9, hb9⟩ := hx9
            refine ⟨K2.cur.grown gg9 (fun e9 => hgg (Option.some.inj e9)) (fun k hk => by have := Option.some.inj hk; have := HY1.out.2.2.2.2.2.1; have := K2.nm; omega), K2.r0.grown gg9 (fun e9 => by have := Option.some.inj e9; have := HY1.out.2.2.2.2.2.1; have := K2.nm; omega), ?_, World.ownsRow.kept K2.o1 gg9 (exB_other K2.o1 ⟨cs9, hb9⟩ (by decide)), World.ownsRow.kept K2.o2 gg9 (exB_other K2.o2 ⟨cs9, hb9⟩ (by decide)), ?_, Nat.le_trans K2.sz gg9.size, K2.nm⟩
            · refine K2.qb.grown gg9 (fun e9 => ?_)
              have h8 := Option.some.inj e9
              subst h8
              have h7 := hb9.symm.trans K2.qb
              simp at h7
            · obtain ⟨F', β, q1', q2'⟩ := K2.ps
              refine ⟨F', β, ?_, q2'.keptT gg9 ⟨cs9, hb9⟩ (by decide) (by decide)⟩
              rcases q1' with h9 | ⟨g', c', e', hb', hr'⟩
              · exact .inl h9
              · refine .inr ⟨g', c', e', hb', hr'.kept gg9 (fun e9 => ?_)⟩
                obtain ⟨cs', hc'⟩ := hr'.exB
                have h8 := Option.some.inj e9
                subst h8
                have h7 := hb9.symm.trans hc'
                simp at h7
          have HM9 : Hid (tn ≤ 9 ∧ ∀ k, k < tn → (if k = 0 then Y else As.getD k default).ws.length ≤ 2000 ∧ (if k = 0 then Y else As.getD k default).bs.length ≤ 2000) := ⟨HM.out.1, fun k hk => by
            by_cases e9 : k = 0
            · rw [if_pos e9, hY]
              have h9 := HY1.out
              have h8 := HY1.out.2.2.2.2.1.1
              have h7 := HY1.out.2.2.2.2.1.2.1
              exact ⟨by show xs.length ≤ 2000; omega, by show ys.length ≤ 2000; omega⟩
            · rw [if_neg e9]; exact HM.out.2 k hk⟩
          have n0 := R2.fro 0
          have n1 := R2.fro 1
          have n2 := R2.fro 2
          have n3 := R2.fro 3
          have n4 := R2.fro 4
          have n5 := R2.fro 5
          have hcl : ∀ j, j < 6 → ∃ v, u2.cell? ⟨gt, j, none⟩ = some v := fun j hj => by
            obtain ⟨a9, b9, c9, d9, e9, _⟩ := HY1.out.2.2.2.2.2.2.2 0 ht
            have h9 := R2.cell (k := 0) (j := j) ht hj
            rw [Nat.zero_mul, Nat.zero_add] at h9
            rw [h9, e9]
            match j, hj with
            | 0, _ => exact ⟨_, rfl⟩
            | 1, _ => exact ⟨_, rfl⟩
            | 2, _ => exact ⟨_, rfl⟩
            | 3, _ => exact ⟨_, rfl⟩
            | 4, _ => exact ⟨_, rfl⟩
            | 5, _ => exact ⟨_, rfl⟩
          obtain ⟨v0, i0⟩ := hcl 0 (by decide)
          obtain ⟨v1, i1⟩ := hcl 1 (by decide)
          obtain ⟨v2, i2⟩ := hcl 2 (by decide)
          obtain ⟨v3, i3⟩ := hcl 3 (by decide)
          obtain ⟨v4, i4⟩ := hcl 4 (by decide)
          obtain ⟨v5, i5⟩ := hcl 5 (by decide)
          clear e3 e4 o1 o2 C8 g8 K2 R2 gg9 hcl HM HU HY1 hgg s0 s1 s2 s3 s4 s5
          go_upto_region 17 with fail
          rw [← hW9]
          clear hW9 n0 n1 n2 n3 n4 n5 i0 i1 i2 i3 i4 i5
          obtain ⟨⟨y0, y1, y2, y3, y4, y5⟩, _⟩ := HD9.out.qb.six2
          obtain ⟨⟨z0, z1, z2, z3, z4, z5⟩, ⟨f0, f1, f2, f3, f4, f5⟩⟩ := HD9.out.r0.six2
          have HY : Hid (SlI (setL W9 B0 0 (rqc kd pl nn wa q1 q2 m1 m2 k1 k2).toList) q1 ws ∧ SlB (setL W9 B0 0 (rqc kd pl nn wa q1 q2 m1 m2 k1 k2).toList) q2 bs ∧ OwnPs (setL W9 B0 0 (rqc kd pl nn wa q1 q2 m1 m2 k1 k2).toList) bs1 (.slice la ln lc) Ps ∧ SlA (setL W9 B0 0 (rqc kd pl nn wa q1 q2 m1 m2 k1 k2).toList) (some ⟨gt, 0, none⟩) tn (fun k => if k = 0 then Y else As.getD k default) ∧ Below w.heap.size w (setL W9 B0 0 (rqc kd pl nn wa q1 q2 m1 m2 k1 k2).toList)) := by
            have gg := setL_gr (g := B0) (rqc kd pl nn wa q1 q2 m1 m2 k1 k2).toList W9 0
            have hB : B0 < bs1 := by have := HD9.out.nm; omega
            exact ⟨(OwnI.sl (row_setL HD9.out.o1 ⟨_, HD9.out.r0⟩ (by decide))).2, (OwnB.sl (row_setL HD9.out.o2 ⟨_, HD9.out.r0⟩ (by decide))).2, HD9.out.ps.keptLt gg hB, (HF9.out.keptLt gg hB).sl, setL_below (by have := HB0.out; omega) _ _ _ (bel_next HB0.out.2 HD9.out.cur.bel)⟩
          go_wp2
          refine bodyPost_ret (v := .tuple #[.agg (rqc kd pl nn wa q1 q2 m1 m2 k1 k2), .slice la ln lc, .slice (some ⟨gt, 0, none⟩) tn tc]) (by simp [results, Try.results16, go_sem, z0, z1, z2, z3, z4, z5]) rfl ?_
          exact ⟨kd, pl, nn, wa, q1, q2, m1, m2, k1, k2, ws, bs, la, ln, lc, Ps, (some ⟨gt, 0, none⟩), tn, tc, (fun k => if k = 0 then Y else As.getD k default), kd, bs1, rfl, HQ.out.1, HQ.out.2.1, HY.out.1, HY.out.2.1, HQ.out.2.2.1, HQ.out.2.2.2, HPS.out.1, HY.out.2.2.1, HY.out.2.2.2.1, HPS.out.2.1, HM9.out.1, HPS.out.2.2, HM9.out.2, HY.out.2.2.2.2⟩
        · have d0 : ¬ (0 : Int) < (tn : Int) := by omega
          have HD := hide HU.out.2.1
          obtain ⟨⟨y0, y1, y2, y3, y4, y5⟩, _⟩ := HD.out.qb.six2
          obtain ⟨⟨z0, z1, z2, z3, z4, z5⟩, ⟨f0, f1, f2, f3, f4, f5⟩⟩ := HD.out.r0.six2
          have HY : Hid (SlI (setL u1 B0 0 (rqc kd pl nn wa q1 q2 m1 m2 k1 k2).toList) q1 ws ∧ SlB (setL u1 B0 0 (rqc kd pl nn wa q1 q2 m1 m2 k1 k2).toList) q2 bs ∧ OwnPs (setL u1 B0 0 (rqc kd pl nn wa q1 q2 m1 m2 k1 k2).toList) bs1 (.slice la ln lc) Ps ∧ SlA (setL u1 B0 0 (rqc kd pl nn wa q1 q2 m1 m2 k1 k2).toList) ta tn (fun k => As.getD k default) ∧ Below w.heap.size w (setL u1 B0 0 (rqc kd pl nn wa q1 q2 m1 m2 k1 k2).toList)) := by
            have gg := setL_gr (g := B0) (rqc kd pl nn wa q1 q2 m1 m2 k1 k2).toList u1 0
            have hB : B0 < bs1 := by have := HD.out.nm; omega
            exact ⟨(OwnI.sl (row_setL HD.out.o1 ⟨_, HD.out.r0⟩ (by decide))).2, (OwnB.sl (row_setL HD.out.o2 ⟨_, HD.out.r0⟩ (by decide))).2, HD.out.ps.keptLt gg hB, (HF.out.keptLt gg hB).sl, setL_below (by have := HB0.out; omega) _ _ _ (bel_next HB0.out.2 HD.out.cur.bel)⟩
          go_wp2
          refine bodyPost_ret (v := .tuple #[.agg (rqc kd pl nn wa q1 q2 m1 m2 k1 k2), .slice la ln lc, .slice ta tn tc]) (by simp [results, Try.results16, go_sem, z0, z1, z2, z3, z4, z5]) rfl ?_
          exact ⟨kd, pl, nn, wa, q1, q2, m1, m2, k1, k2, ws, bs, la, ln, lc, Ps, ta, tn, tc, (fun k => As.getD k default), kd, bs1, rfl, HQ.out.1, HQ.out.2.1, HY.out.1, HY.out.2.1, HQ.out.2.2.1, HQ.out.2.2.2, HPS.out.1, HY.out.2.2.1, HY.out.2.2.2.1, HPS.out.2.1, HM.out.1, HPS.out.2.2, HM.out.2, HY.out.2.2.2.2⟩
      · have dx0 : (x == 0) = false := by simpa using x0
        by_cases x1 : x = 1
        · subst x1
          obtain ⟨W8, hW8⟩ : ∃ W8, W8 = u1.alloc (.cells #[.int .i64 3, .int .i64 1, .int .i64 0, .int .i64 0, .slice none 0 0, .slice none 0 0] 49) := ⟨_, rfl⟩
          have b8 : Below u1.heap.size u1 W8 := by rw [hW8]; exact bel_alloc _ _
          have H8 : Hid (DJ W ca cc zs gC B0 Bq bs1 kd pl nn wa q1 q2 m1 m2 k1 k2 ws bs la ln lc Ps W8 ∧ LsA W8 bs1 (.slice ta tn tc) As ∧ Blk W8 u1.heap.size 49 #[.int .i64 3, .int .i64 1, .int .i64 0, .int .i64 0, .slice none 0 0, .slice none 0 0] ∧ As.length ≤ 1000 ∧ bs1 ≤ W8.heap.size ∧ As.length = ln ∧ ∀ x ∈ As, SmA x) := ⟨HU.out.2.1.below b8, HU.out.1.below b8, by rw [hW8]; exact Blk.new u1 _ _, by have := HU.out; omega, Nat.le_trans HU.out.2.1.sz b8.size, HU.out.2.2.1, HU.out.2.2.2.1⟩
          clear b8 HM HF HU
          go_upto_region 17 with (at_builtin; rw [← hW8]; refine wpList_appA rfl (.tmp 55) (.tmp 57) rfl bs1 (.slice ta tn tc) As rfl H8.out.2.1 u1.heap.size 1 ⟨3, 1, 0, 0, [], []⟩ none none 0 0 rfl H8.out.2.2.1 (ownI_z _ _) (ownB_z _ _) H8.out.2.2.2.1 H8.out.2.2.2.2.1 ?_; intro v' w9 L9 g9 hk9; obtain ⟨FF, r1, r2⟩ := H8.out.2.1; have K9 := H8.out.1.app r1 g9; obtain ⟨ta9, tc9, hv9⟩ := L9.shape; subst hv9; obtain ⟨tn9, htn9⟩ : ∃ tn9, tn9 = (As ++ [(⟨3, 1, 0, 0, [], []⟩ : An)]).length := ⟨_, rfl⟩; rw [← htn9] at L9; rw [← htn9]; have HL9 : Hid (LsA w9 bs1 (.slice ta9 tn9 tc9) (As ++ [(⟨3, 1, 0, 0, [], []⟩ : An)]) ∧ tn9 = As.length + 1) := ⟨L9, by rw [htn9]; simp⟩; have HD9 := hide K9; clear L9 K9 g9 hk9 r1 r2 htn9)
          have HF9 := hide HL9.out.1.fa.2
          have HM9 : Hid (tn9 ≤ 9 ∧ ∀ k, k < tn9 → ((As ++ [(⟨3, 1, 0, 0, [], []⟩ : An)]).getD k default).ws.length ≤ 2000 ∧ ((As ++ [(⟨3, 1, 0, 0, [], []⟩ : An)]).getD k default).bs.length ≤ 2000) := ⟨by have := HL9.out.2; have := H8.out.2.2.2.2.2.1; omega, fun k hk => by
            have hk' : k < (As ++ [(⟨3, 1, 0, 0, [], []⟩ : An)]).length := by rw [List.length_append]; have := HL9.out.2; simp; omega
            have hm : (As ++ [(⟨3, 1, 0, 0, [], []⟩ : An)]).getD k default ∈ As ++ [(⟨3, 1, 0, 0, [], []⟩ : An)] := by rw [List.getD_eq_getElem?_getD, List.getElem?_eq_getElem hk']; simp
            rcases List.mem_append.1 hm with h9 | h9
            · have h8' := H8.out.2.2.2.2.2.2 _ h9
              exact ⟨by have := h8'.1; omega, by have := h8'.2.1; omega⟩
            · rw [List.mem_singleton.1 h9]; exact ⟨Nat.zero_le _, Nat.zero_le _⟩⟩
          obtain ⟨⟨y0, y1, y2, y3, y4, y5⟩, _⟩ := HD9.out.qb.six2
          obtain ⟨⟨z0, z1, z2, z3, z4, z5⟩, ⟨f0, f1, f2, f3, f4, f5⟩⟩ := HD9.out.r0.six2
          have HY : Hid (SlI (setL w9 B0 0 (rqc kd pl nn wa q1 q2 m1 m2 k1 k2).toList) q1 ws ∧ SlB (setL w9 B0 0 (rqc kd pl nn wa q1 q2 m1 m2 k1 k2).toList) q2 bs ∧ OwnPs (setL w9 B0 0 (rqc kd pl nn wa q1 q2 m1 m2 k1 k2).toList) bs1 (.slice la ln lc) Ps ∧ SlA (setL w9 B0 0 (rqc kd pl nn wa q1 q2 m1 m2 k1 k2).toList) ta9 tn9 (fun k => (As ++ [(⟨3, 1, 0, 0, [], []⟩ : An)]).getD k default) ∧ Below w.heap.size w (setL w9 B0 0 (rqc kd pl nn wa q1 q2 m1 m2 k1 k2).toList)) := by
            have gg := setL_gr (g := B0) (rqc kd pl nn wa q1 q2 m1 m2 k1 k2).toList w9 0
            have hB : B0 < bs1 := by have := HD9.out.nm; omega
            exact ⟨(OwnI.sl (row_setL HD9.out.o1 ⟨_, HD9.out.r0⟩ (by decide))).2, (OwnB.sl (row_setL HD9.out.o2 ⟨_, HD9.out.r0⟩ (by decide))).2, HD9.out.ps.keptLt gg hB, (HF9.out.keptLt gg hB).sl, setL_below (by have := HB0.out; omega) _ _ _ (bel_next HB0.out.2 HD9.out.cur.bel)⟩
          go_wp2
          refine bodyPost_ret (v := .tuple #[.agg (rqc kd pl nn wa q1 q2 m1 m2 k1 k2), .slice la ln lc, .slice ta9 tn9 tc9]) (by simp [results, Try.results16, go_sem, z0, z1, z2, z3, z4, z5]) rfl ?_
          exact ⟨kd, pl, nn, wa, q1, q2, m1, m2, k1, k2, ws, bs, la, ln, lc, Ps, ta9, tn9, tc9, (fun k => (As ++ [(⟨3, 1, 0, 0, [], []⟩ : An)]).getD k default), kd, bs1, rfl, HQ.out.1, HQ.out.2.1, HY.out.1, HY.out.2.1, HQ.out.2.2.1, HQ.out.2.2.2, HPS.out.1, HY.out.2.2.1, HY.out.2.2.2.1, HPS.out.2.1, HM9.out.1, HPS.out.2.2, HM9.out.2, HY.out.2.2.2.2⟩
        · have dx1 : (x == 1) = false := by simpa using x1
          by_cases x2 : x = 2
          · subst x2
            have HD := hide HU.out.2.1
            clear HU
            obtain ⟨⟨y0, y1, y2, y3, y4, y5⟩, _⟩ := HD.out.qb.six2
            go_wp2_with fail
            refine (l3Bend_any W ca cc zs _ gC kd pl nn wa q1 q2 m1 m2 k1 k2 ws bs bs1 HQ0.out.1 HQ0.out.2.1 (by have := HQ0.out; omega) (by have := HQ0.out; omega) HD.out.nm.1 HD.out.sz HD.out.o1 HD.out.o2 HD.out.cur).mono ?_
            rintro e u2 ⟨xk, xp, xn, xw, x1', x2', l1, l2, d1, d2, xs, ys, rfl, e1, e2, e3, e4, o1, o2, C8, g8⟩
            have K2 := HD.out.call C8 g8
            obtain ⟨W9, hW9⟩ : ∃ W9, W9 = ((((((u2.setCell ⟨Bq, 0, none⟩ (.int .i64 xk)).setCell ⟨Bq, 1, none⟩ (.int .i64 xp)).setCell ⟨Bq, 2, none⟩ (.int .i64 xn)).setCell ⟨Bq, 3, none⟩ (.slice x1' l1 d1)).setCell ⟨Bq, 4, none⟩ (.slice x2' l2 d2)).setCell ⟨Bq, 5, none⟩ (.int .i64 xw)) := ⟨_, rfl⟩
            have gg9 : u2.grownBy W9 (some Bq) := by rw [hW9]; exact setL_gr (g := Bq) [.int .i64 xk, .int .i64 xp, .int .i64 xn, .slice x1' l1 d1, .slice x2' l2 d2, .int .i64 xw] u2 0
            have hx9 : ExB u2 Bq 28 := ⟨_, K2.qb⟩
            have HF9 : Hid (FA W9 bs1 ta tn (fun k => As.getD k default)) := (HF.out.keptLt g8 HD.out.nm.1).keptX gg9 hx9
            have HD9 : Hid (DJ W ca cc zs gC B0 Bq bs1 xk xp xn xw x1' x2' l1 l2 d1 d2 xs ys la ln lc Ps W9) := by
              refine ⟨K2.cur.grown gg9 (fun e9 => by have := Option.some.inj e9; have := K2.nm; omega) (fun k hk => by have := Option.some.inj hk; have := K2.nm; omega), K2.r0.grown gg9 (fun e9 => by have := Option.some.inj e9; have := K2.nm; omega), by rw [hW9]; exact setG6J K2.qb, World.ownsRow.kept o1 gg9 (exB_other o1 hx9 (by decide)), World.ownsRow.kept o2 gg9 (exB_other o2 hx9 (by decide)), K2.ps.keptX gg9 hx9, Nat.le_trans K2.sz gg9.size, K2.nm⟩
            have HQ9 : Hid (l1 = xs.length ∧ l2 = ys.length ∧ xs.length ≤ 1000 ∧ ys.length ≤ 1000) := ⟨e1, e2, by have := HQ0.out; omega, by have := HQ0.out; omega⟩
            obtain ⟨⟨i0, i1, i2, i3, i4, i5⟩, ⟨n0, n1, n2, n3, n4, n5⟩⟩ := K2.qb.six2
            clear e1 e2 e3 e4 o1 o2 C8 g8 K2 gg9 hx9 y0 y1 y2 y3 y4 y5 HD HF
            go_upto_region 17 with fail
            rw [← hW9]
            clear hW9 n0 n1 n2 n3 n4 n5 i0 i1 i2 i3 i4 i5
            obtain ⟨⟨y0, y1, y2, y3, y4, y5⟩, _⟩ := HD9.out.qb.six2
            obtain ⟨⟨z0, z1, z2, z3, z4, z5⟩, ⟨f0, f1, f2, f3, f4, f5⟩⟩ := HD9.out.r0.six2
            have HY : Hid (SlI (setL W9 B0 0 (rqc xk xp xn xw x1' x2' l1 l2 d1 d2).toList) x1' xs ∧ SlB (setL W9 B0 0 (rqc xk xp xn xw x1' x2' l1 l2 d1 d2).toList) x2' ys ∧ OwnPs (setL W9 B0 0 (rqc xk xp xn xw x1' x2' l1 l2 d1 d2).toList) bs1 (.slice la ln lc) Ps ∧ SlA (setL W9 B0 0 (rqc xk xp xn xw x1' x2' l1 l2 d1 d2).toList) ta tn (fun k => As.getD k default) ∧ Below w.heap.size w (setL W9 B0 0 (rqc xk xp xn xw x1' x2' l1 l2 d1 d2).toList)) := by
              have gg := setL_gr (g := B0) (rqc xk xp xn xw x1' x2' l1 l2 d1 d2).toList W9 0
              have hB : B0 < bs1 := by have := HD9.out.nm; omega
              exact ⟨(OwnI.sl (row_setL HD9.out.o1 ⟨_, HD9.out.r0⟩ (by decide))).2, (OwnB.sl (row_setL HD9.out.o2 ⟨_, HD9.out.r0⟩ (by decide))).2, HD9.out.ps.keptLt gg hB, (HF9.out.keptLt gg hB).sl, setL_below (by have := HB0.out; omega) _ _ _ (bel_next HB0.out.2 HD9.out.cur.bel)⟩
            go_wp2
            refine bodyPost_ret (v := .tuple #[.agg (rqc xk xp xn xw x1' x2' l1 l2 d1 d2), .slice la ln lc, .slice ta tn tc]) (by simp [results, Try.results16, go_sem, z0, z1, z2, z3, z4, z5]) rfl ?_
            exact ⟨xk, xp, xn, xw, x1', x2', l1, l2, d1, d2, xs, ys, la, ln, lc, Ps, ta, tn, tc, (fun k => As.getD k default), kd, bs1, rfl, HQ9.out.1, HQ9.out.2.1, HY.out.1, HY.out.2.1, HQ9.out.2.2.1, HQ9.out.2.2.2, HPS.out.1, HY.out.2.2.1, HY.out.2.2.2.1, HPS.out.2.1, HM.out.1, HPS.out.2.2, HM.out.2, HY.out.2.2.2.2⟩
          · have dx2 : (x == 2) = false := by simpa using x2
            have HD := hide HU.out.2.1
            clear HU
            obtain ⟨⟨y0, y1, y2, y3, y4, y5⟩, _⟩ := HD.out.qb.six2
            obtain ⟨⟨z0, z1, z2, z3, z4, z5⟩, ⟨f0, f1, f2, f3, f4, f5⟩⟩ := HD.out.r0.six2
            have HY : Hid (SlI (setL u1 B0 0 (rqc kd pl nn wa q1 q2 m1 m2 k1 k2).toList) q1 ws ∧ SlB (setL u1 B0 0 (rqc kd pl nn wa q1 q2 m1 m2 k1 k2).toList) q2 bs ∧ OwnPs (setL u1 B0 0 (rqc kd pl nn wa q1 q2 m1 m2 k1 k2).toList) bs1 (.slice la ln lc) Ps ∧ SlA (setL u1 B0 0 (rqc kd pl nn wa q1 q2 m1 m2 k1 k2).toList) ta tn (fun k => As.getD k default) ∧ Below w.heap.size w (setL u1 B0 0 (rqc kd pl nn wa q1 q2 m1 m2 k1 k2).toList)) := by
              have gg := setL_gr (g := B0) (rqc kd pl nn wa q1 q2 m1 m2 k1 k2).toList u1 0
              have hB : B0 < bs1 := by have := HD.out.nm; omega
              exact ⟨(OwnI.sl (row_setL HD.out.o1 ⟨_, HD.out.r0⟩ (by decide))).2, (OwnB.sl (row_setL HD.out.o2 ⟨_, HD.out.r0⟩ (by decide))).2, HD.out.ps.keptLt gg hB, (HF.out.keptLt gg hB).sl, setL_below (by have := HB0.out; omega) _ _ _ (bel_next HB0.out.2 HD.out.cur.bel)⟩
            go_wp2
            refine bodyPost_ret (v := .tuple #[.agg (rqc kd pl nn wa q1 q2 m1 m2 k1 k2), .slice la ln lc, .slice ta tn tc]) (by simp [results, Try.results16, go_sem, z0, z1, z2, z3, z4, z5]) rfl ?_
            exact ⟨kd, pl, nn, wa, q1, q2, m1, m2, k1, k2, ws, bs, la, ln, lc, Ps, ta, tn, tc, (fun k => As.getD k default), kd, bs1, rfl, HQ.out.1, HQ.out.2.1, HY.out.1, HY.out.2.1, HQ.out.2.2.1, HQ.out.2.2.2, HPS.out.1, HY.out.2.2.1, HY.out.2.2.2.1, HPS.out.2.1, HM.out.1, HPS.out.2.2, HM.out.2, HY.out.2.2.2.2⟩
end Go.Proofs.Ytegckbfbmbiogaa
