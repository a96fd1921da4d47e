/- A line as a value: how the laws' own helpers measure it, copy it and hold it against another. -/
import Derived.Test.YtmhdneenjoelfaaCl2
import Derived.Test.YtmhdneenjoelfaaEl1
namespace Go.Proofs.Ytmhdneenjoelfaa
open Go.RowKit Go.Joins

set_option linter.unusedVariables false

set_option linter.unusedSimpArgs false

/-- A line but for the calls that wait. -/
structure La where
  bz : Bool
  c : Ca
  nu : Int
  du : Int
  le : Int
  nx : Int
  wt : Int
  tr : Int

abbrev lacL (L : La) (a : Option Addr) (n cp : Nat) (a1 a2 : Option Addr) (l1 l2 c1 c2 : Nat) : List Value := [.slice a n cp, .bool L.bz, .int .i64 L.c.id, .int .i64 L.c.pa, .int .i64 L.c.un, .int .i64 L.c.kd, .int .i64 L.c.pl, .int .i64 L.c.n, .slice a1 l1 c1, .slice a2 l2 c2, .int .i64 L.c.wa, .int .i64 L.nu, .int .i64 L.du, .int .i64 L.le, .int .i64 L.nx, .int .i64 L.wt, .int .i64 L.tr]
abbrev lac (L : La) (a : Option Addr) (n cp : Nat) (a1 a2 : Option Addr) (l1 l2 c1 c2 : Nat) : Array Value := #[.slice a n cp, .bool L.bz, .int .i64 L.c.id, .int .i64 L.c.pa, .int .i64 L.c.un, .int .i64 L.c.kd, .int .i64 L.c.pl, .int .i64 L.c.n, .slice a1 l1 c1, .slice a2 l2 c2, .int .i64 L.c.wa, .int .i64 L.nu, .int .i64 L.du, .int .i64 L.le, .int .i64 L.nx, .int .i64 L.wt, .int .i64 L.tr]
abbrev lzc : Array Value := #[.slice none 0 0, .bool false, .int .i64 0, .int .i64 0, .int .i64 0, .int .i64 0, .int .i64 0, .int .i64 0, .slice none 0 0, .slice none 0 0, .int .i64 0, .int .i64 0, .int .i64 0, .int .i64 0, .int .i64 0, .int .i64 0, .int .i64 0]

theorem Blk.svn {w : World} {g : Nat} {t : TypeId} {v0 v1 v2 v3 v4 v5 v6 v7 v8 v9 v10 v11 v12 v13 v14 v15 v16 : Value} (h : Blk w g t #[v0, v1, v2, v3, v4, v5, v6, v7, v8, v9, v10, v11, v12, v13, v14, v15, v16]) : (w.cell? ⟨g, 0, none⟩ = some v0 ∧ w.cell? ⟨g, 1, none⟩ = some v1 ∧ w.cell? ⟨g, 2, none⟩ = some v2 ∧ w.cell? ⟨g, 3, none⟩ = some v3 ∧ w.cell? ⟨g, 4, none⟩ = some v4 ∧ w.cell? ⟨g, 5, none⟩ = some v5 ∧ w.cell? ⟨g, 6, none⟩ = some v6 ∧ w.cell? ⟨g, 7, none⟩ = some v7 ∧ w.cell? ⟨g, 8, none⟩ = some v8 ∧ w.cell? ⟨g, 9, none⟩ = some v9 ∧ w.cell? ⟨g, 10, none⟩ = some v10 ∧ w.cell? ⟨g, 11, none⟩ = some v11 ∧ w.cell? ⟨g, 12, none⟩ = some v12 ∧ w.cell? ⟨g, 13, none⟩ = some v13 ∧ w.cell? ⟨g, 14, none⟩ = some v14 ∧ w.cell? ⟨g, 15, none⟩ = some v15 ∧ w.cell? ⟨g, 16, none⟩ = some v16) ∧ ∀ j, w.frozen? ⟨g, j, none⟩ = false :=
  ⟨⟨h.cell 0 rfl, h.cell 1 rfl, h.cell 2 rfl, h.cell 3 rfl, h.cell 4 rfl, h.cell 5 rfl, h.cell 6 rfl, h.cell 7 rfl, h.cell 8 rfl, h.cell 9 rfl, h.cell 10 rfl, h.cell 11 rfl, h.cell 12 rfl, h.cell 13 rfl, h.cell 14 rfl, h.cell 15 rfl, h.cell 16 rfl⟩, h.fro⟩

theorem lwr0_2 (v0 v1 v2 v3 v4 v5 v6 v7 v8 v9 v10 v11 v12 v13 v14 v15 v16 x0 x1 : Value) : wrA #[v0, v1, v2, v3, v4, v5, v6, v7, v8, v9, v10, v11, v12, v13, v14, v15, v16] 0 [x0, x1] = #[x0, x1, v2, v3, v4, v5, v6, v7, v8, v9, v10, v11, v12, v13, v14, v15, v16] := by simp [wrA]

theorem lwr2_9 (v0 v1 v2 v3 v4 v5 v6 v7 v8 v9 v10 v11 v12 v13 v14 v15 v16 x2 x3 x4 x5 x6 x7 x8 x9 x10 : Value) : wrA #[v0, v1, v2, v3, v4, v5, v6, v7, v8, v9, v10, v11, v12, v13, v14, v15, v16] 2 [x2, x3, x4, x5, x6, x7, x8, x9, x10] = #[v0, v1, x2, x3, x4, x5, x6, x7, x8, x9, x10, v11, v12, v13, v14, v15, v16] := by simp [wrA]

theorem lwr11_6 (v0 v1 v2 v3 v4 v5 v6 v7 v8 v9 v10 v11 v12 v13 v14 v15 v16 x11 x12 x13 x14 x15 x16 : Value) : wrA #[v0, v1, v2, v3, v4, v5, v6, v7, v8, v9, v10, v11, v12, v13, v14, v15, v16] 11 [x11, x12, x13, x14, x15, x16] = #[v0, v1, v2, v3, v4, v5, v6, v7, v8, v9, v10, x11, x12, x13, x14, x15, x16] := by simp [wrA]

theorem lwr0_17 (v0 v1 v2 v3 v4 v5 v6 v7 v8 v9 v10 v11 v12 v13 v14 v15 v16 x0 x1 x2 x3 x4 x5 x6 x7 x8 x9 x10 x11 x12 x13 x14 x15 x16 : Value) : wrA #[v0, v1, v2, v3, v4, v5, v6, v7, v8, v9, v10, v11, v12, v13, v14, v15, v16] 0 [x0, x1, x2, x3, x4, x5, x6, x7, x8, x9, x10, x11, x12, x13, x14, x15, x16] = #[x0, x1, x2, x3, x4, x5, x6, x7, x8, x9, x10, x11, x12, x13, x14, x15, x16] := by simp [wrA]

theorem InE.ob {w : World} {base n j k : Nat} {β : Nat → Nat} {F : Nat → List Value} {f : Nat → Ca} (h : InE w base β F (fun k => caE (f k)) n) (hj : j < n) (ho : Ob (F j) k) : base ≤ k ∧ k < β n ∧ k < w.heap.size := by
  obtain ⟨h0, hm, hP⟩ := h
  obtain ⟨a1, a2, c1, c2, e, o1, o2, k1, k2⟩ := hP j hj
  rw [e] at ho
  have hlo := bt_mono hm (Nat.zero_le j)
  have hhi := bt_mono hm (show j + 1 ≤ n by omega)
  rcases (Ob_els (E := caE (f j)) (by simp [caE, Value.ownBlock]) (by simp [caE, Value.ownBlock])).1 ho with q | q
  · have q1 := World.ownsRow.lt o1 k q
    have q2 := k1 k q
    omega
  · have q1 := World.ownsRow.lt o2 k q
    have q2 := k2 k q
    omega

/-- What a line reads as. -/
def LnR (w : World) (n : Nat) (f : Nat → Ca) (L : La) (a a1 a2 : Option Addr) (l1 l2 : Nat) : Prop := l1 = L.c.ws.length ∧ l2 = L.c.bs.length ∧ SlC w a n f ∧ SlI w a1 L.c.ws ∧ SlB w a2 L.c.bs

/-- A line of the call's own: its rows from the block base on, apart from one another. -/
def LnP (w : World) (base n : Nat) (f : Nat → Ca) (L : La) (a : Option Addr) (cp : Nat) (a1 a2 : Option Addr) (l1 l2 c1 c2 : Nat) : Prop :=
  l1 = L.c.ws.length ∧ l2 = L.c.bs.length ∧ ∃ (F : Nat → List Value) (β : Nat → Nat), OwnO w base 30 9 (.slice a n cp) n F ∧ InE w base β F (fun k => caE (f k)) n ∧ OwnI w base (.slice a1 l1 c1) L.c.ws ∧ OwnB w base (.slice a2 l2 c2) L.c.bs ∧
    (∀ k, (Value.slice a1 l1 c1).ownBlock = some k → ∀ j, j < n → ¬ Ob (F j) k) ∧ (∀ k, (Value.slice a2 l2 c2).ownBlock = some k → ∀ j, j < n → ¬ Ob (F j) k)

section
variable {w w' : World} {base n cp l1 l2 c1 c2 : Nat} {f : Nat → Ca} {L : La} {a a1 a2 : Option Addr}

theorem LnR.below (h : LnR w n f L a a1 a2 l1 l2) (hb : Below w.heap.size w w') : LnR w' n f L a a1 a2 l1 l2 := ⟨h.1, h.2.1, h.2.2.1.below hb, h.2.2.2.1.below hb, h.2.2.2.2.below hb⟩

theorem LnP.below (h : LnP w base n f L a cp a1 a2 l1 l2 c1 c2) (hb : Below w.heap.size w w') : LnP w' base n f L a cp a1 a2 l1 l2 c1 c2 := by
  obtain ⟨h1, h2, F, β, h3, h4, h5, h6, h7⟩ := h
  exact ⟨h1, h2, F, β, h3.below hb, h4.below hb, h5.below hb, h6.below hb, h7⟩

theorem LnP.mono {base' : Nat} (h : LnP w base n f L a cp a1 a2 l1 l2 c1 c2) (hb : base' ≤ base) : LnP w base' n f L a cp a1 a2 l1 l2 c1 c2 := by
  obtain ⟨h1, h2, F, β, h3, h4, h5, h6, h7⟩ := h
  exact ⟨h1, h2, F, β, h3.mono hb, h4.mono hb, h5.mono hb, h6.mono hb, h7⟩

theorem LnP.rd (h : LnP w base n f L a cp a1 a2 l1 l2 c1 c2) : LnR w n f L a a1 a2 l1 l2 := by
  obtain ⟨h1, h2, F, β, h3, h4, h5, h6, h7⟩ := h
  exact ⟨h1, h2, OwnL.sl ⟨F, β, h3, h4⟩, h5.sl.2, h6.sl.2⟩

theorem LnP.keptT {gx : Nat} {t' : TypeId} (h : LnP w base n f L a cp a1 a2 l1 l2 c1 c2) (hg : w.grownBy w' (some gx)) (hx : ExB w gx t') (h0 : t' ≠ 30) (k1 : t' ≠ 3) (k2 : t' ≠ 4) : LnP w' base n f L a cp a1 a2 l1 l2 c1 c2 := by
  obtain ⟨h1, h2, F, β, h3, h4, h5, h6, h7⟩ := h
  have hx' := hx
  obtain ⟨cs, hb⟩ := hx'
  exact ⟨h1, h2, F, β, h3.kept hg (.inr ⟨t', hx, h0⟩), h4.keptT hg hx k1 k2, h5.kept hg (.inr (row_noBlk h5 hb k1)), h6.kept hg (.inr (row_noBlk h6 hb k2)), h7⟩

theorem LnP.keptLt {gx : Nat} (h : LnP w base n f L a cp a1 a2 l1 l2 c1 c2) (hg : w.grownBy w' (some gx)) (hx : gx < base) : LnP w' base n f L a cp a1 a2 l1 l2 c1 c2 := by
  obtain ⟨h1, h2, F, β, h3, h4, h5, h6, h7⟩ := h
  exact ⟨h1, h2, F, β, h3.kept hg (.inl hx), h4.keptLt hg hx, h5.kept hg (.inr (fun e => by have := (World.ownsRow.lt h5 gx e).1; omega)), h6.kept hg (.inr (fun e => by have := (World.ownsRow.lt h6 gx e).1; omega)), h7⟩
end

/-- What is left behind a line. -/
def lfL (n : Nat) (f : Nat → Ca) (l1 l2 : Nat) : Int := if n + tl f n + l1 + l2 ≤ 1048576 then (((1048576 - (n + tl f n + l1 + l2) : Nat)) : Int) else -1

set_option maxRecDepth 20000 in
set_option maxHeartbeats 2000000 in
theorem szLine_any (L : La) (a a1 a2 : Option Addr) (n cp l1 l2 c1 c2 : Nat) (f : Nat → Ca) (w : World) (hs : LnR w n f L a a1 a2 l1 l2) (hn : n ≤ maxLen) (hm : ∀ k, k < n → (f k).ws.length ≤ maxLen ∧ (f k).bs.length ≤ maxLen) (hm1 : l1 ≤ maxLen) (hm2 : l2 ≤ maxLen) :
    Calls Try.prog 12 #[.agg (lac L a n cp a1 a2 l1 l2 c1 c2), .int .i64 1048576] w fun e w' => e = .returned (.int .i64 (lfL n f l1 l2)) ∧ Below w.heap.size w w' := by
  obtain ⟨W, hW⟩ : ∃ W, W = w.alloc (.cells (lac L a n cp a1 a2 l1 l2 c1 c2) 50) := ⟨_, rfl⟩
  have bW : Below w.heap.size w W := by rw [hW]; exact bel_alloc _ _
  have A0 : Blk W w.heap.size 50 (lac L a n cp a1 a2 l1 l2 c1 c2) := by rw [hW]; exact Blk.new _ _ _
  have H0 : Hid (SlC W a n f ∧ Below w.heap.size w W ∧ Blk W w.heap.size 50 (lac L a n cp a1 a2 l1 l2 c1 c2) ∧ n ≤ maxLen ∧ (∀ k, k < n → (f k).ws.length ≤ maxLen ∧ (f k).bs.length ≤ maxLen) ∧ l1 ≤ maxLen ∧ l2 ≤ maxLen) := ⟨hs.2.2.1.below bW, bW, A0, hn, hm, hm1, hm2⟩
  obtain ⟨⟨y0, y1, y2, y3, y4, y5, y6, y7, y8, y9, y10, y11, y12, y13, y14, y15, y16⟩, yf⟩ := A0.svn
  clear hs bW A0 hn hm hm1 hm2 yf
  obtain ⟨x, hx⟩ : ∃ x, x = lfS 1048576 n f := ⟨_, rfl⟩
  have HX : Hid (x = lfS 1048576 n f) := hx
  by_cases hf : n + tl f n ≤ 1048576
  · obtain ⟨lf, hlf⟩ : ∃ lf : Nat, lf = 1048576 - n - tl f n := ⟨_, rfl⟩
    have HL : Hid ((lf : Int) = lfS 1048576 n f ∧ lf ≤ 1048576 ∧ lfL n f l1 l2 = lfC lf l1 l2) := by
      refine ⟨?_, by omega, ?_⟩
      · unfold lfS; rw [if_pos hf]; omega
      · unfold lfL lfC
        by_cases h9 : l1 + l2 ≤ lf
        · rw [if_pos (by omega), if_pos h9]; omega
        · rw [if_neg (by omega), if_neg h9]
    have hx0 : ¬ (lf : Int) < 0 := by omega
    obtain ⟨y, hy⟩ : ∃ y, y = lfC lf l1 l2 := ⟨_, rfl⟩
    have HY : Hid (y = lfC lf l1 l2 ∧ (y < 0 → y = -1)) := ⟨hy, by intro h; rw [hy] at h ⊢; unfold lfC at h ⊢; by_cases e : l1 + l2 ≤ lf <;> simp [e] at h ⊢; omega⟩
    clear hx hf hlf hy x HX
    rw [HL.out.2.2, ← HY.out.1]
    by_cases hlt : y < 0
    · obtain rfl := HY.out.2 hlt
      go_enter Try.func12, Try.ntmps12
      go_upto_region 1 with fail
      rw [← hW]
      clear hW
      go_wp2_with fail
      refine (szCallS_any a n cp 1048576 f _ H0.out.1 H0.out.2.2.2.1 H0.out.2.2.2.2.1 (Nat.le_refl _)).mono ?_
      rintro e w1 ⟨rfl, b1⟩
      rw [← HL.out.1]
      have HB : Hid (Below w.heap.size w w1) := bel_nx H0.out.2.1 b1
      have A1 := H0.out.2.2.1.below b1
      clear b1 y0 y1 y2 y3 y4 y5 y6 y7 y8 y9 y10 y11 y12 y13 y14 y15 y16
      obtain ⟨⟨y0, y1, y2, y3, y4, y5, y6, y7, y8, y9, y10, y11, y12, y13, y14, y15, y16⟩, yf⟩ := A1.svn
      clear A1 yf
      go_wp2_with fail
      refine (szCall_any L.c a1 a2 l1 l2 c1 c2 lf _ H0.out.2.2.2.2.2.1 H0.out.2.2.2.2.2.2 HL.out.2.1).mono ?_
      rintro e w2 ⟨rfl, b2⟩
      rw [← HY.out.1]
      have HB2 : Hid (Below w.heap.size w w2) := bel_nx HB.out b2
      clear b2 y0 y1 y2 y3 y4 y5 y6 y7 y8 y9 y10 y11 y12 y13 y14 y15 y16
      go_wp2
      go_ret
      exact ⟨rfl, HB2.out⟩
    · go_enter Try.func12, Try.ntmps12
      go_upto_region 1 with fail
      rw [← hW]
      clear hW
      go_wp2_with fail
      refine (szCallS_any a n cp 1048576 f _ H0.out.1 H0.out.2.2.2.1 H0.out.2.2.2.2.1 (Nat.le_refl _)).mono ?_
      rintro e w1 ⟨rfl, b1⟩
      rw [← HL.out.1]
      have HB : Hid (Below w.heap.size w w1) := bel_nx H0.out.2.1 b1
      have A1 := H0.out.2.2.1.below b1
      clear b1 y0 y1 y2 y3 y4 y5 y6 y7 y8 y9 y10 y11 y12 y13 y14 y15 y16
      obtain ⟨⟨y0, y1, y2, y3, y4, y5, y6, y7, y8, y9, y10, y11, y12, y13, y14, y15, y16⟩, yf⟩ := A1.svn
      clear A1 yf
      go_wp2_with fail
      refine (szCall_any L.c a1 a2 l1 l2 c1 c2 lf _ H0.out.2.2.2.2.2.1 H0.out.2.2.2.2.2.2 HL.out.2.1).mono ?_
      rintro e w2 ⟨rfl, b2⟩
      rw [← HY.out.1]
      have HB2 : Hid (Below w.heap.size w w2) := bel_nx HB.out b2
      clear b2 y0 y1 y2 y3 y4 y5 y6 y7 y8 y9 y10 y11 y12 y13 y14 y15 y16
      go_wp2
      go_ret
      exact ⟨rfl, HB2.out⟩
  · have hx1 : x = -1 := by rw [hx]; unfold lfS; rw [if_neg hf]
    have HE : Hid (lfL n f l1 l2 = -1) := by show lfL n f l1 l2 = -1; unfold lfL; rw [if_neg (by omega)]
    subst hx1
    clear hx hf
    rw [HE.out]
    go_enter Try.func12, Try.ntmps12
    go_upto_region 1 with fail
    rw [← hW]
    clear hW
    go_wp2_with fail
    refine (szCallS_any a n cp 1048576 f _ H0.out.1 H0.out.2.2.2.1 H0.out.2.2.2.2.1 (Nat.le_refl _)).mono ?_
    rintro e w1 ⟨rfl, b1⟩
    rw [← HX.out]
    have HB : Hid (Below w.heap.size w w1) := bel_nx H0.out.2.1 b1
    clear b1 y0 y1 y2 y3 y4 y5 y6 y7 y8 y9 y10 y11 y12 y13 y14 y15 y16
    go_wp2
    go_ret
    exact ⟨rfl, HB.out⟩

set_option maxRecDepth 20000 in
set_option maxHeartbeats 4000000 in
theorem eqLine_true (L : La) (a a1 a2 a' a1' a2' : Option Addr) (n cp l1 l2 c1 c2 cp' l1' l2' c1' c2' : Nat) (f : Nat → Ca) (w : World) (hs : LnR w n f L a a1 a2 l1 l2) (hs' : LnR w n f L a' a1' a2' l1' l2') (hb : BdC n f) (hl1 : l1 ≤ 2000000) (hl2 : l2 ≤ 2000000) :
    Calls Try.prog 16 #[.agg (lac L a n cp a1 a2 l1 l2 c1 c2), .agg (lac L a' n cp' a1' a2' l1' l2' c1' c2')] w fun e w' => e = .returned (.bool true) ∧ Below w.heap.size w w' := by
  obtain rfl : l1' = l1 := by rw [hs.1, hs'.1]
  obtain rfl : l2' = l2 := by rw [hs.2.1, hs'.2.1]
  obtain ⟨W, hW⟩ : ∃ W, W = (w.alloc (.cells (lac L a n cp a1 a2 l1' l2' c1 c2) 32)).alloc (.cells (lac L a' n cp' a1' a2' l1' l2' c1' c2') 32) := ⟨_, rfl⟩
  have bW : Below w.heap.size w W := by rw [hW]; exact bel_nx (bel_alloc w _) (bel_alloc _ _)
  have A0 : Blk W w.heap.size 32 (lac L a n cp a1 a2 l1' l2' c1 c2) := by rw [hW]; exact (Blk.new w _ _).below (bel_alloc _ _)
  have R0 : Blk W (w.heap.size + 1) 32 (lac L a' n cp' a1' a2' l1' l2' c1' c2') := by
    rw [hW]; have := Blk.new (w.alloc (.cells (lac L a n cp a1 a2 l1' l2' c1 c2) 32)) (lac L a' n cp' a1' a2' l1' l2' c1' c2') 32; simpa using this
  have H0 : Hid (LnR W n f L a a1 a2 l1' l2' ∧ LnR W n f L a' a1' a2' l1' l2' ∧ Below w.heap.size w W ∧ Blk W w.heap.size 32 (lac L a n cp a1 a2 l1' l2' c1 c2) ∧ Blk W (w.heap.size + 1) 32 (lac L a' n cp' a1' a2' l1' l2' c1' c2') ∧ BdC n f) := ⟨hs.below bW, hs'.below bW, bW, A0, R0, hb⟩
  obtain ⟨⟨y0, y1, y2, y3, y4, y5, y6, y7, y8, y9, y10, y11, y12, y13, y14, y15, y16⟩, yf⟩ := A0.svn
  obtain ⟨⟨z0, z1, z2, z3, z4, z5, z6, z7, z8, z9, z10, z11, z12, z13, z14, z15, z16⟩, zf⟩ := R0.svn
  clear hs hs' bW A0 R0 hb yf zf
  go_enter Try.func16, Try.ntmps16
  go_upto_region 1 with fail
  rw [← hW]
  clear hW
  go_wp2_with fail
  refine (eqCallS_true a a' n cp cp' f _ H0.out.1.2.2.1 H0.out.2.1.2.2.1 H0.out.2.2.2.2.2).mono ?_
  rintro e w1 ⟨rfl, b1⟩
  have H1 : Hid (LnR w1 n f L a a1 a2 l1' l2' ∧ LnR w1 n f L a' a1' a2' l1' l2' ∧ Below w.heap.size w w1 ∧ Blk w1 w.heap.size 32 (lac L a n cp a1 a2 l1' l2' c1 c2) ∧ Blk w1 (w.heap.size + 1) 32 (lac L a' n cp' a1' a2' l1' l2' c1' c2')) := ⟨H0.out.1.below b1, H0.out.2.1.below b1, bel_nx H0.out.2.2.1 b1, H0.out.2.2.2.1.below b1, H0.out.2.2.2.2.1.below b1⟩
  clear b1 y0 y1 y2 y3 y4 y5 y6 y7 y8 y9 y10 y11 y12 y13 y14 y15 y16 z0 z1 z2 z3 z4 z5 z6 z7 z8 z9 z10 z11 z12 z13 z14 z15 z16 H0
  obtain ⟨⟨y0, y1, y2, y3, y4, y5, y6, y7, y8, y9, y10, y11, y12, y13, y14, y15, y16⟩, yf⟩ := H1.out.2.2.2.1.svn
  obtain ⟨⟨z0, z1, z2, z3, z4, z5, z6, z7, z8, z9, z10, z11, z12, z13, z14, z15, z16⟩, zf⟩ := H1.out.2.2.2.2.svn
  clear yf zf
  go_wp2_with fail
  refine (eqCall_true L.c a1 a2 a1' a2' l1' l2' c1 c2 c1' c2' _ H1.out.1.1 H1.out.1.2.1 H1.out.1.2.2.2.1 H1.out.1.2.2.2.2 H1.out.2.1.2.2.2.1 H1.out.2.1.2.2.2.2 (by rw [← H1.out.1.1]; exact hl1) (by rw [← H1.out.1.2.1]; exact hl2)).mono ?_
  rintro e w2 ⟨rfl, b2⟩
  have H2 : Hid (Below w.heap.size w w2 ∧ Blk w2 w.heap.size 32 (lac L a n cp a1 a2 l1' l2' c1 c2) ∧ Blk w2 (w.heap.size + 1) 32 (lac L a' n cp' a1' a2' l1' l2' c1' c2')) := ⟨bel_nx H1.out.2.2.1 b2, H1.out.2.2.2.1.below b2, H1.out.2.2.2.2.below b2⟩
  clear b2 y0 y1 y2 y3 y4 y5 y6 y7 y8 y9 y10 y11 y12 y13 y14 y15 y16 z0 z1 z2 z3 z4 z5 z6 z7 z8 z9 z10 z11 z12 z13 z14 z15 z16 H1
  obtain ⟨⟨y0, y1, y2, y3, y4, y5, y6, y7, y8, y9, y10, y11, y12, y13, y14, y15, y16⟩, yf⟩ := H2.out.2.1.svn
  obtain ⟨⟨z0, z1, z2, z3, z4, z5, z6, z7, z8, z9, z10, z11, z12, z13, z14, z15, z16⟩, zf⟩ := H2.out.2.2.svn
  clear yf zf
  go_wp2
  go_ret
  exact ⟨rfl, H2.out.1⟩

end Go.Proofs.Ytmhdneenjoelfaa
