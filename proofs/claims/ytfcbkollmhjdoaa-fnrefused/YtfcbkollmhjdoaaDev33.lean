/- Draws of devices, bent or not. -/
import Derived.Test.YtfcbkollmhjdoaaDev32
import Derived.Lib.AppendZeros
import Derived.WideMake
namespace Go.Proofs.Ytfcbkollmhjdoaa
open Go.RowKit

set_option linter.unusedVariables false

set_option linter.unusedSimpArgs false

/-- Four rows of the call's own. -/
structure RowD (u : World) (B : Nat) (a1 a2 a3 a4 : Option Addr) (l1 l2 l3 l4 c1 c2 c3 c4 : Nat) (cs is : List Bool) (hs rs : List Int) : Prop where
  r1 : OwnB u B (.slice a1 l1 c1) cs
  r2 : OwnB u B (.slice a2 l2 c2) is
  r3 : OwnI u B (.slice a3 l3 c3) hs
  r4 : OwnI u B (.slice a4 l4 c4) rs

theorem OwnD.row {u : World} {B : Nat} {a1 a2 a3 a4 : Option Addr} {l1 l2 l3 l4 c1 c2 c3 c4 : Nat} {cs is : List Bool} {hs rs : List Int} (h : OwnD u B a1 a2 a3 a4 l1 l2 l3 l4 c1 c2 c3 c4 cs is hs rs) : RowD u B a1 a2 a3 a4 l1 l2 l3 l4 c1 c2 c3 c4 cs is hs rs := ⟨h.1, h.2.1, h.2.2.1, h.2.2.2.1⟩

theorem RowD.sl {u : World} {B : Nat} {a1 a2 a3 a4 : Option Addr} {l1 l2 l3 l4 c1 c2 c3 c4 : Nat} {cs is : List Bool} {hs rs : List Int} (h : RowD u B a1 a2 a3 a4 l1 l2 l3 l4 c1 c2 c3 c4 cs is hs rs) : LnD l1 l2 l3 l4 cs is hs rs ∧ SlD u a1 a2 a3 a4 cs is hs rs :=
  ⟨⟨h.r1.sl.1, h.r2.sl.1, h.r3.sl.1, h.r4.sl.1⟩, h.r1.sl.2, h.r2.sl.2, h.r3.sl.2, h.r4.sl.2⟩

theorem RowD.below {u t : World} {B : Nat} {a1 a2 a3 a4 : Option Addr} {l1 l2 l3 l4 c1 c2 c3 c4 : Nat} {cs is : List Bool} {hs rs : List Int} (h : RowD u B a1 a2 a3 a4 l1 l2 l3 l4 c1 c2 c3 c4 cs is hs rs) (b : Below u.heap.size u t) : RowD t B a1 a2 a3 a4 l1 l2 l3 l4 c1 c2 c3 c4 cs is hs rs :=
  ⟨h.r1.below b, h.r2.below b, h.r3.below b, h.r4.below b⟩

theorem RowD.keptG {u t : World} {B g : Nat} {a1 a2 a3 a4 : Option Addr} {l1 l2 l3 l4 c1 c2 c3 c4 : Nat} {cs is : List Bool} {hs rs : List Int} (h : RowD u B a1 a2 a3 a4 l1 l2 l3 l4 c1 c2 c3 c4 cs is hs rs) (gr : u.grownBy t (some g)) (hg : g < B) : RowD t B a1 a2 a3 a4 l1 l2 l3 l4 c1 c2 c3 c4 cs is hs rs :=
  ⟨World.ownsRow.kept h.r1 gr (row_ne_g h.r1 hg), World.ownsRow.kept h.r2 gr (row_ne_g h.r2 hg), World.ownsRow.kept h.r3 gr (row_ne_g h.r3 hg), World.ownsRow.kept h.r4 gr (row_ne_g h.r4 hg)⟩

theorem RowD.mono {u : World} {B B' : Nat} {a1 a2 a3 a4 : Option Addr} {l1 l2 l3 l4 c1 c2 c3 c4 : Nat} {cs is : List Bool} {hs rs : List Int} (h : RowD u B a1 a2 a3 a4 l1 l2 l3 l4 c1 c2 c3 c4 cs is hs rs) (hb : B' ≤ B) : RowD u B' a1 a2 a3 a4 l1 l2 l3 l4 c1 c2 c3 c4 cs is hs rs :=
  ⟨h.r1.mono hb, h.r2.mono hb, h.r3.mono hb, h.r4.mono hb⟩

theorem RowD.set4 {w : World} {B g : Nat} {t : TypeId} {v0 v1 v2 v3 : Value} {a1 a2 a3 a4 : Option Addr} {l1 l2 l3 l4 c1 c2 c3 c4 : Nat} {cs is : List Bool} {hs rs : List Int} (h : RowD w B a1 a2 a3 a4 l1 l2 l3 l4 c1 c2 c3 c4 cs is hs rs) (hb : ExB w g t) (h1 : t ≠ 4) (h2 : t ≠ 3) :
    RowD ((((w.setCell ⟨g, 0, none⟩ v0).setCell ⟨g, 1, none⟩ v1).setCell ⟨g, 2, none⟩ v2).setCell ⟨g, 3, none⟩ v3) B a1 a2 a3 a4 l1 l2 l3 l4 c1 c2 c3 c4 cs is hs rs :=
  ⟨row_set4 h.r1 hb h1, row_set4 h.r2 hb h1, row_set4 h.r3 hb h2, row_set4 h.r4 hb h2⟩

/-- What drawing a device ends with: its rows lie from base on. -/
def DevAt (w0 : World) (a : Option Addr) (cap : Nat) (zs : List Int) (w : World) (g : Nat) (e : Ending) (w' : World) : Prop :=
  ∃ (a1 a2 a3 a4 : Option Addr) (l1 l2 l3 l4 c1 c2 c3 c4 : Nat) (cs is : List Bool) (hs rs : List Int), e = .returned (dv a1 a2 a3 a4 l1 l2 l3 l4 c1 c2 c3 c4) ∧ SmD 100 cs is hs rs ∧ RowD w' w.heap.size a1 a2 a3 a4 l1 l2 l3 l4 c1 c2 c3 c4 cs is hs rs ∧ Cur w0 a cap zs w' g ∧ w.grownBy w' (some g)

theorem step_appI {w : World} {ops : Array Oper} {o : Oper} {a : Act} {K : Act → World → Prop} {Q : Exit → Act → World → Prop} {E : Prop} (hgd : o.guard = none) (s x : Operand)
    (ho : o.op = .call { callee := .builtin .append, args := #[s, x], argTypes := #[24, 24] }) (base : Nat) (v : Value) (zs : List Int) (hs : a.eval s = v) (hown : OwnI w base v zs)
    (ad : Addr) (m c : Nat) (ys : List Int) (hx : a.eval x = .slice (some ad) m c) (hm : m = ys.length) (hsl : SlI w (some ad) ys) (hlen : zs.length + ys.length ≤ 4000000) (hbase : base ≤ w.heap.size)
    (h : ∀ v' w', OwnI w' base v' (zs ++ ys) → w.grownBy w' v.ownBlock → K (a.put o.dst v') w') : if Region.wanted o (yielded ops a.tmps) = true then Oper.wp Try.prog o a w K Q else E := by
  obtain ⟨i0, hi, hz0, hz1, hz2⟩ := info_parts Try.infoQ3
  subst hm
  refine step_append_own hgd s x 24 ho base 3 i0 (.int .i64 0) 1 8 Try.underlying24 hi hz0 hz1 hz2 rfl (by decide) v zs.length (zs.map (Value.int .i64)) hs hown ad ys.length c (ys.map (Value.int .i64)) hx (by simp) hsl.cellsAt (ints_oneCell _ _) (by unfold maxLen; omega) (by omega) hbase ?_
  intro v' w' h1 h2
  exact h v' w' (by simpa [OwnI] using h1) h2

/-- What is known of a device that is being bent. -/
structure LE (w0 : World) (a : Option Addr) (cap : Nat) (zs : List Int) (w : World) (g V : Nat) (u : World) (a1 a2 a3 a4 : Option Addr) (l1 l2 l3 l4 c1 c2 c3 c4 : Nat) (cs is : List Bool) (hs rs : List Int) : Prop where
  own : RowD u w.heap.size a1 a2 a3 a4 l1 l2 l3 l4 c1 c2 c3 c4 cs is hs rs
  cur : Cur w0 a cap zs u g
  gr : w.grownBy u (some g)
  blk : Blk u V 36 #[.slice a1 l1 c1, .slice a2 l2 c2, .slice a3 l3 c3, .slice a4 l4 c4]
  res : Blk u w.heap.size 36 #[.slice none 0 0, .slice none 0 0, .slice none 0 0, .slice none 0 0]
  bd : g < w.heap.size ∧ w0.heap.size ≤ g ∧ w.heap.size < V

theorem LE.below {w0 : World} {a : Option Addr} {cap : Nat} {zs : List Int} {w : World} {g V : Nat} {u : World} {a1 a2 a3 a4 : Option Addr} {l1 l2 l3 l4 c1 c2 c3 c4 : Nat} {cs is : List Bool} {hs rs : List Int} {t : World} (h : LE w0 a cap zs w g V u a1 a2 a3 a4 l1 l2 l3 l4 c1 c2 c3 c4 cs is hs rs) (b : Below u.heap.size u t) : LE w0 a cap zs w g V t a1 a2 a3 a4 l1 l2 l3 l4 c1 c2 c3 c4 cs is hs rs :=
  ⟨h.own.below b, h.cur.grown (grown_below b none) (by simp) (by simp), grown_trans h.gr (grown_below b (some g)), h.blk.below b, h.res.below b, h.bd⟩

theorem LE.call {w0 : World} {a : Option Addr} {cap : Nat} {zs : List Int} {w : World} {g V : Nat} {u : World} {a1 a2 a3 a4 : Option Addr} {l1 l2 l3 l4 c1 c2 c3 c4 : Nat} {cs is : List Bool} {hs rs : List Int} {t : World} (h : LE w0 a cap zs w g V u a1 a2 a3 a4 l1 l2 l3 l4 c1 c2 c3 c4 cs is hs rs) (hC : Cur w0 a cap zs t g) (hg : u.grownBy t (some g)) : LE w0 a cap zs w g V t a1 a2 a3 a4 l1 l2 l3 l4 c1 c2 c3 c4 cs is hs rs :=
  ⟨h.own.keptG hg h.bd.1, hC, grown_trans h.gr hg, h.blk.grown hg (by have := h.bd; simp; omega), h.res.grown hg (by have := h.bd; simp; omega), h.bd⟩

/-- Behind an append onto the words, and the store of it. -/
theorem LE.app {w0 : World} {a : Option Addr} {cap : Nat} {zs : List Int} {w : World} {g V : Nat} {u : World} {a1 a2 a3 a4 : Option Addr} {l1 l2 l3 l4 c1 c2 c3 c4 : Nat} {cs is : List Bool} {hs rs : List Int} {t : World} {a' : Option Addr} {l' c' : Nat} {hs' : List Int} (h : LE w0 a cap zs w g V u a1 a2 a3 a4 l1 l2 l3 l4 c1 c2 c3 c4 cs is hs rs) (d34 : Df (.slice a3 l3 c3) (.slice a4 l4 c4)) (o' : OwnI t w.heap.size (.slice a' l' c') hs') (gg : u.grownBy t (Value.slice a3 l3 c3).ownBlock) :
    LE w0 a cap zs w g V (t.setCell ⟨V, 2, none⟩ (.slice a' l' c')) a1 a2 a' a4 l1 l2 l' l4 c1 c2 c' c4 cs is hs' rs := by
  have hB := h.blk.row h.own.r3 gg (by decide)
  have hR := h.res.row h.own.r3 gg (by decide)
  refine ⟨⟨row_setE (World.ownsRow.kept h.own.r1 gg (ne_types h.own.r1 h.own.r3 (by decide))) ⟨_, hB⟩ (by decide), row_setE (World.ownsRow.kept h.own.r2 gg (ne_types h.own.r2 h.own.r3 (by decide))) ⟨_, hB⟩ (by decide), row_setE o' ⟨_, hB⟩ (by decide), row_setE (World.ownsRow.kept h.own.r4 gg d34.symm.ne) ⟨_, hB⟩ (by decide)⟩, ?_, ?_, hB.set 2 _, hR.setNe (by have := h.bd; omega), h.bd⟩
  · exact (h.cur.rowG h.own.r3 gg h.bd.1).setHi (by have := h.bd; omega) (by have := h.bd; omega)
  · exact grown_setHi (grown_rowG h.gr h.own.r3 gg) (by have := h.bd; omega)

/-- Behind other coils. -/
theorem LE.coils {w0 : World} {a : Option Addr} {cap : Nat} {zs : List Int} {w : World} {g V : Nat} {u : World} {a1 a2 a3 a4 : Option Addr} {l1 l2 l3 l4 c1 c2 c3 c4 : Nat} {cs is : List Bool} {hs rs : List Int} {a' : Option Addr} {l' c' : Nat} {cs' : List Bool} (h : LE w0 a cap zs w g V u a1 a2 a3 a4 l1 l2 l3 l4 c1 c2 c3 c4 cs is hs rs) (o' : OwnB u w.heap.size (.slice a' l' c') cs') :
    LE w0 a cap zs w g V (u.setCell ⟨V, 0, none⟩ (.slice a' l' c')) a' a2 a3 a4 l' l2 l3 l4 c' c2 c3 c4 cs' is hs rs :=
  ⟨⟨row_setE o' ⟨_, h.blk⟩ (by decide), row_setE h.own.r2 ⟨_, h.blk⟩ (by decide), row_setE h.own.r3 ⟨_, h.blk⟩ (by decide), row_setE h.own.r4 ⟨_, h.blk⟩ (by decide)⟩, h.cur.setHi (by have := h.bd; omega) (by have := h.bd; omega), grown_setHi h.gr (by have := h.bd; omega), h.blk.set 0 _, h.res.setNe (by have := h.bd; omega), h.bd⟩

set_option maxRecDepth 20000 in
set_option maxHeartbeats 1000000 in
theorem l5DrawAny_any (w0 : World) (a : Option Addr) (cap : Nat) (zs : List Int) (w : World) (g : Nat) (hC : Cur w0 a cap zs w g) :
    Calls Try.prog 63 #[.pointer (some ⟨g, 0, none⟩)] w fun e w' => DevAt w0 a cap zs w g e w' := by
  obtain ⟨W0, hW0⟩ : ∃ W0, W0 = w.alloc (.cells #[.slice none 0 0, .slice none 0 0, .slice none 0 0, .slice none 0 0] 36) := ⟨_, rfl⟩
  have HW : Hid (W0 = _) := hW0
  have hg := hC.hi
  have hlo := hC.lo
  have C0 : Cur w0 a cap zs W0 g := by rw [hW0]; exact hC.alloc _
  have G0 : w.grownBy W0 (some g) := by rw [hW0]; exact World.grownBy_alloc _ _ _
  have R0 : Blk W0 w.heap.size 36 #[.slice none 0 0, .slice none 0 0, .slice none 0 0, .slice none 0 0] := by rw [hW0]; exact Blk.new _ _ _
  have HGR : Hid (g < w.heap.size ∧ w0.heap.size ≤ g) := ⟨hg, hlo⟩
  clear hC hW0 hlo
  go_enter Try.func63, Try.ntmps63
  go_wp2_with fail
  rw [← HW.out]
  refine (l5Draw_any w0 a cap zs _ g C0).mono ?_
  rintro e u1 ⟨a1, a2, a3, a4, m, c1, c2, c3, c4, cs, is, hs, rs, rfl, hm, D1, hr1, hr2, C1, g1⟩
  have G1 := grown_trans G0 g1
  have R1 := R0.grown g1 (by simp; omega)
  have D1 := D1.mono G0.size
  clear C0 G0 R0 g1 hr1 hr2
  have X2 := Blk.new u1 #[.slice a1 m c1, .slice a2 m c2, .slice a3 m c3, .slice a4 m c4] 36
  have b' := bel_alloc u1 (.cells #[.slice a1 m c1, .slice a2 m c2, .slice a3 m c3, .slice a4 m c4] 36)
  have D2 := D1.below b'
  have C2 := C1.alloc (.cells #[.slice a1 m c1, .slice a2 m c2, .slice a3 m c3, .slice a4 m c4] 36)
  have G2 := grown_trans G1 (grown_below b' (some g))
  have R2 := R1.below b'
  have hV : w.heap.size < u1.heap.size := R1.lt
  clear C1 G1 R1 D1 b'
  go_wp2_with fail
  refine (l1Below_any w0 a cap zs _ g _ (by decide) C2).mono ?_
  rintro e u3 ⟨x, rfl, hx, C3, gg⟩
  have G3 := grown_trans G2 gg
  have R3 := R2.grown gg (by have := HGR.out; simp; omega)
  have X3 := X2.grown gg (by have := HGR.out; simp; omega)
  have D3 := D2.keptG gg HGR.out.1
  clear C2 G2 R2 X2 D2 gg
  obtain ⟨V, hVe⟩ : ∃ V, V = u1.heap.size := ⟨_, rfl⟩
  rw [← hVe] at X3 hV
  have HV : Hid (V = u1.heap.size) := hVe
  have L3 : LE w0 a cap zs w g V u3 a1 a2 a3 a4 m m m m c1 c2 c3 c4 cs is hs rs := ⟨D3.row, C3, G3, X3, R3, ⟨HGR.out.1, HGR.out.2, hV⟩⟩
  have HDf : Hid (Df (.slice a3 m c3) (.slice a4 m c4)) := D3.2.2.2.2.2
  have hl := D3.sl.1
  have HLn : Hid (LnD m m m m cs is hs rs) := hl
  clear hVe C3 G3 R3 X3 D3 hl
  by_cases e0 : x = 0
  · subst e0
    go_upto_region 4 with fail
    simp only [← HV.out]
    obtain ⟨z, hz⟩ : ∃ z, z = u3.drew := ⟨_, rfl⟩
    have LZ0 : LE w0 a cap zs w g V z a1 a2 a3 a4 m m m m c1 c2 c3 c4 cs is hs rs := by rw [hz]; exact L3.below (Below.refl _ _).drew
    have x2 := LZ0.blk.cell 2 rfl
    have LA := LZ0.below (bel_alloc z (.cells ([65536, -1, 7].map (Value.int .i64)).toArray 3))
    have z2 : (z.alloc (.cells #[.int .i64 65536, .int .i64 (-1), .int .i64 7] 3)).cell? ⟨V, 2, none⟩ = some (.slice a3 m c3) := LA.blk.cell 2 rfl
    have hne : z.heap.size ≠ g := by have := LZ0.cur.hi; omega
    have HZ : Hid (z = u3.drew) := hz
    clear LZ0 L3 hz
    refine wp_region_any (by kernel_rfl) ?_
    (try (change wpAny _ _ _ _ _ _ _ (World.drew _)))
    rw [← HZ.out]
    refine wpAny_take (i := 0) (v := ?v0) rfl (by kernel_rfl) (by kernel_rfl) (by kernel_rfl) (fun _ _ _ h => h) (Or.inl ⟨by rfl, ?h0⟩) ?_
    case h0 => intro w; go_simp; try (with_reducible rfl)
    refine wpAny_take (i := 2) (v := ?v2) rfl (by kernel_rfl) (by kernel_rfl) (by kernel_rfl) (fun _ _ _ h => h) (Or.inl ⟨by rfl, ?h2⟩) ?_
    case h2 => intro w; go_simp; try (with_reducible rfl)
    refine wpAny_ready (rs := [1, 3]) (by kernel_rfl) (by simp) ?_
    refine AllReady.cons rfl (fun K hK => ?_) ?_
    · skip
      go_simp
      refine hK _ _ ?_
      clear hK K
      refine wpAny_ready (rs := [3]) (by kernel_rfl) (by simp) ?_
      refine AllReady.cons rfl (fun K hK => ?_) AllReady.nil
      go_simp
      refine hK _ _ ?_
      clear hK K
      refine wpAny_ready (rs := [4]) (by kernel_rfl) (by simp) ?_
      refine AllReady.cons rfl (fun K hK => ?_) AllReady.nil
      go_simp
      go_wp2_with (go_at_call 64; refine (l1Int_any w0 a cap zs _ g ⟨z.heap.size, 0, none⟩ 3 3 [65536, -1, 7] rfl (by omega) (by omega) (ints_lit z [65536, -1, 7] 3) hne LA.cur).mono ?_; rintro e t5 ⟨y, rfl, _, C5, gg⟩; have L5 := LA.call C5 gg; have x2 := L5.blk.cell 2 rfl; have LB := L5.below (bel_alloc t5 (.cells #[.int .i64 y] 3)); have y2 := LB.blk.cell 2 rfl; have hbz := LB.gr.size; clear C5 gg)
      try (refine hK _ _ ?_; clear hK K)
      refine wpAny_ready (rs := [5]) (by kernel_rfl) (by simp) ?_
      refine AllReady.cons rfl (fun K hK => ?_) AllReady.nil
      go_simp
      refine hK _ _ ?_
      clear hK K
      refine wpAny_ready (rs := [6]) (by kernel_rfl) (by simp) ?_
      refine AllReady.cons rfl (fun K hK => ?_) AllReady.nil
      refine step_appI rfl (.tmp 11) (.tmp 15) rfl w.heap.size (.slice a3 m c3) hs rfl LB.own.r3 ⟨t5.heap.size, 0, none⟩ 1 1 [y] rfl rfl (lit_slI1' _ _ rfl) (by have := HLn.out.2.2.1; simp; omega) hbz ?_; intro v' t7 o7 g7; obtain ⟨n1, n2, n3, rfl, hn3⟩ := ownI_shape o7; have HN3 : Hid (n3 = (hs ++ [y]).length) := hn3; have LZ := LB.app HDf.out o7 g7; have qB := LB.blk.row LB.own.r3 g7 (by decide); have qc := qB.cell 2 rfl; have qf := qB.fro 2; clear hn3 o7 g7 qB LA L5 LB
      refine hK _ _ ?_
      clear hK K
      refine wpAny_ready (rs := [7]) (by kernel_rfl) (by simp) ?_
      refine AllReady.cons rfl (fun K hK => ?_) AllReady.nil
      go_simp
      refine hK _ _ ?_
      clear hK K
      refine wpAny_ready (rs := [8]) (by kernel_rfl) (by simp) ?_
      refine AllReady.cons rfl (fun K hK => ?_) AllReady.nil
      go_simp
      refine hK _ _ ?_
      clear hK K
      refine wpAny_done (by kernel_rfl) ?_ _
      (first | skip)
      obtain ⟨x0, x1, x2, x3⟩ := LZ.blk.four
      obtain ⟨y0, y1, y2, y3⟩ := LZ.res.four
      have fy := LZ.res.fro
      have HH : Hid (LE w0 a cap zs w g V _ _ _ _ _ _ _ _ _ _ _ _ _ _ _ _ _) := LZ
      clear LZ
      go_wp2
      refine bodyPost_ret (v := dv a1 a2 n1 a4 m m n3 m c1 c2 n2 c4) (by simp [results, Try.results63, go_sem, y0, y1, y2, y3]) rfl ?_
      have L := HH.out
      have hgR : g ≠ w.heap.size := by have := L.bd; omega
      have hwR : w0.heap.size ≤ w.heap.size := by have := L.bd; omega
      exact ⟨_, _, _, _, _, _, _, _, _, _, _, _, _, _, _, _, rfl, by have h := HLn.out; refine ⟨?_, ?_, ?_, ?_⟩ <;> first | (have := h.1; omega) | (have := h.2.1; omega) | (have := HN3.out; have := h.2.2.1; simp; omega) | (have := h.2.2.2; omega), L.own.set4 ⟨_, L.res⟩ (by decide) (by decide), (((L.cur.setHi hgR hwR).setHi hgR hwR).setHi hgR hwR).setHi hgR hwR, grown_setHi (grown_setHi (grown_setHi (grown_setHi L.gr (Nat.le_refl _)) (Nat.le_refl _)) (Nat.le_refl _)) (Nat.le_refl _)⟩
    refine AllReady.cons rfl (fun K hK => ?_) AllReady.nil
    go_simp
    refine hK _ _ ?_
    clear hK K
    refine wpAny_ready (rs := [1, 4]) (by kernel_rfl) (by simp) ?_
    refine AllReady.cons rfl (fun K hK => ?_) ?_
    · skip
      go_simp
      refine hK _ _ ?_
      clear hK K
      refine wpAny_ready (rs := [4]) (by kernel_rfl) (by simp) ?_
      refine AllReady.cons rfl (fun K hK => ?_) AllReady.nil
      go_simp
      go_wp2_with (go_at_call 64; refine (l1Int_any w0 a cap zs _ g ⟨z.heap.size, 0, none⟩ 3 3 [65536, -1, 7] rfl (by omega) (by omega) (ints_lit z [65536, -1, 7] 3) hne LA.cur).mono ?_; rintro e t5 ⟨y, rfl, _, C5, gg⟩; have L5 := LA.call C5 gg; have x2 := L5.blk.cell 2 rfl; have LB := L5.below (bel_alloc t5 (.cells #[.int .i64 y] 3)); have y2 := LB.blk.cell 2 rfl; have hbz := LB.gr.size; clear C5 gg)
      try (refine hK _ _ ?_; clear hK K)
      refine wpAny_ready (rs := [5]) (by kernel_rfl) (by simp) ?_
      refine AllReady.cons rfl (fun K hK => ?_) AllReady.nil
      go_simp
      refine hK _ _ ?_
      clear hK K
      refine wpAny_ready (rs := [6]) (by kernel_rfl) (by simp) ?_
      refine AllReady.cons rfl (fun K hK => ?_) AllReady.nil
      refine step_appI rfl (.tmp 11) (.tmp 15) rfl w.heap.size (.slice a3 m c3) hs rfl LB.own.r3 ⟨t5.heap.size, 0, none⟩ 1 1 [y] rfl rfl (lit_slI1' _ _ rfl) (by have := HLn.out.2.2.1; simp; omega) hbz ?_; intro v' t7 o7 g7; obtain ⟨n1, n2, n3, rfl, hn3⟩ := ownI_shape o7; have HN3 : Hid (n3 = (hs ++ [y]).length) := hn3; have LZ := LB.app HDf.out o7 g7; have qB := LB.blk.row LB.own.r3 g7 (by decide); have qc := qB.cell 2 rfl; have qf := qB.fro 2; clear hn3 o7 g7 qB LA L5 LB
      refine hK _ _ ?_
      clear hK K
      refine wpAny_ready (rs := [7]) (by kernel_rfl) (by simp) ?_
      refine AllReady.cons rfl (fun K hK => ?_) AllReady.nil
      go_simp
      refine hK _ _ ?_
      clear hK K
      refine wpAny_ready (rs := [8]) (by kernel_rfl) (by simp) ?_
      refine AllReady.cons rfl (fun K hK => ?_) AllReady.nil
      go_simp
      refine hK _ _ ?_
      clear hK K
      refine wpAny_done (by kernel_rfl) ?_ _
      (first | skip)
      obtain ⟨x0, x1, x2, x3⟩ := LZ.blk.four
      obtain ⟨y0, y1, y2, y3⟩ := LZ.res.four
      have fy := LZ.res.fro
      have HH : Hid (LE w0 a cap zs w g V _ _ _ _ _ _ _ _ _ _ _ _ _ _ _ _ _) := LZ
      clear LZ
      go_wp2
      refine bodyPost_ret (v := dv a1 a2 n1 a4 m m n3 m c1 c2 n2 c4) (by simp [results, Try.results63, go_sem, y0, y1, y2, y3]) rfl ?_
      have L := HH.out
      have hgR : g ≠ w.heap.size := by have := L.bd; omega
      have hwR : w0.heap.size ≤ w.heap.size := by have := L.bd; omega
      exact ⟨_, _, _, _, _, _, _, _, _, _, _, _, _, _, _, _, rfl, by have h := HLn.out; refine ⟨?_, ?_, ?_, ?_⟩ <;> first | (have := h.1; omega) | (have := h.2.1; omega) | (have := HN3.out; have := h.2.2.1; simp; omega) | (have := h.2.2.2; omega), L.own.set4 ⟨_, L.res⟩ (by decide) (by decide), (((L.cur.setHi hgR hwR).setHi hgR hwR).setHi hgR hwR).setHi hgR hwR, grown_setHi (grown_setHi (grown_setHi (grown_setHi L.gr (Nat.le_refl _)) (Nat.le_refl _)) (Nat.le_refl _)) (Nat.le_refl _)⟩
    refine AllReady.cons rfl (fun K hK => ?_) AllReady.nil
    go_simp
    go_wp2_with (go_at_call 64; refine (l1Int_any w0 a cap zs _ g ⟨z.heap.size, 0, none⟩ 3 3 [65536, -1, 7] rfl (by omega) (by omega) (ints_lit z [65536, -1, 7] 3) hne LA.cur).mono ?_; rintro e t5 ⟨y, rfl, _, C5, gg⟩; have L5 := LA.call C5 gg; have x2 := L5.blk.cell 2 rfl; have LB := L5.below (bel_alloc t5 (.cells #[.int .i64 y] 3)); have y2 := LB.blk.cell 2 rfl; have hbz := LB.gr.size; clear C5 gg)
    try (refine hK _ _ ?_; clear hK K)
    refine wpAny_ready (rs := [1, 5]) (by kernel_rfl) (by simp) ?_
    refine AllReady.cons rfl (fun K hK => ?_) ?_
    · skip
      go_simp
      refine hK _ _ ?_
      clear hK K
      refine wpAny_ready (rs := [5]) (by kernel_rfl) (by simp) ?_
      refine AllReady.cons rfl (fun K hK => ?_) AllReady.nil
      go_simp
      refine hK _ _ ?_
      clear hK K
      refine wpAny_ready (rs := [6]) (by kernel_rfl) (by simp) ?_
      refine AllReady.cons rfl (fun K hK => ?_) AllReady.nil
      refine step_appI rfl (.tmp 11) (.tmp 15) rfl w.heap.size (.slice a3 m c3) hs rfl LB.own.r3 ⟨t5.heap.size, 0, none⟩ 1 1 [y] rfl rfl (lit_slI1' _ _ rfl) (by have := HLn.out.2.2.1; simp; omega) hbz ?_; intro v' t7 o7 g7; obtain ⟨n1, n2, n3, rfl, hn3⟩ := ownI_shape o7; have HN3 : Hid (n3 = (hs ++ [y]).length) := hn3; have LZ := LB.app HDf.out o7 g7; have qB := LB.blk.row LB.own.r3 g7 (by decide); have qc := qB.cell 2 rfl; have qf := qB.fro 2; clear hn3 o7 g7 qB LA L5 LB
      refine hK _ _ ?_
      clear hK K
      refine wpAny_ready (rs := [7]) (by kernel_rfl) (by simp) ?_
      refine AllReady.cons rfl (fun K hK => ?_) AllReady.nil
      go_simp
      refine hK _ _ ?_
      clear hK K
      refine wpAny_ready (rs := [8]) (by kernel_rfl) (by simp) ?_
      refine AllReady.cons rfl (fun K hK => ?_) AllReady.nil
      go_simp
      refine hK _ _ ?_
      clear hK K
      refine wpAny_done (by kernel_rfl) ?_ _
      (first | skip)
      obtain ⟨x0, x1, x2, x3⟩ := LZ.blk.four
      obtain ⟨y0, y1, y2, y3⟩ := LZ.res.four
      have fy := LZ.res.fro
      have HH : Hid (LE w0 a cap zs w g V _ _ _ _ _ _ _ _ _ _ _ _ _ _ _ _ _) := LZ
      clear LZ
      go_wp2
      refine bodyPost_ret (v := dv a1 a2 n1 a4 m m n3 m c1 c2 n2 c4) (by simp [results, Try.results63, go_sem, y0, y1, y2, y3]) rfl ?_
      have L := HH.out
      have hgR : g ≠ w.heap.size := by have := L.bd; omega
      have hwR : w0.heap.size ≤ w.heap.size := by have := L.bd; omega
      exact ⟨_, _, _, _, _, _, _, _, _, _, _, _, _, _, _, _, rfl, by have h := HLn.out; refine ⟨?_, ?_, ?_, ?_⟩ <;> first | (have := h.1; omega) | (have := h.2.1; omega) | (have := HN3.out; have := h.2.2.1; simp; omega) | (have := h.2.2.2; omega), L.own.set4 ⟨_, L.res⟩ (by decide) (by decide), (((L.cur.setHi hgR hwR).setHi hgR hwR).setHi hgR hwR).setHi hgR hwR, grown_setHi (grown_setHi (grown_setHi (grown_setHi L.gr (Nat.le_refl _)) (Nat.le_refl _)) (Nat.le_refl _)) (Nat.le_refl _)⟩
    refine AllReady.cons rfl (fun K hK => ?_) AllReady.nil
    go_simp
    refine hK _ _ ?_
    clear hK K
    refine wpAny_ready (rs := [1]) (by kernel_rfl) (by simp) ?_
    refine AllReady.cons rfl (fun K hK => ?_) AllReady.nil
    go_simp
    refine hK _ _ ?_
    clear hK K
    refine wpAny_ready (rs := [6]) (by kernel_rfl) (by simp) ?_
    refine AllReady.cons rfl (fun K hK => ?_) AllReady.nil
    refine step_appI rfl (.tmp 11) (.tmp 15) rfl w.heap.size (.slice a3 m c3) hs rfl LB.own.r3 ⟨t5.heap.size, 0, none⟩ 1 1 [y] rfl rfl (lit_slI1' _ _ rfl) (by have := HLn.out.2.2.1; simp; omega) hbz ?_; intro v' t7 o7 g7; obtain ⟨n1, n2, n3, rfl, hn3⟩ := ownI_shape o7; have HN3 : Hid (n3 = (hs ++ [y]).length) := hn3; have LZ := LB.app HDf.out o7 g7; have qB := LB.blk.row LB.own.r3 g7 (by decide); have qc := qB.cell 2 rfl; have qf := qB.fro 2; clear hn3 o7 g7 qB LA L5 LB
    refine hK _ _ ?_
    clear hK K
    refine wpAny_ready (rs := [7]) (by kernel_rfl) (by simp) ?_
    refine AllReady.cons rfl (fun K hK => ?_) AllReady.nil
    go_simp
    refine hK _ _ ?_
    clear hK K
    refine wpAny_ready (rs := [8]) (by kernel_rfl) (by simp) ?_
    refine AllReady.cons rfl (fun K hK => ?_) AllReady.nil
    go_simp
    refine hK _ _ ?_
    clear hK K
    refine wpAny_done (by kernel_rfl) ?_ _
    (first | skip)
    obtain ⟨x0, x1, x2, x3⟩ := LZ.blk.four
    obtain ⟨y0, y1, y2, y3⟩ := LZ.res.four
    have fy := LZ.res.fro
    have HH : Hid (LE w0 a cap zs w g V _ _ _ _ _ _ _ _ _ _ _ _ _ _ _ _ _) := LZ
    clear LZ
    go_wp2
    refine bodyPost_ret (v := dv a1 a2 n1 a4 m m n3 m c1 c2 n2 c4) (by simp [results, Try.results63, go_sem, y0, y1, y2, y3]) rfl ?_
    have L := HH.out
    have hgR : g ≠ w.heap.size := by have := L.bd; omega
    have hwR : w0.heap.size ≤ w.heap.size := by have := L.bd; omega
    exact ⟨_, _, _, _, _, _, _, _, _, _, _, _, _, _, _, _, rfl, by have h := HLn.out; refine ⟨?_, ?_, ?_, ?_⟩ <;> first | (have := h.1; omega) | (have := h.2.1; omega) | (have := HN3.out; have := h.2.2.1; simp; omega) | (have := h.2.2.2; omega), L.own.set4 ⟨_, L.res⟩ (by decide) (by decide), (((L.cur.setHi hgR hwR).setHi hgR hwR).setHi hgR hwR).setHi hgR hwR, grown_setHi (grown_setHi (grown_setHi (grown_setHi L.gr (Nat.le_refl _)) (Nat.le_refl _)) (Nat.le_refl _)) (Nat.le_refl _)⟩
  by_cases e1 : x = 1
  · subst e1
    go_upto_region 6 with fail
    simp only [← HV.out]
    go_wp2_with fail
    refine (l1Below_any w0 a cap zs _ g _ (by decide) L3.cur).mono ?_
    rintro e u5 ⟨y, rfl, hy, C5, gg⟩
    have L5 := L3.call C5 gg
    clear C5 gg L3
    obtain ⟨k, rfl⟩ : ∃ k : Nat, y = (k : Int) := ⟨y.toNat, by omega⟩
    have hmk : ∀ w : World, (Instr.makeSlice 25 (.int .i64 (64 + (k : Int))) (.int .i64 (64 + (k : Int)))).run Try.prog w = .ok (.slice (some ⟨w.heap.size, 0, none⟩) (64 + k) (64 + k)) (w.alloc (.cells (madeCells #[.bool false] (64 + k)) 4)) := fun w => run_make_row' (P := Try.prog) 25 4 (.bool false) 1 Try.underlying25 Try.info4 rfl .i64 .i64 (64 + k) (by omega) (by omega) w
    have row : OwnB (u5.alloc (.cells (madeCells #[.bool false] (64 + k)) 4)) w.heap.size (.slice (some ⟨u5.heap.size, 0, none⟩) (64 + k) (64 + k)) (List.replicate (64 + k) false) := (madeB u5 (64 + k) (by omega)).mono L5.gr.size
    have L6 := L5.below (bel_alloc u5 (.cells (madeCells #[.bool false] (64 + k)) 4))
    have qc := L6.blk.cell 0 rfl
    have qf := L6.blk.fro 0
    have LZ := L6.coils row
    have HN3 : Hid (k ≤ 1) := by show k ≤ 1; omega
    clear L5 row L6
    (first | skip)
    obtain ⟨x0, x1, x2, x3⟩ := LZ.blk.four
    obtain ⟨y0, y1, y2, y3⟩ := LZ.res.four
    have fy := LZ.res.fro
    have HH : Hid (LE w0 a cap zs w g V _ _ _ _ _ _ _ _ _ _ _ _ _ _ _ _ _) := LZ
    clear LZ
    go_wp2
    refine bodyPost_ret (v := dv (some ⟨u5.heap.size, 0, none⟩) a2 a3 a4 (64 + k) m m m (64 + k) c2 c3 c4) (by simp [results, Try.results63, go_sem, y0, y1, y2, y3]) rfl ?_
    have L := HH.out
    have hgR : g ≠ w.heap.size := by have := L.bd; omega
    have hwR : w0.heap.size ≤ w.heap.size := by have := L.bd; omega
    exact ⟨_, _, _, _, _, _, _, _, _, _, _, _, _, _, _, _, rfl, by have h := HLn.out; refine ⟨?_, ?_, ?_, ?_⟩ <;> first | (have := HN3.out; simp; omega) | (have := h.2.1; omega) | (have := h.2.2.1; omega) | (have := h.2.2.2; omega), L.own.set4 ⟨_, L.res⟩ (by decide) (by decide), (((L.cur.setHi hgR hwR).setHi hgR hwR).setHi hgR hwR).setHi hgR hwR, grown_setHi (grown_setHi (grown_setHi (grown_setHi L.gr (Nat.le_refl _)) (Nat.le_refl _)) (Nat.le_refl _)) (Nat.le_refl _)⟩
  have LZ := L3
  clear L3
  simp only [← HV.out]
  (first | skip)
  obtain ⟨x0, x1, x2, x3⟩ := LZ.blk.four
  obtain ⟨y0, y1, y2, y3⟩ := LZ.res.four
  have fy := LZ.res.fro
  have HH : Hid (LE w0 a cap zs w g V _ _ _ _ _ _ _ _ _ _ _ _ _ _ _ _ _) := LZ
  clear LZ
  go_wp2
  refine bodyPost_ret (v := dv a1 a2 a3 a4 m m m m c1 c2 c3 c4) (by simp [results, Try.results63, go_sem, y0, y1, y2, y3]) rfl ?_
  have L := HH.out
  have hgR : g ≠ w.heap.size := by have := L.bd; omega
  have hwR : w0.heap.size ≤ w.heap.size := by have := L.bd; omega
  exact ⟨_, _, _, _, _, _, _, _, _, _, _, _, _, _, _, _, rfl, by have h := HLn.out; refine ⟨?_, ?_, ?_, ?_⟩ <;> first | (have := h.1; omega) | (have := h.2.1; omega) | (have := h.2.2.1; omega) | (have := h.2.2.2; omega), L.own.set4 ⟨_, L.res⟩ (by decide) (by decide), (((L.cur.setHi hgR hwR).setHi hgR hwR).setHi hgR hwR).setHi hgR hwR, grown_setHi (grown_setHi (grown_setHi (grown_setHi L.gr (Nat.le_refl _)) (Nat.le_refl _)) (Nat.le_refl _)) (Nat.le_refl _)⟩

end Go.Proofs.Ytfcbkollmhjdoaa
