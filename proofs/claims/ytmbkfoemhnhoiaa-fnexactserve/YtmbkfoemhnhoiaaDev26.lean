/- Serve of the model: what stands while it runs. -/
import Derived.Test.YtmbkfoemhnhoiaaDev25
import Derived.Test.YtmbkfoemhnhoiaaMsk
namespace Go.Proofs.Ytmbkfoemhnhoiaa
open Go.RowKit

set_option linter.unusedVariables false

set_option linter.unusedSimpArgs false

/-- What stands while the model serves: the two arguments' boxes, the two results', the copy's and the answer's. -/
structure SS (w : World) (dc qc : Array Value) (z : World) (G6 G7 : Nat) (x1 x2 x3 x4 : Option Addr) (l1 l2 l3 l4 d1 d2 d3 d4 : Nat) (is : List Bool) (rs : List Int) (cs : List Bool) (hs : List Int) (tc : Array Value) (u : World) : Prop where
  X : Blk u w.heap.size 36 dc
  Y : Blk u (w.heap.size + 1) 27 qc
  P : Blk u (w.heap.size + 1 + 1) 36 #[.slice none 0 0, .slice none 0 0, .slice none 0 0, .slice none 0 0]
  Q : Blk u (w.heap.size + 1 + 1 + 1) 29 #[.int .i64 0, .int .i64 0, .int .i64 0, .int .i64 0, .slice none 0 0, .slice none 0 0]
  N : Blk u G6 36 #[.slice x1 l1 d1, .slice x2 l2 d2, .slice x3 l3 d3, .slice x4 l4 d4]
  T : Blk u G7 29 tc
  D : OwnD u z.heap.size x1 x2 x3 x4 l1 l2 l3 l4 d1 d2 d3 d4 cs is hs rs
  bel : Below w.heap.size w u
  belz : Below z.heap.size z u
  zb0 : z.heap.size = w.heap.size + 1 + 1 + 1 + 1
  g6 : z.heap.size ≤ G6
  g7 : G6 < G7

theorem SS.below {w u z : World} {dc qc tc : Array Value} {G6 G7 : Nat} {x1 x2 x3 x4 : Option Addr} {l1 l2 l3 l4 d1 d2 d3 d4 : Nat} {is cs : List Bool} {rs hs : List Int} {u' : World} (h : SS w dc qc z G6 G7 x1 x2 x3 x4 l1 l2 l3 l4 d1 d2 d3 d4 is rs cs hs tc u) (hb : Below u.heap.size u u') : SS w dc qc z G6 G7 x1 x2 x3 x4 l1 l2 l3 l4 d1 d2 d3 d4 is rs cs hs tc u' :=
  ⟨h.X.below hb, h.Y.below hb, h.P.below hb, h.Q.below hb, h.N.below hb, h.T.below hb, h.D.below hb, bel_next h.bel hb, bel_next h.belz hb, h.zb0, h.g6, h.g7⟩

/-- A field of the answer is set. -/
theorem SS.setT {w u z : World} {dc qc tc : Array Value} {G6 G7 : Nat} {x1 x2 x3 x4 : Option Addr} {l1 l2 l3 l4 d1 d2 d3 d4 : Nat} {is cs : List Bool} {rs hs : List Int} (h : SS w dc qc z G6 G7 x1 x2 x3 x4 l1 l2 l3 l4 d1 d2 d3 d4 is rs cs hs tc u) (j : Nat) (y : Value) : SS w dc qc z G6 G7 x1 x2 x3 x4 l1 l2 l3 l4 d1 d2 d3 d4 is rs cs hs (tc.setIfInBounds j y) (u.setCell ⟨G7, j, none⟩ y) := by
  have := h.g6
  have := h.g7
  have := h.zb0
  refine ⟨h.X.setNe (by omega), h.Y.setNe (by omega), h.P.setNe (by omega), h.Q.setNe (by omega), h.N.setNe (by omega), h.T.set j y, ?_, h.bel.setCell (p := ⟨G7, j, none⟩) (by show w.heap.size ≤ G7; omega) _, h.belz.setCell (p := ⟨G7, j, none⟩) (by show z.heap.size ≤ G7; omega) _, h.zb0, h.g6, h.g7⟩
  have e : ExB u G7 29 := ⟨_, h.T⟩
  exact ⟨row_setE h.D.1 e (by decide), row_setE h.D.2.1 e (by decide), row_setE h.D.2.2.1 e (by decide), row_setE h.D.2.2.2.1 e (by decide), h.D.2.2.2.2⟩

/-- The copy's rows are written. -/
theorem SS.chg {w u z : World} {dc qc tc : Array Value} {G6 G7 : Nat} {x1 x2 x3 x4 : Option Addr} {l1 l2 l3 l4 d1 d2 d3 d4 : Nat} {is cs : List Bool} {rs hs : List Int} {u' : World} {cs' : List Bool} {hs' : List Int} (h : SS w dc qc z G6 G7 x1 x2 x3 x4 l1 l2 l3 l4 d1 d2 d3 d4 is rs cs hs tc u) (hc : Chg u u' (Of4 (.slice x1 l1 d1) (.slice x2 l2 d2) (.slice x3 l3 d3) (.slice x4 l4 d4))) (hD : OwnD u' z.heap.size x1 x2 x3 x4 l1 l2 l3 l4 d1 d2 d3 d4 cs' is hs' rs) : SS w dc qc z G6 G7 x1 x2 x3 x4 l1 l2 l3 l4 d1 d2 d3 d4 is rs cs' hs' tc u' :=
  ⟨h.X.chg hc (h.D.noBlk h.X (by decide) (by decide)), h.Y.chg hc (h.D.noBlk h.Y (by decide) (by decide)), h.P.chg hc (h.D.noBlk h.P (by decide) (by decide)), h.Q.chg hc (h.D.noBlk h.Q (by decide) (by decide)), h.N.chg hc (h.D.noBlk h.N (by decide) (by decide)), h.T.chg hc (h.D.noBlk h.T (by decide) (by decide)), hD, Chg.below h.bel hc (fun g hg => by have := (h.D.of4 g hg).1; have := h.zb0; omega) h.bel.size, Chg.below h.belz hc (fun g hg => (h.D.of4 g hg).1) h.belz.size, h.zb0, h.g6, h.g7⟩

/-- Rows that lie behind all that the copy has are none of them. -/
theorem SS.apart {w u z : World} {dc qc tc : Array Value} {G6 G7 : Nat} {x1 x2 x3 x4 : Option Addr} {l1 l2 l3 l4 d1 d2 d3 d4 : Nat} {is cs : List Bool} {rs hs : List Int} {r1 r2 : Option Addr} {p1 p2 t1 t2 : Nat} {u0 : World} {ws : List Int} {bs : List Bool} (h : SS w dc qc z G6 G7 x1 x2 x3 x4 l1 l2 l3 l4 d1 d2 d3 d4 is rs cs hs tc u0) (hi : OwnI u u0.heap.size (.slice r1 p1 t1) ws) (hj : OwnB u u0.heap.size (.slice r2 p2 t2) bs) : ∀ g, (Of4 (.slice x1 l1 d1) (.slice x2 l2 d2) (.slice x3 l3 d3) (.slice x4 l4 d4)) g → ¬ Of2 (.slice r1 p1 t1) (.slice r2 p2 t2) g := by
  intro g h1 h2
  have q1 := (h.D.of4 g h1).2
  rcases h2 with h2 | h2
  · have := (World.ownsRow.lt hi g h2).1; omega
  · have := (World.ownsRow.lt hj g h2).1; omega

/-- A word behind a mask, as the model reckons it. -/
theorem mskI_spec {h x y : Int} (h0 : 0 ≤ h ∧ h ≤ 65535) (x0 : 0 ≤ x ∧ x ≤ 65535) (y0 : 0 ≤ y ∧ y ≤ 65535) : bits .or .i64 (bits .and .i64 h x) (bits .and .i64 y (bits .xor .i64 65535 x)) = mskI h x y := by
  have hx := wv_lt x0.1 x0.2
  have hy := wv_lt y0.1 y0.2
  have hh := wv_lt h0.1 h0.2
  have h16 : (wv 65535).toNat < 65536 := wv_lt (by decide) (by decide)
  have hxor : (wv 65535 ^^^ wv x).toNat < 65536 := by rw [BitVec.toNat_xor]; exact Nat.xor_lt_two_pow (n := 16) h16 hx
  have a1 : bits .and .i64 h x = ((wv h &&& wv x).toNat : Int) := wrap_sm (and_lt hh)
  have a2 : bits .xor .i64 65535 x = ((wv 65535 ^^^ wv x).toNat : Int) := wrap_sm hxor
  have a3 : bits .and .i64 y ((wv 65535 ^^^ wv x).toNat : Int) = ((wv y &&& wv ((wv 65535 ^^^ wv x).toNat : Int)).toNat : Int) := wrap_sm (and_lt hy)
  have a4 : wv y &&& (wv 65535 ^^^ wv x) = wv y &&& ~~~(wv x) := by
    apply BitVec.eq_of_getLsbD_eq
    intro i hi
    by_cases h1 : i < 16
    · simp only [BitVec.getLsbD_and, BitVec.getLsbD_xor, BitVec.getLsbD_not, ones_bit i h1]
      cases (wv x).getLsbD i <;> simp [hi]
    · simp only [BitVec.getLsbD_and, sm_bit hy (show 16 ≤ i by omega), Bool.false_and]
  have a5 : mskI h x y = bits .or .i64 ((wv h &&& wv x).toNat : Int) ((wv y &&& ~~~(wv x)).toNat : Int) := by
    unfold mskI
    rw [a1, show bits .andNot .i64 y x = ((wv y &&& ~~~(wv x)).toNat : Int) from wrap_sm (and_lt hy)]
  rw [a1, a2, a3, wv_back, a4, a5]

end Go.Proofs.Ytmbkfoemhnhoiaa
