/- Draws of devices: places that are written, one by one. -/
import Derived.Test.YtfcbkollmhjdoaaAskO
import Derived.Test.YtfcbkollmhjdoaaDev3
namespace Go.Proofs.Ytfcbkollmhjdoaa
open Go.RowKit

set_option linter.unusedVariables false

set_option linter.unusedSimpArgs false

theorem OwnD.setCoilD {w : World} {B k : Nat} {a1 a2 a3 a4 : Option Addr} {l1 l2 l3 l4 c1 c2 c3 c4 : Nat} {cs is : List Bool} {hs rs : List Int} (h : OwnD w B a1 a2 a3 a4 l1 l2 l3 l4 c1 c2 c3 c4 cs is hs rs) (hk : k < l1) :
    ∃ b, a1 = some ⟨b, 0, none⟩ ∧ B ≤ b ∧ b < w.heap.size ∧ w.cell? ⟨b, k, none⟩ = some (.bool (cs.getD k false)) ∧ w.frozen? ⟨b, k, none⟩ = false ∧
      ∀ x, OwnD (w.setCell ⟨b, k, none⟩ (.bool x)) B a1 a2 a3 a4 l1 l2 l3 l4 c1 c2 c3 c4 (cs.set k x) is hs rs := by
  obtain ⟨h1, h2, h3, h4, d12, d34⟩ := h
  obtain ⟨b, rfl, hB, hlt, hc, hf, hset⟩ := h1.place hk
  refine ⟨b, rfl, hB, hlt, hc, hf, fun x => ?_⟩
  have gr := grown_setj w b k (.bool x)
  have ob : (Value.slice (some ⟨b, 0, none⟩) l1 c1).ownBlock = some b := rfl
  exact ⟨hset x, World.ownsRow.kept h2 gr (ob ▸ d12.symm.ne), World.ownsRow.kept h3 gr (ob ▸ ne_types h3 h1 (by decide)), World.ownsRow.kept h4 gr (ob ▸ ne_types h4 h1 (by decide)), d12, d34⟩

theorem OwnD.setInput {w : World} {B k : Nat} {a1 a2 a3 a4 : Option Addr} {l1 l2 l3 l4 c1 c2 c3 c4 : Nat} {cs is : List Bool} {hs rs : List Int} (h : OwnD w B a1 a2 a3 a4 l1 l2 l3 l4 c1 c2 c3 c4 cs is hs rs) (hk : k < l2) :
    ∃ b, a2 = some ⟨b, 0, none⟩ ∧ B ≤ b ∧ b < w.heap.size ∧ w.cell? ⟨b, k, none⟩ = some (.bool (is.getD k false)) ∧ w.frozen? ⟨b, k, none⟩ = false ∧
      ∀ x, OwnD (w.setCell ⟨b, k, none⟩ (.bool x)) B a1 a2 a3 a4 l1 l2 l3 l4 c1 c2 c3 c4 cs (is.set k x) hs rs := by
  obtain ⟨h1, h2, h3, h4, d12, d34⟩ := h
  obtain ⟨b, rfl, hB, hlt, hc, hf, hset⟩ := h2.place hk
  refine ⟨b, rfl, hB, hlt, hc, hf, fun x => ?_⟩
  have gr := grown_setj w b k (.bool x)
  have ob : (Value.slice (some ⟨b, 0, none⟩) l2 c2).ownBlock = some b := rfl
  exact ⟨World.ownsRow.kept h1 gr (ob ▸ d12.ne), hset x, World.ownsRow.kept h3 gr (ob ▸ ne_types h3 h2 (by decide)), World.ownsRow.kept h4 gr (ob ▸ ne_types h4 h2 (by decide)), d12, d34⟩

theorem OwnD.setHold {w : World} {B k : Nat} {a1 a2 a3 a4 : Option Addr} {l1 l2 l3 l4 c1 c2 c3 c4 : Nat} {cs is : List Bool} {hs rs : List Int} (h : OwnD w B a1 a2 a3 a4 l1 l2 l3 l4 c1 c2 c3 c4 cs is hs rs) (hk : k < l3) :
    ∃ b, a3 = some ⟨b, 0, none⟩ ∧ B ≤ b ∧ b < w.heap.size ∧ w.cell? ⟨b, k, none⟩ = some (.int .i64 (hs.getD k 0)) ∧ w.frozen? ⟨b, k, none⟩ = false ∧
      ∀ x, OwnD (w.setCell ⟨b, k, none⟩ (.int .i64 x)) B a1 a2 a3 a4 l1 l2 l3 l4 c1 c2 c3 c4 cs is (hs.set k x) rs := by
  obtain ⟨b, e, hB, hlt, hc, hf, hset⟩ := h.setWord hk
  exact ⟨b, e, hB, hlt, hc, hf, fun x => (hset x).1⟩

theorem OwnD.setReg {w : World} {B k : Nat} {a1 a2 a3 a4 : Option Addr} {l1 l2 l3 l4 c1 c2 c3 c4 : Nat} {cs is : List Bool} {hs rs : List Int} (h : OwnD w B a1 a2 a3 a4 l1 l2 l3 l4 c1 c2 c3 c4 cs is hs rs) (hk : k < l4) :
    ∃ b, a4 = some ⟨b, 0, none⟩ ∧ B ≤ b ∧ b < w.heap.size ∧ w.cell? ⟨b, k, none⟩ = some (.int .i64 (rs.getD k 0)) ∧ w.frozen? ⟨b, k, none⟩ = false ∧
      ∀ x, OwnD (w.setCell ⟨b, k, none⟩ (.int .i64 x)) B a1 a2 a3 a4 l1 l2 l3 l4 c1 c2 c3 c4 cs is hs (rs.set k x) := by
  obtain ⟨h1, h2, h3, h4, d12, d34⟩ := h
  obtain ⟨b, rfl, hB, hlt, hc, hf, hset⟩ := h4.place hk
  refine ⟨b, rfl, hB, hlt, hc, hf, fun x => ?_⟩
  have gr := grown_setj w b k (.int .i64 x)
  have ob : (Value.slice (some ⟨b, 0, none⟩) l4 c4).ownBlock = some b := rfl
  exact ⟨World.ownsRow.kept h1 gr (ob ▸ ne_types h1 h4 (by decide)), World.ownsRow.kept h2 gr (ob ▸ ne_types h2 h4 (by decide)), World.ownsRow.kept h3 gr (ob ▸ d34.ne), hset x, d12, d34⟩

theorem OwnD.keptG {w u : World} {B g : Nat} {a1 a2 a3 a4 : Option Addr} {l1 l2 l3 l4 c1 c2 c3 c4 : Nat} {cs is : List Bool} {hs rs : List Int} (h : OwnD w B a1 a2 a3 a4 l1 l2 l3 l4 c1 c2 c3 c4 cs is hs rs) (gr : w.grownBy u (some g)) (hg : g < B) :
    OwnD u B a1 a2 a3 a4 l1 l2 l3 l4 c1 c2 c3 c4 cs is hs rs :=
  ⟨World.ownsRow.kept h.1 gr (row_ne_g h.1 hg), World.ownsRow.kept h.2.1 gr (row_ne_g h.2.1 hg), World.ownsRow.kept h.2.2.1 gr (row_ne_g h.2.2.1 hg), World.ownsRow.kept h.2.2.2.1 gr (row_ne_g h.2.2.2.1 hg), h.2.2.2.2⟩

/-- What drawing a device ends with. -/
def DrawnD (w0 : World) (a : Option Addr) (cap : Nat) (zs : List Int) (w : World) (g : Nat) (e : Ending) (w' : World) : Prop :=
  ∃ (a1 a2 a3 a4 : Option Addr) (m c1 c2 c3 c4 : Nat) (cs is : List Bool) (hs rs : List Int), e = .returned (dv a1 a2 a3 a4 m m m m c1 c2 c3 c4) ∧ m ≤ 64 ∧ OwnD w' w.heap.size a1 a2 a3 a4 m m m m c1 c2 c3 c4 cs is hs rs ∧ (∀ x ∈ hs, 0 ≤ x ∧ x ≤ 65535) ∧ (∀ x ∈ rs, 0 ≤ x ∧ x ≤ 65535) ∧ Cur w0 a cap zs w' g ∧ w.grownBy w' (some g)

/-- A device that is being drawn. -/
structure LD (w0 : World) (a : Option Addr) (cap : Nat) (zs : List Int) (w : World) (g : Nat) (a1 a2 a3 a4 : Option Addr) (m c1 c2 c3 c4 V : Nat) (u : World) (cs is : List Bool) (hs rs : List Int) : Prop where
  own : OwnD u w.heap.size a1 a2 a3 a4 m m m m c1 c2 c3 c4 cs is hs rs
  hr : ∀ x ∈ hs, 0 ≤ x ∧ x ≤ 65535
  rr : ∀ x ∈ rs, 0 ≤ x ∧ x ≤ 65535
  cur : Cur w0 a cap zs u g
  gr : w.grownBy u (some g)
  blk : Blk u V 36 #[.slice a1 m c1, .slice a2 m c2, .slice a3 m c3, .slice a4 m c4]
  res : Blk u w.heap.size 36 #[.slice none 0 0, .slice none 0 0, .slice none 0 0, .slice none 0 0]
  bd : g < w.heap.size ∧ w0.heap.size ≤ g ∧ w.heap.size < V

theorem LD.drew {w0 : World} {a : Option Addr} {cap : Nat} {zs : List Int} {w : World} {g : Nat} {a1 a2 a3 a4 : Option Addr} {m c1 c2 c3 c4 V : Nat} {u : World} {cs is : List Bool} {hs rs : List Int} (h : LD w0 a cap zs w g a1 a2 a3 a4 m c1 c2 c3 c4 V u cs is hs rs) : LD w0 a cap zs w g a1 a2 a3 a4 m c1 c2 c3 c4 V u.drew cs is hs rs :=
  ⟨h.own.drew, h.hr, h.rr, h.cur.drewN 1, ⟨h.gr.os, h.gr.tape, h.gr.output, h.gr.size, h.gr.block⟩, h.blk.drew, h.res.drew, h.bd⟩

theorem LD.call {w0 : World} {a : Option Addr} {cap : Nat} {zs : List Int} {w : World} {g : Nat} {a1 a2 a3 a4 : Option Addr} {m c1 c2 c3 c4 V : Nat} {u t : World} {cs is : List Bool} {hs rs : List Int} (h : LD w0 a cap zs w g a1 a2 a3 a4 m c1 c2 c3 c4 V u cs is hs rs) (hC : Cur w0 a cap zs t g) (hg : u.grownBy t (some g)) : LD w0 a cap zs w g a1 a2 a3 a4 m c1 c2 c3 c4 V t cs is hs rs :=
  ⟨h.own.keptG hg h.bd.1, h.hr, h.rr, hC, grown_trans h.gr hg, h.blk.grown hg (by have := h.bd; simp; omega), h.res.grown hg (by have := h.bd; simp; omega), h.bd⟩

theorem mem_set {l : List Int} {k : Nat} {x : Int} (h : ∀ y ∈ l, 0 ≤ y ∧ y ≤ 65535) (hx : 0 ≤ x ∧ x ≤ 65535) : ∀ y ∈ l.set k x, 0 ≤ y ∧ y ≤ 65535 := by
  intro y hy
  rcases List.mem_or_eq_of_mem_set hy with h1 | h1
  · exact h y h1
  · exact h1 ▸ hx

theorem LD.coil {w0 : World} {a : Option Addr} {cap : Nat} {zs : List Int} {w : World} {g : Nat} {a1 a2 a3 a4 : Option Addr} {m c1 c2 c3 c4 V : Nat} {u : World} {cs is : List Bool} {hs rs : List Int} {k : Nat} (h : LD w0 a cap zs w g a1 a2 a3 a4 m c1 c2 c3 c4 V u cs is hs rs) (hk : k < m) :
    ∃ b, a1 = some ⟨b, 0, none⟩ ∧ u.cell? ⟨b, k, none⟩ = some (.bool (cs.getD k false)) ∧ u.frozen? ⟨b, k, none⟩ = false ∧ ∀ x, LD w0 a cap zs w g a1 a2 a3 a4 m c1 c2 c3 c4 V (u.setCell ⟨b, k, none⟩ (.bool x)) (cs.set k x) is hs rs := by
  obtain ⟨b, e, hB, hlt, hc, hf, hset⟩ := h.own.setCoilD hk
  refine ⟨b, e, hc, hf, fun x => ⟨hset x, h.hr, h.rr, h.cur.setHi (by have := h.bd; omega) (by have := h.bd; omega), grown_setHi h.gr hB, h.blk.setNe ?_, h.res.setNe ?_, h.bd⟩⟩
  · intro e2
    subst e2
    exact h.own.noBlk h.blk (by decide) (by decide) (.inl (by rw [e]; rfl))
  · intro e2
    subst e2
    exact h.own.noBlk h.res (by decide) (by decide) (.inl (by rw [e]; rfl))

theorem LD.input {w0 : World} {a : Option Addr} {cap : Nat} {zs : List Int} {w : World} {g : Nat} {a1 a2 a3 a4 : Option Addr} {m c1 c2 c3 c4 V : Nat} {u : World} {cs is : List Bool} {hs rs : List Int} {k : Nat} (h : LD w0 a cap zs w g a1 a2 a3 a4 m c1 c2 c3 c4 V u cs is hs rs) (hk : k < m) :
    ∃ b, a2 = some ⟨b, 0, none⟩ ∧ u.cell? ⟨b, k, none⟩ = some (.bool (is.getD k false)) ∧ u.frozen? ⟨b, k, none⟩ = false ∧ ∀ x, LD w0 a cap zs w g a1 a2 a3 a4 m c1 c2 c3 c4 V (u.setCell ⟨b, k, none⟩ (.bool x)) cs (is.set k x) hs rs := by
  obtain ⟨b, e, hB, hlt, hc, hf, hset⟩ := h.own.setInput hk
  refine ⟨b, e, hc, hf, fun x => ⟨hset x, h.hr, h.rr, h.cur.setHi (by have := h.bd; omega) (by have := h.bd; omega), grown_setHi h.gr hB, h.blk.setNe ?_, h.res.setNe ?_, h.bd⟩⟩
  · intro e2
    subst e2
    exact h.own.noBlk h.blk (by decide) (by decide) (.inr (.inl (by rw [e]; rfl)))
  · intro e2
    subst e2
    exact h.own.noBlk h.res (by decide) (by decide) (.inr (.inl (by rw [e]; rfl)))

theorem LD.hold {w0 : World} {a : Option Addr} {cap : Nat} {zs : List Int} {w : World} {g : Nat} {a1 a2 a3 a4 : Option Addr} {m c1 c2 c3 c4 V : Nat} {u : World} {cs is : List Bool} {hs rs : List Int} {k : Nat} (h : LD w0 a cap zs w g a1 a2 a3 a4 m c1 c2 c3 c4 V u cs is hs rs) (hk : k < m) :
    ∃ b, a3 = some ⟨b, 0, none⟩ ∧ u.cell? ⟨b, k, none⟩ = some (.int .i64 (hs.getD k 0)) ∧ u.frozen? ⟨b, k, none⟩ = false ∧ ∀ x, 0 ≤ x ∧ x ≤ 65535 → LD w0 a cap zs w g a1 a2 a3 a4 m c1 c2 c3 c4 V (u.setCell ⟨b, k, none⟩ (.int .i64 x)) cs is (hs.set k x) rs := by
  obtain ⟨b, e, hB, hlt, hc, hf, hset⟩ := h.own.setHold hk
  refine ⟨b, e, hc, hf, fun x hx => ⟨hset x, mem_set h.hr hx, h.rr, h.cur.setHi (by have := h.bd; omega) (by have := h.bd; omega), grown_setHi h.gr hB, h.blk.setNe ?_, h.res.setNe ?_, h.bd⟩⟩
  · intro e2
    subst e2
    exact h.own.noBlk h.blk (by decide) (by decide) (.inr (.inr (.inl (by rw [e]; rfl))))
  · intro e2
    subst e2
    exact h.own.noBlk h.res (by decide) (by decide) (.inr (.inr (.inl (by rw [e]; rfl))))

theorem LD.reg {w0 : World} {a : Option Addr} {cap : Nat} {zs : List Int} {w : World} {g : Nat} {a1 a2 a3 a4 : Option Addr} {m c1 c2 c3 c4 V : Nat} {u : World} {cs is : List Bool} {hs rs : List Int} {k : Nat} (h : LD w0 a cap zs w g a1 a2 a3 a4 m c1 c2 c3 c4 V u cs is hs rs) (hk : k < m) :
    ∃ b, a4 = some ⟨b, 0, none⟩ ∧ u.cell? ⟨b, k, none⟩ = some (.int .i64 (rs.getD k 0)) ∧ u.frozen? ⟨b, k, none⟩ = false ∧ ∀ x, 0 ≤ x ∧ x ≤ 65535 → LD w0 a cap zs w g a1 a2 a3 a4 m c1 c2 c3 c4 V (u.setCell ⟨b, k, none⟩ (.int .i64 x)) cs is hs (rs.set k x) := by
  obtain ⟨b, e, hB, hlt, hc, hf, hset⟩ := h.own.setReg hk
  refine ⟨b, e, hc, hf, fun x hx => ⟨hset x, h.hr, mem_set h.rr hx, h.cur.setHi (by have := h.bd; omega) (by have := h.bd; omega), grown_setHi h.gr hB, h.blk.setNe ?_, h.res.setNe ?_, h.bd⟩⟩
  · intro e2
    subst e2
    exact h.own.noBlk h.blk (by decide) (by decide) (.inr (.inr (.inr (by rw [e]; rfl))))
  · intro e2
    subst e2
    exact h.own.noBlk h.res (by decide) (by decide) (.inr (.inr (.inr (by rw [e]; rfl))))

set_option maxRecDepth 20000 in
set_option maxHeartbeats 1000000 in
theorem l5Draw_any (w0 : World) (a : Option Addr) (cap : Nat) (zs : List Int) (w : World) (g : Nat) (hC : Cur w0 a cap zs w g) :
    Calls Try.prog 73 #[.pointer (some ⟨g, 0, none⟩)] w fun e w' => DrawnD w0 a cap zs w g e w' := by
  obtain ⟨W0, hW0⟩ : ∃ W0, W0 = w.alloc (.cells #[.slice none 0 0, .slice none 0 0, .slice none 0 0, .slice none 0 0] 36) := ⟨_, rfl⟩
  have HW : Hid (W0 = _) := hW0
  have hg := hC.hi
  have hlo := hC.lo
  have C0 : Cur w0 a cap zs W0 g := by rw [hW0]; exact hC.alloc _
  have G0 : w.grownBy W0 (some g) := by rw [hW0]; exact World.grownBy_alloc _ _ _
  have R0 : Blk W0 w.heap.size 36 #[.slice none 0 0, .slice none 0 0, .slice none 0 0, .slice none 0 0] := by rw [hW0]; exact Blk.new _ _ _
  have I1 := ints_lit W0 [20, 20, 12, 40, 5, 64] 3
  have C1 := C0.alloc (.cells ([20, 20, 12, 40, 5, 64].map (Value.int .i64)).toArray 3)
  have G1 : w.grownBy (W0.alloc (.cells ([20, 20, 12, 40, 5, 64].map (Value.int .i64)).toArray 3)) (some g) := grown_trans G0 (World.grownBy_alloc _ _ _)
  have R1 := R0.below (bel_alloc W0 (.cells ([20, 20, 12, 40, 5, 64].map (Value.int .i64)).toArray 3))
  have hne1 : W0.heap.size ≠ g := by have := C0.hi; omega
  have HGR : Hid (g < w.heap.size ∧ w0.heap.size ≤ g) := ⟨hg, hlo⟩
  clear hC hW0 C0 G0 R0 hlo
  go_enter Try.func73, Try.ntmps73
  go_upto_region 1 with fail
  rw [← HW.out]
  go_wp2_with fail
  refine (l1Int_any w0 a cap zs _ g ⟨W0.heap.size, 0, none⟩ 6 6 [20, 20, 12, 40, 5, 64] rfl (by omega) (by omega) I1 hne1 C1).mono ?_
  rintro e u1 ⟨n, rfl, hn, C2, g2⟩
  have G2 := grown_trans G1 g2
  have R2 := R1.grown g2 (by simp; omega)
  have hnn : 0 ≤ n ∧ n ≤ 64 := by simp at hn; omega
  obtain ⟨m, rfl⟩ : ∃ m : Nat, n = (m : Int) := ⟨n.toNat, by omega⟩
  have hm : m ≤ 64 := by omega
  have HDN : Hid (dnN (m : Int) = m) := by unfold dnN; show (if _ then _ else _) = m; rw [if_pos ⟨by omega, by omega⟩]; simp
  clear I1 C1 G1 R1 g2 hne1 hn hnn
  go_wp2_with fail
  refine (specNew_any (m : Int) m HDN.out _).mono ?_
  rintro e u2 ⟨a1, a2, a3, a4, l1, l2, l3, l4, c1, c2, c3, c4, rfl, D3, b'⟩
  obtain rfl : l1 = m := by have := D3.sl.1.1; simpa using this
  obtain rfl : l2 = l1 := by have := D3.sl.1.2.1; simpa using this
  obtain rfl : l3 = l2 := by have := D3.sl.1.2.2.1; simpa using this
  obtain rfl : l4 = l3 := by have := D3.sl.1.2.2.2; simpa using this
  generalize hl : l4 = m at *
  have D3 := D3.mono G2.size
  have C3 := C2.grown (grown_below b' none) (by simp) (by simp)
  have G3 := grown_trans G2 (grown_below b' (some g))
  have R3 := R2.below b'
  clear C2 G2 R2 b'
  have BD : Below u2.heap.size u2 (u2.alloc (.cells #[.slice a1 m c1, .slice a2 m c2, .slice a3 m c3, .slice a4 m c4] 36)) := bel_alloc _ _
  have X4 := Blk.new u2 #[.slice a1 m c1, .slice a2 m c2, .slice a3 m c3, .slice a4 m c4] 36
  obtain ⟨V, hV⟩ : ∃ V, V = u2.heap.size := ⟨_, rfl⟩
  have hVw : w.heap.size < V := by have := R3.lt; omega
  have L4 : LD w0 a cap zs w g a1 a2 a3 a4 m c1 c2 c3 c4 V (u2.alloc (.cells #[.slice a1 m c1, .slice a2 m c2, .slice a3 m c3, .slice a4 m c4] 36)) (List.replicate m false) (List.replicate m false) (List.replicate m 0) (List.replicate m 0) :=
    ⟨D3.below BD, fun x hx => by rw [List.eq_of_mem_replicate hx]; omega, fun x hx => by rw [List.eq_of_mem_replicate hx]; omega, C3.alloc _, grown_trans G3 (grown_below BD (some g)), by rw [hV]; exact X4, R3.below BD, ⟨HGR.out.1, HGR.out.2, hVw⟩⟩
  have HV : Hid (V = u2.heap.size) := hV
  clear C3 G3 R3 D3 BD hV X4
  go_upto_region 3 with fail
  simp only [← HV.out]
  go_loopw [4] (fun i wr => ∃ (k : Nat) (cs is : List Bool) (hs rs : List Int), k ≤ m ∧ i = .int .i64 k ∧ LD w0 a cap zs w g a1 a2 a3 a4 m c1 c2 c3 c4 V wr cs is hs rs) (fun i _ => m - (intOf i).toNat)
  case atStart => exact ⟨0, _, _, _, _, Nat.zero_le _, rfl, L4⟩
  case round =>
    obtain ⟨k, cs, is, hs, rs, hk, rfl, L5⟩ := hrel
    clear L4
    by_cases hlt : k < m
    · skip
      have hi' : (k : Int) < (m : Int) := by omega
      have HL : Hid (k < m) := hlt
      obtain ⟨b1, e1, _⟩ := L5.coil hlt
      obtain ⟨b2, e2, _⟩ := L5.input hlt
      obtain ⟨b3, e3, _⟩ := L5.hold hlt
      obtain ⟨b4, e4, _⟩ := L5.reg hlt
      subst e1 e2 e3 e4
      obtain ⟨x0, x1, x2, x3⟩ := L5.blk.four
      go_upto_region 5 with fail
      go_cut [] from 9 to 39 (fun wx => ∃ (cs is : List Bool) (hs rs : List Int), LD w0 a cap zs w g (some ⟨b1, 0, none⟩) (some ⟨b2, 0, none⟩) (some ⟨b3, 0, none⟩) (some ⟨b4, 0, none⟩) m c1 c2 c3 c4 V wx cs is hs rs)
      case first =>
        go_region_with (go_at_call 65; refine (l1Once_any w0 a cap zs _ g 2 (by decide) (by first | exact L5.cur | exact L5.cur.drewN 1 | exact L5.cur.drewN 2)).mono ?_; rintro e t ⟨x, rfl, C', g'⟩; have L6 := LD.call (by first | exact L5 | exact L5.drew | exact L5.drew.drew) C' g'; clear L5 C' g'; obtain ⟨b', eb, hc, hf, hset⟩ := L6.coil HL.out; (obtain rfl : b' = b1 := by simpa using eb.symm); clear eb; have HS : Hid _ := hset x; clear hset x0 x1 x2 x3; obtain ⟨x0, x1, x2, x3⟩ := L6.blk.four)
        all_goals (
          go_wp2_with fail
          go_meet
          case rel => exact ⟨_, _, _, _, by first | exact HS.out | exact HS.out.drew⟩)
      case rest =>
      obtain ⟨cs, is, hs, rs, L5⟩ := hcut
      obtain ⟨x0, x1, x2, x3⟩ := L5.blk.four
      go_upto_region 6 with fail
      go_cut [] from 9 to 39 (fun wx => ∃ (cs is : List Bool) (hs rs : List Int), LD w0 a cap zs w g (some ⟨b1, 0, none⟩) (some ⟨b2, 0, none⟩) (some ⟨b3, 0, none⟩) (some ⟨b4, 0, none⟩) m c1 c2 c3 c4 V wx cs is hs rs)
      case first =>
        go_region_with (go_at_call 65; refine (l1Once_any w0 a cap zs _ g 2 (by decide) (by first | exact L5.cur | exact L5.cur.drewN 1 | exact L5.cur.drewN 2)).mono ?_; rintro e t ⟨x, rfl, C', g'⟩; have L6 := LD.call (by first | exact L5 | exact L5.drew | exact L5.drew.drew) C' g'; clear L5 C' g'; obtain ⟨b', eb, hc, hf, hset⟩ := L6.input HL.out; (obtain rfl : b' = b2 := by simpa using eb.symm); clear eb; have HS : Hid _ := hset x; clear hset x0 x1 x2 x3; obtain ⟨x0, x1, x2, x3⟩ := L6.blk.four)
        all_goals (
          go_wp2_with fail
          go_meet
          case rel => exact ⟨_, _, _, _, by first | exact HS.out | exact HS.out.drew⟩)
      case rest =>
      obtain ⟨cs, is, hs, rs, L5⟩ := hcut
      obtain ⟨x0, x1, x2, x3⟩ := L5.blk.four
      go_upto_region 7 with fail
      go_cut [] from 9 to 39 (fun wx => ∃ (cs is : List Bool) (hs rs : List Int), LD w0 a cap zs w g (some ⟨b1, 0, none⟩) (some ⟨b2, 0, none⟩) (some ⟨b3, 0, none⟩) (some ⟨b4, 0, none⟩) m c1 c2 c3 c4 V wx cs is hs rs)
      case first =>
        go_region_with (go_at_call 45; refine (l1Below_any w0 a cap zs _ g 65536 (by decide) (by first | exact L5.cur | exact L5.cur.drewN 1 | exact L5.cur.drewN 2)).mono ?_; rintro e t ⟨x, rfl, hx', C', g'⟩; have L6 := LD.call (by first | exact L5 | exact L5.drew | exact L5.drew.drew) C' g'; clear L5 C' g'; obtain ⟨b', eb, hc, hf, hset⟩ := L6.hold HL.out; (obtain rfl : b' = b3 := by simpa using eb.symm); clear eb; have HS : Hid _ := hset x (by omega); clear hset x0 x1 x2 x3; obtain ⟨x0, x1, x2, x3⟩ := L6.blk.four)
        all_goals (
          go_wp2_with fail
          go_meet
          case rel => exact ⟨_, _, _, _, by first | exact HS.out | exact HS.out.drew⟩)
      case rest =>
      obtain ⟨cs, is, hs, rs, L5⟩ := hcut
      obtain ⟨x0, x1, x2, x3⟩ := L5.blk.four
      go_upto_region 8 with fail
      go_region_with (go_at_call 45; refine (l1Below_any w0 a cap zs _ g 65536 (by decide) (by first | exact L5.cur | exact L5.cur.drewN 1 | exact L5.cur.drewN 2)).mono ?_; rintro e t ⟨x, rfl, hx', C', g'⟩; have L6 := LD.call (by first | exact L5 | exact L5.drew | exact L5.drew.drew) C' g'; clear L5 C' g'; obtain ⟨b', eb, hc, hf, hset⟩ := L6.reg HL.out; (obtain rfl : b' = b4 := by simpa using eb.symm); clear eb; have HS : Hid _ := hset x (by omega); clear hset x0 x1 x2 x3; obtain ⟨x0, x1, x2, x3⟩ := L6.blk.four)
      all_goals (
        go_wp2
        go_roundw
        case rel => exact ⟨k + 1, _, _, _, _, by omega, by go_num, by first | exact HS.out | exact HS.out.drew⟩
        case measure => simp [intOf]; omega)
    · obtain rfl : k = m := by omega
      obtain ⟨x0, x1, x2, x3⟩ := L5.blk.four
      obtain ⟨y0, y1, y2, y3⟩ := L5.res.four
      have fy := L5.res.fro
      have HH : Hid (LD w0 a cap zs w g a1 a2 a3 a4 k c1 c2 c3 c4 V wr cs is hs rs) := L5
      clear L5
      go_wp2
      refine bodyPost_ret (v := dv a1 a2 a3 a4 k k k k c1 c2 c3 c4) (by simp [results, Try.results73, go_sem, y0, y1, y2, y3]) rfl ?_
      have L := HH.out
      have hgR : g ≠ w.heap.size := by have := L.bd; omega
      have hwR : w0.heap.size ≤ w.heap.size := by have := L.bd; omega
      exact ⟨_, _, _, _, _, _, _, _, _, _, _, _, _, rfl, by omega, L.own.set4 ⟨_, L.res⟩ (by decide) (by decide), L.hr, L.rr, (((L.cur.setHi hgR hwR).setHi hgR hwR).setHi hgR hwR).setHi hgR hwR, grown_setHi (grown_setHi (grown_setHi (grown_setHi L.gr (Nat.le_refl _)) (Nat.le_refl _)) (Nat.le_refl _)) (Nat.le_refl _)⟩

end Go.Proofs.Ytfcbkollmhjdoaa
