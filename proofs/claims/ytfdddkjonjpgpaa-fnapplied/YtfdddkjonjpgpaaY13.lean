/- Texts that the proof needs, joined: Dev32 Ap6 Ap7 RefP ServP Ap5 At1 Ap9 SamR. -/
import Derived.Test.YtfdddkjonjpgpaaY11
import Derived.Test.YtfdddkjonjpgpaaY12
import Derived.Test.YtfdddkjonjpgpaaY10
import Derived.Test.YtfdddkjonjpgpaaY7
import Derived.Test.YtfdddkjonjpgpaaY8
import Derived.Test.YtfdddkjonjpgpaaY1
namespace Go.Proofs.Ytfdddkjonjpgpaa
open Go.RowKit
set_option linter.unusedVariables false
set_option linter.unusedSimpArgs false
theorem OwnD.setCoilD {w : World} {B k : Nat} {a1 a2 a3 a4 : Option Addr} {l1 l2 l3 l4 c1 c2 c3 c4 : Nat} {cs is : List Bool} {hs rs : List Int} (h : OwnD w B a1 a2 a3 a4 l1 l2 l3 l4 c1 c2 c3 c4 cs is hs rs) (hk : k < l1) :
    ∃ b, a1 = some ⟨b, 0, none⟩ ∧ B ≤ b ∧ b < w.heap.size ∧ w.cell? ⟨b, k, none⟩ = some (.bool (cs.getD k false)) ∧ w.frozen? ⟨b, k, none⟩ = false ∧
      ∀ x, OwnD (w.setCell ⟨b, k, none⟩ (.bool x)) B a1 a2 a3 a4 l1 l2 l3 l4 c1 c2 c3 c4 (cs.set k x) is hs rs := by
  obtain ⟨h1, h2, h3, h4, d12, d34⟩ := h
  obtain ⟨b, rfl, hB, hlt, hc, hf, hset⟩ := h1.place hk
  refine ⟨b, rfl, hB, hlt, hc, hf, fun x => ?_⟩
  have gr := grown_setj w b k (.bool x)
  have ob : (Value.slice (some ⟨b, 0, none⟩) l1 c1).ownBlock = some b := rfl
  exact ⟨hset x, World.ownsRow.kept h2 gr (ob ▸ d12.symm.ne), World.ownsRow.kept h3 gr (ob ▸ ne_types h3 h1 (by decide)), World.ownsRow.kept h4 gr (ob ▸ ne_types h4 h1 (by decide)), d12, d34⟩
theorem OwnD.setInput {w : World} {B k : Nat} {a1 a2 a3 a4 : Option Addr} {l1 l2 l3 l4 c1 c2 c3 c4 : Nat} {cs is : List Bool} {hs rs : List Int} (h : OwnD w B a1 a2 a3 a4 l1 l2 l3 l4 c1 c2 c3 c4 cs is hs rs) (hk : k < l2) :
    ∃ b, a2 = some ⟨b, 0, none⟩ ∧ B ≤ b ∧ b < w.heap.size ∧ w.cell? ⟨b, k, none⟩ = some (.bool (is.getD k false)) ∧ w.frozen? ⟨b, k, none⟩ = false ∧
      ∀ x, OwnD (w.setCell ⟨b, k, none⟩ (.bool x)) B a1 a2 a3 a4 l1 l2 l3 l4 c1 c2 c3 c4 cs (is.set k x) hs rs := by
  obtain ⟨h1, h2, h3, h4, d12, d34⟩ := h
  obtain ⟨b, rfl, hB, hlt, hc, hf, hset⟩ := h2.place hk
  refine ⟨b, rfl, hB, hlt, hc, hf, fun x => ?_⟩
  have gr := grown_setj w b k (.bool x)
  have ob : (Value.slice (some ⟨b, 0, none⟩) l2 c2).ownBlock = some b := rfl
  exact ⟨World.ownsRow.kept h1 gr (ob ▸ d12.ne), hset x, World.ownsRow.kept h3 gr (ob ▸ ne_types h3 h2 (by decide)), World.ownsRow.kept h4 gr (ob ▸ ne_types h4 h2 (by decide)), d12, d34⟩
theorem OwnD.setHold {w : World} {B k : Nat} {a1 a2 a3 a4 : Option Addr} {l1 l2 l3 l4 c1 c2 c3 c4 : Nat} {cs is : List Bool} {hs rs : List Int} (h : OwnD w B a1 a2 a3 a4 l1 l2 l3 l4 c1 c2 c3 c4 cs is hs rs) (hk : k < l3) :
    ∃ b, a3 = some ⟨b, 0, none⟩ ∧ B ≤ b ∧ b < w.heap.size ∧ w.cell? ⟨b, k, none⟩ = some (.int .i64 (hs.getD k 0)) ∧ w.frozen? ⟨b, k, none⟩ = false ∧
      ∀ x, OwnD (w.setCell ⟨b, k, none⟩ (.int .i64 x)) B a1 a2 a3 a4 l1 l2 l3 l4 c1 c2 c3 c4 cs is (hs.set k x) rs := by
  obtain ⟨b, e, hB, hlt, hc, hf, hset⟩ := h.setWord hk
  exact ⟨b, e, hB, hlt, hc, hf, fun x => (hset x).1⟩
theorem OwnD.setReg {w : World} {B k : Nat} {a1 a2 a3 a4 : Option Addr} {l1 l2 l3 l4 c1 c2 c3 c4 : Nat} {cs is : List Bool} {hs rs : List Int} (h : OwnD w B a1 a2 a3 a4 l1 l2 l3 l4 c1 c2 c3 c4 cs is hs rs) (hk : k < l4) :
    ∃ b, a4 = some ⟨b, 0, none⟩ ∧ B ≤ b ∧ b < w.heap.size ∧ w.cell? ⟨b, k, none⟩ = some (.int .i64 (rs.getD k 0)) ∧ w.frozen? ⟨b, k, none⟩ = false ∧
      ∀ x, OwnD (w.setCell ⟨b, k, none⟩ (.int .i64 x)) B a1 a2 a3 a4 l1 l2 l3 l4 c1 c2 c3 c4 cs is hs (rs.set k x) := by
  obtain ⟨h1, h2, h3, h4, d12, d34⟩ := h
  obtain ⟨b, rfl, hB, hlt, hc, hf, hset⟩ := h4.place hk
  refine ⟨b, rfl, hB, hlt, hc, hf, fun x => ?_⟩
  have gr := grown_setj w b k (.int .i64 x)
  have ob : (Value.slice (some ⟨b, 0, none⟩) l4 c4).ownBlock = some b := rfl
  exact ⟨World.ownsRow.kept h1 gr (ob ▸ ne_types h1 h4 (by decide)), World.ownsRow.kept h2 gr (ob ▸ ne_types h2 h4 (by decide)), World.ownsRow.kept h3 gr (ob ▸ d34.ne), hset x, d12, d34⟩
theorem OwnD.keptG {w u : World} {B g : Nat} {a1 a2 a3 a4 : Option Addr} {l1 l2 l3 l4 c1 c2 c3 c4 : Nat} {cs is : List Bool} {hs rs : List Int} (h : OwnD w B a1 a2 a3 a4 l1 l2 l3 l4 c1 c2 c3 c4 cs is hs rs) (gr : w.grownBy u (some g)) (hg : g < B) :
    OwnD u B a1 a2 a3 a4 l1 l2 l3 l4 c1 c2 c3 c4 cs is hs rs :=
  ⟨World.ownsRow.kept h.1 gr (row_ne_g h.1 hg), World.ownsRow.kept h.2.1 gr (row_ne_g h.2.1 hg), World.ownsRow.kept h.2.2.1 gr (row_ne_g h.2.2.1 hg), World.ownsRow.kept h.2.2.2.1 gr (row_ne_g h.2.2.2.1 hg), h.2.2.2.2⟩
def DrawnD (w0 : World) (a : Option Addr) (cap : Nat) (zs : List Int) (w : World) (g : Nat) (e : Ending) (w' : World) : Prop :=
  ∃ (a1 a2 a3 a4 : Option Addr) (m c1 c2 c3 c4 : Nat) (cs is : List Bool) (hs rs : List Int), e = .returned (dv a1 a2 a3 a4 m m m m c1 c2 c3 c4) ∧ m ≤ 64 ∧ OwnD w' w.heap.size a1 a2 a3 a4 m m m m c1 c2 c3 c4 cs is hs rs ∧ (∀ x ∈ hs, 0 ≤ x ∧ x ≤ 65535) ∧ (∀ x ∈ rs, 0 ≤ x ∧ x ≤ 65535) ∧ Cur w0 a cap zs w' g ∧ w.grownBy w' (some g)
structure LD (w0 : World) (a : Option Addr) (cap : Nat) (zs : List Int) (w : World) (g : Nat) (a1 a2 a3 a4 : Option Addr) (m c1 c2 c3 c4 V : Nat) (u : World) (cs is : List Bool) (hs rs : List Int) : Prop where
  own : OwnD u w.heap.size a1 a2 a3 a4 m m m m c1 c2 c3 c4 cs is hs rs
  hr : ∀ x ∈ hs, 0 ≤ x ∧ x ≤ 65535
  rr : ∀ x ∈ rs, 0 ≤ x ∧ x ≤ 65535
  cur : Cur w0 a cap zs u g
  gr : w.grownBy u (some g)
  blk : Blk u V 27 #[.slice a1 m c1, .slice a2 m c2, .slice a3 m c3, .slice a4 m c4]
  res : Blk u w.heap.size 27 #[.slice none 0 0, .slice none 0 0, .slice none 0 0, .slice none 0 0]
  bd : g < w.heap.size ∧ w0.heap.size ≤ g ∧ w.heap.size < V
theorem LD.drew {w0 : World} {a : Option Addr} {cap : Nat} {zs : List Int} {w : World} {g : Nat} {a1 a2 a3 a4 : Option Addr} {m c1 c2 c3 c4 V : Nat} {u : World} {cs is : List Bool} {hs rs : List Int} (h : LD w0 a cap zs w g a1 a2 a3 a4 m c1 c2 c3 c4 V u cs is hs rs) : LD w0 a cap zs w g a1 a2 a3 a4 m c1 c2 c3 c4 V u.drew cs is hs rs :=
  ⟨h.own.drew, h.hr, h.rr, h.cur.drewN 1, ⟨h.gr.os, h.gr.tape, h.gr.output, h.gr.size, h.gr.block⟩, h.blk.drew, h.res.drew, h.bd⟩
theorem LD.call {w0 : World} {a : Option Addr} {cap : Nat} {zs : List Int} {w : World} {g : Nat} {a1 a2 a3 a4 : Option Addr} {m c1 c2 c3 c4 V : Nat} {u t : World} {cs is : List Bool} {hs rs : List Int} (h : LD w0 a cap zs w g a1 a2 a3 a4 m c1 c2 c3 c4 V u cs is hs rs) (hC : Cur w0 a cap zs t g) (hg : u.grownBy t (some g)) : LD w0 a cap zs w g a1 a2 a3 a4 m c1 c2 c3 c4 V t cs is hs rs :=
  ⟨h.own.keptG hg h.bd.1, h.hr, h.rr, hC, grown_trans h.gr hg, h.blk.grown hg (by have := h.bd; simp; omega), h.res.grown hg (by have := h.bd; simp; omega), h.bd⟩
theorem mem_set {l : List Int} {k : Nat} {x : Int} (h : ∀ y ∈ l, 0 ≤ y ∧ y ≤ 65535) (hx : 0 ≤ x ∧ x ≤ 65535) : ∀ y ∈ l.set k x, 0 ≤ y ∧ y ≤ 65535 := by
  intro y hy
  rcases List.mem_or_eq_of_mem_set hy with h1 | h1
  · exact h y h1
  · exact h1 ▸ hx
theorem LD.coil {w0 : World} {a : Option Addr} {cap : Nat} {zs : List Int} {w : World} {g : Nat} {a1 a2 a3 a4 : Option Addr} {m c1 c2 c3 c4 V : Nat} {u : World} {cs is : List Bool} {hs rs : List Int} {k : Nat} (h : LD w0 a cap zs w g a1 a2 a3 a4 m c1 c2 c3 c4 V u cs is hs rs) (hk : k < m) :
    ∃ b, a1 = some ⟨b, 0, none⟩ ∧ u.cell? ⟨b, k, none⟩ = some (.bool (cs.getD k false)) ∧ u.frozen? ⟨b, k, none⟩ = false ∧ ∀ x, LD w0 a cap zs w g a1 a2 a3 a4 m c1 c2 c3 c4 V (u.setCell ⟨b, k, none⟩ (.bool x)) (cs.set k x) is hs rs := by
  obtain ⟨b, e, hB, hlt, hc, hf, hset⟩ := h.own.setCoilD hk
  refine ⟨b, e, hc, hf, fun x => ⟨hset x, h.hr, h.rr, h.cur.setHi (by have := h.bd; omega) (by have := h.bd; omega), grown_setHi h.gr hB, h.blk.setNe ?_, h.res.setNe ?_, h.bd⟩⟩
  · intro e2
    subst e2
    exact h.own.noBlk h.blk (by decide) (by decide) (.inl (by rw [e]; rfl))
  · intro e2
    subst e2
    exact h.own.noBlk h.res (by decide) (by decide) (.inl (by rw [e]; rfl))
theorem LD.input {w0 : World} {a : Option Addr} {cap : Nat} {zs : List Int} {w : World} {g : Nat} {a1 a2 a3 a4 : Option Addr} {m c1 c2 c3 c4 V : Nat} {u : World} {cs is : List Bool} {hs rs : List Int} {k : Nat} (h : LD w0 a cap zs w g a1 a2 a3 a4 m c1 c2 c3 c4 V u cs is hs rs) (hk : k < m) :
    ∃ b, a2 = some ⟨b, 0, none⟩ ∧ u.cell? ⟨b, k, none⟩ = some (.bool (is.getD k false)) ∧ u.frozen? ⟨b, k, none⟩ = false ∧ ∀ x, LD w0 a cap zs w g a1 a2 a3 a4 m c1 c2 c3 c4 V (u.setCell ⟨b, k, none⟩ (.bool x)) cs (is.set k x) hs rs := by
  obtain ⟨b, e, hB, hlt, hc, hf, hset⟩ := h.own.setInput hk
  refine ⟨b, e, hc, hf, fun x => ⟨hset x, h.hr, h.rr, h.cur.setHi (by have := h.bd; omega) (by have := h.bd; omega), grown_setHi h.gr hB, h.blk.setNe ?_, h.res.setNe ?_, h.bd⟩⟩
  · intro e2
    subst e2
    exact h.own.noBlk h.blk (by decide) (by decide) (.inr (.inl (by rw [e]; rfl)))
  · intro e2
    subst e2
    exact h.own.noBlk h.res (by decide) (by decide) (.inr (.inl (by rw [e]; rfl)))
theorem LD.hold {w0 : World} {a : Option Addr} {cap : Nat} {zs : List Int} {w : World} {g : Nat} {a1 a2 a3 a4 : Option Addr} {m c1 c2 c3 c4 V : Nat} {u : World} {cs is : List Bool} {hs rs : List Int} {k : Nat} (h : LD w0 a cap zs w g a1 a2 a3 a4 m c1 c2 c3 c4 V u cs is hs rs) (hk : k < m) :
    ∃ b, a3 = some ⟨b, 0, none⟩ ∧ u.cell? ⟨b, k, none⟩ = some (.int .i64 (hs.getD k 0)) ∧ u.frozen? ⟨b, k, none⟩ = false ∧ ∀ x, 0 ≤ x ∧ x ≤ 65535 → LD w0 a cap zs w g a1 a2 a3 a4 m c1 c2 c3 c4 V (u.setCell ⟨b, k, none⟩ (.int .i64 x)) cs is (hs.set k x) rs := by
  obtain ⟨b, e, hB, hlt, hc, hf, hset⟩ := h.own.setHold hk
  refine ⟨b, e, hc, hf, fun x hx => ⟨hset x, mem_set h.hr hx, h.rr, h.cur.setHi (by have := h.bd; omega) (by have := h.bd; omega), grown_setHi h.gr hB, h.blk.setNe ?_, h.res.setNe ?_, h.bd⟩⟩
  · intro e2
    subst e2
    exact h.own.noBlk h.blk (by decide) (by decide) (.inr (.inr (.inl (by rw [e]; rfl))))
  · intro e2
    subst e2
    exact h.own.noBlk h.res (by decide) (by decide) (.inr (.inr (.inl (by rw [e]; rfl))))
theorem LD.reg {w0 : World} {a : Option Addr} {cap : Nat} {zs : List Int} {w : World} {g : Nat} {a1 a2 a3 a4 : Option Addr} {m c1 c2 c3 c4 V : Nat} {u : World} {cs is : List Bool} {hs rs : List Int} {k : Nat} (h : LD w0 a cap zs w g a1 a2 a3 a4 m c1 c2 c3 c4 V u cs is hs rs) (hk : k < m) :
    ∃ b, a4 = some ⟨b, 0, none⟩ ∧ u.cell? ⟨b, k, none⟩ = some (.int .i64 (rs.getD k 0)) ∧ u.frozen? ⟨b, k, none⟩ = false ∧ ∀ x, 0 ≤ x ∧ x ≤ 65535 → LD w0 a cap zs w g a1 a2 a3 a4 m c1 c2 c3 c4 V (u.setCell ⟨b, k, none⟩ (.int .i64 x)) cs is hs (rs.set k x) := by
  obtain ⟨b, e, hB, hlt, hc, hf, hset⟩ := h.own.setReg hk
  refine ⟨b, e, hc, hf, fun x hx => ⟨hset x, h.hr, mem_set h.rr hx, h.cur.setHi (by have := h.bd; omega) (by have := h.bd; omega), grown_setHi h.gr hB, h.blk.setNe ?_, h.res.setNe ?_, h.bd⟩⟩
  · intro e2
    subst e2
    exact h.own.noBlk h.blk (by decide) (by decide) (.inr (.inr (.inr (by rw [e]; rfl))))
  · intro e2
    subst e2
    exact h.own.noBlk h.res (by decide) (by decide) (.inr (.inr (.inr (by rw [e]; rfl))))
set_option maxRecDepth 20000 in
set_option maxHeartbeats 1000000 in
theorem l5Draw_any (w0 : World) (a : Option Addr) (cap : Nat) (zs : List Int) (w : World) (g : Nat) (hC : Cur w0 a cap zs w g) :
    Calls Try.prog 26 #[.pointer (some ⟨g, 0, none⟩)] w fun e w' => DrawnD w0 a cap zs w g e w' := by
  obtain ⟨W0, hW0⟩ : ∃ W0, W0 = w.alloc (.cells #[.slice none 0 0, .slice none 0 0, .slice none 0 0, .slice none 0 0] 27) := ⟨_, rfl⟩
  have HW : Hid (W0 = _) := hW0
  have hg := hC.hi
  have hlo := hC.lo
  have C0 : Cur w0 a cap zs W0 g := by rw [hW0]; exact hC.alloc _
  have G0 : w.grownBy W0 (some g) := by rw [hW0]; exact World.grownBy_alloc _ _ _
  have R0 : Blk W0 w.heap.size 27 #[.slice none 0 0, .slice none 0 0, .slice none 0 0, .slice none 0 0] := by rw [hW0]; exact Blk.new _ _ _
  have I1 := ints_lit W0 [20, 20, 12, 40, 5, 64] 3
  have C1 := C0.alloc (.cells ([20, 20, 12, 40, 5, 64].map (Value.int .i64)).toArray 3)
  have G1 : w.grownBy (W0.alloc (.cells ([20, 20, 12, 40, 5, 64].map (Value.int .i64)).toArray 3)) (some g) := grown_trans G0 (World.grownBy_alloc _ _ _)
  have R1 := R0.below (bel_alloc W0 (.cells ([20, 20, 12, 40, 5, 64].map (Value.int .i64)).toArray 3))
  have hne1 : W0.heap.size ≠ g := by have := C0.hi; omega
  have HGR : Hid (g < w.heap.size ∧ w0.heap.size ≤ g) := ⟨hg, hlo⟩
  clear hC hW0 C0 G0 R0 hlo
  go_enter Try.func26, Try.ntmps26
  go_upto_region 1 with fail
  rw [← HW.out]
  go_wp2_with fail
  refine (l1Int_any w0 a cap zs _ g ⟨W0.heap.size, 0, none⟩ 6 6 [20, 20, 12, 40, 5, 64] rfl (by omega) (by omega) I1 hne1 C1).mono ?_
  rintro e u1 ⟨n, rfl, hn, C2, g2⟩
  have G2 := grown_trans G1 g2
  have R2 := R1.grown g2 (by simp; omega)
  have hnn : 0 ≤ n ∧ n ≤ 64 := by simp at hn; omega
  obtain ⟨m, rfl⟩ : ∃ m : Nat, n = (m : Int) := ⟨n.toNat, by omega⟩
  have hm : m ≤ 64 := by omega
  have HDN : Hid (dnN (m : Int) = m) := by unfold dnN; show (if _ then _ else _) = m; rw [if_pos ⟨by omega, by omega⟩]; simp
  clear I1 C1 G1 R1 g2 hne1 hn hnn
  go_wp2_with fail
  refine (specNew_any (m : Int) m HDN.out _).mono ?_
  rintro e u2 ⟨a1, a2, a3, a4, l1, l2, l3, l4, c1, c2, c3, c4, rfl, D3, b'⟩
  obtain rfl : l1 = m := by have := D3.sl.1.1; simpa using this
  obtain rfl : l2 = l1 := by have := D3.sl.1.2.1; simpa using this
  obtain rfl : l3 = l2 := by have := D3.sl.1.2.2.1; simpa using this
  obtain rfl : l4 = l3 := by have := D3.sl.1.2.2.2; simpa using this
  generalize hl : l4 = m at *
  have D3 := D3.mono G2.size
  have C3 := C2.grown (grown_below b' none) (by simp) (by simp)
  have G3 := grown_trans G2 (grown_below b' (some g))
  have R3 := R2.below b'
  clear C2 G2 R2 b'
  have BD : Below u2.heap.size u2 (u2.alloc (.cells #[.slice a1 m c1, .slice a2 m c2, .slice a3 m c3, .slice a4 m c4] 27)) := bel_alloc _ _
  have X4 := Blk.new u2 #[.slice a1 m c1, .slice a2 m c2, .slice a3 m c3, .slice a4 m c4] 27
  obtain ⟨V, hV⟩ : ∃ V, V = u2.heap.size := ⟨_, rfl⟩
  have hVw : w.heap.size < V := by have := R3.lt; omega
  have L4 : LD w0 a cap zs w g a1 a2 a3 a4 m c1 c2 c3 c4 V (u2.alloc (.cells #[.slice a1 m c1, .slice a2 m c2, .slice a3 m c3, .slice a4 m c4] 27)) (List.replicate m false) (List.replicate m false) (List.replicate m 0) (List.replicate m 0) :=
    ⟨D3.below BD, fun x hx => by rw [List.eq_of_mem_replicate hx]; omega, fun x hx => by rw [List.eq_of_mem_replicate hx]; omega, C3.alloc _, grown_trans G3 (grown_below BD (some g)), by rw [hV]; exact X4, R3.below BD, ⟨HGR.out.1, HGR.out.2, hVw⟩⟩
  have HV : Hid (V = u2.heap.size) := hV
  clear C3 G3 R3 D3 BD hV X4
  go_upto_region 3 with fail
  simp only [← HV.out]
  go_loopw [4] (fun i wr => ∃ (k : Nat) (cs is : List Bool) (hs rs : List Int), k ≤ m ∧ i = .int .i64 k ∧ LD w0 a cap zs w g a1 a2 a3 a4 m c1 c2 c3 c4 V wr cs is hs rs) (fun i _ => m - (intOf i).toNat)
  case atStart => exact ⟨0, _, _, _, _, Nat.zero_le _, rfl, L4⟩
  case round =>
    obtain ⟨k, cs, is, hs, rs, hk, rfl, L5⟩ := hrel
    clear L4
    by_cases hlt : k < m
    · skip
      have hi' : (k : Int) < (m : Int) := by omega
      have HL : Hid (k < m) := hlt
      obtain ⟨b1, e1, _⟩ := L5.coil hlt
      obtain ⟨b2, e2, _⟩ := L5.input hlt
      obtain ⟨b3, e3, _⟩ := L5.hold hlt
      obtain ⟨b4, e4, _⟩ := L5.reg hlt
      subst e1 e2 e3 e4
      obtain ⟨x0, x1, x2, x3⟩ := L5.blk.four
      go_upto_region 5 with fail
      go_cut [] from 9 to 39 (fun wx => ∃ (cs is : List Bool) (hs rs : List Int), LD w0 a cap zs w g (some ⟨b1, 0, none⟩) (some ⟨b2, 0, none⟩) (some ⟨b3, 0, none⟩) (some ⟨b4, 0, none⟩) m c1 c2 c3 c4 V wx cs is hs rs)
      case first =>
        go_region_with (go_at_call 56; refine (l1Once_any w0 a cap zs _ g 2 (by decide) (by first | exact L5.cur | exact L5.cur.drewN 1 | exact L5.cur.drewN 2)).mono ?_; rintro e t ⟨x, rfl, C', g'⟩; have L6 := LD.call (by first | exact L5 | exact L5.drew | exact L5.drew.drew) C' g'; clear L5 C' g'; obtain ⟨b', eb, hc, hf, hset⟩ := L6.coil HL.out; (obtain rfl : b' = b1 := by simpa using eb.symm); clear eb; have HS : Hid _ := hset x; clear hset x0 x1 x2 x3; obtain ⟨x0, x1, x2, x3⟩ := L6.blk.four)
        all_goals (
          go_wp2_with fail
          go_meet
          case rel => exact ⟨_, _, _, _, by first | exact HS.out | exact HS.out.drew⟩)
      case rest =>
      obtain ⟨cs, is, hs, rs, L5⟩ := hcut
      obtain ⟨x0, x1, x2, x3⟩ := L5.blk.four
      go_upto_region 6 with fail
      go_cut [] from 9 to 39 (fun wx => ∃ (cs is : List Bool) (hs rs : List Int), LD w0 a cap zs w g (some ⟨b1, 0, none⟩) (some ⟨b2, 0, none⟩) (some ⟨b3, 0, none⟩) (some ⟨b4, 0, none⟩) m c1 c2 c3 c4 V wx cs is hs rs)
      case first =>
        go_region_with (go_at_call 56; refine (l1Once_any w0 a cap zs _ g 2 (by decide) (by first | exact L5.cur | exact L5.cur.drewN 1 | exact L5.cur.drewN 2)).mono ?_; rintro e t ⟨x, rfl, C', g'⟩; have L6 := LD.call (by first | exact L5 | exact L5.drew | exact L5.drew.drew) C' g'; clear L5 C' g'; obtain ⟨b', eb, hc, hf, hset⟩ := L6.input HL.out; (obtain rfl : b' = b2 := by simpa using eb.symm); clear eb; have HS : Hid _ := hset x; clear hset x0 x1 x2 x3; obtain ⟨x0, x1, x2, x3⟩ := L6.blk.four)
        all_goals (
          go_wp2_with fail
          go_meet
          case rel => exact ⟨_, _, _, _, by first | exact HS.out | exact HS.out.drew⟩)
      case rest =>
      obtain ⟨cs, is, hs, rs, L5⟩ := hcut
      obtain ⟨x0, x1, x2, x3⟩ := L5.blk.four
      go_upto_region 7 with fail
      go_cut [] from 9 to 39 (fun wx => ∃ (cs is : List Bool) (hs rs : List Int), LD w0 a cap zs w g (some ⟨b1, 0, none⟩) (some ⟨b2, 0, none⟩) (some ⟨b3, 0, none⟩) (some ⟨b4, 0, none⟩) m c1 c2 c3 c4 V wx cs is hs rs)
      case first =>
        go_region_with (go_at_call 27; refine (l1Below_any w0 a cap zs _ g 65536 (by decide) (by first | exact L5.cur | exact L5.cur.drewN 1 | exact L5.cur.drewN 2)).mono ?_; rintro e t ⟨x, rfl, hx', C', g'⟩; have L6 := LD.call (by first | exact L5 | exact L5.drew | exact L5.drew.drew) C' g'; clear L5 C' g'; obtain ⟨b', eb, hc, hf, hset⟩ := L6.hold HL.out; (obtain rfl : b' = b3 := by simpa using eb.symm); clear eb; have HS : Hid _ := hset x (by omega); clear hset x0 x1 x2 x3; obtain ⟨x0, x1, x2, x3⟩ := L6.blk.four)
        all_goals (
          go_wp2_with fail
          go_meet
          case rel => exact ⟨_, _, _, _, by first | exact HS.out | exact HS.out.drew⟩)
      case rest =>
      obtain ⟨cs, is, hs, rs, L5⟩ := hcut
      obtain ⟨x0, x1, x2, x3⟩ := L5.blk.four
      go_upto_region 8 with fail
      go_region_with (go_at_call 27; refine (l1Below_any w0 a cap zs _ g 65536 (by decide) (by first | exact L5.cur | exact L5.cur.drewN 1 | exact L5.cur.drewN 2)).mono ?_; rintro e t ⟨x, rfl, hx', C', g'⟩; have L6 := LD.call (by first | exact L5 | exact L5.drew | exact L5.drew.drew) C' g'; clear L5 C' g'; obtain ⟨b', eb, hc, hf, hset⟩ := L6.reg HL.out; (obtain rfl : b' = b4 := by simpa using eb.symm); clear eb; have HS : Hid _ := hset x (by omega); clear hset x0 x1 x2 x3; obtain ⟨x0, x1, x2, x3⟩ := L6.blk.four)
      all_goals (
        go_wp2
        go_roundw
        case rel => exact ⟨k + 1, _, _, _, _, by omega, by go_num, by first | exact HS.out | exact HS.out.drew⟩
        case measure => simp [intOf]; omega)
    · obtain rfl : k = m := by omega
      obtain ⟨x0, x1, x2, x3⟩ := L5.blk.four
      obtain ⟨y0, y1, y2, y3⟩ := L5.res.four
      have fy := L5.res.fro
      have HH : Hid (LD w0 a cap zs w g a1 a2 a3 a4 k c1 c2 c3 c4 V wr cs is hs rs) := L5
      clear L5
      go_wp2
      refine bodyPost_ret (v := dv a1 a2 a3 a4 k k k k c1 c2 c3 c4) (by simp [results, Try.results26, go_sem, y0, y1, y2, y3]) rfl ?_
      have L := HH.out
      have hgR : g ≠ w.heap.size := by have := L.bd; omega
      have hwR : w0.heap.size ≤ w.heap.size := by have := L.bd; omega
      exact ⟨_, _, _, _, _, _, _, _, _, _, _, _, _, rfl, by omega, L.own.set4 ⟨_, L.res⟩ (by decide) (by decide), L.hr, L.rr, (((L.cur.setHi hgR hwR).setHi hgR hwR).setHi hgR hwR).setHi hgR hwR, grown_setHi (grown_setHi (grown_setHi (grown_setHi L.gr (Nat.le_refl _)) (Nat.le_refl _)) (Nat.le_refl _)) (Nat.le_refl _)⟩
end Go.Proofs.Ytfdddkjonjpgpaa
namespace Go.Proofs.Ytfdddkjonjpgpaa
open Go.RowKit Go.Joins
set_option linter.unusedVariables false
set_option linter.unusedSimpArgs false
def QvAt (w : World) (base : Nat) (vs : List Value) (X : VQ) : Prop :=
  ∃ a1 c1 a2 c2, vs = qL X a1 X.ws.length c1 a2 X.bs.length c2 ∧ OwnI w base (.slice a1 X.ws.length c1) X.ws ∧ OwnB w base (.slice a2 X.bs.length c2) X.bs
theorem QvAt.len {w : World} {base : Nat} {vs : List Value} {X : VQ} (h : QvAt w base vs X) : vs.length = 6 := by
  obtain ⟨a1, c1, a2, c2, rfl, _⟩ := h
  rfl
theorem QvAt.keptR {w w' : World} {base s n b : Nat} {v : Value} {xs vs : List Value} {X : VQ} (h : QvAt w base vs X) (ho : w.ownsRow b 57 s v n xs) (hg : w.grownBy w' v.ownBlock) : QvAt w' base vs X := by
  obtain ⟨a1, c1, a2, c2, h1, h2, h3⟩ := h
  exact ⟨a1, c1, a2, c2, h1, World.ownsRow.kept h2 hg (ne_typesE h2 ho (by decide)), World.ownsRow.kept h3 hg (ne_typesE h3 ho (by decide))⟩
def LsQ (w : World) (base : Nat) (v : Value) (n : Nat) (f : Nat → VQ) : Prop :=
  ∃ F, w.ownsRow base 57 6 v n ((List.range n).flatMap F) ∧ ∀ k, k < n → QvAt w base (F k) (f k)
theorem LsQ.below {w w' : World} {base n : Nat} {v : Value} {f : Nat → VQ} (h : LsQ w base v n f) (hb : Below w.heap.size w w') : LsQ w' base v n f := by
  obtain ⟨F, h1, h2⟩ := h
  refine ⟨F, row_belV h1 hb, fun k hk => ?_⟩
  obtain ⟨a1, c1, a2, c2, e, o1, o2⟩ := h2 k hk
  exact ⟨a1, c1, a2, c2, e, o1.below hb, o2.below hb⟩
theorem LsQ.rd {w : World} {base n m c : Nat} {a : Option Addr} {f : Nat → VQ} (h : LsQ w base (.slice a m c) n f) (hn : n ≤ 2000000) (hl : ∀ k, k < n → (f k).ws.length ≤ 3000000 ∧ (f k).bs.length ≤ 3000000) : m = n ∧ Rd w 0 (.list 6 n (fun i => trs (qT (f i)))) (.slice a m c) := by
  obtain ⟨F, h1, h2⟩ := h
  rcases h1.2 with ⟨hv, h0⟩ | ⟨g, cap, cur, hv, hb, hh, hle, hm, hs, ht⟩
  · simp only [Value.slice.injEq] at hv
    obtain ⟨rfl, rfl, rfl⟩ := hv
    subst h0
    exact ⟨rfl, none, 0, rfl, Nat.le_refl _, Nat.zero_le _, .inl rfl⟩
  · simp only [Value.slice.injEq] at hv
    obtain ⟨rfl, rfl, rfl⟩ := hv
    have hlt : g < w.heap.size := (Array.getElem?_eq_some_iff.1 hh).1
    refine ⟨rfl, _, c, rfl, hle, by unfold maxLen; omega, .inr ⟨g, 0, F, rfl, Nat.zero_le _, hlt, fun k hk => ⟨(h2 k hk).len, fun j v hj => ?_⟩⟩⟩
    have hj6 : j < 6 := by have := (List.getElem?_eq_some_iff.1 hj).1; rw [(h2 k hk).len] at this; exact this
    have hkl : k * 6 + j < m * 6 := by omega
    have hc : w.cell? ⟨g, 0 + k * 6 + j, none⟩ = some v := by
      rw [Nat.zero_add, ← hj, ← rfl_atV F 6 m (fun k hk => (h2 k hk).len) k j hk hj6, ← ht, List.getElem?_take, if_pos hkl, Array.getElem?_toList]
      simp [World.cell?, hh]
    refine ⟨hc, ?_⟩
    obtain ⟨a1, c1, a2, c2, e, o1, o2⟩ := h2 k hk
    rw [e] at hj
    have hl' := hl k hk
    have cap1 : (f k).ws.length ≤ c1 := by
      rcases o1.2 with ⟨e, h0⟩ | ⟨_, _, _, e, _, _, hle, _⟩
      · simp only [Value.slice.injEq] at e; omega
      · simp only [Value.slice.injEq] at e; omega
    have cap2 : (f k).bs.length ≤ c2 := by
      rcases o2.2 with ⟨e, h0⟩ | ⟨_, _, _, e, _, _, hle, _⟩
      · simp only [Value.slice.injEq] at e; omega
      · simp only [Value.slice.injEq] at e; omega
    exact VQ.back ((o1.rd cap1 (by unfold maxLen; omega)).mono (Nat.zero_le _)) ((o2.rd cap2 (by unfold maxLen; omega)).mono (Nat.zero_le _)) j v hj
theorem wpList_appQ {w : World} {ops : Array Oper} {rest : List Oper} {o : Oper} {a : Act} {Q : Exit → Act → World → Prop} (hgd : o.guard = none) (s x : Operand)
    (ho : o.op = .call { callee := .builtin .append, args := #[s, x], argTypes := #[28, 28] }) (base : Nat) (v : Value) (n : Nat) (f : Nat → VQ) (hs : a.eval s = v) (hown : LsQ w base v n f)
    (g c : Nat) (a1 : Option Addr) (c1 : Nat) (a2 : Option Addr) (c2 : Nat) (hx : a.eval x = .slice (some ⟨g, 0, none⟩) 1 c) (hb : Blk w g 57 (qL (f n) a1 (f n).ws.length c1 a2 (f n).bs.length c2).toArray) (o1 : OwnI w base (.slice a1 (f n).ws.length c1) (f n).ws) (o2 : OwnB w base (.slice a2 (f n).bs.length c2) (f n).bs) (hlen : n ≤ 2000000) (hbase : base ≤ w.heap.size)
    (h : ∀ v' w', LsQ w' base v' (n + 1) f → w.grownBy w' v.ownBlock → (∀ k, v.ownBlock = some k → base ≤ k) → (∀ k, v.ownBlock = some k → ∃ cs, w.heap[k]? = some (.cells cs 57 (0, 0))) → wpList Try.prog ops Q rest (a.put o.dst v') w') : wpList Try.prog ops Q (o :: rest) a w := by
  obtain ⟨F, r1, r2⟩ := hown
  have hinfo : (Try.prog.info? 57).map (fun i => (i.zero, i.size, i.bytes)) = some (some (.agg #[.int .i64 0, .int .i64 0, .int .i64 0, .slice none 0 0, .slice none 0 0, .int .i64 0]), 6, 80) := by kernel_rfl
  obtain ⟨i0, hi, hzz⟩ := Option.map_eq_some_iff.1 hinfo
  simp only [Prod.mk.injEq] at hzz
  obtain ⟨hz0, hz1, hz2⟩ := hzz
  refine wpList_append_own w hgd s x 28 ho base 57 i0 _ 6 80 Try.underlying28 hi hz0 hz1 hz2 rfl (by decide) v n ((List.range n).flatMap F) hs r1 ⟨g, 0, none⟩ 1 c (qL (f n) a1 (f n).ws.length c1 a2 (f n).bs.length c2) hx rfl (fun j u hu => by
    have e1 : (⟨g, 0, none⟩ : Addr).add j = ⟨g, j, none⟩ := by unfold Addr.add; split <;> simp_all
    rw [e1]
    exact hb.cell j (by simpa using hu)) (fun u hu => by simp at hu; rcases hu with rfl | rfl | rfl | rfl | rfl | rfl <;> rfl) (by unfold maxLen; omega) (by omega) hbase ?_
  intro v' w' h1 h2 _
  refine h v' w' ⟨fun k => if k = n then qL (f n) a1 (f n).ws.length c1 a2 (f n).bs.length c2 else F k, ?_, fun k hk => ?_⟩ h2 (fun k hk => (World.ownsRow.lt r1 k hk).1) (fun k hk => ?_)
  · rw [rfl_pushV]; exact h1
  · by_cases e : k = n
    · subst e
      simp only [if_true]
      exact ⟨a1, c1, a2, c2, rfl, World.ownsRow.kept o1 h2 (ne_typesE o1 r1 (by decide)), World.ownsRow.kept o2 h2 (ne_typesE o2 r1 (by decide))⟩
    · simp only [if_neg e]
      exact (r2 k (by omega)).keptR r1 h2
  · rcases r1.2 with ⟨hv, _⟩ | ⟨g', cap, cur, hv, _, hh, _⟩
    · rw [hv] at hk; simp [Value.ownBlock] at hk
    · rw [hv] at hk
      simp only [Value.ownBlock, Option.some.injEq] at hk
      subst hk
      exact ⟨cur, hh⟩
theorem LsQ.shape {w : World} {base n : Nat} {v : Value} {f : Nat → VQ} (h : LsQ w base v n f) : ∃ a c, v = .slice a n c := by
  obtain ⟨F, h1, _⟩ := h
  rcases h1.2 with ⟨rfl, h0⟩ | ⟨g, cap, cur, rfl, _⟩
  · exact ⟨none, 0, by rw [h0]⟩
  · exact ⟨_, cap, rfl⟩
theorem LsQ.congr {w : World} {base n : Nat} {v : Value} {f f' : Nat → VQ} (h : LsQ w base v n f) (he : ∀ k, k < n → f k = f' k) : LsQ w base v n f' := by
  obtain ⟨F, h1, h2⟩ := h
  exact ⟨F, h1, fun k hk => by rw [← he k hk]; exact h2 k hk⟩
theorem LsQ.keptLt {w w' : World} {base n g : Nat} {v : Value} {f : Nat → VQ} (h : LsQ w base v n f) (gw : w.grownBy w' (some g)) (hg : g < base) : LsQ w' base v n f := by
  obtain ⟨F, r1, r2⟩ := h
  have ne : ∀ {e : TypeId} {s m : Nat} {u : Value} {xs : List Value}, w.ownsRow base e s u m xs → u.ownBlock = none ∨ u.ownBlock ≠ some g := fun hr => .inr (fun e => by have := (World.ownsRow.lt hr g e).1; omega)
  refine ⟨F, World.ownsRow.kept r1 gw (ne r1), fun k hk => ?_⟩
  obtain ⟨a1, c1, a2, c2, e, o1, o2⟩ := r2 k hk
  exact ⟨a1, c1, a2, c2, e, World.ownsRow.kept o1 gw (ne o1), World.ownsRow.kept o2 gw (ne o2)⟩
def DrawnA (w : World) (e : Ending) (w' : World) : Prop :=
  ∃ (a1 a2 a3 a4 : Option Addr) (m c1 c2 c3 c4 : Nat) (cs is : List Bool) (hs rs : List Int) (n : Nat) (f : Nat → VQ) (b : Option Addr) (c : Nat), e = .returned (.tuple #[dv a1 a2 a3 a4 m m m m c1 c2 c3 c4, .slice b n c]) ∧ m ≤ 64 ∧ LnD m m m m cs is hs rs ∧ SlD w' a1 a2 a3 a4 cs is hs rs ∧ (∀ x ∈ hs, 0 ≤ x ∧ x ≤ 65535) ∧ (∀ x ∈ rs, 0 ≤ x ∧ x ≤ 65535) ∧ n ≤ 8 ∧ n ≤ c ∧ c ≤ maxLen ∧ ((b = none ∧ c = 0) ∨ ∃ g, b = some ⟨g, 0, none⟩) ∧ Rd w' 0 (.list 6 n (fun i => trs (qT (f i)))) (.slice b n c) ∧ (∀ k, k < n → (f k).ws.length ≤ 200 ∧ (f k).bs.length ≤ 2000) ∧ Below w.heap.size w w'
end Go.Proofs.Ytfdddkjonjpgpaa
namespace Go.Proofs.Ytfdddkjonjpgpaa
open Go.RowKit Go.Joins
set_option linter.unusedVariables false
set_option linter.unusedSimpArgs false
set_option maxHeartbeats 1000000 in
theorem l1Size_8 (a : Option Addr) (n c : Nat) (w : World) (hn : n ≤ 1048576) : Calls Try.prog 28 #[.slice a n c, .int .i64 8] w fun e w' => ∃ x : Int, e = .returned (.int .i64 x) ∧ 1 ≤ x ∧ x ≤ 8 ∧ w' = w := by
  have h0 : 0 ≤ (n : Int) := by omega
  by_cases h : 8 < 3 + (n : Int) / 12
  · go_enter Try.func28, Try.ntmps28
    go_wp2
    go_ret
    exact ⟨8, rfl, by omega, by omega, rfl⟩
  · go_enter Try.func28, Try.ntmps28
    go_wp2
    go_ret
    exact ⟨_, rfl, by omega, by omega, rfl⟩
theorem draw_keep {w0 w W8 w9 : World} {a : Option Addr} {cap R g V : Nat} {zs : List Int} {v : Value} {a1 a2 a3 a4 : Option Addr} {m c1 c2 c3 c4 : Nat} {cs is : List Bool} {hs rs : List Int} {cv dv0 : Array Value} (hC : Cur w0 a cap zs W8 g) (hB : Below R w W8) (hR : Blk W8 R 27 cv) (hV : Blk W8 V 27 dv0) (hO : OwnD W8 (R + 1 + 1) a1 a2 a3 a4 m m m m c1 c2 c3 c4 cs is hs rs) (g9 : W8.grownBy w9 v.ownBlock) (hk9 : ∀ k, v.ownBlock = some k → V + 1 ≤ k) (hg : g = R + 1) (hgV : g < V) (hlt : ∀ x, Of4 (.slice a1 m c1) (.slice a2 m c2) (.slice a3 m c3) (.slice a4 m c4) x → x ≤ V) :
    Cur w0 a cap zs w9 g ∧ Below R w w9 ∧ Blk w9 R 27 cv ∧ Blk w9 V 27 dv0 ∧ OwnD w9 (R + 1 + 1) a1 a2 a3 a4 m m m m c1 c2 c3 c4 cs is hs rs := by
  have ch : Chg W8 w9 (fun x => V + 1 ≤ x) := ⟨g9.os, g9.tape, g9.output, g9.size, fun x hx hn => g9.block x hx (fun e => hn (hk9 x e.symm))⟩
  have cg := Cg.ofChg ch
  have hsame : w9.heap[g]? = W8.heap[g]? := ch.2.2.2.2 g hC.hi (fun h => by have h' : V + 1 ≤ g := h; omega)
  refine ⟨⟨hC.lo, Nat.lt_of_lt_of_le hC.hi g9.size, ?_, ?_, ?_, ?_, hC.sl, hC.rg, hC.len, cg.below hC.bel (fun x h => by have h' : V + 1 ≤ x := h; have := hC.lo; omega) hC.bel.size⟩, cg.below hB (fun x h => by have h' : V + 1 ≤ x := h; omega) (by have := hR.lt; omega), hR.chg ch (fun h => by have h' : V + 1 ≤ R := h; omega), hV.chg ch (fun h => by have h' : V + 1 ≤ V := h; omega), hO.chg ch (fun x hx h => by have h' : V + 1 ≤ x := h; have := hlt x hx; omega)⟩
  · exact (World.cell?_of_block (a := ⟨g, 0, none⟩) hsame).trans hC.c0
  · obtain ⟨i, h1, h2⟩ := hC.c1; exact ⟨i, h1, (World.cell?_of_block (a := ⟨g, 1, none⟩) hsame).trans h2⟩
  · obtain ⟨h, h2⟩ := hC.c2; exact ⟨h, (World.cell?_of_block (a := ⟨g, 2, none⟩) hsame).trans h2⟩
  · exact fun o => (World.frozen?_of_block (a := ⟨g, o, none⟩) hsame).trans (hC.fz o)
set_option maxRecDepth 20000 in
set_option maxHeartbeats 4000000 in
theorem DrawApply_any (w : World) (a : Option Addr) (n cap : Nat) (zs : List Int) (hn : n = zs.length) (hs : Sl w a zs) (hr : ∀ z ∈ zs, 0 ≤ z ∧ z ≤ 255) (hl : zs.length ≤ 1048576) :
    Calls Try.prog 6 #[.slice a n cap] w fun e w' => DrawnA w e w' := by
  obtain ⟨R, hR⟩ : ∃ R, R = w.heap.size := ⟨_, rfl⟩
  obtain ⟨W0, hW0⟩ : ∃ W0, W0 = w.alloc (.cells #[.slice none 0 0, .slice none 0 0, .slice none 0 0, .slice none 0 0] 27) := ⟨_, rfl⟩
  have bw : Below w.heap.size w W0 := by rw [hW0]; exact bel_alloc _ _
  have R1 : Blk W0 R 27 #[.slice none 0 0, .slice none 0 0, .slice none 0 0, .slice none 0 0] := by rw [hW0, hR]; exact Blk.new _ _ _
  have HS : Hid (Sl W0 a zs ∧ n = zs.length ∧ (∀ z ∈ zs, 0 ≤ z ∧ z ≤ 255)) := ⟨hs.below bw, hn, hr⟩
  have hn9 : n ≤ 1048576 := by omega
  have H0 : Hid (Below w.heap.size w W0 ∧ Blk W0 R 27 #[.slice none 0 0, .slice none 0 0, .slice none 0 0, .slice none 0 0] ∧ w.heap.size = R ∧ W0.heap.size = R + 1) := ⟨bw, R1, hR.symm, by rw [hW0, hR]; simp⟩
  clear hs hn hr bw R1
  go_enter Try.func6, Try.ntmps6
  go_upto_region 1 with fail
  rw [← hW0, ← hR]
  clear hW0 hR
  go_wp2_with fail
  refine (l1New_any W0 a n cap zs HS.out.2.1 HS.out.1 HS.out.2.2 hl).mono ?_
  rintro e z1 ⟨rfl, C1, gr1⟩
  obtain ⟨g, hg⟩ : ∃ g, g = W0.heap.size := ⟨_, rfl⟩
  rw [← hg] at C1
  simp only [← hg]
  have H1 : Hid (Cur W0 a cap zs z1 g ∧ W0.grownBy z1 none ∧ g = R + 1) := ⟨C1, gr1, by rw [hg]; exact H0.out.2.2.2⟩
  clear C1 gr1 hg
  go_wp2_with fail
  refine (l5Draw_any W0 a cap zs z1 g H1.out.1).mono ?_
  rintro e z2 ⟨a1, a2, a3, a4, m, c1, c2, c3, c4, cs, is, hs, rs, rfl, hm, O2, w1, w2, C2, gr2⟩
  obtain ⟨V, hV⟩ : ∃ V, V = z2.heap.size := ⟨_, rfl⟩
  obtain ⟨Z3, hZ3⟩ : ∃ Z3, Z3 = z2.alloc (.cells #[.slice a1 m c1, .slice a2 m c2, .slice a3 m c3, .slice a4 m c4] 27) := ⟨_, rfl⟩
  have HD : Hid (m ≤ 64 ∧ (∀ x ∈ hs, 0 ≤ x ∧ x ≤ 65535) ∧ (∀ x ∈ rs, 0 ≤ x ∧ x ≤ 65535) ∧ LnD m m m m cs is hs rs) := ⟨hm, w1, w2, O2.sl.1⟩
  have HO4 : Hid (∀ x, Of4 (.slice a1 m c1) (.slice a2 m c2) (.slice a3 m c3) (.slice a4 m c4) x → x ≤ V) := by
    show ∀ x, Of4 (.slice a1 m c1) (.slice a2 m c2) (.slice a3 m c3) (.slice a4 m c4) x → x ≤ V
    intro x hx
    have := (O2.of4 x hx).2
    omega
  have H3 : Hid (Cur W0 a cap zs Z3 g ∧ Below R w Z3 ∧ Blk Z3 R 27 #[.slice none 0 0, .slice none 0 0, .slice none 0 0, .slice none 0 0] ∧ Blk Z3 V 27 #[.slice a1 m c1, .slice a2 m c2, .slice a3 m c3, .slice a4 m c4] ∧ OwnD Z3 (R + 1 + 1) a1 a2 a3 a4 m m m m c1 c2 c3 c4 cs is hs rs ∧ g = R + 1 ∧ g < V ∧ Z3.heap.size = V + 1 ∧ w.heap.size = R) := by
    have h0 := H0.out
    have h1 := H1.out
    have s1 := h1.2.1.size
    have s2 := gr2.size
    have b1 : Below R w z1 := by
      have := h0.1
      rw [h0.2.2.1] at this
      exact this.grown h1.2.1 (by omega) (fun k e => by cases e)
    have b2 : Below R w z2 := b1.grown gr2 (by omega) (fun k e => by have := Option.some.inj e; omega)
    have k1 : Blk z1 R 27 #[.slice none 0 0, .slice none 0 0, .slice none 0 0, .slice none 0 0] := h0.2.1.chg (Chg.ofGrown (S := fun _ => False) h1.2.1 (fun g e => by cases e)) (fun h => h)
    have k2 : Blk z2 R 27 #[.slice none 0 0, .slice none 0 0, .slice none 0 0, .slice none 0 0] := k1.chg (Chg.ofGrown (S := fun x => x = g) gr2 (fun x e => (Option.some.inj e).symm)) (fun e => by have e' : R = g := e; omega)
    have b3 : Below z2.heap.size z2 Z3 := by rw [hZ3]; exact bel_alloc _ _
    exact ⟨by rw [hZ3]; exact C2.alloc _, b2.trans (b3.mono (by omega)), k2.below b3, by rw [hZ3, hV]; exact Blk.new _ _ _, (O2.mono (by have := h1.1.hi; have := h1.2.2; omega)).below b3, h1.2.2, by have := H1.out.1.hi; omega, by rw [hZ3, hV]; simp, h0.2.2.1⟩
  clear O2 C2 gr2 hm w1 w2 H1 H0
  go_upto_region 3 with fail
  rw [← hZ3, ← hV]
  clear hZ3 hV
  go_upto_region 4 with fail
  obtain ⟨Z4', hZ4⟩ : ∃ Z4', Z4' = Z3.alloc (.cells #[] 57) := ⟨_, rfl⟩
  have H4 : Hid (Cur W0 a cap zs Z4' g ∧ Below R w Z4' ∧ Blk Z4' R 27 #[.slice none 0 0, .slice none 0 0, .slice none 0 0, .slice none 0 0] ∧ Blk Z4' V 27 #[.slice a1 m c1, .slice a2 m c2, .slice a3 m c3, .slice a4 m c4] ∧ OwnD Z4' (R + 1 + 1) a1 a2 a3 a4 m m m m c1 c2 c3 c4 cs is hs rs ∧ LsQ Z4' (V + 1) (.slice (some ⟨Z3.heap.size, 0, none⟩) 0 0) 0 (fun _ => default)) := by
    have h3 := H3.out
    have b4 : Below Z3.heap.size Z3 Z4' := by rw [hZ4]; exact bel_alloc _ _
    refine ⟨by rw [hZ4]; exact h3.1.alloc _, h3.2.1.trans (b4.mono (by omega)), h3.2.2.1.below b4, h3.2.2.2.1.below b4, h3.2.2.2.2.1.below b4, fun _ => [], ⟨rfl, .inr ⟨Z3.heap.size, 0, #[], rfl, by omega, ?_, by simp, by simp, rfl, rfl⟩⟩, fun k hk => absurd hk (Nat.not_lt_zero _)⟩
    rw [hZ4]
    exact Blk.new Z3 #[] 57
  have HG : Hid (g = R + 1 ∧ g < V ∧ w.heap.size = R) := ⟨H3.out.2.2.2.2.2.1, H3.out.2.2.2.2.2.2.1, H3.out.2.2.2.2.2.2.2.2⟩
  rw [← hZ4]
  clear hZ4 H3
  go_wp2_with fail
  refine (l1Size_8 a n cap _ hn9).mono ?_
  rintro e z5 ⟨x, rfl, x1, x2, hw⟩
  have hw := hw.symm
  subst hw
  go_wp2_with fail
  refine (l1Below_any W0 a cap zs _ g x x1 H4.out.1).mono ?_
  rintro e z6 ⟨y, rfl, ⟨y1, y2⟩, C6, gr6⟩
  obtain ⟨M, rfl⟩ := Int.eq_ofNat_of_zero_le y1
  have hM : M ≤ 8 := by omega
  have H6 : Hid (Cur W0 a cap zs z6 g ∧ Below R w z6 ∧ Blk z6 R 27 #[.slice none 0 0, .slice none 0 0, .slice none 0 0, .slice none 0 0] ∧ Blk z6 V 27 #[.slice a1 m c1, .slice a2 m c2, .slice a3 m c3, .slice a4 m c4] ∧ OwnD z6 (R + 1 + 1) a1 a2 a3 a4 m m m m c1 c2 c3 c4 cs is hs rs ∧ LsQ z6 (V + 1) (.slice (some ⟨Z3.heap.size, 0, none⟩) 0 0) 0 (fun _ => default)) := by
    have h4 := H4.out
    have hg9 := HG.out
    have ch := Chg.ofGrown (S := fun x => x = g) gr6 (fun x e => (Option.some.inj e).symm)
    exact ⟨C6, h4.2.1.grown gr6 (by have := h4.1.hi; omega) (fun k e => by have := Option.some.inj e; omega), h4.2.2.1.chg ch (fun e => by have e' : R = g := e; omega), h4.2.2.2.1.chg ch (fun e => by have e' : V = g := e; omega), h4.2.2.2.2.1.keptG gr6 (by omega), h4.2.2.2.2.2.keptLt gr6 (by omega)⟩
  clear C6 gr6 H4 y1 y2 x1 x2
  go_wp2
  go_loopw [6, 7] (fun lv i wr => ∃ (k : Nat) (f : Nat → VQ) (b : Option Addr) (c : Nat), k ≤ M ∧ i = .int .i64 ((M : Int) - (k : Int)) ∧ lv = .slice b k c ∧ Cur W0 a cap zs wr g ∧ Below R w wr ∧ Blk wr R 27 #[.slice none 0 0, .slice none 0 0, .slice none 0 0, .slice none 0 0] ∧ Blk wr V 27 #[.slice a1 m c1, .slice a2 m c2, .slice a3 m c3, .slice a4 m c4] ∧ OwnD wr (R + 1 + 1) a1 a2 a3 a4 m m m m c1 c2 c3 c4 cs is hs rs ∧ LsQ wr (V + 1) (.slice b k c) k f ∧ ∀ j, j < k → (f j).ws.length ≤ 200 ∧ (f j).bs.length ≤ 2000) (fun _ i _ => (intOf i).toNat)
  case atStart => exact ⟨0, fun _ => default, _, _, Nat.zero_le _, by simp, rfl, H6.out.1, H6.out.2.1, H6.out.2.2.1, H6.out.2.2.2.1, H6.out.2.2.2.2.1, H6.out.2.2.2.2.2, fun j hj => absurd hj (Nat.not_lt_zero _)⟩
  case round =>
    obtain ⟨k, f, b, c, hk, rfl, rfl, hC, hB, hR, hV, hO, hL, hF⟩ := hrel
    by_cases hlt : k < M
    · have hi : 0 < (M : Int) - (k : Int) := by omega
      have HK : Hid (Cur W0 a cap zs wr g ∧ Below R w wr ∧ Blk wr R 27 #[.slice none 0 0, .slice none 0 0, .slice none 0 0, .slice none 0 0] ∧ Blk wr V 27 #[.slice a1 m c1, .slice a2 m c2, .slice a3 m c3, .slice a4 m c4] ∧ OwnD wr (R + 1 + 1) a1 a2 a3 a4 m m m m c1 c2 c3 c4 cs is hs rs ∧ LsQ wr (V + 1) (.slice b k c) k f ∧ ∀ j, j < k → (f j).ws.length ≤ 200 ∧ (f j).bs.length ≤ 2000) := ⟨hC, hB, hR, hV, hO, hL, hF⟩
      clear hC hB hR hV hO hL hF
      go_wp2_with fail
      refine (l3Draw_any W0 a cap zs _ g 0 (by decide) HK.out.1).mono ?_
      rintro e z7 ⟨kd, pl, nn, wa, q1, q2, m1, m2, k1, k2, ws, bs, rfl, e1, e2, b1, b2, oI, oB, C7, gr7⟩
      obtain ⟨f', hf'⟩ : ∃ f' : Nat → VQ, f' = (fun j => if j = k then ⟨kd, pl, nn, ws, bs, wa⟩ else f j) := ⟨_, rfl⟩
      have ek : f' k = ⟨kd, pl, nn, ws, bs, wa⟩ := by rw [hf']; simp
      obtain ⟨W8, hW8⟩ : ∃ W8, W8 = z7.alloc (.cells #[.int .i64 kd, .int .i64 pl, .int .i64 nn, .slice q1 m1 k1, .slice q2 m2 k2, .int .i64 wa] 57) := ⟨_, rfl⟩
      have H8 : Hid (Cur W0 a cap zs W8 g ∧ Below R w W8 ∧ Blk W8 R 27 #[.slice none 0 0, .slice none 0 0, .slice none 0 0, .slice none 0 0] ∧ Blk W8 V 27 #[.slice a1 m c1, .slice a2 m c2, .slice a3 m c3, .slice a4 m c4] ∧ OwnD W8 (R + 1 + 1) a1 a2 a3 a4 m m m m c1 c2 c3 c4 cs is hs rs ∧ LsQ W8 (V + 1) (.slice b k c) k f' ∧ Blk W8 z7.heap.size 57 (qL (f' k) q1 (f' k).ws.length k1 q2 (f' k).bs.length k2).toArray ∧ OwnI W8 (V + 1) (.slice q1 (f' k).ws.length k1) (f' k).ws ∧ OwnB W8 (V + 1) (.slice q2 (f' k).bs.length k2) (f' k).bs ∧ V + 1 ≤ W8.heap.size ∧ ∀ j, j < k + 1 → (f' j).ws.length ≤ 200 ∧ (f' j).bs.length ≤ 2000) := by
        have h4 := HK.out
        have hg9 := HG.out
        have sV := h4.2.2.2.1.lt
        have s7 := gr7.size
        have ch := Chg.ofGrown (S := fun x => x = g) gr7 (fun x e => (Option.some.inj e).symm)
        have b8 : Below z7.heap.size z7 W8 := by rw [hW8]; exact bel_alloc _ _
        have hB7 : Below R w z7 := h4.2.1.grown gr7 (by have := h4.1.hi; omega) (fun k e => by have := Option.some.inj e; omega)
        refine ⟨by rw [hW8]; exact C7.alloc _, hB7.trans (b8.mono (by omega)), (h4.2.2.1.chg ch (fun e => by have e' : R = g := e; omega)).below b8, (h4.2.2.2.1.chg ch (fun e => by have e' : V = g := e; omega)).below b8, (h4.2.2.2.2.1.keptG gr7 (by omega)).below b8, ((h4.2.2.2.2.2.1.keptLt gr7 (by omega)).below b8).congr (fun j hj => by rw [hf']; simp; omega), ?_, ?_, ?_, by have := b8.size; omega, fun j hj => ?_⟩
        · rw [ek, hW8, ← e1, ← e2]; exact Blk.new _ _ _
        · rw [ek, ← e1]; exact (OwnI.mono (show OwnI _ _ _ _ from oI) (by omega)).below b8
        · rw [ek, ← e2]; exact (OwnB.mono (show OwnB _ _ _ _ from oB) (by omega)).below b8
        · by_cases e : j = k
          · subst e; rw [ek]; exact ⟨by rw [← e1]; exact b1, by rw [← e2]; exact b2⟩
          · rw [hf']; simp only [if_neg e]; exact h4.2.2.2.2.2.2 j (by omega)
      clear C7 gr7 oI oB e1 e2 b1 b2 ek hf' HK
      go_wp2_with (at_builtin; rw [← hW8]; refine wpList_appQ rfl (.tmp 21) (.tmp 24) rfl (V + 1) (.slice b k c) k f' rfl H8.out.2.2.2.2.2.1 z7.heap.size 1 q1 k1 q2 k2 rfl H8.out.2.2.2.2.2.2.1 H8.out.2.2.2.2.2.2.2.1 H8.out.2.2.2.2.2.2.2.2.1 (by omega) H8.out.2.2.2.2.2.2.2.2.2.1 ?_; intro v' w9 L9 g9 hk9 ht9; obtain ⟨b9, c9, hv9⟩ := L9.shape; subst hv9; have H9 : Hid (Cur W0 a cap zs w9 g ∧ Below R w w9 ∧ Blk w9 R 27 #[.slice none 0 0, .slice none 0 0, .slice none 0 0, .slice none 0 0] ∧ Blk w9 V 27 #[.slice a1 m c1, .slice a2 m c2, .slice a3 m c3, .slice a4 m c4] ∧ OwnD w9 (R + 1 + 1) a1 a2 a3 a4 m m m m c1 c2 c3 c4 cs is hs rs ∧ LsQ w9 (V + 1) (.slice b9 (k + 1) c9) (k + 1) f' ∧ ∀ j, j < k + 1 → (f' j).ws.length ≤ 200 ∧ (f' j).bs.length ≤ 2000) := (by have h9 := draw_keep H8.out.1 H8.out.2.1 H8.out.2.2.1 H8.out.2.2.2.1 H8.out.2.2.2.2.1 g9 hk9 HG.out.1 HG.out.2.1 HO4.out; exact ⟨h9.1, h9.2.1, h9.2.2.1, h9.2.2.2.1, h9.2.2.2.2, L9, H8.out.2.2.2.2.2.2.2.2.2.2⟩); clear L9 g9 hk9 ht9)
      clear H8
      go_roundw
      case rel => exact ⟨k + 1, f', b9, c9, by omega, by go_num, rfl, H9.out.1, H9.out.2.1, H9.out.2.2.1, H9.out.2.2.2.1, H9.out.2.2.2.2.1, H9.out.2.2.2.2.2.1, H9.out.2.2.2.2.2.2⟩
      case measure => simp [intOf]; omega
    · have hi : ¬ 0 < (M : Int) - (k : Int) := by omega
      obtain ⟨y0, y1, y2, y3⟩ := hV.four
      obtain ⟨z0, z1, z2, z3⟩ := hR.four
      have f0 := hR.fro 0
      have f1 := hR.fro 1
      have f2 := hR.fro 2
      have f3 := hR.fro 3
      obtain ⟨Wz, hWz⟩ : ∃ Wz, Wz = (((wr.setCell ⟨R, 0, none⟩ (.slice a1 m c1)).setCell ⟨R, 1, none⟩ (.slice a2 m c2)).setCell ⟨R, 2, none⟩ (.slice a3 m c3)).setCell ⟨R, 3, none⟩ (.slice a4 m c4) := ⟨_, rfl⟩
      have Hz : Hid (Blk Wz R 27 #[.slice a1 m c1, .slice a2 m c2, .slice a3 m c3, .slice a4 m c4] ∧ SlD Wz a1 a2 a3 a4 cs is hs rs ∧ LsQ Wz (V + 1) (.slice b k c) k f ∧ Below R w Wz ∧ ∀ j, j < k → (f j).ws.length ≤ 200 ∧ (f j).bs.length ≤ 2000) := by
        have gw : wr.grownBy Wz (some R) := by
          have e9 : Wz = setL wr R 0 [.slice a1 m c1, .slice a2 m c2, .slice a3 m c3, .slice a4 m c4] := by rw [hWz]; rfl
          rw [e9]; exact setL_gw _ _ _
        have hg9 := HG.out
        exact ⟨by rw [hWz]; exact ((((hR.set 0 _).set 1 _).set 2 _).set 3 _), (hO.keptG gw (by omega)).sl.2, hL.keptLt gw (by omega), hB.grown gw (by have := hR.lt; omega) (fun k e => by have := Option.some.inj e; omega), hF⟩
      have HN : Hid (k ≤ 8) := by show k ≤ 8; omega
      clear hC hB hR hV hO hL hF
      go_wp2
      rw [← hWz]
      clear hWz
      obtain ⟨v0, v1, v2, v3⟩ := Hz.out.1.four
      refine bodyPost_ret (v := .tuple #[dv a1 a2 a3 a4 m m m m c1 c2 c3 c4, .slice b k c]) (by simp [results, Try.results6, go_sem, v0, v1, v2, v3]) rfl ?_
      have hz := Hz.out
      have hrd := hz.2.2.1.rd (by have := HN.out; omega) (fun j hj => by have := hz.2.2.2.2 j hj; omega)
      have hrow : c ≤ maxLen ∧ ((b = none ∧ c = 0) ∨ ∃ g, b = some ⟨g, 0, none⟩) := by
        obtain ⟨F, r1, _⟩ := hz.2.2.1
        rcases r1.2 with ⟨hv, h0⟩ | ⟨g, cap', cur, hv, _, _, _, hm, _⟩
        · simp only [Value.slice.injEq] at hv
          exact ⟨by omega, .inl ⟨hv.1, hv.2.2⟩⟩
        · simp only [Value.slice.injEq] at hv
          exact ⟨by omega, .inr ⟨g, hv.1⟩⟩
      exact ⟨a1, a2, a3, a4, m, c1, c2, c3, c4, cs, is, hs, rs, k, f, b, c, rfl, HD.out.1, HD.out.2.2.2, hz.2.1, HD.out.2.1, HD.out.2.2.1, HN.out, (by obtain ⟨_, _, e, h, _⟩ := hrd.2.shape; simp only [Value.slice.injEq] at e; omega), hrow.1, hrow.2, hrd.2, hz.2.2.2.2, by rw [HG.out.2.2]; exact hz.2.2.2.1⟩
end Go.Proofs.Ytfdddkjonjpgpaa
namespace Go.Proofs.Ytfdddkjonjpgpaa
open Go.RowKit
set_option linter.unusedVariables false
end Go.Proofs.Ytfdddkjonjpgpaa
namespace Go.Proofs.Ytfdddkjonjpgpaa
open Go.RowKit
set_option linter.unusedVariables false
set_option linter.unusedSimpArgs false
theorem allW_at {ws : List Int} (h : allW ws = true) (k : Nat) (hk : k < ws.length) : 0 ≤ ws.getD k 0 ∧ ws.getD k 0 ≤ 65535 := (of_decide_eq_true h) k hk
theorem allW_mem {ws : List Int} (h : ∀ x ∈ ws, 0 ≤ x ∧ x ≤ 65535) : allW ws = true := by
  refine decide_eq_true (fun k hk => ?_)
  rw [List.getD_eq_getElem?_getD, List.getElem?_eq_getElem hk]
  exact h _ (List.getElem_mem hk)
theorem mem_allW {ws : List Int} (h : allW ws = true) : ∀ x ∈ ws, 0 ≤ x ∧ x ≤ 65535 := by
  intro x hx
  obtain ⟨k, hk, rfl⟩ := List.getElem_of_mem hx
  have := allW_at h k hk
  rw [List.getD_eq_getElem?_getD, List.getElem?_eq_getElem hk] at this
  exact this
theorem allW_set {hs : List Int} {k : Nat} {x : Int} (h : allW hs = true) (hx : 0 ≤ x ∧ x ≤ 65535) : allW (hs.set k x) = true := by
  refine allW_mem (fun y hy => ?_)
  rcases List.mem_or_eq_of_mem_set hy with h1 | h1
  · exact mem_allW h y h1
  · exact h1 ▸ hx
theorem allW_wr {hs ws : List Int} {k : Nat} (h : allW hs = true) (h2 : allW ws = true) : allW (wr hs k ws) = true := by
  refine allW_mem (fun y hy => ?_)
  unfold wr at hy
  rcases List.mem_append.1 hy with h1 | h1
  · exact mem_allW h y (List.mem_of_mem_take h1)
  · rcases List.mem_append.1 h1 with h1 | h1
    · exact mem_allW h2 y h1
    · exact mem_allW h y (List.mem_of_mem_drop h1)
theorem svV_cases (l1 l2 l3 l4 : Nat) (cs is : List Bool) (hs rs : List Int) (kd pl nn wa : Int) (m1 m2 : Nat) (ws : List Int) (bs : List Bool) :
    ((svV l1 l2 l3 l4 cs is hs rs kd pl nn wa m1 m2 ws bs).cs = cs ∧ (svV l1 l2 l3 l4 cs is hs rs kd pl nn wa m1 m2 ws bs).hs = hs ∧ (okR kd pl nn wa ws m1 m2 = false ∨ okD l1 l2 l3 l4 hs rs = false ∨ (svV l1 l2 l3 l4 cs is hs rs kd pl nn wa m1 m2 ws bs).fl = 2))
    ∨ (okR kd pl nn wa ws m1 m2 = true ∧ okD l1 l2 l3 l4 hs rs = true ∧ svAll l1 l2 l3 l4 kd pl nn wa m1 m2 = true ∧ svV l1 l2 l3 l4 cs is hs rs kd pl nn wa m1 m2 ws bs = svDo cs is hs rs kd pl nn wa ws bs) := by
  unfold svV
  cases hR : okR kd pl nn wa ws m1 m2
  · exact .inl ⟨rfl, rfl, .inl rfl⟩
  cases hD : okD l1 l2 l3 l4 hs rs
  · exact .inl ⟨rfl, rfl, .inr (.inl rfl)⟩
  cases hA : svAll l1 l2 l3 l4 kd pl nn wa m1 m2
  · exact .inl ⟨rfl, rfl, .inr (.inr rfl)⟩
  · exact .inr ⟨rfl, rfl, rfl, rfl⟩
theorem okD_words {l1 l2 l3 l4 : Nat} {hs rs : List Int} (h : okD l1 l2 l3 l4 hs rs = true) : allW hs = true ∧ allW rs = true := by
  unfold okD at h
  simp only [Bool.and_eq_true] at h
  exact ⟨h.2.1, h.2.2⟩
theorem okD_new {l1 l2 l3 l4 : Nat} {hs hs' rs : List Int} (h : okD l1 l2 l3 l4 hs rs = true) (h' : allW hs' = true) : okD l1 l2 l3 l4 hs' rs = true := by
  unfold okD at h ⊢
  simp only [Bool.and_eq_true] at h ⊢
  exact ⟨h.1, h', h.2.2⟩
theorem okR_words {kd pl nn wa : Int} {ws : List Int} {m1 m2 : Nat} (h : okR kd pl nn wa ws m1 m2 = true) : allW ws = true := by
  unfold okR at h
  simp only [Bool.and_eq_true] at h
  exact h.1
theorem svDo_words {cs is : List Bool} {hs rs : List Int} {kd pl nn wa : Int} {m1 m2 : Nat} {ws : List Int} {bs : List Bool} (h1 : m1 = ws.length) (h : okR kd pl nn wa ws m1 m2 = true) (hh : allW hs = true) (hp3 : kd = 22 → pl.toNat < hs.length) : allW (svDo cs is hs rs kd pl nn wa ws bs).hs = true := by
  obtain ⟨hp, hk⟩ := okR_f h
  have hw := okR_words h
  unfold svDo
  rcases hk with hk | hk | hk | hk | hk | hk | hk | hk | hk | hk <;> obtain ⟨rfl, hk⟩ := hk
  · simpa using hh
  · simpa using hh
  · simpa using hh
  · simpa using hh
  · simpa using hh
  · simp
    have := allW_at hw 0 (by omega)
    rw [List.getD_eq_getElem?_getD] at this
    exact allW_set hh this
  · simpa using hh
  · simp
    exact allW_wr hh hw
  · simp
    have q0 := allW_at hh pl.toNat (hp3 rfl)
    have q1 := allW_at hw 1 (by omega)
    simp only [List.getD_eq_getElem?_getD] at q0 q1
    exact allW_set hh (mskI_rg q0 q1)
  · simp
    exact allW_wr hh hw
end Go.Proofs.Ytfdddkjonjpgpaa
namespace Go.Proofs.Ytfdddkjonjpgpaa
open Go.RowKit Go.Joins
set_option linter.unusedVariables false
set_option linter.unusedSimpArgs false
theorem apS_add (is : List Bool) (rs : List Int) (cs : List Bool) (hs : List Int) (f : Nat → VQ) (k : Nat) : ∀ j, apS is rs cs hs f (k + j) = apS is rs (apS is rs cs hs f k).1 (apS is rs cs hs f k).2 (fun i => f (k + i)) j
  | 0 => rfl
  | j + 1 => by
    have ih := apS_add is rs cs hs f k j
    rw [← Nat.add_assoc]
    simp only [apS]
    rw [ih]
theorem apA_add (is : List Bool) (rs : List Int) (cs : List Bool) (hs : List Int) (f : Nat → VQ) (k j : Nat) : apA is rs cs hs f (k + j) = apA is rs (apS is rs cs hs f k).1 (apS is rs cs hs f k).2 (fun i => f (k + i)) j := by
  unfold apA apV
  rw [apS_add]
theorem okD_one {l1 l2 l3 l4 : Nat} {cs is : List Bool} {hs rs : List Int} {Q : VQ} (hD : okD l1 l2 l3 l4 hs rs = true) : okD l1 l2 l3 l4 (svQ cs is hs rs Q).hs rs = true := by
  unfold svQ
  rcases svV_cases cs.length is.length hs.length rs.length cs is hs rs Q.kd Q.pl Q.n Q.wa Q.ws.length Q.bs.length Q.ws Q.bs with ⟨_, e, _⟩ | ⟨hR, _, hA, e⟩
  · rw [e]; exact hD
  · rw [e]
    refine okD_new hD (svDo_words rfl hR (okD_words hD).1 (fun h22 => ?_))
    have hp := (okR_f hR).1
    unfold svAll at hA
    rw [h22] at hA
    simp [hsB, spcN, spc0] at hA
    omega
theorem okD_all {l1 l2 l3 l4 : Nat} (is : List Bool) (rs : List Int) (cs : List Bool) (hs : List Int) (f : Nat → VQ) (hD : okD l1 l2 l3 l4 hs rs = true) : ∀ k, okD l1 l2 l3 l4 (apS is rs cs hs f k).2 rs = true
  | 0 => hD
  | k + 1 => okD_one (okD_all is rs cs hs f hD k)
end Go.Proofs.Ytfdddkjonjpgpaa
namespace Go.Proofs.Ytfdddkjonjpgpaa
open Go.RowKit
set_option maxHeartbeats 1000000 in
theorem at_any (w : World) (a : Option Addr) (n cap : Nat) (zs : List Int) (j : Int) (hj0 : 0 ≤ j) (hj : j ≤ 100) (hn : n = zs.length) (hs : Sl w a zs) (hr : ∀ z ∈ zs, 0 ≤ z ∧ z ≤ 255) (hl : zs.length ≤ 1048576) :
    Calls Try.prog 7 #[.slice a n cap, .int .i64 j] w fun e w' => ∃ x : Int, e = .returned (.int .i64 x) ∧ 0 ≤ x ∧ x ≤ 255 ∧ w' = w := by
  subst hn
  obtain ⟨k, rfl⟩ := Int.eq_ofNat_of_zero_le hj0
  by_cases hlt : k < zs.length
  · obtain ⟨b, off, rfl, _, hc⟩ := cell_at hs hlt
    have rg := get_range hr k
    generalize zs.getD k 0 = z at *
    have hi' : (k : Int) < (zs.length : Int) := by omega
    clear hs hr
    go_enter Try.func7, Try.ntmps7
    go_wp2
    go_ret
    exact ⟨z, rfl, rg.1, rg.2, rfl⟩
  · have hi' : ¬ (k : Int) < (zs.length : Int) := by omega
    clear hs hr
    go_enter Try.func7, Try.ntmps7
    go_wp2
    go_ret
    exact ⟨_, rfl, by omega, by omega, rfl⟩
end Go.Proofs.Ytfdddkjonjpgpaa
namespace Go.Proofs.Ytfdddkjonjpgpaa
open Go.RowKit Go.Joins
set_option linter.unusedVariables false
set_option linter.unusedSimpArgs false
theorem rfl_appV (F F2 : Nat → List Value) (n : Nat) : ∀ m, (List.range n).flatMap F ++ (List.range m).flatMap F2 = (List.range (n + m)).flatMap (fun k => if k < n then F k else F2 (k - n))
  | 0 => by
    simp only [List.range_zero, List.flatMap_nil, List.append_nil, Nat.add_zero]
    rw [List.flatMap_def, List.flatMap_def]
    congr 1
    exact List.map_congr_left fun i hi => by rw [if_pos (List.mem_range.1 hi)]
  | m + 1 => by
    have ih := rfl_appV F F2 n m
    rw [← Nat.add_assoc, List.range_succ (n := m), List.range_succ (n := n + m), List.flatMap_append, List.flatMap_append, ← List.append_assoc, ih]
    simp
    intro h
    omega
def LsW (w : World) (base : Nat) (v : Value) (n : Nat) (f : Nat → VA) : Prop :=
  ∃ F, w.ownsRow base 37 6 v n ((List.range n).flatMap F) ∧ ∀ k, k < n → AvAt w 0 (F k) (f k)
theorem avAt_one {w : World} {b : Nat} {vs : List Value} {X : VA} (h : AvAt w b vs X) : ∀ u ∈ vs, u.oneCell' = true := by
  obtain ⟨a1, c1, a2, c2, rfl, _⟩ := h
  intro u hu
  simp at hu
  rcases hu with rfl | rfl | rfl | rfl | rfl | rfl <;> rfl
theorem AvAt.mono {w : World} {b b' : Nat} {vs : List Value} {X : VA} (h : AvAt w b vs X) (hb : b' ≤ b) : AvAt w b' vs X := by
  obtain ⟨a1, c1, a2, c2, e, o1, o2⟩ := h
  exact ⟨a1, c1, a2, c2, e, OwnI.mono (show OwnI _ _ _ _ from o1) hb, OwnB.mono (show OwnB _ _ _ _ from o2) hb⟩
theorem wpList_appN {w : World} {ops : Array Oper} {rest : List Oper} {o : Oper} {a : Act} {Q : Exit → Act → World → Prop} (hgd : o.guard = none) (s x : Operand)
    (ho : o.op = .call { callee := .builtin .append, args := #[s, x], argTypes := #[32, 32] }) (base : Nat) (v : Value) (n : Nat) (f : Nat → VA) (hs : a.eval s = v) (hown : LsW w base v n f)
    (g m c : Nat) (f2 : Nat → VA) (hx : a.eval x = .slice (some ⟨g, 0, none⟩) m c) (hT : LsT w g m f2 m) (hlen : n ≤ 1000) (hlm : m ≤ 1000) (hbase : base ≤ w.heap.size)
    (h : ∀ v' w', LsW w' base v' (n + m) (fun i => if i < n then f i else f2 (i - n)) → w.grownBy w' v.ownBlock → (∀ k, v.ownBlock = some k → base ≤ k) → wpList Try.prog ops Q rest (a.put o.dst v') w') : wpList Try.prog ops Q (o :: rest) a w := by
  obtain ⟨F, r1, r2⟩ := hown
  obtain ⟨F2, t1, t2⟩ := hT
  have hinfo : (Try.prog.info? 37).map (fun i => (i.zero, i.size, i.bytes)) = some (some (.agg #[.int .i64 0, .int .i64 0, .int .i64 0, .int .i64 0, .slice none 0 0, .slice none 0 0]), 6, 80) := by kernel_rfl
  obtain ⟨i0, hi, hzz⟩ := Option.map_eq_some_iff.1 hinfo
  simp only [Prod.mk.injEq] at hzz
  obtain ⟨hz0, hz1, hz2⟩ := hzz
  have hfl : ((List.range m).flatMap F2).length = m * 6 := rfl_lenV F2 6 m (fun k hk => (t2 k hk).len)
  refine wpList_append_own w hgd s x 32 ho base 37 i0 _ 6 80 Try.underlying32 hi hz0 hz1 hz2 rfl (by decide) v n ((List.range n).flatMap F) hs r1 ⟨g, 0, none⟩ m c ((List.range m).flatMap F2) hx hfl (fun j u hu => by
    have e1 : (⟨g, 0, none⟩ : Addr).add j = ⟨g, j, none⟩ := by unfold Addr.add; split <;> simp_all
    rw [e1]
    have hj : j < m * 6 := by rw [← hfl]; exact (List.getElem?_eq_some_iff.1 hu).1
    have hq : j / 6 < m := by omega
    have hr : j % 6 < 6 := Nat.mod_lt _ (by decide)
    have ej : j = j / 6 * 6 + j % 6 := by omega
    rw [ej] at hu ⊢
    rw [rfl_atV F2 6 m (fun k hk => (t2 k hk).len) _ _ hq hr] at hu
    rw [t1.cell hq hr]
    exact hu) (fun u hu => by
    obtain ⟨k, hk, hu⟩ := List.mem_flatMap.1 hu
    exact avAt_one (t2 k (List.mem_range.1 hk)) u hu) (by unfold maxLen; omega) (by omega) hbase ?_
  intro v' w' h1 h2 _
  have keep : ∀ {vs : List Value} {X : VA}, AvAt w 0 vs X → AvAt w' 0 vs X := fun h9 => h9.keptR r1 h2
  refine h v' w' ⟨fun k => if k < n then F k else F2 (k - n), by rw [← rfl_appV]; exact h1, fun k hk => ?_⟩ h2 (fun k hk => (World.ownsRow.lt r1 k hk).1)
  by_cases e : k < n
  · simp only [if_pos e]; exact keep (r2 k e)
  · simp only [if_neg e]; exact keep ((t2 (k - n) (by omega)).mono (Nat.zero_le _))
theorem capI9 {w : World} {lo n c : Nat} {a : Option Addr} {zs : List Int} (h : OwnI w lo (.slice a n c) zs) : n ≤ c := by
  rcases h.2 with ⟨e, h0⟩ | ⟨_, _, _, e, _, _, hle, _⟩
  · simp only [Value.slice.injEq] at e; omega
  · simp only [Value.slice.injEq] at e; omega
theorem capB9 {w : World} {lo n c : Nat} {a : Option Addr} {zs : List Bool} (h : OwnB w lo (.slice a n c) zs) : n ≤ c := by
  rcases h.2 with ⟨e, h0⟩ | ⟨_, _, _, e, _, _, hle, _⟩
  · simp only [Value.slice.injEq] at e; omega
  · simp only [Value.slice.injEq] at e; omega
theorem AvAt.rd {w : World} {b : Nat} {vs : List Value} {X : VA} (h : AvAt w b vs X) (h1 : X.ws.length ≤ 3000000) (h2 : X.bs.length ≤ 3000000) : RdL w 0 (trs (aT X)) vs := by
  obtain ⟨a1, c1, a2, c2, rfl, o1, o2⟩ := h
  exact VA.back ((o1.rd (capI9 o1) (by unfold maxLen; omega)).mono (Nat.zero_le _)) ((o2.rd (capB9 o2) (by unfold maxLen; omega)).mono (Nat.zero_le _))
theorem LsT.rd {w : World} {gt n : Nat} {f : Nat → VA} (h : LsT w gt n f n) (hn : n ≤ 1000) (hl : ∀ k, k < n → (f k).ws.length ≤ 3000000 ∧ (f k).bs.length ≤ 3000000) : Rd w 0 (.list 6 n (fun i => trs (aT (f i)))) (.slice (some ⟨gt, 0, none⟩) n n) := by
  obtain ⟨F, h1, h2⟩ := h
  exact Rd.made h1 (Nat.zero_le _) (by unfold maxLen; omega) (fun k hk => ⟨(h2 k hk).len, (h2 k hk).rd (hl k hk).1 (hl k hk).2⟩)
theorem LsW.rd {w : World} {base n m c : Nat} {a : Option Addr} {f : Nat → VA} (h : LsW w base (.slice a m c) n f) (hn : n ≤ 1000) (hl : ∀ k, k < n → (f k).ws.length ≤ 3000000 ∧ (f k).bs.length ≤ 3000000) : m = n ∧ Rd w 0 (.list 6 n (fun i => trs (aT (f i)))) (.slice a m c) := by
  obtain ⟨F, h1, h2⟩ := h
  rcases h1.2 with ⟨hv, h0⟩ | ⟨g, cap, cur, hv, hb, hh, hle, hm, hs, ht⟩
  · simp only [Value.slice.injEq] at hv
    obtain ⟨rfl, rfl, rfl⟩ := hv
    subst h0
    exact ⟨rfl, none, 0, rfl, Nat.le_refl _, Nat.zero_le _, .inl rfl⟩
  · simp only [Value.slice.injEq] at hv
    obtain ⟨rfl, rfl, rfl⟩ := hv
    have hlt : g < w.heap.size := (Array.getElem?_eq_some_iff.1 hh).1
    refine ⟨rfl, _, c, rfl, hle, by unfold maxLen; omega, .inr ⟨g, 0, F, rfl, Nat.zero_le _, hlt, fun k hk => ⟨(h2 k hk).len, fun j v hj => ?_⟩⟩⟩
    have hj6 : j < 6 := by have := (List.getElem?_eq_some_iff.1 hj).1; rw [(h2 k hk).len] at this; exact this
    have hkl : k * 6 + j < m * 6 := by omega
    refine ⟨?_, (h2 k hk).rd (hl k hk).1 (hl k hk).2 j v hj⟩
    rw [Nat.zero_add, ← hj, ← rfl_atV F 6 m (fun k hk => (h2 k hk).len) k j hk hj6, ← ht, List.getElem?_take, if_pos hkl, Array.getElem?_toList]
    simp [World.cell?, hh]
theorem LsW.shape {w : World} {base n : Nat} {v : Value} {f : Nat → VA} (h : LsW w base v n f) : ∃ a c, v = .slice a n c := by
  obtain ⟨F, h1, _⟩ := h
  rcases h1.2 with ⟨rfl, h0⟩ | ⟨g, cap, cur, rfl, _⟩
  · exact ⟨none, 0, by rw [h0]⟩
  · exact ⟨_, cap, rfl⟩
theorem LsW.congr {w : World} {base n n' : Nat} {v : Value} {f f' : Nat → VA} (h : LsW w base v n f) (hn : n = n') (he : ∀ k, k < n → f k = f' k) : LsW w base v n' f' := by
  subst hn
  obtain ⟨F, h1, h2⟩ := h
  exact ⟨F, h1, fun k hk => by rw [← he k hk]; exact h2 k hk⟩
theorem Rd.head {w : World} {lo s n k m c c' : Nat} {a : Option Addr} {f : Nat → Nat → Tr} (h : Rd w lo (.list s n f) (.slice a m c)) (hk : k ≤ n) (hc : k ≤ c') : Rd w lo (.list s k f) (.slice a k c') := by
  obtain ⟨a', c9, h1, h2, h3, h4⟩ := h
  simp only [Value.slice.injEq] at h1
  obtain ⟨rfl, -, -⟩ := h1
  refine ⟨a, c', rfl, hc, by omega, ?_⟩
  rcases h4 with h4 | ⟨g, off, F, ha, hlo, hg, hF⟩
  · exact .inl (by omega)
  · exact .inr ⟨g, off, F, ha, hlo, hg, fun i hi => hF i (by omega)⟩
theorem Rd.tail {w : World} {lo s n k m c c' g off : Nat} {f : Nat → Nat → Tr} (h : Rd w lo (.list s n f) (.slice (some ⟨g, off, none⟩) m c)) (hk : k ≤ n) (hc : n - k ≤ c') : Rd w lo (.list s (n - k) (fun i => f (k + i))) (.slice (some ⟨g, off + k * s, none⟩) (n - k) c') := by
  obtain ⟨a', c9, h1, h2, h3, h4⟩ := h
  simp only [Value.slice.injEq] at h1
  obtain ⟨h1, -, -⟩ := h1
  refine ⟨_, c', rfl, hc, by omega, ?_⟩
  rcases h4 with h4 | ⟨g', off', F, ha, hlo, hg, hF⟩
  · exact .inl (by omega)
  · rw [← h1] at ha
    simp only [Option.some.injEq, Addr.mk.injEq, and_true] at ha
    obtain ⟨rfl, rfl⟩ := ha
    refine .inr ⟨g, off + k * s, fun i => F (k + i), rfl, hlo, hg, fun i hi => ?_⟩
    obtain ⟨q1, q2⟩ := hF (k + i) (by omega)
    refine ⟨q1, fun j v hj => ?_⟩
    rw [show off + k * s + i * s + j = off + (k + i) * s + j by rw [Nat.add_mul]; omega]
    exact q2 j v hj
theorem rd_empty {w : World} {lo s c : Nat} {a : Option Addr} {f : Nat → Nat → Tr} : Rd w lo (.list s 0 f) (.slice a 0 c) := ⟨a, c, rfl, Nat.zero_le _, Nat.zero_le _, .inl rfl⟩
theorem run_slice_op {P : Program} {ρ : Operand → Value} {o : Oper} {u : World} {t : TypeId} {x : Operand} {lo hi mx : Option Operand} {a v : Value} {l' h' m' : Option Value} (ho : o.op = .slice t x lo hi mx) (ha : ρ x = a) (hl : lo.map ρ = l') (hh : hi.map ρ = h') (hm : mx.map ρ = m') (hr : (Instr.sliceAt t a l' h' m').run P u = .ok v u) : (execOp ρ o).run P u = .ok (.value v) u := by
  unfold execOp
  simp only [ho, ha, hl, hh, hm]
  rw [Sem.run_bind, hr]
  rfl
theorem cut_lo (b : Option Addr) (n c k : Nat) (u : World) (hk : k ≤ n) (hn : n ≤ c) (hc : c ≤ maxLen) (hb : (b = none ∧ c = 0) ∨ ∃ g, b = some ⟨g, 0, none⟩) : (Instr.sliceAt 28 (.slice b n c) none (some (.int .i64 (k : Int))) none).run Try.prog u = .ok (.slice b k c) u := by
  unfold maxLen at hc
  rcases hb with ⟨rfl, rfl⟩ | ⟨g, rfl⟩
  · obtain rfl : k = 0 := by omega
    obtain rfl : n = 0 := by omega
    kernel_rfl
  · have h1 : (k : Int) ≤ (c : Int) := by omega
    have h2 : ¬ ((c : Int) < (k : Int)) := by omega
    go_simp
theorem cut_hi (g n c k : Nat) (u : World) (hk : k ≤ n) (hn : n ≤ c) (hc : c ≤ maxLen) (hkc : ¬ c = k) : (Instr.sliceAt 28 (.slice (some ⟨g, 0, none⟩) n c) (some (.int .i64 (k : Int))) none none).run Try.prog u = .ok (.slice (some ⟨g, k * 6, none⟩) (n - k) (c - k)) u := by
  have h1 : (k : Int) ≤ (n : Int) := by omega
  have h2 : ¬ ((n : Int) < (k : Int)) := by omega
  have h3 : ¬ (c - k = 0) := by omega
  unfold maxLen at hc
  go_simp
end Go.Proofs.Ytfdddkjonjpgpaa
namespace Go.Proofs.Ytfdddkjonjpgpaa
open Go.RowKit
set_option linter.unusedVariables false
set_option linter.unusedSimpArgs false
set_option maxHeartbeats 4000000 in
theorem lawSameResp_t (kd fl pl nn : Int) (a1 a2 a1' a2' : Option Addr) (l1 l2 c1 c2 l1' l2' c1' c2' : Nat) (w : World) (ws : List Int) (h1 : l1 = ws.length) (h1' : l1' = ws.length) (s1 : SlI w a1 ws) (s1' : SlI w a1' ws) (hl1 : ws.length ≤ 2000000) (bs : List Bool) (h2 : l2 = bs.length) (h2' : l2' = bs.length) (s2 : SlB w a2 bs) (s2' : SlB w a2' bs) (hl2 : bs.length ≤ 2000000) :
    Calls Try.prog 9 #[rp kd fl pl nn a1 a2 l1 l2 c1 c2, rp kd fl pl nn a1' a2' l1' l2' c1' c2'] w fun e w' => e = .returned (.bool true) ∧ Below w.heap.size w w' := by
  obtain ⟨W0, hW0'⟩ : ∃ W0, W0 = (w.alloc (.cells #[.int .i64 kd, .int .i64 fl, .int .i64 pl, .int .i64 nn, .slice a1 l1 c1, .slice a2 l2 c2] 37)).alloc (.cells #[.int .i64 kd, .int .i64 fl, .int .i64 pl, .int .i64 nn, .slice a1' l1' c1', .slice a2' l2' c2'] 37) := ⟨_, rfl⟩
  have hW0 : Hid (W0 = _) := hW0'
  have B0 : Below w.heap.size w W0 := by rw [hW0']; exact bel_next (bel_alloc w _) (bel_alloc _ _)
  have X0 : Blk W0 w.heap.size 37 #[.int .i64 kd, .int .i64 fl, .int .i64 pl, .int .i64 nn, .slice a1 l1 c1, .slice a2 l2 c2] := by rw [hW0']; exact (Blk.new w _ _).below (bel_alloc _ _)
  have Y0 : Blk W0 (w.heap.size + 1) 37 #[.int .i64 kd, .int .i64 fl, .int .i64 pl, .int .i64 nn, .slice a1' l1' c1', .slice a2' l2' c2'] := by
    rw [hW0']; have := Blk.new (w.alloc (.cells #[.int .i64 kd, .int .i64 fl, .int .i64 pl, .int .i64 nn, .slice a1 l1 c1, .slice a2 l2 c2] 37)) #[.int .i64 kd, .int .i64 fl, .int .i64 pl, .int .i64 nn, .slice a1' l1' c1', .slice a2' l2' c2'] 37; simpa using this
  obtain ⟨x0, x1, x2, x3, x4, x5⟩ := X0.six
  obtain ⟨y0, y1, y2, y3, y4, y5⟩ := Y0.six
  have HH : Hid (l1 = ws.length ∧ l1' = ws.length ∧ SlI W0 a1 ws ∧ SlI W0 a1' ws) := ⟨h1, h1', s1.below B0, s1'.below B0⟩
  clear h1 h1' s1 s1'
  have HB : Hid (l2 = bs.length ∧ l2' = bs.length ∧ SlB W0 a2 bs ∧ SlB W0 a2' bs) := ⟨h2, h2', s2.below B0, s2'.below B0⟩
  clear h2 h2' s2 s2'
  clear hW0'
  go_enter Try.func9, Try.ntmps9
  go_upto_region 1 with fail
  rw [← hW0.out]
  go_wp2_with fail
  refine (sameInts_true _ _ _ _ _ _ ws _ HH.out.1 HH.out.2.1 HH.out.2.2.1 HH.out.2.2.2 hl1).mono ?_
  rintro e w1 ⟨rfl, n1, hw1⟩
  have b' : Below W0.heap.size W0 w1 := by rw [hw1]; exact drew_refl _ _
  have b1 := bel_next B0 b'
  obtain ⟨x0, x1, x2, x3, x4, x5⟩ := (X0.below b').six
  obtain ⟨y0, y1, y2, y3, y4, y5⟩ := (Y0.below b').six
  have HB1 : Hid (l2 = bs.length ∧ l2' = bs.length ∧ SlB w1 a2 bs ∧ SlB w1 a2' bs) := ⟨HB.out.1, HB.out.2.1, HB.out.2.2.1.below b', HB.out.2.2.2.below b'⟩
  clear hw1 b'
  go_wp2_with fail
  refine (sameBits_true _ _ _ _ _ _ bs _ HB1.out.1 HB1.out.2.1 HB1.out.2.2.1 HB1.out.2.2.2 (by omega)).mono ?_
  rintro e w2 ⟨rfl, n2, hw2⟩
  have b2' : Below w1.heap.size w1 w2 := by rw [hw2]; exact drew_refl _ _
  have b2 := bel_next b1 b2'
  clear hw2 b2'
  go_wp2
  go_ret
  exact ⟨rfl, b2⟩
end Go.Proofs.Ytfdddkjonjpgpaa
