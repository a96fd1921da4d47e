/- Questions: what the laws' own helpers do with one. -/
import Derived.Test.YtmhdneenjoelfaaGreatIos
import Derived.Test.YtmhdneenjoelfaaGreatBos
import Derived.Deep.Cut
import Derived.Deep.CutRange
import Derived.Deep.DeepCutAuto
namespace Go.Proofs.YtmhdneenjoelfaaGreat
open Go.RowKit

theorem bel_next {w0 w w' : World} (h : Below w0.heap.size w0 w) (h' : Below w.heap.size w w') : Below w0.heap.size w0 w' := h.trans (h'.mono h.size)

theorem bel_alloc (w : World) (o : Obj) : Below w.heap.size w (w.alloc o) := (Below.refl _ w).alloc (Nat.le_refl _) o

/-- A block that is known whole. -/
def Blk (w : World) (g : Nat) (t : TypeId) (cs : Array Value) : Prop := w.heap[g]? = some (.cells cs t (0, 0))

theorem Blk.cell {w : World} {g : Nat} {t : TypeId} {cs : Array Value} (h : Blk w g t cs) (j : Nat) {v : Value} (hj : cs[j]? = some v) : w.cell? ⟨g, j, none⟩ = some v := by
  unfold Blk at h; simp [World.cell?, h, hj]

theorem Blk.fro {w : World} {g : Nat} {t : TypeId} {cs : Array Value} (h : Blk w g t cs) (j : Nat) : w.frozen? ⟨g, j, none⟩ = false := by
  unfold Blk at h; simp [World.frozen?, h]

theorem Blk.lt {w : World} {g : Nat} {t : TypeId} {cs : Array Value} (h : Blk w g t cs) : g < w.heap.size := (Array.getElem?_eq_some_iff.1 h).1

theorem Blk.new (w : World) (cs : Array Value) (t : TypeId) : Blk (w.alloc (.cells cs t)) w.heap.size t cs := by
  show (w.heap.push (.cells cs t (0, 0)))[w.heap.size]? = _; simp

theorem Blk.below {w w' : World} {g : Nat} {t : TypeId} {cs : Array Value} (h : Blk w g t cs) (hb : Below w.heap.size w w') : Blk w' g t cs := by
  unfold Blk; rw [hb.block g h.lt]; exact h

theorem Blk.grown {w w' : World} {g : Nat} {t : TypeId} {cs : Array Value} {row : Option Nat} (h : Blk w g t cs) (hg : w.grownBy w' row) (hne : row ≠ some g) : Blk w' g t cs := by
  unfold Blk; rw [hg.block g h.lt (fun e => hne e.symm)]; exact h

theorem Blk.set {w : World} {g : Nat} {t : TypeId} {cs : Array Value} (h : Blk w g t cs) (j : Nat) (y : Value) : Blk (w.setCell ⟨g, j, none⟩ y) g t (cs.setIfInBounds j y) := by
  unfold Blk at h ⊢; simp [World.setCell, Array.getElem?_modify, h]

theorem Blk.setNe {w : World} {g g' j : Nat} {t : TypeId} {cs : Array Value} {y : Value} (h : Blk w g t cs) (hne : g ≠ g') : Blk (w.setCell ⟨g', j, none⟩ y) g t cs := by
  unfold Blk; rw [Below.heap_setCell _ _ _ _ hne]; exact h

/-- A row of one element type does not lie in a block of another. -/
theorem row_noBlk {w : World} {base size n g : Nat} {e t : TypeId} {v : Value} {xs : List Value} {cs : Array Value} (h : w.ownsRow base e size v n xs) (hb : Blk w g t cs) (ht : t ≠ e) : v.ownBlock ≠ some g := by
  intro he
  obtain ⟨_, h2⟩ := h
  rcases h2 with ⟨h2, _⟩ | ⟨g', cap, cur, hv, _, hh, _⟩
  · rw [h2] at he; simp [Value.ownBlock] at he
  · rw [hv] at he
    simp [Value.ownBlock] at he
    subst he
    unfold Blk at hb
    rw [hb] at hh
    simp at hh
    exact ht hh.2

theorem grown_setj (w : World) (g o : Nat) (v : Value) : w.grownBy (w.setCell ⟨g, o, none⟩ v) (some g) :=
  ⟨rfl, rfl, rfl, by simp [World.setCell], fun k hk hne => Below.heap_setCell _ _ _ _ (fun e => hne (by simpa using e))⟩

/-- A row stays where a block of another type is written. -/
theorem row_set {w : World} {base size n g j : Nat} {e t : TypeId} {v y : Value} {xs : List Value} {cs : Array Value} (h : w.ownsRow base e size v n xs) (hb : Blk w g t cs) (ht : t ≠ e) : (w.setCell ⟨g, j, none⟩ y).ownsRow base e size v n xs :=
  World.ownsRow.kept h (grown_setj w g j y) (.inr (row_noBlk h hb ht))

/-- There is such a block. -/
def ExB (w : World) (g : Nat) (t : TypeId) : Prop := ∃ cs, Blk w g t cs

theorem ExB.set {w : World} {g g' j : Nat} {t : TypeId} {y : Value} (h : ExB w g t) : ExB (w.setCell ⟨g', j, none⟩ y) g t := by
  obtain ⟨cs, h⟩ := h
  by_cases e : g = g'
  · subst e; exact ⟨_, h.set j y⟩
  · exact ⟨_, h.setNe e⟩

/-- Rows of one element type, a block of another, and what lies below: over a store into that block. -/
theorem row_setE {w : World} {base size n g j : Nat} {e t : TypeId} {v y : Value} {xs : List Value} (h : w.ownsRow base e size v n xs) (hb : ExB w g t) (ht : t ≠ e) : (w.setCell ⟨g, j, none⟩ y).ownsRow base e size v n xs := by
  obtain ⟨cs, hb⟩ := hb
  exact row_set h hb ht

theorem toIntS_ok (a : Option Addr) (n cap : Nat) (zs : List Int) (w : World) (hn : n = zs.length) (hs : SlI w a zs) (hl : zs.length ≤ 2000000) :
    Calls Tryz.prog 73 #[.slice a n cap] w fun e w' => ∃ g, e = .returned (.slice (some ⟨g, 0, none⟩) n n) ∧ OwnI w' w.heap.size (.slice (some ⟨g, 0, none⟩) n n) zs ∧ Below w.heap.size w w' := by
  refine (toIntS_any a n cap zs w hn hs hl).mono ?_
  rintro e w' ⟨rfl, q, b⟩
  exact ⟨_, rfl, OwnI.ofRow q hn (Nat.le_refl _) (by unfold maxLen; omega), b⟩

theorem toBoolS_ok (a : Option Addr) (n cap : Nat) (zs : List Bool) (w : World) (hn : n = zs.length) (hs : SlB w a zs) (hl : zs.length ≤ 20000000) :
    Calls Tryz.prog 74 #[.slice a n cap] w fun e w' => ∃ g, e = .returned (.slice (some ⟨g, 0, none⟩) n n) ∧ OwnB w' w.heap.size (.slice (some ⟨g, 0, none⟩) n n) zs ∧ Below w.heap.size w w' := by
  refine (toBoolS_any a n cap zs w hn hs hl).mono ?_
  rintro e w' ⟨rfl, q, b⟩
  exact ⟨_, rfl, OwnB.ofRow q hn (Nat.le_refl _) (by unfold maxLen; omega), b⟩

set_option maxHeartbeats 2000000 in
theorem szReq_fits (kd pl nn wa : Int) (a1 a2 : Option Addr) (l1 l2 c1 c2 : Nat) (w : World) (h : l1 + l2 ≤ 1048576) :
    Calls Tryz.prog 101 #[.agg #[.int .i64 kd, .int .i64 pl, .int .i64 nn, .slice a1 l1 c1, .slice a2 l2 c2, .int .i64 wa], .int .i64 1048576] w fun e w' => e = .returned (.int .i64 (1048576 - (l1 : Int) - (l2 : Int))) ∧ Below w.heap.size w w' := by
  have h1 : ¬ (1048576 - (l1 : Int) < 0) := by omega
  have h2 : ¬ (1048576 - (l1 : Int) - (l2 : Int) < 0) := by omega
  go_enter Tryz.func101, Tryz.ntmps101
  go_wp2_with (first | (go_at_call 69; go_in) | (go_at_call 70; go_in))
  go_ret
  exact ⟨rfl, bel_alloc _ _⟩

set_option maxHeartbeats 2000000 in
theorem szReq_big (kd pl nn wa : Int) (a1 a2 : Option Addr) (l1 l2 c1 c2 : Nat) (w : World) (hm1 : l1 ≤ maxLen) (hm2 : l2 ≤ maxLen) (h : ¬ l1 + l2 ≤ 1048576) :
    Calls Tryz.prog 101 #[.agg #[.int .i64 kd, .int .i64 pl, .int .i64 nn, .slice a1 l1 c1, .slice a2 l2 c2, .int .i64 wa], .int .i64 1048576] w fun e w' => e = .returned (.int .i64 (-1)) ∧ Below w.heap.size w w' := by
  unfold maxLen at hm1 hm2
  by_cases h1 : 1048576 - (l1 : Int) < 0
  · go_enter Tryz.func101, Tryz.ntmps101
    go_wp2_with (first | (go_at_call 69; go_in) | (go_at_call 70; go_in))
    go_ret
    exact ⟨rfl, bel_alloc _ _⟩
  · have h2 : 1048576 - (l1 : Int) - (l2 : Int) < 0 := by omega
    go_enter Tryz.func101, Tryz.ntmps101
    go_wp2_with (first | (go_at_call 69; go_in) | (go_at_call 70; go_in))
    go_ret
    exact ⟨rfl, bel_alloc _ _⟩

theorem OwnI.mono {w : World} {base base' : Nat} {v : Value} {zs : List Int} (h : OwnI w base v zs) (hb : base' ≤ base) : OwnI w base' v zs := by
  obtain ⟨h1, h2⟩ := h
  refine ⟨h1, ?_⟩
  rcases h2 with h2 | ⟨g, cap, cur, hv, hg, r⟩
  · exact .inl h2
  · exact .inr ⟨g, cap, cur, hv, by omega, r⟩

theorem OwnB.mono {w : World} {base base' : Nat} {v : Value} {zs : List Bool} (h : OwnB w base v zs) (hb : base' ≤ base) : OwnB w base' v zs := by
  obtain ⟨h1, h2⟩ := h
  refine ⟨h1, ?_⟩
  rcases h2 with h2 | ⟨g, cap, cur, hv, hg, r⟩
  · exact .inl h2
  · exact .inr ⟨g, cap, cur, hv, by omega, r⟩

theorem S2_below {w w' : World} {a : Option Addr} {zs : List Bool} (h : SlB w a zs) (hb : Below w.heap.size w w') : SlB w' a zs := h.below hb

set_option maxRecDepth 20000 in
set_option maxHeartbeats 4000000 in
theorem toReq_any (kd pl nn wa : Int) (a1 a2 : Option Addr) (l1 l2 c1 c2 : Nat) (ws : List Int) (bs : List Bool) (w : World) (h1 : l1 = ws.length) (h2 : l2 = bs.length) (s1 : SlI w a1 ws) (s2 : SlB w a2 bs) (hl1 : l1 ≤ 2000000) (hl2 : l2 ≤ 2000000) :
    Calls Tryz.prog 107 #[.agg #[.int .i64 kd, .int .i64 pl, .int .i64 nn, .slice a1 l1 c1, .slice a2 l2 c2, .int .i64 wa]] w fun e w' => ∃ g1 g2, e = .returned (.agg #[.int .i64 kd, .int .i64 pl, .int .i64 nn, .slice (some ⟨g1, 0, none⟩) l1 l1, .slice (some ⟨g2, 0, none⟩) l2 l2, .int .i64 wa]) ∧
      OwnI w' w.heap.size (.slice (some ⟨g1, 0, none⟩) l1 l1) ws ∧ OwnB w' w.heap.size (.slice (some ⟨g2, 0, none⟩) l2 l2) bs ∧ Below w.heap.size w w' := by
  have H1 : Hid (l1 = ws.length) := h1
  have H2 : Hid (l2 = bs.length) := h2
  have HL : Hid (ws.length ≤ 2000000 ∧ bs.length ≤ 20000000) := by show _ ∧ _; omega
  obtain ⟨W0, hW0'⟩ : ∃ W0, W0 = ((w.alloc (.cells #[.int .i64 kd, .int .i64 pl, .int .i64 nn, .slice a1 l1 c1, .slice a2 l2 c2, .int .i64 wa] 49)).alloc (.cells #[.int .i64 0, .int .i64 0, .int .i64 0, .slice none 0 0, .slice none 0 0, .int .i64 0] 28)).alloc (.cells #[.int .i64 kd, .int .i64 pl, .int .i64 nn, .slice none 0 0, .slice none 0 0, .int .i64 0] 28) := ⟨_, rfl⟩
  have hW0 : Hid (W0 = _) := hW0'
  have hz : W0.heap.size = w.heap.size + 1 + 1 + 1 := by rw [hW0']; simp
  have B0 : Below w.heap.size w W0 := by rw [hW0']; exact bel_next (bel_next (bel_alloc w _) (bel_alloc _ _)) (bel_alloc _ _)
  have A0 : Blk W0 w.heap.size 49 #[.int .i64 kd, .int .i64 pl, .int .i64 nn, .slice a1 l1 c1, .slice a2 l2 c2, .int .i64 wa] := by rw [hW0']; exact ((Blk.new w _ _).below (bel_alloc _ _)).below (bel_alloc _ _)
  have R0 : Blk W0 (w.heap.size + 1) 28 #[.int .i64 0, .int .i64 0, .int .i64 0, .slice none 0 0, .slice none 0 0, .int .i64 0] := by
    rw [hW0']; have := (Blk.new (w.alloc (.cells #[.int .i64 kd, .int .i64 pl, .int .i64 nn, .slice a1 l1 c1, .slice a2 l2 c2, .int .i64 wa] 49)) #[.int .i64 0, .int .i64 0, .int .i64 0, .slice none 0 0, .slice none 0 0, .int .i64 0] 28).below (bel_alloc _ (.cells #[.int .i64 kd, .int .i64 pl, .int .i64 nn, .slice none 0 0, .slice none 0 0, .int .i64 0] 28)); simpa using this
  have O0 : Blk W0 (w.heap.size + 1 + 1) 28 #[.int .i64 kd, .int .i64 pl, .int .i64 nn, .slice none 0 0, .slice none 0 0, .int .i64 0] := by
    rw [hW0']; have := Blk.new ((w.alloc (.cells #[.int .i64 kd, .int .i64 pl, .int .i64 nn, .slice a1 l1 c1, .slice a2 l2 c2, .int .i64 wa] 49)).alloc (.cells #[.int .i64 0, .int .i64 0, .int .i64 0, .slice none 0 0, .slice none 0 0, .int .i64 0] 28)) #[.int .i64 kd, .int .i64 pl, .int .i64 nn, .slice none 0 0, .slice none 0 0, .int .i64 0] 28; simpa using this
  have S1 : Hid (SlI W0 a1 ws) := s1.below B0
  have S2 : Hid (SlB w a2 bs) := s2
  have c03 := A0.cell 3 rfl
  clear h1 h2 s1 s2 hW0'
  go_enter Tryz.func107, Tryz.ntmps107
  go_upto_region 5 with fail
  rw [← hW0.out]
  go_wp2_with fail
  refine (toIntS_ok a1 l1 c1 ws _ H1.out S1.out HL.out.1).mono ?_
  rintro e w1 ⟨g1, rfl, i1, b1'⟩
  have b1 := bel_next B0 b1'
  have A1 := A0.below b1'
  have R1 := R0.below b1'
  have O1 := O0.below b1'
  have co := O1.cell 3 rfl
  have fo := O1.fro 3
  have A2 := A1.setNe (g' := w.heap.size + 1 + 1) (j := 3) (y := .slice (some ⟨g1, 0, none⟩) l1 l1) (by omega)
  have R2 := R1.setNe (g' := w.heap.size + 1 + 1) (j := 3) (y := .slice (some ⟨g1, 0, none⟩) l1 l1) (by omega)
  have O2 := O1.set 3 (.slice (some ⟨g1, 0, none⟩) l1 l1)
  have I2 : OwnI (w1.setCell ⟨w.heap.size + 1 + 1, 3, none⟩ (.slice (some ⟨g1, 0, none⟩) l1 l1)) W0.heap.size (.slice (some ⟨g1, 0, none⟩) l1 l1) ws := row_set i1 O1 (by decide)
  have b2 := b1.setCell (p := ⟨w.heap.size + 1 + 1, 3, none⟩) (by show w.heap.size ≤ w.heap.size + 1 + 1; omega) (.slice (some ⟨g1, 0, none⟩) l1 l1)
  clear b1' B0 A0 R0 O0 A1 R1 O1 i1 b1 c03
  go_upto_region 6 with fail
  generalize w1.setCell ⟨w.heap.size + 1 + 1, 3, none⟩ (.slice (some ⟨g1, 0, none⟩) l1 l1) = w2 at *
  have c04 := A2.cell 4 rfl
  clear co fo
  go_wp2_with fail
  refine (toBoolS_ok a2 l2 c2 bs _ H2.out (S2_below S2.out b2) HL.out.2).mono ?_
  rintro e w3 ⟨g2, rfl, j3, b3'⟩
  have b3 := bel_next b2 b3'
  have A3 := A2.below b3'
  have R3 := R2.below b3'
  have O3 := O2.below b3'
  have I3 := I2.below b3'
  have c05 := A3.cell 5 rfl
  have o0 := O3.cell 0 rfl
  have o1 := O3.cell 1 rfl
  have o2 := O3.cell 2 rfl
  have o3 := O3.cell 3 rfl
  have o4 := O3.cell 4 rfl
  have o5 := O3.cell 5 rfl
  have r0 := R3.cell 0 rfl
  have r1 := R3.cell 1 rfl
  have r2 := R3.cell 2 rfl
  have r3 := R3.cell 3 rfl
  have r4 := R3.cell 4 rfl
  have r5 := R3.cell 5 rfl
  have fo := O3.fro
  have fr := R3.fro
  have HH : Hid (OwnI w3 W0.heap.size (.slice (some ⟨g1, 0, none⟩) l1 l1) ws) := I3
  have b2s : Hid (w.heap.size ≤ w2.heap.size) := b2.size
  clear A2 R2 O2 I2 b3' A3 b2 c04 I3
  have eO : ExB w3 (w.heap.size + 1 + 1) 28 := ⟨_, O3⟩
  have eR : ExB w3 (w.heap.size + 1) 28 := ⟨_, R3⟩
  have HJ : Hid (OwnB w3 w2.heap.size (.slice (some ⟨g2, 0, none⟩) l2 l2) bs ∧ Below w.heap.size w w3 ∧ ExB w3 (w.heap.size + 1 + 1) 28 ∧ ExB w3 (w.heap.size + 1) 28) := ⟨j3, b3, eO, eR⟩
  have hz2 : w.heap.size ≤ w2.heap.size := by have := b2s.out; omega
  have hz0 : w.heap.size ≤ W0.heap.size := by omega
  clear O3 R3 j3 b3 eO eR
  go_wp2
  refine bodyPost_ret (v := .agg #[.int .i64 kd, .int .i64 pl, .int .i64 nn, .slice (some ⟨g1, 0, none⟩) l1 l1, .slice (some ⟨g2, 0, none⟩) l2 l2, .int .i64 wa]) (by simp [results, Tryz.results107, go_sem, r0, r1, r2, r3, r4, r5]) rfl ?_
  obtain ⟨j3, b3, eO, eR⟩ := HJ.out
  refine ⟨g1, g2, rfl, ?_, ?_, ?_⟩
  · exact OwnI.mono (show OwnI _ _ _ _ from (row_setE (row_setE (row_setE (row_setE (row_setE (row_setE (row_setE (row_setE HH.out eO (by decide)) (ExB.set eO) (by decide)) (ExB.set (ExB.set eR)) (by decide)) (ExB.set (ExB.set (ExB.set eR))) (by decide)) (ExB.set (ExB.set (ExB.set (ExB.set eR)))) (by decide)) (ExB.set (ExB.set (ExB.set (ExB.set (ExB.set eR))))) (by decide)) (ExB.set (ExB.set (ExB.set (ExB.set (ExB.set (ExB.set eR)))))) (by decide)) (ExB.set (ExB.set (ExB.set (ExB.set (ExB.set (ExB.set (ExB.set eR))))))) (by decide))) hz0
  · exact OwnB.mono (show OwnB _ _ _ _ from (row_setE (row_setE (row_setE (row_setE (row_setE (row_setE (row_setE (row_setE j3 eO (by decide)) (ExB.set eO) (by decide)) (ExB.set (ExB.set eR)) (by decide)) (ExB.set (ExB.set (ExB.set eR))) (by decide)) (ExB.set (ExB.set (ExB.set (ExB.set eR)))) (by decide)) (ExB.set (ExB.set (ExB.set (ExB.set (ExB.set eR))))) (by decide)) (ExB.set (ExB.set (ExB.set (ExB.set (ExB.set (ExB.set eR)))))) (by decide)) (ExB.set (ExB.set (ExB.set (ExB.set (ExB.set (ExB.set (ExB.set eR))))))) (by decide))) hz2
  · exact ((((((((b3.setCell (p := ⟨w.heap.size + 1 + 1, 4, none⟩) (by show w.heap.size ≤ w.heap.size + 1 + 1; omega) _).setCell (p := ⟨w.heap.size + 1 + 1, 5, none⟩) (by show w.heap.size ≤ w.heap.size + 1 + 1; omega) _).setCell (p := ⟨w.heap.size + 1, 0, none⟩) (by show w.heap.size ≤ w.heap.size + 1; omega) _).setCell (p := ⟨w.heap.size + 1, 1, none⟩) (by show w.heap.size ≤ w.heap.size + 1; omega) _).setCell (p := ⟨w.heap.size + 1, 2, none⟩) (by show w.heap.size ≤ w.heap.size + 1; omega) _).setCell (p := ⟨w.heap.size + 1, 3, none⟩) (by show w.heap.size ≤ w.heap.size + 1; omega) _).setCell (p := ⟨w.heap.size + 1, 4, none⟩) (by show w.heap.size ≤ w.heap.size + 1; omega) _).setCell (p := ⟨w.heap.size + 1, 5, none⟩) (by show w.heap.size ≤ w.heap.size + 1; omega) _)

theorem eqIntS_ok (a a' : Option Addr) (n n' cap cap' : Nat) (zs : List Int) (w : World) (hn : n = zs.length) (hn' : n' = zs.length) (hs : SlI w a zs) (hs' : SlI w a' zs) (hl : zs.length ≤ 2000000) :
    Calls Tryz.prog 75 #[.slice a n cap, .slice a' n' cap'] w fun e w' => e = .returned (.bool true) ∧ Below w.heap.size w w' := by
  refine (eqIntS_true a a' n n' cap cap' zs w hn hn' hs hs' hl).mono ?_
  rintro e w' ⟨rfl, k, rfl⟩
  exact ⟨rfl, drew_refl _ _⟩

theorem eqBoolS_ok (a a' : Option Addr) (n n' cap cap' : Nat) (zs : List Bool) (w : World) (hn : n = zs.length) (hn' : n' = zs.length) (hs : SlB w a zs) (hs' : SlB w a' zs) (hl : zs.length ≤ 20000000) :
    Calls Tryz.prog 76 #[.slice a n cap, .slice a' n' cap'] w fun e w' => e = .returned (.bool true) ∧ Below w.heap.size w w' := by
  refine (eqBoolS_true a a' n n' cap cap' zs w hn hn' hs hs' hl).mono ?_
  rintro e w' ⟨rfl, k, rfl⟩
  exact ⟨rfl, drew_refl _ _⟩

set_option maxHeartbeats 2000000 in
theorem eqReq_true (kd pl nn wa : Int) (a1 a2 a1' a2' : Option Addr) (l1 l2 l1' l2' c1 c2 c1' c2' : Nat) (ws : List Int) (bs : List Bool) (w : World) (h1 : l1 = ws.length) (h2 : l2 = bs.length) (h1' : l1' = ws.length) (h2' : l2' = bs.length) (s1 : SlI w a1 ws) (s2 : SlB w a2 bs) (s1' : SlI w a1' ws) (s2' : SlB w a2' bs) (hl1 : ws.length ≤ 2000000) (hl2 : bs.length ≤ 20000000) :
    Calls Tryz.prog 108 #[.agg #[.int .i64 kd, .int .i64 pl, .int .i64 nn, .slice a1 l1 c1, .slice a2 l2 c2, .int .i64 wa], .agg #[.int .i64 kd, .int .i64 pl, .int .i64 nn, .slice a1' l1' c1', .slice a2' l2' c2', .int .i64 wa]] w fun e w' => e = .returned (.bool true) ∧ Below w.heap.size w w' := by
  obtain ⟨W0, hW0'⟩ : ∃ W0, W0 = (w.alloc (.cells #[.int .i64 kd, .int .i64 pl, .int .i64 nn, .slice a1 l1 c1, .slice a2 l2 c2, .int .i64 wa] 28)).alloc (.cells #[.int .i64 kd, .int .i64 pl, .int .i64 nn, .slice a1' l1' c1', .slice a2' l2' c2', .int .i64 wa] 28) := ⟨_, rfl⟩
  have hW0 : Hid (W0 = _) := hW0'
  have B0 : Below w.heap.size w W0 := by rw [hW0']; exact bel_next (bel_alloc w _) (bel_alloc _ _)
  have X0 : Blk W0 w.heap.size 28 #[.int .i64 kd, .int .i64 pl, .int .i64 nn, .slice a1 l1 c1, .slice a2 l2 c2, .int .i64 wa] := by rw [hW0']; exact (Blk.new w _ _).below (bel_alloc _ _)
  have Y0 : Blk W0 (w.heap.size + 1) 28 #[.int .i64 kd, .int .i64 pl, .int .i64 nn, .slice a1' l1' c1', .slice a2' l2' c2', .int .i64 wa] := by
    rw [hW0']; have := Blk.new (w.alloc (.cells #[.int .i64 kd, .int .i64 pl, .int .i64 nn, .slice a1 l1 c1, .slice a2 l2 c2, .int .i64 wa] 28)) #[.int .i64 kd, .int .i64 pl, .int .i64 nn, .slice a1' l1' c1', .slice a2' l2' c2', .int .i64 wa] 28; simpa using this
  have HH : Hid (l1 = ws.length ∧ l2 = bs.length ∧ l1' = ws.length ∧ l2' = bs.length ∧ SlI W0 a1 ws ∧ SlB W0 a2 bs ∧ SlI W0 a1' ws ∧ SlB W0 a2' bs) := ⟨h1, h2, h1', h2', s1.below B0, s2.below B0, s1'.below B0, s2'.below B0⟩
  have x0 := X0.cell 0 rfl
  have x1 := X0.cell 1 rfl
  have x2 := X0.cell 2 rfl
  have x3 := X0.cell 3 rfl
  have y0 := Y0.cell 0 rfl
  have y1 := Y0.cell 1 rfl
  have y2 := Y0.cell 2 rfl
  have y3 := Y0.cell 3 rfl
  clear h1 h2 h1' h2' s1 s2 s1' s2' hW0'
  go_enter Tryz.func108, Tryz.ntmps108
  go_upto_region 1 with fail
  rw [← hW0.out]
  go_wp2_with fail
  refine (eqIntS_ok _ _ _ _ _ _ ws _ HH.out.1 HH.out.2.2.1 HH.out.2.2.2.2.1 HH.out.2.2.2.2.2.2.1 hl1).mono ?_
  rintro e w1 ⟨rfl, b1'⟩
  have b1 := bel_next B0 b1'
  have X1 := X0.below b1'
  have Y1 := Y0.below b1'
  have x4 := X1.cell 4 rfl
  have y4 := Y1.cell 4 rfl
  have S1 : Hid (SlB w1 a2 bs ∧ SlB w1 a2' bs) := ⟨HH.out.2.2.2.2.2.1.below b1', HH.out.2.2.2.2.2.2.2.below b1'⟩
  clear x0 x1 x2 x3 y0 y1 y2 y3 X0 Y0 B0 b1'
  go_wp2_with fail
  refine (eqBoolS_ok _ _ _ _ _ _ bs _ HH.out.2.1 HH.out.2.2.2.1 S1.out.1 S1.out.2 hl2).mono ?_
  rintro e w2 ⟨rfl, b2'⟩
  have b2 := bel_next b1 b2'
  have x5 := (X1.below b2').cell 5 rfl
  have y5 := (Y1.below b2').cell 5 rfl
  clear x4 y4 X1 Y1 b1 b2'
  go_wp2
  go_ret
  exact ⟨rfl, b2⟩

end Go.Proofs.YtmhdneenjoelfaaGreat
