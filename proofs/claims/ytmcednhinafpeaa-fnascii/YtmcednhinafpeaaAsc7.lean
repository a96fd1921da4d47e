/- What a listener of digits does with a byte within a frame. -/
import Derived.Test.YtmcednhinafpeaaAsc6
namespace Go.Proofs.Ytmcednhinafpeaa
open Go.RowKit

set_option linter.unusedVariables false

set_option linter.unusedSimpArgs false

abbrev st4 (w : World) (g : Nat) (v0 v1 v2 v3 : Value) : World := (((w.setCell ⟨g, 0, none⟩ v0).setCell ⟨g, 1, none⟩ v1).setCell ⟨g, 2, none⟩ v2).setCell ⟨g, 3, none⟩ v3

theorem st4_size (w : World) (g : Nat) (v0 v1 v2 v3 : Value) : (st4 w g v0 v1 v2 v3).heap.size = w.heap.size := by simp [st4, World.setCell]

theorem st4_self {w : World} {g : Nat} {t : TypeId} {a0 a1 a2 a3 : Value} (h : Blk w g t #[a0, a1, a2, a3]) (v0 v1 v2 v3 : Value) : Blk (st4 w g v0 v1 v2 v3) g t #[v0, v1, v2, v3] := by
  have := (((h.set 0 v0).set 1 v1).set 2 v2).set 3 v3
  simpa using this

theorem st4_own {w : World} {g base : Nat} {t : Value} {v0 v1 v2 v3 : Value} {zs : List Int} (h : Own w base t zs) (hb : ExB w g 31) : Own (st4 w g v0 v1 v2 v3) base t zs :=
  (show Own _ _ _ _ from (row_setE (row_setE (row_setE (row_setE h hb (by decide)) (ExB.set hb) (by decide)) (ExB.set (ExB.set hb)) (by decide)) (ExB.set (ExB.set (ExB.set hb))) (by decide)))

theorem st4_bel {B : Nat} {W w : World} {g : Nat} {v0 v1 v2 v3 : Value} (h : Below B W w) (hg : B ≤ g) : Below B W (st4 w g v0 v1 v2 v3) :=
  (((h.setCell (p := ⟨g, 0, none⟩) hg v0).setCell (p := ⟨g, 1, none⟩) hg v1).setCell (p := ⟨g, 2, none⟩) hg v2).setCell (p := ⟨g, 3, none⟩) hg v3

theorem st4_blk {w : World} {g g' : Nat} {t : TypeId} {cs : Array Value} {v0 v1 v2 v3 : Value} (h : Blk w g' t cs) (hne : g' ≠ g) : Blk (st4 w g v0 v1 v2 v3) g' t cs :=
  (((h.setNe hne).setNe hne).setNe hne).setNe hne

theorem own_set1 {w : World} {g base j : Nat} {t v : Value} {zs : List Int} (h : Own w base t zs) (hb : ExB w g 31) : Own (w.setCell ⟨g, j, none⟩ v) base t zs :=
  (show Own _ _ _ _ from row_setE h hb (by decide))

set_option maxRecDepth 20000 in
set_option maxHeartbeats 2000000 in
theorem within_colon (a : Option Addr) (l c : Nat) (op : Bool) (ls wt : Int) (w : World) :
    Calls Try.prog 66 #[sc a l c op ls wt, .int .u8 58] w fun e w' => ∃ g gg, e = .returned (.tuple #[sc (some ⟨g, 0, none⟩) 1 1 true ls wt, .slice (some ⟨gg, 0, none⟩) 1 1]) ∧ Own w' w.heap.size (.slice (some ⟨g, 0, none⟩) 1 1) [58] ∧ w.heap.size ≤ gg ∧ Blk w' gg 39 (gcs 4 0 none 0 0 []) ∧ Below w.heap.size w w' := by
  obtain ⟨W0, hW0'⟩ : ∃ W0, W0 = ((w.alloc (.cells #[.slice a l c, .bool op, .int .i64 ls, .int .i64 wt] 31)).alloc (.cells #[.slice none 0 0, .bool false, .int .i64 0, .int .i64 0] 31)) := ⟨_, rfl⟩
  have hW0 : Hid (W0 = _) := hW0'
  have hz : W0.heap.size = w.heap.size + 1 + 1 := by rw [hW0']; simp
  have B0 : Below w.heap.size w W0 := by rw [hW0']; exact bel_next (bel_alloc w _) (bel_alloc _ _)
  have X0 : Blk W0 w.heap.size 31 #[.slice a l c, .bool op, .int .i64 ls, .int .i64 wt] := by rw [hW0']; exact (Blk.new w _ _).below (bel_alloc _ _)
  have R0 : Blk W0 (w.heap.size + 1) 31 #[.slice none 0 0, .bool false, .int .i64 0, .int .i64 0] := by rw [hW0']; have := (Blk.new (w.alloc (.cells #[.slice a l c, .bool op, .int .i64 ls, .int .i64 wt] 31)) #[.slice none 0 0, .bool false, .int .i64 0, .int .i64 0] 31); simpa using this
  clear hW0'
  go_enter Try.func66, Try.ntmps66
  go_wp2_with fail
  rw [← hW0.out]
  refine (shut_any a l c op ls wt 4 0 none 0 0 _).mono ?_
  rintro e w1 ⟨gg, rfl, hgg, G1, b1'⟩
  have q1 := bel_alloc w1 (.cells #[.slice none 0 0, .bool false, .int .i64 ls, .int .i64 wt] 31)
  have b1 := bel_next (bel_next B0 b1') q1
  have R1 := (R0.below b1').below q1
  have G2 := G1.below q1
  have hgn : gg ≠ w.heap.size + 1 := by omega
  have HGG : Hid (w.heap.size ≤ gg ∧ gg ≠ w.heap.size + 1) := by show _ ∧ _; omega
  clear B0 X0 R0 b1' G1 hgn hgg q1
  go_wp2_with fail
  refine (between_colon _ _ _ _ _ _ _ _ rfl).mono ?_
  rintro e w2 ⟨g2, rfl, o2, b2'⟩
  have q2 := bel_alloc w2 (.cells #[.slice (some ⟨g2, 0, none⟩) 1 1, .bool true, .int .i64 ls, .int .i64 wt] 31)
  have b2 := bel_next (bel_next b1 b2') q2
  have R2 := (R1.below b2').below q2
  have G3 := (G2.below b2').below q2
  have o3 := (o2.monoT b1.size).below q2
  clear b1 b2' R1 G2 o2 q2
  obtain ⟨r0, r1, r2, r3⟩ := R2.four
  have fr := R2.fro
  go_wp2
  refine bodyPost_ret (v := .tuple #[sc (some ⟨g2, 0, none⟩) 1 1 true ls wt, .slice (some ⟨gg, 0, none⟩) 1 1]) (by simp [results, Try.results66, go_sem, r0, r1, r2, r3]) rfl ?_
  exact ⟨g2, gg, rfl, st4_own o3 ⟨_, R2⟩, HGG.out.1, st4_blk G3 HGG.out.2, st4_bel b2 (by omega)⟩

set_option maxRecDepth 20000 in
set_option maxHeartbeats 2000000 in
theorem within_app (W : World) (a : Option Addr) (l c : Nat) (op : Bool) (ls wt b : Int) (zs : List Int) (w : World) (hW : Below W.heap.size W w) (ho : Own w W.heap.size (.slice a l c) zs) (hl : l < 600) (h58 : (b == 58) = false) (h10 : (b == 10) = false) :
    Calls Try.prog 66 #[sc a l c op ls wt, .int .u8 b] w fun e w' => ∃ a' n' c', e = .returned (.tuple #[sc a' n' c' op ls wt, .slice none 0 0]) ∧ n' = (zs ++ [b]).length ∧ Own w' W.heap.size (.slice a' n' c') (zs ++ [b]) ∧ Below W.heap.size W w' ∧ (∀ g' t cs, Blk w g' t cs → t ≠ 5 → Blk w' g' t cs) := by
  have hln : l = zs.length := ho.sl.1
  obtain ⟨W0, hW0'⟩ : ∃ W0, W0 = ((w.alloc (.cells #[.slice a l c, .bool op, .int .i64 ls, .int .i64 wt] 31)).alloc (.cells #[.slice none 0 0, .bool false, .int .i64 0, .int .i64 0] 31)).alloc (.cells #[.int .u8 b] 5) := ⟨_, rfl⟩
  have hW0 : Hid (W0 = _) := hW0'
  have hz : W0.heap.size = w.heap.size + 1 + 1 + 1 := by rw [hW0']; simp
  have B0 : Below w.heap.size w W0 := by rw [hW0']; exact bel_next (bel_next (bel_alloc w _) (bel_alloc _ _)) (bel_alloc _ _)
  have X0 : Blk W0 w.heap.size 31 #[.slice a l c, .bool op, .int .i64 ls, .int .i64 wt] := by rw [hW0']; exact ((Blk.new w _ _).below (bel_alloc _ _)).below (bel_alloc _ _)
  have R0 : Blk W0 (w.heap.size + 1) 31 #[.slice none 0 0, .bool false, .int .i64 0, .int .i64 0] := by rw [hW0']; have := (Blk.new (w.alloc (.cells #[.slice a l c, .bool op, .int .i64 ls, .int .i64 wt] 31)) #[.slice none 0 0, .bool false, .int .i64 0, .int .i64 0] 31).below (bel_alloc _ (.cells #[.int .u8 b] 5)); simpa using this
  have oL : Own W0 W.heap.size (.slice a l c) zs := ho.below B0
  have BW := bel_next hW B0
  have hsW : W.heap.size ≤ w.heap.size := hW.size
  have SB : Hid (Sl W0 (some ⟨w.heap.size + 1 + 1, 0, none⟩) [b]) := by rw [hW0']; exact sl_lit1 _ b (by simp)
  have HLn : Hid (zs.length + [b].length ≤ 4000000) := by show zs.length + [b].length ≤ 4000000; simp; omega
  have HNN : Hid (l = zs.length) := hln
  have BZ : Hid (W.heap.size ≤ W0.heap.size) := BW.size
  have HB0 : Hid (Below w.heap.size w W0) := B0
  have HL6 := hide hl
  clear hW0' hln ho hW B0 hl
  go_enter Try.func66, Try.ntmps66
  go_wp2_with (at_builtin; rw [← hW0.out]; refine wpList_app rfl (.tmp 30) (.tmp 32) rfl W.heap.size (.slice a l c) zs rfl oL ⟨w.heap.size + 1 + 1, 0, none⟩ 1 1 [b] rfl rfl SB.out HLn.out BZ.out ?_; intro v1 w1 o1 g1; have b1 : Below W.heap.size W w1 := bel_grown BW oL g1 (Nat.le_refl _) BZ.out; have HKB : Hid (∀ g' t cs, Blk w g' t cs → t ≠ 5 → Blk w1 g' t cs) := (fun g' t cs h ht => (h.below HB0.out).grown g1 (row_noBlk oL (h.below HB0.out) ht)); have X1 := X0.grown g1 (row_noBlk oL X0 (by decide)); have R1 := R0.grown g1 (row_noBlk oL R0 (by decide)); obtain ⟨a', c', n', rfl, hn'⟩ := own_shapeT o1; have HN' : Hid (n' = (zs ++ [b]).length) := hn'; have hn6 : ¬ ((600 : Int) < (n' : Int)) := (by have := HNN.out; have := HL6.out; simp at hn'; omega); clear hn' g1 oL X0 R0 BW SB; obtain ⟨x0, x1, x2, x3⟩ := X1.four; obtain ⟨r0, r1, r2, r3⟩ := R1.four; have fx := X1.fro; have fr := R1.fro; have HJ : Hid (Own w1 W.heap.size (.slice a' n' c') (zs ++ [b]) ∧ Below W.heap.size W w1 ∧ Blk w1 w.heap.size 31 #[.slice a l c, .bool op, .int .i64 ls, .int .i64 wt] ∧ Blk w1 (w.heap.size + 1) 31 #[.slice none 0 0, .bool false, .int .i64 0, .int .i64 0]) := ⟨o1, b1, X1, R1⟩; clear X1 R1 o1 b1)
  refine bodyPost_ret (v := .tuple #[sc a' n' c' op ls wt, .slice none 0 0]) (by simp [results, Try.results66, go_sem, r0, r1, r2, r3]) rfl ?_
  obtain ⟨o1, b1, X1, R1⟩ := HJ.out
  exact ⟨a', n', c', rfl, by have := HN'.out; simpa using this, st4_own (own_set1 o1 ⟨_, X1⟩) (ExB.set ⟨_, R1⟩), st4_bel (b1.setCell (p := ⟨w.heap.size, 0, none⟩) hsW _) (by omega), fun g' t cs h ht => st4_blk ((HKB.out g' t cs h ht).setNe (by have := h.lt; omega)) (by have := h.lt; omega)⟩

set_option maxRecDepth 20000 in
set_option maxHeartbeats 2000000 in
theorem within_long (W : World) (a : Option Addr) (l c : Nat) (op : Bool) (ls wt b : Int) (zs : List Int) (w : World) (hW : Below W.heap.size W w) (ho : Own w W.heap.size (.slice a l c) zs) (hl : l = 600) (h58 : (b == 58) = false) :
    Calls Try.prog 66 #[sc a l c op ls wt, .int .u8 b] w fun e w' => ∃ g pa pn pc, e = .returned (.tuple #[sc none 0 0 false ls wt, .slice (some ⟨g, 0, none⟩) 1 1]) ∧ W.heap.size ≤ g ∧ Blk w' g 39 (gcs 2 0 pa pn pc []) ∧ pn = ([] : List Int).length ∧ Own w' W.heap.size (.slice pa pn pc) [] ∧ Below W.heap.size W w' ∧ (∀ g' t cs, Blk w g' t cs → t ≠ 5 → Blk w' g' t cs) := by
  have hln : l = zs.length := ho.sl.1
  obtain ⟨W0, hW0'⟩ : ∃ W0, W0 = ((w.alloc (.cells #[.slice a l c, .bool op, .int .i64 ls, .int .i64 wt] 31)).alloc (.cells #[.slice none 0 0, .bool false, .int .i64 0, .int .i64 0] 31)).alloc (.cells #[.int .u8 b] 5) := ⟨_, rfl⟩
  have hW0 : Hid (W0 = _) := hW0'
  have hz : W0.heap.size = w.heap.size + 1 + 1 + 1 := by rw [hW0']; simp
  have B0 : Below w.heap.size w W0 := by rw [hW0']; exact bel_next (bel_next (bel_alloc w _) (bel_alloc _ _)) (bel_alloc _ _)
  have X0 : Blk W0 w.heap.size 31 #[.slice a l c, .bool op, .int .i64 ls, .int .i64 wt] := by rw [hW0']; exact ((Blk.new w _ _).below (bel_alloc _ _)).below (bel_alloc _ _)
  have R0 : Blk W0 (w.heap.size + 1) 31 #[.slice none 0 0, .bool false, .int .i64 0, .int .i64 0] := by rw [hW0']; have := (Blk.new (w.alloc (.cells #[.slice a l c, .bool op, .int .i64 ls, .int .i64 wt] 31)) #[.slice none 0 0, .bool false, .int .i64 0, .int .i64 0] 31).below (bel_alloc _ (.cells #[.int .u8 b] 5)); simpa using this
  have oL : Own W0 W.heap.size (.slice a l c) zs := ho.below B0
  have BW := bel_next hW B0
  have hsW : W.heap.size ≤ w.heap.size := hW.size
  have SB : Hid (Sl W0 (some ⟨w.heap.size + 1 + 1, 0, none⟩) [b]) := by rw [hW0']; exact sl_lit1 _ b (by simp)
  have HLn : Hid (zs.length + [b].length ≤ 4000000) := by show zs.length + [b].length ≤ 4000000; simp; omega
  have HNN : Hid (l = zs.length) := hln
  have BZ : Hid (W.heap.size ≤ W0.heap.size) := BW.size
  have HB0 : Hid (Below w.heap.size w W0) := B0
  have HL6 := hide hl
  clear hW0' hln ho hW B0 hl
  go_enter Try.func66, Try.ntmps66
  go_wp2_with (at_builtin; rw [← hW0.out]; refine wpList_app rfl (.tmp 30) (.tmp 32) rfl W.heap.size (.slice a l c) zs rfl oL ⟨w.heap.size + 1 + 1, 0, none⟩ 1 1 [b] rfl rfl SB.out HLn.out BZ.out ?_; intro v1 w1 o1 g1; have b1 : Below W.heap.size W w1 := bel_grown BW oL g1 (Nat.le_refl _) BZ.out; have HKB : Hid (∀ g' t cs, Blk w g' t cs → t ≠ 5 → Blk w1 g' t cs) := (fun g' t cs h ht => (h.below HB0.out).grown g1 (row_noBlk oL (h.below HB0.out) ht)); have X1 := X0.grown g1 (row_noBlk oL X0 (by decide)); have R1 := R0.grown g1 (row_noBlk oL R0 (by decide)); obtain ⟨a', c', n', rfl, hn'⟩ := own_shapeT o1; have HN' : Hid (n' = (zs ++ [b]).length) := hn'; have hn6 : (600 : Int) < (n' : Int) := (by have := HNN.out; have := HL6.out; simp at hn'; omega); clear hn' g1 oL X0 R0 BW SB; obtain ⟨x0, x1, x2, x3⟩ := X1.four; obtain ⟨r0, r1, r2, r3⟩ := R1.four; have fx := X1.fro; have fr := R1.fro; have HJ : Hid (Own w1 W.heap.size (.slice a' n' c') (zs ++ [b]) ∧ Below W.heap.size W w1 ∧ Blk w1 w.heap.size 31 #[.slice a l c, .bool op, .int .i64 ls, .int .i64 wt] ∧ Blk w1 (w.heap.size + 1) 31 #[.slice none 0 0, .bool false, .int .i64 0, .int .i64 0]) := ⟨o1, b1, X1, R1⟩; clear X1 R1 o1 b1)
  obtain ⟨o1, b1, X1, R1⟩ := HJ.out
  have X2 := X1.set 0 (.slice a' n' c')
  have R2 : Blk (w1.setCell ⟨w.heap.size, 0, none⟩ (.slice a' n' c')) (w.heap.size + 1) 31 #[.slice none 0 0, .bool false, .int .i64 0, .int .i64 0] := R1.setNe (by omega)
  have o2 := own_set1 (j := 0) (v := .slice a' n' c') o1 ⟨_, X1⟩
  have hkb : ∀ g' t cs, Blk w g' t cs → t ≠ 5 → Blk (w1.setCell ⟨w.heap.size, 0, none⟩ (.slice a' n' c')) g' t cs := fun g' t cs h ht => (HKB.out g' t cs h ht).setNe (by have := h.lt; omega)
  have b2 := b1.setCell (p := ⟨w.heap.size, 0, none⟩) hsW (.slice a' n' c')
  have hlt := R2.lt
  obtain ⟨w2, hw2⟩ : ∃ w2, w2 = w1.setCell ⟨w.heap.size, 0, none⟩ (.slice a' n' c') := ⟨_, rfl⟩
  rw [← hw2] at X2 R2 o2 b2 hlt hkb
  have HKC : Hid (∀ g' t cs, Blk w g' t cs → t ≠ 5 → Blk w2 g' t cs) := hkb
  clear hkb
  try rw [← hw2]
  have HW2 : Hid (w2 = w1.setCell ⟨w.heap.size, 0, none⟩ (.slice a' n' c')) := hw2
  clear hw2 o1 b1 X1 R1 x0 x1 x2 x3 r0 r1 r2 r3 fx fr HJ
  refine (shut_any a' n' c' op ls wt 2 0 none 0 0 _).mono ?_
  rintro e w3 ⟨g, rfl, hg, G3, b3'⟩
  have b3 := bel_next b2 b3'
  have HB3 : Hid (Below w2.heap.size w2 w3) := b3'
  have R3 := R2.below b3'
  obtain ⟨r0, r1, r2, r3⟩ := R3.four
  have fr := R3.fro
  have HG : Hid (W.heap.size ≤ g ∧ g ≠ w.heap.size + 1) := by show _ ∧ _; have := b2.size; omega
  clear b3' R2 X2 o2 b2 hg
  go_wp2
  refine bodyPost_ret (v := .tuple #[sc none 0 0 false ls wt, .slice (some ⟨g, 0, none⟩) 1 1]) (by simp [results, Try.results66, go_sem, r0, r1, r2, r3]) rfl ?_
  exact ⟨g, none, 0, 0, rfl, HG.out.1, st4_blk G3 HG.out.2, rfl, ⟨rfl, .inl ⟨rfl, rfl⟩⟩, st4_bel b3 (by omega), fun g' t cs h ht => st4_blk ((HKC.out g' t cs h ht).below HB3.out) (by have := h.lt; omega)⟩

set_option maxRecDepth 20000 in
set_option maxHeartbeats 2000000 in
theorem within_end (W : World) (a : Option Addr) (l c : Nat) (op : Bool) (ls wt b : Int) (zs : List Int) (w : World) (hW : Below W.heap.size W w) (ho : Own w W.heap.size (.slice a l c) zs) (hl : l < 600) (h10 : b = 10) :
    Calls Try.prog 66 #[sc a l c op ls wt, .int .u8 b] w fun e w' => ∃ g pa pn pc, e = .returned (.tuple #[sc none 0 0 false ls wt, .slice (some ⟨g, 0, none⟩) 1 1]) ∧ W.heap.size ≤ g ∧ Blk w' g 39 (gcs (gaC (zs ++ [10])) (gaU (zs ++ [10])) pa pn pc []) ∧ pn = (gaP (zs ++ [10])).length ∧ Own w' W.heap.size (.slice pa pn pc) (gaP (zs ++ [10])) ∧ Below W.heap.size W w' ∧ (∀ g' t cs, Blk w g' t cs → t ≠ 5 → Blk w' g' t cs) := by
  have hln : l = zs.length := ho.sl.1
  subst h10
  generalize hU : gaU (zs ++ [10]) = U
  generalize hP : gaP (zs ++ [10]) = P
  generalize hC : gaC (zs ++ [10]) = C
  have HU : Hid (gaU (zs ++ [10]) = U ∧ gaP (zs ++ [10]) = P ∧ gaC (zs ++ [10]) = C) := ⟨hU, hP, hC⟩
  clear hU hP hC
  obtain ⟨W0, hW0'⟩ : ∃ W0, W0 = ((w.alloc (.cells #[.slice a l c, .bool op, .int .i64 ls, .int .i64 wt] 31)).alloc (.cells #[.slice none 0 0, .bool false, .int .i64 0, .int .i64 0] 31)).alloc (.cells #[.int .u8 10] 5) := ⟨_, rfl⟩
  have hW0 : Hid (W0 = _) := hW0'
  have hz : W0.heap.size = w.heap.size + 1 + 1 + 1 := by rw [hW0']; simp
  have B0 : Below w.heap.size w W0 := by rw [hW0']; exact bel_next (bel_next (bel_alloc w _) (bel_alloc _ _)) (bel_alloc _ _)
  have X0 : Blk W0 w.heap.size 31 #[.slice a l c, .bool op, .int .i64 ls, .int .i64 wt] := by rw [hW0']; exact ((Blk.new w _ _).below (bel_alloc _ _)).below (bel_alloc _ _)
  have R0 : Blk W0 (w.heap.size + 1) 31 #[.slice none 0 0, .bool false, .int .i64 0, .int .i64 0] := by rw [hW0']; have := (Blk.new (w.alloc (.cells #[.slice a l c, .bool op, .int .i64 ls, .int .i64 wt] 31)) #[.slice none 0 0, .bool false, .int .i64 0, .int .i64 0] 31).below (bel_alloc _ (.cells #[.int .u8 10] 5)); simpa using this
  have oL : Own W0 W.heap.size (.slice a l c) zs := ho.below B0
  have BW := bel_next hW B0
  have hsW : W.heap.size ≤ w.heap.size := hW.size
  have SB : Hid (Sl W0 (some ⟨w.heap.size + 1 + 1, 0, none⟩) [10]) := by rw [hW0']; exact sl_lit1 _ 10 (by simp)
  have HLn : Hid (zs.length + [10].length ≤ 4000000) := by show zs.length + [10].length ≤ 4000000; simp; omega
  have HNN : Hid (l = zs.length) := hln
  have BZ : Hid (W.heap.size ≤ W0.heap.size) := BW.size
  have HB0 : Hid (Below w.heap.size w W0) := B0
  have HL6 := hide hl
  clear hW0' hln ho hW B0 hl
  go_enter Try.func66, Try.ntmps66
  go_wp2_with (at_builtin; rw [← hW0.out]; refine wpList_app rfl (.tmp 30) (.tmp 32) rfl W.heap.size (.slice a l c) zs rfl oL ⟨w.heap.size + 1 + 1, 0, none⟩ 1 1 [10] rfl rfl SB.out HLn.out BZ.out ?_; intro v1 w1 o1 g1; have b1 : Below W.heap.size W w1 := bel_grown BW oL g1 (Nat.le_refl _) BZ.out; have HKB : Hid (∀ g' t cs, Blk w g' t cs → t ≠ 5 → Blk w1 g' t cs) := (fun g' t cs h ht => (h.below HB0.out).grown g1 (row_noBlk oL (h.below HB0.out) ht)); have X1 := X0.grown g1 (row_noBlk oL X0 (by decide)); have R1 := R0.grown g1 (row_noBlk oL R0 (by decide)); obtain ⟨a', c', n', rfl, hn'⟩ := own_shapeT o1; have HN' : Hid (n' = (zs ++ [10]).length) := hn'; have hn6 : ¬ ((600 : Int) < (n' : Int)) := (by have := HNN.out; have := HL6.out; simp at hn'; omega); clear hn' g1 oL X0 R0 BW SB; obtain ⟨x0, x1, x2, x3⟩ := X1.four; obtain ⟨r0, r1, r2, r3⟩ := R1.four; have fx := X1.fro; have fr := R1.fro; have HJ : Hid (Own w1 W.heap.size (.slice a' n' c') (zs ++ [10]) ∧ Below W.heap.size W w1 ∧ Blk w1 w.heap.size 31 #[.slice a l c, .bool op, .int .i64 ls, .int .i64 wt] ∧ Blk w1 (w.heap.size + 1) 31 #[.slice none 0 0, .bool false, .int .i64 0, .int .i64 0]) := ⟨o1, b1, X1, R1⟩; clear X1 R1 o1 b1)
  obtain ⟨o1, b1, X1, R1⟩ := HJ.out
  have X2 := X1.set 0 (.slice a' n' c')
  have R2 : Blk (w1.setCell ⟨w.heap.size, 0, none⟩ (.slice a' n' c')) (w.heap.size + 1) 31 #[.slice none 0 0, .bool false, .int .i64 0, .int .i64 0] := R1.setNe (by omega)
  have o2 := own_set1 (j := 0) (v := .slice a' n' c') o1 ⟨_, X1⟩
  have hkb : ∀ g' t cs, Blk w g' t cs → t ≠ 5 → Blk (w1.setCell ⟨w.heap.size, 0, none⟩ (.slice a' n' c')) g' t cs := fun g' t cs h ht => (HKB.out g' t cs h ht).setNe (by have := h.lt; omega)
  have b2 := b1.setCell (p := ⟨w.heap.size, 0, none⟩) hsW (.slice a' n' c')
  have hlt := R2.lt
  obtain ⟨w2, hw2⟩ : ∃ w2, w2 = w1.setCell ⟨w.heap.size, 0, none⟩ (.slice a' n' c') := ⟨_, rfl⟩
  rw [← hw2] at X2 R2 o2 b2 hlt hkb
  have HKC : Hid (∀ g' t cs, Blk w g' t cs → t ≠ 5 → Blk w2 g' t cs) := hkb
  clear hkb
  try rw [← hw2]
  have HW2 : Hid (w2 = w1.setCell ⟨w.heap.size, 0, none⟩ (.slice a' n' c')) := hw2
  clear hw2 o1 b1 X1 R1 x0 x1 x2 x3 r0 r1 r2 r3 fx fr HJ
  have HCP : Hid (n' ≤ c') := own_cap o2
  refine (implGetAscii_any a' n' c' (zs ++ [10]) _ HN'.out HCP.out o2.sl.2 (by have := HN'.out; omega)).mono ?_
  rintro e w3 h'
  rw [HU.out.1, HU.out.2.1, HU.out.2.2] at h'
  obtain ⟨pa, pc, pn, rfl, hpn, p3, b3'⟩ := h'
  have b3 := bel_next b2 b3'
  have HB3 : Hid (Below w2.heap.size w2 w3) := b3'
  have X3 := X2.below b3'
  have R3 := R2.below b3'
  have p4 := p3.monoT b2.size
  have HPN : Hid (pn = P.length) := hpn
  clear b3' p3 hpn X2 R2 o2 b2 HW2
  obtain ⟨x0, x1, x2, x3⟩ := X3.four
  go_wp2_with fail
  refine (shut_any a' n' c' op ls wt C U pa pn pc _).mono ?_
  rintro e w4 ⟨g, rfl, hg, G4, b4'⟩
  have b4 := bel_next b3 b4'
  have HB4 : Hid (Below w3.heap.size w3 w4) := b4'
  have R4 := R3.below b4'
  have p5 := p4.below b4'
  have hlt3 := R3.lt
  obtain ⟨r0, r1, r2, r3⟩ := R4.four
  have fr := R4.fro
  have HG : Hid (W.heap.size ≤ g ∧ g ≠ w.heap.size + 1) := by show _ ∧ _; have := b3.size; omega
  clear b4' R3 X3 b3 hg p4 x0 x1 x2 x3
  go_wp2
  refine bodyPost_ret (v := .tuple #[sc none 0 0 false ls wt, .slice (some ⟨g, 0, none⟩) 1 1]) (by simp [results, Try.results66, go_sem, r0, r1, r2, r3]) rfl ?_
  exact ⟨g, pa, pn, pc, rfl, HG.out.1, st4_blk G4 HG.out.2, HPN.out, st4_own p5 ⟨_, R4⟩, st4_bel b4 (by omega), fun g' t cs h ht => st4_blk (((HKC.out g' t cs h ht).below HB3.out).below HB4.out) (by have := h.lt; omega)⟩

end Go.Proofs.Ytmcednhinafpeaa
