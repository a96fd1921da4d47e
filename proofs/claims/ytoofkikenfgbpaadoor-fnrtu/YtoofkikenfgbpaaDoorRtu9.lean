/- RtuHear of the program. -/
import Derived.Test.YtoofkikenfgbpaaDoorRtu8
namespace Go.Proofs.YtoofkikenfgbpaaDoor
open Go.RowKit

set_option linter.unusedVariables false

set_option linter.unusedSimpArgs false

/-- What RtuWait leaves. -/
def wtZ (E : Bool) (zs : List Int) : List Int := bif E then [] else zs

def wtF (E bd : Bool) : Bool := bif E then false else bd

def wtO (E bd : Bool) (zs : List Int) : Option (Int × Int × List Int) := bif E then some (gotOf bd zs) else none

/-- What RtuHear leaves of a listener that may hear. -/
def hrZ (by' : Int) (Z : List Int) : List Int := if Z.length ≤ 256 then Z ++ [by'] else Z

theorem implRtuWait_s (a : Option Addr) (l c : Nat) (ls : Int) (bd : Bool) (hf wh tk : Int) (zs : List Int) (w : World) (hn : l = zs.length) (hlc : l ≤ c) (hs : Sl w a zs) (hr : ∀ z ∈ zs, 0 ≤ z ∧ z ≤ 255) (hl : zs.length ≤ 2000000) (hT : Tab w) (Z : List Int) (D : Bool) (G : Option (Int × Int × List Int)) (hZ : Z = wtZ (wtE l ls bd hf wh tk) zs) (hD : D = wtF (wtE l ls bd hf wh tk) bd) (hG : G = wtO (wtE l ls bd hf wh tk) bd zs) :
    Calls Tryd.prog 15 #[rt a l c ls bd hf wh, .int .i64 tk] w fun e w' => WS w w' e Z ls D hf wh G := by
  subst hZ hD hG
  cases hE : wtE l ls bd hf wh tk
  · exact implRtuWait_no a l c ls bd hf wh tk zs w hn hs hl hE
  · exact implRtuWait_yes a l c ls bd hf wh tk zs w hn hs hl hlc hr hT hE

theorem GotW.setR {w : World} {B bb g j : Nat} {y : Value} {ga : Option Addr} {gn : Nat} {gs : Option (Int × Int × List Int)} (h : GotW w B bb ga gn gs) (hb : ExB w g 33) : GotW (w.setCell ⟨g, j, none⟩ y) B bb ga gn gs := by
  rcases h with h | ⟨k, u, ps, g', pa, pn, pc, h1, h2, h3, h4, h5, h6, h7, h8, h9⟩
  · exact .inl h
  · have hne : g' ≠ g := by
      intro e
      subst e
      obtain ⟨cs, hb⟩ := hb
      unfold Blk at hb h5
      rw [h5] at hb
      simp at hb
    exact .inr ⟨k, u, ps, g', pa, pn, pc, h1, h2, h3, h4, h5.setNe hne, h6, row_setE h7 hb (by decide), h8, h9⟩

theorem GotW.keptRow {w w' : World} {B bb : Nat} {v : Value} {zs : List Int} {ga : Option Addr} {gn : Nat} {gs : Option (Int × Int × List Int)} (h : GotW w B bb ga gn gs) (ho : Own w bb v zs) (hg : w.grownBy w' v.ownBlock) : GotW w' B bb ga gn gs := by
  rcases h with h | ⟨k, u, ps, g', pa, pn, pc, h1, h2, h3, h4, h5, h6, h7, h8, h9⟩
  · exact .inl h
  · refine .inr ⟨k, u, ps, g', pa, pn, pc, h1, h2, h3, h4, h5.grown hg (row_noBlk ho h5 (by decide)), h6, h7.kept hg ?_, h8, h9⟩
    cases e : (Value.slice pa pn pc).ownBlock with
    | none => exact .inl rfl
    | some j => exact .inr (fun e2 => by have := h8 j e; have := (World.ownsRow.lt ho j e2.symm).1; omega)

theorem wtZ_len (E : Bool) (zs : List Int) : (wtZ E zs).length ≤ zs.length := by cases E <;> simp [wtZ]

set_option maxRecDepth 20000 in
set_option maxHeartbeats 4000000 in
theorem implRtuHear_no (a : Option Addr) (l c : Nat) (ls : Int) (bd : Bool) (hf wh tk by' : Int) (zs : List Int) (w : World) (hn : l = zs.length) (hs : Sl w a zs) (hl : zs.length ≤ 2000000) (hh : (okT l ls bd hf wh && tkB tk) = false) :
    Calls Tryd.prog 12 #[rt a l c ls bd hf wh, .int .u8 by', .int .i64 tk] w fun e w' => WS w w' e zs ls bd hf wh none := by
  have HN : Hid (l = zs.length ∧ l ≤ 2000000 ∧ zs.length ≤ 2000000) := by show _ ∧ _; omega
  obtain ⟨W0, hW0'⟩ : ∃ W0, W0 = (w.alloc (.cells #[.slice a l c, .int .i64 ls, .bool bd, .int .i64 hf, .int .i64 wh] 33)).alloc (.cells #[.slice none 0 0, .int .i64 0, .bool false, .int .i64 0, .int .i64 0] 33) := ⟨_, rfl⟩
  have hW0 : Hid (W0 = _) := hW0'
  have hz : W0.heap.size = w.heap.size + 1 + 1 := by rw [hW0']; simp
  have B0 : Below w.heap.size w W0 := by rw [hW0']; exact bel_next (bel_alloc w _) (bel_alloc _ _)
  have X0 : Blk W0 w.heap.size 33 #[.slice a l c, .int .i64 ls, .bool bd, .int .i64 hf, .int .i64 wh] := by rw [hW0']; exact ((Blk.new w _ _).below (bel_alloc _ _))
  have R0 : Blk W0 (w.heap.size + 1) 33 #[.slice none 0 0, .int .i64 0, .bool false, .int .i64 0, .int .i64 0] := by rw [hW0']; have := (Blk.new (w.alloc (.cells #[.slice a l c, .int .i64 ls, .bool bd, .int .i64 hf, .int .i64 wh] 33)) #[.slice none 0 0, .int .i64 0, .bool false, .int .i64 0, .int .i64 0] 33); simpa using this
  have S1 : Hid (Sl W0 a zs) := hs.below B0
  clear hn hs hW0' hl
  go_enter Tryd.func12, Tryd.ntmps12
  go_wp2_with fail
  rw [← hW0.out]
  refine (canHear_any a l c ls bd hf wh tk _ HN.out.2.1 _ hh).mono ?_
  rintro e w1 ⟨rfl, b'⟩
  have BB1 : Hid (Below W0.heap.size W0 w1) := b'
  have b1 := bel_next B0 b'
  have X1 := X0.below b'
  have R1 := R0.below b'
  have S2 : Hid (Sl w1 a zs) := S1.out.below b'
  clear b' B0 X0 R0 S1
  obtain ⟨x0, x1, x2, x3, x4⟩ := X1.five
  clear hh
  go_wp2_with fail
  refine (copyRtu_any a l c ls bd hf wh zs _ HN.out.1 S2.out HN.out.2.2).mono ?_
  rintro e w9 ⟨a', c', n', rfl, hn', o9, b'⟩
  have b9 := bel_next b1 b'
  have R9 := R1.below b'
  have HN' : Hid (n' = zs.length) := hn'
  have hzz : w.heap.size ≤ w1.heap.size := b1.size
  have HJ : Hid (Own w9 w1.heap.size (.slice a' n' c') zs ∧ Below w.heap.size w w9 ∧ ExB w9 (w.heap.size + 1) 33) := ⟨o9, b9, ⟨_, R9⟩⟩
  obtain ⟨r0, r1, r2, r3, r4⟩ := R9.five
  have fr := R9.fro
  clear b' hn' o9 b9 R9 R1 X1 b1
  go_wp2
  refine bodyPost_ret (v := .tuple #[rt a' n' c' ls bd hf wh, .slice none 0 0]) (by simp [results, Tryd.results12, go_sem, r0, r1, r2, r3, r4]) rfl ?_
  obtain ⟨j3, b3, eR⟩ := HJ.out
  refine ⟨a', n', c', none, 0, 0, w.heap.size, rfl, HN'.out, Own.monoT (show Own _ _ _ _ from (row_setE (row_setE (row_setE (row_setE (row_setE j3 eR (by decide)) (ExB.set eR) (by decide)) (ExB.set (ExB.set eR)) (by decide)) (ExB.set (ExB.set (ExB.set eR))) (by decide)) (ExB.set (ExB.set (ExB.set (ExB.set eR)))) (by decide))) hzz, Nat.le_refl _, ?_, .inl ⟨rfl, rfl⟩, ?_⟩
  · exact Below.size (((((b3.setCell (p := ⟨w.heap.size + 1, 0, none⟩) (by show w.heap.size ≤ w.heap.size + 1; omega) _).setCell (p := ⟨w.heap.size + 1, 1, none⟩) (by show w.heap.size ≤ w.heap.size + 1; omega) _).setCell (p := ⟨w.heap.size + 1, 2, none⟩) (by show w.heap.size ≤ w.heap.size + 1; omega) _).setCell (p := ⟨w.heap.size + 1, 3, none⟩) (by show w.heap.size ≤ w.heap.size + 1; omega) _).setCell (p := ⟨w.heap.size + 1, 4, none⟩) (by show w.heap.size ≤ w.heap.size + 1; omega) _)
  · exact (((((b3.setCell (p := ⟨w.heap.size + 1, 0, none⟩) (by show w.heap.size ≤ w.heap.size + 1; omega) _).setCell (p := ⟨w.heap.size + 1, 1, none⟩) (by show w.heap.size ≤ w.heap.size + 1; omega) _).setCell (p := ⟨w.heap.size + 1, 2, none⟩) (by show w.heap.size ≤ w.heap.size + 1; omega) _).setCell (p := ⟨w.heap.size + 1, 3, none⟩) (by show w.heap.size ≤ w.heap.size + 1; omega) _).setCell (p := ⟨w.heap.size + 1, 4, none⟩) (by show w.heap.size ≤ w.heap.size + 1; omega) _)

set_option maxRecDepth 20000 in
set_option maxHeartbeats 4000000 in
theorem implRtuHear_yes (a : Option Addr) (l c : Nat) (ls : Int) (bd : Bool) (hf wh tk by' : Int) (zs : List Int) (w : World) (hn : l = zs.length) (hs : Sl w a zs) (hl : zs.length ≤ 2000000) (hlc : l ≤ c) (hr : ∀ z ∈ zs, 0 ≤ z ∧ z ≤ 255) (hT : Tab w) (hh : (okT l ls bd hf wh && tkB tk) = true) (Z : List Int) (D : Bool) (G : Option (Int × Int × List Int)) (hZ : Z = wtZ (wtE l ls bd hf wh tk) zs) (hD : D = wtF (wtE l ls bd hf wh tk) bd) (hG : G = wtO (wtE l ls bd hf wh tk) bd zs) (sb : Bool) (hsb : (decide (0 < Z.length) && decide (hf ≤ gap ls tk)) = sb) :
    Calls Tryd.prog 12 #[rt a l c ls bd hf wh, .int .u8 by', .int .i64 tk] w fun e w' => WS w w' e (hrZ by' Z) tk (D || sb) hf wh G := by
  have HN : Hid (l = zs.length ∧ l ≤ 2000000 ∧ zs.length ≤ 2000000) := by show _ ∧ _; omega
  obtain ⟨W0, hW0'⟩ : ∃ W0, W0 = (w.alloc (.cells #[.slice a l c, .int .i64 ls, .bool bd, .int .i64 hf, .int .i64 wh] 33)).alloc (.cells #[.slice none 0 0, .int .i64 0, .bool false, .int .i64 0, .int .i64 0] 33) := ⟨_, rfl⟩
  have hW0 : Hid (W0 = _) := hW0'
  have hz : W0.heap.size = w.heap.size + 1 + 1 := by rw [hW0']; simp
  have B0 : Below w.heap.size w W0 := by rw [hW0']; exact bel_next (bel_alloc w _) (bel_alloc _ _)
  have X0 : Blk W0 w.heap.size 33 #[.slice a l c, .int .i64 ls, .bool bd, .int .i64 hf, .int .i64 wh] := by rw [hW0']; exact ((Blk.new w _ _).below (bel_alloc _ _))
  have R0 : Blk W0 (w.heap.size + 1) 33 #[.slice none 0 0, .int .i64 0, .bool false, .int .i64 0, .int .i64 0] := by rw [hW0']; have := (Blk.new (w.alloc (.cells #[.slice a l c, .int .i64 ls, .bool bd, .int .i64 hf, .int .i64 wh] 33)) #[.slice none 0 0, .int .i64 0, .bool false, .int .i64 0, .int .i64 0] 33); simpa using this
  have S1 : Hid (Sl W0 a zs) := hs.below B0
  clear hn hs hW0' hl
  have hw0 : 0 < w.heap.size := World.block_lt_of_cell? _ _ (hT 0 (by decide))
  have HT : Hid (Tab W0) := hT.below B0 hw0
  have HR : Hid (∀ z ∈ zs, 0 ≤ z ∧ z ≤ 255) := hr
  have HLC : Hid (l ≤ c) := hlc
  have HF : Hid (Z = wtZ (wtE l ls bd hf wh tk) zs ∧ D = wtF (wtE l ls bd hf wh tk) bd ∧ G = wtO (wtE l ls bd hf wh tk) bd zs) := ⟨hZ, hD, hG⟩
  have HZl : Hid (Z.length ≤ 2000000) := by show Z.length ≤ 2000000; rw [hZ]; have := wtZ_len (wtE l ls bd hf wh tk) zs; have := HN.out; omega
  have hP : 0 ≤ ls ∧ ls ≤ 4294967295 ∧ 0 ≤ tk ∧ tk ≤ 4294967295 := by
    have h1 : okT l ls bd hf wh = true := by simp only [Bool.and_eq_true] at hh; exact hh.1
    have h2 : tkB tk = true := by simp only [Bool.and_eq_true] at hh; exact hh.2
    have q1 := (okT_parts h1).1
    have q2 := tkB_parts h2
    omega
  have HP : Hid (0 ≤ ls ∧ ls ≤ 4294967295 ∧ 0 ≤ tk ∧ tk ≤ 4294967295) := hP
  have HSB : Hid ((decide (0 < Z.length) && decide (hf ≤ gap ls tk)) = sb) := hsb
  clear hP hr hT hlc hZ hD hG hsb
  go_enter Tryd.func12, Tryd.ntmps12
  go_wp2_with fail
  rw [← hW0.out]
  refine (canHear_any a l c ls bd hf wh tk _ HN.out.2.1 _ hh).mono ?_
  rintro e w1 ⟨rfl, b'⟩
  have BB1 : Hid (Below W0.heap.size W0 w1) := b'
  have b1 := bel_next B0 b'
  have X1 := X0.below b'
  have R1 := R0.below b'
  have S2 : Hid (Sl w1 a zs) := S1.out.below b'
  clear b' B0 X0 R0 S1
  obtain ⟨x0, x1, x2, x3, x4⟩ := X1.five
  have T2 : Hid (Tab w1) := HT.out.below (B := W0.heap.size) BB1.out (by omega)
  clear hh HT
  go_wp2_with fail
  refine (implRtuWait_s a l c ls bd hf wh tk zs _ HN.out.1 HLC.out S2.out HR.out HN.out.2.2 T2.out Z D G HF.out.1 HF.out.2.1 HF.out.2.2).mono ?_
  rintro e w2 ⟨aN, nN, cN, aW, nW, cW, bb, rfl, hnN, o2, hbb, hbb2, U2, b'⟩
  have HNN : Hid (nN = Z.length) := hnN
  have b2 := bel_next b1 b'
  have R2 := R1.below b'
  have hz1 : w.heap.size ≤ w1.heap.size := b1.size
  have HBB : Hid (w.heap.size ≤ bb) := by show _ ≤ _; omega
  have q := bel_alloc w2 (.cells #[.slice aN nN cN, .int .i64 ls, .bool D, .int .i64 hf, .int .i64 wh] 33)
  have N3 := Blk.new w2 #[.slice aN nN cN, .int .i64 ls, .bool D, .int .i64 hf, .int .i64 wh] 33
  obtain ⟨n0, n1, n2, n3, n4⟩ := N3.five
  obtain ⟨w3, hw3⟩ : ∃ x, x = w2.alloc (.cells #[.slice aN nN cN, .int .i64 ls, .bool D, .int .i64 hf, .int .i64 wh] 33) := ⟨_, rfl⟩
  obtain ⟨gN, hgN⟩ : ∃ x, x = w2.heap.size := ⟨_, rfl⟩
  have HW3 : Hid (w3 = _) := hw3
  have HGN : Hid (gN = w2.heap.size) := hgN
  rw [← hw3] at q N3
  rw [← hgN] at N3
  have hRN : w.heap.size + 1 < gN := by have := R2.lt; omega
  have b3 := bel_next b2 q
  have R3 := R2.below q
  have o3 := o2.below q
  have U3 := (U2.mono hz1).below q
  have hbb3 : Hid (bb ≤ w3.heap.size) := by show _ ≤ _; have := q.size; omega
  clear hw3 hgN q b2 R2 o2 U2 b' hnN b1 R1 X1 S2 T2 x0 x1 x2 x3 x4 hbb hbb2
  go_wp2_with fail
  rw [← HW3.out]
  simp only [← HGN.out]
  refine (isSilent_any aN nN cN ls D hf wh tk hf _ HP.out.1 HP.out.2.1 HP.out.2.2.1 HP.out.2.2.2 sb (by rw [HNN.out]; exact HSB.out)).mono ?_
  rintro e w4 ⟨rfl, b'⟩
  have b4 := bel_next b3 b'
  have R4 := R3.below b'
  have N4 := N3.below b'
  have o4 := o3.below b'
  have U4 := U3.below b'
  have hbb4 : Hid (bb ≤ w4.heap.size) := by show _ ≤ _; have := b'.size; have := hbb3.out; omega
  clear b' b3 R3 N3 o3 U3 n0 n1 n2 n3 n4 hbb3
  obtain ⟨n0, n1, n2, n3, n4⟩ := N4.five
  obtain ⟨r0, r1, r2, r3, r4⟩ := R4.five
  have fn := N4.fro
  have fr := R4.fro
  have d1 : ¬ gN = w.heap.size + 1 := by omega
  have d2 : ¬ w.heap.size + 1 = gN := by omega
  have hN4 := N4.lt

  by_cases hlen : (nN : Int) ≤ 256
  · cases sb
    · have HZa : Hid (hrZ by' Z = Z ++ [by']) := by show _ = _; unfold hrZ; rw [if_pos (by have := HNN.out; omega)]
      have N5 := N4
      have R5 := R4
      have o5 := o4
      have U5 := U4
      have b5 := b4
      have qa := bel_alloc w4 (.cells #[.int .u8 by'] 5)
      have o6 := o5.below qa
      have N6 := N5.below qa
      have R6 := R5.below qa
      have U6 := U5.below qa
      have b6 := bel_next b5 qa
      have hV : w4.heap.size = w4.heap.size := rfl
      have hl1 : Sl (w4.alloc (.cells #[.int .u8 by'] 5)) (some ⟨w4.heap.size, 0, none⟩) [by'] := sl_lit1 _ _ hV.symm
      have hsz6 : Hid (bb ≤ (w4.alloc (.cells #[.int .u8 by'] 5)).heap.size) := by show _ ≤ _; have := hbb4.out; have := qa.size; omega
      have hL6 : Hid (Z.length + [by'].length ≤ 4000000) := by show _ ≤ _; have := HZl.out; simp; omega
      clear hV qa o5 N5 R5 U5 b5 o4 N4 R4 U4 b4
      go_wp2_with (at_builtin; refine wpList_app rfl (.tmp 33) (.tmp 35) rfl bb (.slice aN nN cN) Z rfl o6 ⟨w4.heap.size, 0, none⟩ 1 1 [by'] rfl rfl hl1 hL6.out hsz6.out ?_; intro v' w7 oo g7; have uu := U6.keptRow o6 g7; have N7 := N6.grown g7 (row_noBlk o6 N6 (by decide)); have R7 := R6.grown g7 (row_noBlk o6 R6 (by decide)); have bq : Below w.heap.size w w7 := b6.grown g7 b6.size (fun k hk => by have := (World.ownsRow.lt o6 k hk).1; have := HBB.out; omega); have hb9 : Hid (bb ≤ w7.heap.size) := Nat.le_trans hsz6.out g7.size; clear r0 r1 r2 r3 r4 n0 n1 n2 n3 n4 fn fr hl1; obtain ⟨n0, n1, n2, n3, n4⟩ := N7.five; obtain ⟨r0, r1, r2, r3, r4⟩ := R7.five; have fn := N7.fro; have fr := R7.fro; have eN : ExB w7 gN 33 := ⟨_, N7⟩; have eR : ExB w7 (w.heap.size + 1) 33 := ⟨_, R7⟩; obtain ⟨a', c', n', rfl, hn'⟩ := own_shapeT oo; have HNa : Hid (n' = (Z ++ [by']).length) := hn'; rw [← HZa.out] at oo; clear g7 o6 N6 R6 U6 b6 N7 R7 hn')
      refine bodyPost_ret (v := .tuple #[rt a' n' c' tk D hf wh, .slice aW nW cW]) (by simp [results, Tryd.results12, go_sem, r0, r1, r2, r3, r4]) rfl ?_
      refine ⟨a', n', c', aW, nW, cW, bb, by simp only [Bool.or_false, Bool.or_true], (by rw [HZa.out]; exact HNa.out), (show Own _ _ _ _ from (row_setE (row_setE (row_setE (row_setE (row_setE (row_setE (row_setE oo eN (by decide)) (ExB.set eN) (by decide)) (ExB.set (ExB.set eR)) (by decide)) (ExB.set (ExB.set (ExB.set eR))) (by decide)) (ExB.set (ExB.set (ExB.set (ExB.set eR)))) (by decide)) (ExB.set (ExB.set (ExB.set (ExB.set (ExB.set eR))))) (by decide)) (ExB.set (ExB.set (ExB.set (ExB.set (ExB.set (ExB.set eR)))))) (by decide))), HBB.out, ?_, (GotW.setR (GotW.setR (GotW.setR (GotW.setR (GotW.setR (GotW.setR (GotW.setR uu eN) (ExB.set eN)) (ExB.set (ExB.set eR))) (ExB.set (ExB.set (ExB.set eR)))) (ExB.set (ExB.set (ExB.set (ExB.set eR))))) (ExB.set (ExB.set (ExB.set (ExB.set (ExB.set eR)))))) (ExB.set (ExB.set (ExB.set (ExB.set (ExB.set (ExB.set eR))))))), (((((((bq.setCell (p := ⟨gN, 0, none⟩) (by show w.heap.size ≤ gN; omega) _).setCell (p := ⟨gN, 1, none⟩) (by show w.heap.size ≤ gN; omega) _).setCell (p := ⟨w.heap.size + 1, 0, none⟩) (by show w.heap.size ≤ w.heap.size + 1; omega) _).setCell (p := ⟨w.heap.size + 1, 1, none⟩) (by show w.heap.size ≤ w.heap.size + 1; omega) _).setCell (p := ⟨w.heap.size + 1, 2, none⟩) (by show w.heap.size ≤ w.heap.size + 1; omega) _).setCell (p := ⟨w.heap.size + 1, 3, none⟩) (by show w.heap.size ≤ w.heap.size + 1; omega) _).setCell (p := ⟨w.heap.size + 1, 4, none⟩) (by show w.heap.size ≤ w.heap.size + 1; omega) _)⟩
      have h9 : bb ≤ w7.heap.size := hb9.out
      simpa [World.setCell] using h9
    · have HZa : Hid (hrZ by' Z = Z ++ [by']) := by show _ = _; unfold hrZ; rw [if_pos (by have := HNN.out; omega)]
      have N5 : Blk (w4.setCell ⟨gN, 2, none⟩ (.bool true)) gN 33 #[.slice aN nN cN, .int .i64 ls, .bool true, .int .i64 hf, .int .i64 wh] := by have := N4.set 2 (.bool true); simpa using this
      have R5 : Blk (w4.setCell ⟨gN, 2, none⟩ (.bool true)) (w.heap.size + 1) 33 #[.slice none 0 0, .int .i64 0, .bool false, .int .i64 0, .int .i64 0] := R4.setNe (by omega)
      have o5 : Own (w4.setCell ⟨gN, 2, none⟩ (.bool true)) bb (.slice aN nN cN) Z := row_setE o4 ⟨_, N4⟩ (by decide)
      have U5 : GotW (w4.setCell ⟨gN, 2, none⟩ (.bool true)) w.heap.size bb aW nW G := U4.setR ⟨_, N4⟩
      have b5 : Below w.heap.size w (w4.setCell ⟨gN, 2, none⟩ (.bool true)) := b4.setCell (p := ⟨gN, 2, none⟩) (by show w.heap.size ≤ gN; omega) _
      have qa := bel_alloc (w4.setCell ⟨gN, 2, none⟩ (.bool true)) (.cells #[.int .u8 by'] 5)
      have o6 := o5.below qa
      have N6 := N5.below qa
      have R6 := R5.below qa
      have U6 := U5.below qa
      have b6 := bel_next b5 qa
      have hV : (w4.setCell ⟨gN, 2, none⟩ (.bool true)).heap.size = w4.heap.size := by simp [World.setCell]
      have hl1 : Sl ((w4.setCell ⟨gN, 2, none⟩ (.bool true)).alloc (.cells #[.int .u8 by'] 5)) (some ⟨w4.heap.size, 0, none⟩) [by'] := sl_lit1 _ _ hV.symm
      have hsz6 : Hid (bb ≤ ((w4.setCell ⟨gN, 2, none⟩ (.bool true)).alloc (.cells #[.int .u8 by'] 5)).heap.size) := by show _ ≤ _; have := hbb4.out; have := qa.size; omega
      have hL6 : Hid (Z.length + [by'].length ≤ 4000000) := by show _ ≤ _; have := HZl.out; simp; omega
      clear hV qa o5 N5 R5 U5 b5 o4 N4 R4 U4 b4
      go_wp2_with (at_builtin; refine wpList_app rfl (.tmp 33) (.tmp 35) rfl bb (.slice aN nN cN) Z rfl o6 ⟨w4.heap.size, 0, none⟩ 1 1 [by'] rfl rfl hl1 hL6.out hsz6.out ?_; intro v' w7 oo g7; have uu := U6.keptRow o6 g7; have N7 := N6.grown g7 (row_noBlk o6 N6 (by decide)); have R7 := R6.grown g7 (row_noBlk o6 R6 (by decide)); have bq : Below w.heap.size w w7 := b6.grown g7 b6.size (fun k hk => by have := (World.ownsRow.lt o6 k hk).1; have := HBB.out; omega); have hb9 : Hid (bb ≤ w7.heap.size) := Nat.le_trans hsz6.out g7.size; clear r0 r1 r2 r3 r4 n0 n1 n2 n3 n4 fn fr hl1; obtain ⟨n0, n1, n2, n3, n4⟩ := N7.five; obtain ⟨r0, r1, r2, r3, r4⟩ := R7.five; have fn := N7.fro; have fr := R7.fro; have eN : ExB w7 gN 33 := ⟨_, N7⟩; have eR : ExB w7 (w.heap.size + 1) 33 := ⟨_, R7⟩; obtain ⟨a', c', n', rfl, hn'⟩ := own_shapeT oo; have HNa : Hid (n' = (Z ++ [by']).length) := hn'; rw [← HZa.out] at oo; clear g7 o6 N6 R6 U6 b6 N7 R7 hn')
      refine bodyPost_ret (v := .tuple #[rt a' n' c' tk true hf wh, .slice aW nW cW]) (by simp [results, Tryd.results12, go_sem, r0, r1, r2, r3, r4]) rfl ?_
      refine ⟨a', n', c', aW, nW, cW, bb, by simp only [Bool.or_false, Bool.or_true], (by rw [HZa.out]; exact HNa.out), (show Own _ _ _ _ from (row_setE (row_setE (row_setE (row_setE (row_setE (row_setE (row_setE oo eN (by decide)) (ExB.set eN) (by decide)) (ExB.set (ExB.set eR)) (by decide)) (ExB.set (ExB.set (ExB.set eR))) (by decide)) (ExB.set (ExB.set (ExB.set (ExB.set eR)))) (by decide)) (ExB.set (ExB.set (ExB.set (ExB.set (ExB.set eR))))) (by decide)) (ExB.set (ExB.set (ExB.set (ExB.set (ExB.set (ExB.set eR)))))) (by decide))), HBB.out, ?_, (GotW.setR (GotW.setR (GotW.setR (GotW.setR (GotW.setR (GotW.setR (GotW.setR uu eN) (ExB.set eN)) (ExB.set (ExB.set eR))) (ExB.set (ExB.set (ExB.set eR)))) (ExB.set (ExB.set (ExB.set (ExB.set eR))))) (ExB.set (ExB.set (ExB.set (ExB.set (ExB.set eR)))))) (ExB.set (ExB.set (ExB.set (ExB.set (ExB.set (ExB.set eR))))))), (((((((bq.setCell (p := ⟨gN, 0, none⟩) (by show w.heap.size ≤ gN; omega) _).setCell (p := ⟨gN, 1, none⟩) (by show w.heap.size ≤ gN; omega) _).setCell (p := ⟨w.heap.size + 1, 0, none⟩) (by show w.heap.size ≤ w.heap.size + 1; omega) _).setCell (p := ⟨w.heap.size + 1, 1, none⟩) (by show w.heap.size ≤ w.heap.size + 1; omega) _).setCell (p := ⟨w.heap.size + 1, 2, none⟩) (by show w.heap.size ≤ w.heap.size + 1; omega) _).setCell (p := ⟨w.heap.size + 1, 3, none⟩) (by show w.heap.size ≤ w.heap.size + 1; omega) _).setCell (p := ⟨w.heap.size + 1, 4, none⟩) (by show w.heap.size ≤ w.heap.size + 1; omega) _)⟩
      have h9 : bb ≤ w7.heap.size := hb9.out
      simpa [World.setCell] using h9
  · cases sb
    · have HZa : Hid (hrZ by' Z = Z) := by show _ = _; unfold hrZ; rw [if_neg (by have := HNN.out; omega)]
      have eN : ExB w4 gN 33 := ⟨_, N4⟩
      have eR : ExB w4 (w.heap.size + 1) 33 := ⟨_, R4⟩
      have oo := o4
      have uu := U4
      have bq := b4
      have hb9 := hbb4
      rw [← HZa.out] at oo
      clear o4 U4 b4 N4 R4
      go_wp2
      refine bodyPost_ret (v := .tuple #[rt aN nN cN tk D hf wh, .slice aW nW cW]) (by simp [results, Tryd.results12, go_sem, r0, r1, r2, r3, r4]) rfl ?_
      refine ⟨aN, nN, cN, aW, nW, cW, bb, by simp only [Bool.or_false, Bool.or_true], (by rw [HZa.out]; exact HNN.out), (show Own _ _ _ _ from (row_setE (row_setE (row_setE (row_setE (row_setE (row_setE oo eN (by decide)) (ExB.set eR) (by decide)) (ExB.set (ExB.set eR)) (by decide)) (ExB.set (ExB.set (ExB.set eR))) (by decide)) (ExB.set (ExB.set (ExB.set (ExB.set eR)))) (by decide)) (ExB.set (ExB.set (ExB.set (ExB.set (ExB.set eR))))) (by decide))), HBB.out, ?_, (GotW.setR (GotW.setR (GotW.setR (GotW.setR (GotW.setR (GotW.setR uu eN) (ExB.set eR)) (ExB.set (ExB.set eR))) (ExB.set (ExB.set (ExB.set eR)))) (ExB.set (ExB.set (ExB.set (ExB.set eR))))) (ExB.set (ExB.set (ExB.set (ExB.set (ExB.set eR)))))), ((((((bq.setCell (p := ⟨gN, 1, none⟩) (by show w.heap.size ≤ gN; omega) _).setCell (p := ⟨w.heap.size + 1, 0, none⟩) (by show w.heap.size ≤ w.heap.size + 1; omega) _).setCell (p := ⟨w.heap.size + 1, 1, none⟩) (by show w.heap.size ≤ w.heap.size + 1; omega) _).setCell (p := ⟨w.heap.size + 1, 2, none⟩) (by show w.heap.size ≤ w.heap.size + 1; omega) _).setCell (p := ⟨w.heap.size + 1, 3, none⟩) (by show w.heap.size ≤ w.heap.size + 1; omega) _).setCell (p := ⟨w.heap.size + 1, 4, none⟩) (by show w.heap.size ≤ w.heap.size + 1; omega) _)⟩
      have h9 : bb ≤ w4.heap.size := hb9.out
      simpa [World.setCell] using h9
    · have HZa : Hid (hrZ by' Z = Z) := by show _ = _; unfold hrZ; rw [if_neg (by have := HNN.out; omega)]
      have eN : ExB w4 gN 33 := ⟨_, N4⟩
      have eR : ExB w4 (w.heap.size + 1) 33 := ⟨_, R4⟩
      have oo := o4
      have uu := U4
      have bq := b4
      have hb9 := hbb4
      rw [← HZa.out] at oo
      clear o4 U4 b4 N4 R4
      go_wp2
      refine bodyPost_ret (v := .tuple #[rt aN nN cN tk true hf wh, .slice aW nW cW]) (by simp [results, Tryd.results12, go_sem, r0, r1, r2, r3, r4]) rfl ?_
      refine ⟨aN, nN, cN, aW, nW, cW, bb, by simp only [Bool.or_false, Bool.or_true], (by rw [HZa.out]; exact HNN.out), (show Own _ _ _ _ from (row_setE (row_setE (row_setE (row_setE (row_setE (row_setE (row_setE oo eN (by decide)) (ExB.set eN) (by decide)) (ExB.set (ExB.set eR)) (by decide)) (ExB.set (ExB.set (ExB.set eR))) (by decide)) (ExB.set (ExB.set (ExB.set (ExB.set eR)))) (by decide)) (ExB.set (ExB.set (ExB.set (ExB.set (ExB.set eR))))) (by decide)) (ExB.set (ExB.set (ExB.set (ExB.set (ExB.set (ExB.set eR)))))) (by decide))), HBB.out, ?_, (GotW.setR (GotW.setR (GotW.setR (GotW.setR (GotW.setR (GotW.setR (GotW.setR uu eN) (ExB.set eN)) (ExB.set (ExB.set eR))) (ExB.set (ExB.set (ExB.set eR)))) (ExB.set (ExB.set (ExB.set (ExB.set eR))))) (ExB.set (ExB.set (ExB.set (ExB.set (ExB.set eR)))))) (ExB.set (ExB.set (ExB.set (ExB.set (ExB.set (ExB.set eR))))))), (((((((bq.setCell (p := ⟨gN, 2, none⟩) (by show w.heap.size ≤ gN; omega) _).setCell (p := ⟨gN, 1, none⟩) (by show w.heap.size ≤ gN; omega) _).setCell (p := ⟨w.heap.size + 1, 0, none⟩) (by show w.heap.size ≤ w.heap.size + 1; omega) _).setCell (p := ⟨w.heap.size + 1, 1, none⟩) (by show w.heap.size ≤ w.heap.size + 1; omega) _).setCell (p := ⟨w.heap.size + 1, 2, none⟩) (by show w.heap.size ≤ w.heap.size + 1; omega) _).setCell (p := ⟨w.heap.size + 1, 3, none⟩) (by show w.heap.size ≤ w.heap.size + 1; omega) _).setCell (p := ⟨w.heap.size + 1, 4, none⟩) (by show w.heap.size ≤ w.heap.size + 1; omega) _)⟩
      have h9 : bb ≤ w4.heap.size := hb9.out
      simpa [World.setCell] using h9

end Go.Proofs.YtoofkikenfgbpaaDoor
