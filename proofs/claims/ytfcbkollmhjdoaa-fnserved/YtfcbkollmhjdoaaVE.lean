/- Texts that the proof needs, joined. -/
import Derived.Test.YtfcbkollmhjdoaaAskB
import Derived.Deep.Upon
import Derived.Lib.AppendZeros
import Derived.Test.YtfcbkollmhjdoaaDev3
import Derived.WideMake
import Derived.Deep.RegionHeld3
import Derived.Deep.Cut
namespace Go.Proofs.Ytfcbkollmhjdoaa
open Go.RowKit

set_option linter.unusedVariables false

set_option linter.unusedSimpArgs false

theorem grown_setHi {w u : World} {g G j : Nat} {y : Value} (h : w.grownBy u (some g)) (hG : w.heap.size ≤ G) : w.grownBy (u.setCell ⟨G, j, none⟩ y) (some g) :=
  ⟨h.os, h.tape, h.output, by simpa [World.setCell] using h.size, fun k hk hne => (Below.heap_setCell _ _ _ _ (by show k ≠ G; omega)).trans (h.block k hk hne)⟩

theorem row_ne_g {u : World} {B size n g : Nat} {e : TypeId} {v : Value} {xs : List Value} (h : u.ownsRow B e size v n xs) (hg : g < B) : v.ownBlock = none ∨ v.ownBlock ≠ some g :=
  .inr (fun e => by have := (World.ownsRow.lt h g e).1; omega)

theorem Cur.setHi {w0 u : World} {a : Option Addr} {cap g G j : Nat} {zs : List Int} {y : Value} (h : Cur w0 a cap zs u g) (hne : g ≠ G) (hlo : w0.heap.size ≤ G) : Cur w0 a cap zs (u.setCell ⟨G, j, none⟩ y) g :=
  h.grown (grown_setj u G j y) (by simpa using hne) (fun k hk => by simp at hk; omega)

theorem l3List_at (w0 : World) (a : Option Addr) (cap : Nat) (zs : List Int) (w : World) (g : Nat) (x : Int) (n : Nat) (hx : x = (n : Int)) (hn : n ≤ 1000) (hC : Cur w0 a cap zs w g) :
    Calls Try.prog 90 #[.pointer (some ⟨g, 0, none⟩), .int .i64 x] w fun e w' => DrawnInts w0 a cap zs w g n e w' := by
  subst hx
  exact l3List_any w0 a cap zs w g n hn hC

theorem l2Bits_at (w0 : World) (a : Option Addr) (cap : Nat) (zs : List Int) (w : World) (g : Nat) (x : Int) (n : Nat) (hx : x = (n : Int)) (hn : n ≤ 1000) (hC : Cur w0 a cap zs w g) :
    Calls Try.prog 89 #[.pointer (some ⟨g, 0, none⟩), .int .i64 x] w fun e w' => DrawnBits w0 a cap zs w g n e w' := by
  subst hx
  exact l2Bits_any w0 a cap zs w g n (by omega) hC

/-- What drawing a question ends with. -/
def DrawnReq (w0 : World) (a : Option Addr) (cap : Nat) (zs : List Int) (w : World) (g : Nat) (e : Ending) (w' : World) : Prop :=
  ∃ (kd pl nn wa : Int) (a1 a2 : Option Addr) (l1 l2 c1 c2 : Nat) (ws : List Int) (bs : List Bool), e = .returned (rq kd pl nn wa a1 a2 l1 l2 c1 c2) ∧ l1 = ws.length ∧ l2 = bs.length ∧ l1 ≤ 200 ∧ l2 ≤ 2000 ∧ OwnI w' w.heap.size (.slice a1 l1 c1) ws ∧ OwnB w' w.heap.size (.slice a2 l2 c2) bs ∧ Cur w0 a cap zs w' g ∧ w.grownBy w' (some g)

set_option maxRecDepth 20000 in
set_option maxHeartbeats 16000000 in
theorem l3Draw_any (w0 : World) (a : Option Addr) (cap : Nat) (zs : List Int) (w : World) (g : Nat) (nr : Int) (hnr : 0 ≤ nr ∧ nr ≤ 100) (hC : Cur w0 a cap zs w g) :
    Calls Try.prog 43 #[.pointer (some ⟨g, 0, none⟩), .int .i64 nr] w fun e w' => DrawnReq w0 a cap zs w g e w' := by
  obtain ⟨W0, hW0⟩ : ∃ W0, W0 = w.alloc (.cells #[.int .i64 0, .int .i64 0, .int .i64 0, .slice none 0 0, .slice none 0 0, .int .i64 0] 27) := ⟨_, rfl⟩
  have HW : Hid (W0 = _) := hW0
  have hg := hC.hi
  have hlo := hC.lo
  have C0 : Cur w0 a cap zs W0 g := by rw [hW0]; exact hC.alloc _
  have G0 : w.grownBy W0 (some g) := by rw [hW0]; exact World.grownBy_alloc _ _ _
  have R0 : Blk W0 w.heap.size 27 #[.int .i64 0, .int .i64 0, .int .i64 0, .slice none 0 0, .slice none 0 0, .int .i64 0] := by rw [hW0]; exact Blk.new _ _ _
  have I1 := ints_lit W0 [1, 2, 3, 4, 5, 6, 15, 16, 22, 23, 3, 16] 3
  have C1 := C0.alloc (.cells ([1, 2, 3, 4, 5, 6, 15, 16, 22, 23, 3, 16].map (Value.int .i64)).toArray 3)
  have G1 : w.grownBy (W0.alloc (.cells ([1, 2, 3, 4, 5, 6, 15, 16, 22, 23, 3, 16].map (Value.int .i64)).toArray 3)) (some g) := grown_trans G0 (World.grownBy_alloc _ _ _)
  have R1 := R0.below (bel_alloc W0 (.cells ([1, 2, 3, 4, 5, 6, 15, 16, 22, 23, 3, 16].map (Value.int .i64)).toArray 3))
  have hne1 : W0.heap.size ≠ g := by have := C0.hi; omega
  have HGR : Hid (g < w.heap.size ∧ w0.heap.size ≤ g) := ⟨hg, hlo⟩
  clear hC hW0 C0 G0 R0 hlo
  go_enter Try.func43, Try.ntmps43
  go_upto_region 1 with fail
  rw [← HW.out]
  go_wp2_with fail
  refine (l1Int_any w0 a cap zs _ g ⟨W0.heap.size, 0, none⟩ 12 12 [1, 2, 3, 4, 5, 6, 15, 16, 22, 23, 3, 16] rfl (by omega) (by omega) I1 hne1 C1).mono ?_
  rintro e u1 ⟨kd, rfl, hkd, C2, g2⟩
  have G2 := grown_trans G1 g2
  have R2 := R1.grown g2 (by simp; omega)
  have hk : kd = 1 ∨ kd = 2 ∨ kd = 3 ∨ kd = 4 ∨ kd = 5 ∨ kd = 6 ∨ kd = 15 ∨ kd = 16 ∨ kd = 22 ∨ kd = 23 := by simp at hkd; omega
  clear I1 C1 G1 R1 g2 hne1 hkd
  go_wp2_with fail
  refine (l1Below_any w0 a cap zs _ g _ (by decide) C2).mono ?_
  rintro e u2 ⟨p, rfl, hp, C3, g3⟩
  have G3 := grown_trans G2 g3
  have R3 := R2.grown g3 (by simp; omega)
  clear C2 G2 R2 g3
  obtain rfl | rfl | rfl | rfl | rfl | rfl | rfl | rfl | rfl | rfl := hk
  · skip
    obtain ⟨u3, hu3⟩ : ∃ u3, u3 = u2.alloc (.cells #[.int .i64 1, .int .i64 (nr + p), .int .i64 0, .slice none 0 0, .slice none 0 0, .int .i64 0] 27) := ⟨_, rfl⟩
    have HU : Hid (u3 = _) := hu3
    obtain ⟨B, hB⟩ : ∃ B, B = u2.heap.size := ⟨_, rfl⟩
    have HBe : Hid (B = u2.heap.size) := hB
    have HB : Hid (w.heap.size < B) := by show w.heap.size < B; have := R3.lt; omega
    have C4 : Cur w0 a cap zs u3 g := by rw [hu3]; exact C3.alloc _
    have G4 : w.grownBy u3 (some g) := by rw [hu3]; exact grown_trans G3 (World.grownBy_alloc _ _ _)
    have R4 : Blk u3 w.heap.size 27 #[.int .i64 0, .int .i64 0, .int .i64 0, .slice none 0 0, .slice none 0 0, .int .i64 0] := by rw [hu3]; exact R3.below (bel_alloc _ _)
    have Q4 : Blk u3 B 27 #[.int .i64 1, .int .i64 (nr + p), .int .i64 0, .slice none 0 0, .slice none 0 0, .int .i64 0] := by rw [hu3, hB]; exact Blk.new _ _ _
    clear C3 G3 R3 hu3 hB
    go_upto_region 2 with fail
    rw [← HU.out]
    simp only [← HBe.out]
    go_wp2_with fail
    refine (l1Below_any w0 a cap zs _ g _ (by decide) C4).mono ?_
    rintro e t5 ⟨x, rfl, hx, C5, gg⟩
    have G5 := grown_trans G4 gg
    have R5 := R4.grown gg (by have := HGR.out; simp; omega)
    have Q5 := Q4.grown gg (by have := HGR.out; have := HB.out; simp; omega)
    clear C4 R4 Q4 gg 
    clear G4
    have k0 := Q5.cell 0 rfl
    go_upto_region 4 with fail
    have qc := Q5.cell 2 rfl
    have qf := Q5.fro 2
    have Q6 := Q5.set 2 (.int .i64 (1 + x))
    have R6 := R5.setNe (g' := B) (j := 2) (y := .int .i64 (1 + x)) (by have := HB.out; omega)
    have C6 := C5.setHi (G := B) (j := 2) (y := .int .i64 (1 + x)) (by have := HB.out; have := HGR.out; omega) (by have := HB.out; have := HGR.out; omega)
    have G6 := grown_setHi (G := B) (j := 2) (y := .int .i64 (1 + x)) G5 (by have := HB.out; omega)
    go_upto_region 19 with fail
    obtain ⟨v6, hv6⟩ : ∃ v6, v6 = t5.setCell ⟨B, 2, none⟩ (.int .i64 (1 + x)) := ⟨_, rfl⟩
    rw [← hv6] at Q6 R6 C6 G6 ⊢
    clear hv6 qc qf Q5 R5 C5 G5 
    obtain ⟨q0, q1, q2, q3, q4, q5⟩ := Q6.six
    obtain ⟨y0, y1, y2, y3, y4, y5⟩ := R6.six
    have fy := R6.fro
    have OI : OwnI v6 w.heap.size (.slice none 0 0) [] := (ownI_nil _ _)
    have OB : OwnB v6 w.heap.size (.slice none 0 0) [] := (ownB_nil _ _)
    have HH : Hid (OwnI v6 w.heap.size (.slice none 0 0) [] ∧ OwnB v6 w.heap.size (.slice none 0 0) [] ∧ Cur w0 a cap zs v6 g ∧ w.grownBy v6 (some g) ∧ Blk v6 w.heap.size 27 #[.int .i64 0, .int .i64 0, .int .i64 0, .slice none 0 0, .slice none 0 0, .int .i64 0]) := ⟨OI, OB, C6, G6, R6⟩
    clear OI OB C6 G6 R6 Q6 
    go_wp2
    refine bodyPost_ret (v := rq 1 (nr + p) ((1 + x)) (0) none none 0 0 0 0) (by simp [results, Try.results43, go_sem, y0, y1, y2, y3, y4, y5]) rfl ?_
    obtain ⟨OI, OB, CE, GE, RE⟩ := HH.out
    have hgR : g ≠ w.heap.size := by have := HGR.out; omega
    have hwR : w0.heap.size ≤ w.heap.size := by have := HGR.out; omega
    exact ⟨_, _, _, _, _, _, _, _, _, _, [], [], rfl, rfl, rfl, by first | omega | (have := HM.out; omega), by first | omega | (have := HM.out; omega), rowp_set6 OI ⟨_, RE⟩ (by decide), rowp_set6 OB ⟨_, RE⟩ (by decide), (((((CE.setHi hgR hwR).setHi hgR hwR).setHi hgR hwR).setHi hgR hwR).setHi hgR hwR).setHi hgR hwR, grown_setHi (grown_setHi (grown_setHi (grown_setHi (grown_setHi (grown_setHi GE (Nat.le_refl _)) (Nat.le_refl _)) (Nat.le_refl _)) (Nat.le_refl _)) (Nat.le_refl _)) (Nat.le_refl _)⟩
  · skip
    obtain ⟨u3, hu3⟩ : ∃ u3, u3 = u2.alloc (.cells #[.int .i64 2, .int .i64 (nr + p), .int .i64 0, .slice none 0 0, .slice none 0 0, .int .i64 0] 27) := ⟨_, rfl⟩
    have HU : Hid (u3 = _) := hu3
    obtain ⟨B, hB⟩ : ∃ B, B = u2.heap.size := ⟨_, rfl⟩
    have HBe : Hid (B = u2.heap.size) := hB
    have HB : Hid (w.heap.size < B) := by show w.heap.size < B; have := R3.lt; omega
    have C4 : Cur w0 a cap zs u3 g := by rw [hu3]; exact C3.alloc _
    have G4 : w.grownBy u3 (some g) := by rw [hu3]; exact grown_trans G3 (World.grownBy_alloc _ _ _)
    have R4 : Blk u3 w.heap.size 27 #[.int .i64 0, .int .i64 0, .int .i64 0, .slice none 0 0, .slice none 0 0, .int .i64 0] := by rw [hu3]; exact R3.below (bel_alloc _ _)
    have Q4 : Blk u3 B 27 #[.int .i64 2, .int .i64 (nr + p), .int .i64 0, .slice none 0 0, .slice none 0 0, .int .i64 0] := by rw [hu3, hB]; exact Blk.new _ _ _
    clear C3 G3 R3 hu3 hB
    go_upto_region 2 with fail
    rw [← HU.out]
    simp only [← HBe.out]
    go_wp2_with fail
    refine (l1Below_any w0 a cap zs _ g _ (by decide) C4).mono ?_
    rintro e t5 ⟨x, rfl, hx, C5, gg⟩
    have G5 := grown_trans G4 gg
    have R5 := R4.grown gg (by have := HGR.out; simp; omega)
    have Q5 := Q4.grown gg (by have := HGR.out; have := HB.out; simp; omega)
    clear C4 R4 Q4 gg 
    clear G4
    have k0 := Q5.cell 0 rfl
    go_upto_region 4 with fail
    have qc := Q5.cell 2 rfl
    have qf := Q5.fro 2
    have Q6 := Q5.set 2 (.int .i64 (1 + x))
    have R6 := R5.setNe (g' := B) (j := 2) (y := .int .i64 (1 + x)) (by have := HB.out; omega)
    have C6 := C5.setHi (G := B) (j := 2) (y := .int .i64 (1 + x)) (by have := HB.out; have := HGR.out; omega) (by have := HB.out; have := HGR.out; omega)
    have G6 := grown_setHi (G := B) (j := 2) (y := .int .i64 (1 + x)) G5 (by have := HB.out; omega)
    go_upto_region 19 with fail
    obtain ⟨v6, hv6⟩ : ∃ v6, v6 = t5.setCell ⟨B, 2, none⟩ (.int .i64 (1 + x)) := ⟨_, rfl⟩
    rw [← hv6] at Q6 R6 C6 G6 ⊢
    clear hv6 qc qf Q5 R5 C5 G5 
    obtain ⟨q0, q1, q2, q3, q4, q5⟩ := Q6.six
    obtain ⟨y0, y1, y2, y3, y4, y5⟩ := R6.six
    have fy := R6.fro
    have OI : OwnI v6 w.heap.size (.slice none 0 0) [] := (ownI_nil _ _)
    have OB : OwnB v6 w.heap.size (.slice none 0 0) [] := (ownB_nil _ _)
    have HH : Hid (OwnI v6 w.heap.size (.slice none 0 0) [] ∧ OwnB v6 w.heap.size (.slice none 0 0) [] ∧ Cur w0 a cap zs v6 g ∧ w.grownBy v6 (some g) ∧ Blk v6 w.heap.size 27 #[.int .i64 0, .int .i64 0, .int .i64 0, .slice none 0 0, .slice none 0 0, .int .i64 0]) := ⟨OI, OB, C6, G6, R6⟩
    clear OI OB C6 G6 R6 Q6 
    go_wp2
    refine bodyPost_ret (v := rq 2 (nr + p) ((1 + x)) (0) none none 0 0 0 0) (by simp [results, Try.results43, go_sem, y0, y1, y2, y3, y4, y5]) rfl ?_
    obtain ⟨OI, OB, CE, GE, RE⟩ := HH.out
    have hgR : g ≠ w.heap.size := by have := HGR.out; omega
    have hwR : w0.heap.size ≤ w.heap.size := by have := HGR.out; omega
    exact ⟨_, _, _, _, _, _, _, _, _, _, [], [], rfl, rfl, rfl, by first | omega | (have := HM.out; omega), by first | omega | (have := HM.out; omega), rowp_set6 OI ⟨_, RE⟩ (by decide), rowp_set6 OB ⟨_, RE⟩ (by decide), (((((CE.setHi hgR hwR).setHi hgR hwR).setHi hgR hwR).setHi hgR hwR).setHi hgR hwR).setHi hgR hwR, grown_setHi (grown_setHi (grown_setHi (grown_setHi (grown_setHi (grown_setHi GE (Nat.le_refl _)) (Nat.le_refl _)) (Nat.le_refl _)) (Nat.le_refl _)) (Nat.le_refl _)) (Nat.le_refl _)⟩
  · skip
    obtain ⟨u3, hu3⟩ : ∃ u3, u3 = u2.alloc (.cells #[.int .i64 3, .int .i64 (nr + p), .int .i64 0, .slice none 0 0, .slice none 0 0, .int .i64 0] 27) := ⟨_, rfl⟩
    have HU : Hid (u3 = _) := hu3
    obtain ⟨B, hB⟩ : ∃ B, B = u2.heap.size := ⟨_, rfl⟩
    have HBe : Hid (B = u2.heap.size) := hB
    have HB : Hid (w.heap.size < B) := by show w.heap.size < B; have := R3.lt; omega
    have C4 : Cur w0 a cap zs u3 g := by rw [hu3]; exact C3.alloc _
    have G4 : w.grownBy u3 (some g) := by rw [hu3]; exact grown_trans G3 (World.grownBy_alloc _ _ _)
    have R4 : Blk u3 w.heap.size 27 #[.int .i64 0, .int .i64 0, .int .i64 0, .slice none 0 0, .slice none 0 0, .int .i64 0] := by rw [hu3]; exact R3.below (bel_alloc _ _)
    have Q4 : Blk u3 B 27 #[.int .i64 3, .int .i64 (nr + p), .int .i64 0, .slice none 0 0, .slice none 0 0, .int .i64 0] := by rw [hu3, hB]; exact Blk.new _ _ _
    clear C3 G3 R3 hu3 hB
    go_upto_region 2 with fail
    rw [← HU.out]
    simp only [← HBe.out]
    go_wp2_with fail
    refine (l1Below_any w0 a cap zs _ g _ (by decide) C4).mono ?_
    rintro e t5 ⟨x, rfl, hx, C5, gg⟩
    have G5 := grown_trans G4 gg
    have R5 := R4.grown gg (by have := HGR.out; simp; omega)
    have Q5 := Q4.grown gg (by have := HGR.out; have := HB.out; simp; omega)
    clear C4 R4 Q4 gg 
    clear G4
    have k0 := Q5.cell 0 rfl
    go_upto_region 4 with fail
    have qc := Q5.cell 2 rfl
    have qf := Q5.fro 2
    have Q6 := Q5.set 2 (.int .i64 (1 + x))
    have R6 := R5.setNe (g' := B) (j := 2) (y := .int .i64 (1 + x)) (by have := HB.out; omega)
    have C6 := C5.setHi (G := B) (j := 2) (y := .int .i64 (1 + x)) (by have := HB.out; have := HGR.out; omega) (by have := HB.out; have := HGR.out; omega)
    have G6 := grown_setHi (G := B) (j := 2) (y := .int .i64 (1 + x)) G5 (by have := HB.out; omega)
    go_upto_region 19 with fail
    obtain ⟨v6, hv6⟩ : ∃ v6, v6 = t5.setCell ⟨B, 2, none⟩ (.int .i64 (1 + x)) := ⟨_, rfl⟩
    rw [← hv6] at Q6 R6 C6 G6 ⊢
    clear hv6 qc qf Q5 R5 C5 G5 
    obtain ⟨q0, q1, q2, q3, q4, q5⟩ := Q6.six
    obtain ⟨y0, y1, y2, y3, y4, y5⟩ := R6.six
    have fy := R6.fro
    have OI : OwnI v6 w.heap.size (.slice none 0 0) [] := (ownI_nil _ _)
    have OB : OwnB v6 w.heap.size (.slice none 0 0) [] := (ownB_nil _ _)
    have HH : Hid (OwnI v6 w.heap.size (.slice none 0 0) [] ∧ OwnB v6 w.heap.size (.slice none 0 0) [] ∧ Cur w0 a cap zs v6 g ∧ w.grownBy v6 (some g) ∧ Blk v6 w.heap.size 27 #[.int .i64 0, .int .i64 0, .int .i64 0, .slice none 0 0, .slice none 0 0, .int .i64 0]) := ⟨OI, OB, C6, G6, R6⟩
    clear OI OB C6 G6 R6 Q6 
    go_wp2
    refine bodyPost_ret (v := rq 3 (nr + p) ((1 + x)) (0) none none 0 0 0 0) (by simp [results, Try.results43, go_sem, y0, y1, y2, y3, y4, y5]) rfl ?_
    obtain ⟨OI, OB, CE, GE, RE⟩ := HH.out
    have hgR : g ≠ w.heap.size := by have := HGR.out; omega
    have hwR : w0.heap.size ≤ w.heap.size := by have := HGR.out; omega
    exact ⟨_, _, _, _, _, _, _, _, _, _, [], [], rfl, rfl, rfl, by first | omega | (have := HM.out; omega), by first | omega | (have := HM.out; omega), rowp_set6 OI ⟨_, RE⟩ (by decide), rowp_set6 OB ⟨_, RE⟩ (by decide), (((((CE.setHi hgR hwR).setHi hgR hwR).setHi hgR hwR).setHi hgR hwR).setHi hgR hwR).setHi hgR hwR, grown_setHi (grown_setHi (grown_setHi (grown_setHi (grown_setHi (grown_setHi GE (Nat.le_refl _)) (Nat.le_refl _)) (Nat.le_refl _)) (Nat.le_refl _)) (Nat.le_refl _)) (Nat.le_refl _)⟩
  · skip
    obtain ⟨u3, hu3⟩ : ∃ u3, u3 = u2.alloc (.cells #[.int .i64 4, .int .i64 (nr + p), .int .i64 0, .slice none 0 0, .slice none 0 0, .int .i64 0] 27) := ⟨_, rfl⟩
    have HU : Hid (u3 = _) := hu3
    obtain ⟨B, hB⟩ : ∃ B, B = u2.heap.size := ⟨_, rfl⟩
    have HBe : Hid (B = u2.heap.size) := hB
    have HB : Hid (w.heap.size < B) := by show w.heap.size < B; have := R3.lt; omega
    have C4 : Cur w0 a cap zs u3 g := by rw [hu3]; exact C3.alloc _
    have G4 : w.grownBy u3 (some g) := by rw [hu3]; exact grown_trans G3 (World.grownBy_alloc _ _ _)
    have R4 : Blk u3 w.heap.size 27 #[.int .i64 0, .int .i64 0, .int .i64 0, .slice none 0 0, .slice none 0 0, .int .i64 0] := by rw [hu3]; exact R3.below (bel_alloc _ _)
    have Q4 : Blk u3 B 27 #[.int .i64 4, .int .i64 (nr + p), .int .i64 0, .slice none 0 0, .slice none 0 0, .int .i64 0] := by rw [hu3, hB]; exact Blk.new _ _ _
    clear C3 G3 R3 hu3 hB
    go_upto_region 2 with fail
    rw [← HU.out]
    simp only [← HBe.out]
    go_wp2_with fail
    refine (l1Below_any w0 a cap zs _ g _ (by decide) C4).mono ?_
    rintro e t5 ⟨x, rfl, hx, C5, gg⟩
    have G5 := grown_trans G4 gg
    have R5 := R4.grown gg (by have := HGR.out; simp; omega)
    have Q5 := Q4.grown gg (by have := HGR.out; have := HB.out; simp; omega)
    clear C4 R4 Q4 gg 
    clear G4
    have k0 := Q5.cell 0 rfl
    go_upto_region 4 with fail
    have qc := Q5.cell 2 rfl
    have qf := Q5.fro 2
    have Q6 := Q5.set 2 (.int .i64 (1 + x))
    have R6 := R5.setNe (g' := B) (j := 2) (y := .int .i64 (1 + x)) (by have := HB.out; omega)
    have C6 := C5.setHi (G := B) (j := 2) (y := .int .i64 (1 + x)) (by have := HB.out; have := HGR.out; omega) (by have := HB.out; have := HGR.out; omega)
    have G6 := grown_setHi (G := B) (j := 2) (y := .int .i64 (1 + x)) G5 (by have := HB.out; omega)
    go_upto_region 19 with fail
    obtain ⟨v6, hv6⟩ : ∃ v6, v6 = t5.setCell ⟨B, 2, none⟩ (.int .i64 (1 + x)) := ⟨_, rfl⟩
    rw [← hv6] at Q6 R6 C6 G6 ⊢
    clear hv6 qc qf Q5 R5 C5 G5 
    obtain ⟨q0, q1, q2, q3, q4, q5⟩ := Q6.six
    obtain ⟨y0, y1, y2, y3, y4, y5⟩ := R6.six
    have fy := R6.fro
    have OI : OwnI v6 w.heap.size (.slice none 0 0) [] := (ownI_nil _ _)
    have OB : OwnB v6 w.heap.size (.slice none 0 0) [] := (ownB_nil _ _)
    have HH : Hid (OwnI v6 w.heap.size (.slice none 0 0) [] ∧ OwnB v6 w.heap.size (.slice none 0 0) [] ∧ Cur w0 a cap zs v6 g ∧ w.grownBy v6 (some g) ∧ Blk v6 w.heap.size 27 #[.int .i64 0, .int .i64 0, .int .i64 0, .slice none 0 0, .slice none 0 0, .int .i64 0]) := ⟨OI, OB, C6, G6, R6⟩
    clear OI OB C6 G6 R6 Q6 
    go_wp2
    refine bodyPost_ret (v := rq 4 (nr + p) ((1 + x)) (0) none none 0 0 0 0) (by simp [results, Try.results43, go_sem, y0, y1, y2, y3, y4, y5]) rfl ?_
    obtain ⟨OI, OB, CE, GE, RE⟩ := HH.out
    have hgR : g ≠ w.heap.size := by have := HGR.out; omega
    have hwR : w0.heap.size ≤ w.heap.size := by have := HGR.out; omega
    exact ⟨_, _, _, _, _, _, _, _, _, _, [], [], rfl, rfl, rfl, by first | omega | (have := HM.out; omega), by first | omega | (have := HM.out; omega), rowp_set6 OI ⟨_, RE⟩ (by decide), rowp_set6 OB ⟨_, RE⟩ (by decide), (((((CE.setHi hgR hwR).setHi hgR hwR).setHi hgR hwR).setHi hgR hwR).setHi hgR hwR).setHi hgR hwR, grown_setHi (grown_setHi (grown_setHi (grown_setHi (grown_setHi (grown_setHi GE (Nat.le_refl _)) (Nat.le_refl _)) (Nat.le_refl _)) (Nat.le_refl _)) (Nat.le_refl _)) (Nat.le_refl _)⟩
  · skip
    obtain ⟨u3, hu3⟩ : ∃ u3, u3 = u2.alloc (.cells #[.int .i64 5, .int .i64 (nr + p), .int .i64 0, .slice none 0 0, .slice none 0 0, .int .i64 0] 27) := ⟨_, rfl⟩
    have HU : Hid (u3 = _) := hu3
    obtain ⟨B, hB⟩ : ∃ B, B = u2.heap.size := ⟨_, rfl⟩
    have HBe : Hid (B = u2.heap.size) := hB
    have HB : Hid (w.heap.size < B) := by show w.heap.size < B; have := R3.lt; omega
    have C4 : Cur w0 a cap zs u3 g := by rw [hu3]; exact C3.alloc _
    have G4 : w.grownBy u3 (some g) := by rw [hu3]; exact grown_trans G3 (World.grownBy_alloc _ _ _)
    have R4 : Blk u3 w.heap.size 27 #[.int .i64 0, .int .i64 0, .int .i64 0, .slice none 0 0, .slice none 0 0, .int .i64 0] := by rw [hu3]; exact R3.below (bel_alloc _ _)
    have Q4 : Blk u3 B 27 #[.int .i64 5, .int .i64 (nr + p), .int .i64 0, .slice none 0 0, .slice none 0 0, .int .i64 0] := by rw [hu3, hB]; exact Blk.new _ _ _
    clear C3 G3 R3 hu3 hB
    go_upto_region 2 with fail
    rw [← HU.out]
    simp only [← HBe.out]
    go_wp2_with fail
    refine (l1Below_any w0 a cap zs _ g _ (by decide) C4).mono ?_
    rintro e t5 ⟨x, rfl, hx, C5, gg⟩
    have G5 := grown_trans G4 gg
    have R5 := R4.grown gg (by have := HGR.out; simp; omega)
    have Q5 := Q4.grown gg (by have := HGR.out; have := HB.out; simp; omega)
    clear C4 R4 Q4 gg 
    clear G4
    have k0 := Q5.cell 0 rfl
    go_upto_region 6 with fail
    go_wp2_with fail
    refine (l2Bits_at w0 a cap zs _ g _ 1 rfl (by omega) C5).mono ?_
    rintro e t6 ⟨a', c', bs, rfl, hbs, oj, C6, gg⟩
    have G6 := grown_trans G5 gg
    have R6 := R5.grown gg (by have := HGR.out; simp; omega)
    have Q6 := Q5.grown gg (by have := HGR.out; have := HB.out; simp; omega)
    clear C5 R5 Q5 gg 
    have J6 := OwnB.mono oj G5.size
    have HBs : Hid (_ = bs.length) := hbs
    clear oj hbs G5
    have qc := Q6.cell 4 rfl
    have qf := Q6.fro 4
    have Q7 := Q6.set 4 (.slice (some a') 1 c')
    have R7 := R6.setNe (g' := B) (j := 4) (y := .slice (some a') 1 c') (by have := HB.out; omega)
    have C7 := C6.setHi (G := B) (j := 4) (y := .slice (some a') 1 c') (by have := HB.out; have := HGR.out; omega) (by have := HB.out; have := HGR.out; omega)
    have G7 := grown_setHi (G := B) (j := 4) (y := .slice (some a') 1 c') G6 (by have := HB.out; omega)
    have J7 := row_setE (j := 4) (y := .slice (some a') 1 c') J6 ⟨_, Q6⟩ (by decide)
    go_upto_region 19 with fail
    obtain ⟨v7, hv7⟩ : ∃ v7, v7 = t6.setCell ⟨B, 4, none⟩ (.slice (some a') 1 c') := ⟨_, rfl⟩
    rw [← hv7] at Q7 R7 C7 G7 J7 ⊢
    clear hv7 qc qf Q6 R6 C6 G6 J6
    obtain ⟨q0, q1, q2, q3, q4, q5⟩ := Q7.six
    obtain ⟨y0, y1, y2, y3, y4, y5⟩ := R7.six
    have fy := R7.fro
    have OI : OwnI v7 w.heap.size (.slice none 0 0) [] := (ownI_nil _ _)
    have OB : OwnB v7 w.heap.size (.slice (some a') 1 c') bs := J7
    have HH : Hid (OwnI v7 w.heap.size (.slice none 0 0) [] ∧ OwnB v7 w.heap.size (.slice (some a') 1 c') bs ∧ Cur w0 a cap zs v7 g ∧ w.grownBy v7 (some g) ∧ Blk v7 w.heap.size 27 #[.int .i64 0, .int .i64 0, .int .i64 0, .slice none 0 0, .slice none 0 0, .int .i64 0]) := ⟨OI, OB, C7, G7, R7⟩
    clear OI OB C7 G7 R7 Q7 J7
    go_wp2
    refine bodyPost_ret (v := rq 5 (nr + p) (0) (0) none (some a') 0 1 0 c') (by simp [results, Try.results43, go_sem, y0, y1, y2, y3, y4, y5]) rfl ?_
    obtain ⟨OI, OB, CE, GE, RE⟩ := HH.out
    have hgR : g ≠ w.heap.size := by have := HGR.out; omega
    have hwR : w0.heap.size ≤ w.heap.size := by have := HGR.out; omega
    exact ⟨_, _, _, _, _, _, _, _, _, _, [], bs, rfl, rfl, HBs.out, by first | omega | (have := HM.out; omega), by first | omega | (have := HM.out; omega), rowp_set6 OI ⟨_, RE⟩ (by decide), rowp_set6 OB ⟨_, RE⟩ (by decide), (((((CE.setHi hgR hwR).setHi hgR hwR).setHi hgR hwR).setHi hgR hwR).setHi hgR hwR).setHi hgR hwR, grown_setHi (grown_setHi (grown_setHi (grown_setHi (grown_setHi (grown_setHi GE (Nat.le_refl _)) (Nat.le_refl _)) (Nat.le_refl _)) (Nat.le_refl _)) (Nat.le_refl _)) (Nat.le_refl _)⟩
  · skip
    obtain ⟨u3, hu3⟩ : ∃ u3, u3 = u2.alloc (.cells #[.int .i64 6, .int .i64 (nr + p), .int .i64 0, .slice none 0 0, .slice none 0 0, .int .i64 0] 27) := ⟨_, rfl⟩
    have HU : Hid (u3 = _) := hu3
    obtain ⟨B, hB⟩ : ∃ B, B = u2.heap.size := ⟨_, rfl⟩
    have HBe : Hid (B = u2.heap.size) := hB
    have HB : Hid (w.heap.size < B) := by show w.heap.size < B; have := R3.lt; omega
    have C4 : Cur w0 a cap zs u3 g := by rw [hu3]; exact C3.alloc _
    have G4 : w.grownBy u3 (some g) := by rw [hu3]; exact grown_trans G3 (World.grownBy_alloc _ _ _)
    have R4 : Blk u3 w.heap.size 27 #[.int .i64 0, .int .i64 0, .int .i64 0, .slice none 0 0, .slice none 0 0, .int .i64 0] := by rw [hu3]; exact R3.below (bel_alloc _ _)
    have Q4 : Blk u3 B 27 #[.int .i64 6, .int .i64 (nr + p), .int .i64 0, .slice none 0 0, .slice none 0 0, .int .i64 0] := by rw [hu3, hB]; exact Blk.new _ _ _
    clear C3 G3 R3 hu3 hB
    go_upto_region 2 with fail
    rw [← HU.out]
    simp only [← HBe.out]
    go_wp2_with fail
    refine (l1Below_any w0 a cap zs _ g _ (by decide) C4).mono ?_
    rintro e t5 ⟨x, rfl, hx, C5, gg⟩
    have G5 := grown_trans G4 gg
    have R5 := R4.grown gg (by have := HGR.out; simp; omega)
    have Q5 := Q4.grown gg (by have := HGR.out; have := HB.out; simp; omega)
    clear C4 R4 Q4 gg 
    clear G4
    have k0 := Q5.cell 0 rfl
    go_upto_region 8 with fail
    go_wp2_with fail
    refine (l3List_at w0 a cap zs _ g _ 1 rfl (by omega) C5).mono ?_
    rintro e t6 ⟨a', c', ws, rfl, hws, oi, C6, gg⟩
    have G6 := grown_trans G5 gg
    have R6 := R5.grown gg (by have := HGR.out; simp; omega)
    have Q6 := Q5.grown gg (by have := HGR.out; have := HB.out; simp; omega)
    clear C5 R5 Q5 gg 
    have I6 := OwnI.mono oi G5.size
    have HWs : Hid (_ = ws.length) := hws
    clear oi hws G5
    have qc := Q6.cell 3 rfl
    have qf := Q6.fro 3
    have Q7 := Q6.set 3 (.slice a' 1 c')
    have R7 := R6.setNe (g' := B) (j := 3) (y := .slice a' 1 c') (by have := HB.out; omega)
    have C7 := C6.setHi (G := B) (j := 3) (y := .slice a' 1 c') (by have := HB.out; have := HGR.out; omega) (by have := HB.out; have := HGR.out; omega)
    have G7 := grown_setHi (G := B) (j := 3) (y := .slice a' 1 c') G6 (by have := HB.out; omega)
    have I7 := row_setE (j := 3) (y := .slice a' 1 c') I6 ⟨_, Q6⟩ (by decide)
    go_upto_region 19 with fail
    obtain ⟨v7, hv7⟩ : ∃ v7, v7 = t6.setCell ⟨B, 3, none⟩ (.slice a' 1 c') := ⟨_, rfl⟩
    rw [← hv7] at Q7 R7 C7 G7 I7 ⊢
    clear hv7 qc qf Q6 R6 C6 G6 I6
    obtain ⟨q0, q1, q2, q3, q4, q5⟩ := Q7.six
    obtain ⟨y0, y1, y2, y3, y4, y5⟩ := R7.six
    have fy := R7.fro
    have OI : OwnI v7 w.heap.size (.slice a' 1 c') ws := I7
    have OB : OwnB v7 w.heap.size (.slice none 0 0) [] := (ownB_nil _ _)
    have HH : Hid (OwnI v7 w.heap.size (.slice a' 1 c') ws ∧ OwnB v7 w.heap.size (.slice none 0 0) [] ∧ Cur w0 a cap zs v7 g ∧ w.grownBy v7 (some g) ∧ Blk v7 w.heap.size 27 #[.int .i64 0, .int .i64 0, .int .i64 0, .slice none 0 0, .slice none 0 0, .int .i64 0]) := ⟨OI, OB, C7, G7, R7⟩
    clear OI OB C7 G7 R7 Q7 I7
    go_wp2
    refine bodyPost_ret (v := rq 6 (nr + p) (0) (0) a' none 1 0 c' 0) (by simp [results, Try.results43, go_sem, y0, y1, y2, y3, y4, y5]) rfl ?_
    obtain ⟨OI, OB, CE, GE, RE⟩ := HH.out
    have hgR : g ≠ w.heap.size := by have := HGR.out; omega
    have hwR : w0.heap.size ≤ w.heap.size := by have := HGR.out; omega
    exact ⟨_, _, _, _, _, _, _, _, _, _, ws, [], rfl, HWs.out, rfl, by first | omega | (have := HM.out; omega), by first | omega | (have := HM.out; omega), rowp_set6 OI ⟨_, RE⟩ (by decide), rowp_set6 OB ⟨_, RE⟩ (by decide), (((((CE.setHi hgR hwR).setHi hgR hwR).setHi hgR hwR).setHi hgR hwR).setHi hgR hwR).setHi hgR hwR, grown_setHi (grown_setHi (grown_setHi (grown_setHi (grown_setHi (grown_setHi GE (Nat.le_refl _)) (Nat.le_refl _)) (Nat.le_refl _)) (Nat.le_refl _)) (Nat.le_refl _)) (Nat.le_refl _)⟩
  · skip
    obtain ⟨u3, hu3⟩ : ∃ u3, u3 = u2.alloc (.cells #[.int .i64 15, .int .i64 (nr + p), .int .i64 0, .slice none 0 0, .slice none 0 0, .int .i64 0] 27) := ⟨_, rfl⟩
    have HU : Hid (u3 = _) := hu3
    obtain ⟨B, hB⟩ : ∃ B, B = u2.heap.size := ⟨_, rfl⟩
    have HBe : Hid (B = u2.heap.size) := hB
    have HB : Hid (w.heap.size < B) := by show w.heap.size < B; have := R3.lt; omega
    have C4 : Cur w0 a cap zs u3 g := by rw [hu3]; exact C3.alloc _
    have G4 : w.grownBy u3 (some g) := by rw [hu3]; exact grown_trans G3 (World.grownBy_alloc _ _ _)
    have R4 : Blk u3 w.heap.size 27 #[.int .i64 0, .int .i64 0, .int .i64 0, .slice none 0 0, .slice none 0 0, .int .i64 0] := by rw [hu3]; exact R3.below (bel_alloc _ _)
    have Q4 : Blk u3 B 27 #[.int .i64 15, .int .i64 (nr + p), .int .i64 0, .slice none 0 0, .slice none 0 0, .int .i64 0] := by rw [hu3, hB]; exact Blk.new _ _ _
    clear C3 G3 R3 hu3 hB
    go_upto_region 2 with fail
    rw [← HU.out]
    simp only [← HBe.out]
    go_wp2_with fail
    refine (l1Below_any w0 a cap zs _ g _ (by decide) C4).mono ?_
    rintro e t5 ⟨x, rfl, hx, C5, gg⟩
    have G5 := grown_trans G4 gg
    have R5 := R4.grown gg (by have := HGR.out; simp; omega)
    have Q5 := Q4.grown gg (by have := HGR.out; have := HB.out; simp; omega)
    clear C4 R4 Q4 gg 
    clear G4
    have k0 := Q5.cell 0 rfl
    go_upto_region 12 with fail
    go_wp2_with fail
    refine (l1Below_any w0 a cap zs _ g _ (by decide) C5).mono ?_
    rintro e t6 ⟨y, rfl, hy, C6, gg⟩
    have G6 := grown_trans G5 gg
    have R6 := R5.grown gg (by have := HGR.out; simp; omega)
    have Q6 := Q5.grown gg (by have := HGR.out; have := HB.out; simp; omega)
    clear C5 R5 Q5 gg 
    clear G5
    obtain ⟨m, hm⟩ : ∃ m : Nat, 1 + x + y = (m : Int) := ⟨(1 + x + y).toNat, by omega⟩
    have HM : Hid (1 + x + y = (m : Int) ∧ m ≤ 100) := ⟨hm, by omega⟩
    clear hm
    go_wp2_with fail
    refine (l2Bits_at w0 a cap zs _ g _ m HM.out.1 (by have := HM.out; omega) C6).mono ?_
    rintro e t7 ⟨a', c', bs, rfl, hbs, oj, C7, gg⟩
    have G7 := grown_trans G6 gg
    have R7 := R6.grown gg (by have := HGR.out; simp; omega)
    have Q7 := Q6.grown gg (by have := HGR.out; have := HB.out; simp; omega)
    clear C6 R6 Q6 gg 
    have J7 := OwnB.mono oj G6.size
    have HBs : Hid (_ = bs.length) := hbs
    clear oj hbs G6
    have qc := Q7.cell 4 rfl
    have qf := Q7.fro 4
    have Q8 := Q7.set 4 (.slice (some a') m c')
    have R8 := R7.setNe (g' := B) (j := 4) (y := .slice (some a') m c') (by have := HB.out; omega)
    have C8 := C7.setHi (G := B) (j := 4) (y := .slice (some a') m c') (by have := HB.out; have := HGR.out; omega) (by have := HB.out; have := HGR.out; omega)
    have G8 := grown_setHi (G := B) (j := 4) (y := .slice (some a') m c') G7 (by have := HB.out; omega)
    have J8 := row_setE (j := 4) (y := .slice (some a') m c') J7 ⟨_, Q7⟩ (by decide)
    go_upto_region 19 with fail
    obtain ⟨v8, hv8⟩ : ∃ v8, v8 = t7.setCell ⟨B, 4, none⟩ (.slice (some a') m c') := ⟨_, rfl⟩
    rw [← hv8] at Q8 R8 C8 G8 J8 ⊢
    clear hv8 qc qf Q7 R7 C7 G7 J7
    obtain ⟨q0, q1, q2, q3, q4, q5⟩ := Q8.six
    obtain ⟨y0, y1, y2, y3, y4, y5⟩ := R8.six
    have fy := R8.fro
    have OI : OwnI v8 w.heap.size (.slice none 0 0) [] := (ownI_nil _ _)
    have OB : OwnB v8 w.heap.size (.slice (some a') m c') bs := J8
    have HH : Hid (OwnI v8 w.heap.size (.slice none 0 0) [] ∧ OwnB v8 w.heap.size (.slice (some a') m c') bs ∧ Cur w0 a cap zs v8 g ∧ w.grownBy v8 (some g) ∧ Blk v8 w.heap.size 27 #[.int .i64 0, .int .i64 0, .int .i64 0, .slice none 0 0, .slice none 0 0, .int .i64 0]) := ⟨OI, OB, C8, G8, R8⟩
    clear OI OB C8 G8 R8 Q8 J8
    go_wp2
    refine bodyPost_ret (v := rq 15 (nr + p) (0) (0) none (some a') 0 m 0 c') (by simp [results, Try.results43, go_sem, y0, y1, y2, y3, y4, y5]) rfl ?_
    obtain ⟨OI, OB, CE, GE, RE⟩ := HH.out
    have hgR : g ≠ w.heap.size := by have := HGR.out; omega
    have hwR : w0.heap.size ≤ w.heap.size := by have := HGR.out; omega
    exact ⟨_, _, _, _, _, _, _, _, _, _, [], bs, rfl, rfl, HBs.out, by first | omega | (have := HM.out; omega), by first | omega | (have := HM.out; omega), rowp_set6 OI ⟨_, RE⟩ (by decide), rowp_set6 OB ⟨_, RE⟩ (by decide), (((((CE.setHi hgR hwR).setHi hgR hwR).setHi hgR hwR).setHi hgR hwR).setHi hgR hwR).setHi hgR hwR, grown_setHi (grown_setHi (grown_setHi (grown_setHi (grown_setHi (grown_setHi GE (Nat.le_refl _)) (Nat.le_refl _)) (Nat.le_refl _)) (Nat.le_refl _)) (Nat.le_refl _)) (Nat.le_refl _)⟩
  · skip
    obtain ⟨u3, hu3⟩ : ∃ u3, u3 = u2.alloc (.cells #[.int .i64 16, .int .i64 (nr + p), .int .i64 0, .slice none 0 0, .slice none 0 0, .int .i64 0] 27) := ⟨_, rfl⟩
    have HU : Hid (u3 = _) := hu3
    obtain ⟨B, hB⟩ : ∃ B, B = u2.heap.size := ⟨_, rfl⟩
    have HBe : Hid (B = u2.heap.size) := hB
    have HB : Hid (w.heap.size < B) := by show w.heap.size < B; have := R3.lt; omega
    have C4 : Cur w0 a cap zs u3 g := by rw [hu3]; exact C3.alloc _
    have G4 : w.grownBy u3 (some g) := by rw [hu3]; exact grown_trans G3 (World.grownBy_alloc _ _ _)
    have R4 : Blk u3 w.heap.size 27 #[.int .i64 0, .int .i64 0, .int .i64 0, .slice none 0 0, .slice none 0 0, .int .i64 0] := by rw [hu3]; exact R3.below (bel_alloc _ _)
    have Q4 : Blk u3 B 27 #[.int .i64 16, .int .i64 (nr + p), .int .i64 0, .slice none 0 0, .slice none 0 0, .int .i64 0] := by rw [hu3, hB]; exact Blk.new _ _ _
    clear C3 G3 R3 hu3 hB
    go_upto_region 2 with fail
    rw [← HU.out]
    simp only [← HBe.out]
    go_wp2_with fail
    refine (l1Below_any w0 a cap zs _ g _ (by decide) C4).mono ?_
    rintro e t5 ⟨x, rfl, hx, C5, gg⟩
    have G5 := grown_trans G4 gg
    have R5 := R4.grown gg (by have := HGR.out; simp; omega)
    have Q5 := Q4.grown gg (by have := HGR.out; have := HB.out; simp; omega)
    clear C4 R4 Q4 gg 
    clear G4
    have k0 := Q5.cell 0 rfl
    go_upto_region 14 with fail
    obtain ⟨m, hm⟩ : ∃ m : Nat, 1 + x = (m : Int) := ⟨(1 + x).toNat, by omega⟩
    have HM : Hid (1 + x = (m : Int) ∧ m ≤ 100) := ⟨hm, by omega⟩
    clear hm
    go_wp2_with fail
    refine (l3List_at w0 a cap zs _ g _ m HM.out.1 (by have := HM.out; omega) C5).mono ?_
    rintro e t6 ⟨a', c', ws, rfl, hws, oi, C6, gg⟩
    have G6 := grown_trans G5 gg
    have R6 := R5.grown gg (by have := HGR.out; simp; omega)
    have Q6 := Q5.grown gg (by have := HGR.out; have := HB.out; simp; omega)
    clear C5 R5 Q5 gg 
    have I6 := OwnI.mono oi G5.size
    have HWs : Hid (_ = ws.length) := hws
    clear oi hws G5
    have qc := Q6.cell 3 rfl
    have qf := Q6.fro 3
    have Q7 := Q6.set 3 (.slice a' m c')
    have R7 := R6.setNe (g' := B) (j := 3) (y := .slice a' m c') (by have := HB.out; omega)
    have C7 := C6.setHi (G := B) (j := 3) (y := .slice a' m c') (by have := HB.out; have := HGR.out; omega) (by have := HB.out; have := HGR.out; omega)
    have G7 := grown_setHi (G := B) (j := 3) (y := .slice a' m c') G6 (by have := HB.out; omega)
    have I7 := row_setE (j := 3) (y := .slice a' m c') I6 ⟨_, Q6⟩ (by decide)
    go_upto_region 19 with fail
    obtain ⟨v7, hv7⟩ : ∃ v7, v7 = t6.setCell ⟨B, 3, none⟩ (.slice a' m c') := ⟨_, rfl⟩
    rw [← hv7] at Q7 R7 C7 G7 I7 ⊢
    clear hv7 qc qf Q6 R6 C6 G6 I6
    obtain ⟨q0, q1, q2, q3, q4, q5⟩ := Q7.six
    obtain ⟨y0, y1, y2, y3, y4, y5⟩ := R7.six
    have fy := R7.fro
    have OI : OwnI v7 w.heap.size (.slice a' m c') ws := I7
    have OB : OwnB v7 w.heap.size (.slice none 0 0) [] := (ownB_nil _ _)
    have HH : Hid (OwnI v7 w.heap.size (.slice a' m c') ws ∧ OwnB v7 w.heap.size (.slice none 0 0) [] ∧ Cur w0 a cap zs v7 g ∧ w.grownBy v7 (some g) ∧ Blk v7 w.heap.size 27 #[.int .i64 0, .int .i64 0, .int .i64 0, .slice none 0 0, .slice none 0 0, .int .i64 0]) := ⟨OI, OB, C7, G7, R7⟩
    clear OI OB C7 G7 R7 Q7 I7
    go_wp2
    refine bodyPost_ret (v := rq 16 (nr + p) (0) (0) a' none m 0 c' 0) (by simp [results, Try.results43, go_sem, y0, y1, y2, y3, y4, y5]) rfl ?_
    obtain ⟨OI, OB, CE, GE, RE⟩ := HH.out
    have hgR : g ≠ w.heap.size := by have := HGR.out; omega
    have hwR : w0.heap.size ≤ w.heap.size := by have := HGR.out; omega
    exact ⟨_, _, _, _, _, _, _, _, _, _, ws, [], rfl, HWs.out, rfl, by first | omega | (have := HM.out; omega), by first | omega | (have := HM.out; omega), rowp_set6 OI ⟨_, RE⟩ (by decide), rowp_set6 OB ⟨_, RE⟩ (by decide), (((((CE.setHi hgR hwR).setHi hgR hwR).setHi hgR hwR).setHi hgR hwR).setHi hgR hwR).setHi hgR hwR, grown_setHi (grown_setHi (grown_setHi (grown_setHi (grown_setHi (grown_setHi GE (Nat.le_refl _)) (Nat.le_refl _)) (Nat.le_refl _)) (Nat.le_refl _)) (Nat.le_refl _)) (Nat.le_refl _)⟩
  · skip
    obtain ⟨u3, hu3⟩ : ∃ u3, u3 = u2.alloc (.cells #[.int .i64 22, .int .i64 (nr + p), .int .i64 0, .slice none 0 0, .slice none 0 0, .int .i64 0] 27) := ⟨_, rfl⟩
    have HU : Hid (u3 = _) := hu3
    obtain ⟨B, hB⟩ : ∃ B, B = u2.heap.size := ⟨_, rfl⟩
    have HBe : Hid (B = u2.heap.size) := hB
    have HB : Hid (w.heap.size < B) := by show w.heap.size < B; have := R3.lt; omega
    have C4 : Cur w0 a cap zs u3 g := by rw [hu3]; exact C3.alloc _
    have G4 : w.grownBy u3 (some g) := by rw [hu3]; exact grown_trans G3 (World.grownBy_alloc _ _ _)
    have R4 : Blk u3 w.heap.size 27 #[.int .i64 0, .int .i64 0, .int .i64 0, .slice none 0 0, .slice none 0 0, .int .i64 0] := by rw [hu3]; exact R3.below (bel_alloc _ _)
    have Q4 : Blk u3 B 27 #[.int .i64 22, .int .i64 (nr + p), .int .i64 0, .slice none 0 0, .slice none 0 0, .int .i64 0] := by rw [hu3, hB]; exact Blk.new _ _ _
    clear C3 G3 R3 hu3 hB
    go_upto_region 2 with fail
    rw [← HU.out]
    simp only [← HBe.out]
    go_wp2_with fail
    refine (l1Below_any w0 a cap zs _ g _ (by decide) C4).mono ?_
    rintro e t5 ⟨x, rfl, hx, C5, gg⟩
    have G5 := grown_trans G4 gg
    have R5 := R4.grown gg (by have := HGR.out; simp; omega)
    have Q5 := Q4.grown gg (by have := HGR.out; have := HB.out; simp; omega)
    clear C4 R4 Q4 gg 
    clear G4
    have k0 := Q5.cell 0 rfl
    go_upto_region 10 with fail
    go_wp2_with fail
    refine (l3List_at w0 a cap zs _ g _ 2 rfl (by omega) C5).mono ?_
    rintro e t6 ⟨a', c', ws, rfl, hws, oi, C6, gg⟩
    have G6 := grown_trans G5 gg
    have R6 := R5.grown gg (by have := HGR.out; simp; omega)
    have Q6 := Q5.grown gg (by have := HGR.out; have := HB.out; simp; omega)
    clear C5 R5 Q5 gg 
    have I6 := OwnI.mono oi G5.size
    have HWs : Hid (_ = ws.length) := hws
    clear oi hws G5
    have qc := Q6.cell 3 rfl
    have qf := Q6.fro 3
    have Q7 := Q6.set 3 (.slice a' 2 c')
    have R7 := R6.setNe (g' := B) (j := 3) (y := .slice a' 2 c') (by have := HB.out; omega)
    have C7 := C6.setHi (G := B) (j := 3) (y := .slice a' 2 c') (by have := HB.out; have := HGR.out; omega) (by have := HB.out; have := HGR.out; omega)
    have G7 := grown_setHi (G := B) (j := 3) (y := .slice a' 2 c') G6 (by have := HB.out; omega)
    have I7 := row_setE (j := 3) (y := .slice a' 2 c') I6 ⟨_, Q6⟩ (by decide)
    go_upto_region 19 with fail
    obtain ⟨v7, hv7⟩ : ∃ v7, v7 = t6.setCell ⟨B, 3, none⟩ (.slice a' 2 c') := ⟨_, rfl⟩
    rw [← hv7] at Q7 R7 C7 G7 I7 ⊢
    clear hv7 qc qf Q6 R6 C6 G6 I6
    obtain ⟨q0, q1, q2, q3, q4, q5⟩ := Q7.six
    obtain ⟨y0, y1, y2, y3, y4, y5⟩ := R7.six
    have fy := R7.fro
    have OI : OwnI v7 w.heap.size (.slice a' 2 c') ws := I7
    have OB : OwnB v7 w.heap.size (.slice none 0 0) [] := (ownB_nil _ _)
    have HH : Hid (OwnI v7 w.heap.size (.slice a' 2 c') ws ∧ OwnB v7 w.heap.size (.slice none 0 0) [] ∧ Cur w0 a cap zs v7 g ∧ w.grownBy v7 (some g) ∧ Blk v7 w.heap.size 27 #[.int .i64 0, .int .i64 0, .int .i64 0, .slice none 0 0, .slice none 0 0, .int .i64 0]) := ⟨OI, OB, C7, G7, R7⟩
    clear OI OB C7 G7 R7 Q7 I7
    go_wp2
    refine bodyPost_ret (v := rq 22 (nr + p) (0) (0) a' none 2 0 c' 0) (by simp [results, Try.results43, go_sem, y0, y1, y2, y3, y4, y5]) rfl ?_
    obtain ⟨OI, OB, CE, GE, RE⟩ := HH.out
    have hgR : g ≠ w.heap.size := by have := HGR.out; omega
    have hwR : w0.heap.size ≤ w.heap.size := by have := HGR.out; omega
    exact ⟨_, _, _, _, _, _, _, _, _, _, ws, [], rfl, HWs.out, rfl, by first | omega | (have := HM.out; omega), by first | omega | (have := HM.out; omega), rowp_set6 OI ⟨_, RE⟩ (by decide), rowp_set6 OB ⟨_, RE⟩ (by decide), (((((CE.setHi hgR hwR).setHi hgR hwR).setHi hgR hwR).setHi hgR hwR).setHi hgR hwR).setHi hgR hwR, grown_setHi (grown_setHi (grown_setHi (grown_setHi (grown_setHi (grown_setHi GE (Nat.le_refl _)) (Nat.le_refl _)) (Nat.le_refl _)) (Nat.le_refl _)) (Nat.le_refl _)) (Nat.le_refl _)⟩
  · skip
    obtain ⟨u3, hu3⟩ : ∃ u3, u3 = u2.alloc (.cells #[.int .i64 23, .int .i64 (nr + p), .int .i64 0, .slice none 0 0, .slice none 0 0, .int .i64 0] 27) := ⟨_, rfl⟩
    have HU : Hid (u3 = _) := hu3
    obtain ⟨B, hB⟩ : ∃ B, B = u2.heap.size := ⟨_, rfl⟩
    have HBe : Hid (B = u2.heap.size) := hB
    have HB : Hid (w.heap.size < B) := by show w.heap.size < B; have := R3.lt; omega
    have C4 : Cur w0 a cap zs u3 g := by rw [hu3]; exact C3.alloc _
    have G4 : w.grownBy u3 (some g) := by rw [hu3]; exact grown_trans G3 (World.grownBy_alloc _ _ _)
    have R4 : Blk u3 w.heap.size 27 #[.int .i64 0, .int .i64 0, .int .i64 0, .slice none 0 0, .slice none 0 0, .int .i64 0] := by rw [hu3]; exact R3.below (bel_alloc _ _)
    have Q4 : Blk u3 B 27 #[.int .i64 23, .int .i64 (nr + p), .int .i64 0, .slice none 0 0, .slice none 0 0, .int .i64 0] := by rw [hu3, hB]; exact Blk.new _ _ _
    clear C3 G3 R3 hu3 hB
    go_upto_region 2 with fail
    rw [← HU.out]
    simp only [← HBe.out]
    go_wp2_with fail
    refine (l1Below_any w0 a cap zs _ g _ (by decide) C4).mono ?_
    rintro e t5 ⟨x, rfl, hx, C5, gg⟩
    have G5 := grown_trans G4 gg
    have R5 := R4.grown gg (by have := HGR.out; simp; omega)
    have Q5 := Q4.grown gg (by have := HGR.out; have := HB.out; simp; omega)
    clear C4 R4 Q4 gg 
    clear G4
    have k0 := Q5.cell 0 rfl
    go_upto_region 16 with fail
    have qc := Q5.cell 2 rfl
    have qf := Q5.fro 2
    have Q6 := Q5.set 2 (.int .i64 (1 + x))
    have R6 := R5.setNe (g' := B) (j := 2) (y := .int .i64 (1 + x)) (by have := HB.out; omega)
    have C6 := C5.setHi (G := B) (j := 2) (y := .int .i64 (1 + x)) (by have := HB.out; have := HGR.out; omega) (by have := HB.out; have := HGR.out; omega)
    have G6 := grown_setHi (G := B) (j := 2) (y := .int .i64 (1 + x)) G5 (by have := HB.out; omega)
    go_upto_region 17 with fail
    obtain ⟨v6, hv6⟩ : ∃ v6, v6 = t5.setCell ⟨B, 2, none⟩ (.int .i64 (1 + x)) := ⟨_, rfl⟩
    rw [← hv6] at Q6 R6 C6 G6 ⊢
    clear hv6 qc qf Q5 R5 C5 G5 
    go_wp2_with fail
    refine (l1Below_any w0 a cap zs _ g _ (by decide) C6).mono ?_
    rintro e t7 ⟨y, rfl, hy, C7, gg⟩
    have G7 := grown_trans G6 gg
    have R7 := R6.grown gg (by have := HGR.out; simp; omega)
    have Q7 := Q6.grown gg (by have := HGR.out; have := HB.out; simp; omega)
    clear C6 R6 Q6 gg 
    clear G6
    have qc := Q7.cell 5 rfl
    have qf := Q7.fro 5
    have Q8 := Q7.set 5 (.int .i64 (nr + y))
    have R8 := R7.setNe (g' := B) (j := 5) (y := .int .i64 (nr + y)) (by have := HB.out; omega)
    have C8 := C7.setHi (G := B) (j := 5) (y := .int .i64 (nr + y)) (by have := HB.out; have := HGR.out; omega) (by have := HB.out; have := HGR.out; omega)
    have G8 := grown_setHi (G := B) (j := 5) (y := .int .i64 (nr + y)) G7 (by have := HB.out; omega)
    go_upto_region 18 with fail
    obtain ⟨v8, hv8⟩ : ∃ v8, v8 = t7.setCell ⟨B, 5, none⟩ (.int .i64 (nr + y)) := ⟨_, rfl⟩
    rw [← hv8] at Q8 R8 C8 G8 ⊢
    clear hv8 qc qf Q7 R7 C7 G7 
    go_wp2_with fail
    refine (l1Below_any w0 a cap zs _ g _ (by decide) C8).mono ?_
    rintro e t9 ⟨z, rfl, hz, C9, gg⟩
    have G9 := grown_trans G8 gg
    have R9 := R8.grown gg (by have := HGR.out; simp; omega)
    have Q9 := Q8.grown gg (by have := HGR.out; have := HB.out; simp; omega)
    clear C8 R8 Q8 gg 
    clear G8
    obtain ⟨m, hm⟩ : ∃ m : Nat, 1 + z = (m : Int) := ⟨(1 + z).toNat, by omega⟩
    have HM : Hid (1 + z = (m : Int) ∧ m ≤ 100) := ⟨hm, by omega⟩
    clear hm
    go_wp2_with fail
    refine (l3List_at w0 a cap zs _ g _ m HM.out.1 (by have := HM.out; omega) C9).mono ?_
    rintro e t10 ⟨a', c', ws, rfl, hws, oi, C10, gg⟩
    have G10 := grown_trans G9 gg
    have R10 := R9.grown gg (by have := HGR.out; simp; omega)
    have Q10 := Q9.grown gg (by have := HGR.out; have := HB.out; simp; omega)
    clear C9 R9 Q9 gg 
    have I10 := OwnI.mono oi G9.size
    have HWs : Hid (_ = ws.length) := hws
    clear oi hws G9
    have qc := Q10.cell 3 rfl
    have qf := Q10.fro 3
    have Q11 := Q10.set 3 (.slice a' m c')
    have R11 := R10.setNe (g' := B) (j := 3) (y := .slice a' m c') (by have := HB.out; omega)
    have C11 := C10.setHi (G := B) (j := 3) (y := .slice a' m c') (by have := HB.out; have := HGR.out; omega) (by have := HB.out; have := HGR.out; omega)
    have G11 := grown_setHi (G := B) (j := 3) (y := .slice a' m c') G10 (by have := HB.out; omega)
    have I11 := row_setE (j := 3) (y := .slice a' m c') I10 ⟨_, Q10⟩ (by decide)
    go_upto_region 19 with fail
    obtain ⟨v11, hv11⟩ : ∃ v11, v11 = t10.setCell ⟨B, 3, none⟩ (.slice a' m c') := ⟨_, rfl⟩
    rw [← hv11] at Q11 R11 C11 G11 I11 ⊢
    clear hv11 qc qf Q10 R10 C10 G10 I10
    obtain ⟨q0, q1, q2, q3, q4, q5⟩ := Q11.six
    obtain ⟨y0, y1, y2, y3, y4, y5⟩ := R11.six
    have fy := R11.fro
    have OI : OwnI v11 w.heap.size (.slice a' m c') ws := I11
    have OB : OwnB v11 w.heap.size (.slice none 0 0) [] := (ownB_nil _ _)
    have HH : Hid (OwnI v11 w.heap.size (.slice a' m c') ws ∧ OwnB v11 w.heap.size (.slice none 0 0) [] ∧ Cur w0 a cap zs v11 g ∧ w.grownBy v11 (some g) ∧ Blk v11 w.heap.size 27 #[.int .i64 0, .int .i64 0, .int .i64 0, .slice none 0 0, .slice none 0 0, .int .i64 0]) := ⟨OI, OB, C11, G11, R11⟩
    clear OI OB C11 G11 R11 Q11 I11
    go_wp2
    refine bodyPost_ret (v := rq 23 (nr + p) ((1 + x)) (nr + y) a' none m 0 c' 0) (by simp [results, Try.results43, go_sem, y0, y1, y2, y3, y4, y5]) rfl ?_
    obtain ⟨OI, OB, CE, GE, RE⟩ := HH.out
    have hgR : g ≠ w.heap.size := by have := HGR.out; omega
    have hwR : w0.heap.size ≤ w.heap.size := by have := HGR.out; omega
    exact ⟨_, _, _, _, _, _, _, _, _, _, ws, [], rfl, HWs.out, rfl, by first | omega | (have := HM.out; omega), by first | omega | (have := HM.out; omega), rowp_set6 OI ⟨_, RE⟩ (by decide), rowp_set6 OB ⟨_, RE⟩ (by decide), (((((CE.setHi hgR hwR).setHi hgR hwR).setHi hgR hwR).setHi hgR hwR).setHi hgR hwR).setHi hgR hwR, grown_setHi (grown_setHi (grown_setHi (grown_setHi (grown_setHi (grown_setHi GE (Nat.le_refl _)) (Nat.le_refl _)) (Nat.le_refl _)) (Nat.le_refl _)) (Nat.le_refl _)) (Nat.le_refl _)⟩

end Go.Proofs.Ytfcbkollmhjdoaa

namespace Go.Proofs.Ytfcbkollmhjdoaa
open Go.RowKit

set_option linter.unusedVariables false

set_option linter.unusedSimpArgs false

/-- What drawing a question ends with: its rows lie from base on. -/
def ReqAt (w0 : World) (a : Option Addr) (cap : Nat) (zs : List Int) (base m1 m2 : Nat) (w : World) (g : Nat) (e : Ending) (w' : World) : Prop :=
  ∃ (kd pl nn wa : Int) (a1 a2 : Option Addr) (l1 l2 c1 c2 : Nat) (ws : List Int) (bs : List Bool), e = .returned (rq kd pl nn wa a1 a2 l1 l2 c1 c2) ∧ l1 = ws.length ∧ l2 = bs.length ∧ l1 ≤ m1 ∧ l2 ≤ m2 ∧ OwnI w' base (.slice a1 l1 c1) ws ∧ OwnB w' base (.slice a2 l2 c2) bs ∧ Cur w0 a cap zs w' g ∧ w.grownBy w' (some g)

theorem grown_rowG {w u u' : World} {g : Nat} {e : TypeId} {size n : Nat} {v : Value} {xs : List Value} (h : w.grownBy u (some g)) (hr : u.ownsRow w.heap.size e size v n xs) (hg : u.grownBy u' v.ownBlock) : w.grownBy u' (some g) := by
  refine ⟨hg.os.trans h.os, hg.tape.trans h.tape, hg.output.trans h.output, Nat.le_trans h.size hg.size, fun k hk hne => ?_⟩
  rw [hg.block k (Nat.lt_of_lt_of_le hk h.size) (fun e => by have := (World.ownsRow.lt hr k e.symm).1; omega)]
  exact h.block k hk hne

theorem Cur.rowG {w0 u u' : World} {a : Option Addr} {cap g B : Nat} {zs : List Int} {e : TypeId} {size n : Nat} {v : Value} {xs : List Value} (h : Cur w0 a cap zs u g) (hr : u.ownsRow B e size v n xs) (hg : u.grownBy u' v.ownBlock) (hB : g < B) : Cur w0 a cap zs u' g := by
  have hlo := h.lo
  exact h.grown hg (fun e => by have := (World.ownsRow.lt hr g e.symm).1; omega) (fun k hk => by have := (World.ownsRow.lt hr k hk).1; omega)

theorem ints_none {w : World} {ys : List Int} (h : SlI w none ys) : ys = [] := by
  cases ys with
  | nil => rfl
  | cons y r => obtain ⟨b, off, e, _⟩ := cell_atI (k := 0) h (by simp); simp at e

theorem bools_none {w : World} {ys : List Bool} (h : SlB w none ys) : ys = [] := by
  cases ys with
  | nil => rfl
  | cons y r => obtain ⟨b, off, e, _⟩ := cell_atB (k := 0) h (by simp); simp at e

/-- append of a row of ints that may be none onto one of the call's own. -/
theorem wpList_appIO {w : World} {ops : Array Oper} {rest : List Oper} {o : Oper} {a : Act} {Q : Exit → Act → World → Prop} (hgd : o.guard = none) (s x : Operand)
    (ho : o.op = .call { callee := .builtin .append, args := #[s, x], argTypes := #[24, 24] }) (base : Nat) (v : Value) (zs : List Int) (hs : a.eval s = v) (hown : OwnI w base v zs)
    (ad : Option Addr) (m c : Nat) (ys : List Int) (hx : a.eval x = .slice ad m c) (hm : m = ys.length) (hsl : SlI w ad ys) (hlen : zs.length + ys.length ≤ 4000000) (hbase : base ≤ w.heap.size)
    (h : ∀ v' w', OwnI w' base v' (zs ++ ys) → w.grownBy w' v.ownBlock → wpList Try.prog ops Q rest (a.put o.dst v') w') : wpList Try.prog ops Q (o :: rest) a w := by
  cases ad with
  | some ad => exact wpList_appI hgd s x ho base v zs hs hown ad m c ys hx hm hsl hlen hbase h
  | none =>
    obtain rfl := ints_none hsl
    obtain rfl : m = 0 := hm
    obtain ⟨i0, hi, hz0, hz1, hz2⟩ := info_parts Try.infoQ3
    have hgo : ∀ (sa : Option Addr) (sn sc : Nat), sn ≤ sc → v = .slice sa sn sc → wpList Try.prog ops Q (o :: rest) a w := by
      rintro sa sn sc hcap rfl
      exact Lib.wpList_append_run _ hgd s x _ _ ho _ _ hs hx _ _ (run_append_nothing w 24 24 o.type 3 i0 Try.underlying24 hi sa sn sc hcap _ (Src.ofNil w Try.underlying24 c)) (h _ w (by simpa using hown) ⟨rfl, rfl, rfl, Nat.le_refl _, fun _ _ _ => rfl⟩)
    rcases hown.2 with ⟨e, _⟩ | ⟨g, cap', cur, hv, _, hh, h3, _⟩
    · exact hgo _ _ _ (Nat.le_refl 0) e
    · exact hgo _ _ _ h3 hv

theorem boolCells {w : World} {ad : Addr} {ys : List Bool} (h : SlB w (some ad) ys) : ∀ j u, (ys.map Value.bool)[j]? = some u → w.cell? (ad.add j) = some u := by
  intro j u hu
  rw [List.getElem?_map] at hu
  by_cases hj : j < ys.length
  · obtain ⟨b, off, e, _, hc⟩ := cell_atB h hj
    simp at e
    subst e
    rw [List.getElem?_eq_getElem hj] at hu
    simp at hu
    subst hu
    have : ys.getD j false = ys[j] := by simp [List.getD_eq_getElem?_getD, hj]
    rw [this] at hc
    by_cases h0 : j = 0
    · subst h0; simpa [Addr.add] using hc
    · simpa [Addr.add, h0] using hc
  · rw [List.getElem?_eq_none (by omega)] at hu; simp at hu

/-- append of a row of bools that may be none onto one of the call's own. -/
theorem wpList_appBO {w : World} {ops : Array Oper} {rest : List Oper} {o : Oper} {a : Act} {Q : Exit → Act → World → Prop} (hgd : o.guard = none) (s x : Operand)
    (ho : o.op = .call { callee := .builtin .append, args := #[s, x], argTypes := #[25, 25] }) (base : Nat) (v : Value) (zs : List Bool) (hs : a.eval s = v) (hown : OwnB w base v zs)
    (ad : Option Addr) (m c : Nat) (ys : List Bool) (hx : a.eval x = .slice ad m c) (hm : m = ys.length) (hsl : SlB w ad ys) (hlen : zs.length + ys.length ≤ 4000000) (hbase : base ≤ w.heap.size)
    (h : ∀ v' w', OwnB w' base v' (zs ++ ys) → w.grownBy w' v.ownBlock → wpList Try.prog ops Q rest (a.put o.dst v') w') : wpList Try.prog ops Q (o :: rest) a w := by
  obtain ⟨i0, hi, hz0, hz1, hz2⟩ := info_parts Try.info4
  cases ad with
  | some ad =>
    subst hm
    have hml : zs.length + ys.length ≤ maxLen := by unfold maxLen; omega
    refine wpList_append_own _ hgd s x 25 ho base 4 i0 (.bool false) 1 1 Try.underlying25 hi hz0 hz1 hz2 rfl (by decide) v zs.length (zs.map Value.bool) hs hown ad ys.length c (ys.map Value.bool) hx (by simp) (boolCells hsl) (by intro u hu; obtain ⟨y, _, rfl⟩ := List.mem_map.mp hu; rfl) hml (by omega) hbase ?_
    intro v' w' o' g' _
    exact h v' w' (by simpa [OwnB] using o') g'
  | none =>
    obtain rfl := bools_none hsl
    obtain rfl : m = 0 := hm
    have hgo : ∀ (sa : Option Addr) (sn sc : Nat), sn ≤ sc → v = .slice sa sn sc → wpList Try.prog ops Q (o :: rest) a w := by
      rintro sa sn sc hcap rfl
      exact Lib.wpList_append_run _ hgd s x _ _ ho _ _ hs hx _ _ (run_append_nothing w 25 25 o.type 4 i0 Try.underlying25 hi sa sn sc hcap _ (Src.ofNil w Try.underlying25 c)) (h _ w (by simpa using hown) ⟨rfl, rfl, rfl, Nat.le_refl _, fun _ _ _ => rfl⟩)
    rcases hown.2 with ⟨e, _⟩ | ⟨g, cap', cur, hv, _, hh, h3, _⟩
    · exact hgo _ _ _ (Nat.le_refl 0) e
    · exact hgo _ _ _ h3 hv

theorem newI (u : World) (base : Nat) (hb : base ≤ u.heap.size) : OwnI (u.alloc (.cells #[] 3)) base (.slice (some ⟨u.heap.size, 0, none⟩) 0 0) [] := ⟨rfl, .inr ⟨u.heap.size, 0, #[], rfl, hb, Blk.new u #[] 3, by simp, by simp, rfl, rfl⟩⟩

theorem newB (u : World) (base : Nat) (hb : base ≤ u.heap.size) : OwnB (u.alloc (.cells #[] 4)) base (.slice (some ⟨u.heap.size, 0, none⟩) 0 0) [] := ⟨rfl, .inr ⟨u.heap.size, 0, #[], rfl, hb, Blk.new u #[] 4, by simp, by simp, rfl, rfl⟩⟩

theorem ownB_shape {w : World} {base : Nat} {v : Value} {zs : List Bool} (h : OwnB w base v zs) : ∃ a c n, v = .slice a n c ∧ n = zs.length := by
  obtain ⟨_, h2⟩ := h
  rcases h2 with ⟨hv, h3⟩ | ⟨g, cap, cur, hv, hg, hh, _⟩
  · exact ⟨none, 0, 0, hv, h3.symm⟩
  · exact ⟨_, cap, _, hv, rfl⟩

set_option maxRecDepth 20000 in
set_option maxHeartbeats 16000000 in
theorem l3Bend_any (w0 : World) (a : Option Addr) (cap : Nat) (zs : List Int) (w : World) (g : Nat) (kd pl nn wa : Int) (a1 a2 : Option Addr) (l1 l2 c1 c2 : Nat) (ws : List Int) (bs : List Bool) (base : Nat) (h1 : l1 = ws.length) (h2 : l2 = bs.length) (hl1 : l1 ≤ 1000) (hl2 : l2 ≤ 10000) (hgb : g < base) (hbw : base ≤ w.heap.size) (o1 : OwnI w base (.slice a1 l1 c1) ws) (o2 : OwnB w base (.slice a2 l2 c2) bs) (hC : Cur w0 a cap zs w g) :
    Calls Try.prog 47 #[.pointer (some ⟨g, 0, none⟩), rq kd pl nn wa a1 a2 l1 l2 c1 c2] w fun e w' => ReqAt w0 a cap zs base (l1 + 1) (l2 + 1) w g e w' := by
  obtain ⟨W0, hW0⟩ : ∃ W0, W0 = (w.alloc (.cells #[.int .i64 kd, .int .i64 pl, .int .i64 nn, .slice a1 l1 c1, .slice a2 l2 c2, .int .i64 wa] 27)).alloc (.cells #[.int .i64 0, .int .i64 0, .int .i64 0, .slice none 0 0, .slice none 0 0, .int .i64 0] 27) := ⟨_, rfl⟩
  have HW : Hid (W0 = _) := hW0
  have bw : Below w.heap.size w W0 := by rw [hW0]; exact bel_next (bel_alloc w _) (bel_alloc _ _)
  have C0 : Cur w0 a cap zs W0 g := by rw [hW0]; exact (hC.alloc _).alloc _
  have G0 : w.grownBy W0 (some g) := grown_below bw _
  have Q0 : Blk W0 w.heap.size 27 #[.int .i64 kd, .int .i64 pl, .int .i64 nn, .slice a1 l1 c1, .slice a2 l2 c2, .int .i64 wa] := by rw [hW0]; exact (Blk.new w _ _).below (bel_alloc _ _)
  have R0 : Blk W0 (w.heap.size + 1) 27 #[.int .i64 0, .int .i64 0, .int .i64 0, .slice none 0 0, .slice none 0 0, .int .i64 0] := by
    rw [hW0]; have := Blk.new (w.alloc (.cells #[.int .i64 kd, .int .i64 pl, .int .i64 nn, .slice a1 l1 c1, .slice a2 l2 c2, .int .i64 wa] 27)) #[.int .i64 0, .int .i64 0, .int .i64 0, .slice none 0 0, .slice none 0 0, .int .i64 0] 27; simpa using this
  have I0 := o1.below bw
  have J0 := o2.below bw
  have HX : Hid (g < base ∧ base ≤ w.heap.size ∧ w0.heap.size ≤ g ∧ g < w.heap.size ∧ l1 ≤ 1000 ∧ l2 ≤ 10000) := ⟨hgb, hbw, hC.lo, hC.hi, hl1, hl2⟩
  have HL : Hid (l1 = ws.length ∧ l2 = bs.length) := ⟨h1, h2⟩
  clear hC hW0 bw o1 o2 h1 h2 hl1 hl2 hgb hbw
  go_enter Try.func47, Try.ntmps47
  go_upto_region 1 with fail
  rw [← HW.out]
  go_wp2_with fail
  refine (l1Below_any w0 a cap zs _ g _ (by decide) C0).mono ?_
  rintro e u1 ⟨x, rfl, hx, C1, gg⟩
  have G1 := grown_trans G0 gg
  have R1 := R0.grown gg (by have := HX.out; simp; omega)
  have Q1 := Q0.grown gg (by have := HX.out; simp; omega)
  have I1 := OwnI.kept I0 gg (row_ne_g I0 HX.out.1)
  have J1 := OwnB.kept J0 gg (row_ne_g J0 HX.out.1)
  clear C0 G0 R0 Q0 I0 J0 gg
  obtain rfl | rfl | rfl | rfl | rfl | rfl | rfl : x = 0 ∨ x = 1 ∨ x = 2 ∨ x = 3 ∨ x = 4 ∨ x = 5 ∨ x = 6 := by omega
  · clear hx
    go_upto_region 3 with fail
    go_wp2_with fail
    refine (l1Below_any w0 a cap zs _ g _ (by decide) C1).mono ?_
    rintro e t2 ⟨y, rfl, _, C2, gg⟩
    have G2 := grown_trans G1 gg
    have R2 := R1.grown gg (by have := HX.out; simp; omega)
    have Q2 := Q1.grown gg (by have := HX.out; simp; omega)
    have I2 := OwnI.kept I1 gg (row_ne_g I1 HX.out.1)
    have J2 := OwnB.kept J1 gg (row_ne_g J1 HX.out.1)
    clear gg C1 G1 R1 Q1 I1 J1
    have qc := Q2.cell 0 rfl
    have qf := Q2.fro 0
    have Q3 := Q2.set 0 (.int .i64 y)
    have R3 := R2.setNe (g' := w.heap.size) (j := 0) (y := .int .i64 y) (by omega)
    have C3 := C2.setHi (G := w.heap.size) (j := 0) (y := .int .i64 y) (by have := HX.out; omega) (by have := HX.out; omega)
    have G3 := grown_setHi (G := w.heap.size) (j := 0) (y := .int .i64 y) G2 (Nat.le_refl _)
    have I3 : OwnI _ _ _ _ := row_setE (j := 0) (y := .int .i64 y) I2 ⟨_, Q2⟩ (by decide)
    have J3 : OwnB _ _ _ _ := row_setE (j := 0) (y := .int .i64 y) J2 ⟨_, Q2⟩ (by decide)
    go_upto_region 14 with fail
    obtain ⟨v3, hv3⟩ : ∃ v3, v3 = t2.setCell ⟨w.heap.size, 0, none⟩ (.int .i64 y) := ⟨_, rfl⟩
    rw [← hv3] at Q3 R3 C3 G3 I3 J3 ⊢
    clear hv3 qc qf C2 G2 R2 Q2 I2 J2
    obtain ⟨q0, q1, q2, q3, q4, q5⟩ := Q3.six
    obtain ⟨y0, y1, y2, y3, y4, y5⟩ := R3.six
    have fy := R3.fro
    have HH : Hid (OwnI v3 base (.slice a1 l1 c1) ws ∧ OwnB v3 base (.slice a2 l2 c2) bs ∧ Cur w0 a cap zs v3 g ∧ w.grownBy v3 (some g) ∧ Blk v3 (w.heap.size + 1) 27 #[.int .i64 0, .int .i64 0, .int .i64 0, .slice none 0 0, .slice none 0 0, .int .i64 0]) := ⟨I3, J3, C3, G3, R3⟩
    clear C3 G3 R3 Q3 I3 J3
    go_wp2
    refine bodyPost_ret (v := rq (y) (pl) (nn) (wa) a1 a2 l1 l2 c1 c2) (by simp [results, Try.results47, go_sem, y0, y1, y2, y3, y4, y5]) rfl ?_
    obtain ⟨OI, OB, CE, GE, RE⟩ := HH.out
    have hgR : g ≠ w.heap.size + 1 := by have := HX.out; omega
    have hwR : w0.heap.size ≤ w.heap.size + 1 := by have := HX.out; omega
    have hn1 : l1 ≤ l1 + 1 := by omega
    have hn2 : l2 ≤ l2 + 1 := by omega
    exact ⟨_, _, _, _, _, _, _, _, _, _, ws, bs, rfl, HL.out.1, HL.out.2, hn1, hn2, rowp_set6 OI ⟨_, RE⟩ (by decide), rowp_set6 OB ⟨_, RE⟩ (by decide), (((((CE.setHi hgR hwR).setHi hgR hwR).setHi hgR hwR).setHi hgR hwR).setHi hgR hwR).setHi hgR hwR, grown_setHi (grown_setHi (grown_setHi (grown_setHi (grown_setHi (grown_setHi GE (Nat.le_succ _)) (Nat.le_succ _)) (Nat.le_succ _)) (Nat.le_succ _)) (Nat.le_succ _)) (Nat.le_succ _)⟩
  · clear hx
    go_upto_region 5 with fail
    have IL := ints_lit u1 [-1, 65535, 65536, 65530] 3
    have hne : u1.heap.size ≠ g := by have := C1.hi; omega
    have b' := bel_alloc u1 (.cells ([-1, 65535, 65536, 65530].map (Value.int .i64)).toArray 3)
    have C2 := C1.alloc (.cells ([-1, 65535, 65536, 65530].map (Value.int .i64)).toArray 3)
    have G2 := grown_trans G1 (grown_below b' (some g))
    have R2 := R1.below b'
    have Q2 := Q1.below b'
    have I2 := OwnI.below I1 b'
    have J2 := OwnB.below J1 b'
    clear b' C1 G1 R1 Q1 I1 J1
    go_wp2_with fail
    refine (l1Int_any w0 a cap zs _ g ⟨u1.heap.size, 0, none⟩ 4 4 [-1, 65535, 65536, 65530] rfl (by omega) (by omega) IL hne C2).mono ?_
    rintro e t3 ⟨y, rfl, _, C3, gg⟩
    have G3 := grown_trans G2 gg
    have R3 := R2.grown gg (by have := HX.out; simp; omega)
    have Q3 := Q2.grown gg (by have := HX.out; simp; omega)
    have I3 := OwnI.kept I2 gg (row_ne_g I2 HX.out.1)
    have J3 := OwnB.kept J2 gg (row_ne_g J2 HX.out.1)
    clear gg C2 G2 R2 Q2 I2 J2
    clear IL hne
    have qc := Q3.cell 1 rfl
    have qf := Q3.fro 1
    have Q4 := Q3.set 1 (.int .i64 y)
    have R4 := R3.setNe (g' := w.heap.size) (j := 1) (y := .int .i64 y) (by omega)
    have C4 := C3.setHi (G := w.heap.size) (j := 1) (y := .int .i64 y) (by have := HX.out; omega) (by have := HX.out; omega)
    have G4 := grown_setHi (G := w.heap.size) (j := 1) (y := .int .i64 y) G3 (Nat.le_refl _)
    have I4 : OwnI _ _ _ _ := row_setE (j := 1) (y := .int .i64 y) I3 ⟨_, Q3⟩ (by decide)
    have J4 : OwnB _ _ _ _ := row_setE (j := 1) (y := .int .i64 y) J3 ⟨_, Q3⟩ (by decide)
    go_upto_region 14 with fail
    obtain ⟨v4, hv4⟩ : ∃ v4, v4 = t3.setCell ⟨w.heap.size, 1, none⟩ (.int .i64 y) := ⟨_, rfl⟩
    rw [← hv4] at Q4 R4 C4 G4 I4 J4 ⊢
    clear hv4 qc qf C3 G3 R3 Q3 I3 J3
    obtain ⟨q0, q1, q2, q3, q4, q5⟩ := Q4.six
    obtain ⟨y0, y1, y2, y3, y4, y5⟩ := R4.six
    have fy := R4.fro
    have HH : Hid (OwnI v4 base (.slice a1 l1 c1) ws ∧ OwnB v4 base (.slice a2 l2 c2) bs ∧ Cur w0 a cap zs v4 g ∧ w.grownBy v4 (some g) ∧ Blk v4 (w.heap.size + 1) 27 #[.int .i64 0, .int .i64 0, .int .i64 0, .slice none 0 0, .slice none 0 0, .int .i64 0]) := ⟨I4, J4, C4, G4, R4⟩
    clear C4 G4 R4 Q4 I4 J4
    go_wp2
    refine bodyPost_ret (v := rq (kd) (y) (nn) (wa) a1 a2 l1 l2 c1 c2) (by simp [results, Try.results47, go_sem, y0, y1, y2, y3, y4, y5]) rfl ?_
    obtain ⟨OI, OB, CE, GE, RE⟩ := HH.out
    have hgR : g ≠ w.heap.size + 1 := by have := HX.out; omega
    have hwR : w0.heap.size ≤ w.heap.size + 1 := by have := HX.out; omega
    have hn1 : l1 ≤ l1 + 1 := by omega
    have hn2 : l2 ≤ l2 + 1 := by omega
    exact ⟨_, _, _, _, _, _, _, _, _, _, ws, bs, rfl, HL.out.1, HL.out.2, hn1, hn2, rowp_set6 OI ⟨_, RE⟩ (by decide), rowp_set6 OB ⟨_, RE⟩ (by decide), (((((CE.setHi hgR hwR).setHi hgR hwR).setHi hgR hwR).setHi hgR hwR).setHi hgR hwR).setHi hgR hwR, grown_setHi (grown_setHi (grown_setHi (grown_setHi (grown_setHi (grown_setHi GE (Nat.le_succ _)) (Nat.le_succ _)) (Nat.le_succ _)) (Nat.le_succ _)) (Nat.le_succ _)) (Nat.le_succ _)⟩
  · clear hx
    go_upto_region 7 with fail
    have IL := ints_lit u1 [0, 1, 125, 126, 2000, 2001, -1] 3
    have hne : u1.heap.size ≠ g := by have := C1.hi; omega
    have b' := bel_alloc u1 (.cells ([0, 1, 125, 126, 2000, 2001, -1].map (Value.int .i64)).toArray 3)
    have C2 := C1.alloc (.cells ([0, 1, 125, 126, 2000, 2001, -1].map (Value.int .i64)).toArray 3)
    have G2 := grown_trans G1 (grown_below b' (some g))
    have R2 := R1.below b'
    have Q2 := Q1.below b'
    have I2 := OwnI.below I1 b'
    have J2 := OwnB.below J1 b'
    clear b' C1 G1 R1 Q1 I1 J1
    go_wp2_with fail
    refine (l1Int_any w0 a cap zs _ g ⟨u1.heap.size, 0, none⟩ 7 7 [0, 1, 125, 126, 2000, 2001, -1] rfl (by omega) (by omega) IL hne C2).mono ?_
    rintro e t3 ⟨y, rfl, _, C3, gg⟩
    have G3 := grown_trans G2 gg
    have R3 := R2.grown gg (by have := HX.out; simp; omega)
    have Q3 := Q2.grown gg (by have := HX.out; simp; omega)
    have I3 := OwnI.kept I2 gg (row_ne_g I2 HX.out.1)
    have J3 := OwnB.kept J2 gg (row_ne_g J2 HX.out.1)
    clear gg C2 G2 R2 Q2 I2 J2
    clear IL hne
    have qc := Q3.cell 2 rfl
    have qf := Q3.fro 2
    have Q4 := Q3.set 2 (.int .i64 y)
    have R4 := R3.setNe (g' := w.heap.size) (j := 2) (y := .int .i64 y) (by omega)
    have C4 := C3.setHi (G := w.heap.size) (j := 2) (y := .int .i64 y) (by have := HX.out; omega) (by have := HX.out; omega)
    have G4 := grown_setHi (G := w.heap.size) (j := 2) (y := .int .i64 y) G3 (Nat.le_refl _)
    have I4 : OwnI _ _ _ _ := row_setE (j := 2) (y := .int .i64 y) I3 ⟨_, Q3⟩ (by decide)
    have J4 : OwnB _ _ _ _ := row_setE (j := 2) (y := .int .i64 y) J3 ⟨_, Q3⟩ (by decide)
    go_upto_region 14 with fail
    obtain ⟨v4, hv4⟩ : ∃ v4, v4 = t3.setCell ⟨w.heap.size, 2, none⟩ (.int .i64 y) := ⟨_, rfl⟩
    rw [← hv4] at Q4 R4 C4 G4 I4 J4 ⊢
    clear hv4 qc qf C3 G3 R3 Q3 I3 J3
    obtain ⟨q0, q1, q2, q3, q4, q5⟩ := Q4.six
    obtain ⟨y0, y1, y2, y3, y4, y5⟩ := R4.six
    have fy := R4.fro
    have HH : Hid (OwnI v4 base (.slice a1 l1 c1) ws ∧ OwnB v4 base (.slice a2 l2 c2) bs ∧ Cur w0 a cap zs v4 g ∧ w.grownBy v4 (some g) ∧ Blk v4 (w.heap.size + 1) 27 #[.int .i64 0, .int .i64 0, .int .i64 0, .slice none 0 0, .slice none 0 0, .int .i64 0]) := ⟨I4, J4, C4, G4, R4⟩
    clear C4 G4 R4 Q4 I4 J4
    go_wp2
    refine bodyPost_ret (v := rq (kd) (pl) (y) (wa) a1 a2 l1 l2 c1 c2) (by simp [results, Try.results47, go_sem, y0, y1, y2, y3, y4, y5]) rfl ?_
    obtain ⟨OI, OB, CE, GE, RE⟩ := HH.out
    have hgR : g ≠ w.heap.size + 1 := by have := HX.out; omega
    have hwR : w0.heap.size ≤ w.heap.size + 1 := by have := HX.out; omega
    have hn1 : l1 ≤ l1 + 1 := by omega
    have hn2 : l2 ≤ l2 + 1 := by omega
    exact ⟨_, _, _, _, _, _, _, _, _, _, ws, bs, rfl, HL.out.1, HL.out.2, hn1, hn2, rowp_set6 OI ⟨_, RE⟩ (by decide), rowp_set6 OB ⟨_, RE⟩ (by decide), (((((CE.setHi hgR hwR).setHi hgR hwR).setHi hgR hwR).setHi hgR hwR).setHi hgR hwR).setHi hgR hwR, grown_setHi (grown_setHi (grown_setHi (grown_setHi (grown_setHi (grown_setHi GE (Nat.le_succ _)) (Nat.le_succ _)) (Nat.le_succ _)) (Nat.le_succ _)) (Nat.le_succ _)) (Nat.le_succ _)⟩
  · clear hx
    go_upto_region 9 with fail
    have N2 := newI u1 w.heap.size G1.size
    have b' := bel_alloc u1 (.cells #[] 3)
    have C2 := C1.alloc (.cells #[] 3)
    have G2 := grown_trans G1 (grown_below b' (some g))
    have R2 := R1.below b'
    have Q2 := Q1.below b'
    have I2 := OwnI.below I1 b'
    have J2 := OwnB.below J1 b'
    clear b' C1 G1 R1 Q1 I1 J1
    have q3 := Q2.cell 3 rfl
    have hsz : w.heap.size ≤ (u1.alloc (.cells #[] 3)).heap.size := G2.size
    go_wp2_with (at_builtin; refine wpList_appIO rfl (.tmp 26) (.tmp 28) rfl w.heap.size (.slice (some ⟨u1.heap.size, 0, none⟩) 0 0) [] rfl N2 a1 l1 c1 ws rfl HL.out.1 I2.sl.2 (by have := HL.out; have := HX.out; simp; omega) hsz ?_; intro v' t3 N3 gg; obtain ⟨n1, n2, n3, rfl, hn3⟩ := ownI_shape N3; have HN3 : Hid (n3 = ([] ++ ws).length) := hn3; clear hn3)
    have C3 := C2.rowG N2 gg HX.out.2.2.2.1
    have G3 := grown_rowG G2 N2 gg
    have R3 := R2.row N2 gg (by decide)
    have Q3 := Q2.row N2 gg (by decide)
    have J3 := OwnB.kept J2 gg (ne_types J2 N2 (by decide))
    clear gg q3 hsz C2 G2 R2 Q2 I2 J2 N2
    have IL := ints_lit t3 [0, 65536, -1] 3
    have hne : t3.heap.size ≠ g := by have := C3.hi; omega
    have b' := bel_alloc t3 (.cells ([0, 65536, -1].map (Value.int .i64)).toArray 3)
    have C4 := C3.alloc (.cells ([0, 65536, -1].map (Value.int .i64)).toArray 3)
    have G4 := grown_trans G3 (grown_below b' (some g))
    have R4 := R3.below b'
    have Q4 := Q3.below b'
    have J4 := OwnB.below J3 b'
    have N4 := OwnI.below N3 b'
    clear b' C3 G3 R3 Q3 J3 N3
    go_wp2_with fail
    refine (l1Int_any w0 a cap zs _ g ⟨t3.heap.size, 0, none⟩ 3 3 [0, 65536, -1] rfl (by omega) (by omega) IL hne C4).mono ?_
    rintro e t5 ⟨y, rfl, _, C5, gg⟩
    have G5 := grown_trans G4 gg
    have R5 := R4.grown gg (by have := HX.out; simp; omega)
    have Q5 := Q4.grown gg (by have := HX.out; simp; omega)
    have J5 := OwnB.kept J4 gg (row_ne_g J4 HX.out.1)
    have N5 := OwnI.kept N4 gg (row_ne_g N4 HX.out.2.2.2.1)
    clear gg C4 G4 R4 Q4 J4 N4
    clear IL hne
    have b' := bel_alloc t5 (.cells #[.int .i64 y] 3)
    have C6 := C5.alloc (.cells #[.int .i64 y] 3)
    have G6 := grown_trans G5 (grown_below b' (some g))
    have R6 := R5.below b'
    have Q6 := Q5.below b'
    have J6 := OwnB.below J5 b'
    have N6 := OwnI.below N5 b'
    clear b' C5 G5 R5 Q5 J5 N5
    have hsz : w.heap.size ≤ (t5.alloc (.cells #[.int .i64 y] 3)).heap.size := G6.size
    go_upto_region 14 with (at_builtin; refine wpList_appI rfl (.tmp 29) (.tmp 33) rfl w.heap.size (.slice n1 n3 n2) ([] ++ ws) rfl N6 ⟨t5.heap.size, 0, none⟩ 1 1 [y] rfl rfl (lit_slI1' _ _ rfl) (by have := HL.out; have := HX.out; simp; omega) hsz ?_; intro v' t7 I7 gg; obtain ⟨m1, m2, m3, rfl, hm3⟩ := ownI_shape I7; have HM3 : Hid (m3 = ([] ++ ws ++ [y]).length) := hm3; have Q' := Q6.row N6 gg (by decide); have qc := Q'.cell 3 rfl; have qf := Q'.fro 3; clear hm3 Q')
    have C7 := C6.rowG N6 gg HX.out.2.2.2.1
    have G7 := grown_rowG G6 N6 gg
    have R7 := R6.row N6 gg (by decide)
    have Q7 := Q6.row N6 gg (by decide)
    have J7 := OwnB.kept J6 gg (ne_types J6 N6 (by decide))
    clear gg hsz C6 G6 R6 Q6 J6 N6
    have I7 := OwnI.mono I7 HX.out.2.1
    have Q8 := Q7.set 3 (.slice m1 m3 m2)
    have R8 := R7.setNe (g' := w.heap.size) (j := 3) (y := .slice m1 m3 m2) (by omega)
    have C8 := C7.setHi (G := w.heap.size) (j := 3) (y := .slice m1 m3 m2) (by have := HX.out; omega) (by have := HX.out; omega)
    have G8 := grown_setHi (G := w.heap.size) (j := 3) (y := .slice m1 m3 m2) G7 (Nat.le_refl _)
    have I8 : OwnI _ _ _ _ := row_setE (j := 3) (y := .slice m1 m3 m2) I7 ⟨_, Q7⟩ (by decide)
    have J8 : OwnB _ _ _ _ := row_setE (j := 3) (y := .slice m1 m3 m2) J7 ⟨_, Q7⟩ (by decide)
    obtain ⟨v8, hv8⟩ : ∃ v8, v8 = t7.setCell ⟨w.heap.size, 3, none⟩ (.slice m1 m3 m2) := ⟨_, rfl⟩
    rw [← hv8] at Q8 R8 C8 G8 I8 J8 ⊢
    clear hv8 qc qf C7 G7 R7 Q7 I7 J7
    obtain ⟨q0, q1, q2, q3, q4, q5⟩ := Q8.six
    obtain ⟨y0, y1, y2, y3, y4, y5⟩ := R8.six
    have fy := R8.fro
    have HH : Hid (OwnI v8 base (.slice m1 m3 m2) ([] ++ ws ++ [y]) ∧ OwnB v8 base (.slice a2 l2 c2) bs ∧ Cur w0 a cap zs v8 g ∧ w.grownBy v8 (some g) ∧ Blk v8 (w.heap.size + 1) 27 #[.int .i64 0, .int .i64 0, .int .i64 0, .slice none 0 0, .slice none 0 0, .int .i64 0]) := ⟨I8, J8, C8, G8, R8⟩
    clear C8 G8 R8 Q8 I8 J8
    go_wp2
    refine bodyPost_ret (v := rq (kd) (pl) (nn) (wa) m1 a2 m3 l2 m2 c2) (by simp [results, Try.results47, go_sem, y0, y1, y2, y3, y4, y5]) rfl ?_
    obtain ⟨OI, OB, CE, GE, RE⟩ := HH.out
    have hgR : g ≠ w.heap.size + 1 := by have := HX.out; omega
    have hwR : w0.heap.size ≤ w.heap.size + 1 := by have := HX.out; omega
    have hn1 : m3 ≤ l1 + 1 := by have h := HM3.out; have := HL.out; simp at h; omega
    have hn2 : l2 ≤ l2 + 1 := by omega
    exact ⟨_, _, _, _, _, _, _, _, _, _, ([] ++ ws ++ [y]), bs, rfl, HM3.out, HL.out.2, hn1, hn2, rowp_set6 OI ⟨_, RE⟩ (by decide), rowp_set6 OB ⟨_, RE⟩ (by decide), (((((CE.setHi hgR hwR).setHi hgR hwR).setHi hgR hwR).setHi hgR hwR).setHi hgR hwR).setHi hgR hwR, grown_setHi (grown_setHi (grown_setHi (grown_setHi (grown_setHi (grown_setHi GE (Nat.le_succ _)) (Nat.le_succ _)) (Nat.le_succ _)) (Nat.le_succ _)) (Nat.le_succ _)) (Nat.le_succ _)⟩
  · clear hx
    go_upto_region 11 with fail
    have N2 := newB u1 w.heap.size G1.size
    have b' := bel_alloc u1 (.cells #[] 4)
    have C2 := C1.alloc (.cells #[] 4)
    have G2 := grown_trans G1 (grown_below b' (some g))
    have R2 := R1.below b'
    have Q2 := Q1.below b'
    have I2 := OwnI.below I1 b'
    have J2 := OwnB.below J1 b'
    clear b' C1 G1 R1 Q1 I1 J1
    have q4 := Q2.cell 4 rfl
    have hsz : w.heap.size ≤ (u1.alloc (.cells #[] 4)).heap.size := G2.size
    go_upto_region 14 with (first | (at_builtin; refine wpList_appBO rfl (.tmp 38) (.tmp 40) rfl w.heap.size (.slice (some ⟨u1.heap.size, 0, none⟩) 0 0) [] rfl N2 a2 l2 c2 bs rfl HL.out.2 J2.sl.2 (by have := HL.out; have := HX.out; simp; omega) hsz ?_; intro v' t3 N3 gg; obtain ⟨n1, n2, n3, rfl, hn3⟩ := ownB_shape N3; have HN3 : Hid (n3 = ([] ++ bs).length) := hn3; have G3 := grown_rowG G2 N2 gg; have hsz2 := Nat.le_trans G3.size (bel_alloc t3 (.cells #[.bool true] 4)).size; clear hn3) | (at_builtin; refine wpList_appBO rfl (.tmp 41) (.tmp 42) rfl w.heap.size (.slice n1 n3 n2) ([] ++ bs) rfl (OwnB.below N3 (bel_alloc _ _)) (some ⟨t3.heap.size, 0, none⟩) 1 1 [true] rfl rfl (lit_slB1 _ _ rfl) (by have := HL.out; have := HX.out; simp; omega) hsz2 ?_; intro v' t4 J4 gg2; obtain ⟨m1, m2, m3, rfl, hm3⟩ := ownB_shape J4; have HM3 : Hid (m3 = ([] ++ bs ++ [true]).length) := hm3; have Q' := ((Q2.row N2 gg (by decide)).below (bel_alloc t3 (.cells #[.bool true] 4))).row (OwnB.below N3 (bel_alloc _ _)) gg2 (by decide); have qc := Q'.cell 4 rfl; have qf := Q'.fro 4; clear hm3 Q'))
    have b' := bel_alloc t3 (.cells #[.bool true] 4)
    have N' := OwnB.below N3 b'
    have C4 := ((C2.rowG N2 gg HX.out.2.2.2.1).alloc (.cells #[.bool true] 4)).rowG N' gg2 HX.out.2.2.2.1
    have G4 := grown_rowG (grown_trans G3 (grown_below b' (some g))) N' gg2
    have R4 := ((R2.row N2 gg (by decide)).below b').row N' gg2 (by decide)
    have Q4 := ((Q2.row N2 gg (by decide)).below b').row N' gg2 (by decide)
    have I4' := OwnI.below (OwnI.kept I2 gg (ne_types I2 N2 (by decide))) b'
    have I4 := OwnI.kept I4' gg2 (ne_types I4' N' (by decide))
    clear gg gg2 q4 hsz hsz2 b' N' I4' N3 G3 C2 G2 R2 Q2 I2 J2 N2
    have J4 := OwnB.mono J4 HX.out.2.1
    have Q5 := Q4.set 4 (.slice m1 m3 m2)
    have R5 := R4.setNe (g' := w.heap.size) (j := 4) (y := .slice m1 m3 m2) (by omega)
    have C5 := C4.setHi (G := w.heap.size) (j := 4) (y := .slice m1 m3 m2) (by have := HX.out; omega) (by have := HX.out; omega)
    have G5 := grown_setHi (G := w.heap.size) (j := 4) (y := .slice m1 m3 m2) G4 (Nat.le_refl _)
    have I5 : OwnI _ _ _ _ := row_setE (j := 4) (y := .slice m1 m3 m2) I4 ⟨_, Q4⟩ (by decide)
    have J5 : OwnB _ _ _ _ := row_setE (j := 4) (y := .slice m1 m3 m2) J4 ⟨_, Q4⟩ (by decide)
    obtain ⟨v5, hv5⟩ : ∃ v5, v5 = t4.setCell ⟨w.heap.size, 4, none⟩ (.slice m1 m3 m2) := ⟨_, rfl⟩
    rw [← hv5] at Q5 R5 C5 G5 I5 J5 ⊢
    clear hv5 qc qf C4 G4 R4 Q4 I4 J4
    obtain ⟨q0, q1, q2, q3, q4, q5⟩ := Q5.six
    obtain ⟨y0, y1, y2, y3, y4, y5⟩ := R5.six
    have fy := R5.fro
    have HH : Hid (OwnI v5 base (.slice a1 l1 c1) ws ∧ OwnB v5 base (.slice m1 m3 m2) ([] ++ bs ++ [true]) ∧ Cur w0 a cap zs v5 g ∧ w.grownBy v5 (some g) ∧ Blk v5 (w.heap.size + 1) 27 #[.int .i64 0, .int .i64 0, .int .i64 0, .slice none 0 0, .slice none 0 0, .int .i64 0]) := ⟨I5, J5, C5, G5, R5⟩
    clear C5 G5 R5 Q5 I5 J5
    go_wp2
    refine bodyPost_ret (v := rq (kd) (pl) (nn) (wa) a1 m1 l1 m3 c1 m2) (by simp [results, Try.results47, go_sem, y0, y1, y2, y3, y4, y5]) rfl ?_
    obtain ⟨OI, OB, CE, GE, RE⟩ := HH.out
    have hgR : g ≠ w.heap.size + 1 := by have := HX.out; omega
    have hwR : w0.heap.size ≤ w.heap.size + 1 := by have := HX.out; omega
    have hn1 : l1 ≤ l1 + 1 := by omega
    have hn2 : m3 ≤ l2 + 1 := by have h := HM3.out; have := HL.out; simp at h; omega
    exact ⟨_, _, _, _, _, _, _, _, _, _, ws, ([] ++ bs ++ [true]), rfl, HL.out.1, HM3.out, hn1, hn2, rowp_set6 OI ⟨_, RE⟩ (by decide), rowp_set6 OB ⟨_, RE⟩ (by decide), (((((CE.setHi hgR hwR).setHi hgR hwR).setHi hgR hwR).setHi hgR hwR).setHi hgR hwR).setHi hgR hwR, grown_setHi (grown_setHi (grown_setHi (grown_setHi (grown_setHi (grown_setHi GE (Nat.le_succ _)) (Nat.le_succ _)) (Nat.le_succ _)) (Nat.le_succ _)) (Nat.le_succ _)) (Nat.le_succ _)⟩
  · clear hx
    go_upto_region 13 with fail
    have IL := ints_lit u1 [1, 65535, 65536] 3
    have hne : u1.heap.size ≠ g := by have := C1.hi; omega
    have b' := bel_alloc u1 (.cells ([1, 65535, 65536].map (Value.int .i64)).toArray 3)
    have C2 := C1.alloc (.cells ([1, 65535, 65536].map (Value.int .i64)).toArray 3)
    have G2 := grown_trans G1 (grown_below b' (some g))
    have R2 := R1.below b'
    have Q2 := Q1.below b'
    have I2 := OwnI.below I1 b'
    have J2 := OwnB.below J1 b'
    clear b' C1 G1 R1 Q1 I1 J1
    go_wp2_with fail
    refine (l1Int_any w0 a cap zs _ g ⟨u1.heap.size, 0, none⟩ 3 3 [1, 65535, 65536] rfl (by omega) (by omega) IL hne C2).mono ?_
    rintro e t3 ⟨y, rfl, _, C3, gg⟩
    have G3 := grown_trans G2 gg
    have R3 := R2.grown gg (by have := HX.out; simp; omega)
    have Q3 := Q2.grown gg (by have := HX.out; simp; omega)
    have I3 := OwnI.kept I2 gg (row_ne_g I2 HX.out.1)
    have J3 := OwnB.kept J2 gg (row_ne_g J2 HX.out.1)
    clear gg C2 G2 R2 Q2 I2 J2
    clear IL hne
    have qc := Q3.cell 5 rfl
    have qf := Q3.fro 5
    have Q4 := Q3.set 5 (.int .i64 y)
    have R4 := R3.setNe (g' := w.heap.size) (j := 5) (y := .int .i64 y) (by omega)
    have C4 := C3.setHi (G := w.heap.size) (j := 5) (y := .int .i64 y) (by have := HX.out; omega) (by have := HX.out; omega)
    have G4 := grown_setHi (G := w.heap.size) (j := 5) (y := .int .i64 y) G3 (Nat.le_refl _)
    have I4 : OwnI _ _ _ _ := row_setE (j := 5) (y := .int .i64 y) I3 ⟨_, Q3⟩ (by decide)
    have J4 : OwnB _ _ _ _ := row_setE (j := 5) (y := .int .i64 y) J3 ⟨_, Q3⟩ (by decide)
    go_upto_region 14 with fail
    obtain ⟨v4, hv4⟩ : ∃ v4, v4 = t3.setCell ⟨w.heap.size, 5, none⟩ (.int .i64 y) := ⟨_, rfl⟩
    rw [← hv4] at Q4 R4 C4 G4 I4 J4 ⊢
    clear hv4 qc qf C3 G3 R3 Q3 I3 J3
    obtain ⟨q0, q1, q2, q3, q4, q5⟩ := Q4.six
    obtain ⟨y0, y1, y2, y3, y4, y5⟩ := R4.six
    have fy := R4.fro
    have HH : Hid (OwnI v4 base (.slice a1 l1 c1) ws ∧ OwnB v4 base (.slice a2 l2 c2) bs ∧ Cur w0 a cap zs v4 g ∧ w.grownBy v4 (some g) ∧ Blk v4 (w.heap.size + 1) 27 #[.int .i64 0, .int .i64 0, .int .i64 0, .slice none 0 0, .slice none 0 0, .int .i64 0]) := ⟨I4, J4, C4, G4, R4⟩
    clear C4 G4 R4 Q4 I4 J4
    go_wp2
    refine bodyPost_ret (v := rq (kd) (pl) (nn) (y) a1 a2 l1 l2 c1 c2) (by simp [results, Try.results47, go_sem, y0, y1, y2, y3, y4, y5]) rfl ?_
    obtain ⟨OI, OB, CE, GE, RE⟩ := HH.out
    have hgR : g ≠ w.heap.size + 1 := by have := HX.out; omega
    have hwR : w0.heap.size ≤ w.heap.size + 1 := by have := HX.out; omega
    have hn1 : l1 ≤ l1 + 1 := by omega
    have hn2 : l2 ≤ l2 + 1 := by omega
    exact ⟨_, _, _, _, _, _, _, _, _, _, ws, bs, rfl, HL.out.1, HL.out.2, hn1, hn2, rowp_set6 OI ⟨_, RE⟩ (by decide), rowp_set6 OB ⟨_, RE⟩ (by decide), (((((CE.setHi hgR hwR).setHi hgR hwR).setHi hgR hwR).setHi hgR hwR).setHi hgR hwR).setHi hgR hwR, grown_setHi (grown_setHi (grown_setHi (grown_setHi (grown_setHi (grown_setHi GE (Nat.le_succ _)) (Nat.le_succ _)) (Nat.le_succ _)) (Nat.le_succ _)) (Nat.le_succ _)) (Nat.le_succ _)⟩
  · clear hx
    obtain ⟨q0, q1, q2, q3, q4, q5⟩ := Q1.six
    obtain ⟨y0, y1, y2, y3, y4, y5⟩ := R1.six
    have fy := R1.fro
    have HH : Hid (OwnI u1 base (.slice a1 l1 c1) ws ∧ OwnB u1 base (.slice a2 l2 c2) bs ∧ Cur w0 a cap zs u1 g ∧ w.grownBy u1 (some g) ∧ Blk u1 (w.heap.size + 1) 27 #[.int .i64 0, .int .i64 0, .int .i64 0, .slice none 0 0, .slice none 0 0, .int .i64 0]) := ⟨I1, J1, C1, G1, R1⟩
    clear C1 G1 R1 Q1 I1 J1
    go_wp2
    refine bodyPost_ret (v := rq (kd) (pl) (nn) (wa) a1 a2 l1 l2 c1 c2) (by simp [results, Try.results47, go_sem, y0, y1, y2, y3, y4, y5]) rfl ?_
    obtain ⟨OI, OB, CE, GE, RE⟩ := HH.out
    have hgR : g ≠ w.heap.size + 1 := by have := HX.out; omega
    have hwR : w0.heap.size ≤ w.heap.size + 1 := by have := HX.out; omega
    have hn1 : l1 ≤ l1 + 1 := by omega
    have hn2 : l2 ≤ l2 + 1 := by omega
    exact ⟨_, _, _, _, _, _, _, _, _, _, ws, bs, rfl, HL.out.1, HL.out.2, hn1, hn2, rowp_set6 OI ⟨_, RE⟩ (by decide), rowp_set6 OB ⟨_, RE⟩ (by decide), (((((CE.setHi hgR hwR).setHi hgR hwR).setHi hgR hwR).setHi hgR hwR).setHi hgR hwR).setHi hgR hwR, grown_setHi (grown_setHi (grown_setHi (grown_setHi (grown_setHi (grown_setHi GE (Nat.le_succ _)) (Nat.le_succ _)) (Nat.le_succ _)) (Nat.le_succ _)) (Nat.le_succ _)) (Nat.le_succ _)⟩

end Go.Proofs.Ytfcbkollmhjdoaa

namespace Go.Proofs.Ytfcbkollmhjdoaa
open Go.RowKit

set_option linter.unusedVariables false

set_option linter.unusedSimpArgs false

theorem OwnD.setCoilD {w : World} {B k : Nat} {a1 a2 a3 a4 : Option Addr} {l1 l2 l3 l4 c1 c2 c3 c4 : Nat} {cs is : List Bool} {hs rs : List Int} (h : OwnD w B a1 a2 a3 a4 l1 l2 l3 l4 c1 c2 c3 c4 cs is hs rs) (hk : k < l1) :
    ∃ b, a1 = some ⟨b, 0, none⟩ ∧ B ≤ b ∧ b < w.heap.size ∧ w.cell? ⟨b, k, none⟩ = some (.bool (cs.getD k false)) ∧ w.frozen? ⟨b, k, none⟩ = false ∧
      ∀ x, OwnD (w.setCell ⟨b, k, none⟩ (.bool x)) B a1 a2 a3 a4 l1 l2 l3 l4 c1 c2 c3 c4 (cs.set k x) is hs rs := by
  obtain ⟨h1, h2, h3, h4, d12, d34⟩ := h
  obtain ⟨b, rfl, hB, hlt, hc, hf, hset⟩ := h1.place hk
  refine ⟨b, rfl, hB, hlt, hc, hf, fun x => ?_⟩
  have gr := grown_setj w b k (.bool x)
  have ob : (Value.slice (some ⟨b, 0, none⟩) l1 c1).ownBlock = some b := rfl
  exact ⟨hset x, World.ownsRow.kept h2 gr (ob ▸ d12.symm.ne), World.ownsRow.kept h3 gr (ob ▸ ne_types h3 h1 (by decide)), World.ownsRow.kept h4 gr (ob ▸ ne_types h4 h1 (by decide)), d12, d34⟩

theorem OwnD.setInput {w : World} {B k : Nat} {a1 a2 a3 a4 : Option Addr} {l1 l2 l3 l4 c1 c2 c3 c4 : Nat} {cs is : List Bool} {hs rs : List Int} (h : OwnD w B a1 a2 a3 a4 l1 l2 l3 l4 c1 c2 c3 c4 cs is hs rs) (hk : k < l2) :
    ∃ b, a2 = some ⟨b, 0, none⟩ ∧ B ≤ b ∧ b < w.heap.size ∧ w.cell? ⟨b, k, none⟩ = some (.bool (is.getD k false)) ∧ w.frozen? ⟨b, k, none⟩ = false ∧
      ∀ x, OwnD (w.setCell ⟨b, k, none⟩ (.bool x)) B a1 a2 a3 a4 l1 l2 l3 l4 c1 c2 c3 c4 cs (is.set k x) hs rs := by
  obtain ⟨h1, h2, h3, h4, d12, d34⟩ := h
  obtain ⟨b, rfl, hB, hlt, hc, hf, hset⟩ := h2.place hk
  refine ⟨b, rfl, hB, hlt, hc, hf, fun x => ?_⟩
  have gr := grown_setj w b k (.bool x)
  have ob : (Value.slice (some ⟨b, 0, none⟩) l2 c2).ownBlock = some b := rfl
  exact ⟨World.ownsRow.kept h1 gr (ob ▸ d12.ne), hset x, World.ownsRow.kept h3 gr (ob ▸ ne_types h3 h2 (by decide)), World.ownsRow.kept h4 gr (ob ▸ ne_types h4 h2 (by decide)), d12, d34⟩

theorem OwnD.setHold {w : World} {B k : Nat} {a1 a2 a3 a4 : Option Addr} {l1 l2 l3 l4 c1 c2 c3 c4 : Nat} {cs is : List Bool} {hs rs : List Int} (h : OwnD w B a1 a2 a3 a4 l1 l2 l3 l4 c1 c2 c3 c4 cs is hs rs) (hk : k < l3) :
    ∃ b, a3 = some ⟨b, 0, none⟩ ∧ B ≤ b ∧ b < w.heap.size ∧ w.cell? ⟨b, k, none⟩ = some (.int .i64 (hs.getD k 0)) ∧ w.frozen? ⟨b, k, none⟩ = false ∧
      ∀ x, OwnD (w.setCell ⟨b, k, none⟩ (.int .i64 x)) B a1 a2 a3 a4 l1 l2 l3 l4 c1 c2 c3 c4 cs is (hs.set k x) rs := by
  obtain ⟨b, e, hB, hlt, hc, hf, hset⟩ := h.setWord hk
  exact ⟨b, e, hB, hlt, hc, hf, fun x => (hset x).1⟩

theorem OwnD.setReg {w : World} {B k : Nat} {a1 a2 a3 a4 : Option Addr} {l1 l2 l3 l4 c1 c2 c3 c4 : Nat} {cs is : List Bool} {hs rs : List Int} (h : OwnD w B a1 a2 a3 a4 l1 l2 l3 l4 c1 c2 c3 c4 cs is hs rs) (hk : k < l4) :
    ∃ b, a4 = some ⟨b, 0, none⟩ ∧ B ≤ b ∧ b < w.heap.size ∧ w.cell? ⟨b, k, none⟩ = some (.int .i64 (rs.getD k 0)) ∧ w.frozen? ⟨b, k, none⟩ = false ∧
      ∀ x, OwnD (w.setCell ⟨b, k, none⟩ (.int .i64 x)) B a1 a2 a3 a4 l1 l2 l3 l4 c1 c2 c3 c4 cs is hs (rs.set k x) := by
  obtain ⟨h1, h2, h3, h4, d12, d34⟩ := h
  obtain ⟨b, rfl, hB, hlt, hc, hf, hset⟩ := h4.place hk
  refine ⟨b, rfl, hB, hlt, hc, hf, fun x => ?_⟩
  have gr := grown_setj w b k (.int .i64 x)
  have ob : (Value.slice (some ⟨b, 0, none⟩) l4 c4).ownBlock = some b := rfl
  exact ⟨World.ownsRow.kept h1 gr (ob ▸ ne_types h1 h4 (by decide)), World.ownsRow.kept h2 gr (ob ▸ ne_types h2 h4 (by decide)), World.ownsRow.kept h3 gr (ob ▸ d34.ne), hset x, d12, d34⟩

theorem OwnD.keptG {w u : World} {B g : Nat} {a1 a2 a3 a4 : Option Addr} {l1 l2 l3 l4 c1 c2 c3 c4 : Nat} {cs is : List Bool} {hs rs : List Int} (h : OwnD w B a1 a2 a3 a4 l1 l2 l3 l4 c1 c2 c3 c4 cs is hs rs) (gr : w.grownBy u (some g)) (hg : g < B) :
    OwnD u B a1 a2 a3 a4 l1 l2 l3 l4 c1 c2 c3 c4 cs is hs rs :=
  ⟨World.ownsRow.kept h.1 gr (row_ne_g h.1 hg), World.ownsRow.kept h.2.1 gr (row_ne_g h.2.1 hg), World.ownsRow.kept h.2.2.1 gr (row_ne_g h.2.2.1 hg), World.ownsRow.kept h.2.2.2.1 gr (row_ne_g h.2.2.2.1 hg), h.2.2.2.2⟩

/-- What drawing a device ends with. -/
def DrawnD (w0 : World) (a : Option Addr) (cap : Nat) (zs : List Int) (w : World) (g : Nat) (e : Ending) (w' : World) : Prop :=
  ∃ (a1 a2 a3 a4 : Option Addr) (m c1 c2 c3 c4 : Nat) (cs is : List Bool) (hs rs : List Int), e = .returned (dv a1 a2 a3 a4 m m m m c1 c2 c3 c4) ∧ m ≤ 64 ∧ OwnD w' w.heap.size a1 a2 a3 a4 m m m m c1 c2 c3 c4 cs is hs rs ∧ (∀ x ∈ hs, 0 ≤ x ∧ x ≤ 65535) ∧ (∀ x ∈ rs, 0 ≤ x ∧ x ≤ 65535) ∧ Cur w0 a cap zs w' g ∧ w.grownBy w' (some g)

/-- A device that is being drawn. -/
structure LD (w0 : World) (a : Option Addr) (cap : Nat) (zs : List Int) (w : World) (g : Nat) (a1 a2 a3 a4 : Option Addr) (m c1 c2 c3 c4 V : Nat) (u : World) (cs is : List Bool) (hs rs : List Int) : Prop where
  own : OwnD u w.heap.size a1 a2 a3 a4 m m m m c1 c2 c3 c4 cs is hs rs
  hr : ∀ x ∈ hs, 0 ≤ x ∧ x ≤ 65535
  rr : ∀ x ∈ rs, 0 ≤ x ∧ x ≤ 65535
  cur : Cur w0 a cap zs u g
  gr : w.grownBy u (some g)
  blk : Blk u V 36 #[.slice a1 m c1, .slice a2 m c2, .slice a3 m c3, .slice a4 m c4]
  res : Blk u w.heap.size 36 #[.slice none 0 0, .slice none 0 0, .slice none 0 0, .slice none 0 0]
  bd : g < w.heap.size ∧ w0.heap.size ≤ g ∧ w.heap.size < V

theorem LD.drew {w0 : World} {a : Option Addr} {cap : Nat} {zs : List Int} {w : World} {g : Nat} {a1 a2 a3 a4 : Option Addr} {m c1 c2 c3 c4 V : Nat} {u : World} {cs is : List Bool} {hs rs : List Int} (h : LD w0 a cap zs w g a1 a2 a3 a4 m c1 c2 c3 c4 V u cs is hs rs) : LD w0 a cap zs w g a1 a2 a3 a4 m c1 c2 c3 c4 V u.drew cs is hs rs :=
  ⟨h.own.drew, h.hr, h.rr, h.cur.drewN 1, ⟨h.gr.os, h.gr.tape, h.gr.output, h.gr.size, h.gr.block⟩, h.blk.drew, h.res.drew, h.bd⟩

theorem LD.call {w0 : World} {a : Option Addr} {cap : Nat} {zs : List Int} {w : World} {g : Nat} {a1 a2 a3 a4 : Option Addr} {m c1 c2 c3 c4 V : Nat} {u t : World} {cs is : List Bool} {hs rs : List Int} (h : LD w0 a cap zs w g a1 a2 a3 a4 m c1 c2 c3 c4 V u cs is hs rs) (hC : Cur w0 a cap zs t g) (hg : u.grownBy t (some g)) : LD w0 a cap zs w g a1 a2 a3 a4 m c1 c2 c3 c4 V t cs is hs rs :=
  ⟨h.own.keptG hg h.bd.1, h.hr, h.rr, hC, grown_trans h.gr hg, h.blk.grown hg (by have := h.bd; simp; omega), h.res.grown hg (by have := h.bd; simp; omega), h.bd⟩

theorem mem_set {l : List Int} {k : Nat} {x : Int} (h : ∀ y ∈ l, 0 ≤ y ∧ y ≤ 65535) (hx : 0 ≤ x ∧ x ≤ 65535) : ∀ y ∈ l.set k x, 0 ≤ y ∧ y ≤ 65535 := by
  intro y hy
  rcases List.mem_or_eq_of_mem_set hy with h1 | h1
  · exact h y h1
  · exact h1 ▸ hx

theorem LD.coil {w0 : World} {a : Option Addr} {cap : Nat} {zs : List Int} {w : World} {g : Nat} {a1 a2 a3 a4 : Option Addr} {m c1 c2 c3 c4 V : Nat} {u : World} {cs is : List Bool} {hs rs : List Int} {k : Nat} (h : LD w0 a cap zs w g a1 a2 a3 a4 m c1 c2 c3 c4 V u cs is hs rs) (hk : k < m) :
    ∃ b, a1 = some ⟨b, 0, none⟩ ∧ u.cell? ⟨b, k, none⟩ = some (.bool (cs.getD k false)) ∧ u.frozen? ⟨b, k, none⟩ = false ∧ ∀ x, LD w0 a cap zs w g a1 a2 a3 a4 m c1 c2 c3 c4 V (u.setCell ⟨b, k, none⟩ (.bool x)) (cs.set k x) is hs rs := by
  obtain ⟨b, e, hB, hlt, hc, hf, hset⟩ := h.own.setCoilD hk
  refine ⟨b, e, hc, hf, fun x => ⟨hset x, h.hr, h.rr, h.cur.setHi (by have := h.bd; omega) (by have := h.bd; omega), grown_setHi h.gr hB, h.blk.setNe ?_, h.res.setNe ?_, h.bd⟩⟩
  · intro e2
    subst e2
    exact h.own.noBlk h.blk (by decide) (by decide) (.inl (by rw [e]; rfl))
  · intro e2
    subst e2
    exact h.own.noBlk h.res (by decide) (by decide) (.inl (by rw [e]; rfl))

theorem LD.input {w0 : World} {a : Option Addr} {cap : Nat} {zs : List Int} {w : World} {g : Nat} {a1 a2 a3 a4 : Option Addr} {m c1 c2 c3 c4 V : Nat} {u : World} {cs is : List Bool} {hs rs : List Int} {k : Nat} (h : LD w0 a cap zs w g a1 a2 a3 a4 m c1 c2 c3 c4 V u cs is hs rs) (hk : k < m) :
    ∃ b, a2 = some ⟨b, 0, none⟩ ∧ u.cell? ⟨b, k, none⟩ = some (.bool (is.getD k false)) ∧ u.frozen? ⟨b, k, none⟩ = false ∧ ∀ x, LD w0 a cap zs w g a1 a2 a3 a4 m c1 c2 c3 c4 V (u.setCell ⟨b, k, none⟩ (.bool x)) cs (is.set k x) hs rs := by
  obtain ⟨b, e, hB, hlt, hc, hf, hset⟩ := h.own.setInput hk
  refine ⟨b, e, hc, hf, fun x => ⟨hset x, h.hr, h.rr, h.cur.setHi (by have := h.bd; omega) (by have := h.bd; omega), grown_setHi h.gr hB, h.blk.setNe ?_, h.res.setNe ?_, h.bd⟩⟩
  · intro e2
    subst e2
    exact h.own.noBlk h.blk (by decide) (by decide) (.inr (.inl (by rw [e]; rfl)))
  · intro e2
    subst e2
    exact h.own.noBlk h.res (by decide) (by decide) (.inr (.inl (by rw [e]; rfl)))

theorem LD.hold {w0 : World} {a : Option Addr} {cap : Nat} {zs : List Int} {w : World} {g : Nat} {a1 a2 a3 a4 : Option Addr} {m c1 c2 c3 c4 V : Nat} {u : World} {cs is : List Bool} {hs rs : List Int} {k : Nat} (h : LD w0 a cap zs w g a1 a2 a3 a4 m c1 c2 c3 c4 V u cs is hs rs) (hk : k < m) :
    ∃ b, a3 = some ⟨b, 0, none⟩ ∧ u.cell? ⟨b, k, none⟩ = some (.int .i64 (hs.getD k 0)) ∧ u.frozen? ⟨b, k, none⟩ = false ∧ ∀ x, 0 ≤ x ∧ x ≤ 65535 → LD w0 a cap zs w g a1 a2 a3 a4 m c1 c2 c3 c4 V (u.setCell ⟨b, k, none⟩ (.int .i64 x)) cs is (hs.set k x) rs := by
  obtain ⟨b, e, hB, hlt, hc, hf, hset⟩ := h.own.setHold hk
  refine ⟨b, e, hc, hf, fun x hx => ⟨hset x, mem_set h.hr hx, h.rr, h.cur.setHi (by have := h.bd; omega) (by have := h.bd; omega), grown_setHi h.gr hB, h.blk.setNe ?_, h.res.setNe ?_, h.bd⟩⟩
  · intro e2
    subst e2
    exact h.own.noBlk h.blk (by decide) (by decide) (.inr (.inr (.inl (by rw [e]; rfl))))
  · intro e2
    subst e2
    exact h.own.noBlk h.res (by decide) (by decide) (.inr (.inr (.inl (by rw [e]; rfl))))

theorem LD.reg {w0 : World} {a : Option Addr} {cap : Nat} {zs : List Int} {w : World} {g : Nat} {a1 a2 a3 a4 : Option Addr} {m c1 c2 c3 c4 V : Nat} {u : World} {cs is : List Bool} {hs rs : List Int} {k : Nat} (h : LD w0 a cap zs w g a1 a2 a3 a4 m c1 c2 c3 c4 V u cs is hs rs) (hk : k < m) :
    ∃ b, a4 = some ⟨b, 0, none⟩ ∧ u.cell? ⟨b, k, none⟩ = some (.int .i64 (rs.getD k 0)) ∧ u.frozen? ⟨b, k, none⟩ = false ∧ ∀ x, 0 ≤ x ∧ x ≤ 65535 → LD w0 a cap zs w g a1 a2 a3 a4 m c1 c2 c3 c4 V (u.setCell ⟨b, k, none⟩ (.int .i64 x)) cs is hs (rs.set k x) := by
  obtain ⟨b, e, hB, hlt, hc, hf, hset⟩ := h.own.setReg hk
  refine ⟨b, e, hc, hf, fun x hx => ⟨hset x, h.hr, mem_set h.rr hx, h.cur.setHi (by have := h.bd; omega) (by have := h.bd; omega), grown_setHi h.gr hB, h.blk.setNe ?_, h.res.setNe ?_, h.bd⟩⟩
  · intro e2
    subst e2
    exact h.own.noBlk h.blk (by decide) (by decide) (.inr (.inr (.inr (by rw [e]; rfl))))
  · intro e2
    subst e2
    exact h.own.noBlk h.res (by decide) (by decide) (.inr (.inr (.inr (by rw [e]; rfl))))

set_option maxRecDepth 20000 in
set_option maxHeartbeats 1000000 in
theorem l5Draw_any (w0 : World) (a : Option Addr) (cap : Nat) (zs : List Int) (w : World) (g : Nat) (hC : Cur w0 a cap zs w g) :
    Calls Try.prog 73 #[.pointer (some ⟨g, 0, none⟩)] w fun e w' => DrawnD w0 a cap zs w g e w' := by
  obtain ⟨W0, hW0⟩ : ∃ W0, W0 = w.alloc (.cells #[.slice none 0 0, .slice none 0 0, .slice none 0 0, .slice none 0 0] 36) := ⟨_, rfl⟩
  have HW : Hid (W0 = _) := hW0
  have hg := hC.hi
  have hlo := hC.lo
  have C0 : Cur w0 a cap zs W0 g := by rw [hW0]; exact hC.alloc _
  have G0 : w.grownBy W0 (some g) := by rw [hW0]; exact World.grownBy_alloc _ _ _
  have R0 : Blk W0 w.heap.size 36 #[.slice none 0 0, .slice none 0 0, .slice none 0 0, .slice none 0 0] := by rw [hW0]; exact Blk.new _ _ _
  have I1 := ints_lit W0 [20, 20, 12, 40, 5, 64] 3
  have C1 := C0.alloc (.cells ([20, 20, 12, 40, 5, 64].map (Value.int .i64)).toArray 3)
  have G1 : w.grownBy (W0.alloc (.cells ([20, 20, 12, 40, 5, 64].map (Value.int .i64)).toArray 3)) (some g) := grown_trans G0 (World.grownBy_alloc _ _ _)
  have R1 := R0.below (bel_alloc W0 (.cells ([20, 20, 12, 40, 5, 64].map (Value.int .i64)).toArray 3))
  have hne1 : W0.heap.size ≠ g := by have := C0.hi; omega
  have HGR : Hid (g < w.heap.size ∧ w0.heap.size ≤ g) := ⟨hg, hlo⟩
  clear hC hW0 C0 G0 R0 hlo
  go_enter Try.func73, Try.ntmps73
  go_upto_region 1 with fail
  rw [← HW.out]
  go_wp2_with fail
  refine (l1Int_any w0 a cap zs _ g ⟨W0.heap.size, 0, none⟩ 6 6 [20, 20, 12, 40, 5, 64] rfl (by omega) (by omega) I1 hne1 C1).mono ?_
  rintro e u1 ⟨n, rfl, hn, C2, g2⟩
  have G2 := grown_trans G1 g2
  have R2 := R1.grown g2 (by simp; omega)
  have hnn : 0 ≤ n ∧ n ≤ 64 := by simp at hn; omega
  obtain ⟨m, rfl⟩ : ∃ m : Nat, n = (m : Int) := ⟨n.toNat, by omega⟩
  have hm : m ≤ 64 := by omega
  have HDN : Hid (dnN (m : Int) = m) := by unfold dnN; show (if _ then _ else _) = m; rw [if_pos ⟨by omega, by omega⟩]; simp
  clear I1 C1 G1 R1 g2 hne1 hn hnn
  go_wp2_with fail
  refine (specNew_any (m : Int) m HDN.out _).mono ?_
  rintro e u2 ⟨a1, a2, a3, a4, l1, l2, l3, l4, c1, c2, c3, c4, rfl, D3, b'⟩
  obtain rfl : l1 = m := by have := D3.sl.1.1; simpa using this
  obtain rfl : l2 = l1 := by have := D3.sl.1.2.1; simpa using this
  obtain rfl : l3 = l2 := by have := D3.sl.1.2.2.1; simpa using this
  obtain rfl : l4 = l3 := by have := D3.sl.1.2.2.2; simpa using this
  generalize hl : l4 = m at *
  have D3 := D3.mono G2.size
  have C3 := C2.grown (grown_below b' none) (by simp) (by simp)
  have G3 := grown_trans G2 (grown_below b' (some g))
  have R3 := R2.below b'
  clear C2 G2 R2 b'
  have BD : Below u2.heap.size u2 (u2.alloc (.cells #[.slice a1 m c1, .slice a2 m c2, .slice a3 m c3, .slice a4 m c4] 36)) := bel_alloc _ _
  have X4 := Blk.new u2 #[.slice a1 m c1, .slice a2 m c2, .slice a3 m c3, .slice a4 m c4] 36
  obtain ⟨V, hV⟩ : ∃ V, V = u2.heap.size := ⟨_, rfl⟩
  have hVw : w.heap.size < V := by have := R3.lt; omega
  have L4 : LD w0 a cap zs w g a1 a2 a3 a4 m c1 c2 c3 c4 V (u2.alloc (.cells #[.slice a1 m c1, .slice a2 m c2, .slice a3 m c3, .slice a4 m c4] 36)) (List.replicate m false) (List.replicate m false) (List.replicate m 0) (List.replicate m 0) :=
    ⟨D3.below BD, fun x hx => by rw [List.eq_of_mem_replicate hx]; omega, fun x hx => by rw [List.eq_of_mem_replicate hx]; omega, C3.alloc _, grown_trans G3 (grown_below BD (some g)), by rw [hV]; exact X4, R3.below BD, ⟨HGR.out.1, HGR.out.2, hVw⟩⟩
  have HV : Hid (V = u2.heap.size) := hV
  clear C3 G3 R3 D3 BD hV X4
  go_upto_region 3 with fail
  simp only [← HV.out]
  go_loopw [4] (fun i wr => ∃ (k : Nat) (cs is : List Bool) (hs rs : List Int), k ≤ m ∧ i = .int .i64 k ∧ LD w0 a cap zs w g a1 a2 a3 a4 m c1 c2 c3 c4 V wr cs is hs rs) (fun i _ => m - (intOf i).toNat)
  case atStart => exact ⟨0, _, _, _, _, Nat.zero_le _, rfl, L4⟩
  case round =>
    obtain ⟨k, cs, is, hs, rs, hk, rfl, L5⟩ := hrel
    clear L4
    by_cases hlt : k < m
    · skip
      have hi' : (k : Int) < (m : Int) := by omega
      have HL : Hid (k < m) := hlt
      obtain ⟨b1, e1, _⟩ := L5.coil hlt
      obtain ⟨b2, e2, _⟩ := L5.input hlt
      obtain ⟨b3, e3, _⟩ := L5.hold hlt
      obtain ⟨b4, e4, _⟩ := L5.reg hlt
      subst e1 e2 e3 e4
      obtain ⟨x0, x1, x2, x3⟩ := L5.blk.four
      go_upto_region 5 with fail
      go_cut [] from 9 to 39 (fun wx => ∃ (cs is : List Bool) (hs rs : List Int), LD w0 a cap zs w g (some ⟨b1, 0, none⟩) (some ⟨b2, 0, none⟩) (some ⟨b3, 0, none⟩) (some ⟨b4, 0, none⟩) m c1 c2 c3 c4 V wx cs is hs rs)
      case first =>
        go_region_with (go_at_call 65; refine (l1Once_any w0 a cap zs _ g 2 (by decide) (by first | exact L5.cur | exact L5.cur.drewN 1 | exact L5.cur.drewN 2)).mono ?_; rintro e t ⟨x, rfl, C', g'⟩; have L6 := LD.call (by first | exact L5 | exact L5.drew | exact L5.drew.drew) C' g'; clear L5 C' g'; obtain ⟨b', eb, hc, hf, hset⟩ := L6.coil HL.out; (obtain rfl : b' = b1 := by simpa using eb.symm); clear eb; have HS : Hid _ := hset x; clear hset x0 x1 x2 x3; obtain ⟨x0, x1, x2, x3⟩ := L6.blk.four)
        all_goals (
          go_wp2_with fail
          go_meet
          case rel => exact ⟨_, _, _, _, by first | exact HS.out | exact HS.out.drew⟩)
      case rest =>
      obtain ⟨cs, is, hs, rs, L5⟩ := hcut
      obtain ⟨x0, x1, x2, x3⟩ := L5.blk.four
      go_upto_region 6 with fail
      go_cut [] from 9 to 39 (fun wx => ∃ (cs is : List Bool) (hs rs : List Int), LD w0 a cap zs w g (some ⟨b1, 0, none⟩) (some ⟨b2, 0, none⟩) (some ⟨b3, 0, none⟩) (some ⟨b4, 0, none⟩) m c1 c2 c3 c4 V wx cs is hs rs)
      case first =>
        go_region_with (go_at_call 65; refine (l1Once_any w0 a cap zs _ g 2 (by decide) (by first | exact L5.cur | exact L5.cur.drewN 1 | exact L5.cur.drewN 2)).mono ?_; rintro e t ⟨x, rfl, C', g'⟩; have L6 := LD.call (by first | exact L5 | exact L5.drew | exact L5.drew.drew) C' g'; clear L5 C' g'; obtain ⟨b', eb, hc, hf, hset⟩ := L6.input HL.out; (obtain rfl : b' = b2 := by simpa using eb.symm); clear eb; have HS : Hid _ := hset x; clear hset x0 x1 x2 x3; obtain ⟨x0, x1, x2, x3⟩ := L6.blk.four)
        all_goals (
          go_wp2_with fail
          go_meet
          case rel => exact ⟨_, _, _, _, by first | exact HS.out | exact HS.out.drew⟩)
      case rest =>
      obtain ⟨cs, is, hs, rs, L5⟩ := hcut
      obtain ⟨x0, x1, x2, x3⟩ := L5.blk.four
      go_upto_region 7 with fail
      go_cut [] from 9 to 39 (fun wx => ∃ (cs is : List Bool) (hs rs : List Int), LD w0 a cap zs w g (some ⟨b1, 0, none⟩) (some ⟨b2, 0, none⟩) (some ⟨b3, 0, none⟩) (some ⟨b4, 0, none⟩) m c1 c2 c3 c4 V wx cs is hs rs)
      case first =>
        go_region_with (go_at_call 45; refine (l1Below_any w0 a cap zs _ g 65536 (by decide) (by first | exact L5.cur | exact L5.cur.drewN 1 | exact L5.cur.drewN 2)).mono ?_; rintro e t ⟨x, rfl, hx', C', g'⟩; have L6 := LD.call (by first | exact L5 | exact L5.drew | exact L5.drew.drew) C' g'; clear L5 C' g'; obtain ⟨b', eb, hc, hf, hset⟩ := L6.hold HL.out; (obtain rfl : b' = b3 := by simpa using eb.symm); clear eb; have HS : Hid _ := hset x (by omega); clear hset x0 x1 x2 x3; obtain ⟨x0, x1, x2, x3⟩ := L6.blk.four)
        all_goals (
          go_wp2_with fail
          go_meet
          case rel => exact ⟨_, _, _, _, by first | exact HS.out | exact HS.out.drew⟩)
      case rest =>
      obtain ⟨cs, is, hs, rs, L5⟩ := hcut
      obtain ⟨x0, x1, x2, x3⟩ := L5.blk.four
      go_upto_region 8 with fail
      go_region_with (go_at_call 45; refine (l1Below_any w0 a cap zs _ g 65536 (by decide) (by first | exact L5.cur | exact L5.cur.drewN 1 | exact L5.cur.drewN 2)).mono ?_; rintro e t ⟨x, rfl, hx', C', g'⟩; have L6 := LD.call (by first | exact L5 | exact L5.drew | exact L5.drew.drew) C' g'; clear L5 C' g'; obtain ⟨b', eb, hc, hf, hset⟩ := L6.reg HL.out; (obtain rfl : b' = b4 := by simpa using eb.symm); clear eb; have HS : Hid _ := hset x (by omega); clear hset x0 x1 x2 x3; obtain ⟨x0, x1, x2, x3⟩ := L6.blk.four)
      all_goals (
        go_wp2
        go_roundw
        case rel => exact ⟨k + 1, _, _, _, _, by omega, by go_num, by first | exact HS.out | exact HS.out.drew⟩
        case measure => simp [intOf]; omega)
    · obtain rfl : k = m := by omega
      obtain ⟨x0, x1, x2, x3⟩ := L5.blk.four
      obtain ⟨y0, y1, y2, y3⟩ := L5.res.four
      have fy := L5.res.fro
      have HH : Hid (LD w0 a cap zs w g a1 a2 a3 a4 k c1 c2 c3 c4 V wr cs is hs rs) := L5
      clear L5
      go_wp2
      refine bodyPost_ret (v := dv a1 a2 a3 a4 k k k k c1 c2 c3 c4) (by simp [results, Try.results73, go_sem, y0, y1, y2, y3]) rfl ?_
      have L := HH.out
      have hgR : g ≠ w.heap.size := by have := L.bd; omega
      have hwR : w0.heap.size ≤ w.heap.size := by have := L.bd; omega
      exact ⟨_, _, _, _, _, _, _, _, _, _, _, _, _, rfl, by omega, L.own.set4 ⟨_, L.res⟩ (by decide) (by decide), L.hr, L.rr, (((L.cur.setHi hgR hwR).setHi hgR hwR).setHi hgR hwR).setHi hgR hwR, grown_setHi (grown_setHi (grown_setHi (grown_setHi L.gr (Nat.le_refl _)) (Nat.le_refl _)) (Nat.le_refl _)) (Nat.le_refl _)⟩

end Go.Proofs.Ytfcbkollmhjdoaa

namespace Go.Proofs.Ytfcbkollmhjdoaa
open Go.RowKit

set_option linter.unusedVariables false

set_option linter.unusedSimpArgs false

/-- Four rows of the call's own. -/
structure RowD (u : World) (B : Nat) (a1 a2 a3 a4 : Option Addr) (l1 l2 l3 l4 c1 c2 c3 c4 : Nat) (cs is : List Bool) (hs rs : List Int) : Prop where
  r1 : OwnB u B (.slice a1 l1 c1) cs
  r2 : OwnB u B (.slice a2 l2 c2) is
  r3 : OwnI u B (.slice a3 l3 c3) hs
  r4 : OwnI u B (.slice a4 l4 c4) rs

theorem OwnD.row {u : World} {B : Nat} {a1 a2 a3 a4 : Option Addr} {l1 l2 l3 l4 c1 c2 c3 c4 : Nat} {cs is : List Bool} {hs rs : List Int} (h : OwnD u B a1 a2 a3 a4 l1 l2 l3 l4 c1 c2 c3 c4 cs is hs rs) : RowD u B a1 a2 a3 a4 l1 l2 l3 l4 c1 c2 c3 c4 cs is hs rs := ⟨h.1, h.2.1, h.2.2.1, h.2.2.2.1⟩

theorem RowD.sl {u : World} {B : Nat} {a1 a2 a3 a4 : Option Addr} {l1 l2 l3 l4 c1 c2 c3 c4 : Nat} {cs is : List Bool} {hs rs : List Int} (h : RowD u B a1 a2 a3 a4 l1 l2 l3 l4 c1 c2 c3 c4 cs is hs rs) : LnD l1 l2 l3 l4 cs is hs rs ∧ SlD u a1 a2 a3 a4 cs is hs rs :=
  ⟨⟨h.r1.sl.1, h.r2.sl.1, h.r3.sl.1, h.r4.sl.1⟩, h.r1.sl.2, h.r2.sl.2, h.r3.sl.2, h.r4.sl.2⟩

theorem RowD.below {u t : World} {B : Nat} {a1 a2 a3 a4 : Option Addr} {l1 l2 l3 l4 c1 c2 c3 c4 : Nat} {cs is : List Bool} {hs rs : List Int} (h : RowD u B a1 a2 a3 a4 l1 l2 l3 l4 c1 c2 c3 c4 cs is hs rs) (b : Below u.heap.size u t) : RowD t B a1 a2 a3 a4 l1 l2 l3 l4 c1 c2 c3 c4 cs is hs rs :=
  ⟨h.r1.below b, h.r2.below b, h.r3.below b, h.r4.below b⟩

theorem RowD.keptG {u t : World} {B g : Nat} {a1 a2 a3 a4 : Option Addr} {l1 l2 l3 l4 c1 c2 c3 c4 : Nat} {cs is : List Bool} {hs rs : List Int} (h : RowD u B a1 a2 a3 a4 l1 l2 l3 l4 c1 c2 c3 c4 cs is hs rs) (gr : u.grownBy t (some g)) (hg : g < B) : RowD t B a1 a2 a3 a4 l1 l2 l3 l4 c1 c2 c3 c4 cs is hs rs :=
  ⟨World.ownsRow.kept h.r1 gr (row_ne_g h.r1 hg), World.ownsRow.kept h.r2 gr (row_ne_g h.r2 hg), World.ownsRow.kept h.r3 gr (row_ne_g h.r3 hg), World.ownsRow.kept h.r4 gr (row_ne_g h.r4 hg)⟩

theorem RowD.mono {u : World} {B B' : Nat} {a1 a2 a3 a4 : Option Addr} {l1 l2 l3 l4 c1 c2 c3 c4 : Nat} {cs is : List Bool} {hs rs : List Int} (h : RowD u B a1 a2 a3 a4 l1 l2 l3 l4 c1 c2 c3 c4 cs is hs rs) (hb : B' ≤ B) : RowD u B' a1 a2 a3 a4 l1 l2 l3 l4 c1 c2 c3 c4 cs is hs rs :=
  ⟨h.r1.mono hb, h.r2.mono hb, h.r3.mono hb, h.r4.mono hb⟩

theorem RowD.set4 {w : World} {B g : Nat} {t : TypeId} {v0 v1 v2 v3 : Value} {a1 a2 a3 a4 : Option Addr} {l1 l2 l3 l4 c1 c2 c3 c4 : Nat} {cs is : List Bool} {hs rs : List Int} (h : RowD w B a1 a2 a3 a4 l1 l2 l3 l4 c1 c2 c3 c4 cs is hs rs) (hb : ExB w g t) (h1 : t ≠ 4) (h2 : t ≠ 3) :
    RowD ((((w.setCell ⟨g, 0, none⟩ v0).setCell ⟨g, 1, none⟩ v1).setCell ⟨g, 2, none⟩ v2).setCell ⟨g, 3, none⟩ v3) B a1 a2 a3 a4 l1 l2 l3 l4 c1 c2 c3 c4 cs is hs rs :=
  ⟨row_set4 h.r1 hb h1, row_set4 h.r2 hb h1, row_set4 h.r3 hb h2, row_set4 h.r4 hb h2⟩

/-- What drawing a device ends with: its rows lie from base on. -/
def DevAt (w0 : World) (a : Option Addr) (cap : Nat) (zs : List Int) (w : World) (g : Nat) (e : Ending) (w' : World) : Prop :=
  ∃ (a1 a2 a3 a4 : Option Addr) (l1 l2 l3 l4 c1 c2 c3 c4 : Nat) (cs is : List Bool) (hs rs : List Int), e = .returned (dv a1 a2 a3 a4 l1 l2 l3 l4 c1 c2 c3 c4) ∧ SmD 100 cs is hs rs ∧ RowD w' w.heap.size a1 a2 a3 a4 l1 l2 l3 l4 c1 c2 c3 c4 cs is hs rs ∧ Cur w0 a cap zs w' g ∧ w.grownBy w' (some g)

theorem step_appI {w : World} {ops : Array Oper} {o : Oper} {a : Act} {K : Act → World → Prop} {Q : Exit → Act → World → Prop} {E : Prop} (hgd : o.guard = none) (s x : Operand)
    (ho : o.op = .call { callee := .builtin .append, args := #[s, x], argTypes := #[24, 24] }) (base : Nat) (v : Value) (zs : List Int) (hs : a.eval s = v) (hown : OwnI w base v zs)
    (ad : Addr) (m c : Nat) (ys : List Int) (hx : a.eval x = .slice (some ad) m c) (hm : m = ys.length) (hsl : SlI w (some ad) ys) (hlen : zs.length + ys.length ≤ 4000000) (hbase : base ≤ w.heap.size)
    (h : ∀ v' w', OwnI w' base v' (zs ++ ys) → w.grownBy w' v.ownBlock → K (a.put o.dst v') w') : if Region.wanted o (yielded ops a.tmps) = true then Oper.wp Try.prog o a w K Q else E := by
  obtain ⟨i0, hi, hz0, hz1, hz2⟩ := info_parts Try.infoQ3
  subst hm
  refine step_append_own hgd s x 24 ho base 3 i0 (.int .i64 0) 1 8 Try.underlying24 hi hz0 hz1 hz2 rfl (by decide) v zs.length (zs.map (Value.int .i64)) hs hown ad ys.length c (ys.map (Value.int .i64)) hx (by simp) hsl.cellsAt (ints_oneCell _ _) (by unfold maxLen; omega) (by omega) hbase ?_
  intro v' w' h1 h2
  exact h v' w' (by simpa [OwnI] using h1) h2

/-- What is known of a device that is being bent. -/
structure LE (w0 : World) (a : Option Addr) (cap : Nat) (zs : List Int) (w : World) (g V : Nat) (u : World) (a1 a2 a3 a4 : Option Addr) (l1 l2 l3 l4 c1 c2 c3 c4 : Nat) (cs is : List Bool) (hs rs : List Int) : Prop where
  own : RowD u w.heap.size a1 a2 a3 a4 l1 l2 l3 l4 c1 c2 c3 c4 cs is hs rs
  cur : Cur w0 a cap zs u g
  gr : w.grownBy u (some g)
  blk : Blk u V 36 #[.slice a1 l1 c1, .slice a2 l2 c2, .slice a3 l3 c3, .slice a4 l4 c4]
  res : Blk u w.heap.size 36 #[.slice none 0 0, .slice none 0 0, .slice none 0 0, .slice none 0 0]
  bd : g < w.heap.size ∧ w0.heap.size ≤ g ∧ w.heap.size < V

theorem LE.below {w0 : World} {a : Option Addr} {cap : Nat} {zs : List Int} {w : World} {g V : Nat} {u : World} {a1 a2 a3 a4 : Option Addr} {l1 l2 l3 l4 c1 c2 c3 c4 : Nat} {cs is : List Bool} {hs rs : List Int} {t : World} (h : LE w0 a cap zs w g V u a1 a2 a3 a4 l1 l2 l3 l4 c1 c2 c3 c4 cs is hs rs) (b : Below u.heap.size u t) : LE w0 a cap zs w g V t a1 a2 a3 a4 l1 l2 l3 l4 c1 c2 c3 c4 cs is hs rs :=
  ⟨h.own.below b, h.cur.grown (grown_below b none) (by simp) (by simp), grown_trans h.gr (grown_below b (some g)), h.blk.below b, h.res.below b, h.bd⟩

theorem LE.call {w0 : World} {a : Option Addr} {cap : Nat} {zs : List Int} {w : World} {g V : Nat} {u : World} {a1 a2 a3 a4 : Option Addr} {l1 l2 l3 l4 c1 c2 c3 c4 : Nat} {cs is : List Bool} {hs rs : List Int} {t : World} (h : LE w0 a cap zs w g V u a1 a2 a3 a4 l1 l2 l3 l4 c1 c2 c3 c4 cs is hs rs) (hC : Cur w0 a cap zs t g) (hg : u.grownBy t (some g)) : LE w0 a cap zs w g V t a1 a2 a3 a4 l1 l2 l3 l4 c1 c2 c3 c4 cs is hs rs :=
  ⟨h.own.keptG hg h.bd.1, hC, grown_trans h.gr hg, h.blk.grown hg (by have := h.bd; simp; omega), h.res.grown hg (by have := h.bd; simp; omega), h.bd⟩

/-- Behind an append onto the words, and the store of it. -/
theorem LE.app {w0 : World} {a : Option Addr} {cap : Nat} {zs : List Int} {w : World} {g V : Nat} {u : World} {a1 a2 a3 a4 : Option Addr} {l1 l2 l3 l4 c1 c2 c3 c4 : Nat} {cs is : List Bool} {hs rs : List Int} {t : World} {a' : Option Addr} {l' c' : Nat} {hs' : List Int} (h : LE w0 a cap zs w g V u a1 a2 a3 a4 l1 l2 l3 l4 c1 c2 c3 c4 cs is hs rs) (d34 : Df (.slice a3 l3 c3) (.slice a4 l4 c4)) (o' : OwnI t w.heap.size (.slice a' l' c') hs') (gg : u.grownBy t (Value.slice a3 l3 c3).ownBlock) :
    LE w0 a cap zs w g V (t.setCell ⟨V, 2, none⟩ (.slice a' l' c')) a1 a2 a' a4 l1 l2 l' l4 c1 c2 c' c4 cs is hs' rs := by
  have hB := h.blk.row h.own.r3 gg (by decide)
  have hR := h.res.row h.own.r3 gg (by decide)
  refine ⟨⟨row_setE (World.ownsRow.kept h.own.r1 gg (ne_types h.own.r1 h.own.r3 (by decide))) ⟨_, hB⟩ (by decide), row_setE (World.ownsRow.kept h.own.r2 gg (ne_types h.own.r2 h.own.r3 (by decide))) ⟨_, hB⟩ (by decide), row_setE o' ⟨_, hB⟩ (by decide), row_setE (World.ownsRow.kept h.own.r4 gg d34.symm.ne) ⟨_, hB⟩ (by decide)⟩, ?_, ?_, hB.set 2 _, hR.setNe (by have := h.bd; omega), h.bd⟩
  · exact (h.cur.rowG h.own.r3 gg h.bd.1).setHi (by have := h.bd; omega) (by have := h.bd; omega)
  · exact grown_setHi (grown_rowG h.gr h.own.r3 gg) (by have := h.bd; omega)

/-- Behind other coils. -/
theorem LE.coils {w0 : World} {a : Option Addr} {cap : Nat} {zs : List Int} {w : World} {g V : Nat} {u : World} {a1 a2 a3 a4 : Option Addr} {l1 l2 l3 l4 c1 c2 c3 c4 : Nat} {cs is : List Bool} {hs rs : List Int} {a' : Option Addr} {l' c' : Nat} {cs' : List Bool} (h : LE w0 a cap zs w g V u a1 a2 a3 a4 l1 l2 l3 l4 c1 c2 c3 c4 cs is hs rs) (o' : OwnB u w.heap.size (.slice a' l' c') cs') :
    LE w0 a cap zs w g V (u.setCell ⟨V, 0, none⟩ (.slice a' l' c')) a' a2 a3 a4 l' l2 l3 l4 c' c2 c3 c4 cs' is hs rs :=
  ⟨⟨row_setE o' ⟨_, h.blk⟩ (by decide), row_setE h.own.r2 ⟨_, h.blk⟩ (by decide), row_setE h.own.r3 ⟨_, h.blk⟩ (by decide), row_setE h.own.r4 ⟨_, h.blk⟩ (by decide)⟩, h.cur.setHi (by have := h.bd; omega) (by have := h.bd; omega), grown_setHi h.gr (by have := h.bd; omega), h.blk.set 0 _, h.res.setNe (by have := h.bd; omega), h.bd⟩

set_option maxRecDepth 20000 in
set_option maxHeartbeats 1000000 in
theorem l5DrawAny_any (w0 : World) (a : Option Addr) (cap : Nat) (zs : List Int) (w : World) (g : Nat) (hC : Cur w0 a cap zs w g) :
    Calls Try.prog 63 #[.pointer (some ⟨g, 0, none⟩)] w fun e w' => DevAt w0 a cap zs w g e w' := by
  obtain ⟨W0, hW0⟩ : ∃ W0, W0 = w.alloc (.cells #[.slice none 0 0, .slice none 0 0, .slice none 0 0, .slice none 0 0] 36) := ⟨_, rfl⟩
  have HW : Hid (W0 = _) := hW0
  have hg := hC.hi
  have hlo := hC.lo
  have C0 : Cur w0 a cap zs W0 g := by rw [hW0]; exact hC.alloc _
  have G0 : w.grownBy W0 (some g) := by rw [hW0]; exact World.grownBy_alloc _ _ _
  have R0 : Blk W0 w.heap.size 36 #[.slice none 0 0, .slice none 0 0, .slice none 0 0, .slice none 0 0] := by rw [hW0]; exact Blk.new _ _ _
  have HGR : Hid (g < w.heap.size ∧ w0.heap.size ≤ g) := ⟨hg, hlo⟩
  clear hC hW0 hlo
  go_enter Try.func63, Try.ntmps63
  go_wp2_with fail
  rw [← HW.out]
  refine (l5Draw_any w0 a cap zs _ g C0).mono ?_
  rintro e u1 ⟨a1, a2, a3, a4, m, c1, c2, c3, c4, cs, is, hs, rs, rfl, hm, D1, hr1, hr2, C1, g1⟩
  have G1 := grown_trans G0 g1
  have R1 := R0.grown g1 (by simp; omega)
  have D1 := D1.mono G0.size
  clear C0 G0 R0 g1 hr1 hr2
  have X2 := Blk.new u1 #[.slice a1 m c1, .slice a2 m c2, .slice a3 m c3, .slice a4 m c4] 36
  have b' := bel_alloc u1 (.cells #[.slice a1 m c1, .slice a2 m c2, .slice a3 m c3, .slice a4 m c4] 36)
  have D2 := D1.below b'
  have C2 := C1.alloc (.cells #[.slice a1 m c1, .slice a2 m c2, .slice a3 m c3, .slice a4 m c4] 36)
  have G2 := grown_trans G1 (grown_below b' (some g))
  have R2 := R1.below b'
  have hV : w.heap.size < u1.heap.size := R1.lt
  clear C1 G1 R1 D1 b'
  go_wp2_with fail
  refine (l1Below_any w0 a cap zs _ g _ (by decide) C2).mono ?_
  rintro e u3 ⟨x, rfl, hx, C3, gg⟩
  have G3 := grown_trans G2 gg
  have R3 := R2.grown gg (by have := HGR.out; simp; omega)
  have X3 := X2.grown gg (by have := HGR.out; simp; omega)
  have D3 := D2.keptG gg HGR.out.1
  clear C2 G2 R2 X2 D2 gg
  obtain ⟨V, hVe⟩ : ∃ V, V = u1.heap.size := ⟨_, rfl⟩
  rw [← hVe] at X3 hV
  have HV : Hid (V = u1.heap.size) := hVe
  have L3 : LE w0 a cap zs w g V u3 a1 a2 a3 a4 m m m m c1 c2 c3 c4 cs is hs rs := ⟨D3.row, C3, G3, X3, R3, ⟨HGR.out.1, HGR.out.2, hV⟩⟩
  have HDf : Hid (Df (.slice a3 m c3) (.slice a4 m c4)) := D3.2.2.2.2.2
  have hl := D3.sl.1
  have HLn : Hid (LnD m m m m cs is hs rs) := hl
  clear hVe C3 G3 R3 X3 D3 hl
  by_cases e0 : x = 0
  · subst e0
    go_upto_region 4 with fail
    simp only [← HV.out]
    obtain ⟨z, hz⟩ : ∃ z, z = u3.drew := ⟨_, rfl⟩
    have LZ0 : LE w0 a cap zs w g V z a1 a2 a3 a4 m m m m c1 c2 c3 c4 cs is hs rs := by rw [hz]; exact L3.below (Below.refl _ _).drew
    have x2 := LZ0.blk.cell 2 rfl
    have LA := LZ0.below (bel_alloc z (.cells ([65536, -1, 7].map (Value.int .i64)).toArray 3))
    have z2 : (z.alloc (.cells #[.int .i64 65536, .int .i64 (-1), .int .i64 7] 3)).cell? ⟨V, 2, none⟩ = some (.slice a3 m c3) := LA.blk.cell 2 rfl
    have hne : z.heap.size ≠ g := by have := LZ0.cur.hi; omega
    have HZ : Hid (z = u3.drew) := hz
    clear LZ0 L3 hz
    refine wp_region_any (by kernel_rfl) ?_
    (try (change wpAny _ _ _ _ _ _ _ (World.drew _)))
    rw [← HZ.out]
    refine wpAny_take (i := 0) (v := ?v0) rfl (by kernel_rfl) (by kernel_rfl) (by kernel_rfl) (fun _ _ _ h => h) (Or.inl ⟨by rfl, ?h0⟩) ?_
    case h0 => intro w; go_simp; try (with_reducible rfl)
    refine wpAny_take (i := 2) (v := ?v2) rfl (by kernel_rfl) (by kernel_rfl) (by kernel_rfl) (fun _ _ _ h => h) (Or.inl ⟨by rfl, ?h2⟩) ?_
    case h2 => intro w; go_simp; try (with_reducible rfl)
    refine wpAny_ready (rs := [1, 3]) (by kernel_rfl) (by simp) ?_
    refine AllReady.cons rfl (fun K hK => ?_) ?_
    · skip
      go_simp
      refine hK _ _ ?_
      clear hK K
      refine wpAny_ready (rs := [3]) (by kernel_rfl) (by simp) ?_
      refine AllReady.cons rfl (fun K hK => ?_) AllReady.nil
      go_simp
      refine hK _ _ ?_
      clear hK K
      refine wpAny_ready (rs := [4]) (by kernel_rfl) (by simp) ?_
      refine AllReady.cons rfl (fun K hK => ?_) AllReady.nil
      go_simp
      go_wp2_with (go_at_call 64; refine (l1Int_any w0 a cap zs _ g ⟨z.heap.size, 0, none⟩ 3 3 [65536, -1, 7] rfl (by omega) (by omega) (ints_lit z [65536, -1, 7] 3) hne LA.cur).mono ?_; rintro e t5 ⟨y, rfl, _, C5, gg⟩; have L5 := LA.call C5 gg; have x2 := L5.blk.cell 2 rfl; have LB := L5.below (bel_alloc t5 (.cells #[.int .i64 y] 3)); have y2 := LB.blk.cell 2 rfl; have hbz := LB.gr.size; clear C5 gg)
      try (refine hK _ _ ?_; clear hK K)
      refine wpAny_ready (rs := [5]) (by kernel_rfl) (by simp) ?_
      refine AllReady.cons rfl (fun K hK => ?_) AllReady.nil
      go_simp
      refine hK _ _ ?_
      clear hK K
      refine wpAny_ready (rs := [6]) (by kernel_rfl) (by simp) ?_
      refine AllReady.cons rfl (fun K hK => ?_) AllReady.nil
      refine step_appI rfl (.tmp 11) (.tmp 15) rfl w.heap.size (.slice a3 m c3) hs rfl LB.own.r3 ⟨t5.heap.size, 0, none⟩ 1 1 [y] rfl rfl (lit_slI1' _ _ rfl) (by have := HLn.out.2.2.1; simp; omega) hbz ?_; intro v' t7 o7 g7; obtain ⟨n1, n2, n3, rfl, hn3⟩ := ownI_shape o7; have HN3 : Hid (n3 = (hs ++ [y]).length) := hn3; have LZ := LB.app HDf.out o7 g7; have qB := LB.blk.row LB.own.r3 g7 (by decide); have qc := qB.cell 2 rfl; have qf := qB.fro 2; clear hn3 o7 g7 qB LA L5 LB
      refine hK _ _ ?_
      clear hK K
      refine wpAny_ready (rs := [7]) (by kernel_rfl) (by simp) ?_
      refine AllReady.cons rfl (fun K hK => ?_) AllReady.nil
      go_simp
      refine hK _ _ ?_
      clear hK K
      refine wpAny_ready (rs := [8]) (by kernel_rfl) (by simp) ?_
      refine AllReady.cons rfl (fun K hK => ?_) AllReady.nil
      go_simp
      refine hK _ _ ?_
      clear hK K
      refine wpAny_done (by kernel_rfl) ?_ _
      (first | skip)
      obtain ⟨x0, x1, x2, x3⟩ := LZ.blk.four
      obtain ⟨y0, y1, y2, y3⟩ := LZ.res.four
      have fy := LZ.res.fro
      have HH : Hid (LE w0 a cap zs w g V _ _ _ _ _ _ _ _ _ _ _ _ _ _ _ _ _) := LZ
      clear LZ
      go_wp2
      refine bodyPost_ret (v := dv a1 a2 n1 a4 m m n3 m c1 c2 n2 c4) (by simp [results, Try.results63, go_sem, y0, y1, y2, y3]) rfl ?_
      have L := HH.out
      have hgR : g ≠ w.heap.size := by have := L.bd; omega
      have hwR : w0.heap.size ≤ w.heap.size := by have := L.bd; omega
      exact ⟨_, _, _, _, _, _, _, _, _, _, _, _, _, _, _, _, rfl, by have h := HLn.out; refine ⟨?_, ?_, ?_, ?_⟩ <;> first | (have := h.1; omega) | (have := h.2.1; omega) | (have := HN3.out; have := h.2.2.1; simp; omega) | (have := h.2.2.2; omega), L.own.set4 ⟨_, L.res⟩ (by decide) (by decide), (((L.cur.setHi hgR hwR).setHi hgR hwR).setHi hgR hwR).setHi hgR hwR, grown_setHi (grown_setHi (grown_setHi (grown_setHi L.gr (Nat.le_refl _)) (Nat.le_refl _)) (Nat.le_refl _)) (Nat.le_refl _)⟩
    refine AllReady.cons rfl (fun K hK => ?_) AllReady.nil
    go_simp
    refine hK _ _ ?_
    clear hK K
    refine wpAny_ready (rs := [1, 4]) (by kernel_rfl) (by simp) ?_
    refine AllReady.cons rfl (fun K hK => ?_) ?_
    · skip
      go_simp
      refine hK _ _ ?_
      clear hK K
      refine wpAny_ready (rs := [4]) (by kernel_rfl) (by simp) ?_
      refine AllReady.cons rfl (fun K hK => ?_) AllReady.nil
      go_simp
      go_wp2_with (go_at_call 64; refine (l1Int_any w0 a cap zs _ g ⟨z.heap.size, 0, none⟩ 3 3 [65536, -1, 7] rfl (by omega) (by omega) (ints_lit z [65536, -1, 7] 3) hne LA.cur).mono ?_; rintro e t5 ⟨y, rfl, _, C5, gg⟩; have L5 := LA.call C5 gg; have x2 := L5.blk.cell 2 rfl; have LB := L5.below (bel_alloc t5 (.cells #[.int .i64 y] 3)); have y2 := LB.blk.cell 2 rfl; have hbz := LB.gr.size; clear C5 gg)
      try (refine hK _ _ ?_; clear hK K)
      refine wpAny_ready (rs := [5]) (by kernel_rfl) (by simp) ?_
      refine AllReady.cons rfl (fun K hK => ?_) AllReady.nil
      go_simp
      refine hK _ _ ?_
      clear hK K
      refine wpAny_ready (rs := [6]) (by kernel_rfl) (by simp) ?_
      refine AllReady.cons rfl (fun K hK => ?_) AllReady.nil
      refine step_appI rfl (.tmp 11) (.tmp 15) rfl w.heap.size (.slice a3 m c3) hs rfl LB.own.r3 ⟨t5.heap.size, 0, none⟩ 1 1 [y] rfl rfl (lit_slI1' _ _ rfl) (by have := HLn.out.2.2.1; simp; omega) hbz ?_; intro v' t7 o7 g7; obtain ⟨n1, n2, n3, rfl, hn3⟩ := ownI_shape o7; have HN3 : Hid (n3 = (hs ++ [y]).length) := hn3; have LZ := LB.app HDf.out o7 g7; have qB := LB.blk.row LB.own.r3 g7 (by decide); have qc := qB.cell 2 rfl; have qf := qB.fro 2; clear hn3 o7 g7 qB LA L5 LB
      refine hK _ _ ?_
      clear hK K
      refine wpAny_ready (rs := [7]) (by kernel_rfl) (by simp) ?_
      refine AllReady.cons rfl (fun K hK => ?_) AllReady.nil
      go_simp
      refine hK _ _ ?_
      clear hK K
      refine wpAny_ready (rs := [8]) (by kernel_rfl) (by simp) ?_
      refine AllReady.cons rfl (fun K hK => ?_) AllReady.nil
      go_simp
      refine hK _ _ ?_
      clear hK K
      refine wpAny_done (by kernel_rfl) ?_ _
      (first | skip)
      obtain ⟨x0, x1, x2, x3⟩ := LZ.blk.four
      obtain ⟨y0, y1, y2, y3⟩ := LZ.res.four
      have fy := LZ.res.fro
      have HH : Hid (LE w0 a cap zs w g V _ _ _ _ _ _ _ _ _ _ _ _ _ _ _ _ _) := LZ
      clear LZ
      go_wp2
      refine bodyPost_ret (v := dv a1 a2 n1 a4 m m n3 m c1 c2 n2 c4) (by simp [results, Try.results63, go_sem, y0, y1, y2, y3]) rfl ?_
      have L := HH.out
      have hgR : g ≠ w.heap.size := by have := L.bd; omega
      have hwR : w0.heap.size ≤ w.heap.size := by have := L.bd; omega
      exact ⟨_, _, _, _, _, _, _, _, _, _, _, _, _, _, _, _, rfl, by have h := HLn.out; refine ⟨?_, ?_, ?_, ?_⟩ <;> first | (have := h.1; omega) | (have := h.2.1; omega) | (have := HN3.out; have := h.2.2.1; simp; omega) | (have := h.2.2.2; omega), L.own.set4 ⟨_, L.res⟩ (by decide) (by decide), (((L.cur.setHi hgR hwR).setHi hgR hwR).setHi hgR hwR).setHi hgR hwR, grown_setHi (grown_setHi (grown_setHi (grown_setHi L.gr (Nat.le_refl _)) (Nat.le_refl _)) (Nat.le_refl _)) (Nat.le_refl _)⟩
    refine AllReady.cons rfl (fun K hK => ?_) AllReady.nil
    go_simp
    go_wp2_with (go_at_call 64; refine (l1Int_any w0 a cap zs _ g ⟨z.heap.size, 0, none⟩ 3 3 [65536, -1, 7] rfl (by omega) (by omega) (ints_lit z [65536, -1, 7] 3) hne LA.cur).mono ?_; rintro e t5 ⟨y, rfl, _, C5, gg⟩; have L5 := LA.call C5 gg; have x2 := L5.blk.cell 2 rfl; have LB := L5.below (bel_alloc t5 (.cells #[.int .i64 y] 3)); have y2 := LB.blk.cell 2 rfl; have hbz := LB.gr.size; clear C5 gg)
    try (refine hK _ _ ?_; clear hK K)
    refine wpAny_ready (rs := [1, 5]) (by kernel_rfl) (by simp) ?_
    refine AllReady.cons rfl (fun K hK => ?_) ?_
    · skip
      go_simp
      refine hK _ _ ?_
      clear hK K
      refine wpAny_ready (rs := [5]) (by kernel_rfl) (by simp) ?_
      refine AllReady.cons rfl (fun K hK => ?_) AllReady.nil
      go_simp
      refine hK _ _ ?_
      clear hK K
      refine wpAny_ready (rs := [6]) (by kernel_rfl) (by simp) ?_
      refine AllReady.cons rfl (fun K hK => ?_) AllReady.nil
      refine step_appI rfl (.tmp 11) (.tmp 15) rfl w.heap.size (.slice a3 m c3) hs rfl LB.own.r3 ⟨t5.heap.size, 0, none⟩ 1 1 [y] rfl rfl (lit_slI1' _ _ rfl) (by have := HLn.out.2.2.1; simp; omega) hbz ?_; intro v' t7 o7 g7; obtain ⟨n1, n2, n3, rfl, hn3⟩ := ownI_shape o7; have HN3 : Hid (n3 = (hs ++ [y]).length) := hn3; have LZ := LB.app HDf.out o7 g7; have qB := LB.blk.row LB.own.r3 g7 (by decide); have qc := qB.cell 2 rfl; have qf := qB.fro 2; clear hn3 o7 g7 qB LA L5 LB
      refine hK _ _ ?_
      clear hK K
      refine wpAny_ready (rs := [7]) (by kernel_rfl) (by simp) ?_
      refine AllReady.cons rfl (fun K hK => ?_) AllReady.nil
      go_simp
      refine hK _ _ ?_
      clear hK K
      refine wpAny_ready (rs := [8]) (by kernel_rfl) (by simp) ?_
      refine AllReady.cons rfl (fun K hK => ?_) AllReady.nil
      go_simp
      refine hK _ _ ?_
      clear hK K
      refine wpAny_done (by kernel_rfl) ?_ _
      (first | skip)
      obtain ⟨x0, x1, x2, x3⟩ := LZ.blk.four
      obtain ⟨y0, y1, y2, y3⟩ := LZ.res.four
      have fy := LZ.res.fro
      have HH : Hid (LE w0 a cap zs w g V _ _ _ _ _ _ _ _ _ _ _ _ _ _ _ _ _) := LZ
      clear LZ
      go_wp2
      refine bodyPost_ret (v := dv a1 a2 n1 a4 m m n3 m c1 c2 n2 c4) (by simp [results, Try.results63, go_sem, y0, y1, y2, y3]) rfl ?_
      have L := HH.out
      have hgR : g ≠ w.heap.size := by have := L.bd; omega
      have hwR : w0.heap.size ≤ w.heap.size := by have := L.bd; omega
      exact ⟨_, _, _, _, _, _, _, _, _, _, _, _, _, _, _, _, rfl, by have h := HLn.out; refine ⟨?_, ?_, ?_, ?_⟩ <;> first | (have := h.1; omega) | (have := h.2.1; omega) | (have := HN3.out; have := h.2.2.1; simp; omega) | (have := h.2.2.2; omega), L.own.set4 ⟨_, L.res⟩ (by decide) (by decide), (((L.cur.setHi hgR hwR).setHi hgR hwR).setHi hgR hwR).setHi hgR hwR, grown_setHi (grown_setHi (grown_setHi (grown_setHi L.gr (Nat.le_refl _)) (Nat.le_refl _)) (Nat.le_refl _)) (Nat.le_refl _)⟩
    refine AllReady.cons rfl (fun K hK => ?_) AllReady.nil
    go_simp
    refine hK _ _ ?_
    clear hK K
    refine wpAny_ready (rs := [1]) (by kernel_rfl) (by simp) ?_
    refine AllReady.cons rfl (fun K hK => ?_) AllReady.nil
    go_simp
    refine hK _ _ ?_
    clear hK K
    refine wpAny_ready (rs := [6]) (by kernel_rfl) (by simp) ?_
    refine AllReady.cons rfl (fun K hK => ?_) AllReady.nil
    refine step_appI rfl (.tmp 11) (.tmp 15) rfl w.heap.size (.slice a3 m c3) hs rfl LB.own.r3 ⟨t5.heap.size, 0, none⟩ 1 1 [y] rfl rfl (lit_slI1' _ _ rfl) (by have := HLn.out.2.2.1; simp; omega) hbz ?_; intro v' t7 o7 g7; obtain ⟨n1, n2, n3, rfl, hn3⟩ := ownI_shape o7; have HN3 : Hid (n3 = (hs ++ [y]).length) := hn3; have LZ := LB.app HDf.out o7 g7; have qB := LB.blk.row LB.own.r3 g7 (by decide); have qc := qB.cell 2 rfl; have qf := qB.fro 2; clear hn3 o7 g7 qB LA L5 LB
    refine hK _ _ ?_
    clear hK K
    refine wpAny_ready (rs := [7]) (by kernel_rfl) (by simp) ?_
    refine AllReady.cons rfl (fun K hK => ?_) AllReady.nil
    go_simp
    refine hK _ _ ?_
    clear hK K
    refine wpAny_ready (rs := [8]) (by kernel_rfl) (by simp) ?_
    refine AllReady.cons rfl (fun K hK => ?_) AllReady.nil
    go_simp
    refine hK _ _ ?_
    clear hK K
    refine wpAny_done (by kernel_rfl) ?_ _
    (first | skip)
    obtain ⟨x0, x1, x2, x3⟩ := LZ.blk.four
    obtain ⟨y0, y1, y2, y3⟩ := LZ.res.four
    have fy := LZ.res.fro
    have HH : Hid (LE w0 a cap zs w g V _ _ _ _ _ _ _ _ _ _ _ _ _ _ _ _ _) := LZ
    clear LZ
    go_wp2
    refine bodyPost_ret (v := dv a1 a2 n1 a4 m m n3 m c1 c2 n2 c4) (by simp [results, Try.results63, go_sem, y0, y1, y2, y3]) rfl ?_
    have L := HH.out
    have hgR : g ≠ w.heap.size := by have := L.bd; omega
    have hwR : w0.heap.size ≤ w.heap.size := by have := L.bd; omega
    exact ⟨_, _, _, _, _, _, _, _, _, _, _, _, _, _, _, _, rfl, by have h := HLn.out; refine ⟨?_, ?_, ?_, ?_⟩ <;> first | (have := h.1; omega) | (have := h.2.1; omega) | (have := HN3.out; have := h.2.2.1; simp; omega) | (have := h.2.2.2; omega), L.own.set4 ⟨_, L.res⟩ (by decide) (by decide), (((L.cur.setHi hgR hwR).setHi hgR hwR).setHi hgR hwR).setHi hgR hwR, grown_setHi (grown_setHi (grown_setHi (grown_setHi L.gr (Nat.le_refl _)) (Nat.le_refl _)) (Nat.le_refl _)) (Nat.le_refl _)⟩
  by_cases e1 : x = 1
  · subst e1
    go_upto_region 6 with fail
    simp only [← HV.out]
    go_wp2_with fail
    refine (l1Below_any w0 a cap zs _ g _ (by decide) L3.cur).mono ?_
    rintro e u5 ⟨y, rfl, hy, C5, gg⟩
    have L5 := L3.call C5 gg
    clear C5 gg L3
    obtain ⟨k, rfl⟩ : ∃ k : Nat, y = (k : Int) := ⟨y.toNat, by omega⟩
    have hmk : ∀ w : World, (Instr.makeSlice 25 (.int .i64 (64 + (k : Int))) (.int .i64 (64 + (k : Int)))).run Try.prog w = .ok (.slice (some ⟨w.heap.size, 0, none⟩) (64 + k) (64 + k)) (w.alloc (.cells (madeCells #[.bool false] (64 + k)) 4)) := fun w => run_make_row' (P := Try.prog) 25 4 (.bool false) 1 Try.underlying25 Try.info4 rfl .i64 .i64 (64 + k) (by omega) (by omega) w
    have row : OwnB (u5.alloc (.cells (madeCells #[.bool false] (64 + k)) 4)) w.heap.size (.slice (some ⟨u5.heap.size, 0, none⟩) (64 + k) (64 + k)) (List.replicate (64 + k) false) := (madeB u5 (64 + k) (by omega)).mono L5.gr.size
    have L6 := L5.below (bel_alloc u5 (.cells (madeCells #[.bool false] (64 + k)) 4))
    have qc := L6.blk.cell 0 rfl
    have qf := L6.blk.fro 0
    have LZ := L6.coils row
    have HN3 : Hid (k ≤ 1) := by show k ≤ 1; omega
    clear L5 row L6
    (first | skip)
    obtain ⟨x0, x1, x2, x3⟩ := LZ.blk.four
    obtain ⟨y0, y1, y2, y3⟩ := LZ.res.four
    have fy := LZ.res.fro
    have HH : Hid (LE w0 a cap zs w g V _ _ _ _ _ _ _ _ _ _ _ _ _ _ _ _ _) := LZ
    clear LZ
    go_wp2
    refine bodyPost_ret (v := dv (some ⟨u5.heap.size, 0, none⟩) a2 a3 a4 (64 + k) m m m (64 + k) c2 c3 c4) (by simp [results, Try.results63, go_sem, y0, y1, y2, y3]) rfl ?_
    have L := HH.out
    have hgR : g ≠ w.heap.size := by have := L.bd; omega
    have hwR : w0.heap.size ≤ w.heap.size := by have := L.bd; omega
    exact ⟨_, _, _, _, _, _, _, _, _, _, _, _, _, _, _, _, rfl, by have h := HLn.out; refine ⟨?_, ?_, ?_, ?_⟩ <;> first | (have := HN3.out; simp; omega) | (have := h.2.1; omega) | (have := h.2.2.1; omega) | (have := h.2.2.2; omega), L.own.set4 ⟨_, L.res⟩ (by decide) (by decide), (((L.cur.setHi hgR hwR).setHi hgR hwR).setHi hgR hwR).setHi hgR hwR, grown_setHi (grown_setHi (grown_setHi (grown_setHi L.gr (Nat.le_refl _)) (Nat.le_refl _)) (Nat.le_refl _)) (Nat.le_refl _)⟩
  have LZ := L3
  clear L3
  simp only [← HV.out]
  (first | skip)
  obtain ⟨x0, x1, x2, x3⟩ := LZ.blk.four
  obtain ⟨y0, y1, y2, y3⟩ := LZ.res.four
  have fy := LZ.res.fro
  have HH : Hid (LE w0 a cap zs w g V _ _ _ _ _ _ _ _ _ _ _ _ _ _ _ _ _) := LZ
  clear LZ
  go_wp2
  refine bodyPost_ret (v := dv a1 a2 a3 a4 m m m m c1 c2 c3 c4) (by simp [results, Try.results63, go_sem, y0, y1, y2, y3]) rfl ?_
  have L := HH.out
  have hgR : g ≠ w.heap.size := by have := L.bd; omega
  have hwR : w0.heap.size ≤ w.heap.size := by have := L.bd; omega
  exact ⟨_, _, _, _, _, _, _, _, _, _, _, _, _, _, _, _, rfl, by have h := HLn.out; refine ⟨?_, ?_, ?_, ?_⟩ <;> first | (have := h.1; omega) | (have := h.2.1; omega) | (have := h.2.2.1; omega) | (have := h.2.2.2; omega), L.own.set4 ⟨_, L.res⟩ (by decide) (by decide), (((L.cur.setHi hgR hwR).setHi hgR hwR).setHi hgR hwR).setHi hgR hwR, grown_setHi (grown_setHi (grown_setHi (grown_setHi L.gr (Nat.le_refl _)) (Nat.le_refl _)) (Nat.le_refl _)) (Nat.le_refl _)⟩

end Go.Proofs.Ytfcbkollmhjdoaa

namespace Go.Proofs.Ytfcbkollmhjdoaa
open Go.RowKit

set_option linter.unusedVariables false

set_option linter.unusedSimpArgs false

/-- What drawing a device and a question ends with. -/
def DrawnS (w : World) (e : Ending) (w' : World) : Prop :=
  ∃ (a1 a2 a3 a4 : Option Addr) (l1 l2 l3 l4 c1 c2 c3 c4 : Nat) (cs is : List Bool) (hs rs : List Int) (kd pl nn wa : Int) (q1 q2 : Option Addr) (m1 m2 k1 k2 : Nat) (ws : List Int) (bs : List Bool),
    e = .returned (.tuple #[dv a1 a2 a3 a4 l1 l2 l3 l4 c1 c2 c3 c4, rq kd pl nn wa q1 q2 m1 m2 k1 k2]) ∧ SmD 100 cs is hs rs ∧ RowD w' w.heap.size a1 a2 a3 a4 l1 l2 l3 l4 c1 c2 c3 c4 cs is hs rs ∧ m1 ≤ 300 ∧ m2 ≤ 3000 ∧ OwnI w' w.heap.size (.slice q1 m1 k1) ws ∧ OwnB w' w.heap.size (.slice q2 m2 k2) bs ∧ Below w.heap.size w w'

theorem cell_ne (w : World) {g V : Nat} (h : V ≠ g) (i j : Nat) (y : Value) : (w.setCell ⟨g, j, none⟩ y).cell? ⟨V, i, none⟩ = w.cell? ⟨V, i, none⟩ := by
  unfold World.cell?
  rw [Below.heap_setCell w ⟨g, j, none⟩ y V h]

theorem cell_drew (w : World) (p : Addr) : w.drew.cell? p = w.cell? p := rfl

/-- What is known ahead of the end of the draw. -/
def DQ (W0 : World) (a : Option Addr) (cap : Nat) (zs : List Int) (B g V Q : Nat) (u : World) (a1 a2 a3 a4 : Option Addr) (l1 l2 l3 l4 c1 c2 c3 c4 : Nat) (cs is : List Bool) (hs rs : List Int) : Prop :=
  ∃ (kd pl nn wa : Int) (q1 q2 : Option Addr) (m1 m2 k1 k2 : Nat) (ws : List Int) (bs : List Bool), m1 ≤ 300 ∧ m2 ≤ 3000 ∧ Blk u V 36 #[.slice a1 l1 c1, .slice a2 l2 c2, .slice a3 l3 c3, .slice a4 l4 c4] ∧ Blk u Q 27 #[.int .i64 kd, .int .i64 pl, .int .i64 nn, .slice q1 m1 k1, .slice q2 m2 k2, .int .i64 wa] ∧ RowD u B a1 a2 a3 a4 l1 l2 l3 l4 c1 c2 c3 c4 cs is hs rs ∧ OwnI u B (.slice q1 m1 k1) ws ∧ OwnB u B (.slice q2 m2 k2) bs ∧ Cur W0 a cap zs u g

set_option maxRecDepth 20000 in
set_option maxHeartbeats 1000000 in
theorem DrawServe_any (w : World) (a : Option Addr) (n cap : Nat) (zs : List Int) (hn : n = zs.length) (hs : Sl w a zs) (hr : ∀ z ∈ zs, 0 ≤ z ∧ z ≤ 255) (hl : zs.length ≤ 1048576) :
    Calls Try.prog 18 #[.slice a n cap] w fun e w' => DrawnS w e w' := by
  obtain ⟨W0, hW0⟩ : ∃ W0, W0 = (w.alloc (.cells #[.slice none 0 0, .slice none 0 0, .slice none 0 0, .slice none 0 0] 36)).alloc (.cells #[.int .i64 0, .int .i64 0, .int .i64 0, .slice none 0 0, .slice none 0 0, .int .i64 0] 27) := ⟨_, rfl⟩
  have HW : Hid (W0 = _) := hW0
  have bw : Below w.heap.size w W0 := by rw [hW0]; exact bel_next (bel_alloc _ _) (bel_alloc _ _)
  have R1 : Blk W0 w.heap.size 36 #[.slice none 0 0, .slice none 0 0, .slice none 0 0, .slice none 0 0] := by rw [hW0]; exact (Blk.new _ _ _).below (bel_alloc _ _)
  have R2 : Blk W0 (w.heap.size + 1) 27 #[.int .i64 0, .int .i64 0, .int .i64 0, .slice none 0 0, .slice none 0 0, .int .i64 0] := by rw [hW0]; have := Blk.new (w.alloc (.cells #[.slice none 0 0, .slice none 0 0, .slice none 0 0, .slice none 0 0] 36)) #[.int .i64 0, .int .i64 0, .int .i64 0, .slice none 0 0, .slice none 0 0, .int .i64 0] 27; simpa using this
  have HS : Hid (Sl W0 a zs) := hs.below bw
  have HN : Hid (n = zs.length) := hn
  have HR : Hid (∀ z ∈ zs, 0 ≤ z ∧ z ≤ 255) := hr
  have HB : Hid (Below w.heap.size w W0) := bw
  have HR0 : Hid (Blk W0 w.heap.size 36 #[.slice none 0 0, .slice none 0 0, .slice none 0 0, .slice none 0 0] ∧ Blk W0 (w.heap.size + 1) 27 #[.int .i64 0, .int .i64 0, .int .i64 0, .slice none 0 0, .slice none 0 0, .int .i64 0]) := ⟨R1, R2⟩
  clear hW0 hs hn hr bw R1 R2
  go_enter Try.func18, Try.ntmps18
  go_upto_region 1 with fail
  rw [← HW.out]
  go_wp2_with fail
  refine (l1New_any W0 a n cap zs HN.out HS.out HR.out hl).mono ?_
  rintro e z1 ⟨rfl, C1, _⟩
  obtain ⟨g, hg⟩ : ∃ g, g = W0.heap.size := ⟨_, rfl⟩
  rw [← hg] at C1
  simp only [← hg]
  have HG : Hid (g = W0.heap.size) := hg
  have hgz : g < z1.heap.size := C1.hi
  clear hg
  go_wp2_with fail
  refine (l5DrawAny_any W0 a cap zs z1 g C1).mono ?_
  rintro e z2 ⟨a1, a2, a3, a4, l1, l2, l3, l4, c1, c2, c3, c4, cs, is, hs, rs, rfl, hsm, D2, C2, g2⟩
  have HSM : Hid (SmD 100 cs is hs rs) := hsm
  clear C1 hsm
  have bd := bel_alloc z2 (.cells #[.slice a1 l1 c1, .slice a2 l2 c2, .slice a3 l3 c3, .slice a4 l4 c4] 36)
  have X3 := Blk.new z2 #[.slice a1 l1 c1, .slice a2 l2 c2, .slice a3 l3 c3, .slice a4 l4 c4] 36
  have D3 := D2.below bd
  have C3 := C2.alloc (.cells #[.slice a1 l1 c1, .slice a2 l2 c2, .slice a3 l3 c3, .slice a4 l4 c4] 36)
  obtain ⟨V, hV⟩ : ∃ V, V = z2.heap.size := ⟨_, rfl⟩
  rw [← hV] at X3
  have HV : Hid (V = z2.heap.size) := hV
  have hVz : z1.heap.size ≤ V := by rw [hV]; exact g2.size
  obtain ⟨z3, hz3⟩ : ∃ z3, z3 = z2.alloc (.cells #[.slice a1 l1 c1, .slice a2 l2 c2, .slice a3 l3 c3, .slice a4 l4 c4] 36) := ⟨_, rfl⟩
  rw [← hz3] at X3 D3 C3
  have HZ3 : Hid (z3 = _) := hz3
  have hsz3 : z3.heap.size = V + 1 := by rw [hz3, hV]; simp
  have HS3 : Hid (z3.heap.size = V + 1) := hsz3
  have I4 := ints_lit z3 [0, 0, 0, 10, 60] 3
  have b4 := bel_alloc z3 (.cells ([0, 0, 0, 10, 60].map (Value.int .i64)).toArray 3)
  have X4 := X3.below b4
  have D4 := D3.below b4
  have C4 := C3.alloc (.cells ([0, 0, 0, 10, 60].map (Value.int .i64)).toArray 3)
  have hne4 : z3.heap.size ≠ g := by have := C3.hi; omega
  clear X3 D3 C3 bd D2 C2 g2 hV b4 hsz3
  clear hz3
  go_upto_region 3 with fail
  simp only [← HV.out]
  rw [← HZ3.out]
  go_wp2_with fail
  refine (l1Int_any W0 a cap zs _ g ⟨z3.heap.size, 0, none⟩ 5 5 [0, 0, 0, 10, 60] rfl (by omega) (by omega) I4 hne4 C4).mono ?_
  rintro e z5 ⟨nr, rfl, hnr, C5, gg⟩
  have hnr' : 0 ≤ nr ∧ nr ≤ 100 := by simp at hnr; omega
  have X5 := X4.grown gg (by simp; omega)
  have D5 := D4.keptG gg hgz
  have hVz5 : V < z5.heap.size := X5.lt
  clear X4 D4 C4 I4 gg hne4 hnr
  go_wp2_with fail
  refine (l3Draw_any W0 a cap zs _ g nr hnr' C5).mono ?_
  rintro e z6 ⟨kd, pl, nn, wa, q1, q2, m1, m2, k1, k2, ws, bs, rfl, e1, e2, hm1, hm2, i6, j6, C6, gg⟩
  have X6 := X5.grown gg (by simp; omega)
  have D6 := D5.keptG gg hgz
  have i6 := OwnI.mono i6 (show z1.heap.size ≤ z5.heap.size by omega)
  have j6 := OwnB.mono j6 (show z1.heap.size ≤ z5.heap.size by omega)
  have hz65 := gg.size
  clear X5 D5 C5 gg hnr'
  have b7 := bel_alloc z6 (.cells #[.int .i64 kd, .int .i64 pl, .int .i64 nn, .slice q1 m1 k1, .slice q2 m2 k2, .int .i64 wa] 27)
  have Y7 := Blk.new z6 #[.int .i64 kd, .int .i64 pl, .int .i64 nn, .slice q1 m1 k1, .slice q2 m2 k2, .int .i64 wa] 27
  have X7 := X6.below b7
  have D7 := D6.below b7
  have i7 := OwnI.below i6 b7
  have j7 := OwnB.below j6 b7
  have C7 := C6.alloc (.cells #[.int .i64 kd, .int .i64 pl, .int .i64 nn, .slice q1 m1 k1, .slice q2 m2 k2, .int .i64 wa] 27)
  obtain ⟨Q, hQ⟩ : ∃ Q, Q = z6.heap.size := ⟨_, rfl⟩
  rw [← hQ] at Y7
  have HQ : Hid (Q = z6.heap.size) := hQ
  have hQV : V < Q := by omega
  have HE : Hid (m1 = ws.length ∧ m2 = bs.length ∧ m1 ≤ 200 ∧ m2 ≤ 2000) := ⟨e1, e2, hm1, hm2⟩
  clear X6 D6 i6 j6 C6 b7 hQ e1 e2 hm1 hm2
  go_wp2_with fail
  refine (l1Once_any W0 a cap zs _ g 10 (by decide) C7).mono ?_
  rintro e z8 ⟨t, rfl, C8, gg⟩
  have X8 := X7.grown gg (by simp; omega)
  have Y8 := Y7.grown gg (by simp; omega)
  have D8 := D7.keptG gg hgz
  have i8 := OwnI.kept i7 gg (row_ne_g i7 hgz)
  have j8 := OwnB.kept j7 gg (row_ne_g j7 hgz)
  have hz8 : z1.heap.size ≤ z8.heap.size := by have := X8.lt; omega
  clear X7 Y7 D7 i7 j7 C7 gg
  simp only [← HQ.out]
  have hzw : w.heap.size ≤ z1.heap.size := by have := HB.out.size; have := HG.out; omega
  have HK : Hid (w.heap.size + 2 ≤ g ∧ g < z1.heap.size ∧ z1.heap.size ≤ V ∧ V < Q) := by
    have h1 := HG.out
    have h2 := HR0.out.2.lt
    exact ⟨by omega, hgz, hVz, hQV⟩
  go_upto_if 17 with fail
  go_cut [] from 18 (fun wx => DQ W0 a cap zs z1.heap.size g V Q wx a1 a2 a3 a4 l1 l2 l3 l4 c1 c2 c3 c4 cs is hs rs)
  case first =>
    cases t
    · go_wp2_with fail
      go_meet
      case rel => exact ⟨kd, pl, nn, wa, q1, q2, m1, m2, k1, k2, ws, bs, by have := HE.out; omega, by have := HE.out; omega, X8, Y8, D8, i8, j8, C8⟩
    · skip
      obtain ⟨y0, y1, y2, y3, y4, y5⟩ := Y8.six
      go_wp2_with fail
      refine (l3Bend_any W0 a cap zs _ g kd pl nn wa q1 q2 m1 m2 k1 k2 ws bs z1.heap.size HE.out.1 HE.out.2.1 (by have := HE.out; omega) (by have := HE.out; omega) hgz hz8 i8 j8 C8).mono ?_
      rintro e z9 ⟨kd', pl', nn', wa', q1', q2', m1', m2', k1', k2', ws', bs', rfl, e1, e2, hm1, hm2, i9, j9, C9, gg⟩
      have X9 := X8.grown gg (by simp; omega)
      have Y9 := Y8.grown gg (by simp; omega)
      have D9 := D8.keptG gg hgz
      clear X8 Y8 D8 i8 j8 C8 gg y0 y1 y2 y3 y4 y5
      obtain ⟨y0, y1, y2, y3, y4, y5⟩ := Y9.six
      have fy := Y9.fro
      have HM : Hid (DQ W0 a cap zs z1.heap.size g V Q ((((((z9.setCell ⟨Q, 0, none⟩ (.int .i64 kd')).setCell ⟨Q, 1, none⟩ (.int .i64 pl')).setCell ⟨Q, 2, none⟩ (.int .i64 nn')).setCell ⟨Q, 3, none⟩ (.slice q1' m1' k1')).setCell ⟨Q, 4, none⟩ (.slice q2' m2' k2')).setCell ⟨Q, 5, none⟩ (.int .i64 wa')) a1 a2 a3 a4 l1 l2 l3 l4 c1 c2 c3 c4 cs is hs rs) :=
        ⟨kd', pl', nn', wa', q1', q2', m1', m2', k1', k2', ws', bs', by have := HE.out; omega, by have := HE.out; omega, (((((X9.setNe (by omega)).setNe (by omega)).setNe (by omega)).setNe (by omega)).setNe (by omega)).setNe (by omega), (((((Y9.set 0 _).set 1 _).set 2 _).set 3 _).set 4 _).set 5 _, ⟨rowp_set6 D9.r1 ⟨_, Y9⟩ (by decide), rowp_set6 D9.r2 ⟨_, Y9⟩ (by decide), rowp_set6 D9.r3 ⟨_, Y9⟩ (by decide), rowp_set6 D9.r4 ⟨_, Y9⟩ (by decide)⟩, rowp_set6 i9 ⟨_, Y9⟩ (by decide), rowp_set6 j9 ⟨_, Y9⟩ (by decide), (((((C9.setHi (by omega) (by have := HG.out; omega)).setHi (by omega) (by have := HG.out; omega)).setHi (by omega) (by have := HG.out; omega)).setHi (by omega) (by have := HG.out; omega)).setHi (by omega) (by have := HG.out; omega)).setHi (by omega) (by have := HG.out; omega)⟩
      clear X9 Y9 D9 i9 j9 C9 e1 e2 hm1 hm2
      go_wp2_with fail
      go_meet
      case rel => exact HM.out
  case rest =>
  obtain ⟨kd', pl', nn', wa', q1', q2', m1', m2', k1', k2', ws', bs', hm1, hm2, X9, Y9, D9, i9, j9, C9⟩ := hcut
  have bz : Below wc.heap.size wc wc.drew := (Below.refl _ _).drew
  obtain ⟨z, hz⟩ : ∃ z, z = wc.drew := ⟨_, rfl⟩
  rw [← hz] at bz
  have X10 := X9.below bz
  have Y10 := Y9.below bz
  have C10 := C9.grown (grown_below bz none) (by simp) (by simp)
  have R1 := HR0.out.1.below C10.bel
  have R2 := HR0.out.2.below C10.bel
  have B10 := bel_next HB.out C10.bel
  have D10 := (D9.below bz).mono hzw
  have i10 := OwnI.mono (OwnI.below i9 bz) hzw
  have j10 := OwnB.mono (OwnB.below j9 bz) hzw
  have HM : Hid (m1' ≤ 300 ∧ m2' ≤ 3000) := ⟨hm1, hm2⟩
  have hq1 : Q ≠ w.heap.size := by have := HK.out; omega
  have hv1 : V ≠ w.heap.size := by have := HK.out; omega
  have hv2 : V ≠ w.heap.size + 1 := by have := HK.out; omega
  have hq2 : Q ≠ w.heap.size + 1 := by have := HK.out; omega
  have Y14 := (((Y10.setNe (g' := w.heap.size) (j := 0) (y := .slice a1 l1 c1) hq1).setNe (g' := w.heap.size) (j := 1) (y := .slice a2 l2 c2) hq1).setNe (g' := w.heap.size) (j := 2) (y := .slice a3 l3 c3) hq1).setNe (g' := w.heap.size) (j := 3) (y := .slice a4 l4 c4) hq1
  have R14 := (((R2.setNe (g' := w.heap.size) (j := 0) (y := .slice a1 l1 c1) (by omega)).setNe (g' := w.heap.size) (j := 1) (y := .slice a2 l2 c2) (by omega)).setNe (g' := w.heap.size) (j := 2) (y := .slice a3 l3 c3) (by omega)).setNe (g' := w.heap.size) (j := 3) (y := .slice a4 l4 c4) (by omega)
  have P14 := (((R1.set 0 (.slice a1 l1 c1)).set 1 (.slice a2 l2 c2)).set 2 (.slice a3 l3 c3)).set 3 (.slice a4 l4 c4)
  have P20 := (((((P14.setNe (g' := w.heap.size + 1) (j := 0) (y := .int .i64 kd') (by omega)).setNe (g' := w.heap.size + 1) (j := 1) (y := .int .i64 pl') (by omega)).setNe (g' := w.heap.size + 1) (j := 2) (y := .int .i64 nn') (by omega)).setNe (g' := w.heap.size + 1) (j := 3) (y := .slice q1' m1' k1') (by omega)).setNe (g' := w.heap.size + 1) (j := 4) (y := .slice q2' m2' k2') (by omega)).setNe (g' := w.heap.size + 1) (j := 5) (y := .int .i64 wa') (by omega)
  have R20 := (((((R14.set 0 (.int .i64 kd')).set 1 (.int .i64 pl')).set 2 (.int .i64 nn')).set 3 (.slice q1' m1' k1')).set 4 (.slice q2' m2' k2')).set 5 (.int .i64 wa')
  have HF : Hid (DrawnS w (.returned (.tuple #[dv a1 a2 a3 a4 l1 l2 l3 l4 c1 c2 c3 c4, rq kd' pl' nn' wa' q1' q2' m1' m2' k1' k2'])) ((((((((((z.setCell ⟨w.heap.size, 0, none⟩ (.slice a1 l1 c1)).setCell ⟨w.heap.size, 1, none⟩ (.slice a2 l2 c2)).setCell ⟨w.heap.size, 2, none⟩ (.slice a3 l3 c3)).setCell ⟨w.heap.size, 3, none⟩ (.slice a4 l4 c4)).setCell ⟨w.heap.size + 1, 0, none⟩ (.int .i64 kd')).setCell ⟨w.heap.size + 1, 1, none⟩ (.int .i64 pl')).setCell ⟨w.heap.size + 1, 2, none⟩ (.int .i64 nn')).setCell ⟨w.heap.size + 1, 3, none⟩ (.slice q1' m1' k1')).setCell ⟨w.heap.size + 1, 4, none⟩ (.slice q2' m2' k2')).setCell ⟨w.heap.size + 1, 5, none⟩ (.int .i64 wa'))) :=
    ⟨_, _, _, _, _, _, _, _, _, _, _, _, _, _, _, _, _, _, _, _, _, _, _, _, _, _, _, _, rfl, HSM.out, ⟨rowp_set6 (row_set4 D10.r1 ⟨_, R1⟩ (by decide)) ⟨_, R14⟩ (by decide), rowp_set6 (row_set4 D10.r2 ⟨_, R1⟩ (by decide)) ⟨_, R14⟩ (by decide), rowp_set6 (row_set4 D10.r3 ⟨_, R1⟩ (by decide)) ⟨_, R14⟩ (by decide), rowp_set6 (row_set4 D10.r4 ⟨_, R1⟩ (by decide)) ⟨_, R14⟩ (by decide)⟩, hm1, hm2, rowp_set6 (row_set4 i10 ⟨_, R1⟩ (by decide)) ⟨_, R14⟩ (by decide), rowp_set6 (row_set4 j10 ⟨_, R1⟩ (by decide)) ⟨_, R14⟩ (by decide), belp_set6 (bel_set4 B10 (Nat.le_refl _)) (Nat.le_succ _)⟩
  obtain ⟨x0, x1, x2, x3⟩ := X10.four
  obtain ⟨y0, y1, y2, y3, y4, y5⟩ := Y10.six
  obtain ⟨t0, t1, t2, t3, t4, t5⟩ := Y14.six
  obtain ⟨r0, r1, r2, r3⟩ := R1.four
  obtain ⟨s0, s1, s2, s3, s4, s5⟩ := R14.six
  obtain ⟨u0, u1, u2, u3⟩ := P20.four
  obtain ⟨v0, v1, v2, v3, v4, v5⟩ := R20.six
  have f1 := R1.fro
  have f2 := R14.fro
  have HZ : Hid (z = wc.drew) := hz
  clear X9 Y9 D9 i9 j9 C9 R1 R2 B10 hm1 hm2 X8 Y8 D8 i8 j8 C8 hVz hVz5 hz65 hQV hz8 hzw bz hz X10 Y10 C10 D10 i10 j10 Y14 R14 P14 P20 R20
  go_upto_region 6 with fail
  refine wp_region_any (by kernel_rfl) ?_
  (try (change wpAny _ _ _ _ _ _ _ (World.drew _)))
  rw [← HZ.out]
  refine wpAny_ready (rs := [0, 1]) (by kernel_rfl) (by simp) ?_
  refine AllReady.cons rfl (fun K hK => ?_) ?_
  · skip
    go_simp
    refine hK _ _ ?_
    clear hK K
    refine wpAny_ready (rs := [1, 2]) (by kernel_rfl) (by simp) ?_
    refine AllReady.cons rfl (fun K hK => ?_) ?_
    · skip
      go_simp
      refine hK _ _ ?_
      clear hK K
      refine wpAny_ready (rs := [2]) (by kernel_rfl) (by simp) ?_
      refine AllReady.cons rfl (fun K hK => ?_) AllReady.nil
      go_simp
      refine hK _ _ ?_
      clear hK K
      refine wpAny_ready (rs := [3]) (by kernel_rfl) (by simp) ?_
      refine AllReady.cons rfl (fun K hK => ?_) AllReady.nil
      go_simp
      refine hK _ _ ?_
      clear hK K
      refine wpAny_done (by kernel_rfl) ?_ _
      go_wp2
      refine bodyPost_ret (v := .tuple #[dv a1 a2 a3 a4 l1 l2 l3 l4 c1 c2 c3 c4, rq kd' pl' nn' wa' q1' q2' m1' m2' k1' k2']) (by simp [results, Try.results18, go_sem, u0, u1, u2, u3, v0, v1, v2, v3, v4, v5]) rfl ?_
      exact HF.out
    refine AllReady.cons rfl (fun K hK => ?_) AllReady.nil
    go_simp
    refine hK _ _ ?_
    clear hK K
    refine wpAny_ready (rs := [1]) (by kernel_rfl) (by simp) ?_
    refine AllReady.cons rfl (fun K hK => ?_) AllReady.nil
    go_simp
    refine hK _ _ ?_
    clear hK K
    refine wpAny_ready (rs := [3]) (by kernel_rfl) (by simp) ?_
    refine AllReady.cons rfl (fun K hK => ?_) AllReady.nil
    go_simp
    refine hK _ _ ?_
    clear hK K
    refine wpAny_done (by kernel_rfl) ?_ _
    go_wp2
    refine bodyPost_ret (v := .tuple #[dv a1 a2 a3 a4 l1 l2 l3 l4 c1 c2 c3 c4, rq kd' pl' nn' wa' q1' q2' m1' m2' k1' k2']) (by simp [results, Try.results18, go_sem, u0, u1, u2, u3, v0, v1, v2, v3, v4, v5]) rfl ?_
    exact HF.out
  refine AllReady.cons rfl (fun K hK => ?_) AllReady.nil
  go_simp
  refine hK _ _ ?_
  clear hK K
  refine wpAny_ready (rs := [0]) (by kernel_rfl) (by simp) ?_
  refine AllReady.cons rfl (fun K hK => ?_) AllReady.nil
  go_simp
  refine hK _ _ ?_
  clear hK K
  refine wpAny_ready (rs := [2]) (by kernel_rfl) (by simp) ?_
  refine AllReady.cons rfl (fun K hK => ?_) AllReady.nil
  go_simp
  refine hK _ _ ?_
  clear hK K
  refine wpAny_ready (rs := [3]) (by kernel_rfl) (by simp) ?_
  refine AllReady.cons rfl (fun K hK => ?_) AllReady.nil
  go_simp
  refine hK _ _ ?_
  clear hK K
  refine wpAny_done (by kernel_rfl) ?_ _
  go_wp2
  refine bodyPost_ret (v := .tuple #[dv a1 a2 a3 a4 l1 l2 l3 l4 c1 c2 c3 c4, rq kd' pl' nn' wa' q1' q2' m1' m2' k1' k2']) (by simp [results, Try.results18, go_sem, u0, u1, u2, u3, v0, v1, v2, v3, v4, v5]) rfl ?_
  exact HF.out

end Go.Proofs.Ytfcbkollmhjdoaa
