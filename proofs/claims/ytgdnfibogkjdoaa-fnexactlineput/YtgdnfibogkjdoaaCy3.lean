/- A line copied by the program. -/
import Derived.Test.YtgdnfibogkjdoaaCy2
import Derived.Test.YtgdnfibogkjdoaaAp1
namespace Go.Proofs.Ytgdnfibogkjdoaa
open Go.RowKit Go.Joins

set_option linter.unusedVariables false

set_option linter.unusedSimpArgs false

theorem lwr0_1 (v0 v1 v2 v3 v4 v5 v6 v7 v8 v9 v10 v11 v12 v13 v14 v15 v16 x0 : Value) : wrA #[v0, v1, v2, v3, v4, v5, v6, v7, v8, v9, v10, v11, v12, v13, v14, v15, v16] 0 [x0] = #[x0, v1, v2, v3, v4, v5, v6, v7, v8, v9, v10, v11, v12, v13, v14, v15, v16] := by simp [wrA]

theorem row_noT {w w' : World} {base s n g : Nat} {e t : TypeId} {v : Value} {xs : List Value} (h : w.ownsRow base e s v n xs) (hg : w.grownBy w' (some g)) (hx : ExB w g t) (ht : t ≠ e) : w'.ownsRow base e s v n xs := by
  obtain ⟨cs, hb⟩ := hx
  exact World.ownsRow.kept h hg (.inr (row_noBlk h hb ht))

/-- Where k calls have been copied. -/
def CopyI (wr : World) (g n k : Nat) (f : Nat → Ca) : Prop := ∃ (F : Nat → List Value) (β : Nat → Nat), RowS wr g 30 9 n F ∧ InE wr g β F (fun k => caE (f k)) k ∧ β k ≤ wr.heap.size

theorem CopyI.below {w w' : World} {g n k : Nat} {f : Nat → Ca} (h : CopyI w g n k f) (hb : Below w.heap.size w w') : CopyI w' g n k f := by
  obtain ⟨F, β, h1, h2, h3⟩ := h
  exact ⟨F, β, h1.below hb, h2.below hb, Nat.le_trans h3 hb.size⟩

theorem CopyI.push {u : World} {g n k lo : Nat} {f : Nat → Ca} {C : Ca} {r1 r2 : Option Addr} {l1 l2 d1 d2 : Nat} (h : CopyI u g n k f) (hk : k < n) (hC : C = f k) (h1 : l1 = C.ws.length) (h2 : l2 = C.bs.length) (hz : ∀ (F : Nat → List Value) (β : Nat → Nat), InE u g β F (fun k => caE (f k)) k → True) (w0 : World) (h0 : CopyI w0 g n k f) (hb : Below w0.heap.size w0 u) (hlo : w0.heap.size ≤ lo) (i1 : OwnI u lo (.slice r1 l1 d1) C.ws) (i2 : OwnB u lo (.slice r2 l2 d2) C.bs) (hlu : lo ≤ u.heap.size) :
    CopyI (setL u g (k * 9) (calL C r1 r2 l1 l2 d1 d2)) g n (k + 1) f := by
  obtain ⟨F, β, q1, q2, q3⟩ := h0
  have R1 := q1.below hb
  have I1 := q2.below hb
  have hp := I1.push (lo := lo) (vs := calL C r1 r2 l1 l2 d1 d2) (E := caE C) (Nat.le_trans q3 hlo) hlu ⟨r1, r2, d1, d2, cal_els _ _ _ _ _ _ _ h1 h2, by show OwnI _ _ (.slice _ C.ws.length _) C.ws; rw [← h1]; exact i1, by show OwnB _ _ (.slice _ C.bs.length _) C.bs; rw [← h2]; exact i2, fun x hx => by have hx' : (Value.slice r1 C.ws.length d1).ownBlock = some x := hx; rw [← h1] at hx'; exact (World.ownsRow.lt i1 x hx').2, fun x hx => by have hx' : (Value.slice r2 C.bs.length d2).ownBlock = some x := hx; rw [← h2] at hx'; exact (World.ownsRow.lt i2 x hx').2⟩
  have hg : u.grownBy (setL u g (k * 9) (calL C r1 r2 l1 l2 d1 d2)) (some g) := setL_gw _ _ _
  refine ⟨_, _, R1.set hk _ rfl, (hp.congr (fun _ _ => rfl) (H := fun k => caE (f k)) (fun i hi => by by_cases e : i = k; (subst e; simp [hC]); simp [e])).keptT hg R1.rowO.exB (by decide) (by decide), ?_⟩
  simp only [if_neg (show ¬ k + 1 ≤ k by omega)]
  exact hg.size

set_option maxRecDepth 20000 in
set_option maxHeartbeats 4000000 in
theorem copyLine_any (L : La) (a a1 a2 : Option Addr) (n cp l1 l2 c1 c2 : Nat) (f : Nat → Ca) (w : World) (hs : LnR w n f L a a1 a2 l1 l2) (hb : BdC n f) (hl1 : l1 ≤ 2000000) (hl2 : l2 ≤ 2000000) :
    Calls Try.prog 33 #[.agg (lac L a n cp a1 a2 l1 l2 c1 c2)] w fun e w' => LnQ w w' e n f L l1 l2 := by
  have hn := hb.1
  have hmk := run_make_st (P := Try.prog) 24 30 (.agg ca0c) 9 104 Try.underlying24 Try.info30 .i64 .i64 n (by omega) (by omega)
  obtain ⟨B, hB⟩ : ∃ B, B = w.heap.size := ⟨_, rfl⟩
  obtain ⟨W, hW⟩ : ∃ W, W = (w.alloc (.cells (lac L a n cp a1 a2 l1 l2 c1 c2) 32)).alloc (.cells lzc 32) := ⟨_, rfl⟩
  have bW : Below w.heap.size w W := by rw [hW]; exact bel_nx (bel_alloc w _) (bel_alloc _ _)
  have A0 : Blk W B 32 (lac L a n cp a1 a2 l1 l2 c1 c2) := by rw [hW, hB]; exact (Blk.new w _ _).below (bel_alloc _ _)
  have R0 : Blk W (B + 1) 32 lzc := by
    rw [hW, hB]; have := Blk.new (w.alloc (.cells (lac L a n cp a1 a2 l1 l2 c1 c2) 32)) lzc 32; simpa using this
  obtain ⟨g, hg⟩ : ∃ g, g = W.heap.size := ⟨_, rfl⟩
  have H0 : Hid (LnR W n f L a a1 a2 l1 l2 ∧ Below w.heap.size w W ∧ Blk W B 32 (lac L a n cp a1 a2 l1 l2 c1 c2) ∧ Blk W (B + 1) 32 lzc ∧ BdC n f ∧ g = W.heap.size ∧ w.heap.size = B ∧ B + 1 + 1 = g) := ⟨hs.below bW, bW, A0, R0, hb, hg, hB.symm, by rw [hg, hW, hB]; simp⟩
  obtain ⟨⟨y0, y1, y2, y3, y4, y5, y6, y7, y8, y9, y10, y11, y12, y13, y14, y15, y16⟩, yf⟩ := A0.svn
  clear hs bW A0 R0 hb yf
  go_enter Try.func33, Try.ntmps33
  go_upto_region 1 with fail
  have hB1 : w.heap.size + 1 = B + 1 := by omega
  rw [← hW, hB1, ← hB]
  clear hW hB hB1
  have hmk1 := hmk W
  rw [← hg] at hmk1
  clear hmk hg
  have v0 : (W.alloc (.cells (madeCells ca0c (n * 9)) 30)).cell? ⟨B, 0, none⟩ = some (.slice a n cp) := (H0.out.2.2.1.below (bel_alloc W (.cells (madeCells ca0c (n * 9)) 30))).cell 0 rfl
  go_wp2
  clear hmk1 v0 y0 y1 y2 y3 y4 y5 y6 y7 y8 y9 y10 y11 y12 y13 y14 y15 y16
  go_loopw [13] (fun i wr => ∃ k : Nat, k ≤ n ∧ i = .int .i64 k ∧ CopyI wr g n k f ∧ Below W.heap.size W wr) (fun i _ => n - (intOf i).toNat)
  case atStart =>
    refine ⟨0, Nat.zero_le _, rfl, ⟨fun _ => ca0c.toList, fun _ => g, ?_, InE.start _ _ _ _, ?_⟩, (Below.refl _ _).alloc (Nat.le_refl _) _⟩
    · have h9 := RowS.made W ca0c.toList n 30 (by simp)
      rw [H0.out.2.2.2.2.2.1]
      exact h9
    · rw [H0.out.2.2.2.2.2.1]; simp
  case round =>
    obtain ⟨k, hk, rfl, hcp, hbl⟩ := hrel
    by_cases hlt : k < n
    · have hi : (k : Int) < (n : Int) := by omega
      obtain ⟨b, off, b1, b2, m1, m2, k1, k2, rfl, hb0, hm1, hm2, ⟨e0, e1, e2, e3, e4, e5, e6, e7, e8⟩, s1, s2⟩ := SlC.nine (H0.out.1.2.2.1.below hbl) hlt
      have hbd := H0.out.2.2.2.2.1.2 k hlt
      obtain ⟨C, hC⟩ : ∃ C, C = f k := ⟨_, rfl⟩
      rw [← hC] at e0 e1 e2 e3 e4 e5 e8 hm1 hm2 s1 s2
      have HS : Hid (SlI wr b1 C.ws ∧ SlB wr b2 C.bs ∧ m1 = C.ws.length ∧ m2 = C.bs.length ∧ m1 ≤ 2000000 ∧ m2 ≤ 2000000 ∧ C = f k ∧ CopyI wr g n k f ∧ Below W.heap.size W wr) := ⟨s1, s2, hm1, hm2, by rw [hm1, hC]; exact hbd.1, by rw [hm2, hC]; exact hbd.2, hC, hcp, hbl⟩
      clear s1 s2 hm1 hm2 hC hbd hb0 hcp hbl
      go_wp2_with fail
      refine (implCopyCall_any C b1 b2 m1 m2 k1 k2 _ HS.out.2.2.1 HS.out.2.2.2.1 (HS.out.1.below (bel_alloc _ _)) (HS.out.2.1.below (bel_alloc _ _)) HS.out.2.2.2.2.1 HS.out.2.2.2.2.2.1).mono ?_
      rintro e w1 ⟨r1, r2, d1, d2, rfl, i1, i2, b9⟩
      have hb1 : Below wr.heap.size wr w1 := bel_nx (bel_alloc _ _) b9
      obtain ⟨F, β, q1, q2, q3⟩ := HS.out.2.2.2.2.2.2.2.1.below hb1
      obtain ⟨p0x, p0⟩ : ∃ v, w1.cell? ⟨g, k * 9, none⟩ = some v := q1.ex hlt (j := 0) (by decide)
      obtain ⟨p1x, p1⟩ : ∃ v, w1.cell? ⟨g, k * 9 + 1, none⟩ = some v := q1.ex hlt (j := 1) (by decide)
      obtain ⟨p2x, p2⟩ : ∃ v, w1.cell? ⟨g, k * 9 + 2, none⟩ = some v := q1.ex hlt (j := 2) (by decide)
      obtain ⟨p3x, p3⟩ : ∃ v, w1.cell? ⟨g, k * 9 + 3, none⟩ = some v := q1.ex hlt (j := 3) (by decide)
      obtain ⟨p4x, p4⟩ : ∃ v, w1.cell? ⟨g, k * 9 + 4, none⟩ = some v := q1.ex hlt (j := 4) (by decide)
      obtain ⟨p5x, p5⟩ : ∃ v, w1.cell? ⟨g, k * 9 + 5, none⟩ = some v := q1.ex hlt (j := 5) (by decide)
      obtain ⟨p6x, p6⟩ : ∃ v, w1.cell? ⟨g, k * 9 + 6, none⟩ = some v := q1.ex hlt (j := 6) (by decide)
      obtain ⟨p7x, p7⟩ : ∃ v, w1.cell? ⟨g, k * 9 + 7, none⟩ = some v := q1.ex hlt (j := 7) (by decide)
      obtain ⟨p8x, p8⟩ : ∃ v, w1.cell? ⟨g, k * 9 + 8, none⟩ = some v := q1.ex hlt (j := 8) (by decide)
      have q0 := q1.fro (k * 9)
      have t1 := q1.fro (k * 9 + 1)
      have t2 := q1.fro (k * 9 + 2)
      have t3 := q1.fro (k * 9 + 3)
      have t4 := q1.fro (k * 9 + 4)
      have t5 := q1.fro (k * 9 + 5)
      have t6 := q1.fro (k * 9 + 6)
      have t7 := q1.fro (k * 9 + 7)
      have t8 := q1.fro (k * 9 + 8)
      obtain ⟨W2, hW2⟩ : ∃ W2, W2 = setL w1 g (k * 9) (calL C r1 r2 m1 m2 d1 d2) := ⟨_, rfl⟩
      have H2 : Hid (CopyI W2 g n (k + 1) f ∧ Below W.heap.size W W2) := by
        rw [hW2]
        exact ⟨CopyI.push (lo := wr.heap.size) (HS.out.2.2.2.2.2.2.2.1.below hb1) hlt HS.out.2.2.2.2.2.2.1 HS.out.2.2.1 HS.out.2.2.2.1 (fun _ _ _ => trivial) wr HS.out.2.2.2.2.2.2.2.1 hb1 (Nat.le_refl _) (OwnI.mono (show OwnI _ _ _ _ from i1) (by simp)) (OwnB.mono (show OwnB _ _ _ _ from i2) (by simp)) hb1.size, setL_below (by have := H0.out.2.2.2.2.2.1; omega) _ _ _ (bel_nx HS.out.2.2.2.2.2.2.2.2 hb1)⟩
      have hW2' : W2 = (((((((((w1.setCell ⟨g, k * 9, none⟩ (.int .i64 C.id)).setCell ⟨g, k * 9 + 1, none⟩ (.int .i64 C.pa)).setCell ⟨g, k * 9 + 2, none⟩ (.int .i64 C.un)).setCell ⟨g, k * 9 + 3, none⟩ (.int .i64 C.kd)).setCell ⟨g, k * 9 + 4, none⟩ (.int .i64 C.pl)).setCell ⟨g, k * 9 + 5, none⟩ (.int .i64 C.n)).setCell ⟨g, k * 9 + 6, none⟩ (.slice r1 m1 d1)).setCell ⟨g, k * 9 + 7, none⟩ (.slice r2 m2 d2)).setCell ⟨g, k * 9 + 8, none⟩ (.int .i64 C.wa)) := hW2
      clear q1 q2 q3 b9 hb1 HS i1 i2 e0 e1 e2 e3 e4 e5 e6 e7 e8 hW2
      go_wp2
      rw [← hW2']
      clear hW2'
      go_roundw
      case rel => exact ⟨k + 1, by omega, by go_num, H2.out.1, H2.out.2⟩
      case measure => simp [intOf]; omega
    · have hi : ¬ (k : Int) < (n : Int) := by omega
      have e9 : k = n := by omega
      subst e9
      have HS : Hid (CopyI wr g k k f ∧ Below W.heap.size W wr) := ⟨hcp, hbl⟩
      have hwB : Hid (w.heap.size = B) := H0.out.2.2.2.2.2.2.1
      obtain ⟨⟨y0, y1, y2, y3, y4, y5, y6, y7, y8, y9, y10, y11, y12, y13, y14, y15, y16⟩, yf⟩ := (H0.out.2.2.1.below hbl).svn
      clear hcp hbl yf
      go_wp2_with fail
      refine (implCopyCall_any L.c a1 a2 l1 l2 c1 c2 _ (H0.out.1.below HS.out.2).1 (H0.out.1.below HS.out.2).2.1 (H0.out.1.below HS.out.2).2.2.2.1 (H0.out.1.below HS.out.2).2.2.2.2 hl1 hl2).mono ?_
      rintro e w2 ⟨r1, r2, d1, d2, rfl, i1, i2, b2⟩
      clear y0 y1 y2 y3 y4 y5 y6 y7 y8 y9 y10 y11 y12 y13 y14 y15 y16
      have A2 := (H0.out.2.2.1.below HS.out.2).below b2
      obtain ⟨⟨y0, y1, y2, y3, y4, y5, y6, y7, y8, y9, y10, y11, y12, y13, y14, y15, y16⟩, yf⟩ := A2.svn
      have yg0 := yf 0; have yg2 := yf 2; have yg3 := yf 3; have yg4 := yf 4; have yg5 := yf 5; have yg6 := yf 6; have yg7 := yf 7; have yg8 := yf 8; have yg9 := yf 9; have yg10 := yf 10
      obtain ⟨W4, hW4⟩ : ∃ W4, W4 = setL (setL w2 B 0 [.slice (some ⟨g, 0, none⟩) k k]) B 2 [.int .i64 L.c.id, .int .i64 L.c.pa, .int .i64 L.c.un, .int .i64 L.c.kd, .int .i64 L.c.pl, .int .i64 L.c.n, .slice r1 l1 d1, .slice r2 l2 d2, .int .i64 L.c.wa] := ⟨_, rfl⟩
      have H4 : Hid (LnO W4 w.heap.size k f L (some ⟨g, 0, none⟩) k r1 r2 l1 l2 d1 d2 ∧ Below w.heap.size w W4 ∧ Blk W4 B 32 (lac L (some ⟨g, 0, none⟩) k k r1 r2 l1 l2 d1 d2) ∧ Blk W4 (B + 1) 32 lzc) := by
        have h0 := H0.out
        have g1 : w2.grownBy (setL w2 B 0 [.slice (some ⟨g, 0, none⟩) k k]) (some B) := setL_gw _ _ _
        have g2 : (setL w2 B 0 [.slice (some ⟨g, 0, none⟩) k k]).grownBy W4 (some B) := by rw [hW4]; exact setL_gw _ _ _
        have hz := HS.out.2.size
        have hwr : w.heap.size ≤ wr.heap.size := Nat.le_trans h0.2.1.size hz
        obtain ⟨F, β, q1, q2, q3⟩ := HS.out.1
        have E1 : Blk (setL w2 B 0 [.slice (some ⟨g, 0, none⟩) k k]) B 32 (lac L (some ⟨g, 0, none⟩) k k a1 a2 l1 l2 c1 c2) := by
          rw [show lac L (some ⟨g, 0, none⟩) k k a1 a2 l1 l2 c1 c2 = wrA (lac L a k cp a1 a2 l1 l2 c1 c2) 0 [.slice (some ⟨g, 0, none⟩) k k] from (lwr0_1 _ _ _ _ _ _ _ _ _ _ _ _ _ _ _ _ _ _).symm]; exact Blk.stL _ _ A2
        refine ⟨⟨h0.1.1, h0.1.2.1, F, β, ?_, ?_, ?_, ?_, ?_, fun x hx j hj ho => ?_, fun x hx j hj ho => ?_⟩, ?_, ?_, ?_⟩
        · exact (((q1.below b2).kept g1 (by intro e9; have := Option.some.inj e9; omega)).kept g2 (by intro e9; have := Option.some.inj e9; omega)).own q2.len9 (by decide) (by omega) (by unfold maxLen; omega)
        · exact ((((q2.below b2).keptLt g1 (by omega)).keptLt g2 (by omega))).mono (by omega)
        · have := b2.size; have := g1.size; have := g2.size; omega
        · exact OwnI.mono (show OwnI _ _ _ _ from row_noT (row_noT i1 g1 ⟨_, A2⟩ (by decide)) g2 ⟨_, E1⟩ (by decide)) hwr
        · exact OwnB.mono (show OwnB _ _ _ _ from row_noT (row_noT i2 g1 ⟨_, A2⟩ (by decide)) g2 ⟨_, E1⟩ (by decide)) hwr
        · have := (World.ownsRow.lt i1 x hx).1; have := (q2.ob hj ho).2.1; omega
        · have := (World.ownsRow.lt i2 x hx).1; have := (q2.ob hj ho).2.1; omega
        · rw [hW4]; exact setL_below (by omega) _ _ _ (setL_below (by omega) _ _ _ (bel_nx (bel_nx h0.2.1 HS.out.2) b2))
        · rw [hW4, show lac L (some ⟨g, 0, none⟩) k k r1 r2 l1 l2 d1 d2 = wrA (lac L (some ⟨g, 0, none⟩) k k a1 a2 l1 l2 c1 c2) 2 [.int .i64 L.c.id, .int .i64 L.c.pa, .int .i64 L.c.un, .int .i64 L.c.kd, .int .i64 L.c.pl, .int .i64 L.c.n, .slice r1 l1 d1, .slice r2 l2 d2, .int .i64 L.c.wa] from (lwr2_9 _ _ _ _ _ _ _ _ _ _ _ _ _ _ _ _ _ _ _ _ _ _ _ _ _ _).symm]; exact Blk.stL _ _ E1
        · rw [hW4]; exact Blk.stNe (by omega) _ _ (Blk.stNe (by omega) _ _ ((h0.2.2.2.1.below HS.out.2).below b2))
      have hW4' : W4 = ((((((((((w2.setCell ⟨B, 0, none⟩ (.slice (some ⟨g, 0, none⟩) k k)).setCell ⟨B, 2, none⟩ (.int .i64 L.c.id)).setCell ⟨B, 3, none⟩ (.int .i64 L.c.pa)).setCell ⟨B, 4, none⟩ (.int .i64 L.c.un)).setCell ⟨B, 5, none⟩ (.int .i64 L.c.kd)).setCell ⟨B, 6, none⟩ (.int .i64 L.c.pl)).setCell ⟨B, 7, none⟩ (.int .i64 L.c.n)).setCell ⟨B, 8, none⟩ (.slice r1 l1 d1)).setCell ⟨B, 9, none⟩ (.slice r2 l2 d2)).setCell ⟨B, 10, none⟩ (.int .i64 L.c.wa)) := by rw [hW4]; simp only [setL, Nat.reduceAdd, Nat.zero_add]
      clear A2 hW4 i1 i2 b2 H0 HS
      go_upto_region 8 with fail
      rw [← hW4']
      clear hW4' y0 y1 y2 y3 y4 y5 y6 y7 y8 y9 y10 y11 y12 y13 y14 y15 y16 yf yg0 yg2 yg3 yg4 yg5 yg6 yg7 yg8 yg9 yg10
      refine wp_region_lit ?_
      refine wpList_load_mid rfl 32 (.tmp 1) rfl B 0 rfl (lacL L (some ⟨g, 0, none⟩) k k r1 r2 l1 l2 d1 d2) _ H4.out.2.2.1.all Try.underlying32 rfl (by kernel_rfl) ?_
      refine wpList_store_mid rfl 32 (.tmp 2) (.tmp 30) rfl (B + 1) 0 (lac L (some ⟨g, 0, none⟩) k k r1 r2 l1 l2 d1 d2) rfl rfl (H4.out.2.2.2.there 0 17 (by simp)) (by kernel_rfl) (by simp [Value.oneCell']) ?_
      rw [setCells_L]
      refine wpList_nil ?_
      obtain ⟨W5, hW5⟩ : ∃ W5, W5 = setL W4 (B + 1) 0 (lacL L (some ⟨g, 0, none⟩) k k r1 r2 l1 l2 d1 d2) := ⟨_, rfl⟩
      have H5 : Hid (LnO W5 w.heap.size k f L (some ⟨g, 0, none⟩) k r1 r2 l1 l2 d1 d2 ∧ Below w.heap.size w W5 ∧ Blk W5 (B + 1) 32 (lac L (some ⟨g, 0, none⟩) k k r1 r2 l1 l2 d1 d2)) := by
        have g1 : W4.grownBy W5 (some (B + 1)) := by rw [hW5]; exact setL_gw _ _ _
        exact ⟨H4.out.1.keptT g1 ⟨_, H4.out.2.2.2⟩ (by decide) (by decide) (by decide), by rw [hW5]; exact setL_below (by have := (H4.out.2.2.1).lt; have := hwB.out; omega) _ _ _ H4.out.2.1, by rw [hW5, show lac L (some ⟨g, 0, none⟩) k k r1 r2 l1 l2 d1 d2 = wrA lzc 0 (lacL L (some ⟨g, 0, none⟩) k k r1 r2 l1 l2 d1 d2) from (lwr0_17 _ _ _ _ _ _ _ _ _ _ _ _ _ _ _ _ _ _ _ _ _ _ _ _ _ _ _ _ _ _ _ _ _ _).symm]; exact Blk.stL _ _ H4.out.2.2.2⟩
      rw [show setL W4 (B + 1) 0 (lac L (some ⟨g, 0, none⟩) k k r1 r2 l1 l2 d1 d2).toList = W5 from hW5.symm]
      clear hW5 H4
      go_wp2
      refine bodyPost_ret (v := .agg (lac L (some ⟨g, 0, none⟩) k k r1 r2 l1 l2 d1 d2)) (results_cell Try.results33 rfl (run_loadVar_mid _ _ _ 32 (lacL L (some ⟨g, 0, none⟩) k k r1 r2 l1 l2 d1 d2) _ H5.out.2.2.all Try.underlying32 rfl (by kernel_rfl))) rfl ?_
      exact ⟨_, _, _, _, _, _, rfl, H5.out.1, H5.out.2.1⟩

end Go.Proofs.Ytgdnfibogkjdoaa
