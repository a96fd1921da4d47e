/- A line copied. -/
import Derived.Test.YtmhdneenjoelfaaLn1
import Derived.Test.YtmhdneenjoelfaaMid
namespace Go.Proofs.Ytmhdneenjoelfaa
open Go.RowKit Go.Joins

set_option linter.unusedVariables false

set_option linter.unusedSimpArgs false

set_option maxRecDepth 20000 in
set_option maxHeartbeats 4000000 in
theorem toLine_any (L : La) (a a1 a2 : Option Addr) (n cp l1 l2 c1 c2 : Nat) (f : Nat → Ca) (w : World) (hs : LnR w n f L a a1 a2 l1 l2) (hb : BdC n f) (hl1 : l1 ≤ 2000000) (hl2 : l2 ≤ 2000000) :
    Calls Try.prog 14 #[.agg (lac L a n cp a1 a2 l1 l2 c1 c2)] w fun e w' => ∃ g g1 g2, e = .returned (.agg (lac L (some ⟨g, 0, none⟩) n n (some ⟨g1, 0, none⟩) (some ⟨g2, 0, none⟩) l1 l2 l1 l2)) ∧ LnP w' w.heap.size n f L (some ⟨g, 0, none⟩) n (some ⟨g1, 0, none⟩) (some ⟨g2, 0, none⟩) l1 l2 l1 l2 ∧ Below w.heap.size w w' := by
  obtain ⟨W, hW⟩ : ∃ W, W = ((w.alloc (.cells (lac L a n cp a1 a2 l1 l2 c1 c2) 50)).alloc (.cells lzc 32)).alloc (.cells lzc 32) := ⟨_, rfl⟩
  have bW : Below w.heap.size w W := by rw [hW]; exact bel_nx (bel_nx (bel_alloc w _) (bel_alloc _ _)) (bel_alloc _ _)
  have A0 : Blk W w.heap.size 50 (lac L a n cp a1 a2 l1 l2 c1 c2) := by rw [hW]; exact ((Blk.new w _ _).below (bel_alloc _ _)).below (bel_alloc _ _)
  have R0 : Blk W (w.heap.size + 1) 32 lzc := by
    rw [hW]; have := (Blk.new (w.alloc (.cells (lac L a n cp a1 a2 l1 l2 c1 c2) 50)) lzc 32).below (bel_alloc _ (.cells lzc 32)); simpa using this
  have O0 : Blk W (w.heap.size + 1 + 1) 32 lzc := by
    rw [hW]; have := Blk.new ((w.alloc (.cells (lac L a n cp a1 a2 l1 l2 c1 c2) 50)).alloc (.cells lzc 32)) lzc 32; simpa using this
  have hz : W.heap.size = w.heap.size + 1 + 1 + 1 := by rw [hW]; simp
  have H0 : Hid (LnR W n f L a a1 a2 l1 l2 ∧ Below w.heap.size w W ∧ Blk W w.heap.size 50 (lac L a n cp a1 a2 l1 l2 c1 c2) ∧ Blk W (w.heap.size + 1) 32 lzc ∧ Blk W (w.heap.size + 1 + 1) 32 lzc ∧ BdC n f ∧ W.heap.size = w.heap.size + 1 + 1 + 1) := ⟨hs.below bW, bW, A0, R0, O0, hb, hz⟩
  obtain ⟨⟨y0, y1, y2, y3, y4, y5, y6, y7, y8, y9, y10, y11, y12, y13, y14, y15, y16⟩, yf⟩ := A0.svn
  have HR0 : Hid (LnR w n f L a a1 a2 l1 l2) := hs
  clear hs bW A0 R0 O0 hb yf hz
  go_enter Try.func14, Try.ntmps14
  go_upto_region 2 with fail
  rw [← hW]
  clear hW
  go_wp2_with fail
  refine (toCallS_any a n cp f _ H0.out.1.2.2.1 H0.out.2.2.2.2.2.1).mono ?_
  rintro e w1 ⟨rfl, m1, b1⟩
  obtain ⟨g, hg⟩ : ∃ g, g = W.heap.size := ⟨_, rfl⟩
  rw [← hg] at m1 ⊢
  have HG : Hid (g = w.heap.size + 1 + 1 + 1) := by show _ = _; rw [hg]; exact H0.out.2.2.2.2.2.2
  clear y0 y1 y2 y3 y4 y5 y6 y7 y8 y9 y10 y11 y12 y13 y14 y15 y16
  have A1 := H0.out.2.2.1.below b1
  have R1 := H0.out.2.2.2.1.below b1
  have O1 := H0.out.2.2.2.2.1.below b1
  obtain ⟨⟨y0, y1, y2, y3, y4, y5, y6, y7, y8, y9, y10, y11, y12, y13, y14, y15, y16⟩, yf⟩ := A1.svn
  obtain ⟨⟨z0, z1, z2, z3, z4, z5, z6, z7, z8, z9, z10, z11, z12, z13, z14, z15, z16⟩, zf⟩ := O1.svn
  have zg0 := zf 0; have zg1 := zf 1
  obtain ⟨W2, hW2⟩ : ∃ W2, W2 = setL w1 (w.heap.size + 1 + 1) 0 [.slice (some ⟨g, 0, none⟩) n n, .bool L.bz] := ⟨_, rfl⟩
  have H1 : Hid (OwnL W2 g 30 9 (.slice (some ⟨g, 0, none⟩) n n) n (fun k => caE (f k)) ∧ LnR W2 n f L a a1 a2 l1 l2 ∧ Below w.heap.size w W2 ∧ Blk W2 w.heap.size 50 (lac L a n cp a1 a2 l1 l2 c1 c2) ∧ Blk W2 (w.heap.size + 1) 32 lzc ∧ Blk W2 (w.heap.size + 1 + 1) 32 #[.slice (some ⟨g, 0, none⟩) n n, .bool L.bz, .int .i64 0, .int .i64 0, .int .i64 0, .int .i64 0, .int .i64 0, .int .i64 0, .slice none 0 0, .slice none 0 0, .int .i64 0, .int .i64 0, .int .i64 0, .int .i64 0, .int .i64 0, .int .i64 0, .int .i64 0] ∧ MadeL W2 g 30 9 n (fun k => caE (f k)) ∧ g ≤ W2.heap.size) := by
    have hg1 : w1.grownBy W2 (some (w.heap.size + 1 + 1)) := by rw [hW2]; exact setL_gw _ _ _
    have hge := HG.out
    have M2 : MadeL W2 g 30 9 n (fun k => caE (f k)) := by
      obtain ⟨F, β, q1, q2, q3⟩ := m1
      exact ⟨F, β, q1.kept hg1 (by intro e9; have := Option.some.inj e9; omega), q2.keptLt hg1 (by omega), Nat.le_trans q3 hg1.size⟩
    have bb : Below w.heap.size w W2 := by rw [hW2]; exact setL_below (by omega) _ _ _ (bel_nx H0.out.2.1 b1)
    refine ⟨M2.own, ?_, bb, by rw [hW2]; exact Blk.stNe (by omega) _ _ A1, by rw [hW2]; exact Blk.stNe (by omega) _ _ R1, by rw [hW2, show (#[.slice (some ⟨g, 0, none⟩) n n, .bool L.bz, .int .i64 0, .int .i64 0, .int .i64 0, .int .i64 0, .int .i64 0, .int .i64 0, .slice none 0 0, .slice none 0 0, .int .i64 0, .int .i64 0, .int .i64 0, .int .i64 0, .int .i64 0, .int .i64 0, .int .i64 0] : Array Value) = wrA lzc 0 [.slice (some ⟨g, 0, none⟩) n n, .bool L.bz] from (lwr0_2 _ _ _ _ _ _ _ _ _ _ _ _ _ _ _ _ _ _ _).symm]; exact Blk.stL _ _ O1, M2, by have := b1.size; have := hg1.size; omega⟩
    exact HR0.out.below bb
  have hW2' : W2 = ((w1.setCell ⟨w.heap.size + 1 + 1, 0, none⟩ (.slice (some ⟨g, 0, none⟩) n n)).setCell ⟨w.heap.size + 1 + 1, 1, none⟩ (.bool L.bz)) := by rw [hW2]; simp only [setL, Nat.reduceAdd, Nat.zero_add]
  clear m1 b1 A1 R1 O1 hW2 hg
  go_upto_region 4 with fail
  rw [← hW2']
  clear hW2' y0 y1 y2 y3 y4 y5 y6 y7 y8 y9 y10 y11 y12 y13 y14 y15 y16 z0 z1 z2 z3 z4 z5 z6 z7 z8 z9 z10 z11 z12 z13 z14 z15 z16 zf yf zg0 zg1
  obtain ⟨⟨y0, y1, y2, y3, y4, y5, y6, y7, y8, y9, y10, y11, y12, y13, y14, y15, y16⟩, yf⟩ := H1.out.2.2.2.1.svn
  clear yf
  go_wp2_with fail
  refine (toCall_any L.c a1 a2 l1 l2 c1 c2 _ H1.out.2.1.1 H1.out.2.1.2.1 H1.out.2.1.2.2.2.1 H1.out.2.1.2.2.2.2 hl1 hl2).mono ?_
  rintro e w3 ⟨g1, g2, rfl, i1, i2, b3⟩
  clear y0 y1 y2 y3 y4 y5 y6 y7 y8 y9 y10 y11 y12 y13 y14 y15 y16
  have A3 := H1.out.2.2.2.1.below b3
  have R3 := H1.out.2.2.2.2.1.below b3
  have O3 := H1.out.2.2.2.2.2.1.below b3
  obtain ⟨⟨y0, y1, y2, y3, y4, y5, y6, y7, y8, y9, y10, y11, y12, y13, y14, y15, y16⟩, yf⟩ := A3.svn
  obtain ⟨⟨z0, z1, z2, z3, z4, z5, z6, z7, z8, z9, z10, z11, z12, z13, z14, z15, z16⟩, zf⟩ := O3.svn
  have zg2 := zf 2; have zg3 := zf 3; have zg4 := zf 4; have zg5 := zf 5; have zg6 := zf 6; have zg7 := zf 7; have zg8 := zf 8; have zg9 := zf 9; have zg10 := zf 10
  obtain ⟨W4, hW4⟩ : ∃ W4, W4 = setL w3 (w.heap.size + 1 + 1) 2 [.int .i64 L.c.id, .int .i64 L.c.pa, .int .i64 L.c.un, .int .i64 L.c.kd, .int .i64 L.c.pl, .int .i64 L.c.n, .slice (some ⟨g1, 0, none⟩) l1 l1, .slice (some ⟨g2, 0, none⟩) l2 l2, .int .i64 L.c.wa] := ⟨_, rfl⟩
  have H2 : Hid (LnP W4 w.heap.size n f L (some ⟨g, 0, none⟩) n (some ⟨g1, 0, none⟩) (some ⟨g2, 0, none⟩) l1 l2 l1 l2 ∧ Below w.heap.size w W4 ∧ Blk W4 w.heap.size 50 (lac L a n cp a1 a2 l1 l2 c1 c2) ∧ Blk W4 (w.heap.size + 1) 32 lzc ∧ Blk W4 (w.heap.size + 1 + 1) 32 #[.slice (some ⟨g, 0, none⟩) n n, .bool L.bz, .int .i64 L.c.id, .int .i64 L.c.pa, .int .i64 L.c.un, .int .i64 L.c.kd, .int .i64 L.c.pl, .int .i64 L.c.n, .slice (some ⟨g1, 0, none⟩) l1 l1, .slice (some ⟨g2, 0, none⟩) l2 l2, .int .i64 L.c.wa, .int .i64 0, .int .i64 0, .int .i64 0, .int .i64 0, .int .i64 0, .int .i64 0]) := by
    have hg1 : w3.grownBy W4 (some (w.heap.size + 1 + 1)) := by rw [hW4]; exact setL_gw _ _ _
    have hge := HG.out
    have hg2 := H1.out.2.2.2.2.2.2.2
    refine ⟨⟨H1.out.2.1.1, H1.out.2.1.2.1, ?_⟩, by rw [hW4]; exact setL_below (by omega) _ _ _ (bel_nx H1.out.2.2.1 b3), by rw [hW4]; exact Blk.stNe (by omega) _ _ A3, by rw [hW4]; exact Blk.stNe (by omega) _ _ R3, by rw [hW4, show (#[.slice (some ⟨g, 0, none⟩) n n, .bool L.bz, .int .i64 L.c.id, .int .i64 L.c.pa, .int .i64 L.c.un, .int .i64 L.c.kd, .int .i64 L.c.pl, .int .i64 L.c.n, .slice (some ⟨g1, 0, none⟩) l1 l1, .slice (some ⟨g2, 0, none⟩) l2 l2, .int .i64 L.c.wa, .int .i64 0, .int .i64 0, .int .i64 0, .int .i64 0, .int .i64 0, .int .i64 0] : Array Value) = wrA #[.slice (some ⟨g, 0, none⟩) n n, .bool L.bz, .int .i64 0, .int .i64 0, .int .i64 0, .int .i64 0, .int .i64 0, .int .i64 0, .slice none 0 0, .slice none 0 0, .int .i64 0, .int .i64 0, .int .i64 0, .int .i64 0, .int .i64 0, .int .i64 0, .int .i64 0] 2 [.int .i64 L.c.id, .int .i64 L.c.pa, .int .i64 L.c.un, .int .i64 L.c.kd, .int .i64 L.c.pl, .int .i64 L.c.n, .slice (some ⟨g1, 0, none⟩) l1 l1, .slice (some ⟨g2, 0, none⟩) l2 l2, .int .i64 L.c.wa] from (lwr2_9 _ _ _ _ _ _ _ _ _ _ _ _ _ _ _ _ _ _ _ _ _ _ _ _ _ _).symm]; exact Blk.stL _ _ O3⟩
    obtain ⟨F, β, q1, q2, q3⟩ := H1.out.2.2.2.2.2.2.1
    refine ⟨F, β, .inr ⟨g, 0, n, rfl, by omega, ((q1.below b3).rowO).kept hg1 (by intro e9; have := Option.some.inj e9; omega)⟩, ((q2.below b3).keptLt hg1 (by omega)).mono (by omega), OwnI.mono (show OwnI _ _ _ _ from i1.kept hg1 (.inr (fun e9 => by have := (World.ownsRow.lt i1 _ e9).1; omega))) (by omega), OwnB.mono (show OwnB _ _ _ _ from i2.kept hg1 (.inr (fun e9 => by have := (World.ownsRow.lt i2 _ e9).1; omega))) (by omega), fun k hk j hj ho => ?_, fun k hk j hj ho => ?_⟩
    · have := (World.ownsRow.lt i1 k hk).1; have := (q2.ob hj ho).2.1; omega
    · have := (World.ownsRow.lt i2 k hk).1; have := (q2.ob hj ho).2.1; omega
  have hW4' : W4 = (((((((((w3.setCell ⟨w.heap.size + 1 + 1, 2, none⟩ (.int .i64 L.c.id)).setCell ⟨w.heap.size + 1 + 1, 3, none⟩ (.int .i64 L.c.pa)).setCell ⟨w.heap.size + 1 + 1, 4, none⟩ (.int .i64 L.c.un)).setCell ⟨w.heap.size + 1 + 1, 5, none⟩ (.int .i64 L.c.kd)).setCell ⟨w.heap.size + 1 + 1, 6, none⟩ (.int .i64 L.c.pl)).setCell ⟨w.heap.size + 1 + 1, 7, none⟩ (.int .i64 L.c.n)).setCell ⟨w.heap.size + 1 + 1, 8, none⟩ (.slice (some ⟨g1, 0, none⟩) l1 l1)).setCell ⟨w.heap.size + 1 + 1, 9, none⟩ (.slice (some ⟨g2, 0, none⟩) l2 l2)).setCell ⟨w.heap.size + 1 + 1, 10, none⟩ (.int .i64 L.c.wa)) := by rw [hW4]; simp only [setL, Nat.reduceAdd, Nat.zero_add]
  clear b3 A3 R3 O3 hW4 i1 i2 H1
  go_upto_region 5 with fail
  rw [← hW4']
  clear hW4' y0 y1 y2 y3 y4 y5 y6 y7 y8 y9 y10 y11 y12 y13 y14 y15 y16 z0 z1 z2 z3 z4 z5 z6 z7 z8 z9 z10 z11 z12 z13 z14 z15 z16 zf yf zg2 zg3 zg4 zg5 zg6 zg7 zg8 zg9 zg10
  obtain ⟨⟨y0, y1, y2, y3, y4, y5, y6, y7, y8, y9, y10, y11, y12, y13, y14, y15, y16⟩, yf⟩ := H2.out.2.2.1.svn
  obtain ⟨⟨z0, z1, z2, z3, z4, z5, z6, z7, z8, z9, z10, z11, z12, z13, z14, z15, z16⟩, zf⟩ := H2.out.2.2.2.2.svn
  have zg11 := zf 11; have zg12 := zf 12; have zg13 := zf 13; have zg14 := zf 14; have zg15 := zf 15; have zg16 := zf 16
  obtain ⟨W6, hW6⟩ : ∃ W6, W6 = setL W4 (w.heap.size + 1 + 1) 11 [.int .i64 L.nu, .int .i64 L.du, .int .i64 L.le, .int .i64 L.nx, .int .i64 L.wt, .int .i64 L.tr] := ⟨_, rfl⟩
  have H3 : Hid (LnP W6 w.heap.size n f L (some ⟨g, 0, none⟩) n (some ⟨g1, 0, none⟩) (some ⟨g2, 0, none⟩) l1 l2 l1 l2 ∧ Below w.heap.size w W6 ∧ Blk W6 (w.heap.size + 1) 32 lzc ∧ Blk W6 (w.heap.size + 1 + 1) 32 (lac L (some ⟨g, 0, none⟩) n n (some ⟨g1, 0, none⟩) (some ⟨g2, 0, none⟩) l1 l2 l1 l2)) := by
    have hg1 : W4.grownBy W6 (some (w.heap.size + 1 + 1)) := by rw [hW6]; exact setL_gw _ _ _
    exact ⟨H2.out.1.keptT hg1 ⟨_, H2.out.2.2.2.2⟩ (by decide) (by decide) (by decide), by rw [hW6]; exact setL_below (by omega) _ _ _ H2.out.2.1, by rw [hW6]; exact Blk.stNe (by omega) _ _ H2.out.2.2.2.1, by rw [hW6, show (lac L (some ⟨g, 0, none⟩) n n (some ⟨g1, 0, none⟩) (some ⟨g2, 0, none⟩) l1 l2 l1 l2) = wrA #[.slice (some ⟨g, 0, none⟩) n n, .bool L.bz, .int .i64 L.c.id, .int .i64 L.c.pa, .int .i64 L.c.un, .int .i64 L.c.kd, .int .i64 L.c.pl, .int .i64 L.c.n, .slice (some ⟨g1, 0, none⟩) l1 l1, .slice (some ⟨g2, 0, none⟩) l2 l2, .int .i64 L.c.wa, .int .i64 0, .int .i64 0, .int .i64 0, .int .i64 0, .int .i64 0, .int .i64 0] 11 [.int .i64 L.nu, .int .i64 L.du, .int .i64 L.le, .int .i64 L.nx, .int .i64 L.wt, .int .i64 L.tr] from (lwr11_6 _ _ _ _ _ _ _ _ _ _ _ _ _ _ _ _ _ _ _ _ _ _ _).symm]; exact Blk.stL _ _ H2.out.2.2.2.2⟩
  have hW6' : W6 = ((((((W4.setCell ⟨w.heap.size + 1 + 1, 11, none⟩ (.int .i64 L.nu)).setCell ⟨w.heap.size + 1 + 1, 12, none⟩ (.int .i64 L.du)).setCell ⟨w.heap.size + 1 + 1, 13, none⟩ (.int .i64 L.le)).setCell ⟨w.heap.size + 1 + 1, 14, none⟩ (.int .i64 L.nx)).setCell ⟨w.heap.size + 1 + 1, 15, none⟩ (.int .i64 L.wt)).setCell ⟨w.heap.size + 1 + 1, 16, none⟩ (.int .i64 L.tr)) := by rw [hW6]; simp only [setL, Nat.reduceAdd, Nat.zero_add]
  clear hW6 H2
  go_upto_region 11 with fail
  rw [← hW6']
  clear hW6' y0 y1 y2 y3 y4 y5 y6 y7 y8 y9 y10 y11 y12 y13 y14 y15 y16 z0 z1 z2 z3 z4 z5 z6 z7 z8 z9 z10 z11 z12 z13 z14 z15 z16 zf yf zg11 zg12 zg13 zg14 zg15 zg16
  obtain ⟨W5, hW5⟩ : ∃ W5, W5 = setL W6 (w.heap.size + 1) 0 (lacL L (some ⟨g, 0, none⟩) n n (some ⟨g1, 0, none⟩) (some ⟨g2, 0, none⟩) l1 l2 l1 l2) := ⟨_, rfl⟩
  have H4 : Hid (LnP W5 w.heap.size n f L (some ⟨g, 0, none⟩) n (some ⟨g1, 0, none⟩) (some ⟨g2, 0, none⟩) l1 l2 l1 l2 ∧ Below w.heap.size w W5 ∧ Blk W5 (w.heap.size + 1) 32 (lac L (some ⟨g, 0, none⟩) n n (some ⟨g1, 0, none⟩) (some ⟨g2, 0, none⟩) l1 l2 l1 l2)) := by
    have hg1 : W6.grownBy W5 (some (w.heap.size + 1)) := by rw [hW5]; exact setL_gw _ _ _
    exact ⟨H3.out.1.keptT hg1 ⟨_, H3.out.2.2.1⟩ (by decide) (by decide) (by decide), by rw [hW5]; exact setL_below (by omega) _ _ _ H3.out.2.1, by rw [hW5, show (lac L (some ⟨g, 0, none⟩) n n (some ⟨g1, 0, none⟩) (some ⟨g2, 0, none⟩) l1 l2 l1 l2) = wrA lzc 0 (lacL L (some ⟨g, 0, none⟩) n n (some ⟨g1, 0, none⟩) (some ⟨g2, 0, none⟩) l1 l2 l1 l2) from (lwr0_17 _ _ _ _ _ _ _ _ _ _ _ _ _ _ _ _ _ _ _ _ _ _ _ _ _ _ _ _ _ _ _ _ _ _).symm]; exact Blk.stL _ _ H3.out.2.2.1⟩
  have hr := H3.out.2.2.2.all
  have ht := H3.out.2.2.1.there 0 17 (by simp)
  clear H3
  refine wp_region_lit ?_
  refine wpList_load_mid rfl 32 (.tmp 3) rfl (w.heap.size + 1 + 1) 0 rfl (lacL L (some ⟨g, 0, none⟩) n n (some ⟨g1, 0, none⟩) (some ⟨g2, 0, none⟩) l1 l2 l1 l2) _ hr Try.underlying32 rfl (by kernel_rfl) ?_
  refine wpList_store_mid rfl 32 (.tmp 2) (.tmp 33) rfl (w.heap.size + 1) 0 (lac L (some ⟨g, 0, none⟩) n n (some ⟨g1, 0, none⟩) (some ⟨g2, 0, none⟩) l1 l2 l1 l2) rfl rfl ht (by kernel_rfl) (by simp [Value.oneCell']) ?_
  rw [setCells_L, ← hW5]
  clear hW5 hr ht
  refine wpList_nil ?_
  go_wp2
  obtain ⟨⟨y0, y1, y2, y3, y4, y5, y6, y7, y8, y9, y10, y11, y12, y13, y14, y15, y16⟩, yf⟩ := H4.out.2.2.svn
  refine bodyPost_ret (v := .agg (lac L (some ⟨g, 0, none⟩) n n (some ⟨g1, 0, none⟩) (some ⟨g2, 0, none⟩) l1 l2 l1 l2)) (by simp [results, Try.results14, go_sem, y0, y1, y2, y3, y4, y5, y6, y7, y8, y9, y10, y11, y12, y13, y14, y15, y16]) rfl ⟨g, g1, g2, rfl, H4.out.1, H4.out.2.1⟩

end Go.Proofs.Ytmhdneenjoelfaa
