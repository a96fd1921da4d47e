/- A line copied by the model. -/
import Derived.Test.YtmhdneenjoelfaaCy3
import Derived.Deep.RegionLaw
namespace Go.Proofs.Ytmhdneenjoelfaa
open Go.RowKit Go.Joins

set_option linter.unusedVariables false

set_option linter.unusedSimpArgs false

/-- What is known while calls are copied. -/
def CQ (w wr : World) (B k : Nat) (f : Nat → Ca) (L : La) (va : Option Addr) (vc : Nat) (r1 r2 : Option Addr) (l1 l2 d1 d2 : Nat) (A : Array Value) : Prop :=
  LnO wr w.heap.size k f L va vc r1 r2 l1 l2 d1 d2 ∧ Blk wr (B + 1 + 1) 32 (lac L va k vc r1 r2 l1 l2 d1 d2) ∧ Blk wr B 32 A ∧ Blk wr (B + 1) 32 lzc ∧ Below w.heap.size w wr

theorem CQ.below {w wr u : World} {B k : Nat} {f : Nat → Ca} {L : La} {va : Option Addr} {vc : Nat} {r1 r2 : Option Addr} {l1 l2 d1 d2 : Nat} {A : Array Value} (h : CQ w wr B k f L va vc r1 r2 l1 l2 d1 d2 A) (hb : Below wr.heap.size wr u) : CQ w u B k f L va vc r1 r2 l1 l2 d1 d2 A :=
  ⟨h.1.below hb, h.2.1.below hb, h.2.2.1.below hb, h.2.2.2.1.below hb, bel_nx h.2.2.2.2 hb⟩

set_option maxRecDepth 20000 in
set_option maxHeartbeats 4000000 in
theorem l12Copy_any (L : La) (a a1 a2 : Option Addr) (n cp l1 l2 c1 c2 : Nat) (f : Nat → Ca) (w : World) (hs : LnR w n f L a a1 a2 l1 l2) (hb : BdC n f) (hl1 : l1 ≤ 2000000) (hl2 : l2 ≤ 2000000) :
    Calls Try.prog 32 #[.agg (lac L a n cp a1 a2 l1 l2 c1 c2)] w fun e w' => LnQ w w' e n f L l1 l2 := by
  have hn := hb.1
  obtain ⟨B, hB⟩ : ∃ B, B = w.heap.size := ⟨_, rfl⟩
  obtain ⟨W, hW⟩ : ∃ W, W = (w.alloc (.cells (lac L a n cp a1 a2 l1 l2 c1 c2) 32)).alloc (.cells lzc 32) := ⟨_, rfl⟩
  have bW : Below w.heap.size w W := by rw [hW]; exact bel_nx (bel_alloc w _) (bel_alloc _ _)
  have A0 : Blk W B 32 (lac L a n cp a1 a2 l1 l2 c1 c2) := by rw [hW, hB]; exact (Blk.new w _ _).below (bel_alloc _ _)
  have R0 : Blk W (B + 1) 32 lzc := by
    rw [hW, hB]; have := Blk.new (w.alloc (.cells (lac L a n cp a1 a2 l1 l2 c1 c2) 32)) lzc 32; simpa using this
  have hz : W.heap.size = B + 1 + 1 := by rw [hW, hB]; simp
  obtain ⟨W2, hW2⟩ : ∃ W2, W2 = setL (W.alloc (.cells lzc 32)) W.heap.size 0 (lacL L a n cp a1 a2 l1 l2 c1 c2) := ⟨_, rfl⟩
  have H0 : Hid (LnR w n f L a a1 a2 l1 l2 ∧ Below w.heap.size w W2 ∧ Blk W2 B 32 (lac L a n cp a1 a2 l1 l2 c1 c2) ∧ Blk W2 (B + 1) 32 lzc ∧ Blk W2 (B + 1 + 1) 32 (lac L a n cp a1 a2 l1 l2 c1 c2) ∧ BdC n f ∧ w.heap.size = B) := by
    have b5 : Below W.heap.size W W2 := by rw [hW2]; exact setL_below (Nat.le_refl _) _ _ _ (bel_alloc _ _)
    exact ⟨hs, bel_nx bW b5, A0.below b5, R0.below b5, by rw [hW2, hz, ← hz, show lac L a n cp a1 a2 l1 l2 c1 c2 = wrA lzc 0 (lacL L a n cp a1 a2 l1 l2 c1 c2) from (lwr0_17 _ _ _ _ _ _ _ _ _ _ _ _ _ _ _ _ _ _ _ _ _ _ _ _ _ _ _ _ _ _ _ _ _ _).symm]; exact Blk.stL _ _ (Blk.new _ _ _), hb, hB.symm⟩
  have HA : Hid (Blk W B 32 (lac L a n cp a1 a2 l1 l2 c1 c2) ∧ W.heap.size = B + 1 + 1) := ⟨A0, hz⟩
  clear hs bW A0 R0 hb hz
  go_enter Try.func32, Try.ntmps32
  go_upto_region 1 with fail
  have hB1 : w.heap.size + 1 = B + 1 := by omega
  rw [← hW, hB1, ← hB]
  clear hW hB hB1
  refine wp_region_lit ?_
  refine wpList_load_mid rfl 32 (.tmp 1) rfl B 0 rfl (lacL L a n cp a1 a2 l1 l2 c1 c2) _ HA.out.1.all Try.underlying32 rfl (by kernel_rfl) ?_
  refine wpList_alloc_any rfl 32 rfl lzc 17 184 (by kernel_rfl) ?_
  refine wpList_store_mid rfl 32 (.tmp 3) (.tmp 5) rfl W.heap.size 0 (lac L a n cp a1 a2 l1 l2 c1 c2) rfl rfl ((Blk.new W lzc 32).there 0 17 (by simp)) (by kernel_rfl) (by simp [Value.oneCell']) ?_
  rw [setCells_L, ← hW2, HA.out.2]
  clear hW2
  refine wpList_nil ?_
  obtain ⟨⟨y0, y1, y2, y3, y4, y5, y6, y7, y8, y9, y10, y11, y12, y13, y14, y15, y16⟩, yf⟩ := H0.out.2.2.1.svn
  clear yf
  go_wp2_with fail
  refine (specCopyCall_any L.c a1 a2 l1 l2 c1 c2 _ (H0.out.1.below H0.out.2.1).1 (H0.out.1.below H0.out.2.1).2.1 (H0.out.1.below H0.out.2.1).2.2.2.1 (H0.out.1.below H0.out.2.1).2.2.2.2 hl1 hl2).mono ?_
  rintro e w3 ⟨r1, r2, d1, d2, rfl, i1, i2, b3⟩
  clear y0 y1 y2 y3 y4 y5 y6 y7 y8 y9 y10 y11 y12 y13 y14 y15 y16
  have A3 := H0.out.2.2.2.2.1.below b3
  obtain ⟨⟨y0, y1, y2, y3, y4, y5, y6, y7, y8, y9, y10, y11, y12, y13, y14, y15, y16⟩, yf⟩ := A3.svn
  have yg2 := yf 2; have yg3 := yf 3; have yg4 := yf 4; have yg5 := yf 5; have yg6 := yf 6; have yg7 := yf 7; have yg8 := yf 8; have yg9 := yf 9; have yg10 := yf 10
  obtain ⟨W3, hW3⟩ : ∃ W3, W3 = setL w3 (B + 1 + 1) 2 [.int .i64 L.c.id, .int .i64 L.c.pa, .int .i64 L.c.un, .int .i64 L.c.kd, .int .i64 L.c.pl, .int .i64 L.c.n, .slice r1 l1 d1, .slice r2 l2 d2, .int .i64 L.c.wa] := ⟨_, rfl⟩
  have H3 : Hid (OwnI W3 w.heap.size (.slice r1 l1 d1) L.c.ws ∧ OwnB W3 w.heap.size (.slice r2 l2 d2) L.c.bs ∧ Blk W3 (B + 1 + 1) 32 (lac L a n cp r1 r2 l1 l2 d1 d2) ∧ Blk W3 B 32 (lac L a n cp a1 a2 l1 l2 c1 c2) ∧ Blk W3 (B + 1) 32 lzc ∧ Below w.heap.size w W3) := by
    have h0 := H0.out
    have hz := h0.2.1.size
    rw [hW3]
    exact ⟨OwnI.mono (show OwnI _ _ _ _ from row_stL i1 ⟨_, A3⟩ (by decide)) hz, OwnB.mono (show OwnB _ _ _ _ from row_stL i2 ⟨_, A3⟩ (by decide)) hz, by rw [show lac L a n cp r1 r2 l1 l2 d1 d2 = wrA (lac L a n cp a1 a2 l1 l2 c1 c2) 2 [.int .i64 L.c.id, .int .i64 L.c.pa, .int .i64 L.c.un, .int .i64 L.c.kd, .int .i64 L.c.pl, .int .i64 L.c.n, .slice r1 l1 d1, .slice r2 l2 d2, .int .i64 L.c.wa] from (lwr2_9 _ _ _ _ _ _ _ _ _ _ _ _ _ _ _ _ _ _ _ _ _ _ _ _ _ _).symm]; exact Blk.stL _ _ A3, Blk.stNe (by omega) _ _ (h0.2.2.1.below b3), Blk.stNe (by omega) _ _ (h0.2.2.2.1.below b3), setL_below (by omega) _ _ _ (bel_nx h0.2.1 b3)⟩
  have hW3' : W3 = (((((((((w3.setCell ⟨B + 1 + 1, 2, none⟩ (.int .i64 L.c.id)).setCell ⟨B + 1 + 1, 3, none⟩ (.int .i64 L.c.pa)).setCell ⟨B + 1 + 1, 4, none⟩ (.int .i64 L.c.un)).setCell ⟨B + 1 + 1, 5, none⟩ (.int .i64 L.c.kd)).setCell ⟨B + 1 + 1, 6, none⟩ (.int .i64 L.c.pl)).setCell ⟨B + 1 + 1, 7, none⟩ (.int .i64 L.c.n)).setCell ⟨B + 1 + 1, 8, none⟩ (.slice r1 l1 d1)).setCell ⟨B + 1 + 1, 9, none⟩ (.slice r2 l2 d2)).setCell ⟨B + 1 + 1, 10, none⟩ (.int .i64 L.c.wa)) := by rw [hW3]; simp only [setL, Nat.reduceAdd, Nat.zero_add]
  clear A3 hW3 i1 i2 b3
  go_upto_region 3 with fail
  rw [← hW3']
  clear hW3' y0 y1 y2 y3 y4 y5 y6 y7 y8 y9 y10 y11 y12 y13 y14 y15 y16 yf yg2 yg3 yg4 yg5 yg6 yg7 yg8 yg9 yg10 HA
  obtain ⟨ge, hge⟩ : ∃ ge, ge = W3.heap.size := ⟨_, rfl⟩
  have A4 := H3.out.2.2.1.below (bel_alloc W3 (.cells #[] 30))
  have z0 := A4.cell 0 rfl
  have zf0 := A4.fro 0
  have A5 := H3.out.2.2.1
  have z1 := A5.cell 0 rfl
  have zf1 := A5.fro 0
  have hne : ¬ B + 1 + 1 = W3.heap.size := Nat.ne_of_lt A5.lt
  have hne' : ¬ W3.heap.size = B + 1 + 1 := fun e => hne e.symm
  obtain ⟨W4, hW4⟩ : ∃ W4, W4 = (W3.alloc (.cells #[] 30)).setCell ⟨B + 1 + 1, 0, none⟩ (.slice (some ⟨W3.heap.size, 0, none⟩) 0 0) := ⟨_, rfl⟩
  have H4 : Hid (CQ w W4 B 0 f L (some ⟨ge, 0, none⟩) 0 r1 r2 l1 l2 d1 d2 (lac L a n cp a1 a2 l1 l2 c1 c2)) := by
    have h3 := H3.out
    have h0 := H0.out
    have b9 := bel_alloc W3 (.cells #[] 30)
    have g9 : (W3.alloc (.cells #[] 30)).grownBy W4 (some (B + 1 + 1)) := by rw [hW4]; exact grown_setj _ _ _ _
    have hEx : ExB (W3.alloc (.cells #[] 30)) (B + 1 + 1) 32 := ⟨_, A4⟩
    have hL0 : LnO (W3.alloc (.cells #[] 30)) w.heap.size 0 f L (some ⟨ge, 0, none⟩) 0 r1 r2 l1 l2 d1 d2 := by
      refine ⟨h0.1.1, h0.1.2.1, fun _ => [], fun _ => w.heap.size, ?_, InE.start _ _ _ _, Nat.le_trans h3.2.2.2.2.2.size b9.size, h3.1.below b9, h3.2.1.below b9, fun k hk j hj => by omega, fun k hk j hj => by omega⟩
      refine ⟨rfl, .inr ⟨ge, 0, #[], rfl, by rw [hge]; exact h3.2.2.2.2.2.size, ?_, Nat.le_refl _, by simp, rfl, rfl⟩⟩
      rw [hge]
      exact Blk.new W3 #[] 30
    refine ⟨hL0.keptT g9 hEx (by decide) (by decide) (by decide), ?_, (h3.2.2.2.1.below b9).grown g9 (by intro e9; have := Option.some.inj e9; omega), (h3.2.2.2.2.1.below b9).grown g9 (by intro e9; have := Option.some.inj e9; omega), ?_⟩
    · rw [hW4, hge, show lac L (some ⟨W3.heap.size, 0, none⟩) 0 0 r1 r2 l1 l2 d1 d2 = (lac L a n cp r1 r2 l1 l2 d1 d2).setIfInBounds 0 (.slice (some ⟨W3.heap.size, 0, none⟩) 0 0) by simp]
      exact A4.set 0 _
    · rw [hW4]; exact (bel_nx h3.2.2.2.2.2 b9).setCell (p := ⟨B + 1 + 1, 0, none⟩) (by show w.heap.size ≤ B + 1 + 1; omega) _
  clear A4 A5 H3
  go_upto_region 4 with fail
  rw [show (W3.alloc (.cells #[] 30)).setCell ⟨B + 1 + 1, 0, none⟩ (.slice (some ⟨W3.heap.size, 0, none⟩) 0 0) = W4 from hW4.symm]
  rw [← hge]
  clear hW4 z0 zf0 z1 zf1 hne hne' hge
  go_wp2
  go_loopw [4] (fun i wr => ∃ (k : Nat) (va : Option Addr) (vc : Nat), k ≤ n ∧ i = .int .i64 k ∧ CQ w wr B k f L va vc r1 r2 l1 l2 d1 d2 (lac L a n cp a1 a2 l1 l2 c1 c2)) (fun i _ => n - (intOf i).toNat)
  case atStart => exact ⟨0, _, _, Nat.zero_le _, rfl, H4.out⟩
  case round =>
    clear H4
    obtain ⟨k, va, vc, hk, rfl, hcq⟩ := hrel
    have y0 := hcq.2.2.1.cell 0 rfl
    have x0 := hcq.2.1.cell 0 rfl
    by_cases hlt : k < n
    · have hi : (k : Int) < (n : Int) := by omega
      obtain ⟨b, off, b1, b2, m1, m2, k1, k2, rfl, hb0, hm1, hm2, ⟨e0, e1, e2, e3, e4, e5, e6, e7, e8⟩, s1, s2⟩ := SlC.nine (H0.out.1.below hcq.2.2.2.2).2.2.1 hlt
      have hbd := H0.out.2.2.2.2.2.1.2 k hlt
      obtain ⟨C, hC⟩ : ∃ C, C = f k := ⟨_, rfl⟩
      rw [← hC] at e0 e1 e2 e3 e4 e5 e8 hm1 hm2 s1 s2
      obtain ⟨xs, hxs, hpu⟩ := hcq.1.row
      have HS : Hid (SlI wr b1 C.ws ∧ SlB wr b2 C.bs ∧ m1 = C.ws.length ∧ m2 = C.bs.length ∧ m1 ≤ 2000000 ∧ m2 ≤ 2000000 ∧ C = f k ∧ CQ w wr B k f L va vc r1 r2 l1 l2 d1 d2 (lac L (some ⟨b, off, none⟩) n cp a1 a2 l1 l2 c1 c2) ∧ wr.ownsRow w.heap.size 30 9 (.slice va k vc) k xs ∧ w.heap.size = B) := ⟨s1, s2, hm1, hm2, by rw [hm1, hC]; exact hbd.1, by rw [hm2, hC]; exact hbd.2, hC, hcq, hxs, H0.out.2.2.2.2.2.2⟩
      have HP := hide hpu
      clear s1 s2 hm1 hm2 hC hbd hb0 hcq hxs hpu
      go_upto_region 7 with fail
      have dz : Below wr.heap.size wr wr.drew := (Below.refl _ _).drew
      go_region_law (first
        | (go_simp; go_at_call 35; refine (specCopyCall_any C b1 b2 m1 m2 k1 k2 _ HS.out.2.2.1 HS.out.2.2.2.1 (HS.out.1.below (by first | exact Below.refl _ _ | exact dz)) (HS.out.2.1.below (by first | exact Below.refl _ _ | exact dz)) HS.out.2.2.2.2.1 HS.out.2.2.2.2.2.1).mono ?_; rintro e w6 ⟨x1', x2', t1, t2, rfl, j1, j2, b6'⟩; have H6 : Hid (Below wr.heap.size wr w6 ∧ OwnI w6 wr.heap.size (.slice x1' m1 t1) C.ws ∧ OwnB w6 wr.heap.size (.slice x2' m2 t2) C.bs) := (by first | exact ⟨b6', j1, j2⟩ | exact ⟨bel_nx dz b6', j1, j2⟩); clear j1 j2 b6'; have K6 := HS.out.2.2.2.2.2.2.2.1.below H6.out.1; have p0 := K6.2.1.cell 0 rfl; have p1 := (K6.below (bel_alloc w6 (.cells (cac C x1' x2' m1 m2 t1 t2) 30))).2.1.cell 0 rfl; have q6 : ¬ B + 1 + 1 = w6.heap.size := Nat.ne_of_lt K6.2.1.lt; have q7 : ¬ w6.heap.size = B + 1 + 1 := fun e => q6 e.symm; clear K6)
        | (refine step_appC rfl (.tmp 20) (.tmp 27) rfl w.heap.size (.slice va k vc) k xs rfl (row_bel (row_bel HS.out.2.2.2.2.2.2.2.2.1 H6.out.1) (bel_alloc _ _)) w6.heap.size 1 C x1' x2' m1 m2 t1 t2 rfl (Blk.new w6 _ _) (by omega) (Nat.le_trans (HS.out.2.2.2.2.2.2.2.1.below H6.out.1).2.2.2.2.size (bel_alloc _ _).size) ?_; intro v7 w7 o7 g7; obtain ⟨va7, vc7, hv7⟩ := row_form o7; subst hv7; have H7 : Hid (LnO w7 w.heap.size (k + 1) f L va7 vc7 r1 r2 l1 l2 d1 d2 ∧ Blk w7 (B + 1 + 1) 32 (lac L va k vc r1 r2 l1 l2 d1 d2) ∧ Blk w7 B 32 (lac L (some ⟨b, off, none⟩) n cp a1 a2 l1 l2 c1 c2) ∧ Blk w7 (B + 1) 32 lzc ∧ Below w.heap.size w w7) := (by have hq := (HS.out.2.2.2.2.2.2.2.1.below H6.out.1).below (bel_alloc w6 (.cells (cac C x1' x2' m1 m2 t1 t2) 30)); have hr := row_bel (row_bel HS.out.2.2.2.2.2.2.2.2.1 H6.out.1) (bel_alloc w6 (.cells (cac C x1' x2' m1 m2 t1 t2) 30)); exact ⟨HP.out w6 w7 va7 vc7 C x1' x2' m1 m2 t1 t2 _ f H6.out.1 HS.out.2.2.1 HS.out.2.2.2.1 H6.out.2.1 H6.out.2.2 g7 (fun _ _ => rfl) HS.out.2.2.2.2.2.2.1.symm o7, hq.2.1.grown g7 (row_noBlk hr hq.2.1 (by decide)), hq.2.2.1.grown g7 (row_noBlk hr hq.2.2.1 (by decide)), hq.2.2.2.1.grown g7 (row_noBlk hr hq.2.2.2.1 (by decide)), hq.2.2.2.2.grown g7 hq.2.2.2.2.size (fun x hx => (World.ownsRow.lt hr x hx).1)⟩); clear o7 g7; have n0 := H7.out.2.1.cell 0 rfl; have nf := H7.out.2.1.fro 0))
      all_goals (
        obtain ⟨W8, hW8⟩ : ∃ W8, W8 = w7.setCell ⟨B + 1 + 1, 0, none⟩ (.slice va7 (k + 1) vc7) := ⟨_, rfl⟩
        have H8 : Hid (CQ w W8 B (k + 1) f L va7 vc7 r1 r2 l1 l2 d1 d2 (lac L (some ⟨b, off, none⟩) n cp a1 a2 l1 l2 c1 c2)) := by
          have h7 := H7.out
          have hwB := HS.out.2.2.2.2.2.2.2.2.2
          have g9 : w7.grownBy W8 (some (B + 1 + 1)) := by rw [hW8]; exact grown_setj _ _ _ _
          refine ⟨h7.1.keptT g9 ⟨_, h7.2.1⟩ (by decide) (by decide) (by decide), ?_, h7.2.2.1.grown g9 (by intro e9; have := Option.some.inj e9; omega), h7.2.2.2.1.grown g9 (by intro e9; have := Option.some.inj e9; omega), ?_⟩
          · rw [hW8, show lac L va7 (k + 1) vc7 r1 r2 l1 l2 d1 d2 = (lac L va k vc r1 r2 l1 l2 d1 d2).setIfInBounds 0 (.slice va7 (k + 1) vc7) by simp]
            exact h7.2.1.set 0 _
          · rw [hW8]; exact h7.2.2.2.2.setCell (p := ⟨B + 1 + 1, 0, none⟩) (by show w.heap.size ≤ B + 1 + 1; omega) _
        rw [← hW8]
        clear hW8 H7 H6 HS HP
        go_wp2
        go_roundw
        case rel => exact ⟨k + 1, va7, vc7, by omega, by go_num, H8.out⟩
        case measure => simp [intOf]; omega)
    · have hi : ¬ (k : Int) < (n : Int) := by omega
      have e9 : k = n := by omega
      subst e9
      have HS : Hid (CQ w wr B k f L va vc r1 r2 l1 l2 d1 d2 (lac L a k cp a1 a2 l1 l2 c1 c2) ∧ w.heap.size = B) := ⟨hcq, H0.out.2.2.2.2.2.2⟩
      clear hcq H0
      go_upto_region 8 with fail
      refine wp_region_lit ?_
      refine wpList_load_mid rfl 32 (.tmp 3) rfl (B + 1 + 1) 0 rfl (lacL L va k vc r1 r2 l1 l2 d1 d2) _ HS.out.1.2.1.all Try.underlying32 rfl (by kernel_rfl) ?_
      refine wpList_store_mid rfl 32 (.tmp 2) (.tmp 30) rfl (B + 1) 0 (lac L va k vc r1 r2 l1 l2 d1 d2) rfl rfl (HS.out.1.2.2.2.1.there 0 17 (by simp)) (by kernel_rfl) (by simp [Value.oneCell']) ?_
      rw [setCells_L]
      refine wpList_nil ?_
      obtain ⟨W5, hW5⟩ : ∃ W5, W5 = setL wr (B + 1) 0 (lacL L va k vc r1 r2 l1 l2 d1 d2) := ⟨_, rfl⟩
      have H5 : Hid (LnO W5 w.heap.size k f L va vc r1 r2 l1 l2 d1 d2 ∧ Below w.heap.size w W5 ∧ Blk W5 (B + 1) 32 (lac L va k vc r1 r2 l1 l2 d1 d2)) := by
        have g1 : wr.grownBy W5 (some (B + 1)) := by rw [hW5]; exact setL_gw _ _ _
        exact ⟨HS.out.1.1.keptT g1 ⟨_, HS.out.1.2.2.2.1⟩ (by decide) (by decide) (by decide), by rw [hW5]; exact setL_below (by have := HS.out.2; omega) _ _ _ HS.out.1.2.2.2.2, by rw [hW5, show lac L va k vc r1 r2 l1 l2 d1 d2 = wrA lzc 0 (lacL L va k vc r1 r2 l1 l2 d1 d2) from (lwr0_17 _ _ _ _ _ _ _ _ _ _ _ _ _ _ _ _ _ _ _ _ _ _ _ _ _ _ _ _ _ _ _ _ _ _).symm]; exact Blk.stL _ _ HS.out.1.2.2.2.1⟩
      rw [show setL wr (B + 1) 0 (lac L va k vc r1 r2 l1 l2 d1 d2).toList = W5 from hW5.symm]
      clear hW5 HS
      go_wp2
      refine bodyPost_ret (v := .agg (lac L va k vc r1 r2 l1 l2 d1 d2)) (results_cell Try.results32 rfl (run_loadVar_mid _ _ _ 32 (lacL L va k vc r1 r2 l1 l2 d1 d2) _ H5.out.2.2.all Try.underlying32 rfl (by kernel_rfl))) rfl ?_
      exact ⟨_, _, _, _, _, _, rfl, H5.out.1, H5.out.2.1⟩

end Go.Proofs.Ytmhdneenjoelfaa
