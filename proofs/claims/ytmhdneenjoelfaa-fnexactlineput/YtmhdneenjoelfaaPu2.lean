/- LinePut of the model. -/
import Derived.Test.YtmhdneenjoelfaaPu1
namespace Go.Proofs.Ytmhdneenjoelfaa
open Go.RowKit Go.Joins

set_option linter.unusedVariables false

set_option linter.unusedSimpArgs false

set_option maxRecDepth 20000 in
set_option maxHeartbeats 4000000 in
theorem specPut_any (L : La) (a a1 a2 : Option Addr) (n cp l1 l2 c1 c2 : Nat) (f : Nat → Ca) (C : Ca) (q1 q2 : Option Addr) (m1 m2 k1 k2 : Nat) (w : World) (hs : LnR w n f L a a1 a2 l1 l2) (hb : BdC n f) (hl1 : l1 ≤ 2000000) (hl2 : l2 ≤ 2000000) (e1 : m1 = C.ws.length) (e2 : m2 = C.bs.length) (s1 : SlI w q1 C.ws) (s2 : SlB w q2 C.bs) (hm1 : m1 ≤ 2000000) (hm2 : m2 ≤ 2000000) :
    Calls Try.prog 8 #[.agg (lac L a n cp a1 a2 l1 l2 c1 c2), .agg (cac C q1 q2 m1 m2 k1 k2)] w fun e w' => LpQ w w' e n f L l1 l2 C (okPut n f L l1 l2 C) := by
  have hn := hb.1
  obtain ⟨x0, hx0⟩ : ∃ x, okLn n f L l1 l2 = x := ⟨_, rfl⟩
  obtain ⟨x1, hx1⟩ : ∃ x, okCa C = x := ⟨_, rfl⟩
  obtain ⟨x2, hx2⟩ : ∃ x, ((n : Int) == 40) = x := ⟨_, rfl⟩
  rw [show okPut n f L l1 l2 C = (x0 && (x1 && !x2)) by unfold okPut; rw [hx0, hx1, hx2]]
  obtain ⟨B, hB⟩ : ∃ B, B = w.heap.size := ⟨_, rfl⟩
  obtain ⟨W, hW⟩ : ∃ W, W = ((w.alloc (.cells (lac L a n cp a1 a2 l1 l2 c1 c2) 32)).alloc (.cells (cac C q1 q2 m1 m2 k1 k2) 30)).alloc (.cells lzc 32) := ⟨_, rfl⟩
  have bW : Below w.heap.size w W := by rw [hW]; exact bel_nx (bel_nx (bel_alloc w _) (bel_alloc _ _)) (bel_alloc _ _)
  have A0 : Blk W B 32 (lac L a n cp a1 a2 l1 l2 c1 c2) := by rw [hW, hB]; exact ((Blk.new w _ _).below (bel_alloc _ _)).below (bel_alloc _ _)
  have C0 : Blk W (B + 1) 30 (cac C q1 q2 m1 m2 k1 k2) := by
    rw [hW, hB]; have := (Blk.new (w.alloc (.cells (lac L a n cp a1 a2 l1 l2 c1 c2) 32)) (cac C q1 q2 m1 m2 k1 k2) 30).below (bel_alloc _ (.cells lzc 32)); simpa using this
  have R0 : Blk W (B + 1 + 1) 32 lzc := by
    rw [hW, hB]; have := Blk.new ((w.alloc (.cells (lac L a n cp a1 a2 l1 l2 c1 c2) 32)).alloc (.cells (cac C q1 q2 m1 m2 k1 k2) 30)) lzc 32; simpa using this
  have hz : W.heap.size = B + 1 + 1 + 1 := by rw [hW, hB]; simp
  have H0 : Hid (LnR w n f L a a1 a2 l1 l2 ∧ BdC n f ∧ Below w.heap.size w W ∧ Blk W B 32 (lac L a n cp a1 a2 l1 l2 c1 c2) ∧ Blk W (B + 1) 30 (cac C q1 q2 m1 m2 k1 k2) ∧ Blk W (B + 1 + 1) 32 lzc ∧ w.heap.size = B ∧ W.heap.size = B + 1 + 1 + 1) := ⟨hs, hb, bW, A0, C0, R0, hB.symm, hz⟩
  have HC : Hid (m1 = C.ws.length ∧ m2 = C.bs.length ∧ SlI w q1 C.ws ∧ SlB w q2 C.bs ∧ okLn n f L l1 l2 = x0 ∧ okCa C = x1) := ⟨e1, e2, s1, s2, hx0, hx1⟩
  clear hs hb bW A0 C0 R0 hz e1 e2 s1 s2 hx0 hx1
  go_enter Try.func8, Try.ntmps8
  go_upto_region 1 with fail
  have hB1 : w.heap.size + 1 = B + 1 := by omega
  rw [← hW, hB1, ← hB]
  clear hW hB hB1
  refine wp_region_lit ?_
  refine wpList_load_mid rfl 32 (.tmp 2) rfl B 0 rfl (lacL L a n cp a1 a2 l1 l2 c1 c2) _ H0.out.2.2.2.1.all Try.underlying32 rfl (by kernel_rfl) ?_
  go_wp2_with fail
  refine (l12Copy_any L a a1 a2 n cp l1 l2 c1 c2 f _ (H0.out.1.below H0.out.2.2.1) H0.out.2.1 hl1 hl2).mono ?_
  rintro e w1 ⟨a6, cp6, r1, r2, d1, d2, rfl, o6, b6⟩
  obtain ⟨B6, hB6⟩ : ∃ B6, B6 = w1.heap.size := ⟨_, rfl⟩
  obtain ⟨W2, hW2⟩ : ∃ W2, W2 = setL (w1.alloc (.cells lzc 32)) w1.heap.size 0 (lacL L a6 n cp6 r1 r2 l1 l2 d1 d2) := ⟨_, rfl⟩
  have H2 : Hid (LnO W2 w.heap.size n f L a6 cp6 r1 r2 l1 l2 d1 d2 ∧ Blk W2 B6 32 (lac L a6 n cp6 r1 r2 l1 l2 d1 d2) ∧ Blk W2 (B + 1) 30 (cac C q1 q2 m1 m2 k1 k2) ∧ Blk W2 (B + 1 + 1) 32 lzc ∧ Below w.heap.size w W2 ∧ w.heap.size = B ∧ B + 1 + 1 < B6) := by
    have h0 := H0.out
    have hz := h0.2.2.1.size
    have b5 : Below w1.heap.size w1 W2 := by rw [hW2]; exact setL_below (Nat.le_refl _) _ _ _ (bel_alloc _ _)
    refine ⟨(lnO_mono o6 hz).below b5, by rw [hW2, hB6, show lac L a6 n cp6 r1 r2 l1 l2 d1 d2 = wrA lzc 0 (lacL L a6 n cp6 r1 r2 l1 l2 d1 d2) from (lwr0_17 _ _ _ _ _ _ _ _ _ _ _ _ _ _ _ _ _ _ _ _ _ _ _ _ _ _ _ _ _ _ _ _ _ _).symm]; exact Blk.stL _ _ (Blk.new _ _ _), (h0.2.2.2.2.1.below b6).below b5, (h0.2.2.2.2.2.1.below b6).below b5, bel_nx (bel_nx h0.2.2.1 b6) b5, h0.2.2.2.2.2.2.1, ?_⟩
    have := b6.size
    omega
  rename_i hK
  refine hK _ _ ?_
  clear hK o6
  refine wpList_alloc_any rfl 32 rfl lzc 17 184 (by kernel_rfl) ?_
  refine wpList_store_mid rfl 32 (.tmp 6) (.tmp 8) rfl w1.heap.size 0 (lac L a6 n cp6 r1 r2 l1 l2 d1 d2) rfl rfl ((Blk.new w1 lzc 32).there 0 17 (by simp)) (by kernel_rfl) (by simp [Value.oneCell']) ?_
  rw [setCells_L, ← hW2, ← hB6]
  have HA : Hid (Blk W2 B 32 (lac L a n cp a1 a2 l1 l2 c1 c2)) := (H0.out.2.2.2.1.below b6).below (by rw [hW2]; exact setL_below (Nat.le_refl _) _ _ _ (bel_alloc _ _))
  clear hW2 hB6 b6
  refine wpList_nil ?_
  go_upto_region 2 with fail
  refine wp_region_lit ?_
  refine wpList_load_mid rfl 32 (.tmp 2) rfl B 0 rfl (lacL L a n cp a1 a2 l1 l2 c1 c2) _ HA.out.all Try.underlying32 rfl (by kernel_rfl) ?_
  go_wp2_with fail
  refine (specLineOk_any L n cp a a1 a2 l1 l2 c1 c2 f _ (H0.out.1.below H2.out.2.2.2.2.1) H0.out.2.1 hl1 hl2).mono ?_
  rintro e w3 ⟨rfl, b3⟩
  rw [HC.out.2.2.2.2.1]
  have H3 : Hid (LnO w3 w.heap.size n f L a6 cp6 r1 r2 l1 l2 d1 d2 ∧ Blk w3 B6 32 (lac L a6 n cp6 r1 r2 l1 l2 d1 d2) ∧ Blk w3 (B + 1) 30 (cac C q1 q2 m1 m2 k1 k2) ∧ Blk w3 (B + 1 + 1) 32 lzc ∧ Below w.heap.size w w3 ∧ w.heap.size = B ∧ B + 1 + 1 < B6) := ⟨H2.out.1.below b3, H2.out.2.1.below b3, H2.out.2.2.1.below b3, H2.out.2.2.2.1.below b3, bel_nx H2.out.2.2.2.2.1 b3, H2.out.2.2.2.2.2.1, H2.out.2.2.2.2.2.2⟩
  have HA3 : Hid (Blk w3 B 32 (lac L a n cp a1 a2 l1 l2 c1 c2)) := HA.out.below b3
  clear HA
  clear b3 H2
  cases x0 with
  | false =>
    go_upto_region 3 with fail
    refine wp_region_lit ?_
    refine wpList_load_mid rfl 32 (.tmp 6) rfl B6 0 rfl (lacL L a6 n cp6 r1 r2 l1 l2 d1 d2) _ H3.out.2.1.all Try.underlying32 rfl (by kernel_rfl) ?_
    refine wpList_store_mid rfl 32 (.tmp 4) (.tmp 23) rfl (B + 1 + 1) 0 (lac L a6 n cp6 r1 r2 l1 l2 d1 d2) rfl rfl (H3.out.2.2.2.1.there 0 17 (by simp)) (by kernel_rfl) (by simp [Value.oneCell']) ?_
    rw [setCells_L]
    obtain ⟨W9, hW9⟩ : ∃ W9, W9 = setL w3 (B + 1 + 1) 0 (lacL L a6 n cp6 r1 r2 l1 l2 d1 d2) := ⟨_, rfl⟩
    have H9 : Hid (LnO W9 w.heap.size n f L a6 cp6 r1 r2 l1 l2 d1 d2 ∧ Below w.heap.size w W9 ∧ Blk W9 (B + 1 + 1) 32 (lac L a6 n cp6 r1 r2 l1 l2 d1 d2)) := by
      have g1 : w3.grownBy W9 (some (B + 1 + 1)) := by rw [hW9]; exact setL_gw _ _ _
      exact ⟨H3.out.1.keptT g1 ⟨_, H3.out.2.2.2.1⟩ (by decide) (by decide) (by decide), by rw [hW9]; exact setL_below (by have := H3.out.2.2.2.2.2.1; omega) _ _ _ H3.out.2.2.2.2.1, by rw [hW9, show lac L a6 n cp6 r1 r2 l1 l2 d1 d2 = wrA lzc 0 (lacL L a6 n cp6 r1 r2 l1 l2 d1 d2) from (lwr0_17 _ _ _ _ _ _ _ _ _ _ _ _ _ _ _ _ _ _ _ _ _ _ _ _ _ _ _ _ _ _ _ _ _ _).symm]; exact Blk.stL _ _ H3.out.2.2.2.1⟩
    rw [show setL w3 (B + 1 + 1) 0 (lac L a6 n cp6 r1 r2 l1 l2 d1 d2).toList = W9 from hW9.symm]
    clear hW9
    go_wp2
    refine bodyPost_ret (v := .tuple #[.agg (lac L a6 n cp6 r1 r2 l1 l2 d1 d2), .bool false]) (results_cell1 Try.results8 rfl rfl (run_loadVar_mid _ _ _ 32 (lacL L a6 n cp6 r1 r2 l1 l2 d1 d2) _ H9.out.2.2.all Try.underlying32 rfl (by kernel_rfl))) rfl ?_
    exact ⟨_, _, _, _, _, _, rfl, H9.out.1, H9.out.2.1⟩
  | true =>
    obtain ⟨⟨z0, z1, z2, z3, z4, z5, z6, z7, z8⟩, _⟩ := H3.out.2.2.1.nine
    go_wp2_with fail
    refine (l12Call_any C q1 q2 m1 m2 k1 k2 _ HC.out.1 HC.out.2.1 (HC.out.2.2.1.below H3.out.2.2.2.2.1) (HC.out.2.2.2.1.below H3.out.2.2.2.2.1) hm1 hm2).mono ?_
    rintro e w4 ⟨rfl, b4⟩
    rw [HC.out.2.2.2.2.2]
    have H4 : Hid (LnO w4 w.heap.size n f L a6 cp6 r1 r2 l1 l2 d1 d2 ∧ Blk w4 B6 32 (lac L a6 n cp6 r1 r2 l1 l2 d1 d2) ∧ Blk w4 (B + 1) 30 (cac C q1 q2 m1 m2 k1 k2) ∧ Blk w4 (B + 1 + 1) 32 lzc ∧ Below w.heap.size w w4 ∧ w.heap.size = B ∧ B + 1 + 1 < B6) := ⟨H3.out.1.below b4, H3.out.2.1.below b4, H3.out.2.2.1.below b4, H3.out.2.2.2.1.below b4, bel_nx H3.out.2.2.2.2.1 b4, H3.out.2.2.2.2.2.1, H3.out.2.2.2.2.2.2⟩
    clear z0 z1 z2 z3 z4 z5 z6 z7 z8
    have y0 := (HA3.out.below b4).cell 0 rfl
    clear b4 H3
    cases x1 with
    | false =>
      go_upto_region 3 with fail
      refine wp_region_lit ?_
      refine wpList_load_mid rfl 32 (.tmp 6) rfl B6 0 rfl (lacL L a6 n cp6 r1 r2 l1 l2 d1 d2) _ H4.out.2.1.all Try.underlying32 rfl (by kernel_rfl) ?_
      refine wpList_store_mid rfl 32 (.tmp 4) (.tmp 23) rfl (B + 1 + 1) 0 (lac L a6 n cp6 r1 r2 l1 l2 d1 d2) rfl rfl (H4.out.2.2.2.1.there 0 17 (by simp)) (by kernel_rfl) (by simp [Value.oneCell']) ?_
      rw [setCells_L]
      obtain ⟨W9, hW9⟩ : ∃ W9, W9 = setL w4 (B + 1 + 1) 0 (lacL L a6 n cp6 r1 r2 l1 l2 d1 d2) := ⟨_, rfl⟩
      have H9 : Hid (LnO W9 w.heap.size n f L a6 cp6 r1 r2 l1 l2 d1 d2 ∧ Below w.heap.size w W9 ∧ Blk W9 (B + 1 + 1) 32 (lac L a6 n cp6 r1 r2 l1 l2 d1 d2)) := by
        have g1 : w4.grownBy W9 (some (B + 1 + 1)) := by rw [hW9]; exact setL_gw _ _ _
        exact ⟨H4.out.1.keptT g1 ⟨_, H4.out.2.2.2.1⟩ (by decide) (by decide) (by decide), by rw [hW9]; exact setL_below (by have := H4.out.2.2.2.2.2.1; omega) _ _ _ H4.out.2.2.2.2.1, by rw [hW9, show lac L a6 n cp6 r1 r2 l1 l2 d1 d2 = wrA lzc 0 (lacL L a6 n cp6 r1 r2 l1 l2 d1 d2) from (lwr0_17 _ _ _ _ _ _ _ _ _ _ _ _ _ _ _ _ _ _ _ _ _ _ _ _ _ _ _ _ _ _ _ _ _ _).symm]; exact Blk.stL _ _ H4.out.2.2.2.1⟩
      rw [show setL w4 (B + 1 + 1) 0 (lac L a6 n cp6 r1 r2 l1 l2 d1 d2).toList = W9 from hW9.symm]
      clear hW9
      go_wp2
      refine bodyPost_ret (v := .tuple #[.agg (lac L a6 n cp6 r1 r2 l1 l2 d1 d2), .bool false]) (results_cell1 Try.results8 rfl rfl (run_loadVar_mid _ _ _ 32 (lacL L a6 n cp6 r1 r2 l1 l2 d1 d2) _ H9.out.2.2.all Try.underlying32 rfl (by kernel_rfl))) rfl ?_
      exact ⟨_, _, _, _, _, _, rfl, H9.out.1, H9.out.2.1⟩
    | true =>
      cases x2 with
      | true =>
        go_upto_region 3 with fail
        refine wp_region_lit ?_
        refine wpList_load_mid rfl 32 (.tmp 6) rfl B6 0 rfl (lacL L a6 n cp6 r1 r2 l1 l2 d1 d2) _ H4.out.2.1.all Try.underlying32 rfl (by kernel_rfl) ?_
        refine wpList_store_mid rfl 32 (.tmp 4) (.tmp 23) rfl (B + 1 + 1) 0 (lac L a6 n cp6 r1 r2 l1 l2 d1 d2) rfl rfl (H4.out.2.2.2.1.there 0 17 (by simp)) (by kernel_rfl) (by simp [Value.oneCell']) ?_
        rw [setCells_L]
        obtain ⟨W9, hW9⟩ : ∃ W9, W9 = setL w4 (B + 1 + 1) 0 (lacL L a6 n cp6 r1 r2 l1 l2 d1 d2) := ⟨_, rfl⟩
        have H9 : Hid (LnO W9 w.heap.size n f L a6 cp6 r1 r2 l1 l2 d1 d2 ∧ Below w.heap.size w W9 ∧ Blk W9 (B + 1 + 1) 32 (lac L a6 n cp6 r1 r2 l1 l2 d1 d2)) := by
          have g1 : w4.grownBy W9 (some (B + 1 + 1)) := by rw [hW9]; exact setL_gw _ _ _
          exact ⟨H4.out.1.keptT g1 ⟨_, H4.out.2.2.2.1⟩ (by decide) (by decide) (by decide), by rw [hW9]; exact setL_below (by have := H4.out.2.2.2.2.2.1; omega) _ _ _ H4.out.2.2.2.2.1, by rw [hW9, show lac L a6 n cp6 r1 r2 l1 l2 d1 d2 = wrA lzc 0 (lacL L a6 n cp6 r1 r2 l1 l2 d1 d2) from (lwr0_17 _ _ _ _ _ _ _ _ _ _ _ _ _ _ _ _ _ _ _ _ _ _ _ _ _ _ _ _ _ _ _ _ _ _).symm]; exact Blk.stL _ _ H4.out.2.2.2.1⟩
        rw [show setL w4 (B + 1 + 1) 0 (lac L a6 n cp6 r1 r2 l1 l2 d1 d2).toList = W9 from hW9.symm]
        clear hW9
        go_wp2
        refine bodyPost_ret (v := .tuple #[.agg (lac L a6 n cp6 r1 r2 l1 l2 d1 d2), .bool false]) (results_cell1 Try.results8 rfl rfl (run_loadVar_mid _ _ _ 32 (lacL L a6 n cp6 r1 r2 l1 l2 d1 d2) _ H9.out.2.2.all Try.underlying32 rfl (by kernel_rfl))) rfl ?_
        exact ⟨_, _, _, _, _, _, rfl, H9.out.1, H9.out.2.1⟩
      | false =>
        go_upto_region 4 with fail
        have p0 := H4.out.2.1.cell 0 rfl
        obtain ⟨⟨z0, z1, z2, z3, z4, z5, z6, z7, z8⟩, _⟩ := H4.out.2.2.1.nine
        obtain ⟨xs, hxs, hpu⟩ := H4.out.1.row
        have HP := hide hpu
        have HXS := hide hxs
        clear hxs hpu
        have dz : Below w4.heap.size w4 w4.drew := (Below.refl _ _).drew
        have hBB : ¬ B + 1 = B6 := by have := H4.out.2.2.2.2.2.2; omega
        go_region_law (first
          | (go_simp; go_at_call 35; refine (specCopyCall_any C q1 q2 m1 m2 k1 k2 _ HC.out.1 HC.out.2.1 (HC.out.2.2.1.below (by first | exact H4.out.2.2.2.2.1 | exact H4.out.2.2.2.2.1.drew)) (HC.out.2.2.2.1.below (by first | exact H4.out.2.2.2.2.1 | exact H4.out.2.2.2.2.1.drew)) hm1 hm2).mono ?_; rintro e w6 ⟨x1', x2', t1, t2, rfl, j1, j2, b6'⟩; have H6 : Hid (Below w4.heap.size w4 w6 ∧ OwnI w6 w4.heap.size (.slice x1' m1 t1) C.ws ∧ OwnB w6 w4.heap.size (.slice x2' m2 t2) C.bs) := (by first | exact ⟨b6', j1, j2⟩ | exact ⟨bel_nx dz b6', j1, j2⟩); clear j1 j2 b6'; have K6 := H4.out.2.1.below H6.out.1; have p6 := K6.cell 0 rfl; have p7 := (K6.below (bel_alloc w6 (.cells (cac C x1' x2' m1 m2 t1 t2) 30))).cell 0 rfl; have q6 : ¬ B6 = w6.heap.size := Nat.ne_of_lt K6.lt; have q7 : ¬ w6.heap.size = B6 := fun e => q6 e.symm; clear K6)
          | (refine step_appC rfl (.tmp 25) (.tmp 28) rfl w.heap.size (.slice a6 n cp6) n xs rfl (row_bel (row_bel HXS.out H6.out.1) (bel_alloc _ _)) w6.heap.size 1 C x1' x2' m1 m2 t1 t2 rfl (Blk.new w6 _ _) (by omega) (Nat.le_trans (bel_nx H4.out.2.2.2.2.1 H6.out.1).size (bel_alloc _ _).size) ?_; intro v7 w7 o7 g7; obtain ⟨va7, vc7, hv7⟩ := row_form o7; subst hv7; have H7 : Hid (LnO w7 w.heap.size (n + 1) (fun k => if k = n then C else f k) L va7 vc7 r1 r2 l1 l2 d1 d2 ∧ Blk w7 B6 32 (lac L a6 n cp6 r1 r2 l1 l2 d1 d2) ∧ Blk w7 (B + 1 + 1) 32 lzc ∧ Below w.heap.size w w7 ∧ w.heap.size = B ∧ B + 1 + 1 < B6) := (by have h4 := H4.out; have ba := bel_alloc w6 (.cells (cac C x1' x2' m1 m2 t1 t2) 30); have hr := row_bel (row_bel HXS.out H6.out.1) ba; have k1' := (h4.2.1.below H6.out.1).below ba; have k2' := (h4.2.2.2.1.below H6.out.1).below ba; have k3' := bel_nx (bel_nx h4.2.2.2.2.1 H6.out.1) ba; exact ⟨HP.out w6 w7 va7 vc7 C x1' x2' m1 m2 t1 t2 _ (fun k => if k = n then C else f k) H6.out.1 HC.out.1 HC.out.2.1 H6.out.2.1 H6.out.2.2 g7 (fun k hk => if_neg (by omega)) (if_pos rfl) o7, k1'.grown g7 (row_noBlk hr k1' (by decide)), k2'.grown g7 (row_noBlk hr k2' (by decide)), k3'.grown g7 k3'.size (fun x hx => (World.ownsRow.lt hr x hx).1), h4.2.2.2.2.2.1, h4.2.2.2.2.2.2⟩); clear o7 g7; have n0 := H7.out.2.1.cell 0 rfl; have nf := H7.out.2.1.fro 0))
        all_goals (
          obtain ⟨W8, hW8⟩ : ∃ W8, W8 = w7.setCell ⟨B6, 0, none⟩ (.slice va7 (n + 1) vc7) := ⟨_, rfl⟩
          have H8 : Hid (LnO W8 w.heap.size (n + 1) (fun k => if k = n then C else f k) L va7 vc7 r1 r2 l1 l2 d1 d2 ∧ Blk W8 B6 32 (lac L va7 (n + 1) vc7 r1 r2 l1 l2 d1 d2) ∧ True ∧ Blk W8 (B + 1 + 1) 32 lzc ∧ Below w.heap.size w W8 ∧ w.heap.size = B ∧ B + 1 + 1 < B6) := by
            have h7 := H7.out
            have g9 : w7.grownBy W8 (some B6) := by rw [hW8]; exact grown_setj _ _ _ _
            refine ⟨h7.1.keptT g9 ⟨_, h7.2.1⟩ (by decide) (by decide) (by decide), ?_, trivial, h7.2.2.1.grown g9 (by intro e9; have := Option.some.inj e9; have := h7.2.2.2.2.2; omega), ?_, h7.2.2.2.2⟩
            · rw [hW8, show lac L va7 (n + 1) vc7 r1 r2 l1 l2 d1 d2 = (lac L a6 n cp6 r1 r2 l1 l2 d1 d2).setIfInBounds 0 (.slice va7 (n + 1) vc7) by simp]
              exact h7.2.1.set 0 _
            · rw [hW8]; exact h7.2.2.2.1.setCell (p := ⟨B6, 0, none⟩) (by show w.heap.size ≤ B6; have := h7.2.2.2.2; omega) _
          rw [← hW8]
          clear hW8 H7 H6 H4 HP HXS
          go_upto_region 5 with fail
          refine wp_region_lit ?_
          refine wpList_load_mid rfl 32 (.tmp 6) rfl B6 0 rfl (lacL L va7 (n + 1) vc7 r1 r2 l1 l2 d1 d2) _ H8.out.2.1.all Try.underlying32 rfl (by kernel_rfl) ?_
          refine wpList_store_mid rfl 32 (.tmp 4) (.tmp 31) rfl (B + 1 + 1) 0 (lac L va7 (n + 1) vc7 r1 r2 l1 l2 d1 d2) rfl rfl (H8.out.2.2.2.1.there 0 17 (by simp)) (by kernel_rfl) (by simp [Value.oneCell']) ?_
          rw [setCells_L]
          obtain ⟨W9, hW9⟩ : ∃ W9, W9 = setL W8 (B + 1 + 1) 0 (lacL L va7 (n + 1) vc7 r1 r2 l1 l2 d1 d2) := ⟨_, rfl⟩
          have H9 : Hid (LnO W9 w.heap.size (n + 1) (fun k => if k = n then C else f k) L va7 vc7 r1 r2 l1 l2 d1 d2 ∧ Below w.heap.size w W9 ∧ Blk W9 (B + 1 + 1) 32 (lac L va7 (n + 1) vc7 r1 r2 l1 l2 d1 d2)) := by
            have g1 : W8.grownBy W9 (some (B + 1 + 1)) := by rw [hW9]; exact setL_gw _ _ _
            exact ⟨H8.out.1.keptT g1 ⟨_, H8.out.2.2.2.1⟩ (by decide) (by decide) (by decide), by rw [hW9]; exact setL_below (by have := H8.out.2.2.2.2.2.1; omega) _ _ _ H8.out.2.2.2.2.1, by rw [hW9, show lac L va7 (n + 1) vc7 r1 r2 l1 l2 d1 d2 = wrA lzc 0 (lacL L va7 (n + 1) vc7 r1 r2 l1 l2 d1 d2) from (lwr0_17 _ _ _ _ _ _ _ _ _ _ _ _ _ _ _ _ _ _ _ _ _ _ _ _ _ _ _ _ _ _ _ _ _ _).symm]; exact Blk.stL _ _ H8.out.2.2.2.1⟩
          rw [show setL W8 (B + 1 + 1) 0 (lac L va7 (n + 1) vc7 r1 r2 l1 l2 d1 d2).toList = W9 from hW9.symm]
          clear hW9
          go_wp2
          refine bodyPost_ret (v := .tuple #[.agg (lac L va7 (n + 1) vc7 r1 r2 l1 l2 d1 d2), .bool true]) (results_cell1 Try.results8 rfl rfl (run_loadVar_mid _ _ _ 32 (lacL L va7 (n + 1) vc7 r1 r2 l1 l2 d1 d2) _ H9.out.2.2.all Try.underlying32 rfl (by kernel_rfl))) rfl ?_
          exact ⟨_, _, _, _, _, _, rfl, H9.out.1, H9.out.2.1⟩
        )

end Go.Proofs.Ytmhdneenjoelfaa
