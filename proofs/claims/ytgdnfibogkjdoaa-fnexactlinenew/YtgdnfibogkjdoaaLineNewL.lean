/- The law of FnExactLineNew, walked. -/
import Derived.Test.YtgdnfibogkjdoaaLn5
import Derived.Test.YtgdnfibogkjdoaaCl4
import Derived.Test.YtgdnfibogkjdoaaArgS
namespace Go.Proofs.Ytgdnfibogkjdoaa
open Go.RowKit Go.Joins

set_option linter.unusedVariables false

set_option linter.unusedSimpArgs false

theorem lnP_new (w : World) (base : Nat) (f : Nat → Ca) (L : La) (h : L.c = ca0) : LnP w base 0 f L none 0 none none 0 0 0 0 :=
  ⟨by rw [h]; rfl, by rw [h]; rfl, fun _ => [], fun _ => base, .inl ⟨rfl, none, 0, rfl⟩, InE.start w base _ _, by rw [h]; exact ⟨rfl, .inl ⟨rfl, rfl⟩⟩, by rw [h]; exact ⟨rfl, .inl ⟨rfl, rfl⟩⟩, fun k hk => (by cases hk), fun k hk => (by cases hk)⟩

theorem smL_new (f : Nat → Ca) : SmL 0 f 0 0 := by unfold SmL; simp [tlCa]

set_option maxRecDepth 20000 in
set_option maxHeartbeats 4000000 in
theorem lineNew_law (wt tr : Int) (w : World) :
    Calls Try.prog 4 #[.int .i64 wt, .int .i64 tr] w fun e w' => e = .returned (.bool true) ∧ Below w.heap.size w w' := by
  have HC : Hid ((nwL wt tr).c = ca0) := nwL_c wt tr
  have f0 : Nat → Ca := fun _ => ca0
  have HR : Hid (∀ u : World, LnR u 0 f0 (nwL wt tr) none none none 0 0) := fun u => (lnP_new u 0 f0 _ HC.out).rd
  have HD : Hid (BdC 0 f0) := ⟨Nat.zero_le _, fun k hk => by omega⟩
  have HM : Hid (∀ u : World, LnR u 0 (fun k => mkCa (msCa 1 f0 k) (f0 k)) (mkL (msCa 1 f0 0) (nwL wt tr)) none none none 0 0) := fun u => (LnP.rd (w := u) (base := 0) (cp := 0) (c1 := 0) (c2 := 0) (by
    have hc := HC.out
    exact ⟨by simp [mkL, marksI_length, hc, ca0], by simp [mkL, marksB_length, hc, ca0], fun _ => [], fun _ => 0, .inl ⟨rfl, none, 0, rfl⟩, InE.start u 0 _ _, by simp only [mkL, hc]; exact ⟨rfl, .inl ⟨rfl, rfl⟩⟩, by simp only [mkL, hc]; exact ⟨rfl, .inl ⟨rfl, rfl⟩⟩, fun k hk => (by cases hk), fun k hk => (by cases hk)⟩))
  go_enter Try.func4, Try.ntmps4
  go_wp2_with fail
  refine (specLineNew_any wt tr _).mono ?_
  rintro e w1 ⟨rfl, b1⟩
  obtain ⟨W1, hW1⟩ : ∃ W, W = setL (w1.alloc (.cells lzc 32)) w1.heap.size 0 (lacL (nwL wt tr) none 0 0 none none 0 0 0 0) := ⟨_, rfl⟩
  obtain ⟨B1, hB1⟩ : ∃ B, B = w1.heap.size := ⟨_, rfl⟩
  have H1 : Hid (Below w.heap.size w W1 ∧ Blk W1 B1 32 (lac (nwL wt tr) none 0 0 none none 0 0 0 0)) := by
    have b5 : Below w1.heap.size w1 W1 := by rw [hW1]; exact setL_below (Nat.le_refl _) _ _ _ (bel_alloc _ _)
    exact ⟨bel_nx (bel_nx (Below.refl _ _) b1) b5, by rw [hW1, hB1, show lac (nwL wt tr) none 0 0 none none 0 0 0 0 = wrA lzc 0 (lacL (nwL wt tr) none 0 0 none none 0 0 0 0) from (lwr0_17 _ _ _ _ _ _ _ _ _ _ _ _ _ _ _ _ _ _ _ _ _ _ _ _ _ _ _ _ _ _ _ _ _ _).symm]; exact Blk.stL _ _ (Blk.new _ _ _)⟩
  rename_i hK
  refine hK _ _ ?_
  clear hK b1
  refine wpList_alloc_any rfl 32 rfl lzc 17 184 (by kernel_rfl) ?_
  refine wpList_store_mid rfl 32 (.tmp 5) (.tmp 12) rfl w1.heap.size 0 (lac (nwL wt tr) none 0 0 none none 0 0 0 0) rfl rfl ((Blk.new w1 lzc 32).there 0 17 (by simp)) (by kernel_rfl) (by simp [Value.oneCell']) ?_
  rw [setCells_L, ← hW1, ← hB1]
  clear hW1 hB1
  refine wpList_nil ?_
  go_wp2_with fail
  refine (implLineNew_any wt tr _).mono ?_
  rintro e w2 ⟨rfl, b2⟩
  obtain ⟨W2, hW2⟩ : ∃ W, W = setL (w2.alloc (.cells lzc 32)) w2.heap.size 0 (lacL (nwL wt tr) none 0 0 none none 0 0 0 0) := ⟨_, rfl⟩
  obtain ⟨B2, hB2⟩ : ∃ B, B = w2.heap.size := ⟨_, rfl⟩
  have H2 : Hid (Below w.heap.size w W2 ∧ Blk W2 B1 32 (lac (nwL wt tr) none 0 0 none none 0 0 0 0) ∧ Blk W2 B2 32 (lac (nwL wt tr) none 0 0 none none 0 0 0 0)) := by
    have b5 : Below w2.heap.size w2 W2 := by rw [hW2]; exact setL_below (Nat.le_refl _) _ _ _ (bel_alloc _ _)
    exact ⟨bel_nx (bel_nx H1.out.1 b2) b5, ((H1.out.2).below b2).below b5, by rw [hW2, hB2, show lac (nwL wt tr) none 0 0 none none 0 0 0 0 = wrA lzc 0 (lacL (nwL wt tr) none 0 0 none none 0 0 0 0) from (lwr0_17 _ _ _ _ _ _ _ _ _ _ _ _ _ _ _ _ _ _ _ _ _ _ _ _ _ _ _ _ _ _ _ _ _ _).symm]; exact Blk.stL _ _ (Blk.new _ _ _)⟩
  rename_i hK
  refine hK _ _ ?_
  clear hK b2 H1
  refine wpList_alloc_any rfl 32 rfl lzc 17 184 (by kernel_rfl) ?_
  refine wpList_store_mid rfl 32 (.tmp 6) (.tmp 15) rfl w2.heap.size 0 (lac (nwL wt tr) none 0 0 none none 0 0 0 0) rfl rfl ((Blk.new w2 lzc 32).there 0 17 (by simp)) (by kernel_rfl) (by simp [Value.oneCell']) ?_
  rw [setCells_L, ← hW2, ← hB2]
  clear hW2 hB2
  refine wpList_nil ?_
  go_upto_region 3 with fail
  refine wp_region_lit ?_
  refine wpList_load_mid rfl 32 (.tmp 6) rfl B2 0 rfl (lacL (nwL wt tr) none 0 0 none none 0 0 0 0) _ H2.out.2.2.all Try.underlying32 rfl (by kernel_rfl) ?_
  refine wpList_load_mid rfl 32 (.tmp 5) rfl B1 0 rfl (lacL (nwL wt tr) none 0 0 none none 0 0 0 0) _ H2.out.2.1.all Try.underlying32 rfl (by kernel_rfl) ?_
  go_wp2_with fail
  refine (eqLine_true (nwL wt tr) none none none none none none 0 0 0 0 0 0 0 0 0 0 0 f0 _ (HR.out _) (HR.out _) HD.out (by omega) (by omega)).mono ?_
  rintro e w3 ⟨rfl, b3⟩
  have H3 : Hid (Below w.heap.size w w3 ∧ Blk w3 B1 32 (lac (nwL wt tr) none 0 0 none none 0 0 0 0) ∧ Blk w3 B2 32 (lac (nwL wt tr) none 0 0 none none 0 0 0 0)) := ⟨bel_nx H2.out.1 b3, (H2.out.2.1).below b3, (H2.out.2.2).below b3⟩
  clear b3 H2
  go_upto_region 6 with fail
  refine wp_region_lit ?_
  refine wpList_load_mid rfl 32 (.tmp 6) rfl B2 0 rfl (lacL (nwL wt tr) none 0 0 none none 0 0 0 0) _ H3.out.2.2.all Try.underlying32 rfl (by kernel_rfl) ?_
  go_wp2_with fail
  refine (markLine_any (nwL wt tr) none none none 0 0 0 0 0 0 w3.heap.size 1 f0 _ (lnP_new _ _ _ _ HC.out) (Nat.le_refl _) (by omega) (smL_new f0)).mono ?_
  rintro e w4 ⟨rfl, _, b4⟩
  have H4 : Hid (Below w.heap.size w w4 ∧ Blk w4 B1 32 (lac (nwL wt tr) none 0 0 none none 0 0 0 0) ∧ Blk w4 B2 32 (lac (nwL wt tr) none 0 0 none none 0 0 0 0)) := ⟨bel_nx H3.out.1 b4, (H3.out.2.1).below b4, (H3.out.2.2).below b4⟩
  clear b4 H3
  have x4 : ((msCa 1 f0 0 + 0 + 0 : Nat) : Int) = 1 := rfl
  rw [x4]
  go_upto_region 8 with fail
  refine wp_region_lit ?_
  refine wpList_load_mid rfl 32 (.tmp 6) rfl B2 0 rfl (lacL (nwL wt tr) none 0 0 none none 0 0 0 0) _ H4.out.2.2.all Try.underlying32 rfl (by kernel_rfl) ?_
  go_wp2_with fail
  refine (heldLine_any (nwL wt tr) none none none 0 0 0 0 0 0 1 f0 _ (HM.out _) (by omega) (smL_new f0) _ rfl).mono ?_
  rintro e w5 ⟨rfl, b5⟩
  rw [x4]
  have H5 : Hid (Below w.heap.size w w5 ∧ Blk w5 B1 32 (lac (nwL wt tr) none 0 0 none none 0 0 0 0) ∧ Blk w5 B2 32 (lac (nwL wt tr) none 0 0 none none 0 0 0 0)) := ⟨bel_nx H4.out.1 b5, (H4.out.2.1).below b5, (H4.out.2.2).below b5⟩
  clear b5 H4
  go_wp2_with fail
  refine (implLineNew_any wt tr _).mono ?_
  rintro e w6 ⟨rfl, b6⟩
  obtain ⟨W6, hW6⟩ : ∃ W, W = setL (w6.alloc (.cells lzc 32)) w6.heap.size 0 (lacL (nwL wt tr) none 0 0 none none 0 0 0 0) := ⟨_, rfl⟩
  obtain ⟨B6, hB6⟩ : ∃ B, B = w6.heap.size := ⟨_, rfl⟩
  have H6 : Hid (Below w.heap.size w W6 ∧ Blk W6 B1 32 (lac (nwL wt tr) none 0 0 none none 0 0 0 0) ∧ Blk W6 B2 32 (lac (nwL wt tr) none 0 0 none none 0 0 0 0) ∧ Blk W6 B6 32 (lac (nwL wt tr) none 0 0 none none 0 0 0 0)) := by
    have b5 : Below w6.heap.size w6 W6 := by rw [hW6]; exact setL_below (Nat.le_refl _) _ _ _ (bel_alloc _ _)
    exact ⟨bel_nx (bel_nx H5.out.1 b6) b5, ((H5.out.2.1).below b6).below b5, ((H5.out.2.2).below b6).below b5, by rw [hW6, hB6, show lac (nwL wt tr) none 0 0 none none 0 0 0 0 = wrA lzc 0 (lacL (nwL wt tr) none 0 0 none none 0 0 0 0) from (lwr0_17 _ _ _ _ _ _ _ _ _ _ _ _ _ _ _ _ _ _ _ _ _ _ _ _ _ _ _ _ _ _ _ _ _ _).symm]; exact Blk.stL _ _ (Blk.new _ _ _)⟩
  rename_i hK
  refine hK _ _ ?_
  clear hK b6 H5
  refine wpList_alloc_any rfl 32 rfl lzc 17 184 (by kernel_rfl) ?_
  refine wpList_store_mid rfl 32 (.tmp 9) (.tmp 33) rfl w6.heap.size 0 (lac (nwL wt tr) none 0 0 none none 0 0 0 0) rfl rfl ((Blk.new w6 lzc 32).there 0 17 (by simp)) (by kernel_rfl) (by simp [Value.oneCell']) ?_
  rw [setCells_L, ← hW6, ← hB6]
  clear hW6 hB6
  refine wpList_nil ?_
  go_upto_region 14 with fail
  refine wp_region_lit ?_
  refine wpList_load_mid rfl 32 (.tmp 9) rfl B6 0 rfl (lacL (nwL wt tr) none 0 0 none none 0 0 0 0) _ H6.out.2.2.2.all Try.underlying32 rfl (by kernel_rfl) ?_
  refine wpList_load_mid rfl 32 (.tmp 5) rfl B1 0 rfl (lacL (nwL wt tr) none 0 0 none none 0 0 0 0) _ H6.out.2.1.all Try.underlying32 rfl (by kernel_rfl) ?_
  go_wp2_with fail
  refine (eqLine_true (nwL wt tr) none none none none none none 0 0 0 0 0 0 0 0 0 0 0 f0 _ (HR.out _) (HR.out _) HD.out (by omega) (by omega)).mono ?_
  rintro e w7 ⟨rfl, b7⟩
  have H7 : Hid (Below w.heap.size w w7 ∧ Blk w7 B1 32 (lac (nwL wt tr) none 0 0 none none 0 0 0 0) ∧ Blk w7 B2 32 (lac (nwL wt tr) none 0 0 none none 0 0 0 0) ∧ Blk w7 B6 32 (lac (nwL wt tr) none 0 0 none none 0 0 0 0)) := ⟨bel_nx H6.out.1 b7, (H6.out.2.1).below b7, (H6.out.2.2.1).below b7, (H6.out.2.2.2).below b7⟩
  clear b7 H6
  go_upto_region 17 with fail
  refine wp_region_lit ?_
  refine wpList_load_mid rfl 32 (.tmp 6) rfl B2 0 rfl (lacL (nwL wt tr) none 0 0 none none 0 0 0 0) _ H7.out.2.2.1.all Try.underlying32 rfl (by kernel_rfl) ?_
  go_wp2_with fail
  refine (heldLine_any (nwL wt tr) none none none 0 0 0 0 0 0 1 f0 _ (HM.out _) (by omega) (smL_new f0) _ rfl).mono ?_
  rintro e w8 ⟨rfl, b8⟩
  rw [x4]
  have B8 : Hid (Below w.heap.size w w8) := bel_nx H7.out.1 b8
  clear b8 H7
  go_wp2
  go_ret
  exact ⟨rfl, B8.out⟩

end Go.Proofs.Ytgdnfibogkjdoaa
