/- The law of FnExactLineOk, walked. -/
import Derived.Test.YtgdnfibogkjdoaaArgL
import Derived.Test.YtgdnfibogkjdoaaLn4
import Derived.Test.YtgdnfibogkjdoaaLn1t
import Derived.Test.YtgdnfibogkjdoaaMid
import Derived.Deep.RegionWith
namespace Go.Proofs.Ytgdnfibogkjdoaa
open Go.RowKit Go.Joins

set_option linter.unusedVariables false

theorem bdC_of {n l1 l2 : Nat} {f : Nat → Ca} (h : n + tl f n + l1 + l2 ≤ 1048576) : BdC n f := ⟨by omega, fun k hk => by have := tl_at f hk; omega⟩

theorem lfL_fits {n l1 l2 : Nat} {f : Nat → Ca} (h : n + tl f n + l1 + l2 ≤ 1048576) : ¬ (lfL n f l1 l2 < 0) := by unfold lfL; rw [if_pos h]; omega

set_option maxRecDepth 20000 in
set_option maxHeartbeats 4000000 in
theorem lineOk_law (L : La) (a a1 a2 : Option Addr) (n cp l1 l2 c1 c2 : Nat) (f : Nat → Ca) (w : World) (hi : InLn w n f L a a1 a2 l1 l2) (hfit : n + tl f n + l1 + l2 ≤ 1048576) :
    Calls Try.prog 5 #[.agg (lac L a n cp a1 a2 l1 l2 c1 c2)] w fun e w' => e = .returned (.bool true) ∧ Below w.heap.size w w' := by
  obtain ⟨hs, hm, hmk, hm1, hm2⟩ := hi
  obtain ⟨lf, hlf⟩ : ∃ lf, lf = lfL n f l1 l2 := ⟨_, rfl⟩
  have hnn : ¬ (lf < 0) := by rw [hlf]; exact lfL_fits hfit
  have hl1 : l1 ≤ 2000000 := by omega
  have hl2 : l2 ≤ 2000000 := by omega
  obtain ⟨W, hW⟩ : ∃ W, W = w.alloc (.cells (lac L a n cp a1 a2 l1 l2 c1 c2) 54) := ⟨_, rfl⟩
  have b0 : Below w.heap.size w W := by rw [hW]; exact bel_alloc _ _
  have A0 : Blk W w.heap.size 54 (lac L a n cp a1 a2 l1 l2 c1 c2) := by rw [hW]; exact Blk.new _ _ _
  have HH : Hid (LnR w n f L a a1 a2 l1 l2 ∧ n ≤ maxLen ∧ (∀ k, k < n → (f k).ws.length ≤ maxLen ∧ (f k).bs.length ≤ maxLen) ∧ l1 ≤ maxLen ∧ l2 ≤ maxLen ∧ BdC n f ∧ lf = lfL n f l1 l2) := ⟨hs, hm, hmk, hm1, hm2, bdC_of hfit, hlf⟩
  obtain ⟨ok, hok⟩ : ∃ ok, ok = okLn n f L l1 l2 := ⟨_, rfl⟩
  have HO : Hid (ok = okLn n f L l1 l2) := hok
  have H0 : Hid (Below w.heap.size w W ∧ Blk W w.heap.size 54 (lac L a n cp a1 a2 l1 l2 c1 c2)) := ⟨b0, A0⟩
  clear hs hm hmk hm1 hm2 hfit hlf hok b0 A0
  go_enter Try.func5, Try.ntmps5
  go_upto_region 1 with fail
  rw [← hW]
  clear hW
  go_upto_region 2 with fail
  refine wp_region_lit ?_
  refine wpList_load_mid rfl 54 (.tmp 1) rfl w.heap.size 0 rfl (lacL L a n cp a1 a2 l1 l2 c1 c2) _ H0.out.2.all Try.underlying54 rfl (by kernel_rfl) ?_
  go_wp2_with fail
  refine (szLine_any L a a1 a2 n cp l1 l2 c1 c2 f _ (HH.out.1.below H0.out.1) HH.out.2.1 HH.out.2.2.1 HH.out.2.2.2.1 HH.out.2.2.2.2.1).mono ?_
  rintro e w1 ⟨rfl, b'⟩
  rw [← HH.out.2.2.2.2.2.2]
  have H1 : Hid (Below w.heap.size w w1 ∧ Blk w1 w.heap.size 54 (lac L a n cp a1 a2 l1 l2 c1 c2)) := ⟨bel_nx H0.out.1 b', H0.out.2.below b'⟩
  clear b' H0
  go_upto_region 5 with fail
  refine wp_region_lit ?_
  refine wpList_load_mid rfl 54 (.tmp 1) rfl w.heap.size 0 rfl (lacL L a n cp a1 a2 l1 l2 c1 c2) _ H1.out.2.all Try.underlying54 rfl (by kernel_rfl) ?_
  go_wp2_with fail
  refine (toLine_any L a a1 a2 n cp l1 l2 c1 c2 f _ (HH.out.1.below H1.out.1) HH.out.2.2.2.2.2.1 hl1 hl2).mono ?_
  rintro e w2 ⟨g, g1, g2, rfl, P2, b'⟩
  have H2 : Hid (Below w.heap.size w w2 ∧ Blk w2 w.heap.size 54 (lac L a n cp a1 a2 l1 l2 c1 c2) ∧ LnR w2 n f L (some ⟨g, 0, none⟩) (some ⟨g1, 0, none⟩) (some ⟨g2, 0, none⟩) l1 l2) := ⟨bel_nx H1.out.1 b', H1.out.2.below b', P2.rd⟩
  clear b' H1 P2
  go_wp2_with fail
  refine (specLineOk_any L n n (some ⟨g, 0, none⟩) (some ⟨g1, 0, none⟩) (some ⟨g2, 0, none⟩) l1 l2 l1 l2 f _ H2.out.2.2 HH.out.2.2.2.2.2.1 hl1 hl2).mono ?_
  rintro e w3 ⟨rfl, b'⟩
  rw [← HO.out]
  have H3 : Hid (Below w.heap.size w w3 ∧ Blk w3 w.heap.size 54 (lac L a n cp a1 a2 l1 l2 c1 c2)) := ⟨bel_nx H2.out.1 b', H2.out.2.1.below b'⟩
  clear b' H2
  go_upto_region 6 with fail
  refine wp_region_lit ?_
  refine wpList_load_mid rfl 54 (.tmp 1) rfl w.heap.size 0 rfl (lacL L a n cp a1 a2 l1 l2 c1 c2) _ H3.out.2.all Try.underlying54 rfl (by kernel_rfl) ?_
  go_wp2_with fail
  refine (toLine_any L a a1 a2 n cp l1 l2 c1 c2 f _ (HH.out.1.below H3.out.1) HH.out.2.2.2.2.2.1 hl1 hl2).mono ?_
  rintro e w4 ⟨g', g1', g2', rfl, P4, b'⟩
  obtain ⟨W5, hW5⟩ : ∃ W5, W5 = setL (w4.alloc (.cells lzc 32)) w4.heap.size 0 (lacL L (some ⟨g', 0, none⟩) n n (some ⟨g1', 0, none⟩) (some ⟨g2', 0, none⟩) l1 l2 l1 l2) := ⟨_, rfl⟩
  obtain ⟨B, hB⟩ : ∃ B, B = w4.heap.size := ⟨_, rfl⟩
  have H5 : Hid (Below w.heap.size w W5 ∧ Blk W5 w.heap.size 54 (lac L a n cp a1 a2 l1 l2 c1 c2) ∧ Blk W5 B 32 (lac L (some ⟨g', 0, none⟩) n n (some ⟨g1', 0, none⟩) (some ⟨g2', 0, none⟩) l1 l2 l1 l2) ∧ LnR W5 n f L (some ⟨g', 0, none⟩) (some ⟨g1', 0, none⟩) (some ⟨g2', 0, none⟩) l1 l2) := by
    have b5 : Below w4.heap.size w4 W5 := by rw [hW5]; exact setL_below (Nat.le_refl _) _ _ _ (bel_alloc _ _)
    exact ⟨bel_nx (bel_nx H3.out.1 b') b5, (H3.out.2.below b').below b5, by rw [hW5, hB, show lac L (some ⟨g', 0, none⟩) n n (some ⟨g1', 0, none⟩) (some ⟨g2', 0, none⟩) l1 l2 l1 l2 = wrA lzc 0 (lacL L (some ⟨g', 0, none⟩) n n (some ⟨g1', 0, none⟩) (some ⟨g2', 0, none⟩) l1 l2 l1 l2) from (lwr0_17 _ _ _ _ _ _ _ _ _ _ _ _ _ _ _ _ _ _ _ _ _ _ _ _ _ _ _ _ _ _ _ _ _ _).symm]; exact Blk.stL _ _ (Blk.new _ _ _), P4.rd.below b5⟩
  clear b' H3 P4
  rename_i hK
  refine hK _ _ ?_
  clear hK
  refine wpList_alloc_any rfl 32 rfl lzc 17 184 (by kernel_rfl) ?_
  refine wpList_store_mid rfl 32 (.tmp 5) (.tmp 16) rfl w4.heap.size 0 (lac L (some ⟨g', 0, none⟩) n n (some ⟨g1', 0, none⟩) (some ⟨g2', 0, none⟩) l1 l2 l1 l2) rfl rfl ((Blk.new w4 lzc 32).there 0 17 (by simp)) (by kernel_rfl) (by simp [Value.oneCell']) ?_
  rw [setCells_L, ← hW5, ← hB]
  clear hW5 hB
  refine wpList_nil ?_
  go_upto_region 7 with fail
  refine wp_region_lit ?_
  refine wpList_load_mid rfl 32 (.tmp 5) rfl B 0 rfl (lacL L (some ⟨g', 0, none⟩) n n (some ⟨g1', 0, none⟩) (some ⟨g2', 0, none⟩) l1 l2 l1 l2) _ H5.out.2.2.1.all Try.underlying32 rfl (by kernel_rfl) ?_
  go_wp2_with fail
  refine (implLineOk_any L n n (some ⟨g', 0, none⟩) (some ⟨g1', 0, none⟩) (some ⟨g2', 0, none⟩) l1 l2 l1 l2 f _ H5.out.2.2.2 HH.out.2.2.2.2.2.1 hl1 hl2).mono ?_
  rintro e w6 ⟨rfl, b'⟩
  rw [← HO.out]
  have H6 : Hid (Below w.heap.size w w6 ∧ Blk w6 w.heap.size 54 (lac L a n cp a1 a2 l1 l2 c1 c2) ∧ Blk w6 B 32 (lac L (some ⟨g', 0, none⟩) n n (some ⟨g1', 0, none⟩) (some ⟨g2', 0, none⟩) l1 l2 l1 l2) ∧ LnR w6 n f L (some ⟨g', 0, none⟩) (some ⟨g1', 0, none⟩) (some ⟨g2', 0, none⟩) l1 l2) := ⟨bel_nx H5.out.1 b', H5.out.2.1.below b', H5.out.2.2.1.below b', H5.out.2.2.2.below b'⟩
  clear b' H5
  have ebb : (ok == ok) = true := by simp
  go_upto_region 10 with fail
  refine wp_region_any (by kernel_rfl) ?_
  refine wpAny_vals (fun u => Below w6.heap.size w6 u) (fun i v u => match i with
    | 0 => v = .agg (lac L (some ⟨g', 0, none⟩) n n (some ⟨g1', 0, none⟩) (some ⟨g2', 0, none⟩) l1 l2 l1 l2)
    | 1 => v = .agg (lac L a n cp a1 a2 l1 l2 c1 c2)
    | 2 => ∃ k k1 k2, v = .agg (lac L (some ⟨k, 0, none⟩) n n (some ⟨k1, 0, none⟩) (some ⟨k2, 0, none⟩) l1 l2 l1 l2) ∧ LnR u n f L (some ⟨k, 0, none⟩) (some ⟨k1, 0, none⟩) (some ⟨k2, 0, none⟩) l1 l2
    | 3 => v = .bool true
    | 4 => v = .bool false
    | _ => True) (by kernel_rfl) (by kernel_rfl) ?_ (by first | exact Below.refl _ _ | exact (Below.refl _ _).drew) ?_ ?_ _ _ rfl (by decide) (fun i => by simp [Array.getD]; try (split <;> rfl))
  · intro i v u u' h hb
    match i with
    | 0 => exact h
    | 1 => exact h
    | 2 =>
      obtain ⟨k, k1, k2, e, hl⟩ := h
      exact ⟨k, k1, k2, e, hl.below hb⟩
    | 3 => exact h
    | 4 => exact h
    | _ + 5 => trivial
  · intro vs u hR hall
    have e4 : vs 4 = .bool false := hall 4 (by simp)
    simp only [putsL]
    rw [e4]
    clear hall e4
    have HB : Hid (Below w.heap.size w u) := bel_nx H6.out.1 hR
    clear H6 hR
    go_wp2
    go_ret
    exact ⟨rfl, HB.out⟩
  · intro u i o ρ hR ho hρ hc hf hd
    have hi : i < 5 := by
      have := (Array.getElem?_eq_some_iff.1 ho).1
      simpa using this
    obtain rfl | rfl | rfl | rfl | rfl : i = 0 ∨ i = 1 ∨ i = 2 ∨ i = 3 ∨ i = 4 := by omega
    all_goals (simp only [List.getElem?_toArray, List.getElem?_cons_zero, List.getElem?_cons_succ, Option.some.injEq] at ho; subst ho)
    · have s5 : ρ (.tmp 5) = .pointer (some ⟨B, 0, none⟩) := (hρ 5 (by kernel_rfl)).trans rfl
      exact .inl ⟨rfl, .inl ⟨_, u, run_load_op rfl s5 (run_loadAt_mid u B 0 32 (lacL L (some ⟨g', 0, none⟩) n n (some ⟨g1', 0, none⟩) (some ⟨g2', 0, none⟩) l1 l2 l1 l2) _ (H6.out.2.2.1.below hR).all Try.underlying32 rfl (by kernel_rfl)), rfl, hR, Below.refl _ _⟩⟩
    · have s1 : ρ (.tmp 1) = .pointer (some ⟨w.heap.size, 0, none⟩) := (hρ 1 (by kernel_rfl)).trans rfl
      exact .inl ⟨rfl, .inl ⟨_, u, run_load_op rfl s1 (run_loadAt_mid u w.heap.size 0 54 (lacL L a n cp a1 a2 l1 l2 c1 c2) _ (H6.out.2.1.below hR).all Try.underlying54 rfl (by kernel_rfl)), rfl, hR, Below.refl _ _⟩⟩
    · have h1 : ρ (.tmp 23) = .agg (lac L a n cp a1 a2 l1 l2 c1 c2) := hd ⟨1, .data⟩ (by simp) rfl 23 rfl
      refine .inl ⟨rfl, .inr ⟨_, _, run_call_op rfl (hf _) (args := #[.agg (lac L a n cp a1 a2 l1 l2 c1 c2)]) (by simp [h1]) (by kernel_rfl), ?_⟩⟩
      refine (toLine_any L a a1 a2 n cp l1 l2 c1 c2 f _ (HH.out.1.below (bel_nx H6.out.1 hR)) HH.out.2.2.2.2.2.1 hl1 hl2).mono ?_
      rintro e u' ⟨k, k1, k2, he, P7, b'⟩
      exact ⟨_, he, ⟨k, k1, k2, rfl, P7.rd⟩, bel_nx hR b', b'⟩
    · have h0 : ρ (.tmp 22) = .agg (lac L (some ⟨g', 0, none⟩) n n (some ⟨g1', 0, none⟩) (some ⟨g2', 0, none⟩) l1 l2 l1 l2) := hd ⟨0, .data⟩ (by simp) rfl 22 rfl
      obtain ⟨k, k1, k2, hv, hl⟩ : ∃ k k1 k2, ρ (.tmp 24) = .agg (lac L (some ⟨k, 0, none⟩) n n (some ⟨k1, 0, none⟩) (some ⟨k2, 0, none⟩) l1 l2 l1 l2) ∧ LnR u n f L (some ⟨k, 0, none⟩) (some ⟨k1, 0, none⟩) (some ⟨k2, 0, none⟩) l1 l2 := hd ⟨2, .data⟩ (by simp) rfl 24 rfl
      refine .inl ⟨rfl, .inr ⟨_, _, run_call_op rfl (hf _) (args := #[.agg (lac L (some ⟨g', 0, none⟩) n n (some ⟨g1', 0, none⟩) (some ⟨g2', 0, none⟩) l1 l2 l1 l2), .agg (lac L (some ⟨k, 0, none⟩) n n (some ⟨k1, 0, none⟩) (some ⟨k2, 0, none⟩) l1 l2 l1 l2)]) (by simp [h0, hv]) (by kernel_rfl), ?_⟩⟩
      refine (eqLine_true L _ _ _ _ _ _ n n l1 l2 l1 l2 n l1 l2 l1 l2 f _ (H6.out.2.2.2.below hR) hl HH.out.2.2.2.2.2.1 hl1 hl2).mono ?_
      rintro e u' ⟨he, b'⟩
      exact ⟨_, he, rfl, bel_nx hR b', b'⟩
    · have h3 : ρ (.tmp 25) = .bool true := hd ⟨3, .data⟩ (by simp) rfl 25 rfl
      exact .inl ⟨rfl, .inl ⟨.bool false, u, run_un_op rfl h3 (by go_simp), rfl, hR, Below.refl _ _⟩⟩

end Go.Proofs.Ytgdnfibogkjdoaa
