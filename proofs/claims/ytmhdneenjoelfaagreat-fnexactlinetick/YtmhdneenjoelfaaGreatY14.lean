/- Texts that the proof needs, joined: TickL. -/
import Derived.Test.YtmhdneenjoelfaaGreatY13
import Derived.Test.YtmhdneenjoelfaaGreatY2
namespace Go.Proofs.YtmhdneenjoelfaaGreat
open Go.RowKit Go.Joins
set_option linter.unusedVariables false
set_option linter.unusedSimpArgs false
theorem lf_fits8 {n l1 l2 : Nat} {f : Nat → Ca} (h : n + tl f n + l1 + l2 ≤ 1048576) : lfL n f l1 l2 = ((1048576 - (n + tl f n + l1 + l2) : Nat) : Int) := by unfold lfL; rw [if_pos h]
def TickS (w w' : World) (e : Ending) (n : Nat) (f : Nat → Ca) (L' : La) (j1 j2 N2 : Nat) (D2 : Od) (N1 : Nat) (D1 : Dn) : Prop :=
  ∃ a cp a1 a2 c1 c2 v2 w2 v1 w1, e = .returned (.tuple #[.agg (lac L' a n cp a1 a2 j1 j2 c1 c2), .slice v2 N2 w2, .slice v1 N1 w1]) ∧ LnP w' w.heap.size n f L' a cp a1 a2 j1 j2 c1 c2 ∧ TopL w' w.heap.size w'.heap.size 83 8 (.slice v2 N2 w2) N2 (fun _ => odE D2) ∧ TopL w' w.heap.size w'.heap.size 43 8 (.slice v1 N1 w1) N1 (fun _ => dnE D1) ∧ Below w.heap.size w w'
def TickQ (w w' : World) (e : Ending) (n : Nat) (f : Nat → Ca) (L' : La) (j1 j2 N2 : Nat) (D2 : Od) (N1 : Nat) (D1 : Dn) : Prop :=
  ∃ a cp a1 a2 c1 c2 hi hm v2 w2 v1 w1, e = .returned (.tuple #[.agg (lac L' a n cp a1 a2 j1 j2 c1 c2), .slice v2 N2 w2, .slice v1 N1 w1]) ∧ w.heap.size ≤ hi ∧ hi ≤ hm ∧ hm ≤ w'.heap.size ∧ LnPB w' w.heap.size hi n f L' a cp a1 a2 j1 j2 c1 c2 ∧ TopL w' hm w'.heap.size 83 8 (.slice v2 N2 w2) N2 (fun _ => odE D2) ∧ TopL w' hi hm 43 8 (.slice v1 N1 w1) N1 (fun _ => dnE D1) ∧ Below w.heap.size w w'
theorem tl_shift (f : Nat → Ca) : ∀ m, tl (fun k => f (k + 1)) m + ((f 0).ws.length + (f 0).bs.length) = tl f (m + 1)
  | 0 => by simp [tl]
  | m + 1 => by
    have h := tl_shift f m
    simp only [tl] at h ⊢
    omega
theorem tk_bd (ag en nx : Bool) (n l1 l2 : Nat) (f : Nat → Ca) (now : Int) (L : La) (h : nx = true → 0 < n) (e1 : l1 = L.c.ws.length) (e2 : l2 = L.c.bs.length) :
    tkN nx n + tl (tkF nx f) (tkN nx n) + (tkL ag en nx f now L).c.ws.length + (tkL ag en nx f now L).c.bs.length ≤ n + tl f n + l1 + l2 ∧ (tkOd nx f now L).ws.length + (tkOd nx f now L).bs.length ≤ n + tl f n + l1 + l2 := by
  cases nx with
  | true =>
    have hn := h rfl
    obtain ⟨m, rfl⟩ : ∃ m, n = m + 1 := ⟨n - 1, by omega⟩
    have hs := tl_shift f m
    simp only [tkN, tkF, tkL, tkOd, nxL, odL, if_pos]
    show m + 1 - 1 + tl (fun k => f (k + 1)) (m + 1 - 1) + _ + _ ≤ _ ∧ _
    rw [Nat.add_sub_cancel]
    omega
  | false =>
    cases ag with
    | true =>
      simp [tkN, tkF, tkL, tkOd, agL, odL]
      omega
    | false =>
      cases en with
      | true =>
        simp [tkN, tkF, tkL, tkOd, freeL, ca0, odL]
        omega
      | false =>
        simp [tkN, tkF, tkL, tkOd, odL]
        omega
set_option maxRecDepth 40000 in
set_option maxHeartbeats 4000000 in
theorem lineTick_law (L : La) (a a1 a2 : Option Addr) (n cp l1 l2 c1 c2 : Nat) (f : Nat → Ca) (now : Int) (w : World) (hin : InLn w n f L a a1 a2 l1 l2) (hfit : n + tl f n + l1 + l2 ≤ 1048576) :
    Calls Tryz.prog 4 #[.agg (lac L a n cp a1 a2 l1 l2 c1 c2), .int .i64 now] w fun e w' => e = .returned (.bool true) ∧ Below w.heap.size w w' := by
  obtain ⟨hs, hmx, hmk, hmx1, hmx2⟩ := hin
  obtain ⟨xa, hxa⟩ : ∃ x, okLn n f L l1 l2 = x := ⟨_, rfl⟩
  obtain ⟨xb, hxb⟩ : ∃ x, inB now 0 4294967295 = x := ⟨_, rfl⟩
  obtain ⟨bz, hbz⟩ : ∃ x, L.bz = x := ⟨_, rfl⟩
  obtain ⟨dz, hdz⟩ : ∃ x, tkD now L.du = x := ⟨_, rfl⟩
  obtain ⟨lz, hlz⟩ : ∃ x, decide (0 < L.le) = x := ⟨_, rfl⟩
  obtain ⟨nz, hnz⟩ : ∃ x, decide (0 < n) = x := ⟨_, rfl⟩
  obtain ⟨ag, hag⟩ : ∃ x, x = tkA (xa && xb) bz dz lz := ⟨_, rfl⟩
  obtain ⟨en, hen⟩ : ∃ x, x = tkE (xa && xb) bz dz lz := ⟨_, rfl⟩
  obtain ⟨nx, hnx⟩ : ∃ x, x = tkX (xa && xb) bz dz lz nz := ⟨_, rfl⟩
  have hnx0 : nx = true → 0 < n := fun h => by
    rw [hnx] at h
    unfold tkX at h
    simp only [Bool.and_eq_true] at h
    exact of_decide_eq_true (hnz.trans h.2.2)
  have hbds := tk_bd ag en nx n l1 l2 f now L hnx0 hs.1 hs.2.1
  obtain ⟨L', hL'⟩ : ∃ L', L' = tkL ag en nx f now L := ⟨_, rfl⟩
  obtain ⟨n', hn'⟩ : ∃ n', n' = tkN nx n := ⟨_, rfl⟩
  obtain ⟨f', hf'⟩ : ∃ f', f' = tkF nx f := ⟨_, rfl⟩
  obtain ⟨j1, hj1⟩ : ∃ j1, j1 = L'.c.ws.length := ⟨_, rfl⟩
  obtain ⟨j2, hj2⟩ : ∃ j2, j2 = L'.c.bs.length := ⟨_, rfl⟩
  obtain ⟨N2, hN2⟩ : ∃ N2, N2 = tkC (ag || nx) := ⟨_, rfl⟩
  obtain ⟨D2, hD2⟩ : ∃ D2, D2 = tkOd nx f now L := ⟨_, rfl⟩
  obtain ⟨N1, hN1⟩ : ∃ N1, N1 = tkC en := ⟨_, rfl⟩
  obtain ⟨D1, hD1⟩ : ∃ D1, D1 = tkDn L := ⟨_, rfl⟩
  rw [← hL', ← hn', ← hf', ← hj1, ← hj2, ← hD2] at hbds
  have hl1 : l1 ≤ 2000000 := by omega
  have hl2 : l2 ≤ 2000000 := by omega
  have hN2' : N2 ≤ 1 := by rw [hN2]; unfold tkC; split <;> omega
  have hN1' : N1 ≤ 1 := by rw [hN1]; unfold tkC; split <;> omega
  have hbd : BdC n f := ⟨by omega, fun k hk => by have := tl_at f hk; omega⟩
  have hbd' : BdC n' f' := ⟨by omega, fun k hk => by have := tl_at f' hk; omega⟩
  have HSP : Hid (∀ (u : World) (aa : Option Addr) (ap : Nat) (b1 b2 : Option Addr) (y1 y2 : Nat), LnR u n f L aa b1 b2 l1 l2 → Calls Tryz.prog 14 #[.agg (lac L aa n ap b1 b2 l1 l2 y1 y2), .int .i64 now] u fun e u' => TickS u u' e n' f' L' j1 j2 N2 D2 N1 D1) := fun u aa ap b1 b2 y1 y2 h1 => by
    have h9 := specTick_any L aa b1 b2 n ap l1 l2 y1 y2 f now u h1 hbd hl1 hl2 xa xb bz dz lz nz hxa hxb hbz hdz hlz hnz
    rw [← hag, ← hen, ← hnx, ← hL', ← hn', ← hf', ← hN2, ← hD2, ← hN1, ← hD1] at h9
    rw [hj1, hj2]; exact h9
  have HIP : Hid (∀ (u : World) (aa : Option Addr) (ap : Nat) (b1 b2 : Option Addr) (y1 y2 : Nat), LnR u n f L aa b1 b2 l1 l2 → Calls Tryz.prog 12 #[.agg (lac L aa n ap b1 b2 l1 l2 y1 y2), .int .i64 now] u fun e u' => TickQ u u' e n' f' L' j1 j2 N2 D2 N1 D1) := fun u aa ap b1 b2 y1 y2 h1 => by
    have h9 := implTick_any L aa b1 b2 n ap l1 l2 y1 y2 f now u h1 hbd hl1 hl2 xa xb bz dz lz nz hxa hxb hbz hdz hlz hnz
    rw [← hag, ← hen, ← hnx, ← hL', ← hn', ← hf', ← hN2, ← hD2, ← hN1, ← hD1] at h9
    rw [hj1, hj2]; exact h9
  have hsm : SmL n f l1 l2 := by unfold SmL; rw [tlCa_eq]; omega
  have hsm' : SmL n' f' j1 j2 := by unfold SmL; rw [tlCa_eq]; omega
  have hDw : D1.ws.length = 0 ∧ D1.bs.length = 0 := by rw [hD1]; exact ⟨rfl, rfl⟩
  have htl1 : tlDn (fun _ => D1) N1 = 0 := by
    obtain h9 | h9 : N1 = 0 ∨ N1 = 1 := by omega
    · rw [h9]; simp [tlDn]
    · rw [h9]; simp only [tlDn]; omega
  have htl2 : tlOd (fun _ => D2) N2 ≤ 1048576 := by
    obtain h9 | h9 : N2 = 0 ∨ N2 = 1 := by omega
    · rw [h9]; simp [tlOd]
    · rw [h9]; simp only [tlOd]; omega
  have hbD : BdDn N1 (fun _ => D1) := ⟨by omega, fun _ _ => ⟨by show D1.ws.length ≤ 2000000; omega, by show D1.bs.length ≤ 2000000; omega⟩⟩
  have hbO : BdOd N2 (fun _ => D2) := ⟨by omega, fun _ _ => ⟨by show D2.ws.length ≤ 2000000; omega, by show D2.bs.length ≤ 2000000; omega⟩⟩
  have hsD : SmDn N1 (fun _ => D1) := by unfold SmDn; omega
  have hsO : SmOd N2 (fun _ => D2) := by unfold SmOd; omega
  obtain ⟨lf, hlf⟩ : ∃ lf : Nat, lf = 1048576 - (n + tl f n + l1 + l2) := ⟨_, rfl⟩
  have hlf0 : ¬ (lf : Int) < 0 := by omega
  obtain ⟨K1, hK1⟩ : ∃ K1 : Nat, K1 = msCa 1 f n + l1 + l2 := ⟨_, rfl⟩
  obtain ⟨K3, hK3⟩ : ∃ K3 : Nat, K3 = msCa 1 f' n' + j1 + j2 := ⟨_, rfl⟩
  obtain ⟨K4, hK4⟩ : ∃ K4 : Nat, K4 = msOd K3 (fun _ => D2) N2 := ⟨_, rfl⟩
  obtain ⟨K5, hK5⟩ : ∃ K5 : Nat, K5 = msDn K4 (fun _ => D1) N1 := ⟨_, rfl⟩
  have hb3 : K3 + 6 * N2 + tlOd (fun _ => D2) N2 ≤ 8999000 := by rw [hK3, msCa_eq, tlCa_eq]; omega
  have hb4 : K4 + 6 * N1 + tlDn (fun _ => D1) N1 ≤ 8999000 := by
    rw [hK4, msOd_eq, hK3, msCa_eq, tlCa_eq]
    omega
  have HH : Hid (LnR w n f L a a1 a2 l1 l2 ∧ BdC n f ∧ BdDn N1 (fun _ => D1) ∧ SmL n' f' j1 j2 ∧ SmL n f l1 l2 ∧ n ≤ maxLen ∧ (∀ k, k < n → (f k).ws.length ≤ maxLen ∧ (f k).bs.length ≤ maxLen) ∧ l1 ≤ maxLen ∧ l2 ≤ maxLen ∧ lfL n f l1 l2 = (lf : Int)) := ⟨hs, hbd, hbD, hsm', hsm, hmx, hmk, hmx1, hmx2, by rw [hlf]; exact lf_fits8 (by omega)⟩
  have HO : Hid (BdOd N2 (fun _ => D2) ∧ BdC n' f' ∧ SmDn N1 (fun _ => D1) ∧ SmOd N2 (fun _ => D2) ∧ K3 + 6 * N2 + tlOd (fun _ => D2) N2 ≤ 8999000 ∧ K4 + 6 * N1 + tlDn (fun _ => D1) N1 ≤ 8999000 ∧ j1 ≤ 2000000 ∧ j2 ≤ 2000000) := ⟨hbO, hbd', hsD, hsO, hb3, hb4, by omega, by omega⟩
  have HK : Hid (K1 = msCa 1 f n + l1 + l2 ∧ K3 = msCa 1 f' n' + j1 + j2 ∧ K4 = msOd K3 (fun _ => D2) N2 ∧ K5 = msDn K4 (fun _ => D1) N1) := ⟨hK1, hK3, hK4, hK5⟩
  obtain ⟨B, hB⟩ : ∃ B, B = w.heap.size := ⟨_, rfl⟩
  obtain ⟨W, hW⟩ : ∃ W, W = w.alloc (.cells (lac L a n cp a1 a2 l1 l2 c1 c2) 53) := ⟨_, rfl⟩
  have H0 : Hid (Blk W B 53 (lac L a n cp a1 a2 l1 l2 c1 c2) ∧ True ∧ Below w.heap.size w W) := by
    have bW : Below w.heap.size w W := by rw [hW]; exact bel_alloc w _
    exact ⟨by rw [hW, hB]; exact Blk.new w _ _, trivial, bW⟩
  clear hs hmx hmk hmx1 hmx2 hxa hxb hbz hdz hlz hnz hag hen hnx hnx0 hbds hL' hn' hf' hj1 hj2 hN2 hD2 hN1 hD1 hN2' hN1' hbd hbd' hsm hsm' hDw htl1 htl2 hbD hbO hsD hsO hfit hlf hK1 hK3 hK4 hK5 hb3 hb4
  go_enter Tryz.func4, Tryz.ntmps4
  go_upto_region 1 with fail
  rw [← hW, ← hB]
  clear hW hB
  go_upto_region 2 with fail
  try go_simp
  refine wp_region_lit ?_
  refine wpList_load_mid rfl 53 (.tmp 2) rfl B 0 rfl (lacL L a n cp a1 a2 l1 l2 c1 c2) _ (H0.out.1).all Tryz.underlying53 rfl (by kernel_rfl) ?_
  go_wp2_with fail
  refine (szLine_any L a a1 a2 n cp l1 l2 c1 c2 f _ (HH.out.1.below H0.out.2.2) HH.out.2.2.2.2.2.1 HH.out.2.2.2.2.2.2.1 HH.out.2.2.2.2.2.2.2.1 HH.out.2.2.2.2.2.2.2.2.1).mono ?_
  rintro e w1 ⟨rfl, b1⟩
  rw [HH.out.2.2.2.2.2.2.2.2.2]
  have H1 : Hid (Blk w1 B 53 (lac L a n cp a1 a2 l1 l2 c1 c2) ∧ True ∧ Below w.heap.size w w1) := ⟨H0.out.1.below b1, trivial, bel_nx H0.out.2.2 b1⟩
  clear b1 H0
  go_upto_region 5 with fail
  try go_simp
  refine wp_region_lit ?_
  refine wpList_load_mid rfl 53 (.tmp 2) rfl B 0 rfl (lacL L a n cp a1 a2 l1 l2 c1 c2) _ (H1.out.1).all Tryz.underlying53 rfl (by kernel_rfl) ?_
  go_wp2_with fail
  refine (toLine_any L a a1 a2 n cp l1 l2 c1 c2 f _ (HH.out.1.below H1.out.2.2) HH.out.2.1 hl1 hl2).mono ?_
  rintro e wl5 ⟨gy, gy1, gy2, rfl, P5, bl5⟩
  rename_i hK
  refine hK _ _ ?_
  clear hK
  go_wp2_with fail
  refine (HSP.out _ (some ⟨gy, 0, none⟩) n (some ⟨gy1, 0, none⟩) (some ⟨gy2, 0, none⟩) l1 l2 P5.rd).mono ?_
  rintro e w8 ⟨a6, cp6, r6, t6, c6, d6, v62, w62, v61, w61, rfl, P6, S62, S61, b6⟩
  obtain ⟨u8, hW8⟩ : ∃ u8, u8 = setL (w8.alloc (.cells lzc 32)) w8.heap.size 0 (lacL L' a6 n' cp6 r6 t6 j1 j2 c6 d6) := ⟨_, rfl⟩
  obtain ⟨gu8, hB8⟩ : ∃ gu8, gu8 = w8.heap.size := ⟨_, rfl⟩
  have b8 : Below w8.heap.size w8 u8 := by rw [hW8]; exact setL_below (Nat.le_refl _) _ _ _ (bel_alloc _ _)
  have H9 : Hid (Blk u8 B 53 (lac L a n cp a1 a2 l1 l2 c1 c2) ∧ True ∧ Below w.heap.size w u8) := by
    have bb := bel_nx (bel_nx bl5 b6) b8
    exact ⟨H1.out.1.below bb, trivial, bel_nx H1.out.2.2 bb⟩
  have HS : Hid (Blk u8 gu8 32 (lac L' a6 n' cp6 r6 t6 j1 j2 c6 d6) ∧ LnR u8 n' f' L' a6 r6 t6 j1 j2 ∧ SlOd u8 v62 N2 (fun _ => D2) ∧ SlDn u8 v61 N1 (fun _ => D1)) := ⟨by rw [hW8, hB8, show lac L' a6 n' cp6 r6 t6 j1 j2 c6 d6 = wrA lzc 0 (lacL L' a6 n' cp6 r6 t6 j1 j2 c6 d6) from (lwr0_17 _ _ _ _ _ _ _ _ _ _ _ _ _ _ _ _ _ _ _ _ _ _ _ _ _ _ _ _ _ _ _ _ _ _).symm]; exact Blk.stL _ _ (Blk.new _ _ _), P6.rd.below b8, S62.sl.below b8, S61.sl.below b8⟩
  clear P5 bl5 P6 S62 S61 b6 b8 H1
  rename_i hK
  refine hK _ _ ?_
  clear hK
  refine wpList_move_any rfl (.tmp 28) rfl _ rfl ?_
  refine wpList_ext_any rfl (.tmp 24) 0 rfl #[.agg (lac L' a6 n' cp6 r6 t6 j1 j2 c6 d6), .slice v62 N2 w62, .slice v61 N1 w61] (.agg (lac L' a6 n' cp6 r6 t6 j1 j2 c6 d6)) rfl rfl ?_
  refine wpList_ext_any rfl (.tmp 24) 1 rfl #[.agg (lac L' a6 n' cp6 r6 t6 j1 j2 c6 d6), .slice v62 N2 w62, .slice v61 N1 w61] (.slice v62 N2 w62) rfl rfl ?_
  refine wpList_ext_any rfl (.tmp 24) 2 rfl #[.agg (lac L' a6 n' cp6 r6 t6 j1 j2 c6 d6), .slice v62 N2 w62, .slice v61 N1 w61] (.slice v61 N1 w61) rfl rfl ?_
  refine wpList_alloc_any rfl 32 rfl lzc 17 184 (by kernel_rfl) ?_
  refine wpList_store_mid rfl 32 (.tmp 6) (.tmp 29) rfl w8.heap.size 0 (lac L' a6 n' cp6 r6 t6 j1 j2 c6 d6) rfl rfl ((Blk.new w8 lzc 32).there 0 17 (by simp)) (by kernel_rfl) (by simp [Value.oneCell']) ?_
  rw [setCells_L, ← hW8, ← hB8]
  clear hW8 hB8
  go_upto_region 6 with fail
  try go_simp
  refine wp_region_lit ?_
  refine wpList_load_mid rfl 53 (.tmp 2) rfl B 0 rfl (lacL L a n cp a1 a2 l1 l2 c1 c2) _ (H9.out.1).all Tryz.underlying53 rfl (by kernel_rfl) ?_
  go_wp2_with fail
  refine (toLine_any L a a1 a2 n cp l1 l2 c1 c2 f _ (HH.out.1.below H9.out.2.2) HH.out.2.1 hl1 hl2).mono ?_
  rintro e w9 ⟨gx, gx1, gx2, rfl, P9, b9⟩
  obtain ⟨W9, hW9⟩ : ∃ W9, W9 = setL (w9.alloc (.cells lzc 32)) w9.heap.size 0 (lacL L (some ⟨gx, 0, none⟩) n n (some ⟨gx1, 0, none⟩) (some ⟨gx2, 0, none⟩) l1 l2 l1 l2) := ⟨_, rfl⟩
  obtain ⟨B8, hB9⟩ : ∃ B8, B8 = w9.heap.size := ⟨_, rfl⟩
  have HX0 : Hid (LnP w9 u8.heap.size n f L (some ⟨gx, 0, none⟩) n (some ⟨gx1, 0, none⟩) (some ⟨gx2, 0, none⟩) l1 l2 l1 l2 ∧ Below w9.heap.size w9 W9 ∧ Blk W9 B8 32 (lac L (some ⟨gx, 0, none⟩) n n (some ⟨gx1, 0, none⟩) (some ⟨gx2, 0, none⟩) l1 l2 l1 l2) ∧ Below u8.heap.size u8 W9 ∧ B8 = w9.heap.size ∧ u8.heap.size ≤ w9.heap.size) := by
    have b5 : Below w9.heap.size w9 W9 := by rw [hW9]; exact setL_below (Nat.le_refl _) _ _ _ (bel_alloc _ _)
    exact ⟨P9, b5, by rw [hW9, hB9, show lac L (some ⟨gx, 0, none⟩) n n (some ⟨gx1, 0, none⟩) (some ⟨gx2, 0, none⟩) l1 l2 l1 l2 = wrA lzc 0 (lacL L (some ⟨gx, 0, none⟩) n n (some ⟨gx1, 0, none⟩) (some ⟨gx2, 0, none⟩) l1 l2 l1 l2) from (lwr0_17 _ _ _ _ _ _ _ _ _ _ _ _ _ _ _ _ _ _ _ _ _ _ _ _ _ _ _ _ _ _ _ _ _ _).symm]; exact Blk.stL _ _ (Blk.new _ _ _), bel_nx b9 b5, hB9, b9.size⟩
  clear P9 b9
  rename_i hK
  refine hK _ _ ?_
  clear hK
  refine wpList_alloc_any rfl 32 rfl lzc 17 184 (by kernel_rfl) ?_
  refine wpList_store_mid rfl 32 (.tmp 9) (.tmp 33) rfl w9.heap.size 0 (lac L (some ⟨gx, 0, none⟩) n n (some ⟨gx1, 0, none⟩) (some ⟨gx2, 0, none⟩) l1 l2 l1 l2) rfl rfl ((Blk.new w9 lzc 32).there 0 17 (by simp)) (by kernel_rfl) (by simp [Value.oneCell']) ?_
  rw [setCells_L, ← hW9, ← hB9]
  clear hW9 hB9
  refine wpList_nil ?_
  go_upto_region 7 with fail
  try go_simp
  refine wp_region_lit ?_
  refine wpList_load_mid rfl 32 (.tmp 9) rfl B8 0 rfl (lacL L (some ⟨gx, 0, none⟩) n n (some ⟨gx1, 0, none⟩) (some ⟨gx2, 0, none⟩) l1 l2 l1 l2) _ (HX0.out.2.2.1).all Tryz.underlying32 rfl (by kernel_rfl) ?_
  refine wpList_move_any rfl (.tmp 1) rfl (.int .i64 now) rfl ?_
  go_wp2_with fail
  refine (HIP.out _ (some ⟨gx, 0, none⟩) n (some ⟨gx1, 0, none⟩) (some ⟨gx2, 0, none⟩) l1 l2 (HX0.out.1.rd.below HX0.out.2.1)).mono ?_
  rintro e w11 ⟨a7, cp7, r7, t7, c7, d7, hi7, hm7, v72, w72, v71, w71, rfl, hA7, hC7, hE7, P11, T12, T11, b11⟩
  obtain ⟨W11, hW11⟩ : ∃ W11, W11 = setL (w11.alloc (.cells lzc 32)) w11.heap.size 0 (lacL L' a7 n' cp7 r7 t7 j1 j2 c7 d7) := ⟨_, rfl⟩
  obtain ⟨B10, hB11⟩ : ∃ B10, B10 = w11.heap.size := ⟨_, rfl⟩
  have HG : Hid ((LnPB w11 W9.heap.size hi7 n' f' L' a7 cp7 r7 t7 j1 j2 c7 d7 ∧ TopL w11 hm7 w11.heap.size 83 8 (.slice v72 N2 w72) N2 (fun _ => odE D2) ∧ TopL w11 hi7 hm7 43 8 (.slice v71 N1 w71) N1 (fun _ => dnE D1)) ∧ Below w11.heap.size w11 W11 ∧ Blk W11 B10 32 (lac L' a7 n' cp7 r7 t7 j1 j2 c7 d7) ∧ Below W9.heap.size W9 W11 ∧ B10 = w11.heap.size ∧ W9.heap.size ≤ hi7 ∧ hi7 ≤ hm7 ∧ hm7 ≤ w11.heap.size) := by
    have b5 : Below w11.heap.size w11 W11 := by rw [hW11]; exact setL_below (Nat.le_refl _) _ _ _ (bel_alloc _ _)
    exact ⟨⟨P11, T12, T11⟩, b5, by rw [hW11, hB11, show lac L' a7 n' cp7 r7 t7 j1 j2 c7 d7 = wrA lzc 0 (lacL L' a7 n' cp7 r7 t7 j1 j2 c7 d7) from (lwr0_17 _ _ _ _ _ _ _ _ _ _ _ _ _ _ _ _ _ _ _ _ _ _ _ _ _ _ _ _ _ _ _ _ _ _).symm]; exact Blk.stL _ _ (Blk.new _ _ _), bel_nx b11 b5, hB11, hA7, hC7, hE7⟩
  clear P11 b11 T12 T11
  rename_i hK
  refine hK _ _ ?_
  clear hK
  refine wpList_move_any rfl (.tmp 37) rfl _ rfl ?_
  refine wpList_ext_any rfl (.tmp 34) 0 rfl #[.agg (lac L' a7 n' cp7 r7 t7 j1 j2 c7 d7), .slice v72 N2 w72, .slice v71 N1 w71] (.agg (lac L' a7 n' cp7 r7 t7 j1 j2 c7 d7)) rfl rfl ?_
  refine wpList_ext_any rfl (.tmp 34) 1 rfl #[.agg (lac L' a7 n' cp7 r7 t7 j1 j2 c7 d7), .slice v72 N2 w72, .slice v71 N1 w71] (.slice v72 N2 w72) rfl rfl ?_
  refine wpList_ext_any rfl (.tmp 34) 2 rfl #[.agg (lac L' a7 n' cp7 r7 t7 j1 j2 c7 d7), .slice v72 N2 w72, .slice v71 N1 w71] (.slice v71 N1 w71) rfl rfl ?_
  refine wpList_alloc_any rfl 32 rfl lzc 17 184 (by kernel_rfl) ?_
  refine wpList_store_mid rfl 32 (.tmp 10) (.tmp 38) rfl w11.heap.size 0 (lac L' a7 n' cp7 r7 t7 j1 j2 c7 d7) rfl rfl ((Blk.new w11 lzc 32).there 0 17 (by simp)) (by kernel_rfl) (by simp [Value.oneCell']) ?_
  rw [setCells_L, ← hW11, ← hB11]
  clear hW11 hB11
  have HA : Hid ((Blk W11 B 53 (lac L a n cp a1 a2 l1 l2 c1 c2) ∧ True ∧ Below w.heap.size w W11) ∧ Below u8.heap.size u8 W11 ∧ Below w9.heap.size w9 W11 ∧ Blk W11 B8 32 (lac L (some ⟨gx, 0, none⟩) n n (some ⟨gx1, 0, none⟩) (some ⟨gx2, 0, none⟩) l1 l2 l1 l2)) := by
    have b := HG.out.2.2.2.1
    have bu := bel_nx HX0.out.2.2.2.1 b
    exact ⟨⟨H9.out.1.below bu, trivial, bel_nx H9.out.2.2 bu⟩, bu, bel_nx HX0.out.2.1 b, HX0.out.2.2.1.below b⟩
  go_upto_region 8 with fail
  try go_simp
  refine wp_region_lit ?_
  refine wpList_load_mid rfl 32 (.tmp 10) rfl B10 0 rfl (lacL L' a7 n' cp7 r7 t7 j1 j2 c7 d7) _ (HG.out.2.2.1).all Tryz.underlying32 rfl (by kernel_rfl) ?_
  refine wpList_load_mid rfl 32 (.tmp 6) rfl gu8 0 rfl (lacL L' a6 n' cp6 r6 t6 j1 j2 c6 d6) _ (HS.out.1.below HA.out.2.1).all Tryz.underlying32 rfl (by kernel_rfl) ?_
  go_wp2_with fail
  refine (eqLine_true L' a7 r7 t7 a6 r6 t6 n' cp7 j1 j2 c7 d7 cp6 j1 j2 c6 d6 f' _ ((HG.out.1.1.p.rd).below HG.out.2.1) (HS.out.2.1.below HA.out.2.1) HO.out.2.1 HO.out.2.2.2.2.2.2.1 HO.out.2.2.2.2.2.2.2).mono ?_
  rintro e w12 ⟨rfl, bw12⟩
  go_wp2_with fail
  refine (eqOrderS_true v72 v62 N2 w72 w62 (fun _ => D2) _ ((HG.out.1.2.1.sl.below HG.out.2.1).below bw12) ((HS.out.2.2.1.below HA.out.2.1).below bw12) HO.out.1).mono ?_
  rintro e w12x ⟨rfl, bb1⟩
  go_wp2_with fail
  refine (eqDoneS_true v71 v61 N1 w71 w61 (fun _ => D1) _ (((HG.out.1.2.2.sl.below HG.out.2.1).below bw12).below bb1) (((HS.out.2.2.2.below HA.out.2.1).below bw12).below bb1) HH.out.2.2.1).mono ?_
  rintro e w12y ⟨rfl, bb2⟩
  have bw12 := bel_nx (bel_nx bw12 bb1) bb2
  clear bb1 bb2
  go_upto_region 10 with fail
  try go_simp
  refine wp_region_any (by kernel_rfl) ?_
  refine wpAny_vals (fun u => Below w12y.heap.size w12y u) (fun i v u => match i with
    | 0 => v = .agg (lac L (some ⟨gx, 0, none⟩) n n (some ⟨gx1, 0, none⟩) (some ⟨gx2, 0, none⟩) l1 l2 l1 l2)
    | 1 => v = .agg (lac L a n cp a1 a2 l1 l2 c1 c2)
    | 2 => ∃ x x1 x2, v = .agg (lac L (some ⟨x, 0, none⟩) n n (some ⟨x1, 0, none⟩) (some ⟨x2, 0, none⟩) l1 l2 l1 l2) ∧ LnR u n f L (some ⟨x, 0, none⟩) (some ⟨x1, 0, none⟩) (some ⟨x2, 0, none⟩) l1 l2
    | 3 => v = .bool true
    | 4 => v = .bool false
    | _ => True) (by kernel_rfl) (by kernel_rfl) ?_ (by first | exact Below.refl _ _ | exact (Below.refl _ _).drew) ?_ ?_ _ _ rfl (by decide) (fun i => by simp [Array.getD]; try (split <;> rfl))
  · intro i v u u' h hb
    match i with
    | 0 => exact h
    | 1 => exact h
    | 2 =>
      obtain ⟨x, x1, x2, e, hl⟩ := h
      exact ⟨x, x1, x2, e, hl.below hb⟩
    | 3 => exact h
    | 4 => exact h
    | _ + 5 => trivial
  rotate_left
  · intro u i o ρ hR ho hρ hc hf hd
    have hi : i < 5 := by
      have := (Array.getElem?_eq_some_iff.1 ho).1
      simpa using this
    obtain rfl | rfl | rfl | rfl | rfl : i = 0 ∨ i = 1 ∨ i = 2 ∨ i = 3 ∨ i = 4 := by omega
    all_goals (simp only [List.getElem?_toArray, List.getElem?_cons_zero, List.getElem?_cons_succ, Option.some.injEq] at ho; subst ho)
    · have s5 : ρ (.tmp 9) = .pointer (some ⟨B8, 0, none⟩) := (hρ 9 (by kernel_rfl)).trans rfl
      exact .inl ⟨rfl, .inl ⟨_, u, run_load_op rfl s5 (run_loadAt_mid u B8 0 32 (lacL L (some ⟨gx, 0, none⟩) n n (some ⟨gx1, 0, none⟩) (some ⟨gx2, 0, none⟩) l1 l2 l1 l2) _ ((HA.out.2.2.2.below bw12).below hR).all Tryz.underlying32 rfl (by kernel_rfl)), rfl, hR, Below.refl _ _⟩⟩
    · have s1 : ρ (.tmp 2) = .pointer (some ⟨B, 0, none⟩) := (hρ 2 (by kernel_rfl)).trans rfl
      exact .inl ⟨rfl, .inl ⟨_, u, run_load_op rfl s1 (run_loadAt_mid u B 0 53 (lacL L a n cp a1 a2 l1 l2 c1 c2) _ ((HA.out.1.1.below bw12).below hR).all Tryz.underlying53 rfl (by kernel_rfl)), rfl, hR, Below.refl _ _⟩⟩
    · have h1 : ρ (.tmp 58) = .agg (lac L a n cp a1 a2 l1 l2 c1 c2) := hd ⟨1, .data⟩ (by simp) rfl 58 rfl
      refine .inl ⟨rfl, .inr ⟨_, _, run_call_op rfl (hf _) (args := #[.agg (lac L a n cp a1 a2 l1 l2 c1 c2)]) (by simp [h1]) (by kernel_rfl), ?_⟩⟩
      refine (toLine_any L a a1 a2 n cp l1 l2 c1 c2 f _ (HH.out.1.below (bel_nx (bel_nx HA.out.1.2.2 bw12) hR)) HH.out.2.1 hl1 hl2).mono ?_
      rintro e u' ⟨x, x1, x2, he, P7, b'⟩
      exact ⟨_, he, ⟨x, x1, x2, rfl, P7.rd⟩, bel_nx hR b', b'⟩
    · have h0 : ρ (.tmp 57) = .agg (lac L (some ⟨gx, 0, none⟩) n n (some ⟨gx1, 0, none⟩) (some ⟨gx2, 0, none⟩) l1 l2 l1 l2) := hd ⟨0, .data⟩ (by simp) rfl 57 rfl
      obtain ⟨x, x1, x2, hv, hl⟩ : ∃ x x1 x2, ρ (.tmp 59) = .agg (lac L (some ⟨x, 0, none⟩) n n (some ⟨x1, 0, none⟩) (some ⟨x2, 0, none⟩) l1 l2 l1 l2) ∧ LnR u n f L (some ⟨x, 0, none⟩) (some ⟨x1, 0, none⟩) (some ⟨x2, 0, none⟩) l1 l2 := hd ⟨2, .data⟩ (by simp) rfl 59 rfl
      refine .inl ⟨rfl, .inr ⟨_, _, run_call_op rfl (hf _) (args := #[.agg (lac L (some ⟨gx, 0, none⟩) n n (some ⟨gx1, 0, none⟩) (some ⟨gx2, 0, none⟩) l1 l2 l1 l2), .agg (lac L (some ⟨x, 0, none⟩) n n (some ⟨x1, 0, none⟩) (some ⟨x2, 0, none⟩) l1 l2 l1 l2)]) (by simp [h0, hv]) (by kernel_rfl), ?_⟩⟩
      refine (eqLine_true L _ _ _ _ _ _ n n l1 l2 l1 l2 n l1 l2 l1 l2 f _ (((HX0.out.1.rd.below HA.out.2.2.1).below bw12).below hR) hl HH.out.2.1 hl1 hl2).mono ?_
      rintro e u' ⟨he, b'⟩
      exact ⟨_, he, rfl, bel_nx hR b', b'⟩
    · have h3 : ρ (.tmp 60) = .bool true := hd ⟨3, .data⟩ (by simp) rfl 60 rfl
      exact .inl ⟨rfl, .inl ⟨.bool false, u, run_un_op rfl h3 (by go_simp), rfl, hR, Below.refl _ _⟩⟩
  intro vs u14 hR hall
  have e4 : vs 4 = .bool false := hall 4 (by simp)
  simp only [putsL]
  rw [e4]
  clear hall e4
  have b16 : Below W11.heap.size W11 u14 := bel_nx bw12 hR
  clear bw12 hR
  go_upto_region 13 with fail
  try go_simp
  refine wp_region_lit ?_
  refine wpList_load_mid rfl 32 (.tmp 9) rfl B8 0 rfl (lacL L (some ⟨gx, 0, none⟩) n n (some ⟨gx1, 0, none⟩) (some ⟨gx2, 0, none⟩) l1 l2 l1 l2) _ (HA.out.2.2.2.below b16).all Tryz.underlying32 rfl (by kernel_rfl) ?_
  go_wp2_with fail
  refine (markLine_any L (some ⟨gx, 0, none⟩) (some ⟨gx1, 0, none⟩) (some ⟨gx2, 0, none⟩) n n l1 l2 l1 l2 u8.heap.size 1 f w9.heap.size _ (HX0.out.1.pb.below (bel_nx HA.out.2.2.1 b16)) (bel_nx HA.out.2.1 b16).size (by omega) HH.out.2.2.2.2.1).mono ?_
  rintro e w19 ⟨rfl, _, bl19, kp19⟩
  rw [← HK.out.1]
  have H20 : Hid (Below u8.heap.size u8 w19 ∧ Keep w9.heap.size W11 w19) := ⟨(bel_nx HA.out.2.1 b16).trans bl19, (Keep.below b16).trans kp19⟩
  clear bl19 kp19 b16
  have H21 : Hid (Blk w19 B10 32 (lac L' a7 n' cp7 r7 t7 j1 j2 c7 d7) ∧ LnPB w19 W9.heap.size hi7 n' f' L' a7 cp7 r7 t7 j1 j2 c7 d7 ∧ TopL w19 hm7 w11.heap.size 83 8 (.slice v72 N2 w72) N2 (fun _ => odE D2) ∧ TopL w19 hi7 hm7 43 8 (.slice v71 N1 w71) N1 (fun _ => dnE D1)) := by
    have hz1 := HX0.out.2.1.size
    have hz2 := HG.out.2.2.2.2
    exact ⟨H20.out.2.blk HG.out.2.2.1 (by omega), (HG.out.1.1.below HG.out.2.1).keep H20.out.2 hz1, (HG.out.1.2.1.below9 HG.out.2.1 (Nat.le_refl _)).keep H20.out.2 (by omega), (HG.out.1.2.2.below9 HG.out.2.1 (Nat.le_refl _)).keep H20.out.2 (by omega)⟩
  have hKX : ¬ (K1 : Int) < 0 := by omega
  go_upto_region 14 with fail
  try go_simp
  refine wp_region_lit ?_
  refine wpList_move_any rfl (.tmp 13) rfl (.int .i64 (K1 : Int)) rfl ?_
  refine wpList_run_any rfl (.bool false) (run_bin_op rfl rfl rfl (by go_simp)) ?_
  refine wpList_move_any rfl (.tmp 66) rfl (.bool false) rfl ?_
  refine wpList_load_g (by rfl) 32 (.tmp 10) rfl B10 0 rfl (lacL L' a7 n' cp7 r7 t7 j1 j2 c7 d7) _ H21.out.1.all Tryz.underlying32 rfl (by kernel_rfl) ?_
  refine wpList_load_g (by rfl) 32 (.tmp 6) rfl gu8 0 rfl (lacL L' a6 n' cp6 r6 t6 j1 j2 c6 d6) _ (HS.out.1.below H20.out.1).all Tryz.underlying32 rfl (by kernel_rfl) ?_
  go_wp2_with fail
  refine (eqLine_true L' a7 r7 t7 a6 r6 t6 n' cp7 j1 j2 c7 d7 cp6 j1 j2 c6 d6 f' _ H21.out.2.1.p.rd (HS.out.2.1.below H20.out.1) HO.out.2.1 HO.out.2.2.2.2.2.2.1 HO.out.2.2.2.2.2.2.2).mono ?_
  rintro e w21 ⟨rfl, bw21⟩
  go_wp2_with fail
  refine (eqOrderS_true v72 v62 N2 w72 w62 (fun _ => D2) _ (H21.out.2.2.1.sl.below bw21) ((HS.out.2.2.1.below H20.out.1).below bw21) HO.out.1).mono ?_
  rintro e w21x ⟨rfl, bb1⟩
  go_wp2_with fail
  refine (eqDoneS_true v71 v61 N1 w71 w61 (fun _ => D1) _ ((H21.out.2.2.2.sl.below bw21).below bb1) (((HS.out.2.2.2.below H20.out.1).below bw21).below bb1) HH.out.2.2.1).mono ?_
  rintro e w21y ⟨rfl, bb2⟩
  have bw21 := bel_nx (bel_nx bw21 bb1) bb2
  clear bb1 bb2
  have H22 : Hid (Below u8.heap.size u8 w21y ∧ Blk w21y B10 32 (lac L' a7 n' cp7 r7 t7 j1 j2 c7 d7) ∧ (LnPB w21y W9.heap.size hi7 n' f' L' a7 cp7 r7 t7 j1 j2 c7 d7 ∧ TopL w21y hm7 w11.heap.size 83 8 (.slice v72 N2 w72) N2 (fun _ => odE D2) ∧ TopL w21y hi7 hm7 43 8 (.slice v71 N1 w71) N1 (fun _ => dnE D1)) ∧ W9.heap.size ≤ w21y.heap.size ∧ u8.heap.size ≤ W9.heap.size ∧ B10 = w11.heap.size ∧ W9.heap.size ≤ hi7 ∧ hi7 ≤ hm7 ∧ hm7 ≤ w11.heap.size) := ⟨bel_nx H20.out.1 bw21, H21.out.1.below bw21, ⟨H21.out.2.1.below bw21, H21.out.2.2.1.below9 bw21 (Nat.le_refl _), H21.out.2.2.2.below9 bw21 (Nat.le_refl _)⟩, by have := H20.out.2.1; have := bw21.size; have := HG.out.2.2.2.1.size; omega, HX0.out.2.2.2.1.size, HG.out.2.2.2.2.1, HG.out.2.2.2.2.2.1, HG.out.2.2.2.2.2.2.1, HG.out.2.2.2.2.2.2.2⟩
  clear bw21 H21 H20
  go_upto_region 17 with fail
  try go_simp
  refine wp_region_lit ?_
  refine wpList_load_mid rfl 32 (.tmp 10) rfl B10 0 rfl (lacL L' a7 n' cp7 r7 t7 j1 j2 c7 d7) _ (H22.out.2.1).all Tryz.underlying32 rfl (by kernel_rfl) ?_
  go_wp2_with fail
  refine (markLine_pb L' a7 r7 t7 n' cp7 j1 j2 c7 d7 W9.heap.size 1 f' hi7 _ H22.out.2.2.1.1 H22.out.2.2.2.1 (by omega) HH.out.2.2.2.1).mono ?_
  rintro e w24 ⟨rfl, P24, bl24, kp24⟩
  rw [← HK.out.2.1]
  have H24 : Hid (Below u8.heap.size u8 w24 ∧ Blk w24 B10 32 (lac L' a7 n' cp7 r7 t7 j1 j2 c7 d7) ∧ LnPB w24 W9.heap.size hi7 n' (fun k => mkCa (msCa 1 f' k) (f' k)) (mkL (msCa 1 f' n') L') a7 cp7 r7 t7 j1 j2 c7 d7 ∧ TopL w24 hm7 w11.heap.size 83 8 (.slice v72 N2 w72) N2 (fun _ => odE D2) ∧ TopL w24 hi7 hm7 43 8 (.slice v71 N1 w71) N1 (fun _ => dnE D1)) := by
    have h2 := H22.out
    exact ⟨h2.1.trans (bl24.mono h2.2.2.2.2.1), kp24.blk h2.2.1 (by omega), P24, h2.2.2.1.2.1.keep kp24 (by omega), h2.2.2.1.2.2.keep kp24 (Nat.le_refl _)⟩
  clear P24 bl24 kp24
  go_wp2_with fail
  refine (markOd_L v72 N2 w72 hm7 w11.heap.size K3 (fun _ => D2) _ H24.out.2.2.2.1 HO.out.2.2.2.2.1 HO.out.2.2.2.1).mono ?_
  rintro e w25 ⟨rfl, T25, bl25, kp25⟩
  rw [← HK.out.2.2.1]
  have H25 : Hid (Below u8.heap.size u8 w25 ∧ Blk w25 B10 32 (lac L' a7 n' cp7 r7 t7 j1 j2 c7 d7) ∧ LnPB w25 W9.heap.size hi7 n' (fun k => mkCa (msCa 1 f' k) (f' k)) (mkL (msCa 1 f' n') L') a7 cp7 r7 t7 j1 j2 c7 d7 ∧ TopL w25 hm7 w11.heap.size 83 8 (.slice v72 N2 w72) N2 (fun k => odE (mkOd (msOd K3 (fun _ => D2) k) D2)) ∧ TopL w25 hi7 hm7 43 8 (.slice v71 N1 w71) N1 (fun _ => dnE D1)) := by
    have h2 := H22.out
    have h4 := H24.out
    exact ⟨h4.1.trans (bl25.mono (by omega)), kp25.blk h4.2.1 (by omega), h4.2.2.1.cut (fun k hk _ => bl25.block k (by omega)), T25, h4.2.2.2.2.cut (fun k hk _ => bl25.block k hk)⟩
  clear T25 bl25 kp25 H24
  go_wp2_with fail
  refine (markDn_L v71 N1 w71 hi7 hm7 K4 (fun _ => D1) _ H25.out.2.2.2.2 HO.out.2.2.2.2.2.1 HO.out.2.2.1).mono ?_
  rintro e w26 ⟨rfl, T26, bl26, kp26⟩
  rw [← HK.out.2.2.2]
  have H26 : Hid (Below u8.heap.size u8 w26 ∧ Blk w26 B10 32 (lac L' a7 n' cp7 r7 t7 j1 j2 c7 d7) ∧ LnR w26 n' (fun k => mkCa (msCa 1 f' k) (f' k)) (mkL (msCa 1 f' n') L') a7 r7 t7 j1 j2 ∧ SlL w26 v72 8 N2 (fun k => odE (mkOd (msOd K3 (fun _ => D2) k) D2)) ∧ SlL w26 v71 8 N1 (fun k => dnE (mkDn (msDn K4 (fun _ => D1) k) D1))) := by
    have h2 := H22.out
    have h5 := H25.out
    exact ⟨h5.1.trans (bl26.mono (by omega)), kp26.blk h5.2.1 (by omega), (h5.2.2.1.cut (fun k hk _ => bl26.block k hk)).p.rd, (h5.2.2.2.1.keep kp26 (Nat.le_refl _)).sl, T26.sl⟩
  clear T26 bl26 kp26 H25 H22
  have hK3 : ¬ (K3 : Int) < 0 := by omega
  have hK4 : ¬ (K4 : Int) < 0 := by omega
  have hK5 : ¬ (K5 : Int) < 0 := by omega
  go_upto_region 21 with fail
  try go_simp
  refine wp_region_lit ?_
  refine wpList_load_mid rfl 32 (.tmp 10) rfl B10 0 rfl (lacL L' a7 n' cp7 r7 t7 j1 j2 c7 d7) _ (H26.out.2.1).all Tryz.underlying32 rfl (by kernel_rfl) ?_
  go_wp2_with fail
  refine (heldLine_any L' a7 r7 t7 n' cp7 j1 j2 c7 d7 1 f' _ (H26.out.2.2.1) (by omega) HH.out.2.2.2.1 _ rfl).mono ?_
  rintro e w27 ⟨rfl, bw27⟩
  rw [← HK.out.2.1]
  go_wp2_with fail
  refine (heldOd_any v72 N2 w72 K3 (fun _ => D2) _ ((H26.out.2.2.2.1).below bw27) HO.out.2.2.2.2.1 HO.out.2.2.2.1).mono ?_
  rintro e w27p ⟨rfl, hw30⟩
  have hw30 := hw30.symm
  subst hw30
  rw [← HK.out.2.2.1]
  go_wp2_with fail
  refine (heldDn_any v71 N1 w71 K4 (fun _ => D1) _ ((H26.out.2.2.2.2).below bw27) HO.out.2.2.2.2.2.1 HO.out.2.2.1).mono ?_
  rintro e w27q ⟨rfl, hw31⟩
  have hw31 := hw31.symm
  subst hw31
  rw [← HK.out.2.2.2]
  have H27 : Hid ((Blk w27 B 53 (lac L a n cp a1 a2 l1 l2 c1 c2) ∧ True ∧ Below w.heap.size w w27) ∧ Below u8.heap.size u8 w27 ∧ Blk w27 B10 32 (lac L' a7 n' cp7 r7 t7 j1 j2 c7 d7) ∧ LnR w27 n' (fun k => mkCa (msCa 1 f' k) (f' k)) (mkL (msCa 1 f' n') L') a7 r7 t7 j1 j2 ∧ SlL w27 v72 8 N2 (fun k => odE (mkOd (msOd K3 (fun _ => D2) k) D2)) ∧ SlL w27 v71 8 N1 (fun k => dnE (mkDn (msDn K4 (fun _ => D1) k) D1))) := by
    have bu := bel_nx H26.out.1 bw27
    exact ⟨⟨H9.out.1.below bu, trivial, bel_nx H9.out.2.2 bu⟩, bu, H26.out.2.1.below bw27, H26.out.2.2.1.below bw27, H26.out.2.2.2.1.below bw27, H26.out.2.2.2.2.below bw27⟩
  clear bw27 H26 HA
  go_upto_region 32 with fail
  try go_simp
  refine wp_region_lit ?_
  refine wpList_load_mid rfl 53 (.tmp 2) rfl B 0 rfl (lacL L a n cp a1 a2 l1 l2 c1 c2) _ (H27.out.1.1).all Tryz.underlying53 rfl (by kernel_rfl) ?_
  go_wp2_with fail
  refine (toLine_any L a a1 a2 n cp l1 l2 c1 c2 f _ (HH.out.1.below H27.out.1.2.2) HH.out.2.1 hl1 hl2).mono ?_
  rintro e wl6 ⟨gz, gz1, gz2, rfl, P6, bl6⟩
  rename_i hK
  refine hK _ _ ?_
  clear hK
  go_wp2_with fail
  refine (HIP.out _ (some ⟨gz, 0, none⟩) n (some ⟨gz1, 0, none⟩) (some ⟨gz2, 0, none⟩) l1 l2 P6.rd).mono ?_
  rintro e w31 ⟨a8, cp8, r8, t8, c8, d8, hi8, hm8, v82, w82, v81, w81, rfl, qz1, qz2, qz3, P8, S82, S81, b31⟩
  obtain ⟨u31, hW31⟩ : ∃ u31, u31 = setL (w31.alloc (.cells lzc 32)) w31.heap.size 0 (lacL L' a8 n' cp8 r8 t8 j1 j2 c8 d8) := ⟨_, rfl⟩
  obtain ⟨gu31, hB31⟩ : ∃ gu31, gu31 = w31.heap.size := ⟨_, rfl⟩
  have b8 : Below w31.heap.size w31 u31 := by rw [hW31]; exact setL_below (Nat.le_refl _) _ _ _ (bel_alloc _ _)
  have HS2 : Hid (Blk u31 gu31 32 (lac L' a8 n' cp8 r8 t8 j1 j2 c8 d8) ∧ LnR u31 n' f' L' a8 r8 t8 j1 j2 ∧ Below w27.heap.size w27 u31 ∧ SlOd u31 v82 N2 (fun _ => D2) ∧ SlDn u31 v81 N1 (fun _ => D1)) := ⟨by rw [hW31, hB31, show lac L' a8 n' cp8 r8 t8 j1 j2 c8 d8 = wrA lzc 0 (lacL L' a8 n' cp8 r8 t8 j1 j2 c8 d8) from (lwr0_17 _ _ _ _ _ _ _ _ _ _ _ _ _ _ _ _ _ _ _ _ _ _ _ _ _ _ _ _ _ _ _ _ _ _).symm]; exact Blk.stL _ _ (Blk.new _ _ _), P8.p.rd.below b8, bel_nx (bel_nx bl6 b31) b8, S82.sl.below b8, S81.sl.below b8⟩
  clear P6 bl6 P8 S82 S81 b31 b8 qz1 qz2 qz3
  rename_i hK
  refine hK _ _ ?_
  clear hK
  refine wpList_move_any rfl (.tmp 116) rfl _ rfl ?_
  refine wpList_ext_any rfl (.tmp 112) 0 rfl #[.agg (lac L' a8 n' cp8 r8 t8 j1 j2 c8 d8), .slice v82 N2 w82, .slice v81 N1 w81] (.agg (lac L' a8 n' cp8 r8 t8 j1 j2 c8 d8)) rfl rfl ?_
  refine wpList_ext_any rfl (.tmp 112) 1 rfl #[.agg (lac L' a8 n' cp8 r8 t8 j1 j2 c8 d8), .slice v82 N2 w82, .slice v81 N1 w81] (.slice v82 N2 w82) rfl rfl ?_
  refine wpList_ext_any rfl (.tmp 112) 2 rfl #[.agg (lac L' a8 n' cp8 r8 t8 j1 j2 c8 d8), .slice v82 N2 w82, .slice v81 N1 w81] (.slice v81 N1 w81) rfl rfl ?_
  refine wpList_alloc_any rfl 32 rfl lzc 17 184 (by kernel_rfl) ?_
  refine wpList_store_mid rfl 32 (.tmp 16) (.tmp 117) rfl w31.heap.size 0 (lac L' a8 n' cp8 r8 t8 j1 j2 c8 d8) rfl rfl ((Blk.new w31 lzc 32).there 0 17 (by simp)) (by kernel_rfl) (by simp [Value.oneCell']) ?_
  rw [setCells_L, ← hW31, ← hB31]
  clear hW31 hB31
  go_upto_region 33 with fail
  try go_simp
  refine wp_region_lit ?_
  refine wpList_load_mid rfl 32 (.tmp 16) rfl gu31 0 rfl (lacL L' a8 n' cp8 r8 t8 j1 j2 c8 d8) _ (HS2.out.1).all Tryz.underlying32 rfl (by kernel_rfl) ?_
  refine wpList_load_mid rfl 32 (.tmp 6) rfl gu8 0 rfl (lacL L' a6 n' cp6 r6 t6 j1 j2 c6 d6) _ (HS.out.1.below (bel_nx H27.out.2.1 HS2.out.2.2.1)).all Tryz.underlying32 rfl (by kernel_rfl) ?_
  go_wp2_with fail
  refine (eqLine_true L' a8 r8 t8 a6 r6 t6 n' cp8 j1 j2 c8 d8 cp6 j1 j2 c6 d6 f' _ HS2.out.2.1 (HS.out.2.1.below (bel_nx H27.out.2.1 HS2.out.2.2.1)) HO.out.2.1 HO.out.2.2.2.2.2.2.1 HO.out.2.2.2.2.2.2.2).mono ?_
  rintro e w32 ⟨rfl, bw32⟩
  go_wp2_with fail
  refine (eqOrderS_true v82 v62 N2 w82 w62 (fun _ => D2) _ (HS2.out.2.2.2.1.below bw32) ((HS.out.2.2.1.below (bel_nx H27.out.2.1 HS2.out.2.2.1)).below bw32) HO.out.1).mono ?_
  rintro e w32x ⟨rfl, bb1⟩
  go_wp2_with fail
  refine (eqDoneS_true v81 v61 N1 w81 w61 (fun _ => D1) _ ((HS2.out.2.2.2.2.below bw32).below bb1) (((HS.out.2.2.2.below (bel_nx H27.out.2.1 HS2.out.2.2.1)).below bw32).below bb1) HH.out.2.2.1).mono ?_
  rintro e w32y ⟨rfl, bb2⟩
  have bw32 := bel_nx (bel_nx bw32 bb1) bb2
  clear bb1 bb2
  have b33 : Below w27.heap.size w27 w32y := bel_nx HS2.out.2.2.1 bw32
  clear bw32
  go_upto_region 36 with fail
  try go_simp
  refine wp_region_lit ?_
  refine wpList_load_mid rfl 32 (.tmp 10) rfl B10 0 rfl (lacL L' a7 n' cp7 r7 t7 j1 j2 c7 d7) _ (H27.out.2.2.1.below b33).all Tryz.underlying32 rfl (by kernel_rfl) ?_
  go_wp2_with fail
  refine (heldLine_any L' a7 r7 t7 n' cp7 j1 j2 c7 d7 1 f' _ (H27.out.2.2.2.1.below b33) (by omega) HH.out.2.2.2.1 _ rfl).mono ?_
  rintro e w36 ⟨rfl, bw36⟩
  rw [← HK.out.2.1]
  go_wp2_with fail
  refine (heldOd_any v72 N2 w72 K3 (fun _ => D2) _ ((H27.out.2.2.2.2.1.below b33).below bw36) HO.out.2.2.2.2.1 HO.out.2.2.2.1).mono ?_
  rintro e w36p ⟨rfl, hw30⟩
  have hw30 := hw30.symm
  subst hw30
  rw [← HK.out.2.2.1]
  go_wp2_with fail
  refine (heldDn_any v71 N1 w71 K4 (fun _ => D1) _ ((H27.out.2.2.2.2.2.below b33).below bw36) HO.out.2.2.2.2.2.1 HO.out.2.2.1).mono ?_
  rintro e w36q ⟨rfl, hw31⟩
  have hw31 := hw31.symm
  subst hw31
  rw [← HK.out.2.2.2]
  have HF : Hid (Below w.heap.size w w36) := bel_nx (bel_nx H27.out.1.2.2 b33) bw36
  clear bw36 b33 H27 HS2 HS H9
  go_wp2
  go_ret
  exact ⟨rfl, HF.out⟩
end Go.Proofs.YtmhdneenjoelfaaGreat
