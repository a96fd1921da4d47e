/- Texts that the proof needs, joined: Hr1. -/
import Derived.Test.YtmhdneenjoelfaaGreatV10
import Derived.Test.YtmhdneenjoelfaaGreatV13
namespace Go.Proofs.YtmhdneenjoelfaaGreat
open Go.RowKit Go.Joins
set_option linter.unusedVariables false
set_option linter.unusedSimpArgs false
def hrB (n : Nat) (f : Nat → Ca) (L : La) (l1 l2 : Nat) (nu un kd fl pl nn : Int) (m1 m2 : Nat) (ws : List Int) (bs : List Bool) : Bool := okLn n f L l1 l2 && ((L.bz && ((L.nu == nu) && (L.c.un == un))) && suB L.c.kd L.c.pl L.c.n L.c.wa l1 l2 L.c.ws L.c.bs kd fl pl nn m1 m2 ws bs)
def hrL (b : Bool) (L : La) : La := if b = true then freeL L else L
def hrN (b : Bool) : Nat := if b = true then 1 else 0
def hrD (L : La) (kd fl pl nn : Int) (ws : List Int) (bs : List Bool) : Dn := ⟨L.c.id, L.c.pa, kd, fl, pl, nn, ws, bs⟩
def HrP (w w' : World) (e : Ending) (n : Nat) (f : Nat → Ca) (L' : La) (b : Bool) (D : Dn) : Prop :=
  ∃ a cp a1 a2 c1 c2 hi v vc, e = .returned (.tuple #[.agg (lac L' a n cp a1 a2 L'.c.ws.length L'.c.bs.length c1 c2), .slice v (hrN b) vc]) ∧ w.heap.size ≤ hi ∧ hi ≤ w'.heap.size ∧ LnPB w' w.heap.size hi n f L' a cp a1 a2 L'.c.ws.length L'.c.bs.length c1 c2 ∧ TopL w' hi w'.heap.size 43 8 (.slice v (hrN b) vc) (hrN b) (fun _ => dnE D) ∧ Below w.heap.size w w'
theorem row_noT {w w' : World} {base s n gx : Nat} {e t : TypeId} {v : Value} {xs : List Value} (h : w.ownsRow base e s v n xs) (hg : w.grownBy w' (some gx)) (hx : ExB w gx t) (ht : t ≠ e) : w'.ownsRow base e s v n xs := by
  obtain ⟨cs, hb⟩ := hx
  exact World.ownsRow.kept h hg (.inr (row_noBlk h hb ht))
theorem ownI_nil9 (w : World) (b : Nat) : OwnI w b (.slice none 0 0) [] := ⟨by simp, .inl ⟨rfl, rfl⟩⟩
theorem ownB_nil9 (w : World) (b : Nat) : OwnB w b (.slice none 0 0) [] := ⟨by simp, .inl ⟨rfl, rfl⟩⟩
theorem LnPB.free {w : World} {base hi n cp l1 l2 c1 c2 : Nat} {f : Nat → Ca} {L : La} {a a1 a2 : Option Addr} (h : LnPB w base hi n f L a cp a1 a2 l1 l2 c1 c2) : LnPB w base hi n f (freeL L) a cp none none 0 0 0 0 := by
  obtain ⟨h1, h2, F, β, h3, h4, h5, h6, h7, h8, h9, h10, h11, h12⟩ := h
  refine ⟨rfl, rfl, F, β, h3, h4, ownI_nil9 _ _, ownB_nil9 _ _, fun k hk => ?_, fun k hk => ?_, h9, h10, fun k hk => ?_, fun k hk => ?_⟩
  all_goals cases hk
theorem LnPB.keptT {w w' : World} {base hi n cp l1 l2 c1 c2 gx : Nat} {f : Nat → Ca} {L : La} {a a1 a2 : Option Addr} {t' : TypeId} (h : LnPB w base hi n f L a cp a1 a2 l1 l2 c1 c2) (hg : w.grownBy w' (some gx)) (hx : ExB w gx t') (h0 : t' ≠ 30) (k1 : t' ≠ 3) (k2 : t' ≠ 4) : LnPB w' base hi n f L a cp a1 a2 l1 l2 c1 c2 := by
  obtain ⟨h1, h2, F, β, h3, h4, h5, h6, h7⟩ := h
  have hx' := hx
  obtain ⟨cs, hb⟩ := hx'
  exact ⟨h1, h2, F, β, h3.kept hg (.inr ⟨t', hx, h0⟩), h4.keptT hg hx k1 k2, h5.kept hg (.inr (row_noBlk h5 hb k1)), h6.kept hg (.inr (row_noBlk h6 hb k2)), h7⟩
theorem topL_keptLt {w w' : World} {base hi gx : Nat} {t : TypeId} {s : Nat} {v : Value} {n : Nat} {G : Nat → El} (h : TopL w base hi t s v n G) (hg : w.grownBy w' (some gx)) (hx : gx < base) : TopL w' base hi t s v n G := by
  obtain ⟨F, β, h1, h2, h3⟩ := h
  exact ⟨F, β, h1.kept hg (.inl hx), h2.keptLt hg hx, h3⟩
set_option maxRecDepth 20000 in
set_option maxHeartbeats 4000000 in
theorem implHear_any (L : La) (a a1 a2 : Option Addr) (n cp l1 l2 c1 c2 : Nat) (f : Nat → Ca) (nu un kd fl pl nn : Int) (q1 q2 : Option Addr) (m1 m2 k1 k2 : Nat) (ws : List Int) (bs : List Bool) (w : World) (hs : LnR w n f L a a1 a2 l1 l2) (hb : BdC n f) (hl1 : l1 ≤ 2000000) (hl2 : l2 ≤ 2000000) (e1 : m1 = ws.length) (e2 : m2 = bs.length) (s1 : SlI w q1 ws) (s2 : SlB w q2 bs) (hm1 : m1 ≤ 2000000) (hm2 : m2 ≤ 2000000) (hcap : m2 ≤ k2) :
    Calls Tryz.prog 10 #[.agg (lac L a n cp a1 a2 l1 l2 c1 c2), .int .i64 nu, .int .i64 un, .agg (rpL kd fl pl nn q1 q2 m1 m2 k1 k2)] w fun e w' => HrP w w' e n f (hrL (hrB n f L l1 l2 nu un kd fl pl nn m1 m2 ws bs) L) (hrB n f L l1 l2 nu un kd fl pl nn m1 m2 ws bs) (hrD L kd fl pl nn ws bs) := by
  have hn := hb.1
  obtain ⟨x0, hx0⟩ : ∃ x, okLn n f L l1 l2 = x := ⟨_, rfl⟩
  obtain ⟨x1, hx1⟩ : ∃ x, (L.bz && ((L.nu == nu) && (L.c.un == un))) = x := ⟨_, rfl⟩
  obtain ⟨x2, hx2⟩ : ∃ x, suB L.c.kd L.c.pl L.c.n L.c.wa l1 l2 L.c.ws L.c.bs kd fl pl nn m1 m2 ws bs = x := ⟨_, rfl⟩
  rw [show hrB n f L l1 l2 nu un kd fl pl nn m1 m2 ws bs = (x0 && (x1 && x2)) by unfold hrB; rw [hx0, hx1, hx2]]
  obtain ⟨B, hB⟩ : ∃ B, B = w.heap.size := ⟨_, rfl⟩
  obtain ⟨W, hW⟩ : ∃ W, W = ((w.alloc (.cells (lac L a n cp a1 a2 l1 l2 c1 c2) 32)).alloc (.cells (rpL kd fl pl nn q1 q2 m1 m2 k1 k2) 37)).alloc (.cells lzc 32) := ⟨_, rfl⟩
  have bW : Below w.heap.size w W := by rw [hW]; exact bel_nx (bel_nx (bel_alloc w _) (bel_alloc _ _)) (bel_alloc _ _)
  have A0 : Blk W B 32 (lac L a n cp a1 a2 l1 l2 c1 c2) := by rw [hW, hB]; exact ((Blk.new w _ _).below (bel_alloc _ _)).below (bel_alloc _ _)
  have C0 : Blk W (B + 1) 37 (rpL kd fl pl nn q1 q2 m1 m2 k1 k2) := by
    rw [hW, hB]; have := (Blk.new (w.alloc (.cells (lac L a n cp a1 a2 l1 l2 c1 c2) 32)) (rpL kd fl pl nn q1 q2 m1 m2 k1 k2) 37).below (bel_alloc _ (.cells lzc 32)); simpa using this
  have R0 : Blk W (B + 1 + 1) 32 lzc := by
    rw [hW, hB]; have := Blk.new ((w.alloc (.cells (lac L a n cp a1 a2 l1 l2 c1 c2) 32)).alloc (.cells (rpL kd fl pl nn q1 q2 m1 m2 k1 k2) 37)) lzc 32; simpa using this
  have hz : W.heap.size = B + 1 + 1 + 1 := by rw [hW, hB]; simp
  have H0 : Hid (LnR w n f L a a1 a2 l1 l2 ∧ BdC n f ∧ Below w.heap.size w W ∧ Blk W B 32 (lac L a n cp a1 a2 l1 l2 c1 c2) ∧ Blk W (B + 1) 37 (rpL kd fl pl nn q1 q2 m1 m2 k1 k2) ∧ Blk W (B + 1 + 1) 32 lzc ∧ w.heap.size = B ∧ W.heap.size = B + 1 + 1 + 1) := ⟨hs, hb, bW, A0, C0, R0, hB.symm, hz⟩
  have HC : Hid (m1 = ws.length ∧ m2 = bs.length ∧ SlI w q1 ws ∧ SlB w q2 bs ∧ okLn n f L l1 l2 = x0 ∧ (L.bz && ((L.nu == nu) && (L.c.un == un))) = x1 ∧ suB L.c.kd L.c.pl L.c.n L.c.wa l1 l2 L.c.ws L.c.bs kd fl pl nn m1 m2 ws bs = x2 ∧ l1 = L.c.ws.length ∧ l2 = L.c.bs.length) := ⟨e1, e2, s1, s2, hx0, hx1, hx2, hs.1, hs.2.1⟩
  clear hs hb bW A0 C0 R0 hz e1 e2 s1 s2 hx0 hx1 hx2
  go_enter Tryz.func10, Tryz.ntmps10
  go_upto_region 1 with fail
  have hB1 : w.heap.size + 1 = B + 1 := by omega
  rw [← hW, hB1, ← hB]
  clear hW hB hB1
  refine wp_region_lit ?_
  refine wpList_load_mid rfl 32 (.tmp 4) rfl B 0 rfl (lacL L a n cp a1 a2 l1 l2 c1 c2) _ H0.out.2.2.2.1.all Tryz.underlying32 rfl (by kernel_rfl) ?_
  go_wp2_with fail
  refine (copyLine_any L a a1 a2 n cp l1 l2 c1 c2 f _ (H0.out.1.below H0.out.2.2.1) H0.out.2.1 hl1 hl2).mono ?_
  rintro e w1 ⟨a6, cp6, r1, r2, d1, d2, rfl, o6, b6⟩
  obtain ⟨hi, hhi⟩ : ∃ hi, hi = w1.heap.size := ⟨_, rfl⟩
  obtain ⟨W2, hW2⟩ : ∃ W2, W2 = setL ((w1.alloc (.cells #[] 43)).alloc (.cells lzc 32)) (w1.heap.size + 1) 0 (lacL L a6 n cp6 r1 r2 l1 l2 d1 d2) := ⟨_, rfl⟩
  have hsz1 : (w1.alloc (.cells #[] 43)).heap.size = w1.heap.size + 1 := by simp
  have H2 : Hid (LnPB W2 w.heap.size hi n f L a6 cp6 r1 r2 l1 l2 d1 d2 ∧ Blk W2 (hi + 1) 32 (lac L a6 n cp6 r1 r2 l1 l2 d1 d2) ∧ Blk W2 (B + 1) 37 (rpL kd fl pl nn q1 q2 m1 m2 k1 k2) ∧ Blk W2 (B + 1 + 1) 32 lzc ∧ Below w.heap.size w W2 ∧ w.heap.size = B ∧ B + 1 + 1 < hi ∧ Blk W2 hi 43 #[]) := by
    have h0 := H0.out
    have hz := h0.2.2.1.size
    have b4 : Below w1.heap.size w1 ((w1.alloc (.cells #[] 43)).alloc (.cells lzc 32)) := bel_nx (bel_alloc _ _) (bel_alloc _ _)
    have b5 : Below w1.heap.size w1 W2 := by rw [hW2]; exact setL_below (by omega) _ _ _ b4
    refine ⟨by rw [hhi]; exact ((lnO_mono o6 hz).p.pb).below b5, ?_, (h0.2.2.2.2.1.below b6).below b5, (h0.2.2.2.2.2.1.below b6).below b5, bel_nx (bel_nx h0.2.2.1 b6) b5, h0.2.2.2.2.2.2.1, ?_, ?_⟩
    · rw [hW2, hhi, show lac L a6 n cp6 r1 r2 l1 l2 d1 d2 = wrA lzc 0 (lacL L a6 n cp6 r1 r2 l1 l2 d1 d2) from (lwr0_17 _ _ _ _ _ _ _ _ _ _ _ _ _ _ _ _ _ _ _ _ _ _ _ _ _ _ _ _ _ _ _ _ _ _).symm]
      have h9 := Blk.new (w1.alloc (.cells #[] 43)) lzc 32
      rw [hsz1] at h9
      exact Blk.stL _ _ h9
    · have := b6.size
      omega
    · rw [hW2, hhi]; exact Blk.stNe (by omega) _ _ ((Blk.new w1 #[] 43).below (bel_alloc _ _))
  rename_i hK
  refine hK _ _ ?_
  clear hK o6
  refine wpList_bs rfl 39 0 #[] rfl #[] (by simp) (.slice (some ⟨w1.heap.size, 0, none⟩) 0 0) (run_bs0D w1) ?_
  refine wpList_alloc_any rfl 32 rfl lzc 17 184 (by kernel_rfl) ?_
  refine wpList_store_mid rfl 32 (.tmp 10) (.tmp 13) rfl (w1.heap.size + 1) 0 (lac L a6 n cp6 r1 r2 l1 l2 d1 d2) (by rw [hsz1]; rfl) rfl (by have h9 := (Blk.new (w1.alloc (.cells #[] 43)) lzc 32).there 0 17 (by simp); rw [hsz1] at h9; exact h9) (by kernel_rfl) (by simp [Value.oneCell']) ?_
  rw [setCells_L, ← hW2, hsz1, ← hhi]
  clear hW2 hsz1
  have HHI : Hid (hi = w1.heap.size ∧ Below W.heap.size W w1) := ⟨hhi, b6⟩
  clear hhi b6
  go_wp2_with fail
  refine (lineRight_any L (hi + 1) n cp6 a6 r1 r2 l1 l2 d1 d2 f _ H2.out.2.1 H2.out.1.p.rd H0.out.2.1 hl1 hl2).mono ?_
  rintro e w3 ⟨rfl, b3⟩
  rw [HC.out.2.2.2.2.1]
  have H3 : Hid (LnPB w3 w.heap.size hi n f L a6 cp6 r1 r2 l1 l2 d1 d2 ∧ Blk w3 (hi + 1) 32 (lac L a6 n cp6 r1 r2 l1 l2 d1 d2) ∧ Blk w3 (B + 1) 37 (rpL kd fl pl nn q1 q2 m1 m2 k1 k2) ∧ Blk w3 (B + 1 + 1) 32 lzc ∧ Below w.heap.size w w3 ∧ w.heap.size = B ∧ B + 1 + 1 < hi ∧ Blk w3 hi 43 #[]) := ⟨H2.out.1.below b3, H2.out.2.1.below b3, H2.out.2.2.1.below b3, H2.out.2.2.2.1.below b3, bel_nx H2.out.2.2.2.2.1 b3, H2.out.2.2.2.2.2.1, H2.out.2.2.2.2.2.2.1, H2.out.2.2.2.2.2.2.2.below b3⟩
  clear b3 H2
  cases x0 with
  | false =>
    go_upto_region 4 with fail
    try go_simp
    refine wp_region_lit ?_
    refine wpList_load_mid rfl 32 (.tmp 10) rfl (hi + 1) 0 rfl (lacL L a6 n cp6 r1 r2 l1 l2 d1 d2) _ H3.out.2.1.all Tryz.underlying32 rfl (by kernel_rfl) ?_
    refine wpList_move_any rfl (.tmp 11) rfl (.slice (some ⟨hi, 0, none⟩) 0 0) rfl ?_
    refine wpList_store_mid rfl 32 (.tmp 8) (.tmp 34) rfl (B + 1 + 1) 0 (lac L a6 n cp6 r1 r2 l1 l2 d1 d2) rfl rfl (H3.out.2.2.2.1.there 0 17 (by simp)) (by kernel_rfl) (by simp [Value.oneCell']) ?_
    rw [setCells_L]
    obtain ⟨W9, hW9⟩ : ∃ W9, W9 = setL w3 (B + 1 + 1) 0 (lacL L a6 n cp6 r1 r2 l1 l2 d1 d2) := ⟨_, rfl⟩
    have H9 : Hid (LnPB W9 w.heap.size hi n f L a6 cp6 r1 r2 l1 l2 d1 d2 ∧ Below w.heap.size w W9 ∧ Blk W9 (B + 1 + 1) 32 (lac L a6 n cp6 r1 r2 l1 l2 d1 d2) ∧ TopL W9 hi W9.heap.size 43 8 (.slice (some ⟨hi, 0, none⟩) 0 0) 0 (fun _ => dnE (hrD L kd fl pl nn ws bs)) ∧ w.heap.size ≤ hi ∧ hi ≤ W9.heap.size) := by
      have h3 := H3.out
      have g1 : w3.grownBy W9 (some (B + 1 + 1)) := by rw [hW9]; exact setL_gw _ _ _
      have hhi9 : hi ≤ W9.heap.size := by have := h3.2.1.lt; have := g1.size; omega
      exact ⟨h3.1.keptT g1 ⟨_, h3.2.2.2.1⟩ (by decide) (by decide) (by decide), by rw [hW9]; exact setL_below (by omega) _ _ _ h3.2.2.2.2.1, by rw [hW9, show lac L a6 n cp6 r1 r2 l1 l2 d1 d2 = wrA lzc 0 (lacL L a6 n cp6 r1 r2 l1 l2 d1 d2) from (lwr0_17 _ _ _ _ _ _ _ _ _ _ _ _ _ _ _ _ _ _ _ _ _ _ _ _ _ _ _ _ _ _ _ _ _ _).symm]; exact Blk.stL _ _ h3.2.2.2.1, topL_nil _ _ _ _ _ _ _ _ hhi9, by omega, hhi9⟩
    rw [show setL w3 (B + 1 + 1) 0 (lac L a6 n cp6 r1 r2 l1 l2 d1 d2).toList = W9 from hW9.symm]
    have HC1 := HC.out.2.2.2.2.2.2.2
    clear hW9 HC H0 H3
    go_wp2
    refine bodyPost_ret (v := .tuple #[.agg (lac L a6 n cp6 r1 r2 l1 l2 d1 d2), (.slice (some ⟨hi, 0, none⟩) 0 0)]) (results_cell1 Tryz.results10 rfl rfl (run_loadVar_mid _ _ _ 32 (lacL L a6 n cp6 r1 r2 l1 l2 d1 d2) _ H9.out.2.2.1.all Tryz.underlying32 rfl (by kernel_rfl))) rfl ?_
    exact ⟨a6, cp6, r1, r2, d1, d2, hi, _, 0, by rw [HC1.1, HC1.2]; rfl, H9.out.2.2.2.2.1, H9.out.2.2.2.2.2, by rw [HC1.1, HC1.2] at H9; exact H9.out.1, H9.out.2.2.2.1, H9.out.2.1⟩
  | true =>
    go_wp2_with fail
    refine (asks_any L a6 r1 r2 n cp6 l1 l2 d1 d2 (hi + 1) nu un _ H3.out.2.1).mono ?_
    rintro e w4 ⟨rfl, hw4⟩
    have hw4 := hw4.symm
    subst hw4
    rw [HC.out.2.2.2.2.2.1]
    cases x1 with
    | false =>
      go_upto_region 4 with fail
      try go_simp
      refine wp_region_lit ?_
      refine wpList_load_mid rfl 32 (.tmp 10) rfl (hi + 1) 0 rfl (lacL L a6 n cp6 r1 r2 l1 l2 d1 d2) _ H3.out.2.1.all Tryz.underlying32 rfl (by kernel_rfl) ?_
      refine wpList_move_any rfl (.tmp 11) rfl (.slice (some ⟨hi, 0, none⟩) 0 0) rfl ?_
      refine wpList_store_mid rfl 32 (.tmp 8) (.tmp 34) rfl (B + 1 + 1) 0 (lac L a6 n cp6 r1 r2 l1 l2 d1 d2) rfl rfl (H3.out.2.2.2.1.there 0 17 (by simp)) (by kernel_rfl) (by simp [Value.oneCell']) ?_
      rw [setCells_L]
      obtain ⟨W9, hW9⟩ : ∃ W9, W9 = setL w3 (B + 1 + 1) 0 (lacL L a6 n cp6 r1 r2 l1 l2 d1 d2) := ⟨_, rfl⟩
      have H9 : Hid (LnPB W9 w.heap.size hi n f L a6 cp6 r1 r2 l1 l2 d1 d2 ∧ Below w.heap.size w W9 ∧ Blk W9 (B + 1 + 1) 32 (lac L a6 n cp6 r1 r2 l1 l2 d1 d2) ∧ TopL W9 hi W9.heap.size 43 8 (.slice (some ⟨hi, 0, none⟩) 0 0) 0 (fun _ => dnE (hrD L kd fl pl nn ws bs)) ∧ w.heap.size ≤ hi ∧ hi ≤ W9.heap.size) := by
        have h3 := H3.out
        have g1 : w3.grownBy W9 (some (B + 1 + 1)) := by rw [hW9]; exact setL_gw _ _ _
        have hhi9 : hi ≤ W9.heap.size := by have := h3.2.1.lt; have := g1.size; omega
        exact ⟨h3.1.keptT g1 ⟨_, h3.2.2.2.1⟩ (by decide) (by decide) (by decide), by rw [hW9]; exact setL_below (by omega) _ _ _ h3.2.2.2.2.1, by rw [hW9, show lac L a6 n cp6 r1 r2 l1 l2 d1 d2 = wrA lzc 0 (lacL L a6 n cp6 r1 r2 l1 l2 d1 d2) from (lwr0_17 _ _ _ _ _ _ _ _ _ _ _ _ _ _ _ _ _ _ _ _ _ _ _ _ _ _ _ _ _ _ _ _ _ _).symm]; exact Blk.stL _ _ h3.2.2.2.1, topL_nil _ _ _ _ _ _ _ _ hhi9, by omega, hhi9⟩
      rw [show setL w3 (B + 1 + 1) 0 (lac L a6 n cp6 r1 r2 l1 l2 d1 d2).toList = W9 from hW9.symm]
      have HC1 := HC.out.2.2.2.2.2.2.2
      clear hW9 HC H0 H3
      go_wp2
      refine bodyPost_ret (v := .tuple #[.agg (lac L a6 n cp6 r1 r2 l1 l2 d1 d2), (.slice (some ⟨hi, 0, none⟩) 0 0)]) (results_cell1 Tryz.results10 rfl rfl (run_loadVar_mid _ _ _ 32 (lacL L a6 n cp6 r1 r2 l1 l2 d1 d2) _ H9.out.2.2.1.all Tryz.underlying32 rfl (by kernel_rfl))) rfl ?_
      exact ⟨a6, cp6, r1, r2, d1, d2, hi, _, 0, by rw [HC1.1, HC1.2]; rfl, H9.out.2.2.2.2.1, H9.out.2.2.2.2.2, by rw [HC1.1, HC1.2] at H9; exact H9.out.1, H9.out.2.2.2.1, H9.out.2.1⟩
    | true =>
      obtain ⟨⟨y0, y1, y2, y3, y4, y5, y6, y7, y8, y9, y10, y11, y12, y13, y14, y15, y16⟩, _⟩ := H3.out.2.1.svn
      obtain ⟨z0, z1, z2, z3, z4, z5⟩ := H3.out.2.2.1.six3
      have hrd := H3.out.1.p.rd
      go_wp2_with fail
      refine (implSuits_q L.c.kd kd fl L.c.pl L.c.n L.c.wa r1 r2 l1 l2 d1 d2 L.c.ws L.c.bs pl nn q1 q2 m1 m2 k1 k2 ws bs _ hrd.1 hrd.2.1 hrd.2.2.2.1 hrd.2.2.2.2 (by rw [← hrd.1]; exact hl1) (by rw [← hrd.2.1]; exact hl2) HC.out.1 HC.out.2.1 (HC.out.2.2.1.below H3.out.2.2.2.2.1) (HC.out.2.2.2.1.below H3.out.2.2.2.2.1) (by rw [← HC.out.1]; exact hm1) (by rw [← HC.out.2.1]; exact hm2) hcap).mono ?_
      rintro e w5 ⟨rfl, b5⟩
      rw [HC.out.2.2.2.2.2.2.1]
      have H5 : Hid (LnPB w5 w.heap.size hi n f L a6 cp6 r1 r2 l1 l2 d1 d2 ∧ Blk w5 (hi + 1) 32 (lac L a6 n cp6 r1 r2 l1 l2 d1 d2) ∧ Blk w5 (B + 1) 37 (rpL kd fl pl nn q1 q2 m1 m2 k1 k2) ∧ Blk w5 (B + 1 + 1) 32 lzc ∧ Below w.heap.size w w5 ∧ w.heap.size = B ∧ B + 1 + 1 < hi ∧ Blk w5 hi 43 #[]) := ⟨H3.out.1.below b5, H3.out.2.1.below b5, H3.out.2.2.1.below b5, H3.out.2.2.2.1.below b5, bel_nx H3.out.2.2.2.2.1 b5, H3.out.2.2.2.2.2.1, H3.out.2.2.2.2.2.2.1, H3.out.2.2.2.2.2.2.2.below b5⟩
      clear b5 H3 hrd y0 y1 y2 y3 y4 y5 y6 y7 y8 y9 y10 y11 y12 y13 y14 y15 y16 z0 z1 z2 z3 z4 z5
      cases x2 with
      | false =>
        go_upto_region 4 with fail
        try go_simp
        refine wp_region_lit ?_
        refine wpList_load_mid rfl 32 (.tmp 10) rfl (hi + 1) 0 rfl (lacL L a6 n cp6 r1 r2 l1 l2 d1 d2) _ H5.out.2.1.all Tryz.underlying32 rfl (by kernel_rfl) ?_
        refine wpList_move_any rfl (.tmp 11) rfl (.slice (some ⟨hi, 0, none⟩) 0 0) rfl ?_
        refine wpList_store_mid rfl 32 (.tmp 8) (.tmp 34) rfl (B + 1 + 1) 0 (lac L a6 n cp6 r1 r2 l1 l2 d1 d2) rfl rfl (H5.out.2.2.2.1.there 0 17 (by simp)) (by kernel_rfl) (by simp [Value.oneCell']) ?_
        rw [setCells_L]
        obtain ⟨W9, hW9⟩ : ∃ W9, W9 = setL w5 (B + 1 + 1) 0 (lacL L a6 n cp6 r1 r2 l1 l2 d1 d2) := ⟨_, rfl⟩
        have H9 : Hid (LnPB W9 w.heap.size hi n f L a6 cp6 r1 r2 l1 l2 d1 d2 ∧ Below w.heap.size w W9 ∧ Blk W9 (B + 1 + 1) 32 (lac L a6 n cp6 r1 r2 l1 l2 d1 d2) ∧ TopL W9 hi W9.heap.size 43 8 (.slice (some ⟨hi, 0, none⟩) 0 0) 0 (fun _ => dnE (hrD L kd fl pl nn ws bs)) ∧ w.heap.size ≤ hi ∧ hi ≤ W9.heap.size) := by
          have h3 := H5.out
          have g1 : w5.grownBy W9 (some (B + 1 + 1)) := by rw [hW9]; exact setL_gw _ _ _
          have hhi9 : hi ≤ W9.heap.size := by have := h3.2.1.lt; have := g1.size; omega
          exact ⟨h3.1.keptT g1 ⟨_, h3.2.2.2.1⟩ (by decide) (by decide) (by decide), by rw [hW9]; exact setL_below (by omega) _ _ _ h3.2.2.2.2.1, by rw [hW9, show lac L a6 n cp6 r1 r2 l1 l2 d1 d2 = wrA lzc 0 (lacL L a6 n cp6 r1 r2 l1 l2 d1 d2) from (lwr0_17 _ _ _ _ _ _ _ _ _ _ _ _ _ _ _ _ _ _ _ _ _ _ _ _ _ _ _ _ _ _ _ _ _ _).symm]; exact Blk.stL _ _ h3.2.2.2.1, topL_nil _ _ _ _ _ _ _ _ hhi9, by omega, hhi9⟩
        rw [show setL w5 (B + 1 + 1) 0 (lac L a6 n cp6 r1 r2 l1 l2 d1 d2).toList = W9 from hW9.symm]
        have HC1 := HC.out.2.2.2.2.2.2.2
        clear hW9 HC H0 H5
        go_wp2
        refine bodyPost_ret (v := .tuple #[.agg (lac L a6 n cp6 r1 r2 l1 l2 d1 d2), (.slice (some ⟨hi, 0, none⟩) 0 0)]) (results_cell1 Tryz.results10 rfl rfl (run_loadVar_mid _ _ _ 32 (lacL L a6 n cp6 r1 r2 l1 l2 d1 d2) _ H9.out.2.2.1.all Tryz.underlying32 rfl (by kernel_rfl))) rfl ?_
        exact ⟨a6, cp6, r1, r2, d1, d2, hi, _, 0, by rw [HC1.1, HC1.2]; rfl, H9.out.2.2.2.2.1, H9.out.2.2.2.2.2, by rw [HC1.1, HC1.2] at H9; exact H9.out.1, H9.out.2.2.2.1, H9.out.2.1⟩
      | true =>
        obtain ⟨z0, z1, z2, z3, z4, z5⟩ := H5.out.2.2.1.six3
        go_wp2_with fail
        refine (implCopyResp_any kd fl pl nn q1 q2 m1 m2 k1 k2 ws bs _ HC.out.1 HC.out.2.1 (HC.out.2.2.1.below H5.out.2.2.2.2.1) (HC.out.2.2.2.1.below H5.out.2.2.2.2.1) hm1 hm2).mono ?_
        rintro e w6 ⟨u1, u2, t1, t2, rfl, i1, i2, b6⟩
        have H6 : Hid ((LnPB w6 w.heap.size hi n f L a6 cp6 r1 r2 l1 l2 d1 d2 ∧ Blk w6 (hi + 1) 32 (lac L a6 n cp6 r1 r2 l1 l2 d1 d2) ∧ Blk w6 (B + 1) 37 (rpL kd fl pl nn q1 q2 m1 m2 k1 k2) ∧ Blk w6 (B + 1 + 1) 32 lzc ∧ Below w.heap.size w w6 ∧ w.heap.size = B ∧ B + 1 + 1 < hi ∧ Blk w6 hi 43 #[]) ∧ OwnI w6 hi (.slice u1 m1 t1) ws ∧ OwnB w6 hi (.slice u2 m2 t2) bs) := ⟨⟨H5.out.1.below b6, H5.out.2.1.below b6, H5.out.2.2.1.below b6, H5.out.2.2.2.1.below b6, bel_nx H5.out.2.2.2.2.1 b6, H5.out.2.2.2.2.2.1, H5.out.2.2.2.2.2.2.1, H5.out.2.2.2.2.2.2.2.below b6⟩, OwnI.mono (show OwnI _ _ _ _ from i1) (by have := H5.out.2.1.lt; omega), OwnB.mono (show OwnB _ _ _ _ from i2) (by have := H5.out.2.1.lt; omega)⟩
        clear b6 i1 i2 H5 z0 z1 z2 z3 z4 z5
        rename_i hK
        refine hK _ _ ?_
        clear hK
        go_wp2_with fail
        refine (end_any L a6 r1 r2 n cp6 l1 l2 d1 d2 (hi + 1) kd fl pl nn u1 u2 m1 m2 t1 t2 _ H6.out.1.2.1).mono ?_
        rintro e w7 ⟨rfl, l7, g7⟩
        have H7 : Hid (LnPB w7 w.heap.size hi n f (freeL L) a6 cp6 none none 0 0 0 0 ∧ Blk w7 (hi + 1) 32 (lac (freeL L) a6 n cp6 none none 0 0 0 0) ∧ True ∧ Blk w7 (B + 1 + 1) 32 lzc ∧ Below w.heap.size w w7 ∧ w.heap.size = B ∧ B + 1 + 1 < hi ∧ Blk w7 hi 43 #[] ∧ OwnI w7 hi (.slice u1 m1 t1) ws ∧ OwnB w7 hi (.slice u2 m2 t2) bs) := by
          have h6 := H6.out
          have hx : ExB w6 (hi + 1) 32 := ⟨_, h6.1.2.1⟩
          exact ⟨(h6.1.1.keptT g7 hx (by decide) (by decide) (by decide)).free, l7, trivial, h6.1.2.2.2.1.grown g7 (by intro e9; have := Option.some.inj e9; omega), h6.1.2.2.2.2.1.grown g7 h6.1.2.2.2.2.1.size (fun k hk => by have := Option.some.inj hk; omega), h6.1.2.2.2.2.2.1, h6.1.2.2.2.2.2.2.1, h6.1.2.2.2.2.2.2.2.grown g7 (by intro e9; have := Option.some.inj e9; omega), row_noT h6.2.1 g7 hx (by decide), row_noT h6.2.2 g7 hx (by decide)⟩
        clear l7 g7 H6
        rename_i hK
        refine hK _ _ ?_
        clear hK
        refine wpList_bs rfl 39 1 _ rfl #[(0, .agg (dnd (hrD L kd fl pl nn ws bs) u1 u2 m1 m2 t1 t2))] (by simp only [List.map_toArray, List.map_cons, List.map_nil]; rfl) (.slice (some ⟨w7.heap.size, 0, none⟩) 1 1) (run_bsD _ _ _ _ _ _ _ w7) ?_
        obtain ⟨i0, hi0, hzz⟩ := Option.map_eq_some_iff.1 Tryz.infoD43
        simp only [Prod.mk.injEq] at hzz
        obtain ⟨hz0, hz1, hz2⟩ := hzz
        have ba := bel_alloc w7 (.cells (dnd (hrD L kd fl pl nn ws bs) u1 u2 m1 m2 t1 t2) 43)
        refine wpList_append_own _ rfl (.tmp 28) (.tmp 32) 39 rfl hi 43 i0 _ 8 96 Tryz.underlying39 hi0 hz0 hz1 hz2 rfl (by decide) (.slice (some ⟨hi, 0, none⟩) 0 0) 0 [] rfl (row_nil (Nat.le_refl _) (H7.out.2.2.2.2.2.2.2.1.below ba)) ⟨w7.heap.size, 0, none⟩ 1 1 (dndL (hrD L kd fl pl nn ws bs) u1 u2 m1 m2 t1 t2) rfl rfl (fun j u hu => ?nws) (fun u hu => ?one) (by unfold maxLen; omega) (by omega) (by have := H7.out.2.1.lt; have := ba.size; omega) ?_
        case nws =>
          have e1 : (⟨w7.heap.size, 0, none⟩ : Addr).add j = ⟨w7.heap.size, j, none⟩ := by unfold Addr.add; split <;> simp_all
          rw [e1]
          exact (Blk.new w7 _ _).cell j (by simpa using hu)
        case one => simp at hu; rcases hu with rfl | rfl | rfl | rfl | rfl | rfl | rfl | rfl <;> rfl
        intro v8 w8 o8 g8 _
        have g8' : (w7.alloc (.cells (dnd (hrD L kd fl pl nn ws bs) u1 u2 m1 m2 t1 t2) 43)).grownBy w8 (some hi) := g8
        have hxd : ExB (w7.alloc (.cells (dnd (hrD L kd fl pl nn ws bs) u1 u2 m1 m2 t1 t2) 43)) hi 43 := ⟨_, H7.out.2.2.2.2.2.2.2.1.below ba⟩
        have O1 : OwnI w8 hi (.slice u1 m1 t1) ws := row_noT (row_bel H7.out.2.2.2.2.2.2.2.2.1 ba) g8' hxd (by decide)
        have O2 : OwnB w8 hi (.slice u2 m2 t2) bs := row_noT (row_bel H7.out.2.2.2.2.2.2.2.2.2 ba) g8' hxd (by decide)
        have hlt8 : hi ≤ w8.heap.size := by have := H7.out.2.1.lt; have := ba.size; have := g8'.size; omega
        obtain ⟨va8, vc8, rfl, T8⟩ := topL_one (lo := hi) (E := dnE (hrD L kd fl pl nn ws bs)) (show w8.ownsRow hi 43 8 v8 1 (dndL (hrD L kd fl pl nn ws bs) u1 u2 m1 m2 t1 t2) from o8) rfl ⟨u1, u2, t1, t2, by simp [els, dnE, hrD, HC.out.1, HC.out.2.1], by show OwnI _ _ (.slice _ ws.length _) ws; rw [← HC.out.1]; exact O1, by show OwnB _ _ (.slice _ bs.length _) bs; rw [← HC.out.2.1]; exact O2, fun x hx => by have hx' : (Value.slice u1 ws.length t1).ownBlock = some x := hx; rw [← HC.out.1] at hx'; exact (World.ownsRow.lt O1 x hx').2, fun x hx => by have hx' : (Value.slice u2 bs.length t2).ownBlock = some x := hx; rw [← HC.out.2.1] at hx'; exact (World.ownsRow.lt O2 x hx').2⟩ (Nat.le_refl _) hlt8
        have H8 : Hid (LnPB w8 w.heap.size hi n f (freeL L) a6 cp6 none none 0 0 0 0 ∧ Blk w8 (hi + 1) 32 (lac (freeL L) a6 n cp6 none none 0 0 0 0) ∧ True ∧ Blk w8 (B + 1 + 1) 32 lzc ∧ Below w.heap.size w w8 ∧ w.heap.size = B ∧ B + 1 + 1 < hi ∧ TopL w8 hi w8.heap.size 43 8 (.slice va8 1 vc8) 1 (fun _ => dnE (hrD L kd fl pl nn ws bs))) := by
          have h7 := H7.out
          have bb := bel_nx h7.2.2.2.2.1 ba
          exact ⟨(h7.1.below ba).keptT g8' hxd (by decide) (by decide) (by decide), (h7.2.1.below ba).grown g8' (by intro e9; have := Option.some.inj e9; omega), trivial, (h7.2.2.2.1.below ba).grown g8' (by intro e9; have := Option.some.inj e9; omega), bb.grown g8' bb.size (fun k hk => by have := Option.some.inj hk; omega), h7.2.2.2.2.2.1, h7.2.2.2.2.2.2.1, T8⟩
        clear o8 g8 g8' hxd O1 O2 hlt8 T8 H7 ba hi0 hz0 hz1 hz2
        go_upto_region 4 with fail
        try go_simp
        refine wp_region_lit ?_
        refine wpList_load_mid rfl 32 (.tmp 10) rfl (hi + 1) 0 rfl (lacL (freeL L) a6 n cp6 none none 0 0 0 0) _ H8.out.2.1.all Tryz.underlying32 rfl (by kernel_rfl) ?_
        refine wpList_move_any rfl (.tmp 11) rfl (.slice va8 1 vc8) rfl ?_
        refine wpList_store_mid rfl 32 (.tmp 8) (.tmp 34) rfl (B + 1 + 1) 0 (lac (freeL L) a6 n cp6 none none 0 0 0 0) rfl rfl (H8.out.2.2.2.1.there 0 17 (by simp)) (by kernel_rfl) (by simp [Value.oneCell']) ?_
        rw [setCells_L]
        obtain ⟨W9, hW9⟩ : ∃ W9, W9 = setL w8 (B + 1 + 1) 0 (lacL (freeL L) a6 n cp6 none none 0 0 0 0) := ⟨_, rfl⟩
        have H9 : Hid (LnPB W9 w.heap.size hi n f (freeL L) a6 cp6 none none 0 0 0 0 ∧ Below w.heap.size w W9 ∧ Blk W9 (B + 1 + 1) 32 (lac (freeL L) a6 n cp6 none none 0 0 0 0) ∧ TopL W9 hi W9.heap.size 43 8 (.slice va8 1 vc8) 1 (fun _ => dnE (hrD L kd fl pl nn ws bs)) ∧ w.heap.size ≤ hi ∧ hi ≤ W9.heap.size) := by
          have h3 := H8.out
          have g1 : w8.grownBy W9 (some (B + 1 + 1)) := by rw [hW9]; exact setL_gw _ _ _
          have hhi9 : hi ≤ W9.heap.size := by have := h3.2.1.lt; have := g1.size; omega
          exact ⟨h3.1.keptT g1 ⟨_, h3.2.2.2.1⟩ (by decide) (by decide) (by decide), by rw [hW9]; exact setL_below (by omega) _ _ _ h3.2.2.2.2.1, by rw [hW9, show lac (freeL L) a6 n cp6 none none 0 0 0 0 = wrA lzc 0 (lacL (freeL L) a6 n cp6 none none 0 0 0 0) from (lwr0_17 _ _ _ _ _ _ _ _ _ _ _ _ _ _ _ _ _ _ _ _ _ _ _ _ _ _ _ _ _ _ _ _ _ _).symm]; exact Blk.stL _ _ h3.2.2.2.1, (by have hs9 : W9.heap.size = w8.heap.size := (by rw [hW9]; exact setL_size _ _ _ _); rw [hs9]; exact topL_keptLt h3.2.2.2.2.2.2.2 g1 (by omega)), by omega, hhi9⟩
        rw [show setL w8 (B + 1 + 1) 0 (lac (freeL L) a6 n cp6 none none 0 0 0 0).toList = W9 from hW9.symm]
        have HC1 := HC.out.2.2.2.2.2.2.2
        clear hW9 HC H0 H8
        go_wp2
        refine bodyPost_ret (v := .tuple #[.agg (lac (freeL L) a6 n cp6 none none 0 0 0 0), (.slice va8 1 vc8)]) (results_cell1 Tryz.results10 rfl rfl (run_loadVar_mid _ _ _ 32 (lacL (freeL L) a6 n cp6 none none 0 0 0 0) _ H9.out.2.2.1.all Tryz.underlying32 rfl (by kernel_rfl))) rfl ?_
        exact ⟨a6, cp6, none, none, 0, 0, hi, va8, vc8, rfl, H9.out.2.2.2.2.1, H9.out.2.2.2.2.2, H9.out.1, H9.out.2.2.2.1, H9.out.2.1⟩
end Go.Proofs.YtmhdneenjoelfaaGreat
