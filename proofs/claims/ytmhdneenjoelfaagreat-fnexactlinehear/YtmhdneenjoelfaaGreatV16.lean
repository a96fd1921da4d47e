/- Texts that the proof needs, joined: Hr2 HrM. -/
import Derived.Test.YtmhdneenjoelfaaGreatV14
import Derived.Test.YtmhdneenjoelfaaGreatV15
namespace Go.Proofs.YtmhdneenjoelfaaGreat
open Go.RowKit Go.Joins
set_option linter.unusedVariables false
set_option linter.unusedSimpArgs false
def RgS (S : World → Prop) (g s : Nat) (t : TypeId) (zs cs : Array Value) (l : Nat → Bool) (σ : Nat → Value) (u : World) : Prop := S u ∧ (l s = false → Blk u g t zs) ∧ (l s = true → Blk u g t cs)
theorem RgS.next {S : World → Prop} {g s : Nat} {t : TypeId} {zs cs : Array Value} {l : Nat → Bool} {σ σ' : Nat → Value} {u u' : World} (h : RgS S g s t zs cs l σ u) {i : Nat} (hi : i ≠ s) (hS : S u') (hb : Below u.heap.size u u') : RgS S g s t zs cs (updB l i) σ' u' := by
  refine ⟨hS, ?_, ?_⟩
  · rw [updB_ne hi]; exact fun e => (h.2.1 e).below hb
  · rw [updB_ne hi]; exact fun e => (h.2.2 e).below hb
theorem TopL.below9 {w w' : World} {base hi : Nat} {t : TypeId} {s : Nat} {v : Value} {n : Nat} {G : Nat → El} (h : TopL w base hi t s v n G) (hb : Below w.heap.size w w') {hi' : Nat} (hh : hi ≤ hi') : TopL w' base hi' t s v n G := by
  obtain ⟨F, β, h1, h2, h3, h4⟩ := h
  exact ⟨F, β, h1.below hb, h2.below hb, by omega, fun g o m c e h0 => by have := h4 g o m c e h0; omega⟩
theorem TopL.keptT {w w' : World} {base hi gx : Nat} {t t' : TypeId} {s : Nat} {v : Value} {n : Nat} {G : Nat → El} (h : TopL w base hi t s v n G) (hg : w.grownBy w' (some gx)) (hx : ExB w gx t') (h0 : t' ≠ t) (k1 : t' ≠ 3) (k2 : t' ≠ 4) {hi' : Nat} (hh : hi ≤ hi') : TopL w' base hi' t s v n G := by
  obtain ⟨F, β, h1, h2, h3, h4⟩ := h
  exact ⟨F, β, h1.kept hg (.inr ⟨t', hx, h0⟩), h2.keptT hg hx k1 k2, by omega, fun g o m c e h0 => by have := h4 g o m c e h0; omega⟩
theorem MgP.top {b base : Nat} {v : Value} {n : Nat} {G : Nat → El} {u u' : World} (hm : MgP b u u') (h : TopL u base u.heap.size 43 8 v n G) : TopL u' base u'.heap.size 43 8 v n G := by
  rcases hm with hb | ⟨g, hg, hx, _⟩
  · exact h.below9 hb hb.size
  · exact h.keptT hg hx (by decide) (by decide) (by decide) hg.size
theorem topD {u : World} {hi m1 m2 t1 t2 : Nat} {D : Dn} {u1 u2 : Option Addr} (e1 : m1 = D.ws.length) (e2 : m2 = D.bs.length) (O1 : OwnI u hi (.slice u1 m1 t1) D.ws) (O2 : OwnB u hi (.slice u2 m2 t2) D.bs) (hh : hi ≤ u.heap.size) : TopL (u.alloc (.cells (dnd D u1 u2 m1 m2 t1 t2) 43)) hi (u.alloc (.cells (dnd D u1 u2 m1 m2 t1 t2) 43)).heap.size 43 8 (.slice (some ⟨u.heap.size, 0, none⟩) 1 1) 1 (fun _ => dnE D) := by
  have ba := bel_alloc u (.cells (dnd D u1 u2 m1 m2 t1 t2) 43)
  have o8 : (u.alloc (.cells (dnd D u1 u2 m1 m2 t1 t2) 43)).ownsRow hi 43 8 (.slice (some ⟨u.heap.size, 0, none⟩) 1 1) 1 (dndL D u1 u2 m1 m2 t1 t2) :=
    ⟨rfl, .inr ⟨u.heap.size, 1, _, rfl, hh, Blk.new u _ _, Nat.le_refl _, by unfold maxLen; omega, rfl, rfl⟩⟩
  have P1 := row_bel O1 ba
  have P2 := row_bel O2 ba
  obtain ⟨va, vc, e, T8⟩ := topL_one (lo := hi) (E := dnE D) o8 rfl ⟨u1, u2, t1, t2, by simp [els, dnE, e1, e2], by show OwnI _ _ (.slice _ D.ws.length _) D.ws; rw [← e1]; exact P1, by show OwnB _ _ (.slice _ D.bs.length _) D.bs; rw [← e2]; exact P2, fun x hx => by have hx' : (Value.slice u1 D.ws.length t1).ownBlock = some x := hx; rw [← e1] at hx'; exact (World.ownsRow.lt P1 x hx').2, fun x hx => by have hx' : (Value.slice u2 D.bs.length t2).ownBlock = some x := hx; rw [← e2] at hx'; exact (World.ownsRow.lt P2 x hx').2⟩ (Nat.le_refl _) (Nat.le_trans hh ba.size)
  rw [e]; exact T8
def SH (w : World) (B hi n cp l1 l2 c1 c2 : Nat) (f : Nat → Ca) (L : La) (a a1 a2 : Option Addr) (kd fl pl nn : Int) (q1 q2 : Option Addr) (m1 m2 k1 k2 : Nat) (a6 : Option Addr) (cp6 : Nat) (r1 r2 : Option Addr) (d1 d2 : Nat) (u : World) : Prop :=
  LnPB u w.heap.size hi n f L a6 cp6 r1 r2 l1 l2 d1 d2 ∧ Blk u hi 32 (lac L a6 n cp6 r1 r2 l1 l2 d1 d2) ∧ Blk u (B + 1) 37 (rpL kd fl pl nn q1 q2 m1 m2 k1 k2) ∧ Blk u B 32 (lac L a n cp a1 a2 l1 l2 c1 c2) ∧ Below w.heap.size w u ∧ w.heap.size = B ∧ B + 1 + 1 < hi
theorem SH.below {w : World} {B hi n cp l1 l2 c1 c2 : Nat} {f : Nat → Ca} {L : La} {a a1 a2 : Option Addr} {kd fl pl nn : Int} {q1 q2 : Option Addr} {m1 m2 k1 k2 : Nat} {a6 : Option Addr} {cp6 : Nat} {r1 r2 : Option Addr} {d1 d2 : Nat} {u u' : World} (h : SH w B hi n cp l1 l2 c1 c2 f L a a1 a2 kd fl pl nn q1 q2 m1 m2 k1 k2 a6 cp6 r1 r2 d1 d2 u) (hb : Below u.heap.size u u') : SH w B hi n cp l1 l2 c1 c2 f L a a1 a2 kd fl pl nn q1 q2 m1 m2 k1 k2 a6 cp6 r1 r2 d1 d2 u' :=
  ⟨h.1.below hb, h.2.1.below hb, h.2.2.1.below hb, h.2.2.2.1.below hb, bel_nx h.2.2.2.2.1 hb, h.2.2.2.2.2⟩
theorem SH.set {w : World} {B hi n cp l1 l2 c1 c2 : Nat} {f : Nat → Ca} {L : La} {a a1 a2 : Option Addr} {kd fl pl nn : Int} {q1 q2 : Option Addr} {m1 m2 k1 k2 : Nat} {a6 : Option Addr} {cp6 : Nat} {r1 r2 : Option Addr} {d1 d2 : Nat} {u : World} (h : SH w B hi n cp l1 l2 c1 c2 f L a a1 a2 kd fl pl nn q1 q2 m1 m2 k1 k2 a6 cp6 r1 r2 d1 d2 u) (hx : ExB u (B + 1 + 1) 32) (o : Nat) (vs : List Value) : SH w B hi n cp l1 l2 c1 c2 f L a a1 a2 kd fl pl nn q1 q2 m1 m2 k1 k2 a6 cp6 r1 r2 d1 d2 (setL u (B + 1 + 1) o vs) := by
  obtain ⟨h1, h2, h3, h4, h5, h6, h7⟩ := h
  exact ⟨h1.keptT (setL_gw _ _ _) hx (by decide) (by decide) (by decide), Blk.stNe (by omega) _ _ h2, Blk.stNe (by omega) _ _ h3, Blk.stNe (by omega) _ _ h4, setL_below (by omega) _ _ _ h5, h6, h7⟩
set_option maxRecDepth 20000 in
set_option maxHeartbeats 1000000 in
theorem specHear_any (L : La) (a a1 a2 : Option Addr) (n cp l1 l2 c1 c2 : Nat) (f : Nat → Ca) (nu un kd fl pl nn : Int) (q1 q2 : Option Addr) (m1 m2 k1 k2 : Nat) (ws : List Int) (bs : List Bool) (w : World) (hs : LnR w n f L a a1 a2 l1 l2) (hb : BdC n f) (hl1 : l1 ≤ 2000000) (hl2 : l2 ≤ 2000000) (e1 : m1 = ws.length) (e2 : m2 = bs.length) (s1 : SlI w q1 ws) (s2 : SlB w q2 bs) (hm1 : m1 ≤ 2000000) (hm2 : m2 ≤ 2000000) :
    Calls Tryz.prog 26 #[.agg (lac L a n cp a1 a2 l1 l2 c1 c2), .int .i64 nu, .int .i64 un, .agg (rpL kd fl pl nn q1 q2 m1 m2 k1 k2)] w fun e w' => HrP w w' e n f (hrL (hrB n f L l1 l2 nu un kd fl pl nn m1 m2 ws bs) L) (hrB n f L l1 l2 nu un kd fl pl nn m1 m2 ws bs) (hrD L kd fl pl nn ws bs) := by
  have hn := hb.1
  obtain ⟨x0, hx0⟩ : ∃ x, okLn n f L l1 l2 = x := ⟨_, rfl⟩
  obtain ⟨bz, hbz⟩ : ∃ x, L.bz = x := ⟨_, rfl⟩
  obtain ⟨xn, hxn⟩ : ∃ x, (L.nu == nu) = x := ⟨_, rfl⟩
  obtain ⟨xu, hxu⟩ : ∃ x, (L.c.un == un) = x := ⟨_, rfl⟩
  obtain ⟨x2, hx2⟩ : ∃ x, suB L.c.kd L.c.pl L.c.n L.c.wa l1 l2 L.c.ws L.c.bs kd fl pl nn m1 m2 ws bs = x := ⟨_, rfl⟩
  rw [show hrB n f L l1 l2 nu un kd fl pl nn m1 m2 ws bs = (x0 && ((bz && (xn && xu)) && x2)) by unfold hrB; rw [hx0, hbz, hxn, hxu, hx2]]
  obtain ⟨B, hB⟩ : ∃ B, B = w.heap.size := ⟨_, rfl⟩
  obtain ⟨W, hW⟩ : ∃ W, W = ((w.alloc (.cells (lac L a n cp a1 a2 l1 l2 c1 c2) 32)).alloc (.cells (rpL kd fl pl nn q1 q2 m1 m2 k1 k2) 37)).alloc (.cells lzc 32) := ⟨_, rfl⟩
  have bW : Below w.heap.size w W := by rw [hW]; exact bel_nx (bel_nx (bel_alloc w _) (bel_alloc _ _)) (bel_alloc _ _)
  have A0 : Blk W B 32 (lac L a n cp a1 a2 l1 l2 c1 c2) := by rw [hW, hB]; exact ((Blk.new w _ _).below (bel_alloc _ _)).below (bel_alloc _ _)
  have C0 : Blk W (B + 1) 37 (rpL kd fl pl nn q1 q2 m1 m2 k1 k2) := by
    rw [hW, hB]; have := (Blk.new (w.alloc (.cells (lac L a n cp a1 a2 l1 l2 c1 c2) 32)) (rpL kd fl pl nn q1 q2 m1 m2 k1 k2) 37).below (bel_alloc _ (.cells lzc 32)); simpa using this
  have R0 : Blk W (B + 1 + 1) 32 lzc := by
    rw [hW, hB]; have := Blk.new ((w.alloc (.cells (lac L a n cp a1 a2 l1 l2 c1 c2) 32)).alloc (.cells (rpL kd fl pl nn q1 q2 m1 m2 k1 k2) 37)) lzc 32; simpa using this
  have hz : W.heap.size = B + 1 + 1 + 1 := by rw [hW, hB]; simp
  have H0 : Hid (LnR w n f L a a1 a2 l1 l2 ∧ BdC n f ∧ Below w.heap.size w W ∧ Blk W B 32 (lac L a n cp a1 a2 l1 l2 c1 c2) ∧ Blk W (B + 1) 37 (rpL kd fl pl nn q1 q2 m1 m2 k1 k2) ∧ Blk W (B + 1 + 1) 32 lzc ∧ w.heap.size = B ∧ W.heap.size = B + 1 + 1 + 1) := ⟨hs, hb, bW, A0, C0, R0, hB.symm, hz⟩
  have HC : Hid (m1 = ws.length ∧ m2 = bs.length ∧ SlI w q1 ws ∧ SlB w q2 bs ∧ okLn n f L l1 l2 = x0 ∧ True ∧ suB L.c.kd L.c.pl L.c.n L.c.wa l1 l2 L.c.ws L.c.bs kd fl pl nn m1 m2 ws bs = x2 ∧ l1 = L.c.ws.length ∧ l2 = L.c.bs.length) := ⟨e1, e2, s1, s2, hx0, trivial, hx2, hs.1, hs.2.1⟩
  have HZ : Hid (L.bz = bz) := hbz
  clear hs hb bW A0 C0 R0 hz e1 e2 s1 s2 hx0 hx2 hbz
  go_enter Tryz.func26, Tryz.ntmps26
  go_upto_region 1 with fail
  have hB1 : w.heap.size + 1 = B + 1 := by omega
  rw [← hW, hB1, ← hB]
  clear hW hB hB1
  refine wp_region_lit ?_
  refine wpList_load_mid rfl 32 (.tmp 4) rfl B 0 rfl (lacL L a n cp a1 a2 l1 l2 c1 c2) _ H0.out.2.2.2.1.all Tryz.underlying32 rfl (by kernel_rfl) ?_
  go_wp2_with fail
  refine (l12Copy_any L a a1 a2 n cp l1 l2 c1 c2 f _ (H0.out.1.below H0.out.2.2.1) H0.out.2.1 hl1 hl2).mono ?_
  rintro e w1 ⟨a6, cp6, r1, r2, d1, d2, rfl, o6, b6⟩
  obtain ⟨hi, hhi⟩ : ∃ hi, hi = w1.heap.size := ⟨_, rfl⟩
  obtain ⟨W2, hW2⟩ : ∃ W2, W2 = setL (w1.alloc (.cells lzc 32)) w1.heap.size 0 (lacL L a6 n cp6 r1 r2 l1 l2 d1 d2) := ⟨_, rfl⟩
  have H2 : Hid (SH w B hi n cp l1 l2 c1 c2 f L a a1 a2 kd fl pl nn q1 q2 m1 m2 k1 k2 a6 cp6 r1 r2 d1 d2 W2 ∧ Blk W2 (B + 1 + 1) 32 lzc) := by
    have h0 := H0.out
    have hz := h0.2.2.1.size
    have b5 : Below w1.heap.size w1 W2 := by rw [hW2]; exact setL_below (Nat.le_refl _) _ _ _ (bel_alloc _ _)
    refine ⟨⟨by rw [hhi]; exact ((lnO_mono o6 hz).p.pb).below b5, ?_, (h0.2.2.2.2.1.below b6).below b5, (h0.2.2.2.1.below b6).below b5, bel_nx (bel_nx h0.2.2.1 b6) b5, h0.2.2.2.2.2.2.1, ?_⟩, (h0.2.2.2.2.2.1.below b6).below b5⟩
    · rw [hW2, hhi, show lac L a6 n cp6 r1 r2 l1 l2 d1 d2 = wrA lzc 0 (lacL L a6 n cp6 r1 r2 l1 l2 d1 d2) from (lwr0_17 _ _ _ _ _ _ _ _ _ _ _ _ _ _ _ _ _ _ _ _ _ _ _ _ _ _ _ _ _ _ _ _ _ _).symm]; exact Blk.stL _ _ (Blk.new _ _ _)
    · have := b6.size
      omega
  rename_i hK
  refine hK _ _ ?_
  clear hK o6
  refine wpList_alloc_any rfl 32 rfl lzc 17 184 (by kernel_rfl) ?_
  refine wpList_store_mid rfl 32 (.tmp 10) (.tmp 12) rfl w1.heap.size 0 (lac L a6 n cp6 r1 r2 l1 l2 d1 d2) rfl rfl ((Blk.new w1 lzc 32).there 0 17 (by simp)) (by kernel_rfl) (by simp [Value.oneCell']) ?_
  rw [setCells_L, ← hW2, ← hhi]
  clear hW2 hhi b6
  refine wpList_nil ?_
  go_upto_region 2 with fail
  try go_simp
  refine wp_region_lit ?_
  refine wpList_load_mid rfl 32 (.tmp 4) rfl B 0 rfl (lacL L a n cp a1 a2 l1 l2 c1 c2) _ H2.out.1.2.2.2.1.all Tryz.underlying32 rfl (by kernel_rfl) ?_
  go_wp2_with fail
  refine (specLineOk_any L n cp a a1 a2 l1 l2 c1 c2 f _ (H0.out.1.below H2.out.1.2.2.2.2.1) H0.out.2.1 hl1 hl2).mono ?_
  rintro e w3 ⟨rfl, b3⟩
  rw [HC.out.2.2.2.2.1]
  have H3 : Hid (SH w B hi n cp l1 l2 c1 c2 f L a a1 a2 kd fl pl nn q1 q2 m1 m2 k1 k2 a6 cp6 r1 r2 d1 d2 w3 ∧ Blk w3 (B + 1 + 1) 32 lzc) := ⟨H2.out.1.below b3, H2.out.2.below b3⟩
  clear b3 H2
  obtain ⟨⟨y0, y1, y2, y3, y4, y5, y6, y7, y8, y9, y10, y11, y12, y13, y14, y15, y16⟩, _⟩ := H3.out.1.2.2.2.1.svn
  rw [HZ.out] at y1
  cases x0 with
  | false =>
    go_upto_region 3 with fail
    try go_simp
    refine wp_region_lit ?_
    refine wpList_load_mid rfl 32 (.tmp 10) rfl hi 0 rfl (lacL L a6 n cp6 r1 r2 l1 l2 d1 d2) _ H3.out.1.2.1.all Tryz.underlying32 rfl (by kernel_rfl) ?_
    refine wpList_bs rfl 39 0 #[] rfl #[] (by simp) (.slice (some ⟨w3.heap.size, 0, none⟩) 0 0) (run_bs0D w3) ?_
    have ba := bel_alloc w3 (.cells #[] 43)
    have hz9 := H3.out.2.below ba
    refine wpList_store_mid rfl 32 (.tmp 8) (.tmp 42) rfl (B + 1 + 1) 0 (lac L a6 n cp6 r1 r2 l1 l2 d1 d2) rfl rfl (hz9.there 0 17 (by simp)) (by kernel_rfl) (by simp [Value.oneCell']) ?_
    rw [setCells_L]
    obtain ⟨W9, hW9⟩ : ∃ W9, W9 = setL (w3.alloc (.cells #[] 43)) (B + 1 + 1) 0 (lacL L a6 n cp6 r1 r2 l1 l2 d1 d2) := ⟨_, rfl⟩
    have H9 : Hid (LnPB W9 w.heap.size hi n f L a6 cp6 r1 r2 l1 l2 d1 d2 ∧ Below w.heap.size w W9 ∧ Blk W9 (B + 1 + 1) 32 (lac L a6 n cp6 r1 r2 l1 l2 d1 d2) ∧ TopL W9 hi W9.heap.size 43 8 (.slice (some ⟨w3.heap.size, 0, none⟩) 0 0) 0 (fun _ => dnE (hrD L kd fl pl nn ws bs)) ∧ w.heap.size ≤ hi ∧ hi ≤ W9.heap.size) := by
      have h3 := (H3.out.1.below ba).set ⟨_, hz9⟩ 0 (lacL L a6 n cp6 r1 r2 l1 l2 d1 d2)
      rw [← hW9] at h3
      exact ⟨h3.1, h3.2.2.2.2.1, by rw [hW9, show lac L a6 n cp6 r1 r2 l1 l2 d1 d2 = wrA lzc 0 (lacL L a6 n cp6 r1 r2 l1 l2 d1 d2) from (lwr0_17 _ _ _ _ _ _ _ _ _ _ _ _ _ _ _ _ _ _ _ _ _ _ _ _ _ _ _ _ _ _ _ _ _ _).symm]; exact Blk.stL _ _ hz9, topL_nil _ _ _ _ _ _ _ _ (by have := h3.2.1.lt; omega), by have := h3.2.2.2.2.2; omega, by have := h3.2.1.lt; omega⟩
    rw [show setL (w3.alloc (.cells #[] 43)) (B + 1 + 1) 0 (lac L a6 n cp6 r1 r2 l1 l2 d1 d2).toList = W9 from hW9.symm]
    have HC1 := HC.out.2.2.2.2.2.2.2
    clear hW9 HC H0 H3 ba hz9
    go_wp2
    refine bodyPost_ret (v := .tuple #[.agg (lac L a6 n cp6 r1 r2 l1 l2 d1 d2), .slice (some ⟨w3.heap.size, 0, none⟩) 0 0]) (results_cell1 Tryz.results26 rfl rfl (run_loadVar_mid _ _ _ 32 (lacL L a6 n cp6 r1 r2 l1 l2 d1 d2) _ H9.out.2.2.1.all Tryz.underlying32 rfl (by kernel_rfl))) rfl ?_
    exact ⟨a6, cp6, r1, r2, d1, d2, hi, _, 0, by rw [HC1.1, HC1.2]; rfl, H9.out.2.2.2.2.1, H9.out.2.2.2.2.2, by rw [HC1.1, HC1.2] at H9; exact H9.out.1, H9.out.2.2.2.1, H9.out.2.1⟩
  | true =>
    cases bz with
    | false =>
      go_upto_region 3 with fail
      try go_simp
      refine wp_region_lit ?_
      refine wpList_load_mid rfl 32 (.tmp 10) rfl hi 0 rfl (lacL L a6 n cp6 r1 r2 l1 l2 d1 d2) _ H3.out.1.2.1.all Tryz.underlying32 rfl (by kernel_rfl) ?_
      refine wpList_bs rfl 39 0 #[] rfl #[] (by simp) (.slice (some ⟨w3.heap.size, 0, none⟩) 0 0) (run_bs0D w3) ?_
      have ba := bel_alloc w3 (.cells #[] 43)
      have hz9 := H3.out.2.below ba
      refine wpList_store_mid rfl 32 (.tmp 8) (.tmp 42) rfl (B + 1 + 1) 0 (lac L a6 n cp6 r1 r2 l1 l2 d1 d2) rfl rfl (hz9.there 0 17 (by simp)) (by kernel_rfl) (by simp [Value.oneCell']) ?_
      rw [setCells_L]
      obtain ⟨W9, hW9⟩ : ∃ W9, W9 = setL (w3.alloc (.cells #[] 43)) (B + 1 + 1) 0 (lacL L a6 n cp6 r1 r2 l1 l2 d1 d2) := ⟨_, rfl⟩
      have H9 : Hid (LnPB W9 w.heap.size hi n f L a6 cp6 r1 r2 l1 l2 d1 d2 ∧ Below w.heap.size w W9 ∧ Blk W9 (B + 1 + 1) 32 (lac L a6 n cp6 r1 r2 l1 l2 d1 d2) ∧ TopL W9 hi W9.heap.size 43 8 (.slice (some ⟨w3.heap.size, 0, none⟩) 0 0) 0 (fun _ => dnE (hrD L kd fl pl nn ws bs)) ∧ w.heap.size ≤ hi ∧ hi ≤ W9.heap.size) := by
        have h3 := (H3.out.1.below ba).set ⟨_, hz9⟩ 0 (lacL L a6 n cp6 r1 r2 l1 l2 d1 d2)
        rw [← hW9] at h3
        exact ⟨h3.1, h3.2.2.2.2.1, by rw [hW9, show lac L a6 n cp6 r1 r2 l1 l2 d1 d2 = wrA lzc 0 (lacL L a6 n cp6 r1 r2 l1 l2 d1 d2) from (lwr0_17 _ _ _ _ _ _ _ _ _ _ _ _ _ _ _ _ _ _ _ _ _ _ _ _ _ _ _ _ _ _ _ _ _ _).symm]; exact Blk.stL _ _ hz9, topL_nil _ _ _ _ _ _ _ _ (by have := h3.2.1.lt; omega), by have := h3.2.2.2.2.2; omega, by have := h3.2.1.lt; omega⟩
      rw [show setL (w3.alloc (.cells #[] 43)) (B + 1 + 1) 0 (lac L a6 n cp6 r1 r2 l1 l2 d1 d2).toList = W9 from hW9.symm]
      have HC1 := HC.out.2.2.2.2.2.2.2
      clear hW9 HC H0 H3 ba hz9
      go_wp2
      refine bodyPost_ret (v := .tuple #[.agg (lac L a6 n cp6 r1 r2 l1 l2 d1 d2), .slice (some ⟨w3.heap.size, 0, none⟩) 0 0]) (results_cell1 Tryz.results26 rfl rfl (run_loadVar_mid _ _ _ 32 (lacL L a6 n cp6 r1 r2 l1 l2 d1 d2) _ H9.out.2.2.1.all Tryz.underlying32 rfl (by kernel_rfl))) rfl ?_
      exact ⟨a6, cp6, r1, r2, d1, d2, hi, _, 0, by rw [HC1.1, HC1.2]; rfl, H9.out.2.2.2.2.1, H9.out.2.2.2.2.2, by rw [HC1.1, HC1.2] at H9; exact H9.out.1, H9.out.2.2.2.1, H9.out.2.1⟩
    | true =>
      cases xn with
      | false =>
        have hxn' : (L.nu != nu) = true := by show (!(L.nu == nu)) = true; rw [hxn]; rfl
        clear hxn
        go_upto_region 3 with fail
        try go_simp
        refine wp_region_lit ?_
        refine wpList_load_mid rfl 32 (.tmp 10) rfl hi 0 rfl (lacL L a6 n cp6 r1 r2 l1 l2 d1 d2) _ H3.out.1.2.1.all Tryz.underlying32 rfl (by kernel_rfl) ?_
        refine wpList_bs rfl 39 0 #[] rfl #[] (by simp) (.slice (some ⟨w3.heap.size, 0, none⟩) 0 0) (run_bs0D w3) ?_
        have ba := bel_alloc w3 (.cells #[] 43)
        have hz9 := H3.out.2.below ba
        refine wpList_store_mid rfl 32 (.tmp 8) (.tmp 42) rfl (B + 1 + 1) 0 (lac L a6 n cp6 r1 r2 l1 l2 d1 d2) rfl rfl (hz9.there 0 17 (by simp)) (by kernel_rfl) (by simp [Value.oneCell']) ?_
        rw [setCells_L]
        obtain ⟨W9, hW9⟩ : ∃ W9, W9 = setL (w3.alloc (.cells #[] 43)) (B + 1 + 1) 0 (lacL L a6 n cp6 r1 r2 l1 l2 d1 d2) := ⟨_, rfl⟩
        have H9 : Hid (LnPB W9 w.heap.size hi n f L a6 cp6 r1 r2 l1 l2 d1 d2 ∧ Below w.heap.size w W9 ∧ Blk W9 (B + 1 + 1) 32 (lac L a6 n cp6 r1 r2 l1 l2 d1 d2) ∧ TopL W9 hi W9.heap.size 43 8 (.slice (some ⟨w3.heap.size, 0, none⟩) 0 0) 0 (fun _ => dnE (hrD L kd fl pl nn ws bs)) ∧ w.heap.size ≤ hi ∧ hi ≤ W9.heap.size) := by
          have h3 := (H3.out.1.below ba).set ⟨_, hz9⟩ 0 (lacL L a6 n cp6 r1 r2 l1 l2 d1 d2)
          rw [← hW9] at h3
          exact ⟨h3.1, h3.2.2.2.2.1, by rw [hW9, show lac L a6 n cp6 r1 r2 l1 l2 d1 d2 = wrA lzc 0 (lacL L a6 n cp6 r1 r2 l1 l2 d1 d2) from (lwr0_17 _ _ _ _ _ _ _ _ _ _ _ _ _ _ _ _ _ _ _ _ _ _ _ _ _ _ _ _ _ _ _ _ _ _).symm]; exact Blk.stL _ _ hz9, topL_nil _ _ _ _ _ _ _ _ (by have := h3.2.1.lt; omega), by have := h3.2.2.2.2.2; omega, by have := h3.2.1.lt; omega⟩
        rw [show setL (w3.alloc (.cells #[] 43)) (B + 1 + 1) 0 (lac L a6 n cp6 r1 r2 l1 l2 d1 d2).toList = W9 from hW9.symm]
        have HC1 := HC.out.2.2.2.2.2.2.2
        clear hW9 HC H0 H3 ba hz9
        go_wp2
        refine bodyPost_ret (v := .tuple #[.agg (lac L a6 n cp6 r1 r2 l1 l2 d1 d2), .slice (some ⟨w3.heap.size, 0, none⟩) 0 0]) (results_cell1 Tryz.results26 rfl rfl (run_loadVar_mid _ _ _ 32 (lacL L a6 n cp6 r1 r2 l1 l2 d1 d2) _ H9.out.2.2.1.all Tryz.underlying32 rfl (by kernel_rfl))) rfl ?_
        exact ⟨a6, cp6, r1, r2, d1, d2, hi, _, 0, by rw [HC1.1, HC1.2]; rfl, H9.out.2.2.2.2.1, H9.out.2.2.2.2.2, by rw [HC1.1, HC1.2] at H9; exact H9.out.1, H9.out.2.2.2.1, H9.out.2.1⟩
      | true =>
        have hxn' : (L.nu != nu) = false := by show (!(L.nu == nu)) = false; rw [hxn]; rfl
        clear hxn
        cases xu with
        | false =>
          have hxu' : (L.c.un != un) = true := by show (!(L.c.un == un)) = true; rw [hxu]; rfl
          clear hxu
          go_upto_region 3 with fail
          try go_simp
          refine wp_region_lit ?_
          refine wpList_load_mid rfl 32 (.tmp 10) rfl hi 0 rfl (lacL L a6 n cp6 r1 r2 l1 l2 d1 d2) _ H3.out.1.2.1.all Tryz.underlying32 rfl (by kernel_rfl) ?_
          refine wpList_bs rfl 39 0 #[] rfl #[] (by simp) (.slice (some ⟨w3.heap.size, 0, none⟩) 0 0) (run_bs0D w3) ?_
          have ba := bel_alloc w3 (.cells #[] 43)
          have hz9 := H3.out.2.below ba
          refine wpList_store_mid rfl 32 (.tmp 8) (.tmp 42) rfl (B + 1 + 1) 0 (lac L a6 n cp6 r1 r2 l1 l2 d1 d2) rfl rfl (hz9.there 0 17 (by simp)) (by kernel_rfl) (by simp [Value.oneCell']) ?_
          rw [setCells_L]
          obtain ⟨W9, hW9⟩ : ∃ W9, W9 = setL (w3.alloc (.cells #[] 43)) (B + 1 + 1) 0 (lacL L a6 n cp6 r1 r2 l1 l2 d1 d2) := ⟨_, rfl⟩
          have H9 : Hid (LnPB W9 w.heap.size hi n f L a6 cp6 r1 r2 l1 l2 d1 d2 ∧ Below w.heap.size w W9 ∧ Blk W9 (B + 1 + 1) 32 (lac L a6 n cp6 r1 r2 l1 l2 d1 d2) ∧ TopL W9 hi W9.heap.size 43 8 (.slice (some ⟨w3.heap.size, 0, none⟩) 0 0) 0 (fun _ => dnE (hrD L kd fl pl nn ws bs)) ∧ w.heap.size ≤ hi ∧ hi ≤ W9.heap.size) := by
            have h3 := (H3.out.1.below ba).set ⟨_, hz9⟩ 0 (lacL L a6 n cp6 r1 r2 l1 l2 d1 d2)
            rw [← hW9] at h3
            exact ⟨h3.1, h3.2.2.2.2.1, by rw [hW9, show lac L a6 n cp6 r1 r2 l1 l2 d1 d2 = wrA lzc 0 (lacL L a6 n cp6 r1 r2 l1 l2 d1 d2) from (lwr0_17 _ _ _ _ _ _ _ _ _ _ _ _ _ _ _ _ _ _ _ _ _ _ _ _ _ _ _ _ _ _ _ _ _ _).symm]; exact Blk.stL _ _ hz9, topL_nil _ _ _ _ _ _ _ _ (by have := h3.2.1.lt; omega), by have := h3.2.2.2.2.2; omega, by have := h3.2.1.lt; omega⟩
          rw [show setL (w3.alloc (.cells #[] 43)) (B + 1 + 1) 0 (lac L a6 n cp6 r1 r2 l1 l2 d1 d2).toList = W9 from hW9.symm]
          have HC1 := HC.out.2.2.2.2.2.2.2
          clear hW9 HC H0 H3 ba hz9
          go_wp2
          refine bodyPost_ret (v := .tuple #[.agg (lac L a6 n cp6 r1 r2 l1 l2 d1 d2), .slice (some ⟨w3.heap.size, 0, none⟩) 0 0]) (results_cell1 Tryz.results26 rfl rfl (run_loadVar_mid _ _ _ 32 (lacL L a6 n cp6 r1 r2 l1 l2 d1 d2) _ H9.out.2.2.1.all Tryz.underlying32 rfl (by kernel_rfl))) rfl ?_
          exact ⟨a6, cp6, r1, r2, d1, d2, hi, _, 0, by rw [HC1.1, HC1.2]; rfl, H9.out.2.2.2.2.1, H9.out.2.2.2.2.2, by rw [HC1.1, HC1.2] at H9; exact H9.out.1, H9.out.2.2.2.1, H9.out.2.1⟩
        | true =>
          have hxu' : (L.c.un != un) = false := by show (!(L.c.un == un)) = false; rw [hxu]; rfl
          clear hxu
          obtain ⟨z0, z1, z2, z3, z4, z5⟩ := H3.out.1.2.2.1.six3
          have hrd := H0.out.1.below H3.out.1.2.2.2.2.1
          go_wp2_with fail
          refine (specSuits_q L.c.kd kd fl L.c.pl L.c.n L.c.wa a1 a2 l1 l2 c1 c2 L.c.ws L.c.bs pl nn q1 q2 m1 m2 k1 k2 ws bs _ hrd.1 hrd.2.1 hrd.2.2.2.1 hrd.2.2.2.2 (by rw [← hrd.1]; exact hl1) (by rw [← hrd.2.1]; exact hl2) HC.out.1 HC.out.2.1 (HC.out.2.2.1.below H3.out.1.2.2.2.2.1) (HC.out.2.2.2.1.below H3.out.1.2.2.2.2.1) (by rw [← HC.out.1]; exact hm1) (by rw [← HC.out.2.1]; exact hm2)).mono ?_
          rintro e w5 ⟨rfl, b5⟩
          rw [HC.out.2.2.2.2.2.2.1]
          have H5 : Hid (SH w B hi n cp l1 l2 c1 c2 f L a a1 a2 kd fl pl nn q1 q2 m1 m2 k1 k2 a6 cp6 r1 r2 d1 d2 w5 ∧ Blk w5 (B + 1 + 1) 32 lzc) := ⟨H3.out.1.below b5, H3.out.2.below b5⟩
          clear b5 H3 hrd y0 y1 y2 y3 y4 y5 y6 y7 y8 y9 y10 y11 y12 y13 y14 y15 y16 z0 z1 z2 z3 z4 z5
          cases x2 with
          | false =>
            go_upto_region 3 with fail
            try go_simp
            refine wp_region_lit ?_
            refine wpList_load_mid rfl 32 (.tmp 10) rfl hi 0 rfl (lacL L a6 n cp6 r1 r2 l1 l2 d1 d2) _ H5.out.1.2.1.all Tryz.underlying32 rfl (by kernel_rfl) ?_
            refine wpList_bs rfl 39 0 #[] rfl #[] (by simp) (.slice (some ⟨w5.heap.size, 0, none⟩) 0 0) (run_bs0D w5) ?_
            have ba := bel_alloc w5 (.cells #[] 43)
            have hz9 := H5.out.2.below ba
            refine wpList_store_mid rfl 32 (.tmp 8) (.tmp 42) rfl (B + 1 + 1) 0 (lac L a6 n cp6 r1 r2 l1 l2 d1 d2) rfl rfl (hz9.there 0 17 (by simp)) (by kernel_rfl) (by simp [Value.oneCell']) ?_
            rw [setCells_L]
            obtain ⟨W9, hW9⟩ : ∃ W9, W9 = setL (w5.alloc (.cells #[] 43)) (B + 1 + 1) 0 (lacL L a6 n cp6 r1 r2 l1 l2 d1 d2) := ⟨_, rfl⟩
            have H9 : Hid (LnPB W9 w.heap.size hi n f L a6 cp6 r1 r2 l1 l2 d1 d2 ∧ Below w.heap.size w W9 ∧ Blk W9 (B + 1 + 1) 32 (lac L a6 n cp6 r1 r2 l1 l2 d1 d2) ∧ TopL W9 hi W9.heap.size 43 8 (.slice (some ⟨w5.heap.size, 0, none⟩) 0 0) 0 (fun _ => dnE (hrD L kd fl pl nn ws bs)) ∧ w.heap.size ≤ hi ∧ hi ≤ W9.heap.size) := by
              have h3 := (H5.out.1.below ba).set ⟨_, hz9⟩ 0 (lacL L a6 n cp6 r1 r2 l1 l2 d1 d2)
              rw [← hW9] at h3
              exact ⟨h3.1, h3.2.2.2.2.1, by rw [hW9, show lac L a6 n cp6 r1 r2 l1 l2 d1 d2 = wrA lzc 0 (lacL L a6 n cp6 r1 r2 l1 l2 d1 d2) from (lwr0_17 _ _ _ _ _ _ _ _ _ _ _ _ _ _ _ _ _ _ _ _ _ _ _ _ _ _ _ _ _ _ _ _ _ _).symm]; exact Blk.stL _ _ hz9, topL_nil _ _ _ _ _ _ _ _ (by have := h3.2.1.lt; omega), by have := h3.2.2.2.2.2; omega, by have := h3.2.1.lt; omega⟩
            rw [show setL (w5.alloc (.cells #[] 43)) (B + 1 + 1) 0 (lac L a6 n cp6 r1 r2 l1 l2 d1 d2).toList = W9 from hW9.symm]
            have HC1 := HC.out.2.2.2.2.2.2.2
            clear hW9 HC H0 H5 ba hz9
            go_wp2
            refine bodyPost_ret (v := .tuple #[.agg (lac L a6 n cp6 r1 r2 l1 l2 d1 d2), .slice (some ⟨w5.heap.size, 0, none⟩) 0 0]) (results_cell1 Tryz.results26 rfl rfl (run_loadVar_mid _ _ _ 32 (lacL L a6 n cp6 r1 r2 l1 l2 d1 d2) _ H9.out.2.2.1.all Tryz.underlying32 rfl (by kernel_rfl))) rfl ?_
            exact ⟨a6, cp6, r1, r2, d1, d2, hi, _, 0, by rw [HC1.1, HC1.2]; rfl, H9.out.2.2.2.2.1, H9.out.2.2.2.2.2, by rw [HC1.1, HC1.2] at H9; exact H9.out.1, H9.out.2.2.2.1, H9.out.2.1⟩
          | true =>
            go_upto_region 4 with fail
            try go_simp
            refine wp_region_any (by kernel_rfl) ?_
            refine wpAny_valy (RgS (SH w B hi n cp l1 l2 c1 c2 f L a a1 a2 kd fl pl nn q1 q2 m1 m2 k1 k2 a6 cp6 r1 r2 d1 d2) (B + 1 + 1) 12 32 lzc (lac (freeL L) a6 n cp6 none none 0 0 0 0)) (MgP w.heap.size) (fun i v u => match i with
              | 0 => v = .agg (lac L a6 n cp6 r1 r2 l1 l2 d1 d2)
              | 1 => v = .agg (lac (freeL L) a6 n cp6 none none 0 0 0 0)
              | 2 => v = .pointer (some ⟨B, 2, none⟩)
              | 3 => v = .pointer (some ⟨B, 2, none⟩)
              | 4 => v = .int .i64 L.c.id
              | 5 => v = .pointer (some ⟨B, 2, none⟩)
              | 6 => v = .pointer (some ⟨B, 3, none⟩)
              | 7 => v = .int .i64 L.c.pa
              | 8 => v = .agg (rpL kd fl pl nn q1 q2 m1 m2 k1 k2)
              | 9 => ∃ u1 u2 t1 t2, v = .agg (rpL kd fl pl nn u1 u2 m1 m2 t1 t2) ∧ OwnI u hi (.slice u1 m1 t1) ws ∧ OwnB u hi (.slice u2 m2 t2) bs
              | 10 => ∃ u1 u2 t1 t2, v = .agg (dnd (hrD L kd fl pl nn ws bs) u1 u2 m1 m2 t1 t2) ∧ OwnI u hi (.slice u1 m1 t1) ws ∧ OwnB u hi (.slice u2 m2 t2) bs
              | 11 => ∃ g, v = .slice (some ⟨g, 0, none⟩) 1 1 ∧ TopL u hi u.heap.size 43 8 v 1 (fun _ => dnE (hrD L kd fl pl nn ws bs))
              | 13 => ∃ g, v = .slice (some ⟨g, 0, none⟩) 1 1 ∧ TopL u hi u.heap.size 43 8 v 1 (fun _ => dnE (hrD L kd fl pl nn ws bs))
              | _ => True) (by kernel_rfl) (by kernel_rfl) ?_ (fun u => .inl (Below.refl _ _)) ⟨by first | exact H5.out.1 | exact H5.out.1.below ((Below.refl _ _).drew), (fun _ => by first | exact H5.out.2 | exact H5.out.2.below ((Below.refl _ _).drew)), (fun h => by cases h)⟩ ?_ ?_ _ _ rfl (by decide) (fun i => by simp [Array.getD]; try (split <;> rfl))
            · intro i v u u' h hm
              match i with
              | 9 =>
                obtain ⟨u1, u2, t1, t2, e, h1, h2⟩ := h
                exact ⟨u1, u2, t1, t2, e, hm.i h1, hm.b h2⟩
              | 10 =>
                obtain ⟨u1, u2, t1, t2, e, h1, h2⟩ := h
                exact ⟨u1, u2, t1, t2, e, hm.i h1, hm.b h2⟩
              | 11 =>
                obtain ⟨g, e, h1⟩ := h
                exact ⟨g, e, hm.top h1⟩
              | 13 =>
                obtain ⟨g, e, h1⟩ := h
                exact ⟨g, e, hm.top h1⟩
              | 0 | 1 | 2 | 3 | 4 | 5 | 6 | 7 | 8 => exact h
              | 12 => trivial
              | _ + 14 => trivial
            rotate_left
            · intro u i o ρ l hR ho hli hcl hρ hc hf hdep hv
              have hi' : i < 14 := by
                have := (Array.getElem?_eq_some_iff.1 ho).1
                simpa using this
              obtain rfl | rfl | rfl | rfl | rfl | rfl | rfl | rfl | rfl | rfl | rfl | rfl | rfl | rfl : i = 0 ∨ i = 1 ∨ i = 2 ∨ i = 3 ∨ i = 4 ∨ i = 5 ∨ i = 6 ∨ i = 7 ∨ i = 8 ∨ i = 9 ∨ i = 10 ∨ i = 11 ∨ i = 12 ∨ i = 13 := by omega
              all_goals (simp only [List.getElem?_toArray, List.getElem?_cons_zero, List.getElem?_cons_succ, Option.some.injEq] at ho; subst ho)
              · have s10 : ρ (.tmp 10) = .pointer (some ⟨hi, 0, none⟩) := (hρ 10 (by kernel_rfl)).trans rfl
                exact .inl ⟨rfl, .inl ⟨_, u, run_load_op rfl s10 (run_loadAt_mid u hi 0 32 (lacL L a6 n cp6 r1 r2 l1 l2 d1 d2) _ hR.1.2.1.all Tryz.underlying32 rfl (by kernel_rfl)), rfl, (hR.next (by decide) hR.1 (Below.refl _ _)), .inl (Below.refl _ _)⟩⟩
              · have h0 : ρ (.tmp 44) = .agg (lac L a6 n cp6 r1 r2 l1 l2 d1 d2) := hv 0 44 rfl (hdep ⟨0, .data⟩ (by simp) rfl)
                refine .inl ⟨rfl, .inr (.inl ⟨_, _, run_call_op rfl (hf _) (args := #[.agg (lac L a6 n cp6 r1 r2 l1 l2 d1 d2)]) (by simp [h0]) (by kernel_rfl), ?_⟩)⟩
                refine (l12Free_any L a6 r1 r2 n cp6 l1 l2 d1 d2 _).mono ?_
                rintro e u' ⟨he, b'⟩
                exact ⟨_, he, rfl, hR.next (by decide) (hR.1.below b') b', .inl b'⟩
              · have s4 : ρ (.tmp 4) = .pointer (some ⟨B, 0, none⟩) := (hρ 4 (by kernel_rfl)).trans rfl
                exact .inl ⟨rfl, .inl ⟨.pointer (some ⟨B, 2, none⟩), u, run_field_op rfl s4 (by go_simp), rfl, (hR.next (by decide) hR.1 (Below.refl _ _)), .inl (Below.refl _ _)⟩⟩
              · have h2 : ρ (.tmp 46) = .pointer (some ⟨B, 2, none⟩) := hv 2 46 rfl (hdep ⟨2, .data⟩ (by simp) rfl)
                exact .inl ⟨rfl, .inl ⟨.pointer (some ⟨B, 2, none⟩), u, run_field_op rfl h2 (by go_simp), rfl, (hR.next (by decide) hR.1 (Below.refl _ _)), .inl (Below.refl _ _)⟩⟩
              · have h3 : ρ (.tmp 47) = .pointer (some ⟨B, 2, none⟩) := hv 3 47 rfl (hdep ⟨3, .data⟩ (by simp) rfl)
                obtain ⟨⟨y0, y1, y2, y3, y4, y5, y6, y7, y8, y9, y10, y11, y12, y13, y14, y15, y16⟩, _⟩ := hR.1.2.2.2.1.svn
                have hr : (Instr.loadAt 3 (.pointer (some ⟨B, 2, none⟩))).run Tryz.prog u = .ok (.int .i64 L.c.id) u := by go_simp
                exact .inl ⟨rfl, .inl ⟨_, u, run_load_op rfl h3 hr, rfl, (hR.next (by decide) hR.1 (Below.refl _ _)), .inl (Below.refl _ _)⟩⟩
              · have s4 : ρ (.tmp 4) = .pointer (some ⟨B, 0, none⟩) := (hρ 4 (by kernel_rfl)).trans rfl
                exact .inl ⟨rfl, .inl ⟨.pointer (some ⟨B, 2, none⟩), u, run_field_op rfl s4 (by go_simp), rfl, (hR.next (by decide) hR.1 (Below.refl _ _)), .inl (Below.refl _ _)⟩⟩
              · have h5 : ρ (.tmp 49) = .pointer (some ⟨B, 2, none⟩) := hv 5 49 rfl (hdep ⟨5, .data⟩ (by simp) rfl)
                exact .inl ⟨rfl, .inl ⟨.pointer (some ⟨B, 3, none⟩), u, run_field_op rfl h5 (by go_simp), rfl, (hR.next (by decide) hR.1 (Below.refl _ _)), .inl (Below.refl _ _)⟩⟩
              · have h6 : ρ (.tmp 50) = .pointer (some ⟨B, 3, none⟩) := hv 6 50 rfl (hdep ⟨6, .data⟩ (by simp) rfl)
                obtain ⟨⟨y0, y1, y2, y3, y4, y5, y6, y7, y8, y9, y10, y11, y12, y13, y14, y15, y16⟩, _⟩ := hR.1.2.2.2.1.svn
                have hr : (Instr.loadAt 3 (.pointer (some ⟨B, 3, none⟩))).run Tryz.prog u = .ok (.int .i64 L.c.pa) u := by go_simp
                exact .inl ⟨rfl, .inl ⟨_, u, run_load_op rfl h6 hr, rfl, (hR.next (by decide) hR.1 (Below.refl _ _)), .inl (Below.refl _ _)⟩⟩
              · have s7 : ρ (.tmp 7) = .pointer (some ⟨B + 1, 0, none⟩) := (hρ 7 (by kernel_rfl)).trans rfl
                exact .inl ⟨rfl, .inl ⟨_, u, run_load_op rfl s7 (run_loadAt_mid u (B + 1) 0 37 (rpLL kd fl pl nn q1 q2 m1 m2 k1 k2) _ hR.1.2.2.1.all Tryz.underlying37 rfl (by kernel_rfl)), rfl, (hR.next (by decide) hR.1 (Below.refl _ _)), .inl (Below.refl _ _)⟩⟩
              · have h8 : ρ (.tmp 52) = .agg (rpL kd fl pl nn q1 q2 m1 m2 k1 k2) := hv 8 52 rfl (hdep ⟨8, .data⟩ (by simp) rfl)
                refine .inl ⟨rfl, .inr (.inl ⟨_, _, run_call_op rfl (hf _) (args := #[.agg (rpL kd fl pl nn q1 q2 m1 m2 k1 k2)]) (by simp [h8]) (by kernel_rfl), ?_⟩)⟩
                refine (specCopyResp_any kd fl pl nn q1 q2 m1 m2 k1 k2 ws bs _ HC.out.1 HC.out.2.1 (HC.out.2.2.1.below hR.1.2.2.2.2.1) (HC.out.2.2.2.1.below hR.1.2.2.2.2.1) hm1 hm2).mono ?_
                rintro e u' ⟨u1, u2, t1, t2, he, i1, i2, b'⟩
                exact ⟨_, he, ⟨u1, u2, t1, t2, rfl, OwnI.mono (show OwnI _ _ _ _ from i1) (by have := hR.1.2.1.lt; omega), OwnB.mono (show OwnB _ _ _ _ from i2) (by have := hR.1.2.1.lt; omega)⟩, hR.next (by decide) (hR.1.below b') b', .inl b'⟩
              · have h4 : ρ (.tmp 48) = .int .i64 L.c.id := hv 4 48 rfl (hdep ⟨4, .data⟩ (by simp) rfl)
                have h7 : ρ (.tmp 51) = .int .i64 L.c.pa := hv 7 51 rfl (hdep ⟨7, .data⟩ (by simp) rfl)
                obtain ⟨u1, u2, t1, t2, h9, j1, j2⟩ : ∃ u1 u2 t1 t2, ρ (.tmp 53) = .agg (rpL kd fl pl nn u1 u2 m1 m2 t1 t2) ∧ OwnI u hi (.slice u1 m1 t1) ws ∧ OwnB u hi (.slice u2 m2 t2) bs := hv 9 53 rfl (hdep ⟨9, .data⟩ (by simp) rfl)
                exact .inl ⟨rfl, .inl ⟨.agg (dnd (hrD L kd fl pl nn ws bs) u1 u2 m1 m2 t1 t2), u, run_bld_op rfl (qs := #[(0, .int .i64 L.c.id), (1, .int .i64 L.c.pa), (2, .agg (rpL kd fl pl nn u1 u2 m1 m2 t1 t2))]) (by simp only [List.map_toArray, List.map_cons, List.map_nil, h4, h7, h9]) (by kernel_rfl), ⟨u1, u2, t1, t2, rfl, j1, j2⟩, (hR.next (by decide) hR.1 (Below.refl _ _)), .inl (Below.refl _ _)⟩⟩
              · obtain ⟨u1, u2, t1, t2, h10, j1, j2⟩ : ∃ u1 u2 t1 t2, ρ (.tmp 54) = .agg (dnd (hrD L kd fl pl nn ws bs) u1 u2 m1 m2 t1 t2) ∧ OwnI u hi (.slice u1 m1 t1) ws ∧ OwnB u hi (.slice u2 m2 t2) bs := hv 10 54 rfl (hdep ⟨10, .data⟩ (by simp) rfl)
                have ba := bel_alloc u (.cells (dnd (hrD L kd fl pl nn ws bs) u1 u2 m1 m2 t1 t2) 43)
                exact .inl ⟨rfl, .inl ⟨_, _, run_bs_op rfl (qs := #[(0, .agg (dnd (hrD L kd fl pl nn ws bs) u1 u2 m1 m2 t1 t2))]) (by simp only [List.map_toArray, List.map_cons, List.map_nil, h10]) (run_bsD _ _ _ _ _ _ _ u), ⟨_, rfl, topD HC.out.1 HC.out.2.1 j1 j2 (by have := hR.1.2.1.lt; omega)⟩, hR.next (by decide) (hR.1.below ba) ba, .inl ba⟩⟩
              · have h1 : ρ (.tmp 45) = .agg (lac (freeL L) a6 n cp6 none none 0 0 0 0) := hv 1 45 rfl (hdep ⟨1, .data⟩ (by simp) rfl)
                have s8 : ρ (.tmp 8) = .pointer (some ⟨B + 1 + 1, 0, none⟩) := (hρ 8 (by kernel_rfl)).trans rfl
                have hz := hR.2.1 hli
                have hr : (Instr.storeAt 32 (.pointer (some ⟨B + 1 + 1, 0, none⟩)) (.agg (lac (freeL L) a6 n cp6 none none 0 0 0 0))).run Tryz.prog u = .ok () (setL u (B + 1 + 1) 0 (lacL (freeL L) a6 n cp6 none none 0 0 0 0)) := by
                  rw [run_storeAt_mid u (B + 1 + 1) 0 32 (lac (freeL L) a6 n cp6 none none 0 0 0 0) (hz.there 0 17 (by simp)) (by kernel_rfl) (by simp [Value.oneCell']), setCells_L]
                refine .inl ⟨rfl, .inr (.inr ⟨rfl, _, run_store_op rfl s8 h1 hr, ⟨hR.1.set ⟨_, hz⟩ _ _, (fun h => by have h9 : updB l 12 12 = true := rfl; rw [h9] at h; cases h), fun _ => ?_⟩, .inr ⟨B + 1 + 1, setL_gw _ _ _, ⟨_, hz⟩, by have := hR.1.2.2.2.2.2; omega⟩⟩)⟩
                rw [show lac (freeL L) a6 n cp6 none none 0 0 0 0 = wrA lzc 0 (lacL (freeL L) a6 n cp6 none none 0 0 0 0) from (lwr0_17 _ _ _ _ _ _ _ _ _ _ _ _ _ _ _ _ _ _ _ _ _ _ _ _ _ _ _ _ _ _ _ _ _ _).symm]; exact Blk.stL _ _ hz
              · obtain ⟨g, h11, T11⟩ : ∃ g, ρ (.tmp 55) = .slice (some ⟨g, 0, none⟩) 1 1 ∧ TopL u hi u.heap.size 43 8 (ρ (.tmp 55)) 1 (fun _ => dnE (hrD L kd fl pl nn ws bs)) := hv 11 55 rfl (hdep ⟨11, .data⟩ (by simp) rfl)
                exact .inl ⟨rfl, .inl ⟨_, u, rfl, ⟨g, h11, T11⟩, (hR.next (by decide) hR.1 (Below.refl _ _)), .inl (Below.refl _ _)⟩⟩
            intro vs σ u hR hσ hall
            obtain ⟨g, e9, T9⟩ := hall 13 9 rfl
            have H9 : Hid (LnPB u w.heap.size hi n f (freeL L) a6 cp6 none none 0 0 0 0 ∧ Below w.heap.size w u ∧ Blk u (B + 1 + 1) 32 (lac (freeL L) a6 n cp6 none none 0 0 0 0) ∧ TopL u hi u.heap.size 43 8 (.slice (some ⟨g, 0, none⟩) 1 1) 1 (fun _ => dnE (hrD L kd fl pl nn ws bs)) ∧ w.heap.size ≤ hi ∧ hi ≤ u.heap.size) := ⟨hR.1.1.free, hR.1.2.2.2.2.1, hR.2.2 rfl, by rw [← e9]; exact T9, by have := hR.1.2.2.2.2.2; omega, by have := hR.1.2.1.lt; omega⟩
            simp only [putsL]
            rw [e9]
            clear hall hσ T9 e9 hR HC H0 H5
            try go_simp
            go_wp2
            try go_simp
            refine bodyPost_ret (v := .tuple #[.agg (lac (freeL L) a6 n cp6 none none 0 0 0 0), .slice (some ⟨g, 0, none⟩) 1 1]) (results_cell1 Tryz.results26 rfl rfl (run_loadVar_mid _ _ _ 32 (lacL (freeL L) a6 n cp6 none none 0 0 0 0) _ H9.out.2.2.1.all Tryz.underlying32 rfl (by kernel_rfl))) rfl ?_
            exact ⟨a6, cp6, none, none, 0, 0, hi, _, 1, rfl, H9.out.2.2.2.2.1, H9.out.2.2.2.2.2, H9.out.1, H9.out.2.2.2.1, H9.out.2.1⟩
end Go.Proofs.YtmhdneenjoelfaaGreat
namespace Go.Proofs.YtmhdneenjoelfaaGreat
open Go.RowKit Go.Joins
set_option linter.unusedVariables false
set_option linter.unusedSimpArgs false
set_option maxRecDepth 20000 in
set_option maxHeartbeats 2000000 in
theorem markRespL (kd fl pl nn : Int) (g1 g2 : Option Addr) (l1 l2 c1 c2 b s : Nat) (ws : List Int) (bs : List Bool) (w : World) (o1 : OwnI w b (.slice g1 l1 c1) ws) (o2 : OwnB w b (.slice g2 l2 c2) bs) (hb : b ≤ w.heap.size) (hl1 : l1 ≤ 1048600) (hl2 : l2 ≤ 1048600) (hs : s + l1 ≤ 9000000) :
    Calls Tryz.prog 29 #[.agg #[.int .i64 kd, .int .i64 fl, .int .i64 pl, .int .i64 nn, .slice g1 l1 c1, .slice g2 l2 c2], .int .i64 (s : Int)] w fun e w' => e = .returned (.int .i64 ((s + l1 + l2 : Nat) : Int)) ∧ MkR w w' b s g1 g2 l1 l2 c1 c2 := by
  obtain ⟨B, hB⟩ : ∃ B, B = w.heap.size := ⟨_, rfl⟩
  obtain ⟨W, hW⟩ : ∃ W, W = w.alloc (.cells #[.int .i64 kd, .int .i64 fl, .int .i64 pl, .int .i64 nn, .slice g1 l1 c1, .slice g2 l2 c2] 37) := ⟨_, rfl⟩
  have bW : Below w.heap.size w W := by rw [hW]; exact bel_alloc _ _
  have HW : Hid (Below w.heap.size w W ∧ Blk W B 37 #[.int .i64 kd, .int .i64 fl, .int .i64 pl, .int .i64 nn, .slice g1 l1 c1, .slice g2 l2 c2] ∧ OwnI W b (.slice g1 l1 c1) ws ∧ OwnB W b (.slice g2 l2 c2) bs ∧ b ≤ w.heap.size) := ⟨bW, by rw [hW, hB]; exact Blk.new w _ _, o1.below bW, o2.below bW, hb⟩
  clear bW o1 o2 hb
  go_enter Tryz.func29, Tryz.ntmps29
  go_upto_region 1 with fail
  rw [← hW, ← hB]
  clear hW hB
  obtain ⟨y0, y1, y2, y3, y4, y5⟩ := HW.out.2.1.six3
  go_wp2_with fail
  refine (markIntS_from g1 l1 c1 b s ws _ HW.out.2.2.1 (by omega) (by omega)).mono ?_
  rintro e u1 ⟨rfl, m1, gg1⟩
  obtain ⟨x1, hx1⟩ : ∃ x1 : Nat, (x1 : Int) = (s : Int) + (l1 : Int) := ⟨s + l1, by omega⟩
  rw [← hx1]
  have HU : Hid (W.grownBy u1 (Value.slice g1 l1 c1).ownBlock ∧ OwnB u1 b (.slice g2 l2 c2) bs ∧ Blk u1 B 37 #[.int .i64 kd, .int .i64 fl, .int .i64 pl, .int .i64 nn, .slice g1 l1 c1, .slice g2 l2 c2] ∧ x1 = s + l1 ∧ OwnI u1 b (.slice g1 l1 c1) (marksI s l1)) := ⟨gg1, HW.out.2.2.2.1.kept gg1 (ne_typesE HW.out.2.2.2.1 HW.out.2.2.1 (by decide)), HW.out.2.1.grown gg1 (row_noBlk HW.out.2.2.1 HW.out.2.1 (by decide)), by omega, m1⟩
  clear m1 gg1 y0 y1 y2 y3 y4 y5 hx1
  obtain ⟨y0, y1, y2, y3, y4, y5⟩ := HU.out.2.2.1.six3
  go_wp2_with fail
  refine (markBoolS_from g2 l2 c2 b x1 bs _ HU.out.2.1 (by omega) (by have := HU.out; omega)).mono ?_
  rintro e u2 ⟨rfl, m2, gg2⟩
  obtain ⟨x2, hx2⟩ : ∃ x2 : Nat, (x2 : Int) = (x1 : Int) + (l2 : Int) := ⟨x1 + l2, by omega⟩
  rw [← hx2]
  have HV : Hid (x2 = s + l1 + l2 ∧ MkR w u2 b s g1 g2 l1 l2 c1 c2) := by
    have hx := HU.out.2.2.2.1
    refine ⟨by omega, HU.out.2.2.2.2.kept gg2 (ne_typesE HU.out.2.2.2.2 HU.out.2.1 (by decide)), by rw [← hx]; exact m2, ⟨Nat.le_trans HW.out.1.size (Nat.le_trans HU.out.1.size gg2.size), fun k hk h1 h2 => ?_⟩, ?_⟩
    · have q1 := Nat.lt_of_lt_of_le hk HW.out.1.size
      rw [gg2.block k (Nat.lt_of_lt_of_le q1 HU.out.1.size) (fun e => h2 e.symm), HU.out.1.block k q1 (fun e => h1 e.symm), HW.out.1.block k hk]
    · exact ((HW.out.1.mono HW.out.2.2.2.2).grown HU.out.1 (Nat.le_trans HW.out.2.2.2.2 HW.out.1.size) (fun k hk => (World.ownsRow.lt HW.out.2.2.1 k hk).1)).grown gg2 (Nat.le_trans HW.out.2.2.2.2 (Nat.le_trans HW.out.1.size HU.out.1.size)) (fun k hk => (World.ownsRow.lt HU.out.2.1 k hk).1)
  clear m2 gg2 y0 y1 y2 y3 y4 y5 hx2
  go_wp2
  go_ret
  exact ⟨by rw [← HV.out.1]; rfl, HV.out.2⟩
set_option maxRecDepth 20000 in
set_option maxHeartbeats 4000000 in
theorem markLine_pb (L : La) (a a1 a2 : Option Addr) (n cp l1 l2 c1 c2 base s : Nat) (f : Nat → Ca) (hi : Nat) (w : World) (h : LnPB w base hi n f L a cp a1 a2 l1 l2 c1 c2) (hb : base ≤ w.heap.size) (hs : s ≤ 100) (hG : SmL n f l1 l2) :
    Calls Tryz.prog 19 #[.agg (lac L a n cp a1 a2 l1 l2 c1 c2), .int .i64 (s : Int)] w fun e w' => e = .returned (.int .i64 ((msCa s f n + l1 + l2 : Nat) : Int)) ∧ LnPB w' base hi n (fun k => mkCa (msCa s f k) (f k)) (mkL (msCa s f n) L) a cp a1 a2 l1 l2 c1 c2 ∧ Below base w w' ∧ Keep hi w w' := by
  obtain ⟨hl1, hl2, F, β, h3, h4, h5, h6, h7, h8, z1, z2, z3, z4⟩ := h
  have HZ : Hid ((∀ k, 0 < n → (Value.slice a n cp).ownBlock = some k → k < hi) ∧ (∀ k j, j < n → Ob (F j) k → k < hi) ∧ (∀ k, (Value.slice a1 l1 c1).ownBlock = some k → k < hi) ∧ (∀ k, (Value.slice a2 l2 c2).ownBlock = some k → k < hi)) := ⟨z1, z2, z3, z4⟩
  clear z1 z2 z3 z4
  obtain ⟨B, hB⟩ : ∃ B, B = w.heap.size := ⟨_, rfl⟩
  obtain ⟨W, hW⟩ : ∃ W, W = w.alloc (.cells (lac L a n cp a1 a2 l1 l2 c1 c2) 32) := ⟨_, rfl⟩
  have bW : Below w.heap.size w W := by rw [hW]; exact bel_alloc _ _
  have A0 : Blk W B 32 (lac L a n cp a1 a2 l1 l2 c1 c2) := by rw [hW, hB]; exact Blk.new _ _ _
  have H0 : Hid (OwnO W base 30 9 (.slice a n cp) n F ∧ InE W base β F (fun k => caE (f k)) n ∧ OwnI W base (.slice a1 l1 c1) L.c.ws ∧ OwnB W base (.slice a2 l2 c2) L.c.bs ∧ Blk W B 32 (lac L a n cp a1 a2 l1 l2 c1 c2) ∧ Below w.heap.size w W ∧ (∀ j, j < n → ¬ Ob (F j) B) ∧ base ≤ w.heap.size ∧ SmL n f l1 l2) := ⟨h3.below bW, h4.below bW, h5.below bW, h6.below bW, A0, bW, fun j hj ho => by have := (h4.ob hj ho).2.2; omega, hb, hG⟩
  have HD : Hid (l1 = L.c.ws.length ∧ l2 = L.c.bs.length ∧ (∀ k, (Value.slice a1 l1 c1).ownBlock = some k → ∀ j, j < n → ¬ Ob (F j) k) ∧ (∀ k, (Value.slice a2 l2 c2).ownBlock = some k → ∀ j, j < n → ¬ Ob (F j) k)) := ⟨hl1, hl2, h7, h8⟩
  clear hl1 hl2 h3 h4 h5 h6 h7 h8 bW hG hb
  obtain ⟨⟨x0, x1, x2, x3, x4, x5, x6, x7, x8, x9, x10, x11, x12, x13, x14, x15, x16⟩, xf⟩ := A0.svn
  clear A0 xf
  go_enter Tryz.func19, Tryz.ntmps19
  go_upto_region 1 with fail
  rw [← hW, ← hB]
  clear hW hB
  go_wp2_with fail
  refine (markCallS_L a n cp base s f F β _ H0.out.1 H0.out.2.1 hs H0.out.2.2.2.2.2.2.2.2.ca).mono ?_
  rintro e w1 ⟨rfl, ⟨F', q1, q2, q5⟩, q3, q4⟩
  obtain ⟨x, hx⟩ : ∃ x : Nat, x = msCa s f n := ⟨_, rfl⟩
  rw [← hx]
  have H1 : Hid (OwnO w1 base 30 9 (.slice a n cp) n F' ∧ InE w1 base β F' (fun k => caE (mkCa (msCa s f k) (f k))) n ∧ OwnI w1 base (.slice a1 l1 c1) L.c.ws ∧ OwnB w1 base (.slice a2 l2 c2) L.c.bs ∧ Blk w1 B 32 (lac L a n cp a1 a2 l1 l2 c1 c2) ∧ Below base w w1 ∧ x = msCa s f n ∧ base ≤ w1.heap.size ∧ (∀ j, j < n → ∀ k, Ob (F' j) k ↔ Ob (F j) k) ∧ Keep hi w w1) := by
    have f0 := H0.out
    have hBl := f0.2.2.2.2.1.lt
    refine ⟨q1, q2, row_same f0.2.2.1 (fun g hg => ?_), row_same f0.2.2.2.1 (fun g hg => ?_), ?_, (f0.2.2.2.2.2.1.mono f0.2.2.2.2.2.2.2.1).trans q3, hx, Nat.le_trans f0.2.2.2.2.2.2.2.1 (Nat.le_trans f0.2.2.2.2.2.1.size q4.1), q5, Nat.le_trans f0.2.2.2.2.2.1.size q4.1, fun k hk hl => ?_⟩
    · exact q4.2 g (World.ownsRow.lt f0.2.2.1 g hg).2 (fun hq => row_noEx f0.2.2.1 hg (by decide) (f0.1.blk hq.1 hq.2).1) (by rintro ⟨j, hj, ho⟩; exact HD.out.2.2.1 g hg j hj ho)
    · exact q4.2 g (World.ownsRow.lt f0.2.2.2.1 g hg).2 (fun hq => row_noEx f0.2.2.2.1 hg (by decide) (f0.1.blk hq.1 hq.2).1) (by rintro ⟨j, hj, ho⟩; exact HD.out.2.2.2 g hg j hj ho)
    · unfold Blk
      rw [q4.2 B hBl (fun hq => Blk.noEx f0.2.2.2.2.1 (by decide) (f0.1.blk hq.1 hq.2).1) (by rintro ⟨j, hj, ho⟩; exact f0.2.2.2.2.2.2.1 j hj ho)]
      exact f0.2.2.2.2.1
    · rw [q4.2 k (Nat.lt_of_lt_of_le hl f0.2.2.2.2.2.1.size) (fun hq => by have := HZ.out.1 k hq.1 hq.2; omega) (by rintro ⟨j, hj, ho⟩; have := HZ.out.2.1 k j hj ho; omega)]
      exact f0.2.2.2.2.2.1.block k hl
  clear q1 q2 q3 q4 q5 hx x0 x1 x2 x3 x4 x5 x6 x7 x8 x9 x10 x11 x12 x13 x14 x15 x16
  obtain ⟨⟨x0, x1, x2, x3, x4, x5, x6, x7, x8, x9, x10, x11, x12, x13, x14, x15, x16⟩, xf⟩ := H1.out.2.2.2.2.1.svn
  clear xf
  go_wp2_with fail
  refine (markCallL L.c a1 a2 l1 l2 c1 c2 base x L.c.ws L.c.bs _ H1.out.2.2.1 H1.out.2.2.2.1 H1.out.2.2.2.2.2.2.2.1 (H0.out.2.2.2.2.2.2.2.2.ms).1 (H0.out.2.2.2.2.2.2.2.2.ms).2.1 (by have := H1.out.2.2.2.2.2.2.1; rw [this]; exact (H0.out.2.2.2.2.2.2.2.2.ms).2.2 s hs)).mono ?_
  rintro e w2 ⟨rfl, m⟩
  obtain ⟨y, hy⟩ : ∃ y : Nat, y = x + l1 + l2 := ⟨_, rfl⟩
  rw [← hy]
  have H2 : Hid (y = msCa s f n + l1 + l2 ∧ LnPB w2 base hi n (fun k => mkCa (msCa s f k) (f k)) (mkL (msCa s f n) L) a cp a1 a2 l1 l2 c1 c2 ∧ Below base w w2 ∧ Keep hi w w2) := by
    have f1 := H1.out
    have d := HD.out
    obtain ⟨m1, m2, m3, m4⟩ := m
    have hxx := f1.2.2.2.2.2.2.1
    refine ⟨by omega, ⟨by simp [mkL, marksI_length]; exact d.1, by simp [mkL, marksB_length]; exact d.2.1, F', β, ?_, ?_, ?_, ?_, fun k hk j hj ho => d.2.2.1 k hk j hj ((f1.2.2.2.2.2.2.2.2.1 j hj k).1 ho), fun k hk j hj ho => d.2.2.2 k hk j hj ((f1.2.2.2.2.2.2.2.2.1 j hj k).1 ho), HZ.out.1, fun k j hj ho => HZ.out.2.1 k j hj ((f1.2.2.2.2.2.2.2.2.1 j hj k).1 ho), HZ.out.2.2.1, HZ.out.2.2.2⟩, f1.2.2.2.2.2.1.trans m4, f1.2.2.2.2.2.2.2.2.2.trans ⟨m3.1, fun k hk hl => m3.2 k hl (fun e9 => by have := HZ.out.2.2.1 k e9; omega) (fun e9 => by have := HZ.out.2.2.2 k e9; omega)⟩⟩
    · rcases f1.1 with q | ⟨g, o, c', hv, hbg, hR⟩
      · exact .inl q
      · refine .inr ⟨g, o, c', hv, hbg, ?_⟩
        obtain ⟨cs, r1, r2⟩ := hR
        refine ⟨cs, ?_, r2⟩
        rw [m3.2 g (Array.getElem?_eq_some_iff.1 r1).1 (row_noBlk f1.2.2.1 (show Blk w1 g 30 cs from r1) (by decide)) (row_noBlk f1.2.2.2.1 (show Blk w1 g 30 cs from r1) (by decide))]
        exact r1
    · obtain ⟨i0, i1, i2⟩ := f1.2.1
      refine ⟨i0, i1, fun k hk => ?_⟩
      obtain ⟨b1, b2, k1, k2, e, o1, o2, t1, t2⟩ := i2 k hk
      have hob : ∀ g, (Value.slice b1 (caE (mkCa (msCa s f k) (f k))).ws.length k1).ownBlock = some g ∨ (Value.slice b2 (caE (mkCa (msCa s f k) (f k))).bs.length k2).ownBlock = some g → Ob (F k) g := fun g hg => (f1.2.2.2.2.2.2.2.2.1 k hk g).1 (by rw [e]; exact (Ob_els (by simp [caE, Value.ownBlock]) (by simp [caE, Value.ownBlock])).2 hg)
      refine ⟨b1, b2, k1, k2, e, row_same o1 (fun g hg => ?_), row_same o2 (fun g hg => ?_), t1, t2⟩
      · exact m3.2 g (World.ownsRow.lt o1 g hg).2 (fun e9 => d.2.2.1 g e9 k hk (hob g (.inl hg))) (fun e9 => d.2.2.2 g e9 k hk (hob g (.inl hg)))
      · exact m3.2 g (World.ownsRow.lt o2 g hg).2 (fun e9 => d.2.2.1 g e9 k hk (hob g (.inr hg))) (fun e9 => d.2.2.2 g e9 k hk (hob g (.inr hg)))
    · show OwnI w2 base (.slice a1 l1 c1) (marksI (msCa s f n) L.c.ws.length)
      rw [← hxx, ← d.1]; exact m1
    · show OwnB w2 base (.slice a2 l2 c2) (marksB (msCa s f n + L.c.ws.length) L.c.bs.length)
      rw [← hxx, ← d.1, ← d.2.1]; exact m2
  clear m hy x0 x1 x2 x3 x4 x5 x6 x7 x8 x9 x10 x11 x12 x13 x14 x15 x16 H0 H1
  go_wp2
  go_ret
  exact ⟨by rw [← H2.out.1]; rfl, H2.out.2.1, H2.out.2.2.1, H2.out.2.2.2⟩
theorem ownB_cap {w : World} {b m c : Nat} {a : Option Addr} {zs : List Bool} (h : OwnB w b (.slice a m c) zs) : m ≤ c := by
  rcases h.2 with ⟨hv, _⟩ | ⟨g, cap, cur, hv, _, _, hle, _⟩
  · simp only [Value.slice.injEq] at hv; omega
  · simp only [Value.slice.injEq] at hv; obtain ⟨_, h1, h2⟩ := hv; omega
theorem LnPB.cut {w w' : World} {base hi n cp l1 l2 c1 c2 : Nat} {f : Nat → Ca} {L : La} {a a1 a2 : Option Addr} (h : LnPB w base hi n f L a cp a1 a2 l1 l2 c1 c2) (hb : ∀ k, k < hi → k < w.heap.size → w'.heap[k]? = w.heap[k]?) : LnPB w' base hi n f L a cp a1 a2 l1 l2 c1 c2 := by
  obtain ⟨h1, h2, F, β, h3, h4, h5, h6, h7, h8, h9, h10, h11, h12⟩ := h
  refine ⟨h1, h2, F, β, ?_, ?_, row_same h5 (fun g hg => hb g (h11 g hg) (World.ownsRow.lt h5 g hg).2), row_same h6 (fun g hg => hb g (h12 g hg) (World.ownsRow.lt h6 g hg).2), h7, h8, h9, h10, h11, h12⟩
  · rcases h3 with q | ⟨g, o, c', hv, hbg, cs, r1, r2⟩
    · exact .inl q
    · by_cases h0 : n = 0
      · subst h0; exact .inl ⟨rfl, _, _, hv⟩
      · have hg := h9 g (by omega) (by rw [hv]; rfl)
        exact .inr ⟨g, o, c', hv, hbg, cs, by rw [hb g hg (Array.getElem?_eq_some_iff.1 r1).1]; exact r1, r2⟩
  · obtain ⟨i0, i1, i2⟩ := h4
    refine ⟨i0, i1, fun k hk => ?_⟩
    obtain ⟨b1, b2, k1, k2, e, o1, o2, t1, t2⟩ := i2 k hk
    have hob : ∀ g, (Value.slice b1 (caE (f k)).ws.length k1).ownBlock = some g ∨ (Value.slice b2 (caE (f k)).bs.length k2).ownBlock = some g → g < hi := fun g hg => h10 g k hk (by rw [e]; exact (Ob_els (by simp [caE, Value.ownBlock]) (by simp [caE, Value.ownBlock])).2 hg)
    exact ⟨b1, b2, k1, k2, e, row_same o1 (fun g hg => hb g (hob g (.inl hg)) (World.ownsRow.lt o1 g hg).2), row_same o2 (fun g hg => hb g (hob g (.inr hg)) (World.ownsRow.lt o2 g hg).2), t1, t2⟩
theorem TopL.keep {w w' : World} {hx base hi n : Nat} {t : TypeId} {s : Nat} {v : Value} {G : Nat → El} (h : TopL w base hi t s v n G) (hk : Keep hx w w') (hb : hx ≤ base) : TopL w' base hi t s v n G := by
  obtain ⟨F, β, h3, ⟨i0, i1, i2⟩, h5, h6⟩ := h
  refine ⟨F, β, ?_, ⟨i0, i1, fun k hk' => ?_⟩, h5, h6⟩
  · rcases h3 with q | ⟨g, o, c', hv, hbg, cs, r1, r2⟩
    · exact .inl q
    · exact .inr ⟨g, o, c', hv, hbg, cs, by rw [hk.2 g (by omega) (Array.getElem?_eq_some_iff.1 r1).1]; exact r1, r2⟩
  · obtain ⟨b1, b2, k1, k2, e, o1, o2, t1, t2⟩ := i2 k hk'
    have hlo := bt_mono i1 (Nat.zero_le k)
    exact ⟨b1, b2, k1, k2, e, hk.row o1 (by omega), hk.row o2 (by omega), t1, t2⟩
theorem TopL.mono {w : World} {base base' hi n : Nat} {t : TypeId} {s : Nat} {v : Value} {G : Nat → El} (h : TopL w base hi t s v n G) (hb : base' ≤ base) : TopL w base' hi t s v n G := by
  obtain ⟨F, β, h3, h4, h5⟩ := h
  exact ⟨F, β, h3.mono hb, h4.mono hb, h5⟩
theorem TopL.sl {w : World} {base hi n m c : Nat} {t : TypeId} {s : Nat} {a : Option Addr} {G : Nat → El} (h : TopL w base hi t s (.slice a m c) n G) : SlL w a s n G := by
  obtain ⟨F, β, h3, h4, _⟩ := h
  exact OwnL.sl ⟨F, β, h3, h4⟩
def RgQ (w8 : World) (m s S : Nat) (St : World → Nat → Prop) (l : Nat → Bool) (σ : Nat → Value) (u : World) : Prop :=
  Below w8.heap.size w8 u ∧ (l m = true → ∃ g, σ S = .pointer (some ⟨g, 0, none⟩) ∧ w8.heap.size ≤ g ∧ (l s = false → Blk u g 32 lzc) ∧ (l s = true → St u g))
theorem RgQ.next {w8 u u' : World} {m s S : Nat} {St : World → Nat → Prop} {l : Nat → Bool} {σ : Nat → Value} (h : RgQ w8 m s S St l σ u) {i d : Nat} {v : Value} (h8 : i ≠ m) (h9 : i ≠ s) (hd : d ≠ S) (hb : Below u.heap.size u u') (hSt : ∀ g, St u g → St u' g) : RgQ w8 m s S St (updB l i) (updS σ (some d) v) u' := by
  refine ⟨bel_nx h.1 hb, fun hl => ?_⟩
  rw [updB_ne h8] at hl
  rw [updB_ne h9]
  obtain ⟨g, q1, q2, q3, q4⟩ := h.2 hl
  exact ⟨g, (updS_ne hd).trans q1, q2, fun q => (q3 q).below hb, fun q => hSt g (q4 q)⟩
theorem RgQ.made {w8 u : World} {m s S : Nat} {St : World → Nat → Prop} {l : Nat → Bool} {σ : Nat → Value} (h : RgQ w8 m s S St l σ u) (hms : m ≠ s) (h9 : l s = false) : RgQ w8 m s S St (updB l m) (updS σ (some S) (.pointer (some ⟨u.heap.size, 0, none⟩))) (u.alloc (.cells lzc 32)) := by
  refine ⟨bel_nx h.1 (bel_alloc _ _), fun _ => ⟨u.heap.size, updS_eq, h.1.size, fun _ => Blk.new _ _ _, fun q => ?_⟩⟩
  rw [updB_ne hms, h9] at q; cases q
end Go.Proofs.YtmhdneenjoelfaaGreat
