/- Texts that the proof needs, joined: Tk5. -/
import Derived.Test.YtmhdneenjoelfaaGreatY12
namespace Go.Proofs.YtmhdneenjoelfaaGreat
open Go.RowKit Go.Joins
set_option linter.unusedVariables false
set_option linter.unusedSimpArgs false
def TkS (w w' : World) (e : Ending) (n : Nat) (f : Nat → Ca) (L : La) (No : Nat) (Do : Od) (Nd : Nat) (Dd : Dn) : Prop :=
  ∃ a cp a1 a2 c1 c2 o oc v vc, e = .returned (.tuple #[.agg (lac L a n cp a1 a2 L.c.ws.length L.c.bs.length c1 c2), .slice o No oc, .slice v Nd vc]) ∧ LnP w' w.heap.size n f L a cp a1 a2 L.c.ws.length L.c.bs.length c1 c2 ∧ TopL w' w.heap.size w'.heap.size 83 8 (.slice o No oc) No (fun _ => odE Do) ∧ TopL w' w.heap.size w'.heap.size 43 8 (.slice v Nd vc) Nd (fun _ => dnE Dd) ∧ Below w.heap.size w w'
structure SM (w : World) (B hi : Nat) (L0 : La) (x : Option Addr) (nx xp : Nat) (x1 x2 : Option Addr) (j1 j2 z1 z2 n : Nat) (f : Nat → Ca) (L : La) (a : Option Addr) (cp : Nat) (a1 a2 : Option Addr) (l1 l2 c1 c2 : Nat) (vo : Value) (No : Nat) (Do : Od) (vd : Value) (Nd : Nat) (Dd : Dn) (u : World) : Prop where
  ln : LnP u w.heap.size n f L a cp a1 a2 l1 l2 c1 c2
  bx : Blk u hi 32 (lac L a n cp a1 a2 l1 l2 c1 c2)
  ar : Blk u B 32 (lac L0 x nx xp x1 x2 j1 j2 z1 z2)
  rs : Blk u (B + 1) 32 lzc
  bl : Below w.heap.size w u
  eB : w.heap.size = B
  lB : B + 1 < hi
  ot : TopL u w.heap.size u.heap.size 83 8 vo No (fun _ => odE Do)
  td : TopL u w.heap.size u.heap.size 43 8 vd Nd (fun _ => dnE Dd)
section
variable {w : World} {B hi : Nat} {L0 : La} {x : Option Addr} {nx xp : Nat} {x1 x2 : Option Addr} {j1 j2 z1 z2 n : Nat} {f : Nat → Ca} {L : La} {a : Option Addr} {cp : Nat} {a1 a2 : Option Addr} {l1 l2 c1 c2 : Nat} {vo : Value} {No : Nat} {Do : Od} {vd : Value} {Nd : Nat} {Dd : Dn} {u u' : World}
theorem SM.below (h : SM w B hi L0 x nx xp x1 x2 j1 j2 z1 z2 n f L a cp a1 a2 l1 l2 c1 c2 vo No Do vd Nd Dd u) (hb : Below u.heap.size u u') : SM w B hi L0 x nx xp x1 x2 j1 j2 z1 z2 n f L a cp a1 a2 l1 l2 c1 c2 vo No Do vd Nd Dd u' :=
  ⟨h.ln.below hb, h.bx.below hb, h.ar.below hb, h.rs.below hb, bel_nx h.bl hb, h.eB, h.lB, h.ot.below9 hb hb.size, h.td.below9 hb hb.size⟩
theorem SM.put (h : SM w B hi L0 x nx xp x1 x2 j1 j2 z1 z2 n f L a cp a1 a2 l1 l2 c1 c2 vo No Do vd Nd Dd u) {L2 : La} {cs : Array Value} (o : Nat) (vs : List Value) (hc : L2.c = L.c) (hw : wrA (lac L a n cp a1 a2 l1 l2 c1 c2) o vs = lac L2 a n cp a1 a2 l1 l2 c1 c2) : SM w B hi L0 x nx xp x1 x2 j1 j2 z1 z2 n f L2 a cp a1 a2 l1 l2 c1 c2 vo No Do vd Nd Dd (setL u hi o vs) := by
  have g : u.grownBy (setL u hi o vs) (some hi) := setL_gw _ _ _
  have hx : ExB u hi 32 := ⟨_, h.bx⟩
  have eB := h.eB
  have lB := h.lB
  refine ⟨?_, ?_, Blk.stNe (by omega) _ _ h.ar, Blk.stNe (by omega) _ _ h.rs, setL_below (by omega) _ _ _ h.bl, eB, lB, h.ot.keptT g hx (by decide) (by decide) (by decide) g.size, h.td.keptT g hx (by decide) (by decide) (by decide) g.size⟩
  · exact ((h.ln.pb.line hc).keptT g hx (by decide) (by decide) (by decide)).p
  · rw [← hw]; exact Blk.stL _ _ h.bx
end
def Rg9 (S : World → Prop) (k s : Nat) (v0 : Value) (l : Nat → Bool) (σ : Nat → Value) (u : World) : Prop := S u ∧ (l k = false → σ s = v0)
theorem Rg9.next {S : World → Prop} {k s : Nat} {v0 : Value} {l : Nat → Bool} {σ : Nat → Value} {u u' : World} (h : Rg9 S k s v0 l σ u) {i d : Nat} {v : Value} (hi : i ≠ k) (hd : d ≠ s) (hS : S u') : Rg9 S k s v0 (updB l i) (updS σ (some d) v) u' :=
  ⟨hS, fun e => by rw [updB_ne hi] at e; exact (updS_ne hd).trans (h.2 e)⟩
theorem run_bs0C (w : World) : (Instr.buildSlice 24 0 #[]).run Tryz.prog w = .ok (.slice (some ⟨w.heap.size, 0, none⟩) 0 0) (w.alloc (.cells #[] 30)) := by kernel_rfl
theorem ownsRow_mono {w : World} {base base' s n : Nat} {e : TypeId} {v : Value} {xs : List Value} (h : w.ownsRow base e s v n xs) (hb : base' ≤ base) : w.ownsRow base' e s v n xs := by
  refine ⟨h.1, ?_⟩
  rcases h.2 with q | ⟨g, cap, cur, hv, hg, r⟩
  · exact .inl q
  · exact .inr ⟨g, cap, cur, hv, by omega, r⟩
theorem LnP.next {w : World} {base n cp l1 l2 c1 c2 : Nat} {f : Nat → Ca} {L : La} {a a1 a2 : Option Addr} (h : LnP w base n f L a cp a1 a2 l1 l2 c1 c2) (hn : 0 < n) :
    ∃ g o b1 b2 k1 k2 m1 m2 news, a = some ⟨g, o, none⟩ ∧ ExB w g 30 ∧ m1 = (f 0).ws.length ∧ m2 = (f 0).bs.length ∧ w.rangeAt g o (calL (f 0) b1 b2 m1 m2 k1 k2) ∧ news.length = (n - 1) * 9 ∧ (∀ j v, news[j]? = some v → w.cell? ⟨g, o + 9 + j, none⟩ = some v) ∧ (∀ v ∈ news, v.oneCell' = true) ∧ OwnI w base (.slice b1 m1 k1) (f 0).ws ∧ OwnB w base (.slice b2 m2 k2) (f 0).bs ∧
      ∀ (w' : World) (L2 : La) (xa : Option Addr) (cp2 B : Nat), w.grownBy w' (some B) → ExB w B 32 → L2.c = f 0 → w'.ownsRow base 30 9 (.slice xa (n - 1) cp2) (n - 1) news → LnP w' base (n - 1) (fun k => f (k + 1)) L2 xa cp2 b1 b2 m1 m2 k1 k2 := by
  obtain ⟨h1, h2, F, β, h3, h4, h5, h6, h7, h8⟩ := h
  rcases h3 with ⟨h0, _⟩ | ⟨g, o, c', hv, hbg, hR⟩
  · omega
  · simp only [Value.slice.injEq, true_and] at hv
    obtain ⟨rfl, rfl⟩ := hv
    obtain ⟨m, rfl⟩ : ∃ m, n = m + 1 := ⟨n - 1, by omega⟩
    obtain ⟨b1, b2, k1, k2, e, o1, o2, t1, t2⟩ := h4.2.2 0 hn
    have hβ := h4.1
    have hlen : ∀ k, k < m → (F (k + 1)).length = 9 := fun k hk => h4.len9 (k + 1) (by omega)
    refine ⟨g, o, b1, b2, k1, k2, _, _, (List.range m).flatMap (fun k => F (k + 1)), rfl, hR.exB, rfl, rfl, ?_, rfl_len _ 9 m hlen, ?_, ?_, OwnI.mono (show OwnI _ _ _ _ from o1) hβ, OwnB.mono (show OwnB _ _ _ _ from o2) hβ, ?_⟩
    · intro j v hj
      have hj9 : j < 9 := by
        have := (List.getElem?_eq_some_iff.1 hj).1
        simpa using this
      have hc := hR.cell hn hj9
      rw [e] at hc
      have e0 : o + 0 * 9 + j = o + j := by omega
      rw [e0] at hc
      rw [hc, ← hj]; rfl
    · intro j v hj
      have hjl : j < m * 9 := by
        have := (List.getElem?_eq_some_iff.1 hj).1
        rw [rfl_len _ 9 m hlen] at this
        exact this
      have hk : j / 9 < m := by omega
      have hq := rfl_at (fun k => F (k + 1)) 9 m hlen (j / 9) (j % 9) hk (Nat.mod_lt _ (by omega))
      have ej : j / 9 * 9 + j % 9 = j := by omega
      rw [ej, hj] at hq
      have hc := hR.tail.cell (k := j / 9) (j := j % 9) hk (Nat.mod_lt _ (by omega))
      have e2 : o + 9 + j / 9 * 9 + j % 9 = o + 9 + j := by omega
      rw [e2] at hc
      rw [hc]; exact hq.symm
    · intro v hv'
      obtain ⟨k, hk, hvk⟩ := List.mem_flatMap.1 hv'
      obtain ⟨d1, d2, f1, f2, e', _⟩ := h4.2.2 (k + 1) (by have := List.mem_range.1 hk; omega)
      rw [e'] at hvk
      simp [els, caE] at hvk
      rcases hvk with rfl | rfl | rfl | rfl | rfl | rfl | rfl | rfl | rfl <;> rfl
    · intro w' L2 xa cp2 B hg hx hc hrow
      have hbt : ∀ {i j}, i ≤ j → β i ≤ β j := fun h => bt_mono h4.2.1 h
      have hno : ∀ k, k < β 1 → ∀ j, j < m → ¬ Ob (F (j + 1)) k := fun k hk j hj ho => by
        obtain ⟨d1, d2, f1, f2, e', p1, p2, _, _⟩ := h4.2.2 (j + 1) (by omega)
        rw [e'] at ho
        have hβ1 := hbt (show 1 ≤ j + 1 by omega)
        rcases (Ob_els (by simp [caE, Value.ownBlock]) (by simp [caE, Value.ownBlock])).1 ho with q | q
        · have := (World.ownsRow.lt p1 k q).1; omega
        · have := (World.ownsRow.lt p2 k q).1; omega
      refine ⟨by rw [hc], by rw [hc], fun k => F (k + 1), fun k => β (k + 1), ?_, h4.tail.keptT hg hx (by decide) (by decide), ?_, ?_, fun k hk j hj => hno k (t1 k hk) j hj, fun k hk j hj => hno k (t2 k hk) j hj⟩
      · exact (row_lift (n := m) hrow hlen).1
      · rw [hc]; exact row_noT (OwnI.mono (show OwnI _ _ _ _ from o1) hβ) hg hx (by decide)
      · rw [hc]; exact row_noT (OwnB.mono (show OwnB _ _ _ _ from o2) hβ) hg hx (by decide)
set_option maxRecDepth 20000 in
set_option maxHeartbeats 3000000 in
theorem specTick_any (L : La) (a a1 a2 : Option Addr) (n cp l1 l2 c1 c2 : Nat) (f : Nat → Ca) (now : Int) (w : World) (hs : LnR w n f L a a1 a2 l1 l2) (hb : BdC n f) (hl1 : l1 ≤ 2000000) (hl2 : l2 ≤ 2000000) (xa xb bz dz lz nz : Bool) (hxa : okLn n f L l1 l2 = xa) (hxb : inB now 0 4294967295 = xb) (hbz : L.bz = bz) (hdz : tkD now L.du = dz) (hlz : decide (0 < L.le) = lz) (hnz : decide (0 < n) = nz) :
    Calls Tryz.prog 14 #[.agg (lac L a n cp a1 a2 l1 l2 c1 c2), .int .i64 now] w fun e w' => TkS w w' e (tkN (tkX (xa && xb) bz dz lz nz) n) (tkF (tkX (xa && xb) bz dz lz nz) f) (tkL (tkA (xa && xb) bz dz lz) (tkE (xa && xb) bz dz lz) (tkX (xa && xb) bz dz lz nz) f now L) (tkC (tkA (xa && xb) bz dz lz || tkX (xa && xb) bz dz lz nz)) (tkOd (tkX (xa && xb) bz dz lz nz) f now L) (tkC (tkE (xa && xb) bz dz lz)) (tkDn L) := by
  have hn := hb.1
  obtain ⟨B, hB⟩ : ∃ B, B = w.heap.size := ⟨_, rfl⟩
  obtain ⟨W, hW⟩ : ∃ W, W = (w.alloc (.cells (lac L a n cp a1 a2 l1 l2 c1 c2) 32)).alloc (.cells lzc 32) := ⟨_, rfl⟩
  have bW : Below w.heap.size w W := by rw [hW]; exact bel_nx (bel_alloc w _) (bel_alloc _ _)
  have A0 : Blk W B 32 (lac L a n cp a1 a2 l1 l2 c1 c2) := by rw [hW, hB]; exact (Blk.new w _ _).below (bel_alloc _ _)
  have R0 : Blk W (B + 1) 32 lzc := by
    rw [hW, hB]; have := Blk.new (w.alloc (.cells (lac L a n cp a1 a2 l1 l2 c1 c2) 32)) lzc 32; simpa using this
  have hz : W.heap.size = B + 1 + 1 := by rw [hW, hB]; simp
  have H0 : Hid (LnR w n f L a a1 a2 l1 l2 ∧ BdC n f ∧ Below w.heap.size w W ∧ Blk W B 32 (lac L a n cp a1 a2 l1 l2 c1 c2) ∧ Blk W (B + 1) 32 lzc ∧ w.heap.size = B ∧ W.heap.size = B + 1 + 1) := ⟨hs, hb, bW, A0, R0, hB.symm, hz⟩
  have HC : Hid (okLn n f L l1 l2 = xa ∧ inB now 0 4294967295 = xb ∧ tkD now L.du = dz ∧ l1 = L.c.ws.length ∧ l2 = L.c.bs.length) := ⟨hxa, hxb, hdz, hs.1, hs.2.1⟩
  have HZ : Hid (L.bz = bz) := hbz
  clear hs hb bW A0 R0 hz hxa hxb hdz hbz
  go_enter Tryz.func14, Tryz.ntmps14
  go_upto_region 1 with fail
  have hB1 : w.heap.size + 1 = B + 1 := by omega
  rw [← hW, hB1, ← hB]
  clear hW hB hB1
  refine wp_region_lit ?_
  refine wpList_load_mid rfl 32 (.tmp 2) rfl B 0 rfl (lacL L a n cp a1 a2 l1 l2 c1 c2) _ H0.out.2.2.2.1.all Tryz.underlying32 rfl (by kernel_rfl) ?_
  go_wp2_with fail
  refine (l12Copy_any L a a1 a2 n cp l1 l2 c1 c2 f _ (H0.out.1.below H0.out.2.2.1) H0.out.2.1 hl1 hl2).mono ?_
  rintro e w1 ⟨a6, cp6, r1, r2, d1, d2, rfl, o6, b6⟩
  obtain ⟨hi, hhi⟩ : ∃ hi, hi = w1.heap.size := ⟨_, rfl⟩
  have hcp6 := o6.cap
  obtain ⟨W2, hW2⟩ : ∃ W2, W2 = setL (w1.alloc (.cells lzc 32)) w1.heap.size 0 (lacL L a6 n cp6 r1 r2 l1 l2 d1 d2) := ⟨_, rfl⟩
  obtain ⟨W3, hW3⟩ : ∃ W3, W3 = (W2.alloc (.cells #[] 83)).alloc (.cells #[] 43) := ⟨_, rfl⟩
  have hsW2 : W2.heap.size = hi + 1 := by rw [hW2, setL_size, hhi]; simp
  have hsW3 : (W2.alloc (.cells #[] 83)).heap.size = hi + 2 := by simp [hsW2]
  have H2 : Hid (SM w B hi L a n cp a1 a2 l1 l2 c1 c2 n f L a6 cp6 r1 r2 l1 l2 d1 d2 (.slice (some ⟨hi + 1, 0, none⟩) 0 0) 0 (odL L) (.slice (some ⟨hi + 2, 0, none⟩) 0 0) 0 (tkDn L) W3) := by
    have h0 := H0.out
    have hz := h0.2.2.1.size
    have b5 : Below w1.heap.size w1 W2 := by rw [hW2]; exact setL_below (Nat.le_refl _) _ _ _ (bel_alloc _ _)
    have b7 : Below W2.heap.size W2 W3 := by rw [hW3]; exact bel_nx (bel_alloc _ _) (bel_alloc _ _)
    have b8 := bel_nx b5 b7
    have hs8 := b8.size
    have hwl : w.heap.size ≤ W3.heap.size := by have := b6.size; omega
    refine ⟨((lnO_mono o6 hz).p).below b8, ?_, (h0.2.2.2.1.below b6).below b8, (h0.2.2.2.2.1.below b6).below b8, bel_nx (bel_nx h0.2.2.1 b6) b8, h0.2.2.2.2.2.1, ?_, topL_nil _ _ _ _ _ _ _ _ hwl, topL_nil _ _ _ _ _ _ _ _ hwl⟩
    · rw [hhi]
      refine Blk.below ?_ b7
      rw [hW2, show lac L a6 n cp6 r1 r2 l1 l2 d1 d2 = wrA lzc 0 (lacL L a6 n cp6 r1 r2 l1 l2 d1 d2) from (lwr0_17 _ _ _ _ _ _ _ _ _ _ _ _ _ _ _ _ _ _ _ _ _ _ _ _ _ _ _ _ _ _ _ _ _ _).symm]
      exact Blk.stL _ _ (Blk.new _ _ _)
    · have := b6.size
      omega
  rename_i hK
  refine hK _ _ ?_
  clear hK o6
  refine wpList_alloc_any rfl 32 rfl lzc 17 184 (by kernel_rfl) ?_
  refine wpList_store_mid rfl 32 (.tmp 7) (.tmp 11) rfl w1.heap.size 0 (lac L a6 n cp6 r1 r2 l1 l2 d1 d2) rfl rfl ((Blk.new w1 lzc 32).there 0 17 (by simp)) (by kernel_rfl) (by simp [Value.oneCell']) ?_
  rw [setCells_L, ← hW2, ← hhi]
  clear hW2 hhi b6
  refine wpList_nil ?_
  go_upto_region 4 with fail
  try rw [hsW2]
  rw [← hW3]
  try rw [show hi + 1 + 1 = hi + 2 from rfl]
  try rw [hsW3]
  clear hW3 hsW2 hsW3
  try go_simp
  refine wp_region_lit ?_
  refine wpList_load_mid rfl 32 (.tmp 2) rfl B 0 rfl (lacL L a n cp a1 a2 l1 l2 c1 c2) _ H2.out.ar.all Tryz.underlying32 rfl (by kernel_rfl) ?_
  go_wp2_with fail
  refine (specLineOk_any L n cp a a1 a2 l1 l2 c1 c2 f _ (H0.out.1.below H2.out.bl) H0.out.2.1 hl1 hl2).mono ?_
  rintro e w3 ⟨rfl, b3⟩
  rw [HC.out.1]
  have H3 : Hid (SM w B hi L a n cp a1 a2 l1 l2 c1 c2 n f L a6 cp6 r1 r2 l1 l2 d1 d2 (.slice (some ⟨hi + 1, 0, none⟩) 0 0) 0 (odL L) (.slice (some ⟨hi + 2, 0, none⟩) 0 0) 0 (tkDn L) w3) := H2.out.below b3
  clear b3 H2
  cases xa with
  | false =>
    go_upto_region 5 with fail
    try go_simp
    refine wp_region_lit ?_
    refine wpList_load_mid rfl 32 (.tmp 7) rfl hi 0 rfl (lacL L a6 n cp6 r1 r2 l1 l2 d1 d2) _ H3.out.bx.all Tryz.underlying32 rfl (by kernel_rfl) ?_
    refine wpList_move_any rfl (.tmp 8) rfl (.slice (some ⟨hi + 1, 0, none⟩) 0 0) rfl ?_
    refine wpList_move_any rfl (.tmp 9) rfl (.slice (some ⟨hi + 2, 0, none⟩) 0 0) rfl ?_
    refine wpList_store_mid rfl 32 (.tmp 4) (.tmp 22) rfl (B + 1) 0 (lac L a6 n cp6 r1 r2 l1 l2 d1 d2) rfl rfl (H3.out.rs.there 0 17 (by simp)) (by kernel_rfl) (by simp [Value.oneCell']) ?_
    rw [setCells_L]
    obtain ⟨W9, hW9⟩ : ∃ W9, W9 = setL w3 (B + 1) 0 (lacL L a6 n cp6 r1 r2 l1 l2 d1 d2) := ⟨_, rfl⟩
    have H9 : Hid (Blk W9 (B + 1) 32 (lac L a6 n cp6 r1 r2 l1 l2 d1 d2) ∧ TkS w W9 (.returned (.tuple #[.agg (lac L a6 n cp6 r1 r2 l1 l2 d1 d2), (.slice (some ⟨hi + 1, 0, none⟩) 0 0), (.slice (some ⟨hi + 2, 0, none⟩) 0 0)])) n f L 0 (odL L) 0 (tkDn L)) := by
      have h3 := H3.out
      have g1 : w3.grownBy W9 (some (B + 1)) := by rw [hW9]; exact setL_gw _ _ _
      have eB := h3.eB; have lB := h3.lB
      have hx : ExB w3 (B + 1) 32 := ⟨_, h3.rs⟩
      have q1 := h3.ln.1
      have q2 := h3.ln.2.1
      refine ⟨by rw [hW9, show lac L a6 n cp6 r1 r2 l1 l2 d1 d2 = wrA lzc 0 (lacL L a6 n cp6 r1 r2 l1 l2 d1 d2) from (lwr0_17 _ _ _ _ _ _ _ _ _ _ _ _ _ _ _ _ _ _ _ _ _ _ _ _ _ _ _ _ _ _ _ _ _ _).symm]; exact Blk.stL _ _ h3.rs, ?_⟩
      refine ⟨a6, cp6, r1, r2, d1, d2, _, _, _, _, by rw [← q1, ← q2], by rw [← q1, ← q2]; exact h3.ln.keptT g1 hx (by decide) (by decide) (by decide), h3.ot.keptT g1 hx (by decide) (by decide) (by decide) g1.size, h3.td.keptT g1 hx (by decide) (by decide) (by decide) g1.size, by rw [hW9]; exact setL_below (by omega) _ _ _ h3.bl⟩
    rw [show setL w3 (B + 1) 0 (lac L a6 n cp6 r1 r2 l1 l2 d1 d2).toList = W9 from hW9.symm]
    clear hW9 HC H0 H3
    go_wp2
    refine bodyPost_ret (v := .tuple #[.agg (lac L a6 n cp6 r1 r2 l1 l2 d1 d2), (.slice (some ⟨hi + 1, 0, none⟩) 0 0), (.slice (some ⟨hi + 2, 0, none⟩) 0 0)]) (results_cell2 Tryz.results14 rfl rfl rfl (run_loadVar_mid _ _ _ 32 (lacL L a6 n cp6 r1 r2 l1 l2 d1 d2) _ H9.out.1.all Tryz.underlying32 rfl (by kernel_rfl))) rfl ?_
    exact H9.out.2
  | true =>
    go_wp2_with fail
    refine (l1TickL now _ xb HC.out.2.1).mono ?_
    rintro e w4 ⟨rfl, hw4⟩
    have hw4 := hw4.symm
    subst hw4
    cases xb with
    | false =>
      go_upto_region 5 with fail
      try go_simp
      refine wp_region_lit ?_
      refine wpList_load_mid rfl 32 (.tmp 7) rfl hi 0 rfl (lacL L a6 n cp6 r1 r2 l1 l2 d1 d2) _ H3.out.bx.all Tryz.underlying32 rfl (by kernel_rfl) ?_
      refine wpList_move_any rfl (.tmp 8) rfl (.slice (some ⟨hi + 1, 0, none⟩) 0 0) rfl ?_
      refine wpList_move_any rfl (.tmp 9) rfl (.slice (some ⟨hi + 2, 0, none⟩) 0 0) rfl ?_
      refine wpList_store_mid rfl 32 (.tmp 4) (.tmp 22) rfl (B + 1) 0 (lac L a6 n cp6 r1 r2 l1 l2 d1 d2) rfl rfl (H3.out.rs.there 0 17 (by simp)) (by kernel_rfl) (by simp [Value.oneCell']) ?_
      rw [setCells_L]
      obtain ⟨W9, hW9⟩ : ∃ W9, W9 = setL w3 (B + 1) 0 (lacL L a6 n cp6 r1 r2 l1 l2 d1 d2) := ⟨_, rfl⟩
      have H9 : Hid (Blk W9 (B + 1) 32 (lac L a6 n cp6 r1 r2 l1 l2 d1 d2) ∧ TkS w W9 (.returned (.tuple #[.agg (lac L a6 n cp6 r1 r2 l1 l2 d1 d2), (.slice (some ⟨hi + 1, 0, none⟩) 0 0), (.slice (some ⟨hi + 2, 0, none⟩) 0 0)])) n f L 0 (odL L) 0 (tkDn L)) := by
        have h3 := H3.out
        have g1 : w3.grownBy W9 (some (B + 1)) := by rw [hW9]; exact setL_gw _ _ _
        have eB := h3.eB; have lB := h3.lB
        have hx : ExB w3 (B + 1) 32 := ⟨_, h3.rs⟩
        have q1 := h3.ln.1
        have q2 := h3.ln.2.1
        refine ⟨by rw [hW9, show lac L a6 n cp6 r1 r2 l1 l2 d1 d2 = wrA lzc 0 (lacL L a6 n cp6 r1 r2 l1 l2 d1 d2) from (lwr0_17 _ _ _ _ _ _ _ _ _ _ _ _ _ _ _ _ _ _ _ _ _ _ _ _ _ _ _ _ _ _ _ _ _ _).symm]; exact Blk.stL _ _ h3.rs, ?_⟩
        refine ⟨a6, cp6, r1, r2, d1, d2, _, _, _, _, by rw [← q1, ← q2], by rw [← q1, ← q2]; exact h3.ln.keptT g1 hx (by decide) (by decide) (by decide), h3.ot.keptT g1 hx (by decide) (by decide) (by decide) g1.size, h3.td.keptT g1 hx (by decide) (by decide) (by decide) g1.size, by rw [hW9]; exact setL_below (by omega) _ _ _ h3.bl⟩
      rw [show setL w3 (B + 1) 0 (lac L a6 n cp6 r1 r2 l1 l2 d1 d2).toList = W9 from hW9.symm]
      clear hW9 HC H0 H3
      go_wp2
      refine bodyPost_ret (v := .tuple #[.agg (lac L a6 n cp6 r1 r2 l1 l2 d1 d2), (.slice (some ⟨hi + 1, 0, none⟩) 0 0), (.slice (some ⟨hi + 2, 0, none⟩) 0 0)]) (results_cell2 Tryz.results14 rfl rfl rfl (run_loadVar_mid _ _ _ 32 (lacL L a6 n cp6 r1 r2 l1 l2 d1 d2) _ H9.out.1.all Tryz.underlying32 rfl (by kernel_rfl))) rfl ?_
      exact H9.out.2
    | true =>
      have HF : Hid (inB L.wt 0 4294967295 = true ∧ (0 ≤ L.nx ∧ L.nx ≤ 65535) ∧ (L.bz = true → inB L.du 0 4294967295 = true ∧ L.le ≤ 5 ∧ okR L.c.kd L.c.pl L.c.n L.c.wa L.c.ws L.c.ws.length L.c.bs.length = true)) := okLn_f HC.out.1
      have z1 : w3.cell? ⟨B, 1, none⟩ = some (.bool L.bz) := H3.out.ar.cell 1 rfl
      rw [HZ.out] at z1
      have y0 : w3.cell? ⟨hi, 0, none⟩ = some (.slice a6 n cp6) := H3.out.bx.cell 0 rfl
      have y1 : w3.cell? ⟨hi, 1, none⟩ = some (.bool L.bz) := H3.out.bx.cell 1 rfl
      rw [HZ.out] at y1
      cases bz with
      | false =>
        cases nz with
        | false =>
          have hn0 : ¬ (0 : Int) < (n : Int) := by have := of_decide_eq_false hnz; omega
          go_upto_region 22 with fail
          try go_simp
          refine wp_region_lit ?_
          refine wpList_load_mid rfl 32 (.tmp 7) rfl hi 0 rfl (lacL L a6 n cp6 r1 r2 l1 l2 d1 d2) _ H3.out.bx.all Tryz.underlying32 rfl (by kernel_rfl) ?_
          refine wpList_move_any rfl (.tmp 8) rfl (.slice (some ⟨hi + 1, 0, none⟩) 0 0) rfl ?_
          refine wpList_move_any rfl (.tmp 9) rfl (.slice (some ⟨hi + 2, 0, none⟩) 0 0) rfl ?_
          refine wpList_store_mid rfl 32 (.tmp 4) (.tmp 108) rfl (B + 1) 0 (lac L a6 n cp6 r1 r2 l1 l2 d1 d2) rfl rfl (H3.out.rs.there 0 17 (by simp)) (by kernel_rfl) (by simp [Value.oneCell']) ?_
          rw [setCells_L]
          obtain ⟨W9, hW9⟩ : ∃ W9, W9 = setL w3 (B + 1) 0 (lacL L a6 n cp6 r1 r2 l1 l2 d1 d2) := ⟨_, rfl⟩
          have H9 : Hid (Blk W9 (B + 1) 32 (lac L a6 n cp6 r1 r2 l1 l2 d1 d2) ∧ TkS w W9 (.returned (.tuple #[.agg (lac L a6 n cp6 r1 r2 l1 l2 d1 d2), (.slice (some ⟨hi + 1, 0, none⟩) 0 0), (.slice (some ⟨hi + 2, 0, none⟩) 0 0)])) n f L 0 (odL L) 0 (tkDn L)) := by
            have h3 := H3.out
            have g1 : w3.grownBy W9 (some (B + 1)) := by rw [hW9]; exact setL_gw _ _ _
            have eB := h3.eB; have lB := h3.lB
            have hx : ExB w3 (B + 1) 32 := ⟨_, h3.rs⟩
            have q1 := h3.ln.1
            have q2 := h3.ln.2.1
            refine ⟨by rw [hW9, show lac L a6 n cp6 r1 r2 l1 l2 d1 d2 = wrA lzc 0 (lacL L a6 n cp6 r1 r2 l1 l2 d1 d2) from (lwr0_17 _ _ _ _ _ _ _ _ _ _ _ _ _ _ _ _ _ _ _ _ _ _ _ _ _ _ _ _ _ _ _ _ _ _).symm]; exact Blk.stL _ _ h3.rs, ?_⟩
            refine ⟨a6, cp6, r1, r2, d1, d2, _, _, _, _, by rw [← q1, ← q2], by rw [← q1, ← q2]; exact h3.ln.keptT g1 hx (by decide) (by decide) (by decide), h3.ot.keptT g1 hx (by decide) (by decide) (by decide) g1.size, h3.td.keptT g1 hx (by decide) (by decide) (by decide) g1.size, by rw [hW9]; exact setL_below (by omega) _ _ _ h3.bl⟩
          rw [show setL w3 (B + 1) 0 (lac L a6 n cp6 r1 r2 l1 l2 d1 d2).toList = W9 from hW9.symm]
          clear hW9 HC H0 H3
          go_wp2
          refine bodyPost_ret (v := .tuple #[.agg (lac L a6 n cp6 r1 r2 l1 l2 d1 d2), (.slice (some ⟨hi + 1, 0, none⟩) 0 0), (.slice (some ⟨hi + 2, 0, none⟩) 0 0)]) (results_cell2 Tryz.results14 rfl rfl rfl (run_loadVar_mid _ _ _ 32 (lacL L a6 n cp6 r1 r2 l1 l2 d1 d2) _ H9.out.1.all Tryz.underlying32 rfl (by kernel_rfl))) rfl ?_
          exact H9.out.2
        | true =>
          have hn0 : (0 : Int) < (n : Int) := by have := of_decide_eq_true hnz; omega
          go_upto_region 14 with fail
          clear y0 y1 z1
          obtain ⟨gq, oq, b1, b2, k1, k2, m1, m2, news, ha6, hqx, hm1, hm2, hrg, hnl, hnc, hn1c, p1, p2, htl⟩ := H3.out.ln.next (by omega)
          have HT := hide htl
          have HNW := hide (And.intro hnl (And.intro hnc hn1c))
          have HP : Hid (m1 = (f 0).ws.length ∧ m2 = (f 0).bs.length ∧ m1 ≤ 2000000 ∧ m2 ≤ 2000000 ∧ OwnI w3 w.heap.size (.slice b1 m1 k1) (f 0).ws ∧ OwnB w3 w.heap.size (.slice b2 m2 k2) (f 0).bs) := ⟨hm1, hm2, by rw [hm1]; exact (H0.out.2.1.2 0 (by omega)).1, by rw [hm2]; exact (H0.out.2.1.2 0 (by omega)).2, p1, p2⟩
          subst ha6
          have hqh : gq ≠ hi := fun e => by subst e; exact Blk.noEx H3.out.bx (by decide) hqx
          have HQ := hide (And.intro hrg (And.intro hqx hqh))
          clear htl hm1 hm2 hqx hrg p1 p2 hnl hnc hn1c hqh
          obtain ⟨X14, hX14⟩ : ∃ X14, X14 = setL w3 hi 1 [.bool true] := ⟨_, rfl⟩
          have G14 : Hid (w3.grownBy X14 (some hi) ∧ Blk X14 hi 32 (lac { L with bz := true } (some ⟨gq, oq, none⟩) n cp6 r1 r2 l1 l2 d1 d2)) := by
            refine ⟨by rw [hX14]; exact setL_gw _ _ _, ?_⟩
            rw [hX14, show lac { L with bz := true } (some ⟨gq, oq, none⟩) n cp6 r1 r2 l1 l2 d1 d2 = wrA (lac L (some ⟨gq, oq, none⟩) n cp6 r1 r2 l1 l2 d1 d2) 1 [.bool true] from (lwr1_1 _ _ _ _ _ _ _ _ _ _ _ _ _ _ _ _ _ _).symm]; exact Blk.stL _ _ H3.out.bx
          have y1 := H3.out.bx.cell 1 rfl
          have yf := H3.out.bx.fro 1
          have hX14' : X14 = w3.setCell ⟨hi, 1, none⟩ (.bool true) := hX14
          clear hX14
          go_upto_region 15 with fail
          rw [← hX14']
          clear hX14' y1 yf
          try go_simp
          refine wp_region_lit ?_
          refine wpList_run_any rfl (.pointer (some ⟨hi, 0, none⟩)) (run_field_op rfl rfl (by go_simp)) ?_
          have y0 : X14.cell? ⟨hi, 0, none⟩ = some (.slice (some ⟨gq, oq, none⟩) n cp6) := G14.out.2.cell 0 rfl
          refine wpList_run_any rfl (.slice (some ⟨gq, oq, none⟩) n cp6) (run_load_op rfl rfl (by go_simp)) ?_
          refine wpList_run_any rfl (.pointer (some ⟨gq, oq, none⟩)) (run_index_op rfl rfl rfl (by (go_simp; intro h0; omega))) ?_
          refine wpList_load_mid rfl 30 (.tmp 78) rfl gq oq rfl (calL (f 0) b1 b2 m1 m2 k1 k2) _ (rangeAt_gr HQ.out.1 G14.out.1 HQ.out.2.2) Tryz.underlying30 rfl (by kernel_rfl) ?_
          refine wpList_run_any rfl (.pointer (some ⟨hi, 2, none⟩)) (run_field_op rfl rfl (by go_simp)) ?_
          refine wpList_store_mid rfl 30 (.tmp 80) (.tmp 79) rfl hi 2 (cac (f 0) b1 b2 m1 m2 k1 k2) (by kernel_rfl) (by kernel_rfl) (G14.out.2.there 2 9 (by simp)) (by kernel_rfl) (by simp [Value.oneCell']) ?_
          rw [setCells_L]
          refine wpList_nil ?_
          obtain ⟨X15, hX15⟩ : ∃ X15, X15 = setL X14 hi 2 (calL (f 0) b1 b2 m1 m2 k1 k2) := ⟨_, rfl⟩
          have G15 : Hid (w3.grownBy X15 (some hi) ∧ Blk X15 hi 32 (lac { L with bz := true, c := f 0 } (some ⟨gq, oq, none⟩) n cp6 b1 b2 m1 m2 k1 k2)) := by
            refine ⟨gr_tr G14.out.1 (by rw [hX15]; exact setL_gw _ _ _) (.inl rfl), ?_⟩
            rw [hX15, show lac { L with bz := true, c := f 0 } (some ⟨gq, oq, none⟩) n cp6 b1 b2 m1 m2 k1 k2 = wrA (lac { L with bz := true } (some ⟨gq, oq, none⟩) n cp6 r1 r2 l1 l2 d1 d2) 2 (calL (f 0) b1 b2 m1 m2 k1 k2) from (lwr2_9 _ _ _ _ _ _ _ _ _ _ _ _ _ _ _ _ _ _ _ _ _ _ _ _ _ _).symm]; exact Blk.stL _ _ G14.out.2
          rw [show setL X14 hi 2 (cac (f 0) b1 b2 m1 m2 k1 k2).toList = X15 from hX15.symm]
          clear hX15 y0 G14
          go_upto_region 16 with fail
          try go_simp
          refine wp_region_lit ?_
          refine wpList_bs rfl 24 0 #[] rfl #[] (by simp) (.slice (some ⟨X15.heap.size, 0, none⟩) 0 0) (run_bs0C X15) ?_
          have ba := bel_alloc X15 (.cells #[] 30)
          have K15 := G15.out.2.below ba
          have y0 : (X15.alloc (.cells #[] 30)).cell? ⟨hi, 0, none⟩ = some (.slice (some ⟨gq, oq, none⟩) n cp6) := K15.cell 0 rfl
          refine wpList_run_any rfl (.pointer (some ⟨hi, 0, none⟩)) (run_field_op rfl rfl (by go_simp)) ?_
          refine wpList_run_any rfl (.slice (some ⟨gq, oq, none⟩) n cp6) (run_load_op rfl rfl (by go_simp)) ?_
          obtain ⟨ad, had⟩ : ∃ ad : Addr, some ad = (if cp6 = 1 then some ⟨gq, oq, none⟩ else some ⟨gq, oq + 9, none⟩) := by by_cases h : cp6 = 1; (exact ⟨⟨gq, oq, none⟩, by rw [if_pos h]⟩); exact ⟨⟨gq, oq + 9, none⟩, by rw [if_neg h]⟩
          have had2 : 0 < n - 1 → ad = ⟨gq, oq + 9, none⟩ := fun h => by rw [if_neg (by omega)] at had; exact Option.some.inj had
          refine wpList_run_any rfl (.slice (some ad) (n - 1) (cp6 - 1)) (run_slc_op rfl rfl rfl (by rw [had]; exact sl1r gq oq n cp6 _ (by omega))) ?_
          obtain ⟨i0, hi0, hzz⟩ := Option.map_eq_some_iff.1 Tryz.infoC30
          simp only [Prod.mk.injEq] at hzz
          obtain ⟨hz0, hz1, hz2⟩ := hzz
          refine wpList_append_own _ rfl (.tmp 81) (.tmp 84) 24 rfl X15.heap.size 30 i0 _ 9 104 Tryz.underlying24 hi0 hz0 hz1 hz2 rfl (by decide) (.slice (some ⟨X15.heap.size, 0, none⟩) 0 0) 0 [] rfl (row_nil (Nat.le_refl _) (Blk.new X15 #[] 30)) ad (n - 1) (cp6 - 1) news rfl HNW.out.1 (fun j u hu => ?nwsA) HNW.out.2.2 (by unfold maxLen; omega) (by omega) ba.size ?_
          case nwsA =>
            have hn9 : 0 < n - 1 := by
              rcases Nat.eq_zero_or_pos (n - 1) with h | h
              · have hl := HNW.out.1; rw [h] at hl; have := List.eq_nil_of_length_eq_zero (by simpa using hl); subst this; simp at hu
              · exact h
            rw [had2 hn9, Addr.add_lit]
            have hc0 := HNW.out.2.1 j u hu
            have g15 := gr_bel G15.out.1 ba
            rw [World.cell?_of_block (w := w3) (g15.block gq (cell_lt9 hc0) (fun e => HQ.out.2.2 (Option.some.inj e)))]
            exact hc0
          intro v9 X16 o16 g16 _
          rw [Nat.zero_add] at o16
          rw [List.nil_append] at o16
          obtain ⟨xa9, cp9, hv9⟩ := row_form o16
          subst hv9
          clear hi0 hz0 hz1 hz2 y0 had had2
          have g16' : (X15.alloc (.cells #[] 30)).grownBy X16 (some X15.heap.size) := g16
          have K16 := K15.grown g16' (by have := G15.out.2.lt; intro e9; have := Option.some.inj e9; omega)
          have y0 := K16.cell 0 rfl
          have yf := K16.fro 0
          refine wpList_run_any rfl (.pointer (some ⟨hi, 0, none⟩)) (run_field_op rfl rfl (by go_simp)) ?_
          obtain ⟨X17, hX17⟩ : ∃ X17, X17 = setL X16 hi 0 [.slice xa9 (n - 1) cp9] := ⟨_, rfl⟩
          have H17 : Hid (w3.grownBy X17 (some hi) ∧ Blk X17 hi 32 (lac { L with bz := true, c := f 0 } xa9 (n - 1) cp9 b1 b2 m1 m2 k1 k2) ∧ X17.ownsRow w.heap.size 30 9 (.slice xa9 (n - 1) cp9) (n - 1) news) := by
            have g17 : X16.grownBy X17 (some hi) := by rw [hX17]; exact setL_gw _ _ _
            have ga := gr_bel G15.out.1 ba
            have gb := gr_tr ga g16' (.inr (by have := G15.out.1.size; omega))
            refine ⟨gr_tr gb g17 (.inl rfl), ?_, row_noT (ownsRow_mono o16 (by have := H3.out.bl.size; have := G15.out.1.size; omega)) g17 ⟨_, K16⟩ (by decide)⟩
            rw [hX17, show lac { L with bz := true, c := f 0 } xa9 (n - 1) cp9 b1 b2 m1 m2 k1 k2 = wrA (lac { L with bz := true, c := f 0 } (some ⟨gq, oq, none⟩) n cp6 b1 b2 m1 m2 k1 k2) 0 [.slice xa9 (n - 1) cp9] from (lwr0_1 _ _ _ _ _ _ _ _ _ _ _ _ _ _ _ _ _ _).symm]; exact Blk.stL _ _ K16
          have hX17' : X17 = X16.setCell ⟨hi, 0, none⟩ (.slice xa9 (n - 1) cp9) := hX17
          clear hX17 o16 g16 g16' K15 K16 ba G15 HNW
          obtain ⟨nx1, hnx1⟩ : ∃ x, x = (L.nx + 1) % 65536 := ⟨_, rfl⟩
          have hfx := HF.out.2.1
          have hw1 : IntKind.i64.wrap (L.nx + 1) = L.nx + 1 := by rw [IntKind.wrap_i64]; omega
          have hrm : (L.nx + 1).tmod 65536 = nx1 := by rw [hnx1]; exact Int.tmod_eq_emod_of_nonneg (by omega)
          have hw2 : IntKind.i64.wrap nx1 = nx1 := by rw [IntKind.wrap_i64]; omega
          have HN1 : Hid (nx1 = (L.nx + 1) % 65536) := hnx1
          clear hnx1 hfx
          have K17 : Blk X17 B 32 (lac L a n cp a1 a2 l1 l2 c1 c2) := H3.out.ar.grown H17.out.1 (by have := H3.out.lB; intro e9; have := Option.some.inj e9; omega)
          have z14 : X17.cell? ⟨B, 14, none⟩ = some (.int .i64 L.nx) := K17.cell 14 rfl
          have z15 : X17.cell? ⟨B, 15, none⟩ = some (.int .i64 L.wt) := K17.cell 15 rfl
          have x11 := H17.out.2.1.cell 11 rfl
          have x14 := H17.out.2.1.cell 14 rfl
          have f11 := H17.out.2.1.fro 11
          have f14 := H17.out.2.1.fro 14
          have hBh : ¬ B = hi := by have := H3.out.lB; omega
          have hBh2 : ¬ hi = B := fun e => hBh e.symm
          obtain ⟨X18, hX18⟩ : ∃ X18, X18 = setL (setL X17 hi 11 [.int .i64 L.nx]) hi 14 [.int .i64 nx1] := ⟨_, rfl⟩
          have hX18' : X18 = (X17.setCell ⟨hi, 11, none⟩ (.int .i64 L.nx)).setCell ⟨hi, 14, none⟩ (.int .i64 nx1) := hX18
          have H18 : Hid (w3.grownBy X18 (some hi) ∧ Blk X18 hi 32 (lac { L with bz := true, c := f 0, nu := L.nx, nx := nx1 } xa9 (n - 1) cp9 b1 b2 m1 m2 k1 k2) ∧ X18.ownsRow w.heap.size 30 9 (.slice xa9 (n - 1) cp9) (n - 1) news) := by
            have hxl : ExB X17 hi 32 := ⟨_, H17.out.2.1⟩
            have ga : X17.grownBy X18 (some hi) := by rw [hX18]; exact gr_tr (setL_gw _ _ _) (setL_gw _ _ _) (.inl rfl)
            refine ⟨gr_tr H17.out.1 ga (.inl rfl), ?_, row_noT H17.out.2.2 ga hxl (by decide)⟩
            have E1 : Blk (setL X17 hi 11 [.int .i64 L.nx]) hi 32 (lac { L with bz := true, c := f 0, nu := L.nx } xa9 (n - 1) cp9 b1 b2 m1 m2 k1 k2) := by
              rw [show lac { L with bz := true, c := f 0, nu := L.nx } xa9 (n - 1) cp9 b1 b2 m1 m2 k1 k2 = wrA (lac { L with bz := true, c := f 0 } xa9 (n - 1) cp9 b1 b2 m1 m2 k1 k2) 11 [.int .i64 L.nx] from (lwr11_1 _ _ _ _ _ _ _ _ _ _ _ _ _ _ _ _ _ _).symm]; exact Blk.stL _ _ H17.out.2.1
            rw [hX18, show lac { L with bz := true, c := f 0, nu := L.nx, nx := nx1 } xa9 (n - 1) cp9 b1 b2 m1 m2 k1 k2 = wrA (lac { L with bz := true, c := f 0, nu := L.nx } xa9 (n - 1) cp9 b1 b2 m1 m2 k1 k2) 14 [.int .i64 nx1] from (lwr14_1 _ _ _ _ _ _ _ _ _ _ _ _ _ _ _ _ _ _).symm]; exact Blk.stL _ _ E1
          clear hX18
          go_upto_region 17 with fail
          rw [← hX17']
          clear hX17' y0 yf
          go_wp2_with fail
          rw [← hX18']
          refine (specTickOn_in now L.wt _ HC.out.2.1 HF.out.1).mono ?_
          rintro e w19 ⟨rfl, hw19⟩
          have hw19 := hw19.symm
          subst hw19
          clear hX18' x11 x14 f11 f14 z14 z15 K17 H17 hw1 hw2 hrm
          have K18 : Blk X18 B 32 (lac L a n cp a1 a2 l1 l2 c1 c2) := H3.out.ar.grown H18.out.1 (by intro e9; have := Option.some.inj e9; omega)
          have z16 : X18.cell? ⟨B, 16, none⟩ = some (.int .i64 L.tr) := K18.cell 16 rfl
          have x12 := H18.out.2.1.cell 12 rfl
          have x13 := H18.out.2.1.cell 13 rfl
          have f12 := H18.out.2.1.fro 12
          have f13 := H18.out.2.1.fro 13
          obtain ⟨X20, hX20⟩ : ∃ X20, X20 = setL (setL X18 hi 12 [.int .i64 (tkO now L.wt)]) hi 13 [.int .i64 L.tr] := ⟨_, rfl⟩
          have hX20' : X20 = (X18.setCell ⟨hi, 12, none⟩ (.int .i64 (tkO now L.wt))).setCell ⟨hi, 13, none⟩ (.int .i64 L.tr) := hX20
          have HM : Hid (SM w B hi L a n cp a1 a2 l1 l2 c1 c2 (n - 1) (fun k => f (k + 1)) (nxL (f 0) now L) xa9 cp9 b1 b2 m1 m2 k1 k2 (.slice (some ⟨hi + 1, 0, none⟩) 0 0) 0 (odL L) (.slice (some ⟨hi + 2, 0, none⟩) 0 0) 0 (tkDn L) X20) := by
            have h3 := H3.out
            have hxl : ExB X18 hi 32 := ⟨_, H18.out.2.1⟩
            have hx0 : ExB w3 hi 32 := ⟨_, h3.bx⟩
            have ga : X18.grownBy X20 (some hi) := by rw [hX20]; exact gr_tr (setL_gw _ _ _) (setL_gw _ _ _) (.inl rfl)
            have gw := gr_tr H18.out.1 ga (.inl rfl)
            have eB := h3.eB; have lB := h3.lB
            have E1 : Blk (setL X18 hi 12 [.int .i64 (tkO now L.wt)]) hi 32 (lac { L with bz := true, c := f 0, nu := L.nx, nx := nx1, du := tkO now L.wt } xa9 (n - 1) cp9 b1 b2 m1 m2 k1 k2) := by
              rw [show lac { L with bz := true, c := f 0, nu := L.nx, nx := nx1, du := tkO now L.wt } xa9 (n - 1) cp9 b1 b2 m1 m2 k1 k2 = wrA (lac { L with bz := true, c := f 0, nu := L.nx, nx := nx1 } xa9 (n - 1) cp9 b1 b2 m1 m2 k1 k2) 12 [.int .i64 (tkO now L.wt)] from (lwr12_1 _ _ _ _ _ _ _ _ _ _ _ _ _ _ _ _ _ _).symm]; exact Blk.stL _ _ H18.out.2.1
            refine ⟨HT.out X20 _ _ _ _ gw hx0 rfl (row_noT H18.out.2.2 ga hxl (by decide)), ?_, h3.ar.grown gw (by intro e9; have := Option.some.inj e9; omega), h3.rs.grown gw (by intro e9; have := Option.some.inj e9; omega), h3.bl.grown gw h3.bl.size (fun k hk => by have := Option.some.inj hk; omega), eB, lB, topL_nil _ _ _ _ _ _ _ _ (by have := h3.bl.size; have := gw.size; omega), h3.td.keptT gw hx0 (by decide) (by decide) (by decide) gw.size⟩
            rw [hX20, show nxL (f 0) now L = { L with bz := true, c := f 0, nu := L.nx, nx := nx1, du := tkO now L.wt, le := L.tr } by unfold nxL; rw [HN1.out]; try rfl, show lac { L with bz := true, c := f 0, nu := L.nx, nx := nx1, du := tkO now L.wt, le := L.tr } xa9 (n - 1) cp9 b1 b2 m1 m2 k1 k2 = wrA (lac { L with bz := true, c := f 0, nu := L.nx, nx := nx1, du := tkO now L.wt } xa9 (n - 1) cp9 b1 b2 m1 m2 k1 k2) 13 [.int .i64 L.tr] from (lwr13_1 _ _ _ _ _ _ _ _ _ _ _ _ _ _ _ _ _ _).symm]; exact Blk.stL _ _ E1
          go_upto_region 21 with fail
          rw [← hX20']
          clear hX20' hX20 x12 x13 f12 f13 z16 K18 H18 HT HQ hBh hBh2 HN1 H3
          try go_simp
          refine wp_region_lit ?_
          refine wpList_move_any rfl (.tmp 8) rfl (.slice (some ⟨hi + 1, 0, none⟩) 0 0) rfl ?_
          refine wpList_load_mid rfl 32 (.tmp 7) rfl hi 0 rfl (lacL (nxL (f 0) now L) xa9 (n - 1) cp9 b1 b2 m1 m2 k1 k2) _ HM.out.bx.all Tryz.underlying32 rfl (by kernel_rfl) ?_
          have hrd := HM.out.ln.rd
          go_wp2_with fail
          refine (l12Order_any (nxL (f 0) now L) xa9 b1 b2 (n - 1) cp9 m1 m2 k1 k2 _ HM.out.ln.1 HM.out.ln.2.1 hrd.2.2.2.1 hrd.2.2.2.2 HP.out.2.2.1 HP.out.2.2.2.1).mono ?_
          rintro e w20 ⟨u1, u2, t1, t2, rfl, i1, i2, b20⟩
          have H20 := hide (HM.out.below b20)
          have hq1 := HM.out.ln.1
          have hq2 := HM.out.ln.2.1
          have hws := HM.out.bl.size
          have HI := hide (And.intro (OwnI.mono (show OwnI _ _ _ _ from i1) hws) (OwnB.mono (show OwnB _ _ _ _ from i2) hws))
          clear i1 i2 b20 hrd
          rename_i hK
          refine hK _ _ ?_
          clear hK
          refine wpList_bs rfl 45 1 _ rfl #[(0, .agg (odc (odL (nxL (f 0) now L)) u1 u2 m1 m2 t1 t2))] (by simp only [List.map_toArray, List.map_cons, List.map_nil]; rfl) (.slice (some ⟨w20.heap.size, 0, none⟩) 1 1) (run_bsO _ _ _ _ _ _ _ w20) ?_
          have ba := bel_alloc w20 (.cells (odc (odL (nxL (f 0) now L)) u1 u2 m1 m2 t1 t2) 83)
          obtain ⟨vo9, wo9, w21, hr21, T21, b21⟩ := run_appO 45 ⟨hi + 1, 0, none⟩ w20.heap.size w.heap.size (odL (nxL (f 0) now L)) u1 u2 m1 m2 t1 t2 _ (Blk.new w20 _ _) hq1 hq2 (Nat.le_trans H20.out.bl.size ba.size) (row_bel HI.out.1 ba) (row_bel HI.out.2 ba)
          have HN : Hid (SM w B hi L a n cp a1 a2 l1 l2 c1 c2 (n - 1) (fun k => f (k + 1)) (nxL (f 0) now L) xa9 cp9 b1 b2 m1 m2 k1 k2 (.slice vo9 1 wo9) 1 (odL (nxL (f 0) now L)) (.slice (some ⟨hi + 2, 0, none⟩) 0 0) 0 (tkDn L) w21) := by
            have h9 := H20.out.below (bel_nx ba b21)
            exact ⟨h9.ln, h9.bx, h9.ar, h9.rs, h9.bl, h9.eB, h9.lB, T21, h9.td⟩
          clear T21 b21 ba H20 HI hq1 hq2 hws HM
          refine wpList_run_w rfl _ (run_app_op rfl rfl rfl hr21) ?_
          clear hr21
          go_upto_region 22 with fail
          try go_simp
          refine wp_region_lit ?_
          refine wpList_load_mid rfl 32 (.tmp 7) rfl hi 0 rfl (lacL (nxL (f 0) now L) xa9 (n - 1) cp9 b1 b2 m1 m2 k1 k2) _ HN.out.bx.all Tryz.underlying32 rfl (by kernel_rfl) ?_
          refine wpList_move_any rfl (.tmp 8) rfl (.slice vo9 1 wo9) rfl ?_
          refine wpList_move_any rfl (.tmp 9) rfl (.slice (some ⟨hi + 2, 0, none⟩) 0 0) rfl ?_
          refine wpList_store_mid rfl 32 (.tmp 4) (.tmp 108) rfl (B + 1) 0 (lac (nxL (f 0) now L) xa9 (n - 1) cp9 b1 b2 m1 m2 k1 k2) rfl rfl (HN.out.rs.there 0 17 (by simp)) (by kernel_rfl) (by simp [Value.oneCell']) ?_
          rw [setCells_L]
          obtain ⟨W9, hW9⟩ : ∃ W9, W9 = setL w21 (B + 1) 0 (lacL (nxL (f 0) now L) xa9 (n - 1) cp9 b1 b2 m1 m2 k1 k2) := ⟨_, rfl⟩
          have H9 : Hid (Blk W9 (B + 1) 32 (lac (nxL (f 0) now L) xa9 (n - 1) cp9 b1 b2 m1 m2 k1 k2) ∧ TkS w W9 (.returned (.tuple #[.agg (lac (nxL (f 0) now L) xa9 (n - 1) cp9 b1 b2 m1 m2 k1 k2), (.slice vo9 1 wo9), (.slice (some ⟨hi + 2, 0, none⟩) 0 0)])) (n - 1) (fun k => f (k + 1)) (nxL (f 0) now L) 1 (odL (nxL (f 0) now L)) 0 (tkDn L)) := by
            have h3 := HN.out
            have g1 : w21.grownBy W9 (some (B + 1)) := by rw [hW9]; exact setL_gw _ _ _
            have eB := h3.eB; have lB := h3.lB
            have hx : ExB w21 (B + 1) 32 := ⟨_, h3.rs⟩
            have q1 := h3.ln.1
            have q2 := h3.ln.2.1
            refine ⟨by rw [hW9, show lac (nxL (f 0) now L) xa9 (n - 1) cp9 b1 b2 m1 m2 k1 k2 = wrA lzc 0 (lacL (nxL (f 0) now L) xa9 (n - 1) cp9 b1 b2 m1 m2 k1 k2) from (lwr0_17 _ _ _ _ _ _ _ _ _ _ _ _ _ _ _ _ _ _ _ _ _ _ _ _ _ _ _ _ _ _ _ _ _ _).symm]; exact Blk.stL _ _ h3.rs, ?_⟩
            refine ⟨xa9, cp9, b1, b2, k1, k2, _, _, _, _, by rw [← q1, ← q2], by rw [← q1, ← q2]; exact h3.ln.keptT g1 hx (by decide) (by decide) (by decide), h3.ot.keptT g1 hx (by decide) (by decide) (by decide) g1.size, h3.td.keptT g1 hx (by decide) (by decide) (by decide) g1.size, by rw [hW9]; exact setL_below (by omega) _ _ _ h3.bl⟩
          rw [show setL w21 (B + 1) 0 (lac (nxL (f 0) now L) xa9 (n - 1) cp9 b1 b2 m1 m2 k1 k2).toList = W9 from hW9.symm]
          clear hW9 HC H0 HN
          go_wp2
          refine bodyPost_ret (v := .tuple #[.agg (lac (nxL (f 0) now L) xa9 (n - 1) cp9 b1 b2 m1 m2 k1 k2), (.slice vo9 1 wo9), (.slice (some ⟨hi + 2, 0, none⟩) 0 0)]) (results_cell2 Tryz.results14 rfl rfl rfl (run_loadVar_mid _ _ _ 32 (lacL (nxL (f 0) now L) xa9 (n - 1) cp9 b1 b2 m1 m2 k1 k2) _ H9.out.1.all Tryz.underlying32 rfl (by kernel_rfl))) rfl ?_
          exact H9.out.2
      | true =>
        have z12 : w3.cell? ⟨B, 12, none⟩ = some (.int .i64 L.du) := H3.out.ar.cell 12 rfl
        have z13 : w3.cell? ⟨B, 13, none⟩ = some (.int .i64 L.le) := H3.out.ar.cell 13 rfl
        go_wp2_with fail
        refine (specTickDue_in now L.du _ HC.out.2.1 (HF.out.2.2 HZ.out).1).mono ?_
        rintro e w5 ⟨rfl, hw5⟩
        have hw5 := hw5.symm
        subst hw5
        rw [HC.out.2.2.1]
        cases dz with
        | false =>
          go_upto_region 22 with fail
          try go_simp
          refine wp_region_lit ?_
          refine wpList_load_mid rfl 32 (.tmp 7) rfl hi 0 rfl (lacL L a6 n cp6 r1 r2 l1 l2 d1 d2) _ H3.out.bx.all Tryz.underlying32 rfl (by kernel_rfl) ?_
          refine wpList_move_any rfl (.tmp 8) rfl (.slice (some ⟨hi + 1, 0, none⟩) 0 0) rfl ?_
          refine wpList_move_any rfl (.tmp 9) rfl (.slice (some ⟨hi + 2, 0, none⟩) 0 0) rfl ?_
          refine wpList_store_mid rfl 32 (.tmp 4) (.tmp 108) rfl (B + 1) 0 (lac L a6 n cp6 r1 r2 l1 l2 d1 d2) rfl rfl (H3.out.rs.there 0 17 (by simp)) (by kernel_rfl) (by simp [Value.oneCell']) ?_
          rw [setCells_L]
          obtain ⟨W9, hW9⟩ : ∃ W9, W9 = setL w3 (B + 1) 0 (lacL L a6 n cp6 r1 r2 l1 l2 d1 d2) := ⟨_, rfl⟩
          have H9 : Hid (Blk W9 (B + 1) 32 (lac L a6 n cp6 r1 r2 l1 l2 d1 d2) ∧ TkS w W9 (.returned (.tuple #[.agg (lac L a6 n cp6 r1 r2 l1 l2 d1 d2), (.slice (some ⟨hi + 1, 0, none⟩) 0 0), (.slice (some ⟨hi + 2, 0, none⟩) 0 0)])) n f L 0 (odL L) 0 (tkDn L)) := by
            have h3 := H3.out
            have g1 : w3.grownBy W9 (some (B + 1)) := by rw [hW9]; exact setL_gw _ _ _
            have eB := h3.eB; have lB := h3.lB
            have hx : ExB w3 (B + 1) 32 := ⟨_, h3.rs⟩
            have q1 := h3.ln.1
            have q2 := h3.ln.2.1
            refine ⟨by rw [hW9, show lac L a6 n cp6 r1 r2 l1 l2 d1 d2 = wrA lzc 0 (lacL L a6 n cp6 r1 r2 l1 l2 d1 d2) from (lwr0_17 _ _ _ _ _ _ _ _ _ _ _ _ _ _ _ _ _ _ _ _ _ _ _ _ _ _ _ _ _ _ _ _ _ _).symm]; exact Blk.stL _ _ h3.rs, ?_⟩
            refine ⟨a6, cp6, r1, r2, d1, d2, _, _, _, _, by rw [← q1, ← q2], by rw [← q1, ← q2]; exact h3.ln.keptT g1 hx (by decide) (by decide) (by decide), h3.ot.keptT g1 hx (by decide) (by decide) (by decide) g1.size, h3.td.keptT g1 hx (by decide) (by decide) (by decide) g1.size, by rw [hW9]; exact setL_below (by omega) _ _ _ h3.bl⟩
          rw [show setL w3 (B + 1) 0 (lac L a6 n cp6 r1 r2 l1 l2 d1 d2).toList = W9 from hW9.symm]
          clear hW9 HC H0 H3
          go_wp2
          refine bodyPost_ret (v := .tuple #[.agg (lac L a6 n cp6 r1 r2 l1 l2 d1 d2), (.slice (some ⟨hi + 1, 0, none⟩) 0 0), (.slice (some ⟨hi + 2, 0, none⟩) 0 0)]) (results_cell2 Tryz.results14 rfl rfl rfl (run_loadVar_mid _ _ _ 32 (lacL L a6 n cp6 r1 r2 l1 l2 d1 d2) _ H9.out.1.all Tryz.underlying32 rfl (by kernel_rfl))) rfl ?_
          exact H9.out.2
        | true =>
          cases lz with
          | true =>
            have hle : 0 < L.le := of_decide_eq_true hlz
            have hwr : IntKind.i64.wrap (L.le - 1) = L.le - 1 := by have := (HF.out.2.2 HZ.out).2.1; rw [IntKind.wrap_i64]; omega
            have x13 := H3.out.bx.cell 13 rfl
            have f13 := H3.out.bx.fro 13
            have z15 : w3.cell? ⟨B, 15, none⟩ = some (.int .i64 L.wt) := H3.out.ar.cell 15 rfl
            have hBh : ¬ B = hi := by have := H3.out.lB; omega
            have hBh2 : ¬ hi = B := fun e => hBh e.symm
            obtain ⟨X8, hX8⟩ : ∃ X8, X8 = setL w3 hi 13 [.int .i64 (L.le - 1)] := ⟨_, rfl⟩
            have hX8' : X8 = w3.setCell ⟨hi, 13, none⟩ (.int .i64 (L.le - 1)) := hX8
            have H8 : Hid (SM w B hi L a n cp a1 a2 l1 l2 c1 c2 n f { L with le := L.le - 1 } a6 cp6 r1 r2 l1 l2 d1 d2 (.slice (some ⟨hi + 1, 0, none⟩) 0 0) 0 (odL L) (.slice (some ⟨hi + 2, 0, none⟩) 0 0) 0 (tkDn L) X8) := by rw [hX8]; exact H3.out.put (cs := #[]) 13 _ rfl (lwr13_1 _ _ _ _ _ _ _ _ _ _ _ _ _ _ _ _ _ _)
            clear hX8
            go_wp2_with fail
            rw [← hX8']
            refine (specTickOn_in now L.wt _ HC.out.2.1 HF.out.1).mono ?_
            rintro e w19 ⟨rfl, hw19⟩
            have hw19 := hw19.symm
            subst hw19
            clear hX8' x13 f13 z15 y0 y1 z1 z12 z13 hwr H3
            have x12 := H8.out.bx.cell 12 rfl
            have f12 := H8.out.bx.fro 12
            obtain ⟨X9, hX9⟩ : ∃ X9, X9 = setL X8 hi 12 [.int .i64 (tkO now L.wt)] := ⟨_, rfl⟩
            have hX9' : X9 = X8.setCell ⟨hi, 12, none⟩ (.int .i64 (tkO now L.wt)) := hX9
            have HM : Hid (SM w B hi L a n cp a1 a2 l1 l2 c1 c2 n f (agL now L) a6 cp6 r1 r2 l1 l2 d1 d2 (.slice (some ⟨hi + 1, 0, none⟩) 0 0) 0 (odL L) (.slice (some ⟨hi + 2, 0, none⟩) 0 0) 0 (tkDn L) X9) := by rw [hX9]; exact H8.out.put (cs := #[]) 12 _ rfl (lwr12_1 _ _ _ _ _ _ _ _ _ _ _ _ _ _ _ _ _ _)
            clear hX9
            go_upto_region 10 with fail
            rw [← hX9']
            clear hX9' x12 f12 H8 hBh hBh2
            try go_simp
            refine wp_region_lit ?_
            refine wpList_move_any rfl (.tmp 8) rfl (.slice (some ⟨hi + 1, 0, none⟩) 0 0) rfl ?_
            refine wpList_load_mid rfl 32 (.tmp 7) rfl hi 0 rfl (lacL (agL now L) a6 n cp6 r1 r2 l1 l2 d1 d2) _ HM.out.bx.all Tryz.underlying32 rfl (by kernel_rfl) ?_
            have hrd := HM.out.ln.rd
            go_wp2_with fail
            refine (l12Order_any (agL now L) a6 r1 r2 n cp6 l1 l2 d1 d2 _ HM.out.ln.1 HM.out.ln.2.1 hrd.2.2.2.1 hrd.2.2.2.2 hl1 hl2).mono ?_
            rintro e w20 ⟨u1, u2, t1, t2, rfl, i1, i2, b20⟩
            have H20 := hide (HM.out.below b20)
            have hq1 := HM.out.ln.1
            have hq2 := HM.out.ln.2.1
            have hws := HM.out.bl.size
            have HI := hide (And.intro (OwnI.mono (show OwnI _ _ _ _ from i1) hws) (OwnB.mono (show OwnB _ _ _ _ from i2) hws))
            clear i1 i2 b20 hrd
            rename_i hK
            refine hK _ _ ?_
            clear hK
            have HOE : odL (agL now L) = (odL L) := rfl
            rw [HOE]
            refine wpList_bs rfl 45 1 _ rfl #[(0, .agg (odc (odL L) u1 u2 l1 l2 t1 t2))] (by simp only [List.map_toArray, List.map_cons, List.map_nil]; rfl) (.slice (some ⟨w20.heap.size, 0, none⟩) 1 1) (run_bsO _ _ _ _ _ _ _ w20) ?_
            have ba := bel_alloc w20 (.cells (odc (odL L) u1 u2 l1 l2 t1 t2) 83)
            obtain ⟨vo9, wo9, w21, hr21, T21, b21⟩ := run_appO 45 ⟨hi + 1, 0, none⟩ w20.heap.size w.heap.size (odL L) u1 u2 l1 l2 t1 t2 _ (Blk.new w20 _ _) hq1 hq2 (Nat.le_trans H20.out.bl.size ba.size) (row_bel HI.out.1 ba) (row_bel HI.out.2 ba)
            have HN : Hid (SM w B hi L a n cp a1 a2 l1 l2 c1 c2 n f (agL now L) a6 cp6 r1 r2 l1 l2 d1 d2 (.slice vo9 1 wo9) 1 (odL L) (.slice (some ⟨hi + 2, 0, none⟩) 0 0) 0 (tkDn L) w21) := by
              have h9 := H20.out.below (bel_nx ba b21)
              exact ⟨h9.ln, h9.bx, h9.ar, h9.rs, h9.bl, h9.eB, h9.lB, T21, h9.td⟩
            clear T21 b21 ba H20 HI hq1 hq2 hws HM HOE
            refine wpList_run_w rfl _ (run_app_op rfl rfl rfl hr21) ?_
            clear hr21
            have y1 : w21.cell? ⟨hi, 1, none⟩ = some (.bool L.bz) := HN.out.bx.cell 1 rfl
            rw [HZ.out] at y1
            go_upto_region 22 with fail
            try go_simp
            refine wp_region_lit ?_
            refine wpList_load_mid rfl 32 (.tmp 7) rfl hi 0 rfl (lacL (agL now L) a6 n cp6 r1 r2 l1 l2 d1 d2) _ HN.out.bx.all Tryz.underlying32 rfl (by kernel_rfl) ?_
            refine wpList_move_any rfl (.tmp 8) rfl (.slice vo9 1 wo9) rfl ?_
            refine wpList_move_any rfl (.tmp 9) rfl (.slice (some ⟨hi + 2, 0, none⟩) 0 0) rfl ?_
            refine wpList_store_mid rfl 32 (.tmp 4) (.tmp 108) rfl (B + 1) 0 (lac (agL now L) a6 n cp6 r1 r2 l1 l2 d1 d2) rfl rfl (HN.out.rs.there 0 17 (by simp)) (by kernel_rfl) (by simp [Value.oneCell']) ?_
            rw [setCells_L]
            obtain ⟨W9, hW9⟩ : ∃ W9, W9 = setL w21 (B + 1) 0 (lacL (agL now L) a6 n cp6 r1 r2 l1 l2 d1 d2) := ⟨_, rfl⟩
            have H9 : Hid (Blk W9 (B + 1) 32 (lac (agL now L) a6 n cp6 r1 r2 l1 l2 d1 d2) ∧ TkS w W9 (.returned (.tuple #[.agg (lac (agL now L) a6 n cp6 r1 r2 l1 l2 d1 d2), (.slice vo9 1 wo9), (.slice (some ⟨hi + 2, 0, none⟩) 0 0)])) n f (agL now L) 1 (odL L) 0 (tkDn L)) := by
              have h3 := HN.out
              have g1 : w21.grownBy W9 (some (B + 1)) := by rw [hW9]; exact setL_gw _ _ _
              have eB := h3.eB; have lB := h3.lB
              have hx : ExB w21 (B + 1) 32 := ⟨_, h3.rs⟩
              have q1 := h3.ln.1
              have q2 := h3.ln.2.1
              refine ⟨by rw [hW9, show lac (agL now L) a6 n cp6 r1 r2 l1 l2 d1 d2 = wrA lzc 0 (lacL (agL now L) a6 n cp6 r1 r2 l1 l2 d1 d2) from (lwr0_17 _ _ _ _ _ _ _ _ _ _ _ _ _ _ _ _ _ _ _ _ _ _ _ _ _ _ _ _ _ _ _ _ _ _).symm]; exact Blk.stL _ _ h3.rs, ?_⟩
              refine ⟨a6, cp6, r1, r2, d1, d2, _, _, _, _, by rw [← q1, ← q2], by rw [← q1, ← q2]; exact h3.ln.keptT g1 hx (by decide) (by decide) (by decide), h3.ot.keptT g1 hx (by decide) (by decide) (by decide) g1.size, h3.td.keptT g1 hx (by decide) (by decide) (by decide) g1.size, by rw [hW9]; exact setL_below (by omega) _ _ _ h3.bl⟩
            rw [show setL w21 (B + 1) 0 (lac (agL now L) a6 n cp6 r1 r2 l1 l2 d1 d2).toList = W9 from hW9.symm]
            clear hW9 HC H0 HN
            go_wp2
            refine bodyPost_ret (v := .tuple #[.agg (lac (agL now L) a6 n cp6 r1 r2 l1 l2 d1 d2), (.slice vo9 1 wo9), (.slice (some ⟨hi + 2, 0, none⟩) 0 0)]) (results_cell2 Tryz.results14 rfl rfl rfl (run_loadVar_mid _ _ _ 32 (lacL (agL now L) a6 n cp6 r1 r2 l1 l2 d1 d2) _ H9.out.1.all Tryz.underlying32 rfl (by kernel_rfl))) rfl ?_
            exact H9.out.2
          | false =>
            have hle : ¬ 0 < L.le := of_decide_eq_false hlz
            go_upto_region 11 with fail
            clear y0 y1 z1 z12 z13
            try go_simp
            refine wp_region_any (by kernel_rfl) ?_
            refine wpAny_valy (Rg9 (fun u => SM w B hi L a n cp a1 a2 l1 l2 c1 c2 n f L a6 cp6 r1 r2 l1 l2 d1 d2 (.slice (some ⟨hi + 1, 0, none⟩) 0 0) 0 (odL L) (.slice (some ⟨hi + 2, 0, none⟩) 0 0) 0 (tkDn L) u) 14 9 (.slice (some ⟨hi + 2, 0, none⟩) 0 0)) (fun u u' => Below u.heap.size u u') (fun i v u => match i with
              | 0 => v = .slice (some ⟨hi + 2, 0, none⟩) 0 0
              | 1 => v = .pointer (some ⟨B, 2, none⟩)
              | 2 => v = .pointer (some ⟨B, 2, none⟩)
              | 3 => v = .int .i64 L.c.id
              | 4 => v = .pointer (some ⟨B, 2, none⟩)
              | 5 => v = .pointer (some ⟨B, 3, none⟩)
              | 6 => v = .int .i64 L.c.pa
              | 7 => v = .pointer (some ⟨B, 2, none⟩)
              | 8 => v = .pointer (some ⟨B, 5, none⟩)
              | 9 => v = .agg (rqL L.c.kd L.c.pl L.c.n L.c.wa a1 a2 l1 l2 c1 c2)
              | 10 => v = .agg (rpL L.c.kd 11 0 0 none none 0 0 0 0)
              | 11 => v = .agg (dnd (tkDn L) none none 0 0 0 0)
              | 12 => ∃ g, v = .slice (some ⟨g, 0, none⟩) 1 1 ∧ Blk u g 43 (dnd (tkDn L) none none 0 0 0 0)
              | 13 => ∃ va vc, v = .slice va 1 vc ∧ TopL u w.heap.size u.heap.size 43 8 (.slice va 1 vc) 1 (fun _ => dnE (tkDn L))
              | 14 => ∃ va vc, v = .slice va 1 vc ∧ TopL u w.heap.size u.heap.size 43 8 (.slice va 1 vc) 1 (fun _ => dnE (tkDn L))
              | _ => True) (by kernel_rfl) (by kernel_rfl) ?_ (fun u => Below.refl _ _) ⟨by first | exact H3.out | exact H3.out.below ((Below.refl _ _).drew), fun _ => rfl⟩ ?_ ?_ _ _ rfl (by decide) (fun i => by simp [Array.getD]; try (split <;> rfl))
            · intro i v u u' h hm
              match i with
              | 12 =>
                obtain ⟨g, e, h1⟩ := h
                exact ⟨g, e, h1.below hm⟩
              | 13 =>
                obtain ⟨va, vc, e, h1⟩ := h
                exact ⟨va, vc, e, h1.below9 hm hm.size⟩
              | 14 =>
                obtain ⟨va, vc, e, h1⟩ := h
                exact ⟨va, vc, e, h1.below9 hm hm.size⟩
              | 0 | 1 | 2 | 3 | 4 | 5 | 6 | 7 | 8 | 9 | 10 | 11 => exact h
              | _ + 15 => trivial
            rotate_left
            · intro u i o ρ l hR ho hli hcl hρ hc hf hdep hv
              have hi' : i < 15 := by
                have := (Array.getElem?_eq_some_iff.1 ho).1
                simpa using this
              obtain rfl | rfl | rfl | rfl | rfl | rfl | rfl | rfl | rfl | rfl | rfl | rfl | rfl | rfl | rfl : i = 0 ∨ i = 1 ∨ i = 2 ∨ i = 3 ∨ i = 4 ∨ i = 5 ∨ i = 6 ∨ i = 7 ∨ i = 8 ∨ i = 9 ∨ i = 10 ∨ i = 11 ∨ i = 12 ∨ i = 13 ∨ i = 14 := by omega
              all_goals (simp only [List.getElem?_toArray, List.getElem?_cons_zero, List.getElem?_cons_succ, Option.some.injEq] at ho; subst ho)
              · have l14 : l 14 = false := by
                  cases h : l 14 with
                  | false => rfl
                  | true =>
                    have k13 := hcl 14 _ rfl h ⟨13, .data⟩ (by simp) rfl
                    have k0 := hcl 13 _ rfl k13 ⟨0, .data⟩ (by simp) rfl
                    rw [hli] at k0; cases k0
                have s9 : ρ (.tmp 9) = .slice (some ⟨hi + 2, 0, none⟩) 0 0 := hR.2 l14
                exact .inl ⟨rfl, .inl ⟨_, u, rfl, s9, (hR.next (by decide) (by decide) hR.1), Below.refl _ _⟩⟩
              · have s2 : ρ (.tmp 2) = .pointer (some ⟨B, 0, none⟩) := (hρ 2 (by kernel_rfl)).trans rfl
                exact .inl ⟨rfl, .inl ⟨.pointer (some ⟨B, 2, none⟩), u, run_field_op rfl s2 (by go_simp), rfl, (hR.next (by decide) (by decide) hR.1), Below.refl _ _⟩⟩
              · have h1 : ρ (.tmp 51) = .pointer (some ⟨B, 2, none⟩) := hv 1 51 rfl (hdep ⟨1, .data⟩ (by simp) rfl)
                exact .inl ⟨rfl, .inl ⟨.pointer (some ⟨B, 2, none⟩), u, run_field_op rfl h1 (by go_simp), rfl, (hR.next (by decide) (by decide) hR.1), Below.refl _ _⟩⟩
              · have h2 : ρ (.tmp 52) = .pointer (some ⟨B, 2, none⟩) := hv 2 52 rfl (hdep ⟨2, .data⟩ (by simp) rfl)
                obtain ⟨⟨y0, y1, y2, y3, y4, y5, y6, y7, y8, y9, y10, y11, y12, y13, y14, y15, y16⟩, _⟩ := hR.1.ar.svn
                have hr : (Instr.loadAt 3 (.pointer (some ⟨B, 2, none⟩))).run Tryz.prog u = .ok (.int .i64 L.c.id) u := by go_simp
                exact .inl ⟨rfl, .inl ⟨_, u, run_load_op rfl h2 hr, rfl, (hR.next (by decide) (by decide) hR.1), Below.refl _ _⟩⟩
              · have s2 : ρ (.tmp 2) = .pointer (some ⟨B, 0, none⟩) := (hρ 2 (by kernel_rfl)).trans rfl
                exact .inl ⟨rfl, .inl ⟨.pointer (some ⟨B, 2, none⟩), u, run_field_op rfl s2 (by go_simp), rfl, (hR.next (by decide) (by decide) hR.1), Below.refl _ _⟩⟩
              · have h4 : ρ (.tmp 54) = .pointer (some ⟨B, 2, none⟩) := hv 4 54 rfl (hdep ⟨4, .data⟩ (by simp) rfl)
                exact .inl ⟨rfl, .inl ⟨.pointer (some ⟨B, 3, none⟩), u, run_field_op rfl h4 (by go_simp), rfl, (hR.next (by decide) (by decide) hR.1), Below.refl _ _⟩⟩
              · have h5 : ρ (.tmp 55) = .pointer (some ⟨B, 3, none⟩) := hv 5 55 rfl (hdep ⟨5, .data⟩ (by simp) rfl)
                obtain ⟨⟨y0, y1, y2, y3, y4, y5, y6, y7, y8, y9, y10, y11, y12, y13, y14, y15, y16⟩, _⟩ := hR.1.ar.svn
                have hr : (Instr.loadAt 3 (.pointer (some ⟨B, 3, none⟩))).run Tryz.prog u = .ok (.int .i64 L.c.pa) u := by go_simp
                exact .inl ⟨rfl, .inl ⟨_, u, run_load_op rfl h5 hr, rfl, (hR.next (by decide) (by decide) hR.1), Below.refl _ _⟩⟩
              · have s2 : ρ (.tmp 2) = .pointer (some ⟨B, 0, none⟩) := (hρ 2 (by kernel_rfl)).trans rfl
                exact .inl ⟨rfl, .inl ⟨.pointer (some ⟨B, 2, none⟩), u, run_field_op rfl s2 (by go_simp), rfl, (hR.next (by decide) (by decide) hR.1), Below.refl _ _⟩⟩
              · have h7 : ρ (.tmp 57) = .pointer (some ⟨B, 2, none⟩) := hv 7 57 rfl (hdep ⟨7, .data⟩ (by simp) rfl)
                exact .inl ⟨rfl, .inl ⟨.pointer (some ⟨B, 5, none⟩), u, run_field_op rfl h7 (by go_simp), rfl, (hR.next (by decide) (by decide) hR.1), Below.refl _ _⟩⟩
              · have h8 : ρ (.tmp 58) = .pointer (some ⟨B, 5, none⟩) := hv 8 58 rfl (hdep ⟨8, .data⟩ (by simp) rfl)
                exact .inl ⟨rfl, .inl ⟨_, u, run_load_op rfl h8 (run_loadAt_mid u B 5 28 (rqLL L.c.kd L.c.pl L.c.n L.c.wa a1 a2 l1 l2 c1 c2) _ (lac_req hR.1.ar) Tryz.underlying28 rfl (by kernel_rfl)), rfl, (hR.next (by decide) (by decide) hR.1), Below.refl _ _⟩⟩
              · have h9 : ρ (.tmp 59) = .agg (rqL L.c.kd L.c.pl L.c.n L.c.wa a1 a2 l1 l2 c1 c2) := hv 9 59 rfl (hdep ⟨9, .data⟩ (by simp) rfl)
                refine .inl ⟨rfl, .inr (.inl ⟨_, _, run_call_op rfl (hf _) (args := #[.agg (rqL L.c.kd L.c.pl L.c.n L.c.wa a1 a2 l1 l2 c1 c2), .int .i64 11]) (by simp [h9, hc]) (by kernel_rfl), ?_⟩)⟩
                have hln := H0.out.1.below hR.1.bl
                refine (specFaultOf_q L.c.kd L.c.pl L.c.n L.c.wa a1 a2 l1 l2 c1 c2 L.c.ws L.c.bs 11 _ hln.1 hln.2.1 hln.2.2.2.1 hln.2.2.2.2 (by rw [← hln.1]; exact hl1) (by rw [← hln.2.1]; exact hl2)).mono ?_
                rintro e u' ⟨he, b'⟩
                rw [show (okR L.c.kd L.c.pl L.c.n L.c.wa L.c.ws l1 l2 && inB 11 1 255) = true by rw [HC.out.2.2.2.1, HC.out.2.2.2.2, (HF.out.2.2 HZ.out).2.2]; decide] at he
                exact ⟨_, he, rfl, hR.next (by decide) (by decide) (hR.1.below b'), b'⟩
              · have h3 : ρ (.tmp 53) = .int .i64 L.c.id := hv 3 53 rfl (hdep ⟨3, .data⟩ (by simp) rfl)
                have h6 : ρ (.tmp 56) = .int .i64 L.c.pa := hv 6 56 rfl (hdep ⟨6, .data⟩ (by simp) rfl)
                have h10 : ρ (.tmp 60) = .agg (rpL L.c.kd 11 0 0 none none 0 0 0 0) := hv 10 60 rfl (hdep ⟨10, .data⟩ (by simp) rfl)
                exact .inl ⟨rfl, .inl ⟨.agg (dnd (tkDn L) none none 0 0 0 0), u, run_bld_op rfl (qs := #[(0, .int .i64 L.c.id), (1, .int .i64 L.c.pa), (2, .agg (rpL L.c.kd 11 0 0 none none 0 0 0 0))]) (by simp only [List.map_toArray, List.map_cons, List.map_nil, h3, h6, h10]) (by kernel_rfl), rfl, (hR.next (by decide) (by decide) hR.1), Below.refl _ _⟩⟩
              · have h11 : ρ (.tmp 61) = .agg (dnd (tkDn L) none none 0 0 0 0) := hv 11 61 rfl (hdep ⟨11, .data⟩ (by simp) rfl)
                have ba := bel_alloc u (.cells (dnd (tkDn L) none none 0 0 0 0) 43)
                exact .inl ⟨rfl, .inl ⟨_, _, run_bs_op rfl (qs := #[(0, .agg (dnd (tkDn L) none none 0 0 0 0))]) (by simp only [List.map_toArray, List.map_cons, List.map_nil, h11]) (run_bsD _ _ _ _ _ _ _ u), ⟨_, rfl, Blk.new u _ _⟩, hR.next (by decide) (by decide) (hR.1.below ba), ba⟩⟩
              · have h0 : ρ (.tmp 50) = .slice (some ⟨hi + 2, 0, none⟩) 0 0 := hv 0 50 rfl (hdep ⟨0, .data⟩ (by simp) rfl)
                obtain ⟨g, h12, X12⟩ : ∃ g, ρ (.tmp 62) = .slice (some ⟨g, 0, none⟩) 1 1 ∧ Blk u g 43 (dnd (tkDn L) none none 0 0 0 0) := hv 12 62 rfl (hdep ⟨12, .data⟩ (by simp) rfl)
                obtain ⟨va, vc, u9, hr9, T9, b9⟩ := run_appD 39 ⟨hi + 2, 0, none⟩ g w.heap.size (tkDn L) none none 0 0 0 0 u X12 rfl rfl hR.1.bl.size (ownI_nil9 _ _) (ownB_nil9 _ _)
                exact .inl ⟨rfl, .inl ⟨_, _, run_app_op rfl h0 h12 hr9, ⟨va, vc, rfl, T9⟩, hR.next (by decide) (by decide) (hR.1.below b9), b9⟩⟩
              · obtain ⟨va, vc, h13, T13⟩ : ∃ va vc, ρ (.tmp 63) = .slice va 1 vc ∧ TopL u w.heap.size u.heap.size 43 8 (.slice va 1 vc) 1 (fun _ => dnE (tkDn L)) := hv 13 63 rfl (hdep ⟨13, .data⟩ (by simp) rfl)
                exact .inl ⟨rfl, .inl ⟨_, u, rfl, ⟨va, vc, h13, T13⟩, ⟨hR.1, fun h => by have h9 : updB l 14 14 = true := rfl; rw [h9] at h; cases h⟩, Below.refl _ _⟩⟩
            intro vs σ w8 hR hσ hall
            obtain ⟨vd9, wd9, e9, T9⟩ := hall 14 9 rfl
            have H8 : Hid (SM w B hi L a n cp a1 a2 l1 l2 c1 c2 n f L a6 cp6 r1 r2 l1 l2 d1 d2 (.slice (some ⟨hi + 1, 0, none⟩) 0 0) 0 (odL L) (.slice (some ⟨hi + 2, 0, none⟩) 0 0) 0 (tkDn L) w8 ∧ TopL w8 w.heap.size w8.heap.size 43 8 (.slice vd9 1 wd9) 1 (fun _ => dnE (tkDn L))) := ⟨hR.1, T9⟩
            simp only [putsL]
            rw [e9]
            clear hall hσ T9 e9 hR H3
            go_upto_region 12 with fail
            try go_simp
            refine wp_region_lit ?_
            refine wpList_load_mid rfl 32 (.tmp 7) rfl hi 0 rfl (lacL L a6 n cp6 r1 r2 l1 l2 d1 d2) _ H8.out.1.bx.all Tryz.underlying32 rfl (by kernel_rfl) ?_
            go_wp2_with fail
            refine (l12Free_any L a6 r1 r2 n cp6 l1 l2 d1 d2 _).mono ?_
            rintro e w8b ⟨rfl, b8⟩
            obtain ⟨w9, hw9⟩ : ∃ w9, w9 = setL w8b hi 0 (lacL (freeL L) a6 n cp6 none none 0 0 0 0) := ⟨_, rfl⟩
            have HE : Hid (SM w B hi L a n cp a1 a2 l1 l2 c1 c2 n f (freeL L) a6 cp6 none none 0 0 0 0 (.slice (some ⟨hi + 1, 0, none⟩) 0 0) 0 (odL L) (.slice vd9 1 wd9) 1 (tkDn L) w9) := by
              have h3 := H8.out.1.below b8
              have hx : ExB w8b hi 32 := ⟨_, h3.bx⟩
              have eB := h3.eB; have lB := h3.lB
              have g : w8b.grownBy w9 (some hi) := by rw [hw9]; exact setL_gw _ _ _
              have td8 := H8.out.2.below9 b8 b8.size
              refine ⟨((h3.ln.pb.free).keptT g hx (by decide) (by decide) (by decide)).p, ?_, by rw [hw9]; exact Blk.stNe (by omega) _ _ h3.ar, by rw [hw9]; exact Blk.stNe (by omega) _ _ h3.rs, by rw [hw9]; exact setL_below (by omega) _ _ _ h3.bl, eB, lB, h3.ot.keptT g hx (by decide) (by decide) (by decide) g.size, td8.keptT g hx (by decide) (by decide) (by decide) g.size⟩
              rw [hw9, show lac (freeL L) a6 n cp6 none none 0 0 0 0 = wrA (lac L a6 n cp6 r1 r2 l1 l2 d1 d2) 0 (lacL (freeL L) a6 n cp6 none none 0 0 0 0) from (lwr0_17 _ _ _ _ _ _ _ _ _ _ _ _ _ _ _ _ _ _ _ _ _ _ _ _ _ _ _ _ _ _ _ _ _ _).symm]; exact Blk.stL _ _ h3.bx
            have h8b := H8.out.1.bx.below b8
            rename_i hK
            refine hK _ _ ?_
            clear hK
            refine wpList_store_mid rfl 32 (.tmp 7) (.tmp 65) rfl hi 0 (lac (freeL L) a6 n cp6 none none 0 0 0 0) rfl rfl (h8b.there 0 17 (by simp)) (by kernel_rfl) (by simp [Value.oneCell']) ?_
            rw [setCells_L, show setL w8b hi 0 (lac (freeL L) a6 n cp6 none none 0 0 0 0).toList = w9 from hw9.symm]
            clear hw9 b8 h8b H8
            refine wpList_nil ?_
            have y1 : w9.cell? ⟨hi, 1, none⟩ = some (.bool false) := HE.out.bx.cell 1 rfl
            have y0 : w9.cell? ⟨hi, 0, none⟩ = some (.slice a6 n cp6) := HE.out.bx.cell 0 rfl
            cases nz with
            | false =>
              have hn0 : ¬ (0 : Int) < (n : Int) := by have := of_decide_eq_false hnz; omega
              go_upto_region 22 with fail
              try go_simp
              refine wp_region_lit ?_
              refine wpList_load_mid rfl 32 (.tmp 7) rfl hi 0 rfl (lacL (freeL L) a6 n cp6 none none 0 0 0 0) _ HE.out.bx.all Tryz.underlying32 rfl (by kernel_rfl) ?_
              refine wpList_move_any rfl (.tmp 8) rfl (.slice (some ⟨hi + 1, 0, none⟩) 0 0) rfl ?_
              refine wpList_move_any rfl (.tmp 9) rfl (.slice vd9 1 wd9) rfl ?_
              refine wpList_store_mid rfl 32 (.tmp 4) (.tmp 108) rfl (B + 1) 0 (lac (freeL L) a6 n cp6 none none 0 0 0 0) rfl rfl (HE.out.rs.there 0 17 (by simp)) (by kernel_rfl) (by simp [Value.oneCell']) ?_
              rw [setCells_L]
              obtain ⟨W9, hW9⟩ : ∃ W9, W9 = setL w9 (B + 1) 0 (lacL (freeL L) a6 n cp6 none none 0 0 0 0) := ⟨_, rfl⟩
              have H9 : Hid (Blk W9 (B + 1) 32 (lac (freeL L) a6 n cp6 none none 0 0 0 0) ∧ TkS w W9 (.returned (.tuple #[.agg (lac (freeL L) a6 n cp6 none none 0 0 0 0), (.slice (some ⟨hi + 1, 0, none⟩) 0 0), (.slice vd9 1 wd9)])) n f (freeL L) 0 (odL L) 1 (tkDn L)) := by
                have h3 := HE.out
                have g1 : w9.grownBy W9 (some (B + 1)) := by rw [hW9]; exact setL_gw _ _ _
                have eB := h3.eB; have lB := h3.lB
                have hx : ExB w9 (B + 1) 32 := ⟨_, h3.rs⟩
                have q1 := h3.ln.1
                have q2 := h3.ln.2.1
                refine ⟨by rw [hW9, show lac (freeL L) a6 n cp6 none none 0 0 0 0 = wrA lzc 0 (lacL (freeL L) a6 n cp6 none none 0 0 0 0) from (lwr0_17 _ _ _ _ _ _ _ _ _ _ _ _ _ _ _ _ _ _ _ _ _ _ _ _ _ _ _ _ _ _ _ _ _ _).symm]; exact Blk.stL _ _ h3.rs, ?_⟩
                refine ⟨a6, cp6, none, none, 0, 0, _, _, _, _, by rw [← q1, ← q2], by rw [← q1, ← q2]; exact h3.ln.keptT g1 hx (by decide) (by decide) (by decide), h3.ot.keptT g1 hx (by decide) (by decide) (by decide) g1.size, h3.td.keptT g1 hx (by decide) (by decide) (by decide) g1.size, by rw [hW9]; exact setL_below (by omega) _ _ _ h3.bl⟩
              rw [show setL w9 (B + 1) 0 (lac (freeL L) a6 n cp6 none none 0 0 0 0).toList = W9 from hW9.symm]
              clear hW9 HC H0 HE
              go_wp2
              refine bodyPost_ret (v := .tuple #[.agg (lac (freeL L) a6 n cp6 none none 0 0 0 0), (.slice (some ⟨hi + 1, 0, none⟩) 0 0), (.slice vd9 1 wd9)]) (results_cell2 Tryz.results14 rfl rfl rfl (run_loadVar_mid _ _ _ 32 (lacL (freeL L) a6 n cp6 none none 0 0 0 0) _ H9.out.1.all Tryz.underlying32 rfl (by kernel_rfl))) rfl ?_
              exact H9.out.2
            | true =>
              have hn0 : (0 : Int) < (n : Int) := by have := of_decide_eq_true hnz; omega
              go_upto_region 14 with fail
              clear y0 y1
              obtain ⟨gq, oq, b1, b2, k1, k2, m1, m2, news, ha6, hqx, hm1, hm2, hrg, hnl, hnc, hn1c, p1, p2, htl⟩ := HE.out.ln.next (by omega)
              have HT := hide htl
              have HNW := hide (And.intro hnl (And.intro hnc hn1c))
              have HP : Hid (m1 = (f 0).ws.length ∧ m2 = (f 0).bs.length ∧ m1 ≤ 2000000 ∧ m2 ≤ 2000000 ∧ OwnI w9 w.heap.size (.slice b1 m1 k1) (f 0).ws ∧ OwnB w9 w.heap.size (.slice b2 m2 k2) (f 0).bs) := ⟨hm1, hm2, by rw [hm1]; exact (H0.out.2.1.2 0 (by omega)).1, by rw [hm2]; exact (H0.out.2.1.2 0 (by omega)).2, p1, p2⟩
              subst ha6
              have hqh : gq ≠ hi := fun e => by subst e; exact Blk.noEx HE.out.bx (by decide) hqx
              have HQ := hide (And.intro hrg (And.intro hqx hqh))
              clear htl hm1 hm2 hqx hrg p1 p2 hnl hnc hn1c hqh
              obtain ⟨X14, hX14⟩ : ∃ X14, X14 = setL w9 hi 1 [.bool true] := ⟨_, rfl⟩
              have G14 : Hid (w9.grownBy X14 (some hi) ∧ Blk X14 hi 32 (lac { (freeL L) with bz := true } (some ⟨gq, oq, none⟩) n cp6 none none 0 0 0 0)) := by
                refine ⟨by rw [hX14]; exact setL_gw _ _ _, ?_⟩
                rw [hX14, show lac { (freeL L) with bz := true } (some ⟨gq, oq, none⟩) n cp6 none none 0 0 0 0 = wrA (lac (freeL L) (some ⟨gq, oq, none⟩) n cp6 none none 0 0 0 0) 1 [.bool true] from (lwr1_1 _ _ _ _ _ _ _ _ _ _ _ _ _ _ _ _ _ _).symm]; exact Blk.stL _ _ HE.out.bx
              have y1 := HE.out.bx.cell 1 rfl
              have yf := HE.out.bx.fro 1
              have hX14' : X14 = w9.setCell ⟨hi, 1, none⟩ (.bool true) := hX14
              clear hX14
              go_upto_region 15 with fail
              rw [← hX14']
              clear hX14' y1 yf
              try go_simp
              refine wp_region_lit ?_
              refine wpList_run_any rfl (.pointer (some ⟨hi, 0, none⟩)) (run_field_op rfl rfl (by go_simp)) ?_
              have y0 : X14.cell? ⟨hi, 0, none⟩ = some (.slice (some ⟨gq, oq, none⟩) n cp6) := G14.out.2.cell 0 rfl
              refine wpList_run_any rfl (.slice (some ⟨gq, oq, none⟩) n cp6) (run_load_op rfl rfl (by go_simp)) ?_
              refine wpList_run_any rfl (.pointer (some ⟨gq, oq, none⟩)) (run_index_op rfl rfl rfl (by (go_simp; intro h0; omega))) ?_
              refine wpList_load_mid rfl 30 (.tmp 78) rfl gq oq rfl (calL (f 0) b1 b2 m1 m2 k1 k2) _ (rangeAt_gr HQ.out.1 G14.out.1 HQ.out.2.2) Tryz.underlying30 rfl (by kernel_rfl) ?_
              refine wpList_run_any rfl (.pointer (some ⟨hi, 2, none⟩)) (run_field_op rfl rfl (by go_simp)) ?_
              refine wpList_store_mid rfl 30 (.tmp 80) (.tmp 79) rfl hi 2 (cac (f 0) b1 b2 m1 m2 k1 k2) (by kernel_rfl) (by kernel_rfl) (G14.out.2.there 2 9 (by simp)) (by kernel_rfl) (by simp [Value.oneCell']) ?_
              rw [setCells_L]
              refine wpList_nil ?_
              obtain ⟨X15, hX15⟩ : ∃ X15, X15 = setL X14 hi 2 (calL (f 0) b1 b2 m1 m2 k1 k2) := ⟨_, rfl⟩
              have G15 : Hid (w9.grownBy X15 (some hi) ∧ Blk X15 hi 32 (lac { (freeL L) with bz := true, c := f 0 } (some ⟨gq, oq, none⟩) n cp6 b1 b2 m1 m2 k1 k2)) := by
                refine ⟨gr_tr G14.out.1 (by rw [hX15]; exact setL_gw _ _ _) (.inl rfl), ?_⟩
                rw [hX15, show lac { (freeL L) with bz := true, c := f 0 } (some ⟨gq, oq, none⟩) n cp6 b1 b2 m1 m2 k1 k2 = wrA (lac { (freeL L) with bz := true } (some ⟨gq, oq, none⟩) n cp6 none none 0 0 0 0) 2 (calL (f 0) b1 b2 m1 m2 k1 k2) from (lwr2_9 _ _ _ _ _ _ _ _ _ _ _ _ _ _ _ _ _ _ _ _ _ _ _ _ _ _).symm]; exact Blk.stL _ _ G14.out.2
              rw [show setL X14 hi 2 (cac (f 0) b1 b2 m1 m2 k1 k2).toList = X15 from hX15.symm]
              clear hX15 y0 G14
              go_upto_region 16 with fail
              try go_simp
              refine wp_region_lit ?_
              refine wpList_bs rfl 24 0 #[] rfl #[] (by simp) (.slice (some ⟨X15.heap.size, 0, none⟩) 0 0) (run_bs0C X15) ?_
              have ba := bel_alloc X15 (.cells #[] 30)
              have K15 := G15.out.2.below ba
              have y0 : (X15.alloc (.cells #[] 30)).cell? ⟨hi, 0, none⟩ = some (.slice (some ⟨gq, oq, none⟩) n cp6) := K15.cell 0 rfl
              refine wpList_run_any rfl (.pointer (some ⟨hi, 0, none⟩)) (run_field_op rfl rfl (by go_simp)) ?_
              refine wpList_run_any rfl (.slice (some ⟨gq, oq, none⟩) n cp6) (run_load_op rfl rfl (by go_simp)) ?_
              obtain ⟨ad, had⟩ : ∃ ad : Addr, some ad = (if cp6 = 1 then some ⟨gq, oq, none⟩ else some ⟨gq, oq + 9, none⟩) := by by_cases h : cp6 = 1; (exact ⟨⟨gq, oq, none⟩, by rw [if_pos h]⟩); exact ⟨⟨gq, oq + 9, none⟩, by rw [if_neg h]⟩
              have had2 : 0 < n - 1 → ad = ⟨gq, oq + 9, none⟩ := fun h => by rw [if_neg (by omega)] at had; exact Option.some.inj had
              refine wpList_run_any rfl (.slice (some ad) (n - 1) (cp6 - 1)) (run_slc_op rfl rfl rfl (by rw [had]; exact sl1r gq oq n cp6 _ (by omega))) ?_
              obtain ⟨i0, hi0, hzz⟩ := Option.map_eq_some_iff.1 Tryz.infoC30
              simp only [Prod.mk.injEq] at hzz
              obtain ⟨hz0, hz1, hz2⟩ := hzz
              refine wpList_append_own _ rfl (.tmp 81) (.tmp 84) 24 rfl X15.heap.size 30 i0 _ 9 104 Tryz.underlying24 hi0 hz0 hz1 hz2 rfl (by decide) (.slice (some ⟨X15.heap.size, 0, none⟩) 0 0) 0 [] rfl (row_nil (Nat.le_refl _) (Blk.new X15 #[] 30)) ad (n - 1) (cp6 - 1) news rfl HNW.out.1 (fun j u hu => ?nwsB) HNW.out.2.2 (by unfold maxLen; omega) (by omega) ba.size ?_
              case nwsB =>
                have hn9 : 0 < n - 1 := by
                  rcases Nat.eq_zero_or_pos (n - 1) with h | h
                  · have hl := HNW.out.1; rw [h] at hl; have := List.eq_nil_of_length_eq_zero (by simpa using hl); subst this; simp at hu
                  · exact h
                rw [had2 hn9, Addr.add_lit]
                have hc0 := HNW.out.2.1 j u hu
                have g15 := gr_bel G15.out.1 ba
                rw [World.cell?_of_block (w := w9) (g15.block gq (cell_lt9 hc0) (fun e => HQ.out.2.2 (Option.some.inj e)))]
                exact hc0
              intro v9 X16 o16 g16 _
              rw [Nat.zero_add] at o16
              rw [List.nil_append] at o16
              obtain ⟨xa9, cp9, hv9⟩ := row_form o16
              subst hv9
              clear hi0 hz0 hz1 hz2 y0 had had2
              have g16' : (X15.alloc (.cells #[] 30)).grownBy X16 (some X15.heap.size) := g16
              have K16 := K15.grown g16' (by have := G15.out.2.lt; intro e9; have := Option.some.inj e9; omega)
              have y0 := K16.cell 0 rfl
              have yf := K16.fro 0
              refine wpList_run_any rfl (.pointer (some ⟨hi, 0, none⟩)) (run_field_op rfl rfl (by go_simp)) ?_
              obtain ⟨X17, hX17⟩ : ∃ X17, X17 = setL X16 hi 0 [.slice xa9 (n - 1) cp9] := ⟨_, rfl⟩
              have H17 : Hid (w9.grownBy X17 (some hi) ∧ Blk X17 hi 32 (lac { (freeL L) with bz := true, c := f 0 } xa9 (n - 1) cp9 b1 b2 m1 m2 k1 k2) ∧ X17.ownsRow w.heap.size 30 9 (.slice xa9 (n - 1) cp9) (n - 1) news) := by
                have g17 : X16.grownBy X17 (some hi) := by rw [hX17]; exact setL_gw _ _ _
                have ga := gr_bel G15.out.1 ba
                have gb := gr_tr ga g16' (.inr (by have := G15.out.1.size; omega))
                refine ⟨gr_tr gb g17 (.inl rfl), ?_, row_noT (ownsRow_mono o16 (by have := HE.out.bl.size; have := G15.out.1.size; omega)) g17 ⟨_, K16⟩ (by decide)⟩
                rw [hX17, show lac { (freeL L) with bz := true, c := f 0 } xa9 (n - 1) cp9 b1 b2 m1 m2 k1 k2 = wrA (lac { (freeL L) with bz := true, c := f 0 } (some ⟨gq, oq, none⟩) n cp6 b1 b2 m1 m2 k1 k2) 0 [.slice xa9 (n - 1) cp9] from (lwr0_1 _ _ _ _ _ _ _ _ _ _ _ _ _ _ _ _ _ _).symm]; exact Blk.stL _ _ K16
              have hX17' : X17 = X16.setCell ⟨hi, 0, none⟩ (.slice xa9 (n - 1) cp9) := hX17
              clear hX17 o16 g16 g16' K15 K16 ba G15 HNW
              obtain ⟨nx1, hnx1⟩ : ∃ x, x = (L.nx + 1) % 65536 := ⟨_, rfl⟩
              have hfx := HF.out.2.1
              have hw1 : IntKind.i64.wrap (L.nx + 1) = L.nx + 1 := by rw [IntKind.wrap_i64]; omega
              have hrm : (L.nx + 1).tmod 65536 = nx1 := by rw [hnx1]; exact Int.tmod_eq_emod_of_nonneg (by omega)
              have hw2 : IntKind.i64.wrap nx1 = nx1 := by rw [IntKind.wrap_i64]; omega
              have HN1 : Hid (nx1 = (L.nx + 1) % 65536) := hnx1
              clear hnx1 hfx
              have K17 : Blk X17 B 32 (lac L a n cp a1 a2 l1 l2 c1 c2) := HE.out.ar.grown H17.out.1 (by have := HE.out.lB; intro e9; have := Option.some.inj e9; omega)
              have z14 : X17.cell? ⟨B, 14, none⟩ = some (.int .i64 L.nx) := K17.cell 14 rfl
              have z15 : X17.cell? ⟨B, 15, none⟩ = some (.int .i64 L.wt) := K17.cell 15 rfl
              have x11 := H17.out.2.1.cell 11 rfl
              have x14 := H17.out.2.1.cell 14 rfl
              have f11 := H17.out.2.1.fro 11
              have f14 := H17.out.2.1.fro 14
              have hBh : ¬ B = hi := by have := HE.out.lB; omega
              have hBh2 : ¬ hi = B := fun e => hBh e.symm
              obtain ⟨X18, hX18⟩ : ∃ X18, X18 = setL (setL X17 hi 11 [.int .i64 L.nx]) hi 14 [.int .i64 nx1] := ⟨_, rfl⟩
              have hX18' : X18 = (X17.setCell ⟨hi, 11, none⟩ (.int .i64 L.nx)).setCell ⟨hi, 14, none⟩ (.int .i64 nx1) := hX18
              have H18 : Hid (w9.grownBy X18 (some hi) ∧ Blk X18 hi 32 (lac { (freeL L) with bz := true, c := f 0, nu := L.nx, nx := nx1 } xa9 (n - 1) cp9 b1 b2 m1 m2 k1 k2) ∧ X18.ownsRow w.heap.size 30 9 (.slice xa9 (n - 1) cp9) (n - 1) news) := by
                have hxl : ExB X17 hi 32 := ⟨_, H17.out.2.1⟩
                have ga : X17.grownBy X18 (some hi) := by rw [hX18]; exact gr_tr (setL_gw _ _ _) (setL_gw _ _ _) (.inl rfl)
                refine ⟨gr_tr H17.out.1 ga (.inl rfl), ?_, row_noT H17.out.2.2 ga hxl (by decide)⟩
                have E1 : Blk (setL X17 hi 11 [.int .i64 L.nx]) hi 32 (lac { (freeL L) with bz := true, c := f 0, nu := L.nx } xa9 (n - 1) cp9 b1 b2 m1 m2 k1 k2) := by
                  rw [show lac { (freeL L) with bz := true, c := f 0, nu := L.nx } xa9 (n - 1) cp9 b1 b2 m1 m2 k1 k2 = wrA (lac { (freeL L) with bz := true, c := f 0 } xa9 (n - 1) cp9 b1 b2 m1 m2 k1 k2) 11 [.int .i64 L.nx] from (lwr11_1 _ _ _ _ _ _ _ _ _ _ _ _ _ _ _ _ _ _).symm]; exact Blk.stL _ _ H17.out.2.1
                rw [hX18, show lac { (freeL L) with bz := true, c := f 0, nu := L.nx, nx := nx1 } xa9 (n - 1) cp9 b1 b2 m1 m2 k1 k2 = wrA (lac { (freeL L) with bz := true, c := f 0, nu := L.nx } xa9 (n - 1) cp9 b1 b2 m1 m2 k1 k2) 14 [.int .i64 nx1] from (lwr14_1 _ _ _ _ _ _ _ _ _ _ _ _ _ _ _ _ _ _).symm]; exact Blk.stL _ _ E1
              clear hX18
              go_upto_region 17 with fail
              rw [← hX17']
              clear hX17' y0 yf
              go_wp2_with fail
              rw [← hX18']
              refine (specTickOn_in now L.wt _ HC.out.2.1 HF.out.1).mono ?_
              rintro e w19 ⟨rfl, hw19⟩
              have hw19 := hw19.symm
              subst hw19
              clear hX18' x11 x14 f11 f14 z14 z15 K17 H17 hw1 hw2 hrm
              have K18 : Blk X18 B 32 (lac L a n cp a1 a2 l1 l2 c1 c2) := HE.out.ar.grown H18.out.1 (by intro e9; have := Option.some.inj e9; omega)
              have z16 : X18.cell? ⟨B, 16, none⟩ = some (.int .i64 L.tr) := K18.cell 16 rfl
              have x12 := H18.out.2.1.cell 12 rfl
              have x13 := H18.out.2.1.cell 13 rfl
              have f12 := H18.out.2.1.fro 12
              have f13 := H18.out.2.1.fro 13
              obtain ⟨X20, hX20⟩ : ∃ X20, X20 = setL (setL X18 hi 12 [.int .i64 (tkO now L.wt)]) hi 13 [.int .i64 L.tr] := ⟨_, rfl⟩
              have hX20' : X20 = (X18.setCell ⟨hi, 12, none⟩ (.int .i64 (tkO now L.wt))).setCell ⟨hi, 13, none⟩ (.int .i64 L.tr) := hX20
              have HM : Hid (SM w B hi L a n cp a1 a2 l1 l2 c1 c2 (n - 1) (fun k => f (k + 1)) (nxL (f 0) now L) xa9 cp9 b1 b2 m1 m2 k1 k2 (.slice (some ⟨hi + 1, 0, none⟩) 0 0) 0 (odL L) (.slice vd9 1 wd9) 1 (tkDn L) X20) := by
                have h3 := HE.out
                have hxl : ExB X18 hi 32 := ⟨_, H18.out.2.1⟩
                have hx0 : ExB w9 hi 32 := ⟨_, h3.bx⟩
                have ga : X18.grownBy X20 (some hi) := by rw [hX20]; exact gr_tr (setL_gw _ _ _) (setL_gw _ _ _) (.inl rfl)
                have gw := gr_tr H18.out.1 ga (.inl rfl)
                have eB := h3.eB; have lB := h3.lB
                have E1 : Blk (setL X18 hi 12 [.int .i64 (tkO now L.wt)]) hi 32 (lac { (freeL L) with bz := true, c := f 0, nu := L.nx, nx := nx1, du := tkO now L.wt } xa9 (n - 1) cp9 b1 b2 m1 m2 k1 k2) := by
                  rw [show lac { (freeL L) with bz := true, c := f 0, nu := L.nx, nx := nx1, du := tkO now L.wt } xa9 (n - 1) cp9 b1 b2 m1 m2 k1 k2 = wrA (lac { (freeL L) with bz := true, c := f 0, nu := L.nx, nx := nx1 } xa9 (n - 1) cp9 b1 b2 m1 m2 k1 k2) 12 [.int .i64 (tkO now L.wt)] from (lwr12_1 _ _ _ _ _ _ _ _ _ _ _ _ _ _ _ _ _ _).symm]; exact Blk.stL _ _ H18.out.2.1
                refine ⟨HT.out X20 _ _ _ _ gw hx0 rfl (row_noT H18.out.2.2 ga hxl (by decide)), ?_, h3.ar.grown gw (by intro e9; have := Option.some.inj e9; omega), h3.rs.grown gw (by intro e9; have := Option.some.inj e9; omega), h3.bl.grown gw h3.bl.size (fun k hk => by have := Option.some.inj hk; omega), eB, lB, topL_nil _ _ _ _ _ _ _ _ (by have := h3.bl.size; have := gw.size; omega), h3.td.keptT gw hx0 (by decide) (by decide) (by decide) gw.size⟩
                rw [hX20, show nxL (f 0) now L = { (freeL L) with bz := true, c := f 0, nu := L.nx, nx := nx1, du := tkO now L.wt, le := L.tr } by unfold nxL; rw [HN1.out]; try rfl, show lac { (freeL L) with bz := true, c := f 0, nu := L.nx, nx := nx1, du := tkO now L.wt, le := L.tr } xa9 (n - 1) cp9 b1 b2 m1 m2 k1 k2 = wrA (lac { (freeL L) with bz := true, c := f 0, nu := L.nx, nx := nx1, du := tkO now L.wt } xa9 (n - 1) cp9 b1 b2 m1 m2 k1 k2) 13 [.int .i64 L.tr] from (lwr13_1 _ _ _ _ _ _ _ _ _ _ _ _ _ _ _ _ _ _).symm]; exact Blk.stL _ _ E1
              go_upto_region 21 with fail
              rw [← hX20']
              clear hX20' hX20 x12 x13 f12 f13 z16 K18 H18 HT HQ hBh hBh2 HN1 HE
              try go_simp
              refine wp_region_lit ?_
              refine wpList_move_any rfl (.tmp 8) rfl (.slice (some ⟨hi + 1, 0, none⟩) 0 0) rfl ?_
              refine wpList_load_mid rfl 32 (.tmp 7) rfl hi 0 rfl (lacL (nxL (f 0) now L) xa9 (n - 1) cp9 b1 b2 m1 m2 k1 k2) _ HM.out.bx.all Tryz.underlying32 rfl (by kernel_rfl) ?_
              have hrd := HM.out.ln.rd
              go_wp2_with fail
              refine (l12Order_any (nxL (f 0) now L) xa9 b1 b2 (n - 1) cp9 m1 m2 k1 k2 _ HM.out.ln.1 HM.out.ln.2.1 hrd.2.2.2.1 hrd.2.2.2.2 HP.out.2.2.1 HP.out.2.2.2.1).mono ?_
              rintro e w20 ⟨u1, u2, t1, t2, rfl, i1, i2, b20⟩
              have H20 := hide (HM.out.below b20)
              have hq1 := HM.out.ln.1
              have hq2 := HM.out.ln.2.1
              have hws := HM.out.bl.size
              have HI := hide (And.intro (OwnI.mono (show OwnI _ _ _ _ from i1) hws) (OwnB.mono (show OwnB _ _ _ _ from i2) hws))
              clear i1 i2 b20 hrd
              rename_i hK
              refine hK _ _ ?_
              clear hK
              refine wpList_bs rfl 45 1 _ rfl #[(0, .agg (odc (odL (nxL (f 0) now L)) u1 u2 m1 m2 t1 t2))] (by simp only [List.map_toArray, List.map_cons, List.map_nil]; rfl) (.slice (some ⟨w20.heap.size, 0, none⟩) 1 1) (run_bsO _ _ _ _ _ _ _ w20) ?_
              have ba := bel_alloc w20 (.cells (odc (odL (nxL (f 0) now L)) u1 u2 m1 m2 t1 t2) 83)
              obtain ⟨vo9, wo9, w21, hr21, T21, b21⟩ := run_appO 45 ⟨hi + 1, 0, none⟩ w20.heap.size w.heap.size (odL (nxL (f 0) now L)) u1 u2 m1 m2 t1 t2 _ (Blk.new w20 _ _) hq1 hq2 (Nat.le_trans H20.out.bl.size ba.size) (row_bel HI.out.1 ba) (row_bel HI.out.2 ba)
              have HN : Hid (SM w B hi L a n cp a1 a2 l1 l2 c1 c2 (n - 1) (fun k => f (k + 1)) (nxL (f 0) now L) xa9 cp9 b1 b2 m1 m2 k1 k2 (.slice vo9 1 wo9) 1 (odL (nxL (f 0) now L)) (.slice vd9 1 wd9) 1 (tkDn L) w21) := by
                have h9 := H20.out.below (bel_nx ba b21)
                exact ⟨h9.ln, h9.bx, h9.ar, h9.rs, h9.bl, h9.eB, h9.lB, T21, h9.td⟩
              clear T21 b21 ba H20 HI hq1 hq2 hws HM
              refine wpList_run_w rfl _ (run_app_op rfl rfl rfl hr21) ?_
              clear hr21
              go_upto_region 22 with fail
              try go_simp
              refine wp_region_lit ?_
              refine wpList_load_mid rfl 32 (.tmp 7) rfl hi 0 rfl (lacL (nxL (f 0) now L) xa9 (n - 1) cp9 b1 b2 m1 m2 k1 k2) _ HN.out.bx.all Tryz.underlying32 rfl (by kernel_rfl) ?_
              refine wpList_move_any rfl (.tmp 8) rfl (.slice vo9 1 wo9) rfl ?_
              refine wpList_move_any rfl (.tmp 9) rfl (.slice vd9 1 wd9) rfl ?_
              refine wpList_store_mid rfl 32 (.tmp 4) (.tmp 108) rfl (B + 1) 0 (lac (nxL (f 0) now L) xa9 (n - 1) cp9 b1 b2 m1 m2 k1 k2) rfl rfl (HN.out.rs.there 0 17 (by simp)) (by kernel_rfl) (by simp [Value.oneCell']) ?_
              rw [setCells_L]
              obtain ⟨W9, hW9⟩ : ∃ W9, W9 = setL w21 (B + 1) 0 (lacL (nxL (f 0) now L) xa9 (n - 1) cp9 b1 b2 m1 m2 k1 k2) := ⟨_, rfl⟩
              have H9 : Hid (Blk W9 (B + 1) 32 (lac (nxL (f 0) now L) xa9 (n - 1) cp9 b1 b2 m1 m2 k1 k2) ∧ TkS w W9 (.returned (.tuple #[.agg (lac (nxL (f 0) now L) xa9 (n - 1) cp9 b1 b2 m1 m2 k1 k2), (.slice vo9 1 wo9), (.slice vd9 1 wd9)])) (n - 1) (fun k => f (k + 1)) (nxL (f 0) now L) 1 (odL (nxL (f 0) now L)) 1 (tkDn L)) := by
                have h3 := HN.out
                have g1 : w21.grownBy W9 (some (B + 1)) := by rw [hW9]; exact setL_gw _ _ _
                have eB := h3.eB; have lB := h3.lB
                have hx : ExB w21 (B + 1) 32 := ⟨_, h3.rs⟩
                have q1 := h3.ln.1
                have q2 := h3.ln.2.1
                refine ⟨by rw [hW9, show lac (nxL (f 0) now L) xa9 (n - 1) cp9 b1 b2 m1 m2 k1 k2 = wrA lzc 0 (lacL (nxL (f 0) now L) xa9 (n - 1) cp9 b1 b2 m1 m2 k1 k2) from (lwr0_17 _ _ _ _ _ _ _ _ _ _ _ _ _ _ _ _ _ _ _ _ _ _ _ _ _ _ _ _ _ _ _ _ _ _).symm]; exact Blk.stL _ _ h3.rs, ?_⟩
                refine ⟨xa9, cp9, b1, b2, k1, k2, _, _, _, _, by rw [← q1, ← q2], by rw [← q1, ← q2]; exact h3.ln.keptT g1 hx (by decide) (by decide) (by decide), h3.ot.keptT g1 hx (by decide) (by decide) (by decide) g1.size, h3.td.keptT g1 hx (by decide) (by decide) (by decide) g1.size, by rw [hW9]; exact setL_below (by omega) _ _ _ h3.bl⟩
              rw [show setL w21 (B + 1) 0 (lac (nxL (f 0) now L) xa9 (n - 1) cp9 b1 b2 m1 m2 k1 k2).toList = W9 from hW9.symm]
              clear hW9 HC H0 HN
              go_wp2
              refine bodyPost_ret (v := .tuple #[.agg (lac (nxL (f 0) now L) xa9 (n - 1) cp9 b1 b2 m1 m2 k1 k2), (.slice vo9 1 wo9), (.slice vd9 1 wd9)]) (results_cell2 Tryz.results14 rfl rfl rfl (run_loadVar_mid _ _ _ 32 (lacL (nxL (f 0) now L) xa9 (n - 1) cp9 b1 b2 m1 m2 k1 k2) _ H9.out.1.all Tryz.underlying32 rfl (by kernel_rfl))) rfl ?_
              exact H9.out.2
end Go.Proofs.YtmhdneenjoelfaaGreat
