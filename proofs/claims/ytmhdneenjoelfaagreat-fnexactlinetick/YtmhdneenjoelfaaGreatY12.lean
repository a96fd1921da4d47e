/- Texts that the proof needs, joined: Tk3 Tk4. -/
import Derived.Test.YtmhdneenjoelfaaGreatY11
namespace Go.Proofs.YtmhdneenjoelfaaGreat
open Go.RowKit Go.Joins
set_option linter.unusedVariables false
set_option linter.unusedSimpArgs false
def tkA (xr bz dz lz : Bool) : Bool := xr && (bz && (dz && lz))
def tkE (xr bz dz lz : Bool) : Bool := xr && (bz && (dz && !lz))
def tkX (xr bz dz lz nz : Bool) : Bool := xr && ((!bz || (dz && !lz)) && nz)
def agL (now : Int) (L : La) : La := { L with le := L.le - 1, du := tkO now L.wt }
def tkL (ag en nx : Bool) (f : Nat → Ca) (now : Int) (L : La) : La := if nx = true then nxL (f 0) now L else if ag = true then agL now L else if en = true then freeL L else L
def tkN (nx : Bool) (n : Nat) : Nat := if nx = true then n - 1 else n
def tkF (nx : Bool) (f : Nat → Ca) : Nat → Ca := if nx = true then (fun k => f (k + 1)) else f
def tkC (b : Bool) : Nat := if b = true then 1 else 0
def tkOd (nx : Bool) (f : Nat → Ca) (now : Int) (L : La) : Od := if nx = true then odL (nxL (f 0) now L) else odL L
def tkDn (L : La) : Dn := ⟨L.c.id, L.c.pa, L.c.kd, 11, 0, 0, [], []⟩
def TkP (w w' : World) (e : Ending) (n : Nat) (f : Nat → Ca) (L : La) (No : Nat) (Do : Od) (Nd : Nat) (Dd : Dn) : Prop :=
  ∃ a cp a1 a2 c1 c2 hi hm o oc v vc, e = .returned (.tuple #[.agg (lac L a n cp a1 a2 L.c.ws.length L.c.bs.length c1 c2), .slice o No oc, .slice v Nd vc]) ∧ w.heap.size ≤ hi ∧ hi ≤ hm ∧ hm ≤ w'.heap.size ∧ LnPB w' w.heap.size hi n f L a cp a1 a2 L.c.ws.length L.c.bs.length c1 c2 ∧ TopL w' hm w'.heap.size 83 8 (.slice o No oc) No (fun _ => odE Do) ∧ TopL w' hi hm 43 8 (.slice v Nd vc) Nd (fun _ => dnE Dd) ∧ Below w.heap.size w w'
structure SK (w : World) (B hi hm n : Nat) (f : Nat → Ca) (L : La) (a : Option Addr) (cp : Nat) (a1 a2 : Option Addr) (l1 l2 c1 c2 : Nat) (vo : Value) (No : Nat) (Do : Od) (vd : Value) (Nd : Nat) (Dd : Dn) (u : World) : Prop where
  ln : LnPB u w.heap.size hi n f L a cp a1 a2 l1 l2 c1 c2
  bx : Blk u (hi + 2) 32 (lac L a n cp a1 a2 l1 l2 c1 c2)
  rs : Blk u (B + 1) 32 lzc
  bl : Below w.heap.size w u
  eB : w.heap.size = B
  lB : B + 1 < hi
  h1 : hi ≤ hm
  h2 : hm ≤ u.heap.size
  ot : TopL u hm u.heap.size 83 8 vo No (fun _ => odE Do)
  td : TopL u hi hm 43 8 vd Nd (fun _ => dnE Dd)
theorem SK.below {w : World} {B hi hm n : Nat} {f : Nat → Ca} {L : La} {a : Option Addr} {cp : Nat} {a1 a2 : Option Addr} {l1 l2 c1 c2 : Nat} {vo : Value} {No : Nat} {Do : Od} {vd : Value} {Nd : Nat} {Dd : Dn} {u u' : World} (h : SK w B hi hm n f L a cp a1 a2 l1 l2 c1 c2 vo No Do vd Nd Dd u) (hb : Below u.heap.size u u') : SK w B hi hm n f L a cp a1 a2 l1 l2 c1 c2 vo No Do vd Nd Dd u' :=
  ⟨h.ln.below hb, h.bx.below hb, h.rs.below hb, bel_nx h.bl hb, h.eB, h.lB, h.h1, Nat.le_trans h.h2 hb.size, h.ot.below9 hb hb.size, h.td.below9 hb (Nat.le_refl _)⟩
theorem LnO.cap {w : World} {base n cp l1 l2 c1 c2 : Nat} {f : Nat → Ca} {L : La} {a a1 a2 : Option Addr} (h : LnO w base n f L a cp a1 a2 l1 l2 c1 c2) : n ≤ cp := by
  obtain ⟨_, _, F, β, h3, _⟩ := h
  rcases h3.2 with ⟨hv, h0⟩ | ⟨g, cap, cur, hv, _, _, hle, _⟩
  · omega
  · simp only [Value.slice.injEq] at hv; obtain ⟨_, _, h2⟩ := hv; omega
theorem LnPB.line {w : World} {base hi n cp l1 l2 c1 c2 : Nat} {f : Nat → Ca} {L L2 : La} {a a1 a2 : Option Addr} (h : LnPB w base hi n f L a cp a1 a2 l1 l2 c1 c2) (hc : L2.c = L.c) : LnPB w base hi n f L2 a cp a1 a2 l1 l2 c1 c2 := by
  obtain ⟨h1, h2, F, β, h3, h4, h5, h6, h7⟩ := h
  exact ⟨by rw [hc]; exact h1, by rw [hc]; exact h2, F, β, h3, h4, by rw [hc]; exact h5, by rw [hc]; exact h6, h7⟩
theorem okLn_f {n : Nat} {f : Nat → Ca} {L : La} {l1 l2 : Nat} (h : okLn n f L l1 l2 = true) : inB L.wt 0 4294967295 = true ∧ (0 ≤ L.nx ∧ L.nx ≤ 65535) ∧ (L.bz = true → inB L.du 0 4294967295 = true ∧ L.le ≤ 5 ∧ okR L.c.kd L.c.pl L.c.n L.c.wa L.c.ws L.c.ws.length L.c.bs.length = true) := by
  unfold okLn at h
  simp only [Bool.and_eq_true] at h
  obtain ⟨h1, h2, _, h4, _, h6⟩ := h
  have q1 := inB_of h1
  have q2 := inB_of h2
  refine ⟨by unfold inB; exact decide_eq_true (by omega), inB_of h4, fun hz => ?_⟩
  unfold askB okCa at h6
  rw [if_pos hz] at h6
  simp only [Bool.and_eq_true, decide_eq_true_eq] at h6
  exact ⟨h6.2.2.1, by omega, h6.1.2.2.2⟩
set_option maxRecDepth 20000 in
set_option maxHeartbeats 4000000 in
theorem implTick_any (L : La) (a a1 a2 : Option Addr) (n cp l1 l2 c1 c2 : Nat) (f : Nat → Ca) (now : Int) (w : World) (hs : LnR w n f L a a1 a2 l1 l2) (hb : BdC n f) (hl1 : l1 ≤ 2000000) (hl2 : l2 ≤ 2000000) (xa xb bz dz lz nz : Bool) (hxa : okLn n f L l1 l2 = xa) (hxb : inB now 0 4294967295 = xb) (hbz : L.bz = bz) (hdz : tkD now L.du = dz) (hlz : decide (0 < L.le) = lz) (hnz : decide (0 < n) = nz) :
    Calls Tryz.prog 12 #[.agg (lac L a n cp a1 a2 l1 l2 c1 c2), .int .i64 now] w fun e w' => TkP w w' e (tkN (tkX (xa && xb) bz dz lz nz) n) (tkF (tkX (xa && xb) bz dz lz nz) f) (tkL (tkA (xa && xb) bz dz lz) (tkE (xa && xb) bz dz lz) (tkX (xa && xb) bz dz lz nz) f now L) (tkC (tkA (xa && xb) bz dz lz || tkX (xa && xb) bz dz lz nz)) (tkOd (tkX (xa && xb) bz dz lz nz) f now L) (tkC (tkE (xa && xb) bz dz lz)) (tkDn L) := by
  have hn := hb.1
  obtain ⟨B, hB⟩ : ∃ B, B = w.heap.size := ⟨_, rfl⟩
  obtain ⟨W, hW⟩ : ∃ W, W = (w.alloc (.cells (lac L a n cp a1 a2 l1 l2 c1 c2) 32)).alloc (.cells lzc 32) := ⟨_, rfl⟩
  have bW : Below w.heap.size w W := by rw [hW]; exact bel_nx (bel_alloc w _) (bel_alloc _ _)
  have A0 : Blk W B 32 (lac L a n cp a1 a2 l1 l2 c1 c2) := by rw [hW, hB]; exact (Blk.new w _ _).below (bel_alloc _ _)
  have R0 : Blk W (B + 1) 32 lzc := by
    rw [hW, hB]; have := Blk.new (w.alloc (.cells (lac L a n cp a1 a2 l1 l2 c1 c2) 32)) lzc 32; simpa using this
  have hz : W.heap.size = B + 1 + 1 := by rw [hW, hB]; simp
  have H0 : Hid (LnR w n f L a a1 a2 l1 l2 ∧ BdC n f ∧ Below w.heap.size w W ∧ Blk W B 32 (lac L a n cp a1 a2 l1 l2 c1 c2) ∧ Blk W (B + 1) 32 lzc ∧ w.heap.size = B ∧ W.heap.size = B + 1 + 1) := ⟨hs, hb, bW, A0, R0, hB.symm, hz⟩
  have HC : Hid (okLn n f L l1 l2 = xa ∧ inB now 0 4294967295 = xb ∧ tkD now L.du = dz ∧ l1 = L.c.ws.length ∧ l2 = L.c.bs.length) := ⟨hxa, hxb, hdz, hs.1, hs.2.1⟩
  have HZ : Hid (L.bz = bz) := hbz
  clear hs hb bW A0 R0 hz hxa hxb hdz hbz
  go_enter Tryz.func12, Tryz.ntmps12
  go_upto_region 1 with fail
  have hB1 : w.heap.size + 1 = B + 1 := by omega
  rw [← hW, hB1, ← hB]
  clear hW hB hB1
  refine wp_region_lit ?_
  refine wpList_load_mid rfl 32 (.tmp 2) rfl B 0 rfl (lacL L a n cp a1 a2 l1 l2 c1 c2) _ H0.out.2.2.2.1.all Tryz.underlying32 rfl (by kernel_rfl) ?_
  go_wp2_with fail
  refine (copyLine_any L a a1 a2 n cp l1 l2 c1 c2 f _ (H0.out.1.below H0.out.2.2.1) H0.out.2.1 hl1 hl2).mono ?_
  rintro e w1 ⟨a6, cp6, r1, r2, d1, d2, rfl, o6, b6⟩
  obtain ⟨hi, hhi⟩ : ∃ hi, hi = w1.heap.size := ⟨_, rfl⟩
  have hcp6 := o6.cap
  obtain ⟨W2, hW2⟩ : ∃ W2, W2 = setL (((w1.alloc (.cells #[] 83)).alloc (.cells #[] 43)).alloc (.cells lzc 32)) (w1.heap.size + 2) 0 (lacL L a6 n cp6 r1 r2 l1 l2 d1 d2) := ⟨_, rfl⟩
  have hsz1 : (w1.alloc (.cells #[] 83)).heap.size = w1.heap.size + 1 := by simp
  have hsz2 : ((w1.alloc (.cells #[] 83)).alloc (.cells #[] 43)).heap.size = w1.heap.size + 2 := by simp
  have H2 : Hid (SK w B hi hi n f L a6 cp6 r1 r2 l1 l2 d1 d2 (.slice (some ⟨hi, 0, none⟩) 0 0) 0 (odL L) (.slice (some ⟨hi + 1, 0, none⟩) 0 0) 0 (tkDn L) W2) := by
    have h0 := H0.out
    have hz := h0.2.2.1.size
    have b4 : Below w1.heap.size w1 (((w1.alloc (.cells #[] 83)).alloc (.cells #[] 43)).alloc (.cells lzc 32)) := bel_nx (bel_nx (bel_alloc _ _) (bel_alloc _ _)) (bel_alloc _ _)
    have b5 : Below w1.heap.size w1 W2 := by rw [hW2]; exact setL_below (by omega) _ _ _ b4
    have hs9 := b5.size
    refine ⟨by rw [hhi]; exact ((lnO_mono o6 hz).p.pb).below b5, ?_, (h0.2.2.2.2.1.below b6).below b5, bel_nx (bel_nx h0.2.2.1 b6) b5, h0.2.2.2.2.2.1, ?_, Nat.le_refl _, by omega, topL_nil _ _ _ _ _ _ _ _ (by omega), topL_nil _ _ _ _ _ _ _ _ (Nat.le_refl _)⟩
    · rw [hW2, hhi, show lac L a6 n cp6 r1 r2 l1 l2 d1 d2 = wrA lzc 0 (lacL L a6 n cp6 r1 r2 l1 l2 d1 d2) from (lwr0_17 _ _ _ _ _ _ _ _ _ _ _ _ _ _ _ _ _ _ _ _ _ _ _ _ _ _ _ _ _ _ _ _ _ _).symm]
      have h9 := Blk.new ((w1.alloc (.cells #[] 83)).alloc (.cells #[] 43)) lzc 32
      rw [hsz2] at h9
      exact Blk.stL _ _ h9
    · have := b6.size
      omega
  rename_i hK
  refine hK _ _ ?_
  clear hK o6
  refine wpList_bs rfl 45 0 #[] rfl #[] (by simp) (.slice (some ⟨w1.heap.size, 0, none⟩) 0 0) (run_bs0O w1) ?_
  refine wpList_bs rfl 39 0 #[] rfl #[] (by simp) (.slice (some ⟨w1.heap.size + 1, 0, none⟩) 0 0) (by rw [← hsz1]; exact run_bs0D _) ?_
  refine wpList_alloc_any rfl 32 rfl lzc 17 184 (by kernel_rfl) ?_
  refine wpList_store_mid rfl 32 (.tmp 7) (.tmp 11) rfl (w1.heap.size + 2) 0 (lac L a6 n cp6 r1 r2 l1 l2 d1 d2) (by rw [hsz2]; rfl) rfl (by have h9 := (Blk.new ((w1.alloc (.cells #[] 83)).alloc (.cells #[] 43)) lzc 32).there 0 17 (by simp); rw [hsz2] at h9; exact h9) (by kernel_rfl) (by simp [Value.oneCell']) ?_
  rw [setCells_L, ← hW2, hsz2, ← hhi]
  clear hW2 hsz1 hsz2 hhi b6
  go_wp2_with fail
  refine (lineRight_any L (hi + 2) n cp6 a6 r1 r2 l1 l2 d1 d2 f _ H2.out.bx H2.out.ln.p.rd H0.out.2.1 hl1 hl2).mono ?_
  rintro e w3 ⟨rfl, b3⟩
  rw [HC.out.1]
  have H3 : Hid (SK w B hi hi n f L a6 cp6 r1 r2 l1 l2 d1 d2 (.slice (some ⟨hi, 0, none⟩) 0 0) 0 (odL L) (.slice (some ⟨hi + 1, 0, none⟩) 0 0) 0 (tkDn L) w3) := H2.out.below b3
  clear b3 H2
  cases xa with
  | false =>
    go_upto_region 3 with fail
    try go_simp
    refine wp_region_lit ?_
    refine wpList_load_mid rfl 32 (.tmp 7) rfl (hi + 2) 0 rfl (lacL L a6 n cp6 r1 r2 l1 l2 d1 d2) _ H3.out.bx.all Tryz.underlying32 rfl (by kernel_rfl) ?_
    refine wpList_move_any rfl (.tmp 8) rfl (.slice (some ⟨hi, 0, none⟩) 0 0) rfl ?_
    refine wpList_move_any rfl (.tmp 9) rfl (.slice (some ⟨hi + 1, 0, none⟩) 0 0) rfl ?_
    refine wpList_store_mid rfl 32 (.tmp 4) (.tmp 21) rfl (B + 1) 0 (lac L a6 n cp6 r1 r2 l1 l2 d1 d2) rfl rfl (H3.out.rs.there 0 17 (by simp)) (by kernel_rfl) (by simp [Value.oneCell']) ?_
    rw [setCells_L]
    obtain ⟨W9, hW9⟩ : ∃ W9, W9 = setL w3 (B + 1) 0 (lacL L a6 n cp6 r1 r2 l1 l2 d1 d2) := ⟨_, rfl⟩
    have H9 : Hid (Blk W9 (B + 1) 32 (lac L a6 n cp6 r1 r2 l1 l2 d1 d2) ∧ TkP w W9 (.returned (.tuple #[.agg (lac L a6 n cp6 r1 r2 l1 l2 d1 d2), (.slice (some ⟨hi, 0, none⟩) 0 0), (.slice (some ⟨hi + 1, 0, none⟩) 0 0)])) n f L 0 (odL L) 0 (tkDn L)) := by
      have h3 := H3.out
      have g1 : w3.grownBy W9 (some (B + 1)) := by rw [hW9]; exact setL_gw _ _ _
      have hs9 : W9.heap.size = w3.heap.size := by rw [hW9]; exact setL_size _ _ _ _
      have eB := h3.eB; have lB := h3.lB; have h1 := h3.h1; have h2 := h3.h2
      have hx : ExB w3 (B + 1) 32 := ⟨_, h3.rs⟩
      have q1 := h3.ln.1
      have q2 := h3.ln.2.1
      refine ⟨by rw [hW9, show lac L a6 n cp6 r1 r2 l1 l2 d1 d2 = wrA lzc 0 (lacL L a6 n cp6 r1 r2 l1 l2 d1 d2) from (lwr0_17 _ _ _ _ _ _ _ _ _ _ _ _ _ _ _ _ _ _ _ _ _ _ _ _ _ _ _ _ _ _ _ _ _ _).symm]; exact Blk.stL _ _ h3.rs, ?_⟩
      refine ⟨a6, cp6, r1, r2, d1, d2, hi, hi, _, _, _, _, by rw [← q1, ← q2], by omega, by omega, by omega, by rw [← q1, ← q2]; exact h3.ln.keptT g1 hx (by decide) (by decide) (by decide), by rw [hs9]; exact topL_keptLt h3.ot g1 (by omega), topL_keptLt h3.td g1 (by omega), by rw [hW9]; exact setL_below (by omega) _ _ _ h3.bl⟩
    rw [show setL w3 (B + 1) 0 (lac L a6 n cp6 r1 r2 l1 l2 d1 d2).toList = W9 from hW9.symm]
    clear hW9 HC H0 H3
    go_wp2
    refine bodyPost_ret (v := .tuple #[.agg (lac L a6 n cp6 r1 r2 l1 l2 d1 d2), (.slice (some ⟨hi, 0, none⟩) 0 0), (.slice (some ⟨hi + 1, 0, none⟩) 0 0)]) (results_cell2 Tryz.results12 rfl rfl rfl (run_loadVar_mid _ _ _ 32 (lacL L a6 n cp6 r1 r2 l1 l2 d1 d2) _ H9.out.1.all Tryz.underlying32 rfl (by kernel_rfl))) rfl ?_
    exact H9.out.2
  | true =>
    go_wp2_with fail
    refine (isTickL now _ xb HC.out.2.1).mono ?_
    rintro e w4 ⟨rfl, hw4⟩
    have hw4 := hw4.symm
    subst hw4
    cases xb with
    | false =>
      go_upto_region 3 with fail
      try go_simp
      refine wp_region_lit ?_
      refine wpList_load_mid rfl 32 (.tmp 7) rfl (hi + 2) 0 rfl (lacL L a6 n cp6 r1 r2 l1 l2 d1 d2) _ H3.out.bx.all Tryz.underlying32 rfl (by kernel_rfl) ?_
      refine wpList_move_any rfl (.tmp 8) rfl (.slice (some ⟨hi, 0, none⟩) 0 0) rfl ?_
      refine wpList_move_any rfl (.tmp 9) rfl (.slice (some ⟨hi + 1, 0, none⟩) 0 0) rfl ?_
      refine wpList_store_mid rfl 32 (.tmp 4) (.tmp 21) rfl (B + 1) 0 (lac L a6 n cp6 r1 r2 l1 l2 d1 d2) rfl rfl (H3.out.rs.there 0 17 (by simp)) (by kernel_rfl) (by simp [Value.oneCell']) ?_
      rw [setCells_L]
      obtain ⟨W9, hW9⟩ : ∃ W9, W9 = setL w3 (B + 1) 0 (lacL L a6 n cp6 r1 r2 l1 l2 d1 d2) := ⟨_, rfl⟩
      have H9 : Hid (Blk W9 (B + 1) 32 (lac L a6 n cp6 r1 r2 l1 l2 d1 d2) ∧ TkP w W9 (.returned (.tuple #[.agg (lac L a6 n cp6 r1 r2 l1 l2 d1 d2), (.slice (some ⟨hi, 0, none⟩) 0 0), (.slice (some ⟨hi + 1, 0, none⟩) 0 0)])) n f L 0 (odL L) 0 (tkDn L)) := by
        have h3 := H3.out
        have g1 : w3.grownBy W9 (some (B + 1)) := by rw [hW9]; exact setL_gw _ _ _
        have hs9 : W9.heap.size = w3.heap.size := by rw [hW9]; exact setL_size _ _ _ _
        have eB := h3.eB; have lB := h3.lB; have h1 := h3.h1; have h2 := h3.h2
        have hx : ExB w3 (B + 1) 32 := ⟨_, h3.rs⟩
        have q1 := h3.ln.1
        have q2 := h3.ln.2.1
        refine ⟨by rw [hW9, show lac L a6 n cp6 r1 r2 l1 l2 d1 d2 = wrA lzc 0 (lacL L a6 n cp6 r1 r2 l1 l2 d1 d2) from (lwr0_17 _ _ _ _ _ _ _ _ _ _ _ _ _ _ _ _ _ _ _ _ _ _ _ _ _ _ _ _ _ _ _ _ _ _).symm]; exact Blk.stL _ _ h3.rs, ?_⟩
        refine ⟨a6, cp6, r1, r2, d1, d2, hi, hi, _, _, _, _, by rw [← q1, ← q2], by omega, by omega, by omega, by rw [← q1, ← q2]; exact h3.ln.keptT g1 hx (by decide) (by decide) (by decide), by rw [hs9]; exact topL_keptLt h3.ot g1 (by omega), topL_keptLt h3.td g1 (by omega), by rw [hW9]; exact setL_below (by omega) _ _ _ h3.bl⟩
      rw [show setL w3 (B + 1) 0 (lac L a6 n cp6 r1 r2 l1 l2 d1 d2).toList = W9 from hW9.symm]
      clear hW9 HC H0 H3
      go_wp2
      refine bodyPost_ret (v := .tuple #[.agg (lac L a6 n cp6 r1 r2 l1 l2 d1 d2), (.slice (some ⟨hi, 0, none⟩) 0 0), (.slice (some ⟨hi + 1, 0, none⟩) 0 0)]) (results_cell2 Tryz.results12 rfl rfl rfl (run_loadVar_mid _ _ _ 32 (lacL L a6 n cp6 r1 r2 l1 l2 d1 d2) _ H9.out.1.all Tryz.underlying32 rfl (by kernel_rfl))) rfl ?_
      exact H9.out.2
    | true =>
      have HF : Hid (inB L.wt 0 4294967295 = true ∧ (0 ≤ L.nx ∧ L.nx ≤ 65535) ∧ (L.bz = true → inB L.du 0 4294967295 = true ∧ L.le ≤ 5 ∧ okR L.c.kd L.c.pl L.c.n L.c.wa L.c.ws L.c.ws.length L.c.bs.length = true)) := okLn_f HC.out.1
      cases bz with
      | false =>
        go_wp2_with fail
        refine (isDue_no L a6 r1 r2 n cp6 l1 l2 d1 d2 (hi + 2) now _ H3.out.bx HZ.out).mono ?_
        rintro e w5 ⟨rfl, hw5⟩
        have hw5 := hw5.symm
        subst hw5
        go_wp2_with fail
        refine (isDue_no L a6 r1 r2 n cp6 l1 l2 d1 d2 (hi + 2) now _ H3.out.bx HZ.out).mono ?_
        rintro e w5 ⟨rfl, hw5⟩
        have hw5 := hw5.symm
        subst hw5
        have y1 : w3.cell? ⟨hi + 2, 1, none⟩ = some (.bool L.bz) := H3.out.bx.cell 1 rfl
        rw [HZ.out] at y1
        have y0 : w3.cell? ⟨hi + 2, 0, none⟩ = some (.slice a6 n cp6) := H3.out.bx.cell 0 rfl
        cases nz with
        | false =>
          have hn0 : ¬ (0 : Int) < (n : Int) := by have := of_decide_eq_false hnz; omega
          go_upto_region 10 with fail
          try go_simp
          refine wp_region_lit ?_
          refine wpList_load_mid rfl 32 (.tmp 7) rfl (hi + 2) 0 rfl (lacL L a6 n cp6 r1 r2 l1 l2 d1 d2) _ H3.out.bx.all Tryz.underlying32 rfl (by kernel_rfl) ?_
          refine wpList_move_any rfl (.tmp 8) rfl (.slice (some ⟨hi, 0, none⟩) 0 0) rfl ?_
          refine wpList_move_any rfl (.tmp 9) rfl (.slice (some ⟨hi + 1, 0, none⟩) 0 0) rfl ?_
          refine wpList_store_mid rfl 32 (.tmp 4) (.tmp 60) rfl (B + 1) 0 (lac L a6 n cp6 r1 r2 l1 l2 d1 d2) rfl rfl (H3.out.rs.there 0 17 (by simp)) (by kernel_rfl) (by simp [Value.oneCell']) ?_
          rw [setCells_L]
          obtain ⟨W9, hW9⟩ : ∃ W9, W9 = setL w3 (B + 1) 0 (lacL L a6 n cp6 r1 r2 l1 l2 d1 d2) := ⟨_, rfl⟩
          have H9 : Hid (Blk W9 (B + 1) 32 (lac L a6 n cp6 r1 r2 l1 l2 d1 d2) ∧ TkP w W9 (.returned (.tuple #[.agg (lac L a6 n cp6 r1 r2 l1 l2 d1 d2), (.slice (some ⟨hi, 0, none⟩) 0 0), (.slice (some ⟨hi + 1, 0, none⟩) 0 0)])) n f L 0 (odL L) 0 (tkDn L)) := by
            have h3 := H3.out
            have g1 : w3.grownBy W9 (some (B + 1)) := by rw [hW9]; exact setL_gw _ _ _
            have hs9 : W9.heap.size = w3.heap.size := by rw [hW9]; exact setL_size _ _ _ _
            have eB := h3.eB; have lB := h3.lB; have h1 := h3.h1; have h2 := h3.h2
            have hx : ExB w3 (B + 1) 32 := ⟨_, h3.rs⟩
            have q1 := h3.ln.1
            have q2 := h3.ln.2.1
            refine ⟨by rw [hW9, show lac L a6 n cp6 r1 r2 l1 l2 d1 d2 = wrA lzc 0 (lacL L a6 n cp6 r1 r2 l1 l2 d1 d2) from (lwr0_17 _ _ _ _ _ _ _ _ _ _ _ _ _ _ _ _ _ _ _ _ _ _ _ _ _ _ _ _ _ _ _ _ _ _).symm]; exact Blk.stL _ _ h3.rs, ?_⟩
            refine ⟨a6, cp6, r1, r2, d1, d2, hi, hi, _, _, _, _, by rw [← q1, ← q2], by omega, by omega, by omega, by rw [← q1, ← q2]; exact h3.ln.keptT g1 hx (by decide) (by decide) (by decide), by rw [hs9]; exact topL_keptLt h3.ot g1 (by omega), topL_keptLt h3.td g1 (by omega), by rw [hW9]; exact setL_below (by omega) _ _ _ h3.bl⟩
          rw [show setL w3 (B + 1) 0 (lac L a6 n cp6 r1 r2 l1 l2 d1 d2).toList = W9 from hW9.symm]
          clear hW9 HC H0 H3
          go_wp2
          refine bodyPost_ret (v := .tuple #[.agg (lac L a6 n cp6 r1 r2 l1 l2 d1 d2), (.slice (some ⟨hi, 0, none⟩) 0 0), (.slice (some ⟨hi + 1, 0, none⟩) 0 0)]) (results_cell2 Tryz.results12 rfl rfl rfl (run_loadVar_mid _ _ _ 32 (lacL L a6 n cp6 r1 r2 l1 l2 d1 d2) _ H9.out.1.all Tryz.underlying32 rfl (by kernel_rfl))) rfl ?_
          exact H9.out.2
        | true =>
          have hn0 : (0 : Int) < (n : Int) := by have := of_decide_eq_true hnz; omega
          go_upto_region 9 with fail
          clear y0 y1
          obtain ⟨gq, oq, b1, b2, k1, k2, m1, m2, ha6, hqx, hm1, hm2, hrg, p1, p2, htl⟩ := H3.out.ln.head (by omega)
          have HT := hide htl
          have HP : Hid (m1 = (f 0).ws.length ∧ m2 = (f 0).bs.length ∧ ExB w3 gq 30 ∧ w3.rangeAt gq oq (calL (f 0) b1 b2 m1 m2 k1 k2) ∧ OwnI w3 w.heap.size (.slice b1 m1 k1) (f 0).ws ∧ OwnB w3 w.heap.size (.slice b2 m2 k2) (f 0).bs ∧ m1 ≤ 2000000 ∧ m2 ≤ 2000000) := ⟨hm1, hm2, hqx, hrg, p1, p2, by rw [hm1]; exact (H0.out.2.1.2 0 (by omega)).1, by rw [hm2]; exact (H0.out.2.1.2 0 (by omega)).2⟩
          subst ha6
          clear htl hm1 hm2 hqx hrg p1 p2
          go_wp2_with fail
          refine (askNext_any L (f 0) r1 r2 n cp6 l1 l2 d1 d2 (hi + 2) w.heap.size gq oq b1 b2 m1 m2 k1 k2 now _ H3.out.bx HP.out.2.2.1 HP.out.2.2.2.1 (by omega) hcp6 HP.out.1 HP.out.2.1 HP.out.2.2.2.2.1 HP.out.2.2.2.2.2.1 HP.out.2.2.2.2.2.2.1 HP.out.2.2.2.2.2.2.2 HC.out.2.1 HF.out.1 HF.out.2.1).mono ?_
          rintro e w10 ⟨xa9, ⟨u1, u2, t1, t2, rfl, i1, i2, X10, g10⟩, hxa9⟩
          obtain ⟨hm9, hhm9⟩ : ∃ hm9, hm9 = w3.heap.size := ⟨_, rfl⟩
          have H10 : Hid (LnPB w10 w.heap.size hi (n - 1) (fun k => f (k + 1)) (nxL (f 0) now L) xa9 (cp6 - 1) b1 b2 m1 m2 k1 k2 ∧ Blk w10 (hi + 2) 32 (lac (nxL (f 0) now L) xa9 (n - 1) (cp6 - 1) b1 b2 m1 m2 k1 k2) ∧ Blk w10 (B + 1) 32 lzc ∧ Below w.heap.size w w10 ∧ TopL w10 hi hm9 43 8 (.slice (some ⟨hi + 1, 0, none⟩) 0 0) 0 (fun _ => dnE (tkDn L)) ∧ OwnI w10 hm9 (.slice u1 m1 t1) (f 0).ws ∧ OwnB w10 hm9 (.slice u2 m2 t2) (f 0).bs ∧ hm9 ≤ w10.heap.size ∧ hi ≤ hm9 ∧ w.heap.size = B ∧ B + 1 < hi) := by
            have h3 := H3.out
            have eB := h3.eB; have lB := h3.lB; have h1 := h3.h1; have h2 := h3.h2
            have hx : ExB w3 (hi + 2) 32 := ⟨_, h3.bx⟩
            rw [hhm9]
            refine ⟨HT.out w10 _ _ _ _ g10 hx rfl hxa9, X10, h3.rs.grown g10 (by intro e9; have := Option.some.inj e9; omega), h3.bl.grown g10 h3.bl.size (fun k hk => by have := Option.some.inj hk; omega), (h3.td.up h2).keptT g10 hx (by decide) (by decide) (by decide) (Nat.le_refl _), i1, i2, g10.size, by omega, eB, lB⟩
          clear i1 i2 X10 g10 hhm9 HT HP hxa9 H3
          rename_i hK
          refine hK _ _ ?_
          clear hK
          have HOE : odL (nxL (f 0) now L) = odL (nxL (f 0) now L) := rfl
          rw [HOE]
          refine wpList_bs rfl 45 1 _ rfl #[(0, .agg (odc (odL (nxL (f 0) now L)) u1 u2 m1 m2 t1 t2))] (by simp only [List.map_toArray, List.map_cons, List.map_nil]; rfl) (.slice (some ⟨w10.heap.size, 0, none⟩) 1 1) (run_bsO _ _ _ _ _ _ _ w10) ?_
          have ba := bel_alloc w10 (.cells (odc (odL (nxL (f 0) now L)) u1 u2 m1 m2 t1 t2) 83)
          have hl9 := H10.out.1.1
          have hl10 := H10.out.1.2.1
          obtain ⟨vo9, wo9, w11, hr11, T11, b11⟩ := run_appO 45 ⟨hi, 0, none⟩ w10.heap.size hm9 (odL (nxL (f 0) now L)) u1 u2 m1 m2 t1 t2 _ (Blk.new w10 _ _) hl9 hl10 (Nat.le_trans H10.out.2.2.2.2.2.2.2.1 ba.size) (row_bel H10.out.2.2.2.2.2.1 ba) (row_bel H10.out.2.2.2.2.2.2.1 ba)
          have HN : Hid (SK w B hi hm9 (n - 1) (fun k => f (k + 1)) (nxL (f 0) now L) xa9 (cp6 - 1) b1 b2 m1 m2 k1 k2 (.slice vo9 1 wo9) 1 (odL (nxL (f 0) now L)) (.slice (some ⟨hi + 1, 0, none⟩) 0 0) 0 (tkDn L) w11) := by
            have h9 := H10.out
            have bb := bel_nx ba b11
            exact ⟨h9.1.below bb, h9.2.1.below bb, h9.2.2.1.below bb, bel_nx h9.2.2.2.1 bb, h9.2.2.2.2.2.2.2.2.2.1, h9.2.2.2.2.2.2.2.2.2.2, h9.2.2.2.2.2.2.2.2.1, Nat.le_trans h9.2.2.2.2.2.2.2.1 bb.size, T11, h9.2.2.2.2.1.below9 bb (Nat.le_refl _)⟩
          clear T11 b11 ba H10 hl9 hl10 HOE
          refine wpList_run_w rfl _ (run_app_op rfl rfl rfl hr11) ?_
          clear hr11
          go_upto_region 10 with fail
          try go_simp
          refine wp_region_lit ?_
          refine wpList_load_mid rfl 32 (.tmp 7) rfl (hi + 2) 0 rfl (lacL (nxL (f 0) now L) xa9 (n - 1) (cp6 - 1) b1 b2 m1 m2 k1 k2) _ HN.out.bx.all Tryz.underlying32 rfl (by kernel_rfl) ?_
          refine wpList_move_any rfl (.tmp 8) rfl (.slice vo9 1 wo9) rfl ?_
          refine wpList_move_any rfl (.tmp 9) rfl (.slice (some ⟨hi + 1, 0, none⟩) 0 0) rfl ?_
          refine wpList_store_mid rfl 32 (.tmp 4) (.tmp 60) rfl (B + 1) 0 (lac (nxL (f 0) now L) xa9 (n - 1) (cp6 - 1) b1 b2 m1 m2 k1 k2) rfl rfl (HN.out.rs.there 0 17 (by simp)) (by kernel_rfl) (by simp [Value.oneCell']) ?_
          rw [setCells_L]
          obtain ⟨W9, hW9⟩ : ∃ W9, W9 = setL w11 (B + 1) 0 (lacL (nxL (f 0) now L) xa9 (n - 1) (cp6 - 1) b1 b2 m1 m2 k1 k2) := ⟨_, rfl⟩
          have H9 : Hid (Blk W9 (B + 1) 32 (lac (nxL (f 0) now L) xa9 (n - 1) (cp6 - 1) b1 b2 m1 m2 k1 k2) ∧ TkP w W9 (.returned (.tuple #[.agg (lac (nxL (f 0) now L) xa9 (n - 1) (cp6 - 1) b1 b2 m1 m2 k1 k2), (.slice vo9 1 wo9), (.slice (some ⟨hi + 1, 0, none⟩) 0 0)])) (n - 1) (fun k => f (k + 1)) (nxL (f 0) now L) 1 (odL (nxL (f 0) now L)) 0 (tkDn L)) := by
            have h3 := HN.out
            have g1 : w11.grownBy W9 (some (B + 1)) := by rw [hW9]; exact setL_gw _ _ _
            have hs9 : W9.heap.size = w11.heap.size := by rw [hW9]; exact setL_size _ _ _ _
            have eB := h3.eB; have lB := h3.lB; have h1 := h3.h1; have h2 := h3.h2
            have hx : ExB w11 (B + 1) 32 := ⟨_, h3.rs⟩
            have q1 := h3.ln.1
            have q2 := h3.ln.2.1
            refine ⟨by rw [hW9, show lac (nxL (f 0) now L) xa9 (n - 1) (cp6 - 1) b1 b2 m1 m2 k1 k2 = wrA lzc 0 (lacL (nxL (f 0) now L) xa9 (n - 1) (cp6 - 1) b1 b2 m1 m2 k1 k2) from (lwr0_17 _ _ _ _ _ _ _ _ _ _ _ _ _ _ _ _ _ _ _ _ _ _ _ _ _ _ _ _ _ _ _ _ _ _).symm]; exact Blk.stL _ _ h3.rs, ?_⟩
            refine ⟨xa9, (cp6 - 1), b1, b2, k1, k2, hi, hm9, _, _, _, _, by rw [← q1, ← q2], by omega, by omega, by omega, by rw [← q1, ← q2]; exact h3.ln.keptT g1 hx (by decide) (by decide) (by decide), by rw [hs9]; exact topL_keptLt h3.ot g1 (by omega), topL_keptLt h3.td g1 (by omega), by rw [hW9]; exact setL_below (by omega) _ _ _ h3.bl⟩
          rw [show setL w11 (B + 1) 0 (lac (nxL (f 0) now L) xa9 (n - 1) (cp6 - 1) b1 b2 m1 m2 k1 k2).toList = W9 from hW9.symm]
          clear hW9 HC H0 HN
          go_wp2
          refine bodyPost_ret (v := .tuple #[.agg (lac (nxL (f 0) now L) xa9 (n - 1) (cp6 - 1) b1 b2 m1 m2 k1 k2), (.slice vo9 1 wo9), (.slice (some ⟨hi + 1, 0, none⟩) 0 0)]) (results_cell2 Tryz.results12 rfl rfl rfl (run_loadVar_mid _ _ _ 32 (lacL (nxL (f 0) now L) xa9 (n - 1) (cp6 - 1) b1 b2 m1 m2 k1 k2) _ H9.out.1.all Tryz.underlying32 rfl (by kernel_rfl))) rfl ?_
          exact H9.out.2
      | true =>
        go_wp2_with fail
        refine (isDue_yes L a6 r1 r2 n cp6 l1 l2 d1 d2 (hi + 2) now _ H3.out.bx HZ.out HC.out.2.1 (HF.out.2.2 HZ.out).1).mono ?_
        rintro e w5 ⟨rfl, hw5⟩
        have hw5 := hw5.symm
        subst hw5
        rw [HC.out.2.2.1]
        have y13 : w3.cell? ⟨hi + 2, 13, none⟩ = some (.int .i64 L.le) := H3.out.bx.cell 13 rfl
        cases dz with
        | false =>
          go_wp2_with fail
          refine (isDue_yes L a6 r1 r2 n cp6 l1 l2 d1 d2 (hi + 2) now _ H3.out.bx HZ.out HC.out.2.1 (HF.out.2.2 HZ.out).1).mono ?_
          rintro e w5 ⟨rfl, hw5⟩
          have hw5 := hw5.symm
          subst hw5
          rw [HC.out.2.2.1]
          have y1 : w3.cell? ⟨hi + 2, 1, none⟩ = some (.bool L.bz) := H3.out.bx.cell 1 rfl
          rw [HZ.out] at y1
          go_upto_region 10 with fail
          try go_simp
          refine wp_region_lit ?_
          refine wpList_load_mid rfl 32 (.tmp 7) rfl (hi + 2) 0 rfl (lacL L a6 n cp6 r1 r2 l1 l2 d1 d2) _ H3.out.bx.all Tryz.underlying32 rfl (by kernel_rfl) ?_
          refine wpList_move_any rfl (.tmp 8) rfl (.slice (some ⟨hi, 0, none⟩) 0 0) rfl ?_
          refine wpList_move_any rfl (.tmp 9) rfl (.slice (some ⟨hi + 1, 0, none⟩) 0 0) rfl ?_
          refine wpList_store_mid rfl 32 (.tmp 4) (.tmp 60) rfl (B + 1) 0 (lac L a6 n cp6 r1 r2 l1 l2 d1 d2) rfl rfl (H3.out.rs.there 0 17 (by simp)) (by kernel_rfl) (by simp [Value.oneCell']) ?_
          rw [setCells_L]
          obtain ⟨W9, hW9⟩ : ∃ W9, W9 = setL w3 (B + 1) 0 (lacL L a6 n cp6 r1 r2 l1 l2 d1 d2) := ⟨_, rfl⟩
          have H9 : Hid (Blk W9 (B + 1) 32 (lac L a6 n cp6 r1 r2 l1 l2 d1 d2) ∧ TkP w W9 (.returned (.tuple #[.agg (lac L a6 n cp6 r1 r2 l1 l2 d1 d2), (.slice (some ⟨hi, 0, none⟩) 0 0), (.slice (some ⟨hi + 1, 0, none⟩) 0 0)])) n f L 0 (odL L) 0 (tkDn L)) := by
            have h3 := H3.out
            have g1 : w3.grownBy W9 (some (B + 1)) := by rw [hW9]; exact setL_gw _ _ _
            have hs9 : W9.heap.size = w3.heap.size := by rw [hW9]; exact setL_size _ _ _ _
            have eB := h3.eB; have lB := h3.lB; have h1 := h3.h1; have h2 := h3.h2
            have hx : ExB w3 (B + 1) 32 := ⟨_, h3.rs⟩
            have q1 := h3.ln.1
            have q2 := h3.ln.2.1
            refine ⟨by rw [hW9, show lac L a6 n cp6 r1 r2 l1 l2 d1 d2 = wrA lzc 0 (lacL L a6 n cp6 r1 r2 l1 l2 d1 d2) from (lwr0_17 _ _ _ _ _ _ _ _ _ _ _ _ _ _ _ _ _ _ _ _ _ _ _ _ _ _ _ _ _ _ _ _ _ _).symm]; exact Blk.stL _ _ h3.rs, ?_⟩
            refine ⟨a6, cp6, r1, r2, d1, d2, hi, hi, _, _, _, _, by rw [← q1, ← q2], by omega, by omega, by omega, by rw [← q1, ← q2]; exact h3.ln.keptT g1 hx (by decide) (by decide) (by decide), by rw [hs9]; exact topL_keptLt h3.ot g1 (by omega), topL_keptLt h3.td g1 (by omega), by rw [hW9]; exact setL_below (by omega) _ _ _ h3.bl⟩
          rw [show setL w3 (B + 1) 0 (lac L a6 n cp6 r1 r2 l1 l2 d1 d2).toList = W9 from hW9.symm]
          clear hW9 HC H0 H3
          go_wp2
          refine bodyPost_ret (v := .tuple #[.agg (lac L a6 n cp6 r1 r2 l1 l2 d1 d2), (.slice (some ⟨hi, 0, none⟩) 0 0), (.slice (some ⟨hi + 1, 0, none⟩) 0 0)]) (results_cell2 Tryz.results12 rfl rfl rfl (run_loadVar_mid _ _ _ 32 (lacL L a6 n cp6 r1 r2 l1 l2 d1 d2) _ H9.out.1.all Tryz.underlying32 rfl (by kernel_rfl))) rfl ?_
          exact H9.out.2
        | true =>
          cases lz with
          | true =>
            have hle : 0 < L.le := of_decide_eq_true hlz
            go_upto_region 5 with fail
            clear y13
            have hown := H3.out.ln
            obtain ⟨_, _, _, _, _, _, p1, p2, _⟩ := hown
            have HP := hide (And.intro p1 p2)
            clear p1 p2
            go_wp2_with fail
            refine (askAgain_any L a6 r1 r2 n cp6 l1 l2 d1 d2 (hi + 2) w.heap.size now _ H3.out.bx HC.out.2.2.2.1 HC.out.2.2.2.2 HP.out.1 HP.out.2 hl1 hl2 HC.out.2.1 HF.out.1 ⟨hle, (HF.out.2.2 HZ.out).2.1⟩).mono ?_
            rintro e w10 ⟨u1, u2, t1, t2, rfl, i1, i2, X10, g10⟩
            obtain ⟨hm9, hhm9⟩ : ∃ hm9, hm9 = w3.heap.size := ⟨_, rfl⟩
            have H10 : Hid (LnPB w10 w.heap.size hi n f (agL now L) a6 cp6 r1 r2 l1 l2 d1 d2 ∧ Blk w10 (hi + 2) 32 (lac (agL now L) a6 n cp6 r1 r2 l1 l2 d1 d2) ∧ Blk w10 (B + 1) 32 lzc ∧ Below w.heap.size w w10 ∧ TopL w10 hi hm9 43 8 (.slice (some ⟨hi + 1, 0, none⟩) 0 0) 0 (fun _ => dnE (tkDn L)) ∧ OwnI w10 hm9 (.slice u1 l1 t1) L.c.ws ∧ OwnB w10 hm9 (.slice u2 l2 t2) L.c.bs ∧ hm9 ≤ w10.heap.size ∧ hi ≤ hm9 ∧ w.heap.size = B ∧ B + 1 < hi) := by
              have h3 := H3.out
              have eB := h3.eB; have lB := h3.lB; have h1 := h3.h1; have h2 := h3.h2
              have hx : ExB w3 (hi + 2) 32 := ⟨_, h3.bx⟩
              rw [hhm9]
              refine ⟨(h3.ln.keptT g10 hx (by decide) (by decide) (by decide)).line (by rfl), X10, h3.rs.grown g10 (by intro e9; have := Option.some.inj e9; omega), h3.bl.grown g10 h3.bl.size (fun k hk => by have := Option.some.inj hk; omega), (h3.td.up h2).keptT g10 hx (by decide) (by decide) (by decide) (Nat.le_refl _), i1, i2, g10.size, by omega, eB, lB⟩
            clear i1 i2 X10 g10 hhm9 HP H3
            rename_i hK
            refine hK _ _ ?_
            clear hK
            refine wpList_bs rfl 45 1 _ rfl #[(0, .agg (odc (odL L) u1 u2 l1 l2 t1 t2))] (by simp only [List.map_toArray, List.map_cons, List.map_nil]; rfl) (.slice (some ⟨w10.heap.size, 0, none⟩) 1 1) (run_bsO _ _ _ _ _ _ _ w10) ?_
            have ba := bel_alloc w10 (.cells (odc (odL L) u1 u2 l1 l2 t1 t2) 83)
            obtain ⟨vo9, wo9, w11, hr11, T11, b11⟩ := run_appO 45 ⟨hi, 0, none⟩ w10.heap.size hm9 (odL L) u1 u2 l1 l2 t1 t2 _ (Blk.new w10 _ _) HC.out.2.2.2.1 HC.out.2.2.2.2 (Nat.le_trans H10.out.2.2.2.2.2.2.2.1 ba.size) (row_bel H10.out.2.2.2.2.2.1 ba) (row_bel H10.out.2.2.2.2.2.2.1 ba)
            have HN : Hid (SK w B hi hm9 n f (agL now L) a6 cp6 r1 r2 l1 l2 d1 d2 (.slice vo9 1 wo9) 1 (odL L) (.slice (some ⟨hi + 1, 0, none⟩) 0 0) 0 (tkDn L) w11) := by
              have h9 := H10.out
              have bb := bel_nx ba b11
              exact ⟨h9.1.below bb, h9.2.1.below bb, h9.2.2.1.below bb, bel_nx h9.2.2.2.1 bb, h9.2.2.2.2.2.2.2.2.2.1, h9.2.2.2.2.2.2.2.2.2.2, h9.2.2.2.2.2.2.2.2.1, Nat.le_trans h9.2.2.2.2.2.2.2.1 bb.size, T11, h9.2.2.2.2.1.below9 bb (Nat.le_refl _)⟩
            clear T11 b11 ba H10
            refine wpList_run_w rfl _ (run_app_op rfl rfl rfl hr11) ?_
            clear hr11
            have y1 : w11.cell? ⟨hi + 2, 1, none⟩ = some (.bool L.bz) := HN.out.bx.cell 1 rfl
            rw [HZ.out] at y1
            go_upto_region 10 with fail
            try go_simp
            refine wp_region_lit ?_
            refine wpList_load_mid rfl 32 (.tmp 7) rfl (hi + 2) 0 rfl (lacL (agL now L) a6 n cp6 r1 r2 l1 l2 d1 d2) _ HN.out.bx.all Tryz.underlying32 rfl (by kernel_rfl) ?_
            refine wpList_move_any rfl (.tmp 8) rfl (.slice vo9 1 wo9) rfl ?_
            refine wpList_move_any rfl (.tmp 9) rfl (.slice (some ⟨hi + 1, 0, none⟩) 0 0) rfl ?_
            refine wpList_store_mid rfl 32 (.tmp 4) (.tmp 60) rfl (B + 1) 0 (lac (agL now L) a6 n cp6 r1 r2 l1 l2 d1 d2) rfl rfl (HN.out.rs.there 0 17 (by simp)) (by kernel_rfl) (by simp [Value.oneCell']) ?_
            rw [setCells_L]
            obtain ⟨W9, hW9⟩ : ∃ W9, W9 = setL w11 (B + 1) 0 (lacL (agL now L) a6 n cp6 r1 r2 l1 l2 d1 d2) := ⟨_, rfl⟩
            have H9 : Hid (Blk W9 (B + 1) 32 (lac (agL now L) a6 n cp6 r1 r2 l1 l2 d1 d2) ∧ TkP w W9 (.returned (.tuple #[.agg (lac (agL now L) a6 n cp6 r1 r2 l1 l2 d1 d2), (.slice vo9 1 wo9), (.slice (some ⟨hi + 1, 0, none⟩) 0 0)])) n f (agL now L) 1 (odL L) 0 (tkDn L)) := by
              have h3 := HN.out
              have g1 : w11.grownBy W9 (some (B + 1)) := by rw [hW9]; exact setL_gw _ _ _
              have hs9 : W9.heap.size = w11.heap.size := by rw [hW9]; exact setL_size _ _ _ _
              have eB := h3.eB; have lB := h3.lB; have h1 := h3.h1; have h2 := h3.h2
              have hx : ExB w11 (B + 1) 32 := ⟨_, h3.rs⟩
              have q1 := h3.ln.1
              have q2 := h3.ln.2.1
              refine ⟨by rw [hW9, show lac (agL now L) a6 n cp6 r1 r2 l1 l2 d1 d2 = wrA lzc 0 (lacL (agL now L) a6 n cp6 r1 r2 l1 l2 d1 d2) from (lwr0_17 _ _ _ _ _ _ _ _ _ _ _ _ _ _ _ _ _ _ _ _ _ _ _ _ _ _ _ _ _ _ _ _ _ _).symm]; exact Blk.stL _ _ h3.rs, ?_⟩
              refine ⟨a6, cp6, r1, r2, d1, d2, hi, hm9, _, _, _, _, by rw [← q1, ← q2], by omega, by omega, by omega, by rw [← q1, ← q2]; exact h3.ln.keptT g1 hx (by decide) (by decide) (by decide), by rw [hs9]; exact topL_keptLt h3.ot g1 (by omega), topL_keptLt h3.td g1 (by omega), by rw [hW9]; exact setL_below (by omega) _ _ _ h3.bl⟩
            rw [show setL w11 (B + 1) 0 (lac (agL now L) a6 n cp6 r1 r2 l1 l2 d1 d2).toList = W9 from hW9.symm]
            clear hW9 HC H0 HN
            go_wp2
            refine bodyPost_ret (v := .tuple #[.agg (lac (agL now L) a6 n cp6 r1 r2 l1 l2 d1 d2), (.slice vo9 1 wo9), (.slice (some ⟨hi + 1, 0, none⟩) 0 0)]) (results_cell2 Tryz.results12 rfl rfl rfl (run_loadVar_mid _ _ _ 32 (lacL (agL now L) a6 n cp6 r1 r2 l1 l2 d1 d2) _ H9.out.1.all Tryz.underlying32 rfl (by kernel_rfl))) rfl ?_
            exact H9.out.2
          | false =>
            have hle : ¬ 0 < L.le := of_decide_eq_false hlz
            go_wp2_with fail
            refine (isDue_yes L a6 r1 r2 n cp6 l1 l2 d1 d2 (hi + 2) now _ H3.out.bx HZ.out HC.out.2.1 (HF.out.2.2 HZ.out).1).mono ?_
            rintro e w5 ⟨rfl, hw5⟩
            have hw5 := hw5.symm
            subst hw5
            rw [HC.out.2.2.1]
            clear y13
            go_upto_region 7 with fail
            obtain ⟨⟨y0, y1, y2, y3, y4, y5, y6, y7, y8, y9, y10, y11, y12, y13, y14, y15, y16⟩, _⟩ := H3.out.bx.svn
            have hrd := H3.out.ln.p.rd
            go_wp2_with fail
            refine (implFaultOf_q L.c.kd L.c.pl L.c.n L.c.wa r1 r2 l1 l2 d1 d2 L.c.ws L.c.bs 11 _ hrd.1 hrd.2.1 hrd.2.2.2.1 hrd.2.2.2.2 (by rw [← hrd.1]; exact hl1) (by rw [← hrd.2.1]; exact hl2)).mono ?_
            rintro e w6 ⟨rfl, b6⟩
            rw [show (okR L.c.kd L.c.pl L.c.n L.c.wa L.c.ws l1 l2 && inB 11 1 255) = true by rw [HC.out.2.2.2.1, HC.out.2.2.2.2, (HF.out.2.2 HZ.out).2.2]; decide]
            have H6 : Hid (SK w B hi hi n f L a6 cp6 r1 r2 l1 l2 d1 d2 (.slice (some ⟨hi, 0, none⟩) 0 0) 0 (odL L) (.slice (some ⟨hi + 1, 0, none⟩) 0 0) 0 (tkDn L) w6) := H3.out.below b6
            clear b6 hrd H3 y0 y1 y2 y3 y4 y5 y6 y7 y8 y9 y10 y11 y12 y13 y14 y15 y16
            rename_i hK
            refine hK _ _ ?_
            clear hK
            go_wp2_with fail
            refine (end_any L a6 r1 r2 n cp6 l1 l2 d1 d2 (hi + 2) L.c.kd 11 0 0 none none 0 0 0 0 _ H6.out.bx).mono ?_
            rintro e w7 ⟨rfl, l7, g7⟩
            have H7 : Hid (LnPB w7 w.heap.size hi n f (freeL L) a6 cp6 none none 0 0 0 0 ∧ Blk w7 (hi + 2) 32 (lac (freeL L) a6 n cp6 none none 0 0 0 0) ∧ Blk w7 (B + 1) 32 lzc ∧ Below w.heap.size w w7 ∧ hi ≤ w7.heap.size ∧ w.heap.size = B ∧ B + 1 < hi) := by
              have h3 := H6.out
              have eB := h3.eB; have lB := h3.lB; have h1 := h3.h1; have h2 := h3.h2
              have hx : ExB w6 (hi + 2) 32 := ⟨_, h3.bx⟩
              exact ⟨(h3.ln.keptT g7 hx (by decide) (by decide) (by decide)).free, l7, h3.rs.grown g7 (by intro e9; have := Option.some.inj e9; omega), h3.bl.grown g7 h3.bl.size (fun k hk => by have := Option.some.inj hk; omega), by have := g7.size; omega, eB, lB⟩
            clear l7 g7 H6
            rename_i hK
            refine hK _ _ ?_
            clear hK
            refine wpList_bs rfl 39 1 _ rfl #[(0, .agg (dnd (tkDn L) none none 0 0 0 0))] (by simp only [List.map_toArray, List.map_cons, List.map_nil]; rfl) (.slice (some ⟨w7.heap.size, 0, none⟩) 1 1) (run_bsD _ _ _ _ _ _ _ w7) ?_
            have ba := bel_alloc w7 (.cells (dnd (tkDn L) none none 0 0 0 0) 43)
            obtain ⟨vd9, wd9, w9, hr9, T9, b9⟩ := run_appD 39 ⟨hi + 1, 0, none⟩ w7.heap.size hi (tkDn L) none none 0 0 0 0 _ (Blk.new w7 _ _) rfl rfl (Nat.le_trans H7.out.2.2.2.2.1 ba.size) (ownI_nil9 _ _) (ownB_nil9 _ _)
            obtain ⟨hm8, hhm8⟩ : ∃ hm8, hm8 = w9.heap.size := ⟨_, rfl⟩
            have HE : Hid (SK w B hi hm8 n f (freeL L) a6 cp6 none none 0 0 0 0 (.slice (some ⟨hi, 0, none⟩) 0 0) 0 (odL L) (.slice vd9 1 wd9) 1 (tkDn L) w9) := by
              have h9 := H7.out
              have bb := bel_nx ba b9
              rw [hhm8]
              exact ⟨h9.1.below bb, h9.2.1.below bb, h9.2.2.1.below bb, bel_nx h9.2.2.2.1 bb, h9.2.2.2.2.2.1, h9.2.2.2.2.2.2, Nat.le_trans h9.2.2.2.2.1 bb.size, Nat.le_refl _, topL_nil _ _ _ _ _ _ _ _ (Nat.le_refl _), T9⟩
            clear T9 b9 ba H7 hhm8
            refine wpList_run_w rfl _ (run_app_op rfl rfl rfl hr9) ?_
            clear hr9
            have y1 : w9.cell? ⟨hi + 2, 1, none⟩ = some (.bool false) := HE.out.bx.cell 1 rfl
            have y0 : w9.cell? ⟨hi + 2, 0, none⟩ = some (.slice a6 n cp6) := HE.out.bx.cell 0 rfl
            cases nz with
            | false =>
              have hn0 : ¬ (0 : Int) < (n : Int) := by have := of_decide_eq_false hnz; omega
              go_upto_region 10 with fail
              try go_simp
              refine wp_region_lit ?_
              refine wpList_load_mid rfl 32 (.tmp 7) rfl (hi + 2) 0 rfl (lacL (freeL L) a6 n cp6 none none 0 0 0 0) _ HE.out.bx.all Tryz.underlying32 rfl (by kernel_rfl) ?_
              refine wpList_move_any rfl (.tmp 8) rfl (.slice (some ⟨hi, 0, none⟩) 0 0) rfl ?_
              refine wpList_move_any rfl (.tmp 9) rfl (.slice vd9 1 wd9) rfl ?_
              refine wpList_store_mid rfl 32 (.tmp 4) (.tmp 60) rfl (B + 1) 0 (lac (freeL L) a6 n cp6 none none 0 0 0 0) rfl rfl (HE.out.rs.there 0 17 (by simp)) (by kernel_rfl) (by simp [Value.oneCell']) ?_
              rw [setCells_L]
              obtain ⟨W9, hW9⟩ : ∃ W9, W9 = setL w9 (B + 1) 0 (lacL (freeL L) a6 n cp6 none none 0 0 0 0) := ⟨_, rfl⟩
              have H9 : Hid (Blk W9 (B + 1) 32 (lac (freeL L) a6 n cp6 none none 0 0 0 0) ∧ TkP w W9 (.returned (.tuple #[.agg (lac (freeL L) a6 n cp6 none none 0 0 0 0), (.slice (some ⟨hi, 0, none⟩) 0 0), (.slice vd9 1 wd9)])) n f (freeL L) 0 (odL L) 1 (tkDn L)) := by
                have h3 := HE.out
                have g1 : w9.grownBy W9 (some (B + 1)) := by rw [hW9]; exact setL_gw _ _ _
                have hs9 : W9.heap.size = w9.heap.size := by rw [hW9]; exact setL_size _ _ _ _
                have eB := h3.eB; have lB := h3.lB; have h1 := h3.h1; have h2 := h3.h2
                have hx : ExB w9 (B + 1) 32 := ⟨_, h3.rs⟩
                have q1 := h3.ln.1
                have q2 := h3.ln.2.1
                refine ⟨by rw [hW9, show lac (freeL L) a6 n cp6 none none 0 0 0 0 = wrA lzc 0 (lacL (freeL L) a6 n cp6 none none 0 0 0 0) from (lwr0_17 _ _ _ _ _ _ _ _ _ _ _ _ _ _ _ _ _ _ _ _ _ _ _ _ _ _ _ _ _ _ _ _ _ _).symm]; exact Blk.stL _ _ h3.rs, ?_⟩
                refine ⟨a6, cp6, none, none, 0, 0, hi, hm8, _, _, _, _, by rw [← q1, ← q2], by omega, by omega, by omega, by rw [← q1, ← q2]; exact h3.ln.keptT g1 hx (by decide) (by decide) (by decide), by rw [hs9]; exact topL_keptLt h3.ot g1 (by omega), topL_keptLt h3.td g1 (by omega), by rw [hW9]; exact setL_below (by omega) _ _ _ h3.bl⟩
              rw [show setL w9 (B + 1) 0 (lac (freeL L) a6 n cp6 none none 0 0 0 0).toList = W9 from hW9.symm]
              clear hW9 HC H0 HE
              go_wp2
              refine bodyPost_ret (v := .tuple #[.agg (lac (freeL L) a6 n cp6 none none 0 0 0 0), (.slice (some ⟨hi, 0, none⟩) 0 0), (.slice vd9 1 wd9)]) (results_cell2 Tryz.results12 rfl rfl rfl (run_loadVar_mid _ _ _ 32 (lacL (freeL L) a6 n cp6 none none 0 0 0 0) _ H9.out.1.all Tryz.underlying32 rfl (by kernel_rfl))) rfl ?_
              exact H9.out.2
            | true =>
              have hn0 : (0 : Int) < (n : Int) := by have := of_decide_eq_true hnz; omega
              go_upto_region 9 with fail
              clear y0 y1
              obtain ⟨gq, oq, b1, b2, k1, k2, m1, m2, ha6, hqx, hm1, hm2, hrg, p1, p2, htl⟩ := HE.out.ln.head (by omega)
              have HT := hide htl
              have HP : Hid (m1 = (f 0).ws.length ∧ m2 = (f 0).bs.length ∧ ExB w9 gq 30 ∧ w9.rangeAt gq oq (calL (f 0) b1 b2 m1 m2 k1 k2) ∧ OwnI w9 w.heap.size (.slice b1 m1 k1) (f 0).ws ∧ OwnB w9 w.heap.size (.slice b2 m2 k2) (f 0).bs ∧ m1 ≤ 2000000 ∧ m2 ≤ 2000000) := ⟨hm1, hm2, hqx, hrg, p1, p2, by rw [hm1]; exact (H0.out.2.1.2 0 (by omega)).1, by rw [hm2]; exact (H0.out.2.1.2 0 (by omega)).2⟩
              subst ha6
              clear htl hm1 hm2 hqx hrg p1 p2
              go_wp2_with fail
              refine (askNext_any (freeL L) (f 0) none none n cp6 0 0 0 0 (hi + 2) w.heap.size gq oq b1 b2 m1 m2 k1 k2 now _ HE.out.bx HP.out.2.2.1 HP.out.2.2.2.1 (by omega) hcp6 HP.out.1 HP.out.2.1 HP.out.2.2.2.2.1 HP.out.2.2.2.2.2.1 HP.out.2.2.2.2.2.2.1 HP.out.2.2.2.2.2.2.2 HC.out.2.1 HF.out.1 HF.out.2.1).mono ?_
              rintro e w10 ⟨xa9, ⟨u1, u2, t1, t2, rfl, i1, i2, X10, g10⟩, hxa9⟩
              obtain ⟨hm9, hhm9⟩ : ∃ hm9, hm9 = w9.heap.size := ⟨_, rfl⟩
              have H10 : Hid (LnPB w10 w.heap.size hi (n - 1) (fun k => f (k + 1)) (nxL (f 0) now L) xa9 (cp6 - 1) b1 b2 m1 m2 k1 k2 ∧ Blk w10 (hi + 2) 32 (lac (nxL (f 0) now L) xa9 (n - 1) (cp6 - 1) b1 b2 m1 m2 k1 k2) ∧ Blk w10 (B + 1) 32 lzc ∧ Below w.heap.size w w10 ∧ TopL w10 hi hm9 43 8 (.slice vd9 1 wd9) 1 (fun _ => dnE (tkDn L)) ∧ OwnI w10 hm9 (.slice u1 m1 t1) (f 0).ws ∧ OwnB w10 hm9 (.slice u2 m2 t2) (f 0).bs ∧ hm9 ≤ w10.heap.size ∧ hi ≤ hm9 ∧ w.heap.size = B ∧ B + 1 < hi) := by
                have h3 := HE.out
                have eB := h3.eB; have lB := h3.lB; have h1 := h3.h1; have h2 := h3.h2
                have hx : ExB w9 (hi + 2) 32 := ⟨_, h3.bx⟩
                rw [hhm9]
                refine ⟨HT.out w10 _ _ _ _ g10 hx rfl hxa9, X10, h3.rs.grown g10 (by intro e9; have := Option.some.inj e9; omega), h3.bl.grown g10 h3.bl.size (fun k hk => by have := Option.some.inj hk; omega), (h3.td.up h2).keptT g10 hx (by decide) (by decide) (by decide) (Nat.le_refl _), i1, i2, g10.size, by omega, eB, lB⟩
              clear i1 i2 X10 g10 hhm9 HT HP hxa9 HE
              rename_i hK
              refine hK _ _ ?_
              clear hK
              have HOE : odL (nxL (f 0) now (freeL L)) = odL (nxL (f 0) now L) := rfl
              rw [HOE]
              refine wpList_bs rfl 45 1 _ rfl #[(0, .agg (odc (odL (nxL (f 0) now L)) u1 u2 m1 m2 t1 t2))] (by simp only [List.map_toArray, List.map_cons, List.map_nil]; rfl) (.slice (some ⟨w10.heap.size, 0, none⟩) 1 1) (run_bsO _ _ _ _ _ _ _ w10) ?_
              have ba := bel_alloc w10 (.cells (odc (odL (nxL (f 0) now L)) u1 u2 m1 m2 t1 t2) 83)
              have hl9 := H10.out.1.1
              have hl10 := H10.out.1.2.1
              obtain ⟨vo9, wo9, w11, hr11, T11, b11⟩ := run_appO 45 ⟨hi, 0, none⟩ w10.heap.size hm9 (odL (nxL (f 0) now L)) u1 u2 m1 m2 t1 t2 _ (Blk.new w10 _ _) hl9 hl10 (Nat.le_trans H10.out.2.2.2.2.2.2.2.1 ba.size) (row_bel H10.out.2.2.2.2.2.1 ba) (row_bel H10.out.2.2.2.2.2.2.1 ba)
              have HN : Hid (SK w B hi hm9 (n - 1) (fun k => f (k + 1)) (nxL (f 0) now L) xa9 (cp6 - 1) b1 b2 m1 m2 k1 k2 (.slice vo9 1 wo9) 1 (odL (nxL (f 0) now L)) (.slice vd9 1 wd9) 1 (tkDn L) w11) := by
                have h9 := H10.out
                have bb := bel_nx ba b11
                exact ⟨h9.1.below bb, h9.2.1.below bb, h9.2.2.1.below bb, bel_nx h9.2.2.2.1 bb, h9.2.2.2.2.2.2.2.2.2.1, h9.2.2.2.2.2.2.2.2.2.2, h9.2.2.2.2.2.2.2.2.1, Nat.le_trans h9.2.2.2.2.2.2.2.1 bb.size, T11, h9.2.2.2.2.1.below9 bb (Nat.le_refl _)⟩
              clear T11 b11 ba H10 hl9 hl10 HOE
              refine wpList_run_w rfl _ (run_app_op rfl rfl rfl hr11) ?_
              clear hr11
              go_upto_region 10 with fail
              try go_simp
              refine wp_region_lit ?_
              refine wpList_load_mid rfl 32 (.tmp 7) rfl (hi + 2) 0 rfl (lacL (nxL (f 0) now L) xa9 (n - 1) (cp6 - 1) b1 b2 m1 m2 k1 k2) _ HN.out.bx.all Tryz.underlying32 rfl (by kernel_rfl) ?_
              refine wpList_move_any rfl (.tmp 8) rfl (.slice vo9 1 wo9) rfl ?_
              refine wpList_move_any rfl (.tmp 9) rfl (.slice vd9 1 wd9) rfl ?_
              refine wpList_store_mid rfl 32 (.tmp 4) (.tmp 60) rfl (B + 1) 0 (lac (nxL (f 0) now L) xa9 (n - 1) (cp6 - 1) b1 b2 m1 m2 k1 k2) rfl rfl (HN.out.rs.there 0 17 (by simp)) (by kernel_rfl) (by simp [Value.oneCell']) ?_
              rw [setCells_L]
              obtain ⟨W9, hW9⟩ : ∃ W9, W9 = setL w11 (B + 1) 0 (lacL (nxL (f 0) now L) xa9 (n - 1) (cp6 - 1) b1 b2 m1 m2 k1 k2) := ⟨_, rfl⟩
              have H9 : Hid (Blk W9 (B + 1) 32 (lac (nxL (f 0) now L) xa9 (n - 1) (cp6 - 1) b1 b2 m1 m2 k1 k2) ∧ TkP w W9 (.returned (.tuple #[.agg (lac (nxL (f 0) now L) xa9 (n - 1) (cp6 - 1) b1 b2 m1 m2 k1 k2), (.slice vo9 1 wo9), (.slice vd9 1 wd9)])) (n - 1) (fun k => f (k + 1)) (nxL (f 0) now L) 1 (odL (nxL (f 0) now L)) 1 (tkDn L)) := by
                have h3 := HN.out
                have g1 : w11.grownBy W9 (some (B + 1)) := by rw [hW9]; exact setL_gw _ _ _
                have hs9 : W9.heap.size = w11.heap.size := by rw [hW9]; exact setL_size _ _ _ _
                have eB := h3.eB; have lB := h3.lB; have h1 := h3.h1; have h2 := h3.h2
                have hx : ExB w11 (B + 1) 32 := ⟨_, h3.rs⟩
                have q1 := h3.ln.1
                have q2 := h3.ln.2.1
                refine ⟨by rw [hW9, show lac (nxL (f 0) now L) xa9 (n - 1) (cp6 - 1) b1 b2 m1 m2 k1 k2 = wrA lzc 0 (lacL (nxL (f 0) now L) xa9 (n - 1) (cp6 - 1) b1 b2 m1 m2 k1 k2) from (lwr0_17 _ _ _ _ _ _ _ _ _ _ _ _ _ _ _ _ _ _ _ _ _ _ _ _ _ _ _ _ _ _ _ _ _ _).symm]; exact Blk.stL _ _ h3.rs, ?_⟩
                refine ⟨xa9, (cp6 - 1), b1, b2, k1, k2, hi, hm9, _, _, _, _, by rw [← q1, ← q2], by omega, by omega, by omega, by rw [← q1, ← q2]; exact h3.ln.keptT g1 hx (by decide) (by decide) (by decide), by rw [hs9]; exact topL_keptLt h3.ot g1 (by omega), topL_keptLt h3.td g1 (by omega), by rw [hW9]; exact setL_below (by omega) _ _ _ h3.bl⟩
              rw [show setL w11 (B + 1) 0 (lac (nxL (f 0) now L) xa9 (n - 1) (cp6 - 1) b1 b2 m1 m2 k1 k2).toList = W9 from hW9.symm]
              clear hW9 HC H0 HN
              go_wp2
              refine bodyPost_ret (v := .tuple #[.agg (lac (nxL (f 0) now L) xa9 (n - 1) (cp6 - 1) b1 b2 m1 m2 k1 k2), (.slice vo9 1 wo9), (.slice vd9 1 wd9)]) (results_cell2 Tryz.results12 rfl rfl rfl (run_loadVar_mid _ _ _ 32 (lacL (nxL (f 0) now L) xa9 (n - 1) (cp6 - 1) b1 b2 m1 m2 k1 k2) _ H9.out.1.all Tryz.underlying32 rfl (by kernel_rfl))) rfl ?_
              exact H9.out.2
end Go.Proofs.YtmhdneenjoelfaaGreat
namespace Go.Proofs.YtmhdneenjoelfaaGreat
open Go.RowKit Go.Joins
set_option linter.unusedVariables false
set_option linter.unusedSimpArgs false
set_option maxRecDepth 20000 in
set_option maxHeartbeats 2000000 in
theorem l12Order_any (L : La) (a a1 a2 : Option Addr) (n cp l1 l2 c1 c2 : Nat) (w : World) (e1 : l1 = L.c.ws.length) (e2 : l2 = L.c.bs.length) (s1 : SlI w a1 L.c.ws) (s2 : SlB w a2 L.c.bs) (hl1 : l1 ≤ 2000000) (hl2 : l2 ≤ 2000000) :
    Calls Tryz.prog 53 #[.agg (lac L a n cp a1 a2 l1 l2 c1 c2)] w fun e w' => ∃ u1 u2 t1 t2, e = .returned (.agg (odc (odL L) u1 u2 l1 l2 t1 t2)) ∧ OwnI w' w.heap.size (.slice u1 l1 t1) L.c.ws ∧ OwnB w' w.heap.size (.slice u2 l2 t2) L.c.bs ∧ Below w.heap.size w w' := by
  obtain ⟨B, hB⟩ : ∃ B, B = w.heap.size := ⟨_, rfl⟩
  obtain ⟨W, hW⟩ : ∃ W, W = (w.alloc (.cells (lac L a n cp a1 a2 l1 l2 c1 c2) 32)).alloc (.cells od0 83) := ⟨_, rfl⟩
  have bW : Below w.heap.size w W := by rw [hW]; exact bel_nx (bel_alloc w _) (bel_alloc _ _)
  have HB : Hid (Blk W B 32 (lac L a n cp a1 a2 l1 l2 c1 c2) ∧ Blk W (B + 1) 83 od0 ∧ Below w.heap.size w W ∧ w.heap.size = B) := by
    refine ⟨by rw [hW, hB]; exact (Blk.new w _ _).below (bel_alloc _ _), ?_, bW, hB.symm⟩
    rw [hW, hB]; have := Blk.new (w.alloc (.cells (lac L a n cp a1 a2 l1 l2 c1 c2) 32)) od0 83; simpa using this
  have HC : Hid (l1 = L.c.ws.length ∧ l2 = L.c.bs.length ∧ SlI w a1 L.c.ws ∧ SlB w a2 L.c.bs) := ⟨e1, e2, s1, s2⟩
  clear bW e1 e2 s1 s2
  go_enter Tryz.func53, Tryz.ntmps53
  go_upto_region 1 with fail
  have hB1 : w.heap.size + 1 = B + 1 := by omega
  rw [← hW, hB1, ← hB]
  clear hW hB hB1
  try go_simp
  refine wp_region_any (by kernel_rfl) ?_
  refine wpAny_valy (RgT (fun u => Below w.heap.size w u ∧ Blk u B 32 (lac L a n cp a1 a2 l1 l2 c1 c2)) (B + 1) 10 83 od0 (OdS (B + 1) w.heap.size (odL L) l1 l2)) MgO (fun i v u => match i with
    | 0 => v = .pointer (some ⟨B, 11, none⟩)
    | 1 => v = .int .i64 L.nu
    | 2 => v = .pointer (some ⟨B, 2, none⟩)
    | 3 => v = .pointer (some ⟨B, 4, none⟩)
    | 4 => v = .int .i64 L.c.un
    | 5 => v = .pointer (some ⟨B, 2, none⟩)
    | 6 => v = .pointer (some ⟨B, 5, none⟩)
    | 7 => v = .agg (rqL L.c.kd L.c.pl L.c.n L.c.wa a1 a2 l1 l2 c1 c2)
    | 8 => ∃ u1 u2 t1 t2, v = .agg (rqL L.c.kd L.c.pl L.c.n L.c.wa u1 u2 l1 l2 t1 t2) ∧ OwnI u w.heap.size (.slice u1 l1 t1) L.c.ws ∧ OwnB u w.heap.size (.slice u2 l2 t2) L.c.bs
    | 9 => ∃ u1 u2 t1 t2, v = .agg (odc (odL L) u1 u2 l1 l2 t1 t2) ∧ OwnI u w.heap.size (.slice u1 l1 t1) L.c.ws ∧ OwnB u w.heap.size (.slice u2 l2 t2) L.c.bs
    | _ => True) (by kernel_rfl) (by kernel_rfl) ?_ (fun u => .inl (Below.refl _ _)) ⟨by first | exact ⟨HB.out.2.2.1, HB.out.1⟩ | exact ⟨HB.out.2.2.1.drew, HB.out.1.below ((Below.refl _ _).drew)⟩, (fun _ => by first | exact HB.out.2.1 | exact HB.out.2.1.below ((Below.refl _ _).drew)), (fun h => by cases h)⟩ ?_ ?_ _ _ rfl (by decide) (fun i => by simp [Array.getD]; try (split <;> rfl))
  · intro i v u u' h hm
    match i with
    | 8 =>
      obtain ⟨u1, u2, t1, t2, e, h1, h2⟩ := h
      exact ⟨u1, u2, t1, t2, e, hm.i h1, hm.b h2⟩
    | 9 =>
      obtain ⟨u1, u2, t1, t2, e, h1, h2⟩ := h
      exact ⟨u1, u2, t1, t2, e, hm.i h1, hm.b h2⟩
    | 0 | 1 | 2 | 3 | 4 | 5 | 6 | 7 => exact h
    | _ + 10 => trivial
  rotate_left
  · intro u i o ρ l hR ho hli hcl hρ hc hf hdep hv
    have hi' : i < 11 := by
      have := (Array.getElem?_eq_some_iff.1 ho).1
      simpa using this
    obtain rfl | rfl | rfl | rfl | rfl | rfl | rfl | rfl | rfl | rfl | rfl : i = 0 ∨ i = 1 ∨ i = 2 ∨ i = 3 ∨ i = 4 ∨ i = 5 ∨ i = 6 ∨ i = 7 ∨ i = 8 ∨ i = 9 ∨ i = 10 := by omega
    all_goals (simp only [List.getElem?_toArray, List.getElem?_cons_zero, List.getElem?_cons_succ, Option.some.injEq] at ho; subst ho)
    · have s1 : ρ (.tmp 1) = .pointer (some ⟨B, 0, none⟩) := (hρ 1 (by kernel_rfl)).trans rfl
      exact .inl ⟨rfl, .inl ⟨.pointer (some ⟨B, 11, none⟩), u, run_field_op rfl s1 (by go_simp), rfl, (hR.next (by decide) hR.1 (Below.refl _ _) (fun h => h)), .inl (Below.refl _ _)⟩⟩
    · have h0 : ρ (.tmp 3) = .pointer (some ⟨B, 11, none⟩) := hv 0 3 rfl (hdep ⟨0, .data⟩ (by simp) rfl)
      obtain ⟨⟨y0, y1, y2, y3, y4, y5, y6, y7, y8, y9, y10, y11, y12, y13, y14, y15, y16⟩, _⟩ := hR.1.2.svn
      have hr : (Instr.loadAt 3 (.pointer (some ⟨B, 11, none⟩))).run Tryz.prog u = .ok (.int .i64 L.nu) u := by go_simp
      exact .inl ⟨rfl, .inl ⟨_, u, run_load_op rfl h0 hr, rfl, (hR.next (by decide) hR.1 (Below.refl _ _) (fun h => h)), .inl (Below.refl _ _)⟩⟩
    · have s1 : ρ (.tmp 1) = .pointer (some ⟨B, 0, none⟩) := (hρ 1 (by kernel_rfl)).trans rfl
      exact .inl ⟨rfl, .inl ⟨.pointer (some ⟨B, 2, none⟩), u, run_field_op rfl s1 (by go_simp), rfl, (hR.next (by decide) hR.1 (Below.refl _ _) (fun h => h)), .inl (Below.refl _ _)⟩⟩
    · have h2 : ρ (.tmp 5) = .pointer (some ⟨B, 2, none⟩) := hv 2 5 rfl (hdep ⟨2, .data⟩ (by simp) rfl)
      exact .inl ⟨rfl, .inl ⟨.pointer (some ⟨B, 4, none⟩), u, run_field_op rfl h2 (by go_simp), rfl, (hR.next (by decide) hR.1 (Below.refl _ _) (fun h => h)), .inl (Below.refl _ _)⟩⟩
    · have h3 : ρ (.tmp 6) = .pointer (some ⟨B, 4, none⟩) := hv 3 6 rfl (hdep ⟨3, .data⟩ (by simp) rfl)
      obtain ⟨⟨y0, y1, y2, y3, y4, y5, y6, y7, y8, y9, y10, y11, y12, y13, y14, y15, y16⟩, _⟩ := hR.1.2.svn
      have hr : (Instr.loadAt 3 (.pointer (some ⟨B, 4, none⟩))).run Tryz.prog u = .ok (.int .i64 L.c.un) u := by go_simp
      exact .inl ⟨rfl, .inl ⟨_, u, run_load_op rfl h3 hr, rfl, (hR.next (by decide) hR.1 (Below.refl _ _) (fun h => h)), .inl (Below.refl _ _)⟩⟩
    · have s1 : ρ (.tmp 1) = .pointer (some ⟨B, 0, none⟩) := (hρ 1 (by kernel_rfl)).trans rfl
      exact .inl ⟨rfl, .inl ⟨.pointer (some ⟨B, 2, none⟩), u, run_field_op rfl s1 (by go_simp), rfl, (hR.next (by decide) hR.1 (Below.refl _ _) (fun h => h)), .inl (Below.refl _ _)⟩⟩
    · have h5 : ρ (.tmp 8) = .pointer (some ⟨B, 2, none⟩) := hv 5 8 rfl (hdep ⟨5, .data⟩ (by simp) rfl)
      exact .inl ⟨rfl, .inl ⟨.pointer (some ⟨B, 5, none⟩), u, run_field_op rfl h5 (by go_simp), rfl, (hR.next (by decide) hR.1 (Below.refl _ _) (fun h => h)), .inl (Below.refl _ _)⟩⟩
    · have h6 : ρ (.tmp 9) = .pointer (some ⟨B, 5, none⟩) := hv 6 9 rfl (hdep ⟨6, .data⟩ (by simp) rfl)
      exact .inl ⟨rfl, .inl ⟨_, u, run_load_op rfl h6 (run_loadAt_mid u B 5 28 (rqLL L.c.kd L.c.pl L.c.n L.c.wa a1 a2 l1 l2 c1 c2) _ (lac_req hR.1.2) Tryz.underlying28 rfl (by kernel_rfl)), rfl, (hR.next (by decide) hR.1 (Below.refl _ _) (fun h => h)), .inl (Below.refl _ _)⟩⟩
    · have h7 : ρ (.tmp 10) = .agg (rqL L.c.kd L.c.pl L.c.n L.c.wa a1 a2 l1 l2 c1 c2) := hv 7 10 rfl (hdep ⟨7, .data⟩ (by simp) rfl)
      refine .inl ⟨rfl, .inr (.inl ⟨_, _, run_call_op rfl (hf _) (args := #[.agg (rqL L.c.kd L.c.pl L.c.n L.c.wa a1 a2 l1 l2 c1 c2)]) (by simp [h7]) (by kernel_rfl), ?_⟩)⟩
      refine (specCopyReq_any L.c.kd L.c.pl L.c.n L.c.wa a1 a2 l1 l2 c1 c2 L.c.ws L.c.bs _ HC.out.1 HC.out.2.1 (HC.out.2.2.1.below hR.1.1) (HC.out.2.2.2.below hR.1.1) hl1 hl2).mono ?_
      rintro e u' ⟨u1, u2, t1, t2, he, i1, i2, b'⟩
      exact ⟨_, he, ⟨u1, u2, t1, t2, rfl, OwnI.mono (show OwnI _ _ _ _ from i1) hR.1.1.size, OwnB.mono (show OwnB _ _ _ _ from i2) hR.1.1.size⟩, hR.next (by decide) ⟨bel_nx hR.1.1 b', hR.1.2.below b'⟩ b' (fun h => h.below b'), .inl b'⟩
    · have h1 : ρ (.tmp 4) = .int .i64 L.nu := hv 1 4 rfl (hdep ⟨1, .data⟩ (by simp) rfl)
      have h4 : ρ (.tmp 7) = .int .i64 L.c.un := hv 4 7 rfl (hdep ⟨4, .data⟩ (by simp) rfl)
      obtain ⟨u1, u2, t1, t2, h8, j1, j2⟩ : ∃ u1 u2 t1 t2, ρ (.tmp 11) = .agg (rqL L.c.kd L.c.pl L.c.n L.c.wa u1 u2 l1 l2 t1 t2) ∧ OwnI u w.heap.size (.slice u1 l1 t1) L.c.ws ∧ OwnB u w.heap.size (.slice u2 l2 t2) L.c.bs := hv 8 11 rfl (hdep ⟨8, .data⟩ (by simp) rfl)
      exact .inl ⟨rfl, .inl ⟨.agg (odc (odL L) u1 u2 l1 l2 t1 t2), u, run_bld_op rfl (qs := #[(0, .int .i64 L.nu), (1, .int .i64 L.c.un), (2, .agg (rqL L.c.kd L.c.pl L.c.n L.c.wa u1 u2 l1 l2 t1 t2))]) (by simp only [List.map_toArray, List.map_cons, List.map_nil, h1, h4, h8]) (by kernel_rfl), ⟨u1, u2, t1, t2, rfl, j1, j2⟩, (hR.next (by decide) hR.1 (Below.refl _ _) (fun h => h)), .inl (Below.refl _ _)⟩⟩
    · obtain ⟨u1, u2, t1, t2, h9, j1, j2⟩ : ∃ u1 u2 t1 t2, ρ (.tmp 12) = .agg (odc (odL L) u1 u2 l1 l2 t1 t2) ∧ OwnI u w.heap.size (.slice u1 l1 t1) L.c.ws ∧ OwnB u w.heap.size (.slice u2 l2 t2) L.c.bs := hv 9 12 rfl (hdep ⟨9, .data⟩ (by simp) rfl)
      have s2 : ρ (.tmp 2) = .pointer (some ⟨B + 1, 0, none⟩) := (hρ 2 (by kernel_rfl)).trans rfl
      have hz := hR.2.1 hli
      have hr : (Instr.storeAt 83 (.pointer (some ⟨B + 1, 0, none⟩)) (.agg (odc (odL L) u1 u2 l1 l2 t1 t2))).run Tryz.prog u = .ok () (setL u (B + 1) 0 (odcL (odL L) u1 u2 l1 l2 t1 t2)) := by
        rw [run_storeAt_mid u (B + 1) 0 83 (odc (odL L) u1 u2 l1 l2 t1 t2) (hz.there 0 8 (by simp)) (by kernel_rfl) (by simp [Value.oneCell']), setCells_L]
      have gg : u.grownBy (setL u (B + 1) 0 (odcL (odL L) u1 u2 l1 l2 t1 t2)) (some (B + 1)) := setL_gw _ _ _
      have hx9 : ExB u (B + 1) 83 := ⟨_, hz⟩
      refine .inl ⟨rfl, .inr (.inr ⟨rfl, _, run_store_op rfl s2 h9 hr, ⟨⟨setL_below (by have := HB.out.2.2.2; omega) _ _ _ hR.1.1, Blk.stNe (by omega) _ _ hR.1.2⟩, (fun h => by have h9 : updB l 10 10 = true := rfl; rw [h9] at h; cases h), fun _ => ⟨u1, u2, t1, t2, ?_, row_noT j1 gg hx9 (by decide), row_noT j2 gg hx9 (by decide)⟩⟩, .inr ⟨B + 1, gg, hx9⟩⟩)⟩
      rw [show odc (odL L) u1 u2 l1 l2 t1 t2 = wrA od0 0 (odcL (odL L) u1 u2 l1 l2 t1 t2) from (wr08b _ _ _ _ _ _ _ _ _ _ _ _ _ _ _ _).symm]; exact Blk.stL _ _ hz
  intro vs σ u hR hσ hall
  obtain ⟨u1, u2, t1, t2, X9, o1, o2⟩ := hR.2.2 rfl
  have H9 : Hid (Blk u (B + 1) 83 (odc (odL L) u1 u2 l1 l2 t1 t2) ∧ OwnI u w.heap.size (.slice u1 l1 t1) L.c.ws ∧ OwnB u w.heap.size (.slice u2 l2 t2) L.c.bs ∧ Below w.heap.size w u) := ⟨X9, o1, o2, hR.1.1⟩
  simp only [putsL]
  clear hall hσ hR X9 o1 o2 HB HC
  try go_simp
  go_wp2
  try go_simp
  refine bodyPost_ret (v := .agg (odc (odL L) u1 u2 l1 l2 t1 t2)) (results_cell Tryz.results53 rfl (run_loadVar_mid _ _ _ 83 (odcL (odL L) u1 u2 l1 l2 t1 t2) _ H9.out.1.all Tryz.underlying83 rfl (by kernel_rfl))) rfl ?_
  exact ⟨u1, u2, t1, t2, rfl, H9.out.2.1, H9.out.2.2.1, H9.out.2.2.2⟩
end Go.Proofs.YtmhdneenjoelfaaGreat
