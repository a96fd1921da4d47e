/- Texts that the proof needs, joined: Cy3 Cy4. -/
import Derived.Test.YtmhdneenjoelfaaGreatY4
import Derived.Deep.RegionLaw
namespace Go.Proofs.YtmhdneenjoelfaaGreat
open Go.RowKit Go.Joins
set_option linter.unusedVariables false
set_option linter.unusedSimpArgs false
theorem lwr0_1 (v0 v1 v2 v3 v4 v5 v6 v7 v8 v9 v10 v11 v12 v13 v14 v15 v16 x0 : Value) : wrA #[v0, v1, v2, v3, v4, v5, v6, v7, v8, v9, v10, v11, v12, v13, v14, v15, v16] 0 [x0] = #[x0, v1, v2, v3, v4, v5, v6, v7, v8, v9, v10, v11, v12, v13, v14, v15, v16] := by simp [wrA]
def CopyI (wr : World) (g n k : Nat) (f : Nat → Ca) : Prop := ∃ (F : Nat → List Value) (β : Nat → Nat), RowS wr g 30 9 n F ∧ InE wr g β F (fun k => caE (f k)) k ∧ β k ≤ wr.heap.size
theorem CopyI.below {w w' : World} {g n k : Nat} {f : Nat → Ca} (h : CopyI w g n k f) (hb : Below w.heap.size w w') : CopyI w' g n k f := by
  obtain ⟨F, β, h1, h2, h3⟩ := h
  exact ⟨F, β, h1.below hb, h2.below hb, Nat.le_trans h3 hb.size⟩
theorem CopyI.push {u : World} {g n k lo : Nat} {f : Nat → Ca} {C : Ca} {r1 r2 : Option Addr} {l1 l2 d1 d2 : Nat} (h : CopyI u g n k f) (hk : k < n) (hC : C = f k) (h1 : l1 = C.ws.length) (h2 : l2 = C.bs.length) (w0 : World) (h0 : CopyI w0 g n k f) (hb : Below w0.heap.size w0 u) (hlo : w0.heap.size ≤ lo) (i1 : OwnI u lo (.slice r1 l1 d1) C.ws) (i2 : OwnB u lo (.slice r2 l2 d2) C.bs) (hlu : lo ≤ u.heap.size) :
    CopyI (setL u g (k * 9) (calL C r1 r2 l1 l2 d1 d2)) g n (k + 1) f := by
  obtain ⟨F, β, q1, q2, q3⟩ := h0
  have R1 := q1.below hb
  have I1 := q2.below hb
  have hp := I1.push (lo := lo) (vs := calL C r1 r2 l1 l2 d1 d2) (E := caE C) (Nat.le_trans q3 hlo) hlu ⟨r1, r2, d1, d2, cal_els _ _ _ _ _ _ _ h1 h2, by show OwnI _ _ (.slice _ C.ws.length _) C.ws; rw [← h1]; exact i1, by show OwnB _ _ (.slice _ C.bs.length _) C.bs; rw [← h2]; exact i2, fun x hx => by have hx' : (Value.slice r1 C.ws.length d1).ownBlock = some x := hx; rw [← h1] at hx'; exact (World.ownsRow.lt i1 x hx').2, fun x hx => by have hx' : (Value.slice r2 C.bs.length d2).ownBlock = some x := hx; rw [← h2] at hx'; exact (World.ownsRow.lt i2 x hx').2⟩
  have hg : u.grownBy (setL u g (k * 9) (calL C r1 r2 l1 l2 d1 d2)) (some g) := setL_gw _ _ _
  refine ⟨_, _, R1.set hk _ rfl, (hp.congr (fun _ _ => rfl) (H := fun k => caE (f k)) (fun i hi => by by_cases e : i = k; (subst e; simp [hC]); simp [e])).keptT hg R1.rowO.exB (by decide) (by decide), ?_⟩
  simp only [if_neg (show ¬ k + 1 ≤ k by omega)]
  exact hg.size
set_option maxRecDepth 20000 in
set_option maxHeartbeats 4000000 in
theorem copiesOfC_any (a : Option Addr) (n cp : Nat) (f : Nat → Ca) (w : World) (hs : SlC w a n f) (hb : BdC n f) :
    Calls Tryz.prog 91 #[.slice a n cp, .func (.func 92) #[] #[]] w fun e w' => ∃ g, e = .returned (.slice (some ⟨g, 0, none⟩) n n) ∧ w.heap.size ≤ g ∧ CopyI w' g n n f ∧ Below w.heap.size w w' := by
  have hn := hb.1
  have hmk := run_make_st (P := Tryz.prog) 24 30 (.agg ca0c) 9 104 Tryz.underlying24 Tryz.info30 .i64 .i64 n (by omega) (by omega) w
  obtain ⟨g, hg⟩ : ∃ g, g = w.heap.size := ⟨_, rfl⟩
  have H0 : Hid (SlC w a n f ∧ BdC n f ∧ g = w.heap.size) := ⟨hs, hb, hg⟩
  clear hs hb
  go_enter Tryz.func91, Tryz.ntmps91
  rw [← hg] at hmk
  clear hg
  go_wp2
  clear hmk
  go_loopw [13] (fun i wr => ∃ k : Nat, k ≤ n ∧ i = .int .i64 k ∧ CopyI wr g n k f ∧ Below w.heap.size w wr) (fun i _ => n - (intOf i).toNat)
  case atStart =>
    refine ⟨0, Nat.zero_le _, rfl, ⟨fun _ => ca0c.toList, fun _ => g, ?_, InE.start _ _ _ _, ?_⟩, (Below.refl _ _).alloc (Nat.le_refl _) _⟩
    · have h9 := RowS.made w ca0c.toList n 30 (by simp)
      rw [H0.out.2.2]
      exact h9
    · rw [H0.out.2.2]; simp
  case round =>
    obtain ⟨k, hk, rfl, hcp, hbl⟩ := hrel
    by_cases hlt : k < n
    · have hi : (k : Int) < (n : Int) := by omega
      obtain ⟨b, off, b1, b2, m1, m2, k1, k2, rfl, hb0, hm1, hm2, ⟨e0, e1, e2, e3, e4, e5, e6, e7, e8⟩, s1, s2⟩ := SlC.nine (H0.out.1.below hbl) hlt
      have hbd := H0.out.2.1.2 k hlt
      obtain ⟨C, hC⟩ : ∃ C, C = f k := ⟨_, rfl⟩
      rw [← hC] at e0 e1 e2 e3 e4 e5 e8 hm1 hm2 s1 s2
      have HS : Hid (SlI wr b1 C.ws ∧ SlB wr b2 C.bs ∧ m1 = C.ws.length ∧ m2 = C.bs.length ∧ m1 ≤ 2000000 ∧ m2 ≤ 2000000 ∧ C = f k ∧ CopyI wr g n k f ∧ Below w.heap.size w wr) := ⟨s1, s2, hm1, hm2, by rw [hm1, hC]; exact hbd.1, by rw [hm2, hC]; exact hbd.2, hC, hcp, hbl⟩
      clear s1 s2 hm1 hm2 hC hbd hb0 hcp hbl
      go_wp2_with fail
      refine (implCopyCall_any C b1 b2 m1 m2 k1 k2 _ HS.out.2.2.1 HS.out.2.2.2.1 (HS.out.1.below (bel_alloc _ _)) (HS.out.2.1.below (bel_alloc _ _)) HS.out.2.2.2.2.1 HS.out.2.2.2.2.2.1).mono ?_
      rintro e w1 ⟨r1, r2, d1, d2, rfl, i1, i2, b9⟩
      have hb1 : Below wr.heap.size wr w1 := bel_nx (bel_alloc _ _) b9
      obtain ⟨F, β, q1, q2, q3⟩ := HS.out.2.2.2.2.2.2.2.1.below hb1
      obtain ⟨p0x, p0⟩ : ∃ v, w1.cell? ⟨g, k * 9, none⟩ = some v := q1.ex hlt (j := 0) (by decide)
      obtain ⟨p1x, p1⟩ : ∃ v, w1.cell? ⟨g, k * 9 + 1, none⟩ = some v := q1.ex hlt (j := 1) (by decide)
      obtain ⟨p2x, p2⟩ : ∃ v, w1.cell? ⟨g, k * 9 + 2, none⟩ = some v := q1.ex hlt (j := 2) (by decide)
      obtain ⟨p3x, p3⟩ : ∃ v, w1.cell? ⟨g, k * 9 + 3, none⟩ = some v := q1.ex hlt (j := 3) (by decide)
      obtain ⟨p4x, p4⟩ : ∃ v, w1.cell? ⟨g, k * 9 + 4, none⟩ = some v := q1.ex hlt (j := 4) (by decide)
      obtain ⟨p5x, p5⟩ : ∃ v, w1.cell? ⟨g, k * 9 + 5, none⟩ = some v := q1.ex hlt (j := 5) (by decide)
      obtain ⟨p6x, p6⟩ : ∃ v, w1.cell? ⟨g, k * 9 + 6, none⟩ = some v := q1.ex hlt (j := 6) (by decide)
      obtain ⟨p7x, p7⟩ : ∃ v, w1.cell? ⟨g, k * 9 + 7, none⟩ = some v := q1.ex hlt (j := 7) (by decide)
      obtain ⟨p8x, p8⟩ : ∃ v, w1.cell? ⟨g, k * 9 + 8, none⟩ = some v := q1.ex hlt (j := 8) (by decide)
      have q0 := q1.fro (k * 9)
      have t1 := q1.fro (k * 9 + 1)
      have t2 := q1.fro (k * 9 + 2)
      have t3 := q1.fro (k * 9 + 3)
      have t4 := q1.fro (k * 9 + 4)
      have t5 := q1.fro (k * 9 + 5)
      have t6 := q1.fro (k * 9 + 6)
      have t7 := q1.fro (k * 9 + 7)
      have t8 := q1.fro (k * 9 + 8)
      obtain ⟨W2, hW2⟩ : ∃ W2, W2 = setL w1 g (k * 9) (calL C r1 r2 m1 m2 d1 d2) := ⟨_, rfl⟩
      have H2 : Hid (CopyI W2 g n (k + 1) f ∧ Below w.heap.size w W2) := by
        rw [hW2]
        exact ⟨CopyI.push (lo := wr.heap.size) (HS.out.2.2.2.2.2.2.2.1.below hb1) hlt HS.out.2.2.2.2.2.2.1 HS.out.2.2.1 HS.out.2.2.2.1 wr HS.out.2.2.2.2.2.2.2.1 hb1 (Nat.le_refl _) (OwnI.mono (show OwnI _ _ _ _ from i1) (by simp)) (OwnB.mono (show OwnB _ _ _ _ from i2) (by simp)) hb1.size, setL_below (by have := H0.out.2.2; omega) _ _ _ (bel_nx HS.out.2.2.2.2.2.2.2.2 hb1)⟩
      have hW2' : W2 = (((((((((w1.setCell ⟨g, k * 9, none⟩ (.int .i64 C.id)).setCell ⟨g, k * 9 + 1, none⟩ (.int .i64 C.pa)).setCell ⟨g, k * 9 + 2, none⟩ (.int .i64 C.un)).setCell ⟨g, k * 9 + 3, none⟩ (.int .i64 C.kd)).setCell ⟨g, k * 9 + 4, none⟩ (.int .i64 C.pl)).setCell ⟨g, k * 9 + 5, none⟩ (.int .i64 C.n)).setCell ⟨g, k * 9 + 6, none⟩ (.slice r1 m1 d1)).setCell ⟨g, k * 9 + 7, none⟩ (.slice r2 m2 d2)).setCell ⟨g, k * 9 + 8, none⟩ (.int .i64 C.wa)) := hW2
      clear q1 q2 q3 b9 hb1 HS i1 i2 e0 e1 e2 e3 e4 e5 e6 e7 e8 hW2
      go_wp2
      rw [← hW2']
      clear hW2'
      go_roundw
      case rel => exact ⟨k + 1, by omega, by go_num, H2.out.1, H2.out.2⟩
      case measure => simp [intOf]; omega
    · have hi : ¬ (k : Int) < (n : Int) := by omega
      have e9 : k = n := by omega
      subst e9
      have HS : Hid (CopyI wr g k k f ∧ Below w.heap.size w wr) := ⟨hcp, hbl⟩
      clear hcp hbl
      go_wp2
      go_ret
      exact ⟨g, rfl, by have := H0.out.2.2; omega, HS.out.1, HS.out.2⟩
def RgC (w : World) (B n cp l1 l2 c1 c2 : Nat) (f : Nat → Ca) (L : La) (a a1 a2 : Option Addr) (l : Nat → Bool) (σ : Nat → Value) (u : World) : Prop :=
  Below w.heap.size w u ∧ Blk u (B + 1) 32 lzc ∧
  (∃ xa xc y1 y2 e1 e2, Blk u B 32 (lac L xa n xc y1 y2 l1 l2 e1 e2) ∧ (l 7 = false → xa = a ∧ xc = cp) ∧ (l 7 = true → σ 5 = .slice xa n xc) ∧ (l 9 = false → y1 = a1 ∧ y2 = a2 ∧ e1 = c1 ∧ e2 = c2) ∧ (l 9 = true → σ 8 = .agg (cac L.c y1 y2 l1 l2 e1 e2))) ∧
  (l 2 = true → ∃ g, σ 5 = .slice (some ⟨g, 0, none⟩) n n ∧ B + 1 < g ∧ CopyI u g n n f) ∧
  (l 5 = true → ∃ g r1 r2 d1 d2, σ 5 = .slice (some ⟨g, 0, none⟩) n n ∧ σ 8 = .agg (cac L.c r1 r2 l1 l2 d1 d2) ∧ LnO u w.heap.size n f L (some ⟨g, 0, none⟩) n r1 r2 l1 l2 d1 d2)
theorem updB_ne {l : Nat → Bool} {i j : Nat} (h : i ≠ j) : updB l i j = l j := by unfold updB; rw [if_neg (Ne.symm h)]
theorem updS_eq {σ : Nat → Value} {d : Nat} {v : Value} : updS σ (some d) v d = v := by show (if d = d then v else σ d) = v; rw [if_pos rfl]
theorem lac_call {u : World} {B n xc l1 l2 e1 e2 : Nat} {L : La} {xa y1 y2 : Option Addr} {t : TypeId} (q0 : Blk u B t (lac L xa n xc y1 y2 l1 l2 e1 e2)) : u.rangeAt B 2 (calL L.c y1 y2 l1 l2 e1 e2) := q0.range 2 _ (fun j hj => by
  have hj' : j < 9 := hj
  obtain rfl | rfl | rfl | rfl | rfl | rfl | rfl | rfl | rfl : j = 0 ∨ j = 1 ∨ j = 2 ∨ j = 3 ∨ j = 4 ∨ j = 5 ∨ j = 6 ∨ j = 7 ∨ j = 8 := by omega
  all_goals rfl)
theorem updS_ne {σ : Nat → Value} {d s : Nat} {v : Value} (h : d ≠ s) : updS σ (some d) v s = σ s := by show (if s = d then v else σ s) = _; rw [if_neg (Ne.symm h)]
theorem RgC.next {w u u' : World} {B n cp l1 l2 c1 c2 : Nat} {f : Nat → Ca} {L : La} {a a1 a2 : Option Addr} {l : Nat → Bool} {σ : Nat → Value} (h : RgC w B n cp l1 l2 c1 c2 f L a a1 a2 l σ u) {i d : Nat} {v : Value} (i2 : i ≠ 2) (i5 : i ≠ 5) (i7 : i ≠ 7) (i9 : i ≠ 9) (d5 : d ≠ 5) (d8 : d ≠ 8) (hb : Below u.heap.size u u') : RgC w B n cp l1 l2 c1 c2 f L a a1 a2 (updB l i) (updS σ (some d) v) u' := by
  obtain ⟨h1, hz, ⟨xa, xc, y1, y2, e1, e2, q0, q1, q2, q3, q4⟩, h3, h4⟩ := h
  refine ⟨bel_nx h1 hb, hz.below hb, ⟨xa, xc, y1, y2, e1, e2, q0.below hb, ?_, ?_, ?_, ?_⟩, ?_, ?_⟩
  all_goals (try simp only [updB_ne i2, updB_ne i5, updB_ne i7, updB_ne i9, updS_ne d5, updS_ne d8])
  · exact q1
  · exact q2
  · exact q3
  · exact q4
  · intro h; obtain ⟨g, t1, t2, t3⟩ := h3 h; exact ⟨g, t1, t2, t3.below hb⟩
  · intro h; obtain ⟨g, r1, r2, d1, d2, t1, t2, t3⟩ := h4 h; exact ⟨g, r1, r2, d1, d2, t1, t2, t3.below hb⟩
theorem lnO_of {u u' : World} {base g n l1 l2 d1 d2 : Nat} {f : Nat → Ca} {L : La} {r1 r2 : Option Addr} (hc : CopyI u g n n f) (hn : n ≤ 2000000) (hbg : base ≤ g) (hb : Below u.heap.size u u') (e1 : l1 = L.c.ws.length) (e2 : l2 = L.c.bs.length) (o1 : OwnI u' u.heap.size (.slice r1 l1 d1) L.c.ws) (o2 : OwnB u' u.heap.size (.slice r2 l2 d2) L.c.bs) (hbu : base ≤ u.heap.size) : LnO u' base n f L (some ⟨g, 0, none⟩) n r1 r2 l1 l2 d1 d2 := by
  obtain ⟨F, β, q1, q2, q3⟩ := hc
  refine ⟨e1, e2, F, β, ?_, ?_, ?_, OwnI.mono (show OwnI _ _ _ _ from o1) hbu, OwnB.mono (show OwnB _ _ _ _ from o2) hbu, fun x hx j hj ho => ?_, fun x hx j hj ho => ?_⟩
  · exact (q1.below hb).own q2.len9 (by decide) hbg (by unfold maxLen; omega)
  · exact (q2.below hb).mono hbg
  · exact Nat.le_trans q3 hb.size
  · have := (World.ownsRow.lt o1 x hx).1; have := (q2.ob hj ho).2.1; omega
  · have := (World.ownsRow.lt o2 x hx).1; have := (q2.ob hj ho).2.1; omega
set_option maxRecDepth 20000 in
set_option maxHeartbeats 4000000 in
theorem copyLine_any (L : La) (a a1 a2 : Option Addr) (n cp l1 l2 c1 c2 : Nat) (f : Nat → Ca) (w : World) (hs : LnR w n f L a a1 a2 l1 l2) (hb : BdC n f) (hl1 : l1 ≤ 2000000) (hl2 : l2 ≤ 2000000) :
    Calls Tryz.prog 36 #[.agg (lac L a n cp a1 a2 l1 l2 c1 c2)] w fun e w' => LnQ w w' e n f L l1 l2 := by
  have hn := hb.1
  obtain ⟨B, hB⟩ : ∃ B, B = w.heap.size := ⟨_, rfl⟩
  obtain ⟨W, hW⟩ : ∃ W, W = (w.alloc (.cells (lac L a n cp a1 a2 l1 l2 c1 c2) 32)).alloc (.cells lzc 32) := ⟨_, rfl⟩
  have bW : Below w.heap.size w W := by rw [hW]; exact bel_nx (bel_alloc w _) (bel_alloc _ _)
  have A0 : Blk W B 32 (lac L a n cp a1 a2 l1 l2 c1 c2) := by rw [hW, hB]; exact (Blk.new w _ _).below (bel_alloc _ _)
  have R0 : Blk W (B + 1) 32 lzc := by
    rw [hW, hB]; have := Blk.new (w.alloc (.cells (lac L a n cp a1 a2 l1 l2 c1 c2) 32)) lzc 32; simpa using this
  have hz : W.heap.size = B + 1 + 1 := by rw [hW, hB]; simp
  have H0 : Hid (LnR w n f L a a1 a2 l1 l2 ∧ Below w.heap.size w W ∧ Blk W B 32 (lac L a n cp a1 a2 l1 l2 c1 c2) ∧ Blk W (B + 1) 32 lzc ∧ BdC n f ∧ w.heap.size = B ∧ W.heap.size = B + 1 + 1) := ⟨hs, bW, A0, R0, hb, hB.symm, hz⟩
  clear hs bW A0 R0 hb hz
  go_enter Tryz.func36, Tryz.ntmps36
  go_upto_region 1 with fail
  have hB1 : w.heap.size + 1 = B + 1 := by omega
  rw [← hW, hB1, ← hB]
  clear hW hB hB1
  try go_simp
  refine wp_region_any (by kernel_rfl) ?_
  refine wpAny_valy (RgC w B n cp l1 l2 c1 c2 f L a a1 a2) (fun _ _ => True) (fun i v u => match i with
    | 0 => v = .pointer (some ⟨B, 0, none⟩)
    | 1 => v = .slice a n cp
    | 3 => v = .pointer (some ⟨B, 2, none⟩)
    | 4 => v = .agg (cac L.c a1 a2 l1 l2 c1 c2)
    | 6 => v = .pointer (some ⟨B, 0, none⟩)
    | 8 => v = .pointer (some ⟨B, 2, none⟩)
    | _ => True) (by kernel_rfl) (by kernel_rfl) (fun _ _ _ _ h _ => h) (fun _ => trivial) ⟨by first | exact H0.out.2.1 | exact H0.out.2.1.drew, by first | exact H0.out.2.2.2.1 | exact H0.out.2.2.2.1.below ((Below.refl _ _).drew), ⟨a, cp, a1, a2, c1, c2, by first | exact H0.out.2.2.1 | exact H0.out.2.2.1.below ((Below.refl _ _).drew), fun _ => ⟨rfl, rfl⟩, (fun h => by cases h), fun _ => ⟨rfl, rfl, rfl, rfl⟩, (fun h => by cases h)⟩, (fun h => by cases h), (fun h => by cases h)⟩ ?_ ?_ _ _ rfl (by decide) (fun i => by simp [Array.getD]; try (split <;> rfl))
  rotate_left
  · intro u i o ρ l hR ho hli hcl hρ hc hf hdep hv
    have hi : i < 10 := by
      have := (Array.getElem?_eq_some_iff.1 ho).1
      simpa using this
    have h7 : l 1 = false ∨ l 4 = false → l 7 = false := fun h => by
      cases h7 : l 7 with
      | false => rfl
      | true =>
        have k1 := hcl 7 _ rfl h7 ⟨1, .phase⟩ (by simp) rfl
        have k4 := hcl 7 _ rfl h7 ⟨4, .phase⟩ (by simp) rfl
        rw [k1, k4] at h; simp at h
    have h9 : l 4 = false ∨ l 7 = false → l 9 = false := fun h => by
      cases h9 : l 9 with
      | false => rfl
      | true =>
        have k4 := hcl 9 _ rfl h9 ⟨4, .phase⟩ (by simp) rfl
        have k7 := hcl 9 _ rfl h9 ⟨7, .chain⟩ (by simp) rfl
        rw [k4, k7] at h; simp at h
    obtain rfl | rfl | rfl | rfl | rfl | rfl | rfl | rfl | rfl | rfl : i = 0 ∨ i = 1 ∨ i = 2 ∨ i = 3 ∨ i = 4 ∨ i = 5 ∨ i = 6 ∨ i = 7 ∨ i = 8 ∨ i = 9 := by omega
    all_goals (simp only [List.getElem?_toArray, List.getElem?_cons_zero, List.getElem?_cons_succ, Option.some.injEq] at ho; subst ho)
    · have s0 : ρ (.tmp 1) = .pointer (some ⟨B, 0, none⟩) := (hρ 1 (by kernel_rfl)).trans rfl
      exact .inl ⟨rfl, .inl ⟨.pointer (some ⟨B, 0, none⟩), u, run_field_op rfl s0 (by go_simp), rfl, (hR.next (i := 0) (d := 3) (by decide) (by decide) (by decide) (by decide) (by decide) (by decide) (Below.refl _ _)), trivial⟩⟩
    · have h0 : ρ (.tmp 3) = .pointer (some ⟨B, 0, none⟩) := hv 0 3 rfl (hdep ⟨0, .data⟩ (by simp) rfl)
      obtain ⟨xa, xc, y1, y2, e1, e2, q0, q1, q2, q3, q4⟩ := hR.2.2.1
      obtain ⟨rfl, rfl⟩ := q1 (h7 (.inl hli))
      have c0 := q0.cell 0 rfl
      have hr : (Instr.loadAt 24 (.pointer (some ⟨B, 0, none⟩))).run Tryz.prog u = .ok (.slice xa n xc) u := by go_simp
      exact .inl ⟨rfl, .inl ⟨_, u, run_load_op rfl h0 hr, rfl, (hR.next (i := 1) (d := 4) (by decide) (by decide) (by decide) (by decide) (by decide) (by decide) (Below.refl _ _)), trivial⟩⟩
    · have h1 : ρ (.tmp 4) = .slice a n cp := hv 1 4 rfl (hdep ⟨1, .data⟩ (by simp) rfl)
      refine .inl ⟨rfl, .inr (.inl ⟨_, _, run_call_op rfl (hf _) (args := #[.slice a n cp, .func (.func 92) #[] #[]]) (by simp [h1, hf]) (by kernel_rfl), ?_⟩)⟩
      refine (copiesOfC_any a n cp f _ ((H0.out.1.below hR.1).2.2.1) H0.out.2.2.2.2.1).mono ?_
      rintro e u' ⟨g, he, hg, hcc, b'⟩
      refine ⟨_, he, trivial, ?_, trivial⟩
      obtain ⟨k1, kz, ⟨xa, xc, y1, y2, e1, e2, q0, q1, q2, q3, q4⟩, k3, k4⟩ := hR
      have l5 : l 5 = false := by
        cases h5 : l 5 with
        | false => rfl
        | true => have := hcl 5 _ rfl h5 ⟨2, .chain⟩ (by simp) rfl; rw [hli] at this; cases this
      have l7 : l 7 = false := by
        cases h5 : l 7 with
        | false => rfl
        | true => have := hcl 7 _ rfl h5 ⟨2, .data⟩ (by simp) rfl; rw [hli] at this; cases this
      refine ⟨bel_nx k1 b', kz.below b', ⟨xa, xc, y1, y2, e1, e2, q0.below b', ?_, ?_, ?_, ?_⟩, ?_, ?_⟩
      · rw [updB_ne (by decide)]; exact q1
      · rw [updB_ne (by decide), l7]; intro h; cases h
      · rw [updB_ne (by decide)]; exact q3
      · rw [updB_ne (by decide)]; rw [h9 (.inr l7)]; intro h; cases h
      · intro _; refine ⟨g, ?_, ?_, hcc⟩
        · exact updS_eq
        · have := kz.lt; omega
      · rw [updB_ne (by decide), l5]; intro h; cases h
    · have s0 : ρ (.tmp 1) = .pointer (some ⟨B, 0, none⟩) := (hρ 1 (by kernel_rfl)).trans rfl
      exact .inl ⟨rfl, .inl ⟨.pointer (some ⟨B, 2, none⟩), u, run_field_op rfl s0 (by go_simp), rfl, (hR.next (i := 3) (d := 6) (by decide) (by decide) (by decide) (by decide) (by decide) (by decide) (Below.refl _ _)), trivial⟩⟩
    · have h3 : ρ (.tmp 6) = .pointer (some ⟨B, 2, none⟩) := hv 3 6 rfl (hdep ⟨3, .data⟩ (by simp) rfl)
      obtain ⟨xa, xc, y1, y2, e1, e2, q0, q1, q2, q3, q4⟩ := hR.2.2.1
      obtain ⟨rfl, rfl, rfl, rfl⟩ := q3 (h9 (.inl hli))
      exact .inl ⟨rfl, .inl ⟨_, u, run_load_op rfl h3 (run_loadAt_mid u B 2 30 (calL L.c y1 y2 l1 l2 e1 e2) _ (lac_call q0) Tryz.underlying30 rfl (by kernel_rfl)), rfl, (hR.next (i := 4) (d := 7) (by decide) (by decide) (by decide) (by decide) (by decide) (by decide) (Below.refl _ _)), trivial⟩⟩
    · have h4 : ρ (.tmp 7) = .agg (cac L.c a1 a2 l1 l2 c1 c2) := hv 4 7 rfl (hdep ⟨4, .data⟩ (by simp) rfl)
      refine .inl ⟨rfl, .inr (.inl ⟨_, _, run_call_op rfl (hf _) (args := #[.agg (cac L.c a1 a2 l1 l2 c1 c2)]) (by simp [h4]) (by kernel_rfl), ?_⟩)⟩
      have hln := H0.out.1.below hR.1
      refine (implCopyCall_any L.c a1 a2 l1 l2 c1 c2 _ hln.1 hln.2.1 hln.2.2.2.1 hln.2.2.2.2 hl1 hl2).mono ?_
      rintro e u' ⟨r1, r2, d1, d2, he, i1, i2, b'⟩
      refine ⟨_, he, trivial, ?_, trivial⟩
      have l7 : l 7 = false := by
        cases h5 : l 7 with
        | false => rfl
        | true => have := hcl 7 _ rfl h5 ⟨5, .chain⟩ (by simp) rfl; rw [hli] at this; cases this
      have l2' := hdep ⟨2, .chain⟩ (by simp) rfl
      obtain ⟨k1, kz, ⟨xa, xc, y1, y2, e1, e2, q0, q1, q2, q3, q4⟩, k3, k4⟩ := hR
      obtain ⟨g, t1, t2, t3⟩ := k3 l2'
      refine ⟨bel_nx k1 b', kz.below b', ⟨xa, xc, y1, y2, e1, e2, q0.below b', ?_, ?_, ?_, ?_⟩, ?_, ?_⟩
      · rw [updB_ne (by decide)]; exact q1
      · rw [updB_ne (by decide), l7]; intro h; cases h
      · rw [updB_ne (by decide)]; exact q3
      · rw [updB_ne (by decide), h9 (.inr l7)]; intro h; cases h
      · intro _; exact ⟨g, (updS_ne (by decide)).trans t1, t2, t3.below b'⟩
      · intro _
        refine ⟨g, r1, r2, d1, d2, (updS_ne (by decide)).trans t1, updS_eq, lnO_of t3 hn (by have := H0.out.2.2.2.2.2.1; omega) b' hln.1 hln.2.1 i1 i2 k1.size⟩
    · have s0 : ρ (.tmp 1) = .pointer (some ⟨B, 0, none⟩) := (hρ 1 (by kernel_rfl)).trans rfl
      exact .inl ⟨rfl, .inl ⟨.pointer (some ⟨B, 0, none⟩), u, run_field_op rfl s0 (by go_simp), rfl, (hR.next (i := 6) (d := 9) (by decide) (by decide) (by decide) (by decide) (by decide) (by decide) (Below.refl _ _)), trivial⟩⟩
    · have h6 : ρ (.tmp 9) = .pointer (some ⟨B, 0, none⟩) := hv 6 9 rfl (hdep ⟨6, .data⟩ (by simp) rfl)
      have l5 := hdep ⟨5, .chain⟩ (by simp) rfl
      obtain ⟨k1, kz, ⟨xa, xc, y1, y2, e1, e2, q0, q1, q2, q3, q4⟩, k3, k4⟩ := hR
      obtain ⟨g, r1, r2, d1, d2, t1, t2, t3⟩ := k4 l5
      obtain ⟨rfl, rfl⟩ := q1 hli
      have t1' : ρ (.tmp 5) = .slice (some ⟨g, 0, none⟩) n n := t1
      have c0 := q0.cell 0 rfl
      have f0 := q0.fro 0
      have hr : (Instr.storeAt 24 (.pointer (some ⟨B, 0, none⟩)) (.slice (some ⟨g, 0, none⟩) n n)).run Tryz.prog u = .ok () (setL u B 0 [.slice (some ⟨g, 0, none⟩) n n]) := by go_simp; rfl
      have gw : u.grownBy (setL u B 0 [.slice (some ⟨g, 0, none⟩) n n]) (some B) := setL_gw _ _ _
      refine .inl ⟨rfl, .inr (.inr ⟨rfl, _, run_store_op rfl h6 t1' hr, ⟨setL_below (by have := H0.out.2.2.2.2.2.1; omega) _ _ _ k1, Blk.stNe (by omega) _ _ kz, ⟨some ⟨g, 0, none⟩, n, y1, y2, e1, e2, ?_, ?_, ?_, ?_, ?_⟩, ?_, ?_⟩, trivial⟩)⟩
      · rw [show lac L (some ⟨g, 0, none⟩) n n y1 y2 l1 l2 e1 e2 = wrA (lac L xa n xc y1 y2 l1 l2 e1 e2) 0 [.slice (some ⟨g, 0, none⟩) n n] from (lwr0_1 _ _ _ _ _ _ _ _ _ _ _ _ _ _ _ _ _ _).symm]; exact Blk.stL _ _ q0
      · intro h; have h9' : updB l 7 7 = true := rfl; rw [h9'] at h; cases h
      · intro _; exact t1
      · rw [updB_ne (by decide)]; exact q3
      · rw [updB_ne (by decide)]; exact q4
      · intro _
        obtain ⟨F, β, z1, z2, z3⟩ := (k3 (hdep ⟨2, .data⟩ (by simp) rfl)).choose_spec.2.2
        have e5 := (k3 (hdep ⟨2, .data⟩ (by simp) rfl)).choose_spec.1
        have e6 := (k3 (hdep ⟨2, .data⟩ (by simp) rfl)).choose_spec.2.1
        exact ⟨_, e5, e6, F, β, z1.kept gw (by intro e9; have := Option.some.inj e9; omega), z2.keptLt gw (by omega), Nat.le_trans z3 gw.size⟩
      · intro _; exact ⟨g, r1, r2, d1, d2, t1, t2, t3.keptT gw ⟨_, q0⟩ (by decide) (by decide) (by decide)⟩
    · have s0 : ρ (.tmp 1) = .pointer (some ⟨B, 0, none⟩) := (hρ 1 (by kernel_rfl)).trans rfl
      exact .inl ⟨rfl, .inl ⟨.pointer (some ⟨B, 2, none⟩), u, run_field_op rfl s0 (by go_simp), rfl, (hR.next (i := 8) (d := 10) (by decide) (by decide) (by decide) (by decide) (by decide) (by decide) (Below.refl _ _)), trivial⟩⟩
    · have h8 : ρ (.tmp 10) = .pointer (some ⟨B, 2, none⟩) := hv 8 10 rfl (hdep ⟨8, .data⟩ (by simp) rfl)
      have l5 := hdep ⟨5, .data⟩ (by simp) rfl
      have l7 := hdep ⟨7, .chain⟩ (by simp) rfl
      have l2' := hcl 5 _ rfl l5 ⟨2, .chain⟩ (by simp) rfl
      obtain ⟨k1, kz, ⟨xa, xc, y1, y2, e1, e2, q0, q1, q2, q3, q4⟩, k3, k4⟩ := hR
      obtain ⟨g, r1, r2, d1, d2, t1, t2, t3⟩ := k4 l5
      have t2' : ρ (.tmp 8) = .agg (cac L.c r1 r2 l1 l2 d1 d2) := t2
      have hr : (Instr.storeAt 30 (.pointer (some ⟨B, 2, none⟩)) (.agg (cac L.c r1 r2 l1 l2 d1 d2))).run Tryz.prog u = .ok () (setL u B 2 (calL L.c r1 r2 l1 l2 d1 d2)) := by
        rw [run_storeAt_mid u B 2 30 (cac L.c r1 r2 l1 l2 d1 d2) (q0.there 2 9 (by simp)) (by kernel_rfl) (by simp [Value.oneCell']), setCells_L]
      have gw : u.grownBy (setL u B 2 (calL L.c r1 r2 l1 l2 d1 d2)) (some B) := setL_gw _ _ _
      refine .inl ⟨rfl, .inr (.inr ⟨rfl, _, run_store_op rfl h8 t2' hr, ⟨setL_below (by have := H0.out.2.2.2.2.2.1; omega) _ _ _ k1, Blk.stNe (by omega) _ _ kz, ⟨xa, xc, r1, r2, d1, d2, ?_, ?_, ?_, ?_, ?_⟩, ?_, ?_⟩, trivial⟩)⟩
      · rw [show lac L xa n xc r1 r2 l1 l2 d1 d2 = wrA (lac L xa n xc y1 y2 l1 l2 e1 e2) 2 (calL L.c r1 r2 l1 l2 d1 d2) from (lwr2_9 _ _ _ _ _ _ _ _ _ _ _ _ _ _ _ _ _ _ _ _ _ _ _ _ _ _).symm]; exact Blk.stL _ _ q0
      · rw [updB_ne (by decide)]; exact q1
      · rw [updB_ne (by decide)]; exact q2
      · intro h; have h9' : updB l 9 9 = true := rfl; rw [h9'] at h; cases h
      · intro _; exact t2
      · intro _
        obtain ⟨F, β, z1, z2, z3⟩ := (k3 l2').choose_spec.2.2
        have e5 := (k3 l2').choose_spec.1
        have e6 := (k3 l2').choose_spec.2.1
        exact ⟨_, e5, e6, F, β, z1.kept gw (by intro e9; have := Option.some.inj e9; omega), z2.keptLt gw (by omega), Nat.le_trans z3 gw.size⟩
      · intro _; exact ⟨g, r1, r2, d1, d2, t1, t2, t3.keptT gw ⟨_, q0⟩ (by decide) (by decide) (by decide)⟩
  intro vs σ u hR hσ hall
  obtain ⟨k1, kz, ⟨xa, xc, y1, y2, e1, e2, q0, _, q2, _, q4⟩, _, k4⟩ := hR
  obtain ⟨g, r1, r2, d1, d2, t1, t2, t3⟩ := k4 rfl
  have q2' := (q2 rfl).symm.trans t1
  have q4' := (q4 rfl).symm.trans t2
  simp only [Value.slice.injEq] at q2'
  simp only [Value.agg.injEq, Array.mk.injEq, List.cons.injEq, Value.slice.injEq, and_true, true_and] at q4'
  obtain ⟨rfl, _, hxc⟩ := q2'
  have hxc := hxc.symm
  subst hxc
  obtain ⟨⟨rfl, rfl⟩, rfl, rfl⟩ := q4'
  have H4 : Hid (LnO u w.heap.size n f L (some ⟨g, 0, none⟩) n y1 y2 l1 l2 e1 e2 ∧ Below w.heap.size w u ∧ Blk u B 32 (lac L (some ⟨g, 0, none⟩) n n y1 y2 l1 l2 e1 e2) ∧ Blk u (B + 1) 32 lzc ∧ w.heap.size = B) := ⟨t3, k1, q0, kz, H0.out.2.2.2.2.2.1⟩
  simp only [putsL]
  clear hall hσ t1 t2 t3 k1 q0 kz q2 q4 k4 H0
  go_upto_region 2 with fail
  try go_simp
  refine wp_region_lit ?_
  refine wpList_load_mid rfl 32 (.tmp 1) rfl B 0 rfl (lacL L (some ⟨g, 0, none⟩) n n y1 y2 l1 l2 e1 e2) _ H4.out.2.2.1.all Tryz.underlying32 rfl (by kernel_rfl) ?_
  refine wpList_store_mid rfl 32 (.tmp 2) (.tmp 11) rfl (B + 1) 0 (lac L (some ⟨g, 0, none⟩) n n y1 y2 l1 l2 e1 e2) rfl rfl (H4.out.2.2.2.1.there 0 17 (by simp)) (by kernel_rfl) (by simp [Value.oneCell']) ?_
  rw [setCells_L]
  refine wpList_nil ?_
  obtain ⟨W5, hW5⟩ : ∃ W5, W5 = setL u (B + 1) 0 (lacL L (some ⟨g, 0, none⟩) n n y1 y2 l1 l2 e1 e2) := ⟨_, rfl⟩
  have H5 : Hid (LnO W5 w.heap.size n f L (some ⟨g, 0, none⟩) n y1 y2 l1 l2 e1 e2 ∧ Below w.heap.size w W5 ∧ Blk W5 (B + 1) 32 (lac L (some ⟨g, 0, none⟩) n n y1 y2 l1 l2 e1 e2)) := by
    have g1 : u.grownBy W5 (some (B + 1)) := by rw [hW5]; exact setL_gw _ _ _
    exact ⟨H4.out.1.keptT g1 ⟨_, H4.out.2.2.2.1⟩ (by decide) (by decide) (by decide), by rw [hW5]; exact setL_below (by have := H4.out.2.2.2.2; omega) _ _ _ H4.out.2.1, by rw [hW5, show lac L (some ⟨g, 0, none⟩) n n y1 y2 l1 l2 e1 e2 = wrA lzc 0 (lacL L (some ⟨g, 0, none⟩) n n y1 y2 l1 l2 e1 e2) from (lwr0_17 _ _ _ _ _ _ _ _ _ _ _ _ _ _ _ _ _ _ _ _ _ _ _ _ _ _ _ _ _ _ _ _ _ _).symm]; exact Blk.stL _ _ H4.out.2.2.2.1⟩
  rw [show setL u (B + 1) 0 (lac L (some ⟨g, 0, none⟩) n n y1 y2 l1 l2 e1 e2).toList = W5 from hW5.symm]
  clear hW5 H4
  go_wp2
  refine bodyPost_ret (v := .agg (lac L (some ⟨g, 0, none⟩) n n y1 y2 l1 l2 e1 e2)) (results_cell Tryz.results36 rfl (run_loadVar_mid _ _ _ 32 (lacL L (some ⟨g, 0, none⟩) n n y1 y2 l1 l2 e1 e2) _ H5.out.2.2.all Tryz.underlying32 rfl (by kernel_rfl))) rfl ?_
  exact ⟨_, _, _, _, _, _, rfl, H5.out.1, H5.out.2.1⟩
end Go.Proofs.YtmhdneenjoelfaaGreat
namespace Go.Proofs.YtmhdneenjoelfaaGreat
open Go.RowKit Go.Joins
set_option linter.unusedVariables false
set_option linter.unusedSimpArgs false
def CQ (w wr : World) (B k : Nat) (f : Nat → Ca) (L : La) (va : Option Addr) (vc : Nat) (r1 r2 : Option Addr) (l1 l2 d1 d2 : Nat) (A : Array Value) : Prop :=
  LnO wr w.heap.size k f L va vc r1 r2 l1 l2 d1 d2 ∧ Blk wr (B + 1 + 1) 32 (lac L va k vc r1 r2 l1 l2 d1 d2) ∧ Blk wr B 32 A ∧ Blk wr (B + 1) 32 lzc ∧ Below w.heap.size w wr
theorem CQ.below {w wr u : World} {B k : Nat} {f : Nat → Ca} {L : La} {va : Option Addr} {vc : Nat} {r1 r2 : Option Addr} {l1 l2 d1 d2 : Nat} {A : Array Value} (h : CQ w wr B k f L va vc r1 r2 l1 l2 d1 d2 A) (hb : Below wr.heap.size wr u) : CQ w u B k f L va vc r1 r2 l1 l2 d1 d2 A :=
  ⟨h.1.below hb, h.2.1.below hb, h.2.2.1.below hb, h.2.2.2.1.below hb, bel_nx h.2.2.2.2 hb⟩
set_option maxRecDepth 20000 in
set_option maxHeartbeats 4000000 in
theorem l12Copy_any (L : La) (a a1 a2 : Option Addr) (n cp l1 l2 c1 c2 : Nat) (f : Nat → Ca) (w : World) (hs : LnR w n f L a a1 a2 l1 l2) (hb : BdC n f) (hl1 : l1 ≤ 2000000) (hl2 : l2 ≤ 2000000) :
    Calls Tryz.prog 48 #[.agg (lac L a n cp a1 a2 l1 l2 c1 c2)] w fun e w' => LnQ w w' e n f L l1 l2 := by
  have hn := hb.1
  obtain ⟨B, hB⟩ : ∃ B, B = w.heap.size := ⟨_, rfl⟩
  obtain ⟨W, hW⟩ : ∃ W, W = (w.alloc (.cells (lac L a n cp a1 a2 l1 l2 c1 c2) 32)).alloc (.cells lzc 32) := ⟨_, rfl⟩
  have bW : Below w.heap.size w W := by rw [hW]; exact bel_nx (bel_alloc w _) (bel_alloc _ _)
  have A0 : Blk W B 32 (lac L a n cp a1 a2 l1 l2 c1 c2) := by rw [hW, hB]; exact (Blk.new w _ _).below (bel_alloc _ _)
  have R0 : Blk W (B + 1) 32 lzc := by
    rw [hW, hB]; have := Blk.new (w.alloc (.cells (lac L a n cp a1 a2 l1 l2 c1 c2) 32)) lzc 32; simpa using this
  have hz : W.heap.size = B + 1 + 1 := by rw [hW, hB]; simp
  obtain ⟨W2, hW2⟩ : ∃ W2, W2 = setL (W.alloc (.cells lzc 32)) W.heap.size 0 (lacL L a n cp a1 a2 l1 l2 c1 c2) := ⟨_, rfl⟩
  have H0 : Hid (LnR w n f L a a1 a2 l1 l2 ∧ Below w.heap.size w W2 ∧ Blk W2 B 32 (lac L a n cp a1 a2 l1 l2 c1 c2) ∧ Blk W2 (B + 1) 32 lzc ∧ Blk W2 (B + 1 + 1) 32 (lac L a n cp a1 a2 l1 l2 c1 c2) ∧ BdC n f ∧ w.heap.size = B) := by
    have b5 : Below W.heap.size W W2 := by rw [hW2]; exact setL_below (Nat.le_refl _) _ _ _ (bel_alloc _ _)
    exact ⟨hs, bel_nx bW b5, A0.below b5, R0.below b5, by rw [hW2, hz, ← hz, show lac L a n cp a1 a2 l1 l2 c1 c2 = wrA lzc 0 (lacL L a n cp a1 a2 l1 l2 c1 c2) from (lwr0_17 _ _ _ _ _ _ _ _ _ _ _ _ _ _ _ _ _ _ _ _ _ _ _ _ _ _ _ _ _ _ _ _ _ _).symm]; exact Blk.stL _ _ (Blk.new _ _ _), hb, hB.symm⟩
  have HA : Hid (Blk W B 32 (lac L a n cp a1 a2 l1 l2 c1 c2) ∧ W.heap.size = B + 1 + 1) := ⟨A0, hz⟩
  clear hs bW A0 R0 hb hz
  go_enter Tryz.func48, Tryz.ntmps48
  go_upto_region 1 with fail
  have hB1 : w.heap.size + 1 = B + 1 := by omega
  rw [← hW, hB1, ← hB]
  clear hW hB hB1
  refine wp_region_lit ?_
  refine wpList_load_mid rfl 32 (.tmp 1) rfl B 0 rfl (lacL L a n cp a1 a2 l1 l2 c1 c2) _ HA.out.1.all Tryz.underlying32 rfl (by kernel_rfl) ?_
  refine wpList_alloc_any rfl 32 rfl lzc 17 184 (by kernel_rfl) ?_
  refine wpList_store_mid rfl 32 (.tmp 3) (.tmp 5) rfl W.heap.size 0 (lac L a n cp a1 a2 l1 l2 c1 c2) rfl rfl ((Blk.new W lzc 32).there 0 17 (by simp)) (by kernel_rfl) (by simp [Value.oneCell']) ?_
  rw [setCells_L, ← hW2, HA.out.2]
  clear hW2
  refine wpList_nil ?_
  obtain ⟨⟨y0, y1, y2, y3, y4, y5, y6, y7, y8, y9, y10, y11, y12, y13, y14, y15, y16⟩, yf⟩ := H0.out.2.2.1.svn
  clear yf
  go_wp2_with fail
  refine (specCopyCall_any L.c a1 a2 l1 l2 c1 c2 _ (H0.out.1.below H0.out.2.1).1 (H0.out.1.below H0.out.2.1).2.1 (H0.out.1.below H0.out.2.1).2.2.2.1 (H0.out.1.below H0.out.2.1).2.2.2.2 hl1 hl2).mono ?_
  rintro e w3 ⟨r1, r2, d1, d2, rfl, i1, i2, b3⟩
  clear y0 y1 y2 y3 y4 y5 y6 y7 y8 y9 y10 y11 y12 y13 y14 y15 y16
  have A3 := H0.out.2.2.2.2.1.below b3
  obtain ⟨⟨y0, y1, y2, y3, y4, y5, y6, y7, y8, y9, y10, y11, y12, y13, y14, y15, y16⟩, yf⟩ := A3.svn
  have yg2 := yf 2; have yg3 := yf 3; have yg4 := yf 4; have yg5 := yf 5; have yg6 := yf 6; have yg7 := yf 7; have yg8 := yf 8; have yg9 := yf 9; have yg10 := yf 10
  obtain ⟨W3, hW3⟩ : ∃ W3, W3 = setL w3 (B + 1 + 1) 2 [.int .i64 L.c.id, .int .i64 L.c.pa, .int .i64 L.c.un, .int .i64 L.c.kd, .int .i64 L.c.pl, .int .i64 L.c.n, .slice r1 l1 d1, .slice r2 l2 d2, .int .i64 L.c.wa] := ⟨_, rfl⟩
  have H3 : Hid (OwnI W3 w.heap.size (.slice r1 l1 d1) L.c.ws ∧ OwnB W3 w.heap.size (.slice r2 l2 d2) L.c.bs ∧ Blk W3 (B + 1 + 1) 32 (lac L a n cp r1 r2 l1 l2 d1 d2) ∧ Blk W3 B 32 (lac L a n cp a1 a2 l1 l2 c1 c2) ∧ Blk W3 (B + 1) 32 lzc ∧ Below w.heap.size w W3) := by
    have h0 := H0.out
    have hz := h0.2.1.size
    rw [hW3]
    exact ⟨OwnI.mono (show OwnI _ _ _ _ from row_stL i1 ⟨_, A3⟩ (by decide)) hz, OwnB.mono (show OwnB _ _ _ _ from row_stL i2 ⟨_, A3⟩ (by decide)) hz, by rw [show lac L a n cp r1 r2 l1 l2 d1 d2 = wrA (lac L a n cp a1 a2 l1 l2 c1 c2) 2 [.int .i64 L.c.id, .int .i64 L.c.pa, .int .i64 L.c.un, .int .i64 L.c.kd, .int .i64 L.c.pl, .int .i64 L.c.n, .slice r1 l1 d1, .slice r2 l2 d2, .int .i64 L.c.wa] from (lwr2_9 _ _ _ _ _ _ _ _ _ _ _ _ _ _ _ _ _ _ _ _ _ _ _ _ _ _).symm]; exact Blk.stL _ _ A3, Blk.stNe (by omega) _ _ (h0.2.2.1.below b3), Blk.stNe (by omega) _ _ (h0.2.2.2.1.below b3), setL_below (by omega) _ _ _ (bel_nx h0.2.1 b3)⟩
  have hW3' : W3 = (((((((((w3.setCell ⟨B + 1 + 1, 2, none⟩ (.int .i64 L.c.id)).setCell ⟨B + 1 + 1, 3, none⟩ (.int .i64 L.c.pa)).setCell ⟨B + 1 + 1, 4, none⟩ (.int .i64 L.c.un)).setCell ⟨B + 1 + 1, 5, none⟩ (.int .i64 L.c.kd)).setCell ⟨B + 1 + 1, 6, none⟩ (.int .i64 L.c.pl)).setCell ⟨B + 1 + 1, 7, none⟩ (.int .i64 L.c.n)).setCell ⟨B + 1 + 1, 8, none⟩ (.slice r1 l1 d1)).setCell ⟨B + 1 + 1, 9, none⟩ (.slice r2 l2 d2)).setCell ⟨B + 1 + 1, 10, none⟩ (.int .i64 L.c.wa)) := by rw [hW3]; simp only [setL, Nat.reduceAdd, Nat.zero_add]
  clear A3 hW3 i1 i2 b3
  go_upto_region 3 with fail
  rw [← hW3']
  clear hW3' y0 y1 y2 y3 y4 y5 y6 y7 y8 y9 y10 y11 y12 y13 y14 y15 y16 yf yg2 yg3 yg4 yg5 yg6 yg7 yg8 yg9 yg10 HA
  obtain ⟨ge, hge⟩ : ∃ ge, ge = W3.heap.size := ⟨_, rfl⟩
  have A4 := H3.out.2.2.1.below (bel_alloc W3 (.cells #[] 30))
  have z0 := A4.cell 0 rfl
  have zf0 := A4.fro 0
  have A5 := H3.out.2.2.1
  have z1 := A5.cell 0 rfl
  have zf1 := A5.fro 0
  have hne : ¬ B + 1 + 1 = W3.heap.size := Nat.ne_of_lt A5.lt
  have hne' : ¬ W3.heap.size = B + 1 + 1 := fun e => hne e.symm
  obtain ⟨W4, hW4⟩ : ∃ W4, W4 = (W3.alloc (.cells #[] 30)).setCell ⟨B + 1 + 1, 0, none⟩ (.slice (some ⟨W3.heap.size, 0, none⟩) 0 0) := ⟨_, rfl⟩
  have H4 : Hid (CQ w W4 B 0 f L (some ⟨ge, 0, none⟩) 0 r1 r2 l1 l2 d1 d2 (lac L a n cp a1 a2 l1 l2 c1 c2)) := by
    have h3 := H3.out
    have h0 := H0.out
    have b9 := bel_alloc W3 (.cells #[] 30)
    have g9 : (W3.alloc (.cells #[] 30)).grownBy W4 (some (B + 1 + 1)) := by rw [hW4]; exact grown_setj _ _ _ _
    have hEx : ExB (W3.alloc (.cells #[] 30)) (B + 1 + 1) 32 := ⟨_, A4⟩
    have hL0 : LnO (W3.alloc (.cells #[] 30)) w.heap.size 0 f L (some ⟨ge, 0, none⟩) 0 r1 r2 l1 l2 d1 d2 := by
      refine ⟨h0.1.1, h0.1.2.1, fun _ => [], fun _ => w.heap.size, ?_, InE.start _ _ _ _, Nat.le_trans h3.2.2.2.2.2.size b9.size, h3.1.below b9, h3.2.1.below b9, fun k hk j hj => by omega, fun k hk j hj => by omega⟩
      refine ⟨rfl, .inr ⟨ge, 0, #[], rfl, by rw [hge]; exact h3.2.2.2.2.2.size, ?_, Nat.le_refl _, by simp, rfl, rfl⟩⟩
      rw [hge]
      exact Blk.new W3 #[] 30
    refine ⟨hL0.keptT g9 hEx (by decide) (by decide) (by decide), ?_, (h3.2.2.2.1.below b9).grown g9 (by intro e9; have := Option.some.inj e9; omega), (h3.2.2.2.2.1.below b9).grown g9 (by intro e9; have := Option.some.inj e9; omega), ?_⟩
    · rw [hW4, hge, show lac L (some ⟨W3.heap.size, 0, none⟩) 0 0 r1 r2 l1 l2 d1 d2 = (lac L a n cp r1 r2 l1 l2 d1 d2).setIfInBounds 0 (.slice (some ⟨W3.heap.size, 0, none⟩) 0 0) by simp]
      exact A4.set 0 _
    · rw [hW4]; exact (bel_nx h3.2.2.2.2.2 b9).setCell (p := ⟨B + 1 + 1, 0, none⟩) (by show w.heap.size ≤ B + 1 + 1; omega) _
  clear A4 A5 H3
  go_upto_region 4 with fail
  rw [show (W3.alloc (.cells #[] 30)).setCell ⟨B + 1 + 1, 0, none⟩ (.slice (some ⟨W3.heap.size, 0, none⟩) 0 0) = W4 from hW4.symm]
  rw [← hge]
  clear hW4 z0 zf0 z1 zf1 hne hne' hge
  go_wp2
  go_loopw [4] (fun i wr => ∃ (k : Nat) (va : Option Addr) (vc : Nat), k ≤ n ∧ i = .int .i64 k ∧ CQ w wr B k f L va vc r1 r2 l1 l2 d1 d2 (lac L a n cp a1 a2 l1 l2 c1 c2)) (fun i _ => n - (intOf i).toNat)
  case atStart => exact ⟨0, _, _, Nat.zero_le _, rfl, H4.out⟩
  case round =>
    clear H4
    obtain ⟨k, va, vc, hk, rfl, hcq⟩ := hrel
    have y0 := hcq.2.2.1.cell 0 rfl
    have x0 := hcq.2.1.cell 0 rfl
    by_cases hlt : k < n
    · have hi : (k : Int) < (n : Int) := by omega
      obtain ⟨b, off, b1, b2, m1, m2, k1, k2, rfl, hb0, hm1, hm2, ⟨e0, e1, e2, e3, e4, e5, e6, e7, e8⟩, s1, s2⟩ := SlC.nine (H0.out.1.below hcq.2.2.2.2).2.2.1 hlt
      have hbd := H0.out.2.2.2.2.2.1.2 k hlt
      obtain ⟨C, hC⟩ : ∃ C, C = f k := ⟨_, rfl⟩
      rw [← hC] at e0 e1 e2 e3 e4 e5 e8 hm1 hm2 s1 s2
      obtain ⟨xs, hxs, hpu⟩ := hcq.1.row
      have HS : Hid (SlI wr b1 C.ws ∧ SlB wr b2 C.bs ∧ m1 = C.ws.length ∧ m2 = C.bs.length ∧ m1 ≤ 2000000 ∧ m2 ≤ 2000000 ∧ C = f k ∧ CQ w wr B k f L va vc r1 r2 l1 l2 d1 d2 (lac L (some ⟨b, off, none⟩) n cp a1 a2 l1 l2 c1 c2) ∧ wr.ownsRow w.heap.size 30 9 (.slice va k vc) k xs ∧ w.heap.size = B) := ⟨s1, s2, hm1, hm2, by rw [hm1, hC]; exact hbd.1, by rw [hm2, hC]; exact hbd.2, hC, hcq, hxs, H0.out.2.2.2.2.2.2⟩
      have HP := hide hpu
      clear s1 s2 hm1 hm2 hC hbd hb0 hcq hxs hpu
      go_upto_region 7 with fail
      have dz : Below wr.heap.size wr wr.drew := (Below.refl _ _).drew
      go_region_law (first
        | (go_simp; go_at_call 102; refine (specCopyCall_any C b1 b2 m1 m2 k1 k2 _ HS.out.2.2.1 HS.out.2.2.2.1 (HS.out.1.below (by first | exact Below.refl _ _ | exact dz)) (HS.out.2.1.below (by first | exact Below.refl _ _ | exact dz)) HS.out.2.2.2.2.1 HS.out.2.2.2.2.2.1).mono ?_; rintro e w6 ⟨x1', x2', t1, t2, rfl, j1, j2, b6'⟩; have H6 : Hid (Below wr.heap.size wr w6 ∧ OwnI w6 wr.heap.size (.slice x1' m1 t1) C.ws ∧ OwnB w6 wr.heap.size (.slice x2' m2 t2) C.bs) := (by first | exact ⟨b6', j1, j2⟩ | exact ⟨bel_nx dz b6', j1, j2⟩); clear j1 j2 b6'; have K6 := HS.out.2.2.2.2.2.2.2.1.below H6.out.1; have p0 := K6.2.1.cell 0 rfl; have p1 := (K6.below (bel_alloc w6 (.cells (cac C x1' x2' m1 m2 t1 t2) 30))).2.1.cell 0 rfl; have q6 : ¬ B + 1 + 1 = w6.heap.size := Nat.ne_of_lt K6.2.1.lt; have q7 : ¬ w6.heap.size = B + 1 + 1 := fun e => q6 e.symm; clear K6)
        | (refine step_appC rfl (.tmp 20) (.tmp 27) rfl w.heap.size (.slice va k vc) k xs rfl (row_bel (row_bel HS.out.2.2.2.2.2.2.2.2.1 H6.out.1) (bel_alloc _ _)) w6.heap.size 1 C x1' x2' m1 m2 t1 t2 rfl (Blk.new w6 _ _) (by omega) (Nat.le_trans (HS.out.2.2.2.2.2.2.2.1.below H6.out.1).2.2.2.2.size (bel_alloc _ _).size) ?_; intro v7 w7 o7 g7; obtain ⟨va7, vc7, hv7⟩ := row_form o7; subst hv7; have H7 : Hid (LnO w7 w.heap.size (k + 1) f L va7 vc7 r1 r2 l1 l2 d1 d2 ∧ Blk w7 (B + 1 + 1) 32 (lac L va k vc r1 r2 l1 l2 d1 d2) ∧ Blk w7 B 32 (lac L (some ⟨b, off, none⟩) n cp a1 a2 l1 l2 c1 c2) ∧ Blk w7 (B + 1) 32 lzc ∧ Below w.heap.size w w7) := (by have hq := (HS.out.2.2.2.2.2.2.2.1.below H6.out.1).below (bel_alloc w6 (.cells (cac C x1' x2' m1 m2 t1 t2) 30)); have hr := row_bel (row_bel HS.out.2.2.2.2.2.2.2.2.1 H6.out.1) (bel_alloc w6 (.cells (cac C x1' x2' m1 m2 t1 t2) 30)); exact ⟨HP.out w6 w7 va7 vc7 C x1' x2' m1 m2 t1 t2 _ f H6.out.1 HS.out.2.2.1 HS.out.2.2.2.1 H6.out.2.1 H6.out.2.2 g7 (fun _ _ => rfl) HS.out.2.2.2.2.2.2.1.symm o7, hq.2.1.grown g7 (row_noBlk hr hq.2.1 (by decide)), hq.2.2.1.grown g7 (row_noBlk hr hq.2.2.1 (by decide)), hq.2.2.2.1.grown g7 (row_noBlk hr hq.2.2.2.1 (by decide)), hq.2.2.2.2.grown g7 hq.2.2.2.2.size (fun x hx => (World.ownsRow.lt hr x hx).1)⟩); clear o7 g7; have n0 := H7.out.2.1.cell 0 rfl; have nf := H7.out.2.1.fro 0))
      all_goals (
        obtain ⟨W8, hW8⟩ : ∃ W8, W8 = w7.setCell ⟨B + 1 + 1, 0, none⟩ (.slice va7 (k + 1) vc7) := ⟨_, rfl⟩
        have H8 : Hid (CQ w W8 B (k + 1) f L va7 vc7 r1 r2 l1 l2 d1 d2 (lac L (some ⟨b, off, none⟩) n cp a1 a2 l1 l2 c1 c2)) := by
          have h7 := H7.out
          have hwB := HS.out.2.2.2.2.2.2.2.2.2
          have g9 : w7.grownBy W8 (some (B + 1 + 1)) := by rw [hW8]; exact grown_setj _ _ _ _
          refine ⟨h7.1.keptT g9 ⟨_, h7.2.1⟩ (by decide) (by decide) (by decide), ?_, h7.2.2.1.grown g9 (by intro e9; have := Option.some.inj e9; omega), h7.2.2.2.1.grown g9 (by intro e9; have := Option.some.inj e9; omega), ?_⟩
          · rw [hW8, show lac L va7 (k + 1) vc7 r1 r2 l1 l2 d1 d2 = (lac L va k vc r1 r2 l1 l2 d1 d2).setIfInBounds 0 (.slice va7 (k + 1) vc7) by simp]
            exact h7.2.1.set 0 _
          · rw [hW8]; exact h7.2.2.2.2.setCell (p := ⟨B + 1 + 1, 0, none⟩) (by show w.heap.size ≤ B + 1 + 1; omega) _
        rw [← hW8]
        clear hW8 H7 H6 HS HP
        go_wp2
        go_roundw
        case rel => exact ⟨k + 1, va7, vc7, by omega, by go_num, H8.out⟩
        case measure => simp [intOf]; omega)
    · have hi : ¬ (k : Int) < (n : Int) := by omega
      have e9 : k = n := by omega
      subst e9
      have HS : Hid (CQ w wr B k f L va vc r1 r2 l1 l2 d1 d2 (lac L a k cp a1 a2 l1 l2 c1 c2) ∧ w.heap.size = B) := ⟨hcq, H0.out.2.2.2.2.2.2⟩
      clear hcq H0
      go_upto_region 8 with fail
      refine wp_region_lit ?_
      refine wpList_load_mid rfl 32 (.tmp 3) rfl (B + 1 + 1) 0 rfl (lacL L va k vc r1 r2 l1 l2 d1 d2) _ HS.out.1.2.1.all Tryz.underlying32 rfl (by kernel_rfl) ?_
      refine wpList_store_mid rfl 32 (.tmp 2) (.tmp 30) rfl (B + 1) 0 (lac L va k vc r1 r2 l1 l2 d1 d2) rfl rfl (HS.out.1.2.2.2.1.there 0 17 (by simp)) (by kernel_rfl) (by simp [Value.oneCell']) ?_
      rw [setCells_L]
      refine wpList_nil ?_
      obtain ⟨W5, hW5⟩ : ∃ W5, W5 = setL wr (B + 1) 0 (lacL L va k vc r1 r2 l1 l2 d1 d2) := ⟨_, rfl⟩
      have H5 : Hid (LnO W5 w.heap.size k f L va vc r1 r2 l1 l2 d1 d2 ∧ Below w.heap.size w W5 ∧ Blk W5 (B + 1) 32 (lac L va k vc r1 r2 l1 l2 d1 d2)) := by
        have g1 : wr.grownBy W5 (some (B + 1)) := by rw [hW5]; exact setL_gw _ _ _
        exact ⟨HS.out.1.1.keptT g1 ⟨_, HS.out.1.2.2.2.1⟩ (by decide) (by decide) (by decide), by rw [hW5]; exact setL_below (by have := HS.out.2; omega) _ _ _ HS.out.1.2.2.2.2, by rw [hW5, show lac L va k vc r1 r2 l1 l2 d1 d2 = wrA lzc 0 (lacL L va k vc r1 r2 l1 l2 d1 d2) from (lwr0_17 _ _ _ _ _ _ _ _ _ _ _ _ _ _ _ _ _ _ _ _ _ _ _ _ _ _ _ _ _ _ _ _ _ _).symm]; exact Blk.stL _ _ HS.out.1.2.2.2.1⟩
      rw [show setL wr (B + 1) 0 (lac L va k vc r1 r2 l1 l2 d1 d2).toList = W5 from hW5.symm]
      clear hW5 HS
      go_wp2
      refine bodyPost_ret (v := .agg (lac L va k vc r1 r2 l1 l2 d1 d2)) (results_cell Tryz.results48 rfl (run_loadVar_mid _ _ _ 32 (lacL L va k vc r1 r2 l1 l2 d1 d2) _ H5.out.2.2.all Tryz.underlying32 rfl (by kernel_rfl))) rfl ?_
      exact ⟨_, _, _, _, _, _, rfl, H5.out.1, H5.out.2.1⟩
end Go.Proofs.YtmhdneenjoelfaaGreat
