/- Texts that the proof needs, joined: Fo3 Mk6 RgL RgM Ls1 Fo4 Mp1 Mp2. -/
import Derived.Test.YtplaoagcedgdfaaGreatW10
import Derived.Test.YtplaoagcedgdfaaGreatW9
import Derived.Test.YtplaoagcedgdfaaGreatW3
import Derived.Maps.AppendAt
import Derived.Deep.Upon
import Derived.Maps.RangeRun
import Derived.Carry
import Derived.Laws.StructEq
set_option linter.unusedVariables false
set_option linter.unusedSimpArgs false
set_option maxHeartbeats 4000000
set_option maxRecDepth 20000
namespace Go.Proofs.YtplaoagcedgdfaaGreat
open Go.RowKit Go.Joins Go.Proofs.Tryz
theorem sameReqQ_any (P Q : VQ) (a1 : Option Addr) (c1 : Nat) (a2 : Option Addr) (c2 : Nat) (b1 : Option Addr) (d1 : Nat) (b2 : Option Addr) (d2 : Nat) (w : World) (r1 : Rd w 0 (intsT P.ws) (.slice a1 P.ws.length c1)) (r2 : Rd w 0 (boolsT P.bs) (.slice a2 P.bs.length c2)) (q1 : Rd w 0 (intsT Q.ws) (.slice b1 Q.ws.length d1)) (q2 : Rd w 0 (boolsT Q.bs) (.slice b2 Q.bs.length d2)) (h1 : P.ws.length <= 2000000) (h2 : P.bs.length <= 2000000) (h3 : Q.ws.length <= 2000000) (h4 : Q.bs.length <= 2000000) :
 Calls prog 206 #[.agg (qL P a1 P.ws.length c1 a2 P.bs.length c2).toArray, .agg (qL Q b1 Q.ws.length d1 b2 Q.bs.length d2).toArray] w fun e w' => e = .returned (.bool (sqB P Q)) /\ Below w.heap.size w w' := by
 obtain ⟨t0, e0⟩ : ∃ t, (P.kd == Q.kd) = t := ⟨_, rfl⟩
 obtain ⟨t1, e1⟩ : ∃ t, (P.pl == Q.pl) = t := ⟨_, rfl⟩
 obtain ⟨t2, e2⟩ : ∃ t, (P.n == Q.n) = t := ⟨_, rfl⟩
 obtain ⟨t3, e3⟩ : ∃ t, (P.wa == Q.wa) = t := ⟨_, rfl⟩
 obtain ⟨t4, e4⟩ : ∃ t, decide (P.ws = Q.ws) = t := ⟨_, rfl⟩
 obtain ⟨t5, e5⟩ : ∃ t, decide (P.bs = Q.bs) = t := ⟨_, rfl⟩
 obtain ⟨W, hW⟩ : ∃ W, W = (w.alloc (.cells (qL P a1 P.ws.length c1 a2 P.bs.length c2).toArray 84)).alloc (.cells (qL Q b1 Q.ws.length d1 b2 Q.bs.length d2).toArray 84) := ⟨_, rfl⟩
 have bW : Below w.heap.size w W := by rw [hW]; exact bel_nx (bel_alloc w _) (bel_alloc _ _)
 have A0 : Blk W w.heap.size 84 (qL P a1 P.ws.length c1 a2 P.bs.length c2).toArray := by rw [hW]; exact (Blk.new w _ _).below (bel_alloc _ _)
 have B0 : Blk W (w.heap.size + 1) 84 (qL Q b1 Q.ws.length d1 b2 Q.bs.length d2).toArray := by
  rw [hW]; have := Blk.new (w.alloc (.cells (qL P a1 P.ws.length c1 a2 P.bs.length c2).toArray 84)) (qL Q b1 Q.ws.length d1 b2 Q.bs.length d2).toArray 84; simpa using this
 obtain ⟨_, _, x1, _, _, s1⟩ := (r1.below bW).ints
 obtain ⟨_, _, x2, _, _, s2⟩ := (r2.below bW).bools
 obtain ⟨_, _, x3, _, _, s3⟩ := (q1.below bW).ints
 obtain ⟨_, _, x4, _, _, s4⟩ := (q2.below bW).bools
 simp only [Value.slice.injEq] at x1 x2 x3 x4
 rw [<- x1.1] at s1
 rw [<- x2.1] at s2
 rw [<- x3.1] at s3
 rw [<- x4.1] at s4
 have HE : Hid (sqB P Q = (t0 && (t1 && (t2 && (t3 && (t4 && t5))))) /\ decide (P.ws = Q.ws) = t4 /\ decide (P.bs = Q.bs) = t5 /\ Below w.heap.size w W /\ SlI W a1 P.ws /\ SlB W a2 P.bs /\ SlI W b1 Q.ws /\ SlB W b2 Q.bs /\ Blk W w.heap.size 84 (qL P a1 P.ws.length c1 a2 P.bs.length c2).toArray /\ Blk W (w.heap.size + 1) 84 (qL Q b1 Q.ws.length d1 b2 Q.bs.length d2).toArray) := ⟨by unfold sqB; rw [e0, e1, e2, e3, e4, e5], e4, e5, bW, s1, s2, s3, s4, A0, B0⟩
 obtain ⟨⟨y0, y1, y2, y3, y4, y5⟩, yf⟩ := A0.tc6
 obtain ⟨⟨z0, z1, z2, z3, z4, z5⟩, zf⟩ := B0.tc6
 rw [HE.out.1]
 clear e4 e5 bW A0 B0 s1 s2 s3 s4 x1 x2 x3 x4 r1 r2 q1 q2 yf zf
 go_enter func206, ntmps206
 go_upto_region 1 with fail
 rw [<- hW]
 clear hW
 cases t0
 case false =>
  go_wp2
  go_ret
  exact ⟨rfl, HE.out.2.2.2.1⟩
 cases t1
 case false =>
  go_wp2
  go_ret
  exact ⟨rfl, HE.out.2.2.2.1⟩
 cases t2
 case false =>
  go_wp2
  go_ret
  exact ⟨rfl, HE.out.2.2.2.1⟩
 cases t3
 case false =>
  go_wp2
  go_ret
  exact ⟨rfl, HE.out.2.2.2.1⟩
 go_wp2_with fail
 refine (equal_int_any a1 b1 _ _ c1 d1 P.ws Q.ws _ rfl rfl HE.out.2.2.2.2.1 HE.out.2.2.2.2.2.2.1 h1 h3 t4 HE.out.2.1).mono ?_
 rintro e w1 ⟨rfl, hb⟩
 have H1 : Hid (Below w.heap.size w w1 /\ SlB w1 a2 P.bs /\ SlB w1 b2 Q.bs /\ Blk w1 w.heap.size 84 (qL P a1 P.ws.length c1 a2 P.bs.length c2).toArray /\ Blk w1 (w.heap.size + 1) 84 (qL Q b1 Q.ws.length d1 b2 Q.bs.length d2).toArray) := ⟨bel_nx HE.out.2.2.2.1 hb, HE.out.2.2.2.2.2.1.below hb, HE.out.2.2.2.2.2.2.2.1.below hb, HE.out.2.2.2.2.2.2.2.2.1.below hb, HE.out.2.2.2.2.2.2.2.2.2.below hb⟩
 clear hb y0 y1 y2 y3 y4 y5 z0 z1 z2 z3 z4 z5
 obtain ⟨⟨y0, y1, y2, y3, y4, y5⟩, yf⟩ := H1.out.2.2.2.1.tc6
 obtain ⟨⟨z0, z1, z2, z3, z4, z5⟩, zf⟩ := H1.out.2.2.2.2.tc6
 clear yf zf
 cases t4
 case false =>
  go_wp2
  go_ret
  exact ⟨rfl, H1.out.1⟩
 go_wp2_with fail
 refine (equal_bool_any a2 b2 _ _ c2 d2 P.bs Q.bs _ rfl rfl H1.out.2.1 H1.out.2.2.1 h2 h4 t5 HE.out.2.2.1).mono ?_
 rintro e w2 ⟨rfl, hb⟩
 have B2 := bel_nx H1.out.1 hb
 clear hb y0 y1 y2 y3 y4 y5 z0 z1 z2 z3 z4 z5
 go_wp2
 go_ret
 exact ⟨rfl, B2⟩
def CaAt (w0 w : World) (g o : Nat) (C : VL) : Prop := g < w.heap.size /\ ∃ vs, vs.length = 9 /\ w.rangeAt g o vs /\ RdL w0 0 (trs (xlT C)) vs
theorem isOf_any (C : VL) (X : VP) (j g o : Nat) (b1 : Option Addr) (d1 : Nat) (b2 : Option Addr) (d2 : Nat) (w : World) (h : CaAt w w g o C) (r1 : Rd w 0 (intsT X.q.ws) (.slice b1 X.q.ws.length d1)) (r2 : Rd w 0 (boolsT X.q.bs) (.slice b2 X.q.bs.length d2)) (hb1 : BdQ X.q) (hb2 : BdQ C.q) :
 Calls prog 148 #[.pointer (some ⟨g, o, none⟩), .agg (pL X b1 X.q.ws.length d1 b2 X.q.bs.length d2).toArray, .int .i64 (j : Int)] w fun e w' => e = .returned (.bool (fitP j C X)) /\ Below w.heap.size w w' := by
 obtain ⟨hg, vs, hl, hr, hd⟩ := h
 obtain ⟨e1, k1, e2, k2, rfl, q1, q2⟩ := VL.cells hd hl
 obtain ⟨x0, h0⟩ : ∃ x, (X.p == (j : Int)) = x := ⟨_, rfl⟩
 obtain ⟨x1, h1⟩ : ∃ x, (X.t == C.un) = x := ⟨_, rfl⟩
 obtain ⟨x2, h2⟩ : ∃ x, sqB X.q C.q = x := ⟨_, rfl⟩
 have hf : fitP j C X = (x0 && (x1 && x2)) := by unfold fitP; rw [h0, h1, h2]
 rw [hf]
 have HX : Hid ((X.p == (j : Int)) = x0 /\ (X.t == C.un) = x1 /\ sqB X.q C.q = x2) := ⟨h0, h1, h2⟩
 have HB : Hid (BdQ X.q /\ BdQ C.q) := ⟨hb1, hb2⟩
 obtain ⟨W, hW⟩ : ∃ W, W = w.alloc (.cells (pL X b1 X.q.ws.length d1 b2 X.q.bs.length d2).toArray 144) := ⟨_, rfl⟩
 obtain ⟨G, hG⟩ : ∃ G, G = w.heap.size := ⟨_, rfl⟩
 have bW : Below w.heap.size w W := by rw [hW]; exact bel_alloc _ _
 have HE : Hid (Below w.heap.size w W /\ Blk W G 144 (pL X b1 X.q.ws.length d1 b2 X.q.bs.length d2).toArray /\ g < W.heap.size /\ W.rangeAt g o (xlL C e1 C.q.ws.length k1 e2 C.q.bs.length k2) /\ Rd W 0 (intsT X.q.ws) (.slice b1 X.q.ws.length d1) /\ Rd W 0 (boolsT X.q.bs) (.slice b2 X.q.bs.length d2) /\ Rd W 0 (intsT C.q.ws) (.slice e1 C.q.ws.length k1) /\ Rd W 0 (boolsT C.q.bs) (.slice e2 C.q.bs.length k2)) := ⟨bW, by rw [hW, hG]; exact Blk.new _ _ _, Nat.lt_of_lt_of_le hg bW.size, rangeAt_below hr hg bW, r1.below bW, r2.below bW, q1.below bW, q2.below bW⟩
 clear hf h0 h1 h2 hb1 hb2 bW hr hd hl q1 q2 r1 r2 hg
 go_enter func148, ntmps148
 go_upto_region 1 with fail
 rw [<- hW, <- hG]
 clear hW hG
 try go_simp
 refine wp_region_any (by kernel_rfl) ?_
 refine wpAny_vals (fun u => Below W.heap.size W u) (fun i v u => match i with
  | 0 => v = .pointer (some ⟨G, 0, none⟩)
  | 1 => v = .int .i64 X.p
  | 2 => v = .int .i64 (j : Int)
  | 3 => v = .bool x0
  | 4 => v = .bool x0
  | 5 => v = cond x0 (.pointer (some ⟨G, 1, none⟩)) undef
  | 6 => v = cond x0 (.int .i64 X.t) undef
  | 7 => v = cond x0 (.pointer (some ⟨g, o, none⟩)) undef
  | 8 => v = cond x0 (.pointer (some ⟨g, o, none⟩)) undef
  | 9 => v = cond x0 (.pointer (some ⟨g, o + 2, none⟩)) undef
  | 10 => v = cond x0 (.int .i64 C.un) undef
  | 11 => v = cond x0 (.bool x1) undef
  | 12 => v = cond x0 (.bool x1) (.bool false)
  | 13 => v = cond x0 (.bool x1) (.bool false)
  | 14 => v = cond x0 (cond x1 (.pointer (some ⟨G, 2, none⟩)) undef) undef
  | 15 => v = cond x0 (cond x1 (.agg ([.int .i64 X.q.kd, .int .i64 X.q.pl, .int .i64 X.q.n, .slice b1 X.q.ws.length d1, .slice b2 X.q.bs.length d2, .int .i64 X.q.wa]).toArray) undef) undef
  | 16 => v = cond x0 (cond x1 (.pointer (some ⟨g, o, none⟩)) undef) undef
  | 17 => v = cond x0 (cond x1 (.pointer (some ⟨g, o, none⟩)) undef) undef
  | 18 => v = cond x0 (cond x1 (.pointer (some ⟨g, o + 3, none⟩)) undef) undef
  | 19 => v = cond x0 (cond x1 (.agg ([.int .i64 C.q.kd, .int .i64 C.q.pl, .int .i64 C.q.n, .slice e1 C.q.ws.length k1, .slice e2 C.q.bs.length k2, .int .i64 C.q.wa]).toArray) undef) undef
  | 20 => v = cond x0 (cond x1 (.bool x2) undef) undef
  | 21 => v = cond x0 (cond x1 (.bool x2) (.bool false)) (.bool false)
  | 22 => v = cond x0 (cond x1 (.bool x2) (.bool false)) (.bool false)
  | _ => v = undef) (by kernel_rfl) (by kernel_rfl) (fun _ _ _ _ h _ => h) (by first | exact Below.refl _ _ | exact (Below.refl _ _).drew) ?_ ?_ _ _ rfl (by decide) (fun i => by simp [Array.getD]; try (split <;> rfl))
 ·intro vs u hR hall
  simp only [putsL]
  cases x0
  ·have e22 : vs 22 = .bool false := hall 22 (by simp)
   rw [e22]
   clear hall e22
   have B9 := bel_nx HE.out.1 hR
   clear HX HE HB hR
   go_simp
   go_wp2
   go_ret
   exact ⟨rfl, B9⟩
  cases x1
  ·have e22 : vs 22 = .bool false := hall 22 (by simp)
   rw [e22]
   clear hall e22
   have B9 := bel_nx HE.out.1 hR
   clear HX HE HB hR
   go_simp
   go_wp2
   go_ret
   exact ⟨rfl, B9⟩
  cases x2
  ·have e22 : vs 22 = .bool false := hall 22 (by simp)
   rw [e22]
   clear hall e22
   have B9 := bel_nx HE.out.1 hR
   clear HX HE HB hR
   go_simp
   go_wp2
   go_ret
   exact ⟨rfl, B9⟩
  have e22 : vs 22 = .bool true := hall 22 (by simp)
  rw [e22]
  clear hall e22
  have B9 := bel_nx HE.out.1 hR
  clear HX HE HB hR
  go_simp
  go_wp2
  go_ret
  exact ⟨rfl, B9⟩
 intro u i o ρ hR ho hρ hc hf hd
 have hi : i < 23 := by
  have := (Array.getElem?_eq_some_iff.1 ho).1
  simpa using this
 obtain rfl | rfl | rfl | rfl | rfl | rfl | rfl | rfl | rfl | rfl | rfl | rfl | rfl | rfl | rfl | rfl | rfl | rfl | rfl | rfl | rfl | rfl | rfl : i = 0 \/ i = 1 \/ i = 2 \/ i = 3 \/ i = 4 \/ i = 5 \/ i = 6 \/ i = 7 \/ i = 8 \/ i = 9 \/ i = 10 \/ i = 11 \/ i = 12 \/ i = 13 \/ i = 14 \/ i = 15 \/ i = 16 \/ i = 17 \/ i = 18 \/ i = 19 \/ i = 20 \/ i = 21 \/ i = 22 := by omega
 all_goals (simp only [List.getElem?_toArray, List.getElem?_cons_zero, List.getElem?_cons_succ, Option.some.injEq] at ho; subst ho)
 ·exact yr (run_field_op rfl (hρ 4 (by kernel_rfl)) (by go_simp)) rfl hR
 ·have y9 : u.cell? ⟨G, 0, none⟩ = some (.int .i64 X.p) := (HE.out.2.1.below hR).rng 0 _ rfl
  exact yr (run_load_op rfl (dq hd 0 7) (by go_simp)) rfl hR
 ·exact yr rfl (hρ 2 (by kernel_rfl)) hR
 ·cases x0
  ·have t0 : (X.p == (j : Int)) = false := HX.out.1
   exact yr (run_bin_op rfl (dq hd 1 8) (dq hd 2 9) (by go_simp)) rfl hR
  have t0 : (X.p == (j : Int)) = true := HX.out.1
  exact yr (run_bin_op rfl (dq hd 1 8) (dq hd 2 9) (by go_simp)) rfl hR
 ·exact yr rfl (dq hd 3 10) hR
 ·cases x0
  ·exact ngq (.bool false) hd 4 11
  exact yq hd 4 11 (run_field_op rfl (hρ 4 (by kernel_rfl)) (by go_simp)) rfl hR
 ·cases x0
  ·exact ngq (.bool false) hd 4 11
  have y9 := (HE.out.2.1.below hR).rng 1 _ rfl
  exact yq hd 4 11 (run_load_op rfl (dq hd 5 12) (by go_simp)) rfl hR
 ·cases x0
  ·exact ngq (.bool false) hd 4 11
  exact yq hd 4 11 rfl (hρ 0 (by kernel_rfl)) hR
 ·cases x0
  ·exact ngq (.bool false) hd 4 11
  exact yq hd 4 11 (run_nilz rfl (dq hd 7 14)) rfl hR
 ·cases x0
  ·exact ngq (.bool false) hd 4 11
  exact yq hd 4 11 (run_field_op rfl (dq hd 8 15) (by go_simp)) rfl hR
 ·cases x0
  ·exact ngq (.bool false) hd 4 11
  have y9 := (rangeAt_below HE.out.2.2.2.1 HE.out.2.2.1 hR) 2 _ rfl
  exact yq hd 4 11 (run_load_op rfl (dq hd 9 16) (by go_simp)) rfl hR
 ·cases x0
  ·exact ngq (.bool false) hd 4 11
  cases x1
  ·have t1 : (X.t == C.un) = false := HX.out.2.1
   exact yq hd 4 11 (run_bin_op rfl (dq hd 6 13) (dq hd 10 17) (by go_simp)) rfl hR
  have t1 : (X.t == C.un) = true := HX.out.2.1
  exact yq hd 4 11 (run_bin_op rfl (dq hd 6 13) (dq hd 10 17) (by go_simp)) rfl hR
 ·cases x0
  ·exact yr (run_pick_op rfl (dq hd 4 11)) (by simpa using hc _) hR
  exact yr (run_pick_op rfl (dq hd 4 11)) (by simpa using (dq hd 11 18)) hR
 ·exact yr rfl (dq hd 12 19) hR
 ·cases x0
  ·exact ngq (.bool false) hd 13 20
  cases x1
  ·exact ngq (.bool false) hd 13 20
  exact yq hd 13 20 (run_field_op rfl (hρ 4 (by kernel_rfl)) (by go_simp)) rfl hR
 ·cases x0
  ·exact ngq (.bool false) hd 13 20
  cases x1
  ·exact ngq (.bool false) hd 13 20
  have h14 : _ = _ := dq hd 14 21
  have hr : (Instr.loadAt 84 (.pointer (some ⟨G, 2, none⟩))).run prog u = .ok (.agg ([.int .i64 X.q.kd, .int .i64 X.q.pl, .int .i64 X.q.n, .slice b1 X.q.ws.length d1, .slice b2 X.q.bs.length d2, .int .i64 X.q.wa]).toArray) u := run_loadAt_mid u G (2) 84 ([.int .i64 X.q.kd, .int .i64 X.q.pl, .int .i64 X.q.n, .slice b1 X.q.ws.length d1, .slice b2 X.q.bs.length d2, .int .i64 X.q.wa]) _ (rangeAt_mid [.int .i64 X.p, .int .i64 X.t] [.int .i64 X.q.kd, .int .i64 X.q.pl, .int .i64 X.q.n, .slice b1 X.q.ws.length d1, .slice b2 X.q.bs.length d2, .int .i64 X.q.wa] [] (HE.out.2.1.below hR).rng rfl) underlying84 rfl (by kernel_rfl)
  exact yq hd 13 20 (run_load_op rfl h14 hr) rfl hR
 ·cases x0
  ·exact ngq (.bool false) hd 13 20
  cases x1
  ·exact ngq (.bool false) hd 13 20
  exact yq hd 13 20 rfl (hρ 0 (by kernel_rfl)) hR
 ·cases x0
  ·exact ngq (.bool false) hd 13 20
  cases x1
  ·exact ngq (.bool false) hd 13 20
  exact yq hd 13 20 (run_nilz rfl (dq hd 16 23)) rfl hR
 ·cases x0
  ·exact ngq (.bool false) hd 13 20
  cases x1
  ·exact ngq (.bool false) hd 13 20
  exact yq hd 13 20 (run_field_op rfl (dq hd 17 24) (by go_simp)) rfl hR
 ·cases x0
  ·exact ngq (.bool false) hd 13 20
  cases x1
  ·exact ngq (.bool false) hd 13 20
  have h18 : _ = _ := dq hd 18 25
  have hr : (Instr.loadAt 84 (.pointer (some ⟨g, o + 3, none⟩))).run prog u = .ok (.agg ([.int .i64 C.q.kd, .int .i64 C.q.pl, .int .i64 C.q.n, .slice e1 C.q.ws.length k1, .slice e2 C.q.bs.length k2, .int .i64 C.q.wa]).toArray) u := run_loadAt_mid u g (o + 3) 84 ([.int .i64 C.q.kd, .int .i64 C.q.pl, .int .i64 C.q.n, .slice e1 C.q.ws.length k1, .slice e2 C.q.bs.length k2, .int .i64 C.q.wa]) _ (rangeAt_mid [.int .i64 C.id, .int .i64 C.pa, .int .i64 C.un] [.int .i64 C.q.kd, .int .i64 C.q.pl, .int .i64 C.q.n, .slice e1 C.q.ws.length k1, .slice e2 C.q.bs.length k2, .int .i64 C.q.wa] [] (rangeAt_below HE.out.2.2.2.1 HE.out.2.2.1 hR) rfl) underlying84 rfl (by kernel_rfl)
  exact yq hd 13 20 (run_load_op rfl h18 hr) rfl hR
 ·cases x0
  ·exact ngq (.bool false) hd 13 20
  cases x1
  ·exact ngq (.bool false) hd 13 20
  have g13 : ρ (.tmp 20) = .bool true := gq hd 13 20
  have h15 : _ = _ := dq hd 15 22
  have h19 : _ = _ := dq hd 19 26
  refine .inl ⟨(by show (match ρ (.tmp 20) with | .bool b => b == true | _ => false) = true; rw [g13]; rfl), .inr ⟨_, _, run_call_op rfl (hf _) (args := #[.agg ([.int .i64 X.q.kd, .int .i64 X.q.pl, .int .i64 X.q.n, .slice b1 X.q.ws.length d1, .slice b2 X.q.bs.length d2, .int .i64 X.q.wa]).toArray, .agg ([.int .i64 C.q.kd, .int .i64 C.q.pl, .int .i64 C.q.n, .slice e1 C.q.ws.length k1, .slice e2 C.q.bs.length k2, .int .i64 C.q.wa]).toArray]) (by simp [h15, h19]) (by kernel_rfl), ?_⟩⟩
  refine (sameReqQ_any X.q C.q b1 d1 b2 d2 e1 k1 e2 k2 _ (HE.out.2.2.2.2.1.below hR) (HE.out.2.2.2.2.2.1.below hR) (HE.out.2.2.2.2.2.2.1.below hR) (HE.out.2.2.2.2.2.2.2.below hR) HB.out.1.1 HB.out.1.2 HB.out.2.1 HB.out.2.2).mono ?_
  rintro e u' ⟨he, b'⟩
  exact ⟨_, he.trans (by rw [HX.out.2.2] <;> rfl), rfl, bel_nx hR b', b'⟩
 ·cases x0
  ·exact yr (run_pick_op rfl (dq hd 13 20)) (by simpa using hc _) hR
  cases x1
  ·exact yr (run_pick_op rfl (dq hd 13 20)) (by simpa using hc _) hR
  exact yr (run_pick_op rfl (dq hd 13 20)) (by simpa using (dq hd 20 27)) hR
 exact yr rfl (dq hd 21 28) hR
theorem fl_push (F : Nat -> List Value) (vs : List Value) (n : Nat) : (List.range (n + 1)).flatMap (fun k => if k = n then vs else F k) = (List.range n).flatMap F ++ vs := by
 rw [List.range_succ, List.flatMap_append]
 congr 1
 ·have : ∀ l : List Nat, (∀ x ∈ l, x < n) -> l.flatMap (fun k => if k = n then vs else F k) = l.flatMap F := by
   intro l
   induction l with
   | nil => intro _; rfl
   | cons x r ih =>
    intro h
    rw [List.flatMap_cons, List.flatMap_cons, ih (fun y hy => h y (by simp [hy]))]
    have := h x (by simp)
    rw [if_neg (by omega)]
  exact this _ (fun x hx => List.mem_range.1 hx)
 simp
theorem fl_len (F : Nat -> List Value) (s : Nat) : ∀ n, (∀ k, k < n -> (F k).length = s) -> ((List.range n).flatMap F).length = n * s
 | 0, _ => by simp
 | n + 1, h => by
  rw [List.range_succ, List.flatMap_append, List.length_append, fl_len F s n (fun k hk => h k (by omega))]
  simp [h n (by omega), Nat.add_mul]
theorem fl_at (F : Nat -> List Value) (s : Nat) : ∀ n, (∀ k, k < n -> (F k).length = s) -> ∀ k j, k < n -> j < s -> ((List.range n).flatMap F)[k * s + j]? = (F k)[j]?
 | 0, _, k, j, hk, _ => by omega
 | n + 1, h, k, j, hk, hj => by
  have hl := fl_len F s n (fun k hk => h k (by omega))
  rw [List.range_succ, List.flatMap_append]
  by_cases e : k = n
  ·subst e
   rw [List.getElem?_append_right (by omega), hl, Nat.add_sub_cancel_left]
   simp
  have hk' : k < n := by omega
  have : (k + 1) * s <= n * s := Nat.mul_le_mul_right s hk'
  rw [Nat.add_mul, Nat.one_mul] at this
  rw [List.getElem?_append_left (by omega)]
  exact fl_at F s n (fun k hk => h k (by omega)) k j hk' hj
def ElG (w : World) (base : Nat) (v : Value) (ts : List Tr) (vs : List Value) : Prop :=
 ∃ K : Nat -> Sk, ∀ i u, vs[i]? = some u -> Fit w (trs ts i) (K i) u /\ ∀ b, (K i).bl b -> base <= b /\ v.ownBlock ≠ some b
def LsG (w : World) (base : Nat) (e : TypeId) (s : Nat) (v : Value) (n : Nat) (f : Nat -> List Tr) : Prop :=
 ∃ F : Nat -> List Value, w.ownsRow base e s v n ((List.range n).flatMap F) /\ ∀ k, k < n -> (F k).length = s /\ ElG w base v (f k) (F k)
end Go.Proofs.YtplaoagcedgdfaaGreat
namespace Go.Proofs.YtplaoagcedgdfaaGreat
open Go.RowKit Go.Proofs.Tryz
def StpB (P : Program) (ops : Array Oper) (Φ : Nat -> Value -> World -> Prop) (i : Nat) (o : Oper) (ρ : Operand -> Value) (u : World) : Prop :=
 (wantV ops o ρ = true /\ ((∃ v u', (execOp ρ o).run P u = .ok (.value v) u' /\ Φ i v u' /\ Below u.heap.size u u') \/ (∃ f args, (execOp ρ o).run P u = .ok (.enter f args) u /\ Calls P f args u fun e u' => ∃ v, e = .returned v /\ Φ i v u' /\ Below u.heap.size u u')))
 \/ (wantV ops o ρ = false /\ Φ i undef u)
def lastB (md : Region.Mode) (ops : Array Oper) (N : Nat) : Bool :=
 match ops[N]? with
 | some o => o.dst.isNone && (List.range N).all (fun i => (dstOf ops i).isSome && o.after.toList.any (fun e => e.on == i && Region.binds md e))
 | none => false
def reachB (md : Region.Mode) (ops : Array Oper) : Nat -> Nat -> Nat -> Bool
 | 0, i, j => i == j
 | k + 1, i, j => i == j || match ops[i]? with
  | some o => o.after.toList.any (fun e => Region.binds md e && reachB md ops k e.on j)
  | none => false
def tailB (md : Region.Mode) (ops : Array Oper) (N : Nat) : Bool :=
 (List.range N).all (fun i => (dstOf ops i).isSome) && (List.range ops.size).all (fun i => decide (i < N) || (List.range i).all (fun j => reachB md ops ops.size i j))
theorem reachB_l {md : Region.Mode} {ops : Array Oper} {l : Nat -> Bool} (hcl : ∀ j oj, ops[j]? = some oj -> l j = true -> ∀ e ∈ oj.after, Region.binds md e = true -> l e.on = true) : ∀ k i j, reachB md ops k i j = true -> l i = true -> l j = true
 | 0, i, j, h, hi => by
  have e : i = j := by simpa [reachB] using h
  rw [<- e]; exact hi
 | k + 1, i, j, h, hi => by
  unfold reachB at h
  rw [Bool.or_eq_true] at h
  rcases h with h | h
  ·have e : i = j := by simpa using h
   rw [<- e]; exact hi
  split at h
  ·rename_i o ho
   rw [List.any_eq_true] at h
   obtain ⟨e, he, q⟩ := h
   rw [Bool.and_eq_true] at q
   exact reachB_l hcl k e.on j q.2 (hcl i o ho hi e (Array.mem_toList_iff.1 he) q.1)
  cases h
theorem reachB_d {md : Region.Mode} {ops : Array Oper} {l : Nat -> Bool} (hcl : ∀ j oj, ops[j]? = some oj -> l j = true -> ∀ e ∈ oj.after, Region.binds md e = true -> l e.on = true) {k i j : Nat} {o : Oper} (ho : ops[i]? = some o) (hdep : ∀ e ∈ o.after, Region.binds md e = true -> l e.on = true) (hne : i ≠ j) (h : reachB md ops k i j = true) : l j = true := by
 cases k with
 | zero => exact absurd (by simpa [reachB] using h) hne
 | succ k =>
  unfold reachB at h
  rw [Bool.or_eq_true] at h
  rcases h with h | h
  ·exact absurd (by simpa using h) hne
  rw [ho] at h
  simp only [List.any_eq_true] at h
  obtain ⟨e, he, q⟩ := h
  rw [Bool.and_eq_true] at q
  exact reachB_l hcl k e.on j q.2 (hdep e (Array.mem_toList_iff.1 he) q.1)
def noDst (ops : Array Oper) (N s : Nat) : Bool := (List.range N).all (fun j => dstOf ops j != some s)
def StpT (P : Program) (ops : Array Oper) (E : (Nat -> Value) -> World -> Prop) (o : Oper) (ρ : Operand -> Value) (u : World) : Prop :=
 wantV ops o ρ = true /\ ((∃ v u', (execOp ρ o).run P u = .ok (.value v) u' /\ E (updS (fun s => ρ (.tmp s)) o.dst v) u') \/ (∃ f args, (execOp ρ o).run P u = .ok (.enter f args) u /\ Calls P f args u fun e u' => ∃ v, e = .returned v /\ E (updS (fun s => ρ (.tmp s)) o.dst v) u') \/ (o.dst = none /\ ∃ u', (execOp ρ o).run P u = .ok .skip u' /\ E (fun s => ρ (.tmp s)) u'))
theorem wpAny_tl {P : Program} {ops : Array Oper} {Q : Exit -> Act -> World -> Prop} {md : Region.Mode} {a0 : Act} {w0 : World} (N : Nat) (Rb : World -> Prop) (E : Nat -> (Nat -> Value) -> World -> Prop) (Φ : Nat -> Value -> World -> Prop)
 (hordB : ordB md ops = true) (hB : dstC ops a0.tmps.size = true) (hN : N < ops.size) (hL : tailB md ops N = true)
 (hRb : ∀ u u', Rb u -> Below u.heap.size u u' -> Rb u') (hmono : ∀ i v u u', Φ i v u -> Below u.heap.size u u' -> Φ i v u') (h0 : Rb w0)
 (hend : ∀ (vs : Nat -> Value) (σ : Nat -> Value) u, E (ops.size - 1) σ u -> (∀ i d, dstOf ops i = some d -> vs i = σ d) -> Q .normal (putsL a0 0 ops.toList vs) u)
 (hstep : ∀ u i o (ρ : Operand -> Value), i < N -> Rb u -> ops[i]? = some o -> (∀ s, noDst ops N s = true -> ρ (.tmp s) = a0.eval (.tmp s)) -> (∀ v, ρ (.const v) = v) -> (∀ f, ρ (.func f) = .func (.func f) #[] #[]) ->
  (∀ e ∈ o.after, Region.binds md e = true -> ∀ d, dstOf ops e.on = some d -> Φ e.on (ρ (.tmp d)) u) -> StpB P ops Φ i o ρ u)
 (hfirst : ∀ u o (ρ : Operand -> Value), Rb u -> ops[N]? = some o -> (∀ s, noDst ops N s = true -> ρ (.tmp s) = a0.eval (.tmp s)) -> (∀ v, ρ (.const v) = v) -> (∀ f, ρ (.func f) = .func (.func f) #[] #[]) ->
  (∀ j d, j < N -> dstOf ops j = some d -> Φ j (ρ (.tmp d)) u) -> StpT P ops (E N) o ρ u)
 (htail : ∀ u i o (ρ : Operand -> Value), N <= i -> ops[i + 1]? = some o -> E i (fun s => ρ (.tmp s)) u -> (∀ s, isDst ops s = false -> ρ (.tmp s) = a0.eval (.tmp s)) -> (∀ v, ρ (.const v) = v) -> (∀ f, ρ (.func f) = .func (.func f) #[] #[]) -> StpT P ops (E (i + 1)) o ρ u)
 (fuel : Nat) (l : Array Bool) (hs : l.size = ops.size) (hc : l.toList.count false <= fuel) (hl : ∀ i, l.getD i false = false) : wpAny P md ops Q fuel l a0 w0 := by
 obtain ⟨hds, hre⟩ : (∀ i, i < N -> (dstOf ops i).isSome = true) /\ ∀ i, N <= i -> i < ops.size -> ∀ j, j < i -> reachB md ops ops.size i j = true := by
  unfold tailB at hL
  simp only [Bool.and_eq_true, List.all_eq_true, List.mem_range, Bool.or_eq_true, decide_eq_true_eq] at hL
  exact ⟨hL.1, fun i h1 h2 j hj => (hL.2 i h2).elim (fun h => absurd h (by omega)) (fun h => h j hj)⟩
 refine wpAny_valy (fun l σ u => (∀ i, N <= i -> i < ops.size -> l i = true -> (i + 1 = ops.size \/ l (i + 1) = false) -> E i σ u) /\ (l N = false -> Rb u /\ (∀ s, noDst ops N s = true -> σ s = a0.eval (.tmp s)) /\ ∀ j d, j < N -> dstOf ops j = some d -> l j = true -> Φ j (σ d) u)) (fun _ _ => True) (fun _ _ _ => True) hordB hB (fun _ _ _ _ h _ => h) (fun _ => trivial) ⟨fun _ _ _ h _ => (by cases h), fun _ => ⟨h0, fun _ _ => rfl, fun _ _ _ _ h => (by cases h)⟩⟩ (fun vs σ u hR hvs _ => hend vs σ u (hR.1 (ops.size - 1) (by omega) (by omega) (by simp; omega) (.inl (by omega))) hvs) ?_ fuel l hs hc hl
 intro u i o ρ l hR ho hli hcl hρ hcn hf hdep hv
 have hi : i < ops.size := (Array.getElem?_eq_some_iff.1 ho).1
 by_cases e : i < N
 ·have hlt : ∀ t, N <= t -> t < ops.size -> l t = false := by
   intro t h1 h2
   cases h9 : l t with
   | false => rfl
   | true => have := reachB_l hcl _ t i (hre t h1 h2 i (by omega)) h9; rw [hli] at this; cases this
  obtain ⟨hb, hσ, hΦ⟩ := hR.2 (hlt N (Nat.le_refl _) hN)
  have hup : ∀ t, N <= t -> updB l i t = l t := fun t h1 => by unfold updB; rw [if_neg (by omega)]
  obtain ⟨d, hd⟩ := Option.isSome_iff_exists.1 (hds i e)
  have hod : o.dst = some d := by simpa [dstOf, ho] using hd
  have key : ∀ v u', Φ i v u' -> Below u.heap.size u u' -> (∀ t, N <= t -> t < ops.size -> updB l i t = true -> (t + 1 = ops.size \/ updB l i (t + 1) = false) -> E t (updS (fun s => ρ (.tmp s)) o.dst v) u') /\ (updB l i N = false -> Rb u' /\ (∀ s, noDst ops N s = true -> updS (fun s => ρ (.tmp s)) o.dst v s = a0.eval (.tmp s)) /\ ∀ j d, j < N -> dstOf ops j = some d -> updB l i j = true -> Φ j (updS (fun s => ρ (.tmp s)) o.dst v d) u') := by
   intro v u' h1 h2
   have hnd : ∀ s, noDst ops N s = true -> updS (fun s => ρ (.tmp s)) o.dst v s = a0.eval (.tmp s) := by
    intro s hs9
    have hne : s ≠ d := by
     rintro rfl
     unfold noDst at hs9
     rw [List.all_eq_true] at hs9
     have := hs9 i (List.mem_range.2 e)
     rw [hd] at this
     simp at this
    rw [hod]
    show (if s = d then v else ρ (.tmp s)) = _
    rw [if_neg hne]
    exact hσ s hs9
   refine ⟨fun t q1 q2 q3 _ => (by rw [hup t q1, hlt t q1 q2] at q3; cases q3), fun _ => ⟨hRb u u' hb h2, hnd, fun j d' hjN hj hl' => ?_⟩⟩
   by_cases ej : j = i
   ·subst ej
    rw [hd] at hj
    cases hj
    rw [hod]
    show Φ j (if d = d then v else _) u'
    rw [if_pos rfl]
    exact h1
   have hlj : l j = true := by unfold updB at hl'; rw [if_neg ej] at hl'; exact hl'
   have hne : d' ≠ d := fun q => ej ((dstC_of hB hi hd).2 j (dstOf_lt hj) (by rw [<- q]; exact hj))
   rw [hod]
   show Φ j (if d' = d then v else ρ (.tmp d')) u'
   rw [if_neg hne]
   exact hmono _ _ _ _ (hΦ j d' hjN hj hlj) h2
  rcases hstep u i o ρ e hb ho hσ hcn hf (fun e9 he hbd d9 hd9 => by
   have hl9 := hdep e9 he hbd
   by_cases q : e9.on < N
   ·exact hΦ e9.on d9 q hd9 hl9
   rw [hlt e9.on (by omega) (dstOf_lt hd9)] at hl9; cases hl9) with ⟨hw, h9⟩ | ⟨hw, h9⟩
  ·refine .inl ⟨hw, ?_⟩
   rcases h9 with ⟨v, u', hr, h1, h2⟩ | ⟨f, args, hr, hcall⟩
   ·exact .inl ⟨v, u', hr, trivial, key v u' h1 h2, trivial⟩
   refine .inr (.inl ⟨f, args, hr, hcall.mono ?_⟩)
   rintro e9 u' ⟨v, he, h1, h2⟩
   exact ⟨v, he, trivial, key v u' h1 h2, trivial⟩
  exact .inr ⟨hw, trivial, key undef u h9 (Below.refl _ _)⟩
 have hbef : ∀ j, j < i -> l j = true := fun j hj => reachB_d hcl ho hdep (by omega) (hre i (by omega) hi j hj)
 have haft : ∀ t, i < t -> t < ops.size -> l t = false := by
  intro t h1 h2
  cases h9 : l t with
  | false => rfl
  | true => have := reachB_l hcl _ t i (hre t (by omega) h2 i h1) h9; rw [hli] at this; cases this
 have hst : StpT P ops (E i) o ρ u := by
  by_cases eN : i = N
  ·subst eN
   obtain ⟨hb, hσ, hΦ⟩ := hR.2 hli
   exact hfirst u o ρ hb ho hσ hcn hf (fun j d hj hd => hΦ j d hj hd (hbef j hj))
  obtain ⟨i', rfl⟩ : ∃ i', i = i' + 1 := ⟨i - 1, by omega⟩
  exact htail u i' o ρ (by omega) ho (hR.1 i' (by omega) (by omega) (hbef i' (by omega)) (.inr hli)) hρ hcn hf
 have key : ∀ σ u', E i σ u' -> (∀ t, N <= t -> t < ops.size -> updB l i t = true -> (t + 1 = ops.size \/ updB l i (t + 1) = false) -> E t σ u') /\ (updB l i N = false -> Rb u' /\ (∀ s, noDst ops N s = true -> σ s = a0.eval (.tmp s)) /\ ∀ j d, j < N -> dstOf ops j = some d -> updB l i j = true -> Φ j (σ d) u') := by
  intro σ u' hE
  have hii : updB l i i = true := by unfold updB; rw [if_pos rfl]
  have hup : ∀ t, t ≠ i -> updB l i t = l t := fun t h1 => by unfold updB; rw [if_neg h1]
  refine ⟨fun t q1 q2 q3 q4 => ?_, fun q => ?_⟩
  ·rcases Nat.lt_trichotomy t i with q | q | q
   ·rcases q4 with q4 | q4
    ·omega
    by_cases q5 : t + 1 = i
    ·rw [q5, hii] at q4; cases q4
    rw [hup _ q5, hbef (t + 1) (by omega)] at q4; cases q4
   ·subst q; exact hE
   rw [hup t (by omega), haft t q q2] at q3; cases q3
  by_cases eN : N = i
  ·rw [eN, hii] at q; cases q
  rw [hup N eN, hbef N (by omega)] at q; cases q
 obtain ⟨hw, h9⟩ := hst
 refine .inl ⟨hw, ?_⟩
 rcases h9 with ⟨v, u', hr, hE⟩ | ⟨f, args, hr, hcall⟩ | ⟨hd, u', hr, hE⟩
 ·exact .inl ⟨v, u', hr, trivial, key _ u' hE, trivial⟩
 ·refine .inr (.inl ⟨f, args, hr, hcall.mono ?_⟩)
  rintro e9 u' ⟨v, he, hE⟩
  exact ⟨v, he, trivial, key _ u' hE, trivial⟩
 refine .inr (.inr ⟨hd, u', hr, ?_, trivial⟩)
 rw [hd]
 exact key _ u' hE
end Go.Proofs.YtplaoagcedgdfaaGreat
namespace Go.Proofs.YtplaoagcedgdfaaGreat
open Go.RowKit Go.Joins Go.Proofs.Tryz
theorem fl_app (F F2 : Nat -> List Value) (n : Nat) : ∀ m, (List.range n).flatMap F ++ (List.range m).flatMap F2 = (List.range (n + m)).flatMap (fun k => if k < n then F k else F2 (k - n))
 | 0 => by
  simp only [List.range_zero, List.flatMap_nil, List.append_nil, Nat.add_zero]
  rw [List.flatMap_def, List.flatMap_def]
  congr 1
  exact List.map_congr_left fun i hi => by rw [if_pos (List.mem_range.1 hi)]
 | m + 1 => by
  have ih := fl_app F F2 n m
  rw [<- Nat.add_assoc, List.range_succ (n := m), List.range_succ (n := n + m), List.flatMap_append, List.flatMap_append, <- List.append_assoc, ih]
  simp
  intro h
  omega
def LsS (w0 w : World) (e : TypeId) (s : Nat) (v : Value) (n : Nat) (f : Nat -> List Tr) : Prop :=
 ∃ F : Nat -> List Value, w.ownsRow w0.heap.size e s v n ((List.range n).flatMap F) /\ ∀ k, k < n -> (F k).length = s /\ RdL w0 0 (trs (f k)) (F k)
section
variable {w0 w w' : World} {e : TypeId} {s n : Nat} {v : Value} {f : Nat -> List Tr}
theorem LsS.kept {row : Option Nat} (h : LsS w0 w e s v n f) (hg : w.grownBy w' row) (hr : v.ownBlock = none \/ v.ownBlock ≠ row) : LsS w0 w' e s v n f := by
 obtain ⟨F, h1, h2⟩ := h
 exact ⟨F, World.ownsRow.kept h1 hg hr, h2⟩
theorem LsS.lt (h : LsS w0 w e s v n f) {k : Nat} (hk : v.ownBlock = some k) : w0.heap.size <= k /\ k < w.heap.size := by
 obtain ⟨F, h1, h2⟩ := h
 exact World.ownsRow.lt h1 k hk
theorem LsS.below (h : LsS w0 w e s v n f) (hb : Below w.heap.size w w') : LsS w0 w' e s v n f := by
 refine h.kept (grown_below hb (some w.heap.size)) ?_
 cases e1 : v.ownBlock with
 | none => exact .inl rfl
 | some k => exact .inr (fun e2 => by have := (h.lt e1).2; simp at e2; omega)
theorem LsS.congr {f' : Nat -> List Tr} (h : LsS w0 w e s v n f) (he : ∀ k, k < n -> f k = f' k) : LsS w0 w e s v n f' := by
 obtain ⟨F, h1, h2⟩ := h
 exact ⟨F, h1, fun k hk => by rw [<- he k hk]; exact h2 k hk⟩
theorem LsS.at (h : LsS w0 w e s v n f) {k : Nat} (hk : k < n) : ∃ g c vs, v = .slice (some ⟨g, 0, none⟩) n c /\ w0.heap.size <= g /\ g < w.heap.size /\ vs.length = s /\ w.rangeAt g (k * s) vs /\ RdL w0 0 (trs (f k)) vs := by
 obtain ⟨F, h1, h2⟩ := h
 rcases h1.2 with ⟨rfl, rfl⟩ | ⟨g, cap, cur, rfl, hb, hh, hle, hm, hs, ht⟩
 ·omega
 have hlt : g < w.heap.size := (Array.getElem?_eq_some_iff.1 hh).1
 refine ⟨g, cap, F k, rfl, hb, hlt, (h2 k hk).1, fun j u hj => ?_, (h2 k hk).2⟩
 have hj6 : j < s := by have := (List.getElem?_eq_some_iff.1 hj).1; rw [(h2 k hk).1] at this; exact this
 have hkl : k * s + j < n * s := by
  have : (k + 1) * s <= n * s := Nat.mul_le_mul_right s hk
  rw [Nat.add_mul, Nat.one_mul] at this
  omega
 rw [<- hj, <- fl_at F s n (fun k hk => (h2 k hk).1) k j hk hj6, <- ht, List.getElem?_take, if_pos hkl, Array.getElem?_toList]
 simp [World.cell?, hh]
theorem LsS.shape (h : LsS w0 w e s v n f) : ∃ a c, v = .slice a n c /\ n <= c /\ c <= maxLen := by
 obtain ⟨F, h1, h2⟩ := h
 rcases h1.2 with ⟨rfl, rfl⟩ | ⟨g, cap, cur, rfl, hb, hh, hle, hm, hs, ht⟩
 ·exact ⟨none, 0, rfl, Nat.le_refl _, Nat.zero_le _⟩
 exact ⟨_, cap, rfl, hle, hm⟩
end
theorem updS_eqS {σ : Nat -> Value} {d : Nat} {v : Value} : updS σ (some d) v d = v := by show (if d = d then v else σ d) = v; rw [if_pos rfl]
theorem run_app_s {P : Program} {ρ : Operand -> Value} {o : Oper} {w w' : World} {s x : Operand} {t : TypeId} {v1 v2 v : Value} (ho : o.op = .call { callee := .builtin .append, args := #[s, x], argTypes := #[t, t] }) (hs : ρ s = v1) (hx : ρ x = v2) (hr : (Builtin.append_ #[t, t] o.type #[v1, v2]).run P w = .ok v w') : (execOp ρ o).run P w = .ok (.value v) w' := by
 unfold execOp
 simp only [ho, resolve, invoke, builtin, Sem.run_bind, Sem.run_pure, Result.andThen_ok, List.map_toArray, List.map_cons, List.map_nil, hs, hx, hr]
theorem run_asg_s {P : Program} {ρ : Operand -> Value} {o : Oper} {u : World} {x : Operand} {v : Value} (ho : o.op = .assign x) (hx : ρ x = v) : (execOp ρ o).run P u = .ok (.value v) u := by
 unfold execOp
 simp only [ho, hx]
 rfl
theorem run_mu_s {P : Program} {ρ : Operand -> Value} {o : Oper} {u u' : World} {t : TypeId} {m k v : Operand} {vm vk vv : Value} (ho : o.op = .mapUpdate t m k v) (hm : ρ m = vm) (hk : ρ k = vk) (hv : ρ v = vv) (hr : (Instr.mapUpdate t vm vk vv).run P u = .ok () u') : (execOp ρ o).run P u = .ok .skip u' := by
 unfold execOp
 simp only [ho, hm, hk, hv]
 rw [Sem.run_bind, hr]
 rfl
theorem run_bs1C (X : VL) (b1 : Option Addr) (l1 d1 : Nat) (b2 : Option Addr) (l2 d2 : Nat) (w : World) : (Instr.buildSlice 79 1 #[(0, .agg (xlL X b1 l1 d1 b2 l2 d2).toArray)]).run prog w = .ok (.slice (some ⟨w.heap.size, 0, none⟩) 1 1) (w.alloc (.cells (xlL X b1 l1 d1 b2 l2 d2).toArray 86)) := by kernel_rfl
theorem one_xl {w : World} {X : VL} {vs : List Value} (h : RdL w 0 (trs (xlT X)) vs) (hl : vs.length = 9) : ∀ u ∈ vs, u.oneCell' = true := by
 obtain ⟨a1, c1, a2, c2, rfl, _⟩ := VL.cells h hl
 intro u hu
 simp at hu
 rcases hu with rfl | rfl | rfl | rfl | rfl | rfl | rfl | rfl | rfl <;> rfl
theorem LsS.app {w0 w : World} {e : TypeId} {s n : Nat} {v : Value} {f : Nat -> List Tr} (h : LsS w0 w e s v n f) (ty t : TypeId) (by' : Nat) (z : Value)
 (ht : prog.underlying t = some (.slice e)) (hinfo : (prog.info? e).map (fun i => (i.zero, i.size, i.bytes)) = some (some z, s, by')) (hzs : z.cells.size = s) (hsz : 0 < s) (hby : by' <= 10000)
 (a : Option Addr) (m c : Nat) (f2 : Nat -> List Tr) (hr : Rd w0 0 (.list s m (fun i => trs (f2 i))) (.slice a m c)) (hb : Below w0.heap.size w0 w)
 (hone : ∀ k, k < m -> ∀ vs : List Value, RdL w0 0 (trs (f2 k)) vs -> vs.length = s -> ∀ u ∈ vs, u.oneCell' = true) (hn : n <= 2000000) (hm : m <= 2000000) :
 ∃ v' w', (Builtin.append_ #[t, t] ty #[v, .slice a m c]).run prog w = .ok v' w' /\ LsS w0 w' e s v' (n + m) (fun i => if i < n then f i else f2 (i - n)) /\ Below w0.heap.size w0 w' /\ w.grownBy w' v.ownBlock /\ (v'.ownBlock = v.ownBlock \/ v'.ownBlock = some w.heap.size) := by
 obtain ⟨F, r1, r2⟩ := h
 obtain ⟨i0, hi, hzz⟩ := Option.map_eq_some_iff.1 hinfo
 simp only [Prod.mk.injEq] at hzz
 obtain ⟨hz0, hz1, hz2⟩ := hzz
 obtain ⟨a', c', h1, h2, h3, h4⟩ := hr
 simp only [Value.slice.injEq] at h1
 obtain ⟨rfl, -, rfl⟩ := h1
 by_cases e0 : m = 0
 ·subst e0
  have hL : LsS w0 w e s v (n + 0) (fun i => if i < n then f i else f2 (i - n)) := ⟨F, r1, fun k hk => by simp only [if_pos (show k < n from hk)]; exact r2 k hk⟩
  obtain ⟨ba, bc, hv, hle, hmx⟩ := LsS.shape ⟨F, r1, r2⟩
  cases a with
  | none =>
   subst hv
   exact ⟨_, w, run_append_nothing w t t ty e i0 ht hi ba n bc hle _ (Src.ofNil w ht c), hL, hb, ⟨rfl, rfl, rfl, Nat.le_refl _, fun _ _ _ => rfl⟩, .inl rfl⟩
  | some ad =>
   obtain ⟨v', w', hrun, k1, k2, _, k4⟩ := run_append_own_at w w0.heap.size t ty e i0 z s by' ht hi hz0 hz1 hz2 hzs hsz v n ((List.range n).flatMap F) r1 ad 0 c [] (by simp) (fun j u hu => by simp at hu) (fun u hu => by simp at hu) (by unfold maxLen; omega) (by have : (n + 0) * by' <= 2000001 * 10000 := Nat.mul_le_mul (by omega) hby; omega) hb.size
   refine ⟨v', w', hrun, ⟨F, by rw [List.append_nil] at k1; exact k1, fun k hk => by simp only [if_pos (show k < n from hk)]; exact r2 k hk⟩, hb.grown k2 hb.size (fun j hj => (World.ownsRow.lt r1 j hj).1), k2, k4⟩
 rcases h4 with h4 | ⟨g, off, F2, ha, hlo, hgs, hc⟩
 ·exact absurd h4 e0
 subst ha
 have hF2 : ∀ k, k < m -> (F2 k).length = s /\ RdL w0 0 (trs (f2 k)) (F2 k) := fun k hk => ⟨(hc k hk).1, fun j u hu => ((hc k hk).2 j u hu).2⟩
 have hfl : ((List.range m).flatMap F2).length = m * s := fl_len F2 s m (fun k hk => (hc k hk).1)
 obtain ⟨v', w', hrun, k1, k2, _, k4⟩ := run_append_own_at w w0.heap.size t ty e i0 z s by' ht hi hz0 hz1 hz2 hzs hsz v n ((List.range n).flatMap F) r1 ⟨g, off, none⟩ m c ((List.range m).flatMap F2) hfl (fun j u hu => by
  have e1 : (⟨g, off, none⟩ : Addr).add j = ⟨g, off + j, none⟩ := by unfold Addr.add; split <;> simp_all
  rw [e1]
  have hj : j < m * s := by rw [<- hfl]; exact (List.getElem?_eq_some_iff.1 hu).1
  have hq : j / s < m := Nat.div_lt_of_lt_mul (by rw [Nat.mul_comm]; exact hj)
  have hr : j % s < s := Nat.mod_lt _ hsz
  have ej : j = j / s * s + j % s := by rw [Nat.mul_comm]; exact (Nat.div_add_mod j s).symm
  rw [ej] at hu ⊢
  rw [fl_at F2 s m (fun k hk => (hc k hk).1) _ _ hq hr] at hu
  rw [<- Nat.add_assoc]
  exact (hb.cell (p := ⟨g, off + j / s * s + j % s, none⟩) hgs).trans ((hc _ hq).2 _ u hu).1) (fun u hu => by
  obtain ⟨k, hk, hu⟩ := List.mem_flatMap.1 hu
  exact hone k (List.mem_range.1 hk) _ (hF2 k (List.mem_range.1 hk)).2 (hF2 k (List.mem_range.1 hk)).1 u hu) (by unfold maxLen; omega) (by have : (n + m) * by' <= 4000001 * 10000 := Nat.mul_le_mul (by omega) hby; omega) hb.size
 refine ⟨v', w', hrun, ⟨fun k => if k < n then F k else F2 (k - n), by rw [<- fl_app]; exact k1, fun k hk => ?_⟩, hb.grown k2 hb.size (fun j hj => (World.ownsRow.lt r1 j hj).1), k2, k4⟩
 by_cases e : k < n
 ·simp only [if_pos e]; exact r2 k e
 simp only [if_neg e]; exact hF2 (k - n) (by omega)
theorem LsS.app1 {w0 w : World} {e : TypeId} {s n : Nat} {v : Value} {f : Nat -> List Tr} (h : LsS w0 w e s v n f) (ty t : TypeId) (by' : Nat) (z : Value)
 (ht : prog.underlying t = some (.slice e)) (hinfo : (prog.info? e).map (fun i => (i.zero, i.size, i.bytes)) = some (some z, s, by')) (hzs : z.cells.size = s) (hsz : 0 < s) (hby : by' <= 10000)
 (g c : Nat) (vs : List Value) (hl : vs.length = s) (hc : ∀ j u, vs[j]? = some u -> w.cell? ⟨g, j, none⟩ = some u) (hr : RdL w0 0 (trs (f n)) vs) (hb : Below w0.heap.size w0 w)
 (hone : ∀ u ∈ vs, u.oneCell' = true) (hn : n <= 2000000) :
 ∃ v' w', (Builtin.append_ #[t, t] ty #[v, .slice (some ⟨g, 0, none⟩) 1 c]).run prog w = .ok v' w' /\ LsS w0 w' e s v' (n + 1) f /\ Below w0.heap.size w0 w' /\ w.grownBy w' v.ownBlock /\ (v'.ownBlock = v.ownBlock \/ v'.ownBlock = some w.heap.size) := by
 obtain ⟨F, r1, r2⟩ := h
 obtain ⟨i0, hi, hzz⟩ := Option.map_eq_some_iff.1 hinfo
 simp only [Prod.mk.injEq] at hzz
 obtain ⟨hz0, hz1, hz2⟩ := hzz
 obtain ⟨v', w', hrun, k1, k2, _, k4⟩ := run_append_own_at w w0.heap.size t ty e i0 z s by' ht hi hz0 hz1 hz2 hzs hsz v n ((List.range n).flatMap F) r1 ⟨g, 0, none⟩ 1 c vs (by rw [hl]; simp) (fun j u hu => by
  have e1 : (⟨g, 0, none⟩ : Addr).add j = ⟨g, j, none⟩ := by unfold Addr.add; split <;> simp_all
  rw [e1]
  exact hc j u hu) hone (by unfold maxLen; omega) (by have : (n + 1) * by' <= 2000001 * 10000 := Nat.mul_le_mul (by omega) hby; omega) hb.size
 refine ⟨v', w', hrun, ⟨fun k => if k = n then vs else F k, by rw [fl_push]; exact k1, fun k hk => ?_⟩, hb.grown k2 hb.size (fun j hj => (World.ownsRow.lt r1 j hj).1), k2, k4⟩
 by_cases e : k = n
 ·subst e
  simp only [if_true]
  exact ⟨hl, hr⟩
 simp only [if_neg e]
 exact r2 k (by omega)
theorem LsS.one {w0 : World} {u : World} {e : TypeId} {s : Nat} {f : Nat -> List Tr} {vs : List Value} (hl : vs.length = s) (hr : RdL w0 0 (trs (f 0)) vs) (hb : w0.heap.size <= u.heap.size) : LsS w0 (u.alloc (.cells vs.toArray e)) e s (.slice (some ⟨u.heap.size, 0, none⟩) 1 1) 1 f := by
 have hfl : (List.range 1).flatMap (fun _ : Nat => vs) = vs := by simp [List.range_succ]
 refine ⟨fun _ => vs, ⟨by rw [hfl, hl]; simp, .inr ⟨u.heap.size, 1, vs.toArray, rfl, hb, Blk.new u vs.toArray e, Nat.le_refl _, by unfold maxLen; omega, by simp [hl], by rw [hfl]; subst hl; simp⟩⟩, fun k hk => ?_⟩
 have : k = 0 := by omega
 subst this
 exact ⟨hl, hr⟩
theorem LsS.new (w0 u : World) (e : TypeId) (s : Nat) (f : Nat -> List Tr) (hb : w0.heap.size <= u.heap.size) : LsS w0 (u.alloc (.cells #[] e)) e s (.slice (some ⟨u.heap.size, 0, none⟩) 0 0) 0 f :=
 ⟨fun _ => [], ⟨by simp, .inr ⟨u.heap.size, 0, #[], rfl, hb, Blk.new u #[] e, by simp, by simp, by simp, by simp⟩⟩, fun k hk => absurd hk (Nat.not_lt_zero _)⟩
def LsC (w0 : World) (lo : Nat) (w : World) (s : Nat) (v : Value) (n : Nat) (f : Nat -> List Tr) : Prop :=
 ∃ a c, v = .slice a n c /\ n <= c /\ (n = 0 \/ ∃ (g off : Nat) (F : Nat -> List Value), a = some ⟨g, off, none⟩ /\ g < w.heap.size /\ (g < w0.heap.size \/ lo <= g) /\ ∀ k, k < n -> (F k).length = s /\ w.rangeAt g (off + k * s) (F k) /\ RdL w0 0 (trs (f k)) (F k))
section
variable {w0 w w' : World} {lo s n : Nat} {v : Value} {f : Nat -> List Tr}
theorem LsC.old (h : Rd w0 0 (.list s n (fun i => trs (f i))) v) (hb : Below w0.heap.size w0 w) : LsC w0 lo w s v n f := by
 obtain ⟨a, c, h1, h2, h3, h4⟩ := h
 refine ⟨a, c, h1, h2, ?_⟩
 rcases h4 with h4 | ⟨g, off, F, ha, hlo, hgs, hc⟩
 ·exact .inl h4
 exact .inr ⟨g, off, F, ha, Nat.lt_of_lt_of_le hgs hb.size, .inl hgs, fun k hk => ⟨(hc k hk).1, fun j u hu => (hb.cell (p := ⟨g, off + k * s + j, none⟩) hgs).trans ((hc k hk).2 j u hu).1, fun j u hu => ((hc k hk).2 j u hu).2⟩⟩
theorem LsC.own {e : TypeId} (h : LsS w0 w e s v n f) (hl : ∀ k, v.ownBlock = some k -> lo <= k) : LsC w0 lo w s v n f := by
 obtain ⟨a, c, rfl, hle, _⟩ := h.shape
 refine ⟨a, c, rfl, hle, ?_⟩
 obtain ⟨F, h1, h2⟩ := h
 by_cases e0 : n = 0
 ·exact .inl e0
 obtain ⟨g, c', vs, e1, hg, hgs, _⟩ := LsS.at ⟨F, h1, h2⟩ (k := 0) (by omega)
 simp only [Value.slice.injEq] at e1
 obtain ⟨rfl, -, rfl⟩ := e1
 refine .inr ⟨g, 0, fun k => F k, rfl, hgs, .inr (hl g rfl), fun k hk => ?_⟩
 rcases h1.2 with ⟨e9, _⟩ | ⟨g', cap, cur, e9, hb, hh, hle, hm, hs, ht⟩
 ·simp at e9
 simp only [Value.slice.injEq, Option.some.injEq, Addr.mk.injEq] at e9
 obtain ⟨⟨rfl, -, -⟩, -, -⟩ := e9
 refine ⟨(h2 k hk).1, fun j u hj => ?_, (h2 k hk).2⟩
 have hj6 : j < s := by have := (List.getElem?_eq_some_iff.1 hj).1; rw [(h2 k hk).1] at this; exact this
 have hkl : k * s + j < n * s := by
  have : (k + 1) * s <= n * s := Nat.mul_le_mul_right s hk
  rw [Nat.add_mul, Nat.one_mul] at this
  omega
 rw [<- hj, <- fl_at F s n (fun k hk => (h2 k hk).1) k j hk hj6, <- ht, List.getElem?_take, if_pos hkl, Array.getElem?_toList]
 simp [World.cell?, hh]
theorem LsC.kept {row : Option Nat} (h : LsC w0 lo w s v n f) (hg : w.grownBy w' row) (hr : ∀ k, row = some k -> w0.heap.size <= k /\ k < lo) : LsC w0 lo w' s v n f := by
 obtain ⟨a, c, h1, h2, h4⟩ := h
 refine ⟨a, c, h1, h2, ?_⟩
 rcases h4 with h4 | ⟨g, off, F, ha, hgs, hlo, hc⟩
 ·exact .inl h4
 refine .inr ⟨g, off, F, ha, Nat.lt_of_lt_of_le hgs hg.size, hlo, fun k hk => ⟨(hc k hk).1, fun j u hu => ?_, (hc k hk).2.2⟩⟩
 rw [<- (hc k hk).2.1 j u hu]
 exact World.cell?_of_block (a := ⟨g, off + k * s + j, none⟩) (hg.block g hgs (fun e => by
  cases row with
  | none => cases e
  | some r => have := hr r rfl; have := Option.some.inj e; omega))
theorem LsC.below (h : LsC w0 lo w s v n f) (hb : Below w.heap.size w w') : LsC w0 lo w' s v n f := by
 obtain ⟨a, c, h1, h2, h4⟩ := h
 refine ⟨a, c, h1, h2, ?_⟩
 rcases h4 with h4 | ⟨g, off, F, ha, hgs, hlo, hc⟩
 ·exact .inl h4
 exact .inr ⟨g, off, F, ha, Nat.lt_of_lt_of_le hgs hb.size, hlo, fun k hk => ⟨(hc k hk).1, rangeAt_below (hc k hk).2.1 hgs hb, (hc k hk).2.2⟩⟩
theorem LsC.at {a : Option Addr} {m c k : Nat} (h : LsC w0 lo w s (.slice a m c) n f) (hk : k < n) : ∃ g off vs, a = some ⟨g, off, none⟩ /\ g < w.heap.size /\ vs.length = s /\ w.rangeAt g (off + k * s) vs /\ RdL w0 0 (trs (f k)) vs := by
 obtain ⟨a', c', h1, h2, h4⟩ := h
 simp only [Value.slice.injEq] at h1
 rcases h4 with h4 | ⟨g, off, F, ha, hgs, hlo, hc⟩
 ·omega
 exact ⟨g, off, F k, by rw [h1.1, ha], hgs, (hc k hk).1, (hc k hk).2.1, (hc k hk).2.2⟩
end
def LnAt (w : World) (g o : Nat) (N : VN) : Prop := g < w.heap.size /\ ∃ vs, vs.length = 17 /\ w.rangeAt g o vs /\ RdL w 0 (trs (xnT N)) vs
def lcX (N : VN) (k : Nat) : VL := (lcV N).getD k default
theorem lcX_busy {N : VN} (h : N.bz = true) {i : Nat} (hi : i < 1 + N.nq) : (if i < 1 then xlT N.c else xlT (N.qf (i - 1))) = xlT (lcX N i) := by
 unfold lcX
 rw [List.getD_eq_getElem?_getD]
 by_cases e : i < 1
 ·have e0 : i = 0 := by omega
  subst e0
  rw [lcV_0_busy h]
  rfl
 obtain ⟨j, rfl⟩ : ∃ j, i = j + 1 := ⟨i - 1, by omega⟩
 rw [if_neg e, lcV_at_busy h (by omega)]
 rfl
theorem lcX_idle {N : VN} (h : N.bz = false) {i : Nat} (hi : i < N.nq) : xlT (N.qf i) = xlT (lcX N i) := by
 unfold lcX
 rw [List.getD_eq_getElem?_getD, lcV_at_idle h hi]
 rfl
theorem VL.back9 {w : World} {lo : Nat} {X : VL} {a1 : Option Addr} {l1 c1 : Nat} {a2 : Option Addr} {l2 c2 : Nat} (r1 : Rd w lo (intsT X.q.ws) (.slice a1 l1 c1)) (r2 : Rd w lo (boolsT X.q.bs) (.slice a2 l2 c2)) : RdL w lo (trs (xlT X)) (xlL X a1 l1 c1 a2 l2 c2) := VL.back r1 r2
theorem calls_any (N : VN) (g o : Nat) (w0 w : World) (hb : Below w0.heap.size w0 w) (h : LnAt w0 g o N) (hn : N.nq <= 2000000) :
 Calls prog 61 #[.pointer (some ⟨g, o, none⟩)] w fun e w' => ∃ v, e = .returned v /\ LsC w0 w.heap.size w' 9 v (lcV N).length (fun i => xlT (lcX N i)) /\ Below w.heap.size w w' := by
 obtain ⟨hg, vs, hl, hr, hd⟩ := h
 obtain ⟨a1, c1, e1, k1, e2, k2, rfl, q1, q2, q3⟩ := VN.cells hd hl
 have hg2 := Nat.lt_of_lt_of_le hg hb.size
 have hr2 := rangeAt_below hr hg hb
 have y0 : w.cell? ⟨g, o, none⟩ = some (.slice a1 N.nq c1) := hr2 0 _ rfl
 have y1 : w.cell? ⟨g, o + 1, none⟩ = some (.bool N.bz) := hr2 1 _ rfl
 have HE : Hid (Below w0.heap.size w0 w /\ g < w.heap.size /\ w.rangeAt g o (xnL N a1 N.nq c1 e1 N.c.q.ws.length k1 e2 N.c.q.bs.length k2) /\ Rd w0 0 (.list 9 N.nq (fun i => trs (xlT (N.qf i)))) (.slice a1 N.nq c1) /\ RdL w0 0 (trs (xlT N.c)) (xlL N.c e1 N.c.q.ws.length k1 e2 N.c.q.bs.length k2) /\ N.nq <= 2000000) := ⟨hb, hg2, hr2, q1, VL.back9 q2 q3, hn⟩
 clear hd hl q1 q2 q3 hr hr2 hg hg2 hb
 obtain ⟨bz, hbz⟩ : ∃ b, N.bz = b := ⟨_, rfl⟩
 cases bz
 case false =>
  rw [hbz] at y1
  have HN : Hid (N.bz = false) := hbz
  clear hbz
  go_enter func61, ntmps61
  go_wp2
  go_ret
  exact ⟨_, rfl, (by rw [lcV_len, HN.out]; exact LsC.old (by simpa using HE.out.2.2.2.1.congr (fun i hi => by rw [lcX_idle HN.out hi])) HE.out.1), Below.refl _ _⟩
 rw [hbz] at y1
 go_enter func61, ntmps61
 go_upto_region 3 with fail
 clear y0 y1
 try go_simp
 refine wp_region_any (by kernel_rfl) ?_
 refine wpAny_tl 9 (fun u => Below w.heap.size w u) (fun j σ u => match j with
  | 9 => ∃ v, σ 21 = v /\ LsS w0 u 86 9 v (1 + N.nq) (fun i => if i < 1 then xlT N.c else xlT (N.qf (i - 1))) /\ (∀ k, v.ownBlock = some k -> w.heap.size <= k) /\ Below w.heap.size w u
  | _ => ∃ v, σ 2 = v /\ LsS w0 u 86 9 v (1 + N.nq) (fun i => if i < 1 then xlT N.c else xlT (N.qf (i - 1))) /\ (∀ k, v.ownBlock = some k -> w.heap.size <= k) /\ Below w.heap.size w u) (fun i v u => match i with
  | 0 => v = .pointer (some ⟨g, o, none⟩)
  | 1 => v = .pointer (some ⟨g, o, none⟩)
  | 2 => v = .pointer (some ⟨g, o + 2, none⟩)
  | 3 => v = .agg ([.int .i64 N.c.id, .int .i64 N.c.pa, .int .i64 N.c.un, .int .i64 N.c.q.kd, .int .i64 N.c.q.pl, .int .i64 N.c.q.n, .slice e1 N.c.q.ws.length k1, .slice e2 N.c.q.bs.length k2, .int .i64 N.c.q.wa]).toArray
  | 4 => LsS w0 u 86 9 v 1 (fun _ => xlT N.c) /\ ∀ k, v.ownBlock = some k -> w.heap.size <= k
  | 5 => v = .pointer (some ⟨g, o, none⟩)
  | 6 => v = .pointer (some ⟨g, o, none⟩)
  | 7 => v = .pointer (some ⟨g, o, none⟩)
  | 8 => v = .slice a1 N.nq c1
  | _ => True) (by kernel_rfl) (by kernel_rfl) (by decide) (by kernel_rfl) (fun u u' h hb => bel_nx h hb) ?_ (by first | exact Below.refl _ _ | exact (Below.refl _ _).drew) ?_ ?_ ?_ ?_ _ _ rfl (by decide) (fun i => by simp [Array.getD]; try (split <;> rfl))
 ·intro i v u u' h hb
  match i, h with
  | 0, h => exact h
  | 1, h => exact h
  | 2, h => exact h
  | 3, h => exact h
  | 4, ⟨h1, h2⟩ => exact ⟨h1.below hb, h2⟩
  | 5, h => exact h
  | 6, h => exact h
  | 7, h => exact h
  | 8, h => exact h
  | _ + 9, _ => trivial
 rotate_left
 ·intro u i o ρ hi hR ho hρ hc hf hd
  obtain rfl | rfl | rfl | rfl | rfl | rfl | rfl | rfl | rfl : i = 0 \/ i = 1 \/ i = 2 \/ i = 3 \/ i = 4 \/ i = 5 \/ i = 6 \/ i = 7 \/ i = 8 := by omega
  all_goals (simp only [List.getElem?_toArray, List.getElem?_cons_zero, List.getElem?_cons_succ, Option.some.injEq] at ho; subst ho)
  ·have s0 : ρ (.tmp 0) = .pointer (some ⟨g, o, none⟩) := (hρ 0 (by kernel_rfl)).trans rfl
   exact .inl ⟨rfl, .inl ⟨_, u, rfl, s0, Below.refl _ _⟩⟩
  ·have h0 : ρ (.tmp 12) = .pointer (some ⟨g, o, none⟩) := dq hd 0 12
   exact .inl ⟨rfl, .inl ⟨.pointer (some ⟨g, o, none⟩), u, run_nilz rfl h0, rfl, Below.refl _ _⟩⟩
  ·have h1 : ρ (.tmp 13) = .pointer (some ⟨g, o, none⟩) := dq hd 1 13
   exact .inl ⟨rfl, .inl ⟨.pointer (some ⟨g, o + 2, none⟩), u, run_field_op rfl h1 (by go_simp), rfl, Below.refl _ _⟩⟩
  ·have h2 : ρ (.tmp 14) = .pointer (some ⟨g, o + 2, none⟩) := dq hd 2 14
   have hr : (Instr.loadAt 86 (.pointer (some ⟨g, o + 2, none⟩))).run prog u = .ok (.agg ([.int .i64 N.c.id, .int .i64 N.c.pa, .int .i64 N.c.un, .int .i64 N.c.q.kd, .int .i64 N.c.q.pl, .int .i64 N.c.q.n, .slice e1 N.c.q.ws.length k1, .slice e2 N.c.q.bs.length k2, .int .i64 N.c.q.wa]).toArray) u := run_loadAt_mid u g (o + 2) 86 ([.int .i64 N.c.id, .int .i64 N.c.pa, .int .i64 N.c.un, .int .i64 N.c.q.kd, .int .i64 N.c.q.pl, .int .i64 N.c.q.n, .slice e1 N.c.q.ws.length k1, .slice e2 N.c.q.bs.length k2, .int .i64 N.c.q.wa]) _ (rangeAt_mid [.slice a1 N.nq c1, .bool N.bz] [.int .i64 N.c.id, .int .i64 N.c.pa, .int .i64 N.c.un, .int .i64 N.c.q.kd, .int .i64 N.c.q.pl, .int .i64 N.c.q.n, .slice e1 N.c.q.ws.length k1, .slice e2 N.c.q.bs.length k2, .int .i64 N.c.q.wa] [.int .i64 N.nu, .int .i64 N.du, .int .i64 N.le, .int .i64 N.nx, .int .i64 N.wt, .int .i64 N.tr] (rangeAt_below HE.out.2.2.1 HE.out.2.1 hR) rfl) underlying86 rfl (by kernel_rfl)
   exact .inl ⟨rfl, .inl ⟨.agg ([.int .i64 N.c.id, .int .i64 N.c.pa, .int .i64 N.c.un, .int .i64 N.c.q.kd, .int .i64 N.c.q.pl, .int .i64 N.c.q.n, .slice e1 N.c.q.ws.length k1, .slice e2 N.c.q.bs.length k2, .int .i64 N.c.q.wa]).toArray, u, run_load_op rfl h2 hr, rfl, Below.refl _ _⟩⟩
  ·have h3 : ρ (.tmp 15) = .agg ([.int .i64 N.c.id, .int .i64 N.c.pa, .int .i64 N.c.un, .int .i64 N.c.q.kd, .int .i64 N.c.q.pl, .int .i64 N.c.q.n, .slice e1 N.c.q.ws.length k1, .slice e2 N.c.q.bs.length k2, .int .i64 N.c.q.wa]).toArray := dq hd 3 15
   exact .inl ⟨rfl, .inl ⟨_, _, run_build_op rfl (qs := #[(0, .agg (xlL N.c e1 N.c.q.ws.length k1 e2 N.c.q.bs.length k2).toArray)]) (by simp [h3]) (run_bs1C N.c e1 _ k1 e2 _ k2 u), ⟨LsS.one (vs := xlL N.c e1 N.c.q.ws.length k1 e2 N.c.q.bs.length k2) (f := fun _ => xlT N.c) rfl HE.out.2.2.2.2.1 (Nat.le_trans HE.out.1.size hR.size), fun k hk => by obtain rfl := Option.some.inj hk; exact hR.size⟩, bel_alloc _ _⟩⟩
  ·have s0 : ρ (.tmp 0) = .pointer (some ⟨g, o, none⟩) := (hρ 0 (by kernel_rfl)).trans rfl
   exact .inl ⟨rfl, .inl ⟨_, u, rfl, s0, Below.refl _ _⟩⟩
  ·have h5 : ρ (.tmp 17) = .pointer (some ⟨g, o, none⟩) := dq hd 5 17
   exact .inl ⟨rfl, .inl ⟨.pointer (some ⟨g, o, none⟩), u, run_nilz rfl h5, rfl, Below.refl _ _⟩⟩
  ·have h6 : ρ (.tmp 18) = .pointer (some ⟨g, o, none⟩) := dq hd 6 18
   exact .inl ⟨rfl, .inl ⟨.pointer (some ⟨g, o, none⟩), u, run_field_op rfl h6 (by go_simp), rfl, Below.refl _ _⟩⟩
  have h7 : ρ (.tmp 19) = .pointer (some ⟨g, o, none⟩) := dq hd 7 19
  have y9 : u.cell? ⟨g, o, none⟩ = some (.slice a1 N.nq c1) := (rangeAt_below HE.out.2.2.1 HE.out.2.1 hR) 0 _ rfl
  have hr : (Instr.loadAt 79 (.pointer (some ⟨g, o, none⟩))).run prog u = .ok (.slice a1 N.nq c1) u := by go_simp
  exact .inl ⟨rfl, .inl ⟨.slice a1 N.nq c1, u, run_load_op rfl h7 hr, rfl, Below.refl _ _⟩⟩
 ·intro u o ρ hR ho hρ hc hf hv
  simp only [List.getElem?_toArray, List.getElem?_cons_zero, List.getElem?_cons_succ, Option.some.injEq] at ho
  subst ho
  obtain ⟨o1, o2⟩ : LsS w0 u 86 9 (ρ (.tmp 16)) 1 (fun _ => xlT N.c) /\ ∀ k, (ρ (.tmp 16)).ownBlock = some k -> w.heap.size <= k := hv 4 16 (by decide) rfl
  have h8 : ρ (.tmp 20) = .slice a1 N.nq c1 := hv 8 20 (by decide) rfl
  have bb := bel_nx HE.out.1 hR
  obtain ⟨v', w', hrun, l1, l2, l3, l4⟩ := o1.app 79 79 104 (.agg #[.int .i64 0, .int .i64 0, .int .i64 0, .int .i64 0, .int .i64 0, .int .i64 0, .slice none 0 0, .slice none 0 0, .int .i64 0]) underlying79 (by kernel_rfl) rfl (by decide) (by decide) a1 N.nq c1 (fun i => xlT (N.qf i)) HE.out.2.2.2.1 bb (fun k hk vs h1 h2 => one_xl (w := w0) h1 h2) (by decide) HE.out.2.2.2.2.2
  exact ⟨rfl, .inl ⟨_, w', run_app_s rfl rfl h8 hrun, v', updS_eqS, l1, (fun k hk => by rcases l4 with l4 | l4 <;> rw [l4] at hk; exact o2 k hk; obtain rfl := Option.some.inj hk; exact hR.size), hR.grown l3 hR.size o2⟩⟩
 ·intro u i o ρ hi ho hE hρ hc hf
  have hi2 : i + 1 < 11 := by
   have := (Array.getElem?_eq_some_iff.1 ho).1
   simpa using this
  obtain rfl : i = 9 := by omega
  all_goals (simp only [List.getElem?_toArray, List.getElem?_cons_zero, List.getElem?_cons_succ, Option.some.injEq] at ho; subst ho)
  obtain ⟨v, e1, L'⟩ := hE
  have e1' : ρ (.tmp 21) = v := e1
  exact ⟨rfl, .inl ⟨_, u, run_asg_s rfl e1', v, updS_eqS, L'⟩⟩
 intro vs σ u hE hvs
 obtain ⟨v, e3, L'⟩ : ∃ v, σ 2 = v /\ LsS w0 u 86 9 v (1 + N.nq) (fun i => if i < 1 then xlT N.c else xlT (N.qf (i - 1))) /\ (∀ k, v.ownBlock = some k -> w.heap.size <= k) /\ Below w.heap.size w u := hE
 have e9 : vs 10 = v := (hvs 10 2 rfl).trans e3
 simp only [putsL]
 rw [e9]
 have H2 : Hid (LsS w0 u 86 9 v (1 + N.nq) (fun i => if i < 1 then xlT N.c else xlT (N.qf (i - 1))) /\ (∀ k, v.ownBlock = some k -> w.heap.size <= k) /\ Below w.heap.size w u) := L'
 have HN : Hid (N.bz = true) := hbz
 clear e9 e3 hvs L' hbz HE
 try go_simp
 go_wp2
 go_ret
 exact ⟨v, rfl, (by rw [lcV_len, HN.out]; exact LsC.own (H2.out.1.congr (fun i hi => lcX_busy HN.out hi)) H2.out.2.1), H2.out.2.2⟩
end Go.Proofs.YtplaoagcedgdfaaGreat
namespace Go.Proofs.YtplaoagcedgdfaaGreat
open Go.RowKit Go.Joins Go.ChangeMaps Go.Proofs.Tryz
def entL (ks : Nat -> Int) (vs : Nat -> Value) (n : Nat) : List MapEntry := (List.range n).map (fun j => ⟨.int .i64 (ks j), vs j, j⟩)
def MapI (w : World) (b n : Nat) (ks : Nat -> Int) (vs : Nat -> Value) : Prop := w.heap[b]? = some (.map (entL ks vs n).toArray n)
theorem setBlock_grown (w : World) (b : Nat) (o : Obj) : w.grownBy (setBlock w b o) (some b) :=
 ⟨rfl, rfl, rfl, by simp [setBlock], fun k hk hne => by
  unfold setBlock
  simp only
  rw [Array.getElem?_setIfInBounds]
  split
  ·rename_i e; subst e; exact absurd rfl hne
  rfl⟩
abbrev peK (a b : Int) : Value := .agg #[.int .i64 a, .int .i64 b]
def peE {α : Type} (e : Int × Int × (α × List Value × Nat)) : MapEntry := ⟨peK e.1 e.2.1, .agg e.2.2.2.1.toArray, e.2.2.2.2⟩
def MapP {α : Type} (w : World) (b : Nat) (l : List (Int × Int × (α × List Value × Nat))) (c : Nat) : Prop := w.heap[b]? = some (.map (l.map peE).toArray c)
section
variable {α : Type} {w w' : World} {b c : Nat} {l : List (Int × Int × (α × List Value × Nat))}
theorem MapP.lt (h : MapP w b l c) : b < w.heap.size := (Array.getElem?_eq_some_iff.1 h).1
theorem MapP.below (h : MapP w b l c) (hb : Below w.heap.size w w') : MapP w' b l c := (hb.block b h.lt).trans h
theorem MapP.new (w : World) : MapP (w.alloc (.map #[] 0)) w.heap.size ([] : List (Int × Int × (α × List Value × Nat))) 0 := heap_alloc_new w (.map #[] 0)
theorem MapP.set (hlt : b < w.heap.size) : MapP (setBlock w b (.map (l.map peE).toArray c)) b l c := by
 unfold MapP setBlock
 simp [hlt]
end
def KeyP (P : Program) (K : TypeId) : Prop := (∃ fs, P.underlying K = some (.struct fs)) /\ (∀ (a b c d : Int) (w : World), (Op.equal K (peK a b) (peK c d)).run P w = .ok (decide (a = c /\ b = d)) w) /\ ∀ (e : Bool) (a b : Int) (w : World), (Instr.checkKey e 10000 K (peK a b)).run P w = .ok () w
section
variable {α : Type} {P : Program} {w : World} {b c : Nat} {l : List (Int × Int × (α × List Value × Nat))} {K : TypeId}
theorem KeyP.ask (hK : KeyP P K) (x y : Int) : ∀ (l : List (Int × Int × (α × List Value × Nat))) (i : Nat), (Instr.findAsking K (peK x y) (l.map peE) i).run P w = .ok ((ixK x y l i).map (fun r => (r.1, .agg r.2.2.1.toArray))) w
 | [], i => by simp [Instr.findAsking, ixK]
 | e :: es, i => by
  rw [List.map_cons]
  unfold Instr.findAsking ixK
  rw [Sem.run_bind]
  rw [show (peE e).key = peK e.1 e.2.1 from rfl, hK.2.1]
  rw [Result.andThen_ok]
  by_cases q : e.1 = x /\ e.2.1 = y
  ·rw [if_pos q, decide_eq_true (⟨q.1.symm, q.2.symm⟩ : x = e.1 /\ y = e.2.1)]
   simp [peE]
  rw [if_neg q, decide_eq_false (fun h : x = e.1 /\ y = e.2.1 => q ⟨h.1.symm, h.2.symm⟩)]
  simp only [Bool.false_eq_true, if_false]
  exact KeyP.ask hK x y es (i + 1)
theorem KeyP.find (hK : KeyP P K) (x y : Int) (l : List (Int × Int × (α × List Value × Nat))) : (Instr.findKey K (peK x y) (l.map peE)).run P w = .ok ((ixK x y l 0).map (fun r => (r.1, .agg r.2.2.1.toArray))) w := by
 obtain ⟨fs, hf⟩ := hK.1
 unfold Instr.findKey
 rw [Sem.run_bind, run_underlying hf, Result.andThen_ok]
 cases l with
 | nil => simp [Instr.findNow, ixK]
 | cons e es =>
  rw [show Instr.findNow (.struct fs) (peK x y) ((e :: es).map peE) 0 = none from rfl]
  exact hK.ask x y (e :: es) 0
theorem eraseIdx_map9 {β γ : Type} (g : β -> γ) : ∀ (l : List β) (i : Nat), (l.map g).eraseIdx i = (l.eraseIdx i).map g
 | [], _ => rfl
 | _ :: _, 0 => rfl
 | x :: l, i + 1 => by
  show g x :: (l.map g).eraseIdx i = g x :: (l.eraseIdx i).map g
  rw [eraseIdx_map9 g l i]
theorem MapP.look {T E : TypeId} {z : Value} (h : MapP w b l c) (hT : P.underlying T = some (.map K E)) (hK : KeyP P K) (hz : (zeroValue E).run P w = .ok z w) (x y : Int) :
 (Instr.lookup T (.map (some b)) (peK x y) true).run P w = .ok (.tuple #[((ixK x y l 0).map (fun r => Value.agg r.2.2.1.toArray)).getD z, .bool (ixK x y l 0).isSome]) w := by
 unfold MapP at h
 unfold Instr.lookup
 simp only [run_underlying (P := P) hT, Sem.run_bind, Result.andThen_ok, getObj, Sem.run, h, hK.2.2, hK.find x y l, Sem.run_pure]
 cases ixK x y l 0 with
 | none => simp [hz]
 | some r => simp
theorem MapP.put {T E : TypeId} (h : MapP w b l c) (hT : P.underlying T = some (.map K E)) (hK : KeyP P K) (x y : Int) (p : α) (vs : List Value) (hx : ixK x y l 0 = none) :
 (Instr.mapUpdate T (.map (some b)) (peK x y) (.agg vs.toArray)).run P w = .ok () (setBlock w b (.map ((l ++ [(x, y, p, vs, c)]).map peE).toArray (c + 1))) := by
 unfold MapP at h
 unfold Instr.mapUpdate
 simp only [run_underlying (P := P) hT, Sem.run_bind, Result.andThen_ok, getObj, Sem.run, h, hK.2.2, hK.find x y l, hx, Option.map_none]
 simp only [setObj, Sem.run, h, setBlock]
 congr 3
 simp [peE]
theorem MapP.del {T E ty : TypeId} {A : Array TypeId} {r : Nat × (α × List Value × Nat)} (h : MapP w b l c) (hA : A[0]? = some T) (hT : P.underlying T = some (.map K E)) (hK : KeyP P K) (x y : Int) (hx : ixK x y l 0 = some r) :
 (Builtin.delete_ A ty #[.map (some b), peK x y]).run P w = .ok (.tuple #[]) (setBlock w b (.map ((l.eraseIdx r.1).map peE).toArray c)) := by
 obtain ⟨k, e, k1, k2, _⟩ := ixK_some hx
 have hlt : r.1 < l.length := by have := (List.getElem?_eq_some_iff.1 k2).1; omega
 unfold MapP at h
 unfold Builtin.delete_
 simp only [hA, List.getElem?_toArray, List.getElem?_cons_zero, List.getElem?_cons_succ, run_underlying (P := P) hT, Sem.run_bind, Result.andThen_ok, getObj, Sem.run, h, hK.2.2, hK.find x y l, hx, Option.map_some, Sem.run_pure]
 simp only [setObj, Sem.run, h, setBlock, Result.andThen_ok]
 congr 4
 rw [Array.eraseIdxIfInBounds, dif_pos (by simpa using hlt)]
 simp only [List.eraseIdx_toArray]
 congr 1
 exact eraseIdx_map9 peE l r.1
theorem MapP.len {T E ty : TypeId} (h : MapP w b l c) (hT : P.underlying T = some (.map K E)) : (Builtin.len_ #[T] ty #[.map (some b)]).run P w = .ok (.int .i64 (l.length : Int)) w := by
 unfold MapP at h
 simp [Builtin.len_, run_underlying (P := P) hT, getObj, Sem.run, h, goInt]
end
end Go.Proofs.YtplaoagcedgdfaaGreat
