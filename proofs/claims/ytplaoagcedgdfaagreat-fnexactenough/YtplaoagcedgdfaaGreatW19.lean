/- Texts that the proof needs, joined: Tb2 Tb3 Fo7. -/
import Derived.Test.YtplaoagcedgdfaaGreatW12
import Derived.Test.YtplaoagcedgdfaaGreatW9
import Derived.Test.YtplaoagcedgdfaaGreatW18
import Derived.BigQuiet
set_option linter.unusedVariables false
set_option linter.unusedSimpArgs false
set_option maxHeartbeats 8000000
set_option maxRecDepth 20000
namespace Go.Proofs.YtplaoagcedgdfaaGreat
open Go.RowKit Go.Joins Go.Proofs.Tryz
theorem drN (w : World) (n : Nat) : Below w.heap.size w (w.drewN n) := ⟨rfl, rfl, rfl, Nat.le_refl _, fun _ _ => rfl⟩
theorem implSuQ (Q : VQ) (A : VA) (a1 : Option Addr) (l1 c1 : Nat) (a2 : Option Addr) (l2 c2 : Nat) (b1 : Option Addr) (m1 d1 : Nat) (b2 : Option Addr) (m2 d2 : Nat) (w : World) (r1 : Rd w 0 (intsT Q.ws) (.slice a1 l1 c1)) (r2 : Rd w 0 (boolsT Q.bs) (.slice a2 l2 c2)) (r3 : Rd w 0 (intsT A.ws) (.slice b1 m1 d1)) (r4 : Rd w 0 (boolsT A.bs) (.slice b2 m2 d2)) (hb : BdQ Q) (ha : BdA A) :
 Calls prog 237 #[.agg (qL Q a1 l1 c1 a2 l2 c2).toArray, .agg (aL A b1 m1 d1 b2 m2 d2).toArray] w fun e w' => e = .returned (.bool (suQ Q A)) /\ Below w.heap.size w w' := by
 obtain ⟨e1, _, s1⟩ := r1.int3
 obtain ⟨e2, _, s2⟩ := r2.bool3
 obtain ⟨e3, _, s3⟩ := r3.int3
 obtain ⟨e4, h4, s4⟩ := r4.bool3
 unfold suQ
 rw [<- e1, <- e2, <- e3, <- e4]
 exact implSuits_q Q.kd A.kd A.fl Q.pl Q.n Q.wa a1 a2 l1 l2 c1 c2 Q.ws Q.bs A.pl A.n b1 b2 m1 m2 d1 d2 A.ws A.bs w e1 e2 s1 s2 hb.1 hb.2 e3 e4 s3 s4 ha.1 ha.2 h4
theorem noA_eq (X : VA) : noA X = ((X.kd == 0) && ((X.fl == 0) && ((X.pl == 0) && ((X.n == 0) && (decide (X.ws = []) && decide (X.bs = [])))))) := by
 unfold noA
 have h1 : ((X.ws.length : Int) == 0) = decide (X.ws = []) := by cases X.ws <;> simp; omega
 have h2 : ((X.bs.length : Int) == 0) = decide (X.bs = []) := by cases X.bs <;> simp; omega
 rw [h1, h2]
theorem sameR0_any (X : VA) (a1 : Option Addr) (c1 : Nat) (a2 : Option Addr) (c2 : Nat) (w : World) (r1 : Rd w 0 (intsT X.ws) (.slice a1 X.ws.length c1)) (r2 : Rd w 0 (boolsT X.bs) (.slice a2 X.bs.length c2)) (hb : BdA X) :
 Calls prog 238 #[.agg (aL X a1 X.ws.length c1 a2 X.bs.length c2).toArray, .agg ([.int .i64 0, .int .i64 0, .int .i64 0, .int .i64 0, .slice none 0 0, .slice none 0 0]).toArray] w fun e w' => e = .returned (.bool (noA X)) /\ Below w.heap.size w w' := by
 obtain ⟨t0, q0⟩ : ∃ t, (X.kd == 0) = t := ⟨_, rfl⟩
 obtain ⟨t1, q1⟩ : ∃ t, (X.fl == 0) = t := ⟨_, rfl⟩
 obtain ⟨t2, q2⟩ : ∃ t, (X.pl == 0) = t := ⟨_, rfl⟩
 obtain ⟨t3, q3⟩ : ∃ t, (X.n == 0) = t := ⟨_, rfl⟩
 obtain ⟨t4, q4⟩ : ∃ t, decide (X.ws = []) = t := ⟨_, rfl⟩
 obtain ⟨t5, q5⟩ : ∃ t, decide (X.bs = []) = t := ⟨_, rfl⟩
 obtain ⟨W, hW⟩ : ∃ W, W = (w.alloc (.cells (aL X a1 X.ws.length c1 a2 X.bs.length c2).toArray 118)).alloc (.cells ([.int .i64 0, .int .i64 0, .int .i64 0, .int .i64 0, .slice none 0 0, .slice none 0 0]).toArray 118) := ⟨_, rfl⟩
 have HE : Hid (noA X = (t0 && (t1 && (t2 && (t3 && (t4 && t5))))) /\ decide (X.ws = []) = t4 /\ decide (X.bs = []) = t5 /\ Below w.heap.size w W /\ Blk W w.heap.size 118 (aL X a1 X.ws.length c1 a2 X.bs.length c2).toArray /\ Blk W (w.heap.size + 1) 118 ([.int .i64 0, .int .i64 0, .int .i64 0, .int .i64 0, .slice none 0 0, .slice none 0 0]).toArray /\ SlI W a1 X.ws /\ SlB W a2 X.bs) := by
  have B : Below w.heap.size w W := by rw [hW]; exact bel_nx (bel_alloc _ _) (bel_alloc _ _)
  exact ⟨by rw [noA_eq, q0, q1, q2, q3, q4, q5], q4, q5, B, by rw [hW]; exact (Blk.new w _ _).below (bel_alloc _ _), by rw [hW]; have := Blk.new (w.alloc (.cells (aL X a1 X.ws.length c1 a2 X.bs.length c2).toArray 118)) ([.int .i64 0, .int .i64 0, .int .i64 0, .int .i64 0, .slice none 0 0, .slice none 0 0]).toArray 118; simpa using this, (r1.below B).int3.2.2, (r2.below B).bool3.2.2⟩
 rw [HE.out.1]
 obtain ⟨⟨y0, y1, y2, y3, y4, y5⟩, yf⟩ := HE.out.2.2.2.2.1.tc6
 obtain ⟨⟨z0, z1, z2, z3, z4, z5⟩, zf⟩ := HE.out.2.2.2.2.2.1.tc6
 clear q4 q5 r1 r2 yf zf
 cases t0
 case false =>
  go_enter func238, ntmps238
  go_upto_region 1 with fail
  rw [<- hW]
  clear hW
  go_wp2
  go_ret
  exact ⟨rfl, HE.out.2.2.2.1⟩
 cases t1
 case false =>
  go_enter func238, ntmps238
  go_upto_region 1 with fail
  rw [<- hW]
  clear hW
  go_wp2
  go_ret
  exact ⟨rfl, HE.out.2.2.2.1⟩
 cases t2
 case false =>
  go_enter func238, ntmps238
  go_upto_region 1 with fail
  rw [<- hW]
  clear hW
  go_wp2
  go_ret
  exact ⟨rfl, HE.out.2.2.2.1⟩
 cases t3
 case false =>
  go_enter func238, ntmps238
  go_upto_region 1 with fail
  rw [<- hW]
  clear hW
  go_wp2
  go_ret
  exact ⟨rfl, HE.out.2.2.2.1⟩
 go_enter func238, ntmps238
 go_upto_region 1 with fail
 rw [<- hW]
 clear hW
 go_wp2_with fail
 refine (equal_int_any a1 none _ 0 c1 0 X.ws [] _ rfl rfl HE.out.2.2.2.2.2.2.1 (.inl rfl) hb.1 (by simp) t4 HE.out.2.1).mono ?_
 rintro e w1 ⟨rfl, b1⟩
 have HB : Hid (Below W.heap.size W w1) := b1
 clear b1 y0 y1 y2 y3 y4 y5 z0 z1 z2 z3 z4 z5
 cases t4
 case false =>
  go_wp2
  go_ret
  exact ⟨rfl, bel_nx HE.out.2.2.2.1 HB.out⟩
 obtain ⟨⟨y0, y1, y2, y3, y4, y5⟩, yf⟩ := (HE.out.2.2.2.2.1.below HB.out).tc6
 obtain ⟨⟨z0, z1, z2, z3, z4, z5⟩, zf⟩ := (HE.out.2.2.2.2.2.1.below HB.out).tc6
 clear yf zf
 go_wp2_with fail
 refine (equal_bool_any a2 none _ 0 c2 0 X.bs [] _ rfl rfl (HE.out.2.2.2.2.2.2.2.below HB.out) (.inl rfl) hb.2 (by simp) t5 HE.out.2.2.1).mono ?_
 rintro e w2 ⟨rfl, b2⟩
 have B2 := bel_nx (bel_nx HE.out.2.2.2.1 HB.out) b2
 clear b2 y0 y1 y2 y3 y4 y5 z0 z1 z2 z3 z4 z5
 go_wp2
 go_ret
 exact ⟨rfl, B2⟩
theorem toldRight_any (D : VD) (g o : Nat) (w : World) (h : PdAt w g o D) (hb : BdD D) :
 Calls prog 202 #[.pointer (some ⟨g, o, none⟩)] w fun e w' => e = .returned (.bool (decide (D.hs.length = D.np) && (decide (D.nt = D.np) && allN (tdB D) D.np))) /\ Below w.heap.size w w' := by
 have HP : Hid (PdAt w g o D /\ BdD D) := ⟨h, hb⟩
 obtain ⟨hg, a1, c1, a2, c2, a3, c3, a4, c4, a5, c5, hr, r1, r2, r3, r4, r5⟩ := h.cells
 have y10 := hr 10 _ rfl
 have y11 := hr 11 _ rfl
 have y12 := hr 12 _ rfl
 obtain ⟨-, hn1, hn2, hn3, -, -⟩ := hb
 by_cases e1 : D.hs.length = D.np
 ·have f1 : ((D.hs.length : Int) != (D.np : Int)) = false := by simp [e1]
  have f1' : ((D.hs.length : Int) == (D.np : Int)) = true := by simp [e1]
  by_cases e2 : D.nt = D.np
  ·have f2 : ((D.nt : Int) != (D.np : Int)) = false := by simp [e2]
   have HT : Hid (decide (D.hs.length = D.np) = true /\ decide (D.nt = D.np) = true /\ D.hs.length = D.np /\ D.nt = D.np) := ⟨decide_eq_true e1, decide_eq_true e2, e1, e2⟩
   rw [HT.out.1, HT.out.2.1, Bool.true_and, Bool.true_and]
   have HR : Hid (w.rangeAt g o (dL D a1 D.q.ws.length c1 a2 D.q.bs.length c2 a3 D.np c3 a4 D.hs.length c4 a5 D.nt c5) /\ g < w.heap.size /\ Rd w 0 (.list 8 D.np (fun i => trs (pT (D.pt i)))) (.slice a3 D.np c3) /\ Rd w 0 (boolsT D.hs) (.slice a4 D.hs.length c4) /\ Rd w 0 (.list 6 D.nt (fun i => trs (aT (D.tl i)))) (.slice a5 D.nt c5)) := ⟨hr, hg, r3, r4, r5⟩
   clear hr r1 r2 r3 r4 r5 hg h e1 e2
   go_enter func202, ntmps202
   go_upto_region 1 with fail
   go_quiet (fail)
   go_wp2
   clear y10 y11 y12 f1 f1' f2
   go_loopw [34] (fun i wr => ∃ k : Nat, k <= D.hs.length /\ i = .int .i64 k /\ allN (tdB D) k = true /\ Below w.heap.size w wr) (fun i _ => D.hs.length - (intOf i).toNat)
   case atStart => exact ⟨0, Nat.zero_le _, rfl, rfl, by first | exact Below.refl _ _ | exact (Below.refl _ _).drew | exact drN _ _⟩
   case round =>
    obtain ⟨k, hk, rfl, hall, hbl⟩ := hrel
    by_cases hlt : k < D.hs.length
    ·have hi : (k : Int) < (D.hs.length : Int) := by omega
     have hi3 : (k : Int) < (D.np : Int) := by have := HT.out.2.2.1; omega
     have hi5 : (k : Int) < (D.nt : Int) := by have := HT.out.2.2; omega
     obtain ⟨b4, o4, rfl, hb4, d0⟩ := (HR.out.2.2.2.1.below hbl).bit (k := k) (n := D.np) hlt
     obtain ⟨b3, o3, vs, rfl, _, hb3, hlen, hr3, hrd⟩ := (HR.out.2.2.1.below hbl).at (k := k) (by have := HT.out.2.2.1; omega)
     obtain ⟨p1, k1, p2, k2, rfl, rp1, rp2⟩ := VP.cells hrd hlen
     clear hlen hrd
     obtain ⟨b5, o5, vs, rfl, _, hb5, hlen, hr5, hrd⟩ := (HR.out.2.2.2.2.below hbl).at (k := k) (by have := HT.out.2.2; omega)
     obtain ⟨t1, j1, t2, j2, rfl, rt1, rt2⟩ := VA.cells hrd hlen
     clear hlen hrd
     obtain ⟨hs, hhs⟩ : ∃ x, D.hs.getD k false = x := ⟨_, rfl⟩
     rw [hhs] at d0
     obtain ⟨x, hx⟩ : ∃ x, tdB D k = x := ⟨_, rfl⟩
     have HA : Hid (allN (tdB D) k = true /\ tdB D k = x /\ Below w.heap.size w wr) := ⟨hall, hx, hbl⟩
     have hbq := HP.out.2.2.2.2.2.1 k (by have := HT.out.2.2.1; omega)
     have hba := HP.out.2.2.2.2.2.2 k (by have := HT.out.2.2; omega)
     have hgw := Nat.lt_of_lt_of_le HR.out.2.1 hbl.size
     have hrw := rangeAt_below HR.out.1 HR.out.2.1 hbl
     have HB : Hid (BdQ (D.pt k).q /\ BdA (D.tl k)) := ⟨hbq, hba⟩
     have hx2 : hs = true -> suQ (D.pt k).q (D.tl k) = x := fun e => by rw [<- hx]; unfold tdB; rw [hhs, e]; rfl
     have hx3 : hs = false -> noA (D.tl k) = x := fun e => by rw [<- hx]; unfold tdB; rw [hhs, e]; rfl
     have HK : Hid (g < wr.heap.size /\ wr.rangeAt g o (dL D a1 D.q.ws.length c1 a2 D.q.bs.length c2 (some ⟨b3, o3, none⟩) D.np c3 (some ⟨b4, o4, none⟩) D.hs.length c4 (some ⟨b5, o5, none⟩) D.nt c5) /\ b3 < wr.heap.size /\ wr.rangeAt b3 (o3 + k * 8) (pL (D.pt k) p1 (D.pt k).q.ws.length k1 p2 (D.pt k).q.bs.length k2) /\ b5 < wr.heap.size /\ wr.rangeAt b5 (o5 + k * 6) (aL (D.tl k) t1 (D.tl k).ws.length j1 t2 (D.tl k).bs.length j2) /\ Rd wr 0 (intsT (D.pt k).q.ws) (.slice p1 (D.pt k).q.ws.length k1) /\ Rd wr 0 (boolsT (D.pt k).q.bs) (.slice p2 (D.pt k).q.bs.length k2) /\ Rd wr 0 (intsT (D.tl k).ws) (.slice t1 (D.tl k).ws.length j1) /\ Rd wr 0 (boolsT (D.tl k).bs) (.slice t2 (D.tl k).bs.length j2) /\ BdQ (D.pt k).q /\ BdA (D.tl k) /\ (hs = true -> suQ (D.pt k).q (D.tl k) = x) /\ (hs = false -> noA (D.tl k) = x)) := ⟨hgw, hrw, hb3, hr3, hb5, hr5, rp1, rp2, rt1, rt2, hbq, hba, hx2, hx3⟩
     clear hx hx2 hx3 hhs hgw hrw hb3 hr3 hb5 hr5 rp1 rp2 rt1 rt2 hbq hba hall hbl hb4
     go_upto_region 6 with fail
     clear d0
     refine wp_region_any (by kernel_rfl) ?_
     refine wpAny_vals (fun u => Below wr.heap.size wr u) (fun i v u => match i with
      | 0 => v = .bool hs
      | 1 => v = .bool hs
      | 2 => v = cond hs (.pointer (some ⟨g, o, none⟩)) undef
      | 3 => v = cond hs (.pointer (some ⟨g, o, none⟩)) undef
      | 4 => v = cond hs (.pointer (some ⟨g, o + 10, none⟩)) undef
      | 5 => v = cond hs (.slice (some ⟨b3, o3, none⟩) D.np c3) undef
      | 6 => v = cond hs (.int .i64 (k : Int)) undef
      | 7 => v = cond hs (.pointer (some ⟨b3, o3 + k * 8, none⟩)) undef
      | 8 => v = cond hs (.pointer (some ⟨b3, o3 + k * 8 + 2, none⟩)) undef
      | 9 => v = cond hs (.agg ([.int .i64 (D.pt k).q.kd, .int .i64 (D.pt k).q.pl, .int .i64 (D.pt k).q.n, .slice p1 ((D.pt k).q.ws.length) k1, .slice p2 ((D.pt k).q.bs.length) k2, .int .i64 (D.pt k).q.wa]).toArray) undef
      | 10 => v = cond hs (.pointer (some ⟨g, o, none⟩)) undef
      | 11 => v = cond hs (.pointer (some ⟨g, o, none⟩)) undef
      | 12 => v = cond hs (.pointer (some ⟨g, o + 12, none⟩)) undef
      | 13 => v = cond hs (.slice (some ⟨b5, o5, none⟩) D.nt c5) undef
      | 14 => v = cond hs (.int .i64 (k : Int)) undef
      | 15 => v = cond hs (.pointer (some ⟨b5, o5 + k * 6, none⟩)) undef
      | 16 => v = cond hs (.agg (aL (D.tl k) t1 (D.tl k).ws.length j1 t2 (D.tl k).bs.length j2).toArray) undef
      | 17 => v = cond hs (.bool x) undef
      | 18 => v = cond hs (.bool (!x)) undef
      | 19 => v = cond hs (.bool (!x)) (.bool false)
      | 20 => v = cond hs (.bool (!x)) (.bool false)
      | 21 => v = cond hs (cond x (.bool true) undef) (.bool false)
      | 22 => v = cond hs (cond x (.bool false) undef) (.bool true)
      | 23 => v = cond hs (cond x (.bool false) undef) (.bool true)
      | 24 => v = cond hs undef (.pointer (some ⟨g, o, none⟩))
      | 25 => v = cond hs undef (.pointer (some ⟨g, o, none⟩))
      | 26 => v = cond hs undef (.pointer (some ⟨g, o + 12, none⟩))
      | 27 => v = cond hs undef (.slice (some ⟨b5, o5, none⟩) D.nt c5)
      | 28 => v = cond hs undef (.int .i64 (k : Int))
      | 29 => v = cond hs undef (.pointer (some ⟨b5, o5 + k * 6, none⟩))
      | 30 => v = cond hs undef (.agg (aL (D.tl k) t1 (D.tl k).ws.length j1 t2 (D.tl k).bs.length j2).toArray)
      | 31 => v = cond hs undef (.agg ([.int .i64 0, .int .i64 0, .int .i64 0, .int .i64 0, .slice none 0 0, .slice none 0 0]).toArray)
      | 32 => v = cond hs undef (.bool x)
      | 33 => v = cond hs undef (.bool (!x))
      | 34 => v = cond hs (cond x (.bool false) undef) (.bool (!x))
      | 35 => v = .bool (!x)
      | _ => v = undef) (by kernel_rfl) (by kernel_rfl) (fun _ _ _ _ h _ => h) (by first | exact Below.refl _ _ | exact (Below.refl _ _).drew) ?_ ?_ _ _ rfl (by decide) (fun i => by simp [Array.getD]; try (split <;> rfl))
     ·intro vs u hR hall
      simp only [putsL]
      cases x
      ·have e35 : vs 35 = .bool true := hall 35 (by simp)
       rw [e35]
       clear hall e35
       have HF : Hid (allN (tdB D) D.np = false /\ Below w.heap.size w u) := ⟨allN_no (by have := HT.out.2.2.1; omega) HA.out.2.1, bel_nx HA.out.2.2 hR⟩
       clear HK HA hR
       go_simp
       go_wp2
       go_ret
       exact ⟨by rw [HF.out.1]; rfl, HF.out.2⟩
      have e35 : vs 35 = .bool false := hall 35 (by simp)
      rw [e35]
      clear hall e35
      have HF : Hid (allN (tdB D) (k + 1) = true /\ Below w.heap.size w u) := ⟨allN_succ HA.out.1 HA.out.2.1, bel_nx HA.out.2.2 hR⟩
      clear HK HA hR
      go_simp
      go_wp2
      go_roundw
      case rel => exact ⟨k + 1, by omega, by go_num, HF.out.1, HF.out.2⟩
      case measure => simp [intOf]; omega
     intro u i o ρ hR ho hρ hc hf hd
     have hi : i < 36 := by
      have := (Array.getElem?_eq_some_iff.1 ho).1
      simpa using this
     obtain rfl | rfl | rfl | rfl | rfl | rfl | rfl | rfl | rfl | rfl | rfl | rfl | rfl | rfl | rfl | rfl | rfl | rfl | rfl | rfl | rfl | rfl | rfl | rfl | rfl | rfl | rfl | rfl | rfl | rfl | rfl | rfl | rfl | rfl | rfl | rfl : i = 0 \/ i = 1 \/ i = 2 \/ i = 3 \/ i = 4 \/ i = 5 \/ i = 6 \/ i = 7 \/ i = 8 \/ i = 9 \/ i = 10 \/ i = 11 \/ i = 12 \/ i = 13 \/ i = 14 \/ i = 15 \/ i = 16 \/ i = 17 \/ i = 18 \/ i = 19 \/ i = 20 \/ i = 21 \/ i = 22 \/ i = 23 \/ i = 24 \/ i = 25 \/ i = 26 \/ i = 27 \/ i = 28 \/ i = 29 \/ i = 30 \/ i = 31 \/ i = 32 \/ i = 33 \/ i = 34 \/ i = 35 := by omega
     all_goals (simp only [List.getElem?_toArray, List.getElem?_cons_zero, List.getElem?_cons_succ, Option.some.injEq] at ho; subst ho)
     ·cases hs
      ·exact yr rfl (hρ 4 (by kernel_rfl)) hR
      exact yr rfl (hρ 4 (by kernel_rfl)) hR
     ·exact yr rfl (dq hd 0 39) hR
     ·cases hs
      ·exact ngq (.bool false) hd 1 40
      exact yq hd 1 40 rfl (hρ 0 (by kernel_rfl)) hR
     ·cases hs
      ·exact ngq (.bool false) hd 1 40
      exact yq hd 1 40 (run_nilz rfl (dq hd 2 41)) rfl hR
     ·cases hs
      ·exact ngq (.bool false) hd 1 40
      exact yq hd 1 40 (run_field_op rfl (dq hd 3 42) (by go_simp)) rfl hR
     ·cases hs
      ·exact ngq (.bool false) hd 1 40
      have y9 := (rangeAt_below HK.out.2.1 HK.out.1 hR) 10 _ rfl
      exact yq hd 1 40 (run_load_op rfl (dq hd 4 43) (by go_simp)) rfl hR
     ·cases hs
      ·exact ngq (.bool false) hd 1 40
      exact yq hd 1 40 rfl (hρ 3 (by kernel_rfl)) hR
     ·cases hs
      ·exact ngq (.bool false) hd 1 40
      exact yq hd 1 40 (run_index_op rfl (dq hd 5 44) (dq hd 6 45) (by go_simp)) rfl hR
     ·cases hs
      ·exact ngq (.bool false) hd 1 40
      exact yq hd 1 40 (run_field_op rfl (dq hd 7 46) (by go_simp)) rfl hR
     ·cases hs
      ·exact ngq (.bool false) hd 1 40
      have h8 : _ = _ := dq hd 8 47
      have hr : (Instr.loadAt 84 (.pointer (some ⟨b3, o3 + k * 8 + 2, none⟩))).run prog u = .ok (.agg ([.int .i64 (D.pt k).q.kd, .int .i64 (D.pt k).q.pl, .int .i64 (D.pt k).q.n, .slice p1 ((D.pt k).q.ws.length) k1, .slice p2 ((D.pt k).q.bs.length) k2, .int .i64 (D.pt k).q.wa]).toArray) u := run_loadAt_mid u b3 (o3 + k * 8 + 2) 84 ([.int .i64 (D.pt k).q.kd, .int .i64 (D.pt k).q.pl, .int .i64 (D.pt k).q.n, .slice p1 ((D.pt k).q.ws.length) k1, .slice p2 ((D.pt k).q.bs.length) k2, .int .i64 (D.pt k).q.wa]) _ (rangeAt_mid [.int .i64 (D.pt k).p, .int .i64 (D.pt k).t] [.int .i64 (D.pt k).q.kd, .int .i64 (D.pt k).q.pl, .int .i64 (D.pt k).q.n, .slice p1 ((D.pt k).q.ws.length) k1, .slice p2 ((D.pt k).q.bs.length) k2, .int .i64 (D.pt k).q.wa] [] (rangeAt_below HK.out.2.2.2.1 HK.out.2.2.1 hR) rfl) underlying84 rfl (by kernel_rfl)
      exact yq hd 1 40 (run_load_op rfl h8 hr) rfl hR
     ·cases hs
      ·exact ngq (.bool false) hd 1 40
      exact yq hd 1 40 rfl (hρ 0 (by kernel_rfl)) hR
     ·cases hs
      ·exact ngq (.bool false) hd 1 40
      exact yq hd 1 40 (run_nilz rfl (dq hd 10 49)) rfl hR
     ·cases hs
      ·exact ngq (.bool false) hd 1 40
      exact yq hd 1 40 (run_field_op rfl (dq hd 11 50) (by go_simp)) rfl hR
     ·cases hs
      ·exact ngq (.bool false) hd 1 40
      have y9 := (rangeAt_below HK.out.2.1 HK.out.1 hR) 12 _ rfl
      exact yq hd 1 40 (run_load_op rfl (dq hd 12 51) (by go_simp)) rfl hR
     ·cases hs
      ·exact ngq (.bool false) hd 1 40
      exact yq hd 1 40 rfl (hρ 3 (by kernel_rfl)) hR
     ·cases hs
      ·exact ngq (.bool false) hd 1 40
      exact yq hd 1 40 (run_index_op rfl (dq hd 13 52) (dq hd 14 53) (by go_simp)) rfl hR
     ·cases hs
      ·exact ngq (.bool false) hd 1 40
      have h15 : _ = _ := dq hd 15 54
      have hr : (Instr.loadAt 118 (.pointer (some ⟨b5, o5 + k * 6, none⟩))).run prog u = .ok (.agg (aL (D.tl k) t1 (D.tl k).ws.length j1 t2 (D.tl k).bs.length j2).toArray) u := run_loadAt_mid u b5 (o5 + k * 6) 118 (aL (D.tl k) t1 (D.tl k).ws.length j1 t2 (D.tl k).bs.length j2) _ (rangeAt_below HK.out.2.2.2.2.2.1 HK.out.2.2.2.2.1 hR) underlying118 rfl (by kernel_rfl)
      exact yq hd 1 40 (run_load_op rfl h15 hr) rfl hR
     ·cases hs
      ·exact ngq (.bool false) hd 1 40
      have g1 : ρ (.tmp 40) = .bool true := gq hd 1 40
      have h9 : _ = _ := dq hd 9 48
      have h16 : _ = _ := dq hd 16 55
      refine .inl ⟨(by show (match ρ (.tmp 40) with | .bool b => b == true | _ => false) = true; rw [g1]; rfl), .inr ⟨_, _, run_call_op rfl (hf _) (args := #[.agg ([.int .i64 (D.pt k).q.kd, .int .i64 (D.pt k).q.pl, .int .i64 (D.pt k).q.n, .slice p1 ((D.pt k).q.ws.length) k1, .slice p2 ((D.pt k).q.bs.length) k2, .int .i64 (D.pt k).q.wa]).toArray, .agg (aL (D.tl k) t1 (D.tl k).ws.length j1 t2 (D.tl k).bs.length j2).toArray]) (by simp [h9, h16]) (by kernel_rfl), ?_⟩⟩
      refine (implSuQ (D.pt k).q (D.tl k) p1 _ k1 p2 _ k2 t1 _ j1 t2 _ j2 _ (HK.out.2.2.2.2.2.2.1.below hR) (HK.out.2.2.2.2.2.2.2.1.below hR) (HK.out.2.2.2.2.2.2.2.2.1.below hR) (HK.out.2.2.2.2.2.2.2.2.2.1.below hR) HK.out.2.2.2.2.2.2.2.2.2.2.1 HK.out.2.2.2.2.2.2.2.2.2.2.2.1).mono ?_
      rintro e u' ⟨he, b'⟩
      exact ⟨_, he.trans (by rw [HK.out.2.2.2.2.2.2.2.2.2.2.2.2.1 rfl] <;> rfl), rfl, bel_nx hR b', b'⟩
     ·cases hs
      ·exact ngq (.bool false) hd 1 40
      exact yq hd 1 40 (run_un_op rfl (dq hd 17 56) (by go_simp)) rfl hR
     ·cases hs
      ·exact yr (run_pick_op rfl (dq hd 1 40)) (by simpa using hc _) hR
      exact yr (run_pick_op rfl (dq hd 1 40)) (by simpa using (dq hd 18 57)) hR
     ·exact yr rfl (dq hd 19 58) hR
     ·cases hs
      ·exact yq hd 20 59 rfl (hρ 4 (by kernel_rfl)) hR
      cases x
      ·exact ngq (.bool true) hd 20 59
      exact yq hd 20 59 rfl (hρ 4 (by kernel_rfl)) hR
     ·cases hs
      ·exact yq hd 20 59 (run_un_op rfl (dq hd 21 60) (by go_simp)) rfl hR
      cases x
      ·exact ngq (.bool true) hd 20 59
      exact yq hd 20 59 (run_un_op rfl (dq hd 21 60) (by go_simp)) rfl hR
     ·cases hs
      ·exact yq hd 20 59 rfl (dq hd 22 61) hR
      cases x
      ·exact ngq (.bool true) hd 20 59
      exact yq hd 20 59 rfl (dq hd 22 61) hR
     ·cases hs
      ·exact yq hd 23 62 rfl (hρ 0 (by kernel_rfl)) hR
      cases x
      ·exact ngq undef hd 23 62
      exact ngq (.bool false) hd 23 62
     ·cases hs
      ·exact yq hd 23 62 (run_nilz rfl (dq hd 24 63)) rfl hR
      cases x
      ·exact ngq undef hd 23 62
      exact ngq (.bool false) hd 23 62
     ·cases hs
      ·exact yq hd 23 62 (run_field_op rfl (dq hd 25 64) (by go_simp)) rfl hR
      cases x
      ·exact ngq undef hd 23 62
      exact ngq (.bool false) hd 23 62
     ·cases hs
      ·have y9 := (rangeAt_below HK.out.2.1 HK.out.1 hR) 12 _ rfl
       exact yq hd 23 62 (run_load_op rfl (dq hd 26 65) (by go_simp)) rfl hR
      cases x
      ·exact ngq undef hd 23 62
      exact ngq (.bool false) hd 23 62
     ·cases hs
      ·exact yq hd 23 62 rfl (hρ 3 (by kernel_rfl)) hR
      cases x
      ·exact ngq undef hd 23 62
      exact ngq (.bool false) hd 23 62
     ·cases hs
      ·exact yq hd 23 62 (run_index_op rfl (dq hd 27 66) (dq hd 28 67) (by go_simp)) rfl hR
      cases x
      ·exact ngq undef hd 23 62
      exact ngq (.bool false) hd 23 62
     ·cases hs
      ·have h29 : _ = _ := dq hd 29 68
       have hr : (Instr.loadAt 118 (.pointer (some ⟨b5, o5 + k * 6, none⟩))).run prog u = .ok (.agg (aL (D.tl k) t1 (D.tl k).ws.length j1 t2 (D.tl k).bs.length j2).toArray) u := run_loadAt_mid u b5 (o5 + k * 6) 118 (aL (D.tl k) t1 (D.tl k).ws.length j1 t2 (D.tl k).bs.length j2) _ (rangeAt_below HK.out.2.2.2.2.2.1 HK.out.2.2.2.2.1 hR) underlying118 rfl (by kernel_rfl)
       exact yq hd 23 62 (run_load_op rfl h29 hr) rfl hR
      cases x
      ·exact ngq undef hd 23 62
      exact ngq (.bool false) hd 23 62
     ·cases hs
      ·exact yq hd 23 62 (run_bldz rfl (qs := #[]) (by simp) (by kernel_rfl)) rfl hR
      cases x
      ·exact ngq undef hd 23 62
      exact ngq (.bool false) hd 23 62
     ·cases hs
      ·have g23 : ρ (.tmp 62) = .bool true := gq hd 23 62
       have h30 : _ = _ := dq hd 30 69
       have h31 : _ = _ := dq hd 31 70
       refine .inl ⟨(by show (match ρ (.tmp 62) with | .bool b => b == true | _ => false) = true; rw [g23]; rfl), .inr ⟨_, _, run_call_op rfl (hf _) (args := #[.agg (aL (D.tl k) t1 (D.tl k).ws.length j1 t2 (D.tl k).bs.length j2).toArray, .agg ([.int .i64 0, .int .i64 0, .int .i64 0, .int .i64 0, .slice none 0 0, .slice none 0 0]).toArray]) (by simp [h30, h31]) (by kernel_rfl), ?_⟩⟩
       refine (sameR0_any (D.tl k) t1 j1 t2 j2 _ (HK.out.2.2.2.2.2.2.2.2.1.below hR) (HK.out.2.2.2.2.2.2.2.2.2.1.below hR) HK.out.2.2.2.2.2.2.2.2.2.2.2.1).mono ?_
       rintro e u' ⟨he, b'⟩
       exact ⟨_, he.trans (by rw [HK.out.2.2.2.2.2.2.2.2.2.2.2.2.2 rfl] <;> rfl), rfl, bel_nx hR b', b'⟩
      cases x
      ·exact ngq undef hd 23 62
      exact ngq (.bool false) hd 23 62
     ·cases hs
      ·exact yq hd 23 62 (run_un_op rfl (dq hd 32 71) (by go_simp)) rfl hR
      cases x
      ·exact ngq undef hd 23 62
      exact ngq (.bool false) hd 23 62
     ·cases hs
      ·exact yq hd 20 59 (run_pick_op rfl (dq hd 23 62)) (by simpa using (dq hd 33 72)) hR
      cases x
      ·exact ngq (.bool true) hd 20 59
      exact yq hd 20 59 (run_pick_op rfl (dq hd 23 62)) (by simpa using hc _) hR
     cases hs
     ·exact yr (run_pick_op rfl (dq hd 20 59)) (by simpa using (dq hd 34 73)) hR
     cases x
     ·exact yr (run_pick_op rfl (dq hd 20 59)) (by simpa using hc _) hR
     exact yr (run_pick_op rfl (dq hd 20 59)) (by simpa using (dq hd 34 73)) hR
    have hi : ¬ (k : Int) < (D.hs.length : Int) := by omega
    have HF : Hid (allN (tdB D) D.np = true /\ Below w.heap.size w wr) := ⟨by have h9 := HT.out.2.2.1; rw [show D.np = k by omega]; exact hall, hbl⟩
    clear hall hbl
    go_wp2
    go_ret
    exact ⟨by rw [HF.out.1]; rfl, HF.out.2⟩
  have f2 : ((D.nt : Int) != (D.np : Int)) = true := by simp; omega
  have HT : Hid (decide (D.hs.length = D.np) = true /\ decide (D.nt = D.np) = false) := ⟨decide_eq_true e1, decide_eq_false e2⟩
  rw [HT.out.1, HT.out.2, Bool.true_and, Bool.false_and]
  clear hr r1 r2 r3 r4 r5 hg h e1 e2
  go_enter func202, ntmps202
  go_upto_region 1 with fail
  go_quiet (fail)
  go_wp2
  go_ret
  exact ⟨rfl, by first | exact Below.refl _ _ | exact (Below.refl _ _).drew | exact drN _ _⟩
 have f1 : ((D.hs.length : Int) != (D.np : Int)) = true := by simp; omega
 have HT : Hid (decide (D.hs.length = D.np) = false) := decide_eq_false e1
 rw [HT.out, Bool.false_and]
 clear hr r1 r2 r3 r4 r5 hg h e1
 go_enter func202, ntmps202
 go_upto_region 1 with fail
 go_quiet (fail)
 go_wp2
 go_ret
 exact ⟨rfl, by first | exact Below.refl _ _ | exact (Below.refl _ _).drew | exact drN _ _⟩
theorem pendRight_any (D : VD) (g o : Nat) (w : World) (h : PdAt w g o D) (hb : BdD D) :
 Calls prog 145 #[.pointer (some ⟨g, o, none⟩)] w fun e w' => e = .returned (.bool (okPd D)) /\ Below w.heap.size w w' := by
 obtain ⟨x0, hx0⟩ : ∃ x, inB D.so 0 1000000000 = x := ⟨_, rfl⟩
 obtain ⟨x1, hx1⟩ : ∃ x, inB D.ta 0 1000000000 = x := ⟨_, rfl⟩
 obtain ⟨x2, hx2⟩ : ∃ x, okQ D.q = x := ⟨_, rfl⟩
 obtain ⟨x3, hx3⟩ : ∃ x, (decide (1 <= D.np /\ D.np <= 8) && allN (fun i => okPt (D.pt i)) D.np) = x := ⟨_, rfl⟩
 obtain ⟨x4, hx4⟩ : ∃ x, (decide (D.hs.length = D.np) && (decide (D.nt = D.np) && allN (tdB D) D.np)) = x := ⟨_, rfl⟩
 obtain ⟨n5, hn5⟩ : ∃ n, n = cntF D.hs D.hs.length := ⟨_, rfl⟩
 have HE : Hid (okPd D = (x0 && (x1 && (x2 && (x3 && (x4 && decide (0 < n5)))))) /\ inB D.so 0 1000000000 = x0 /\ inB D.ta 0 1000000000 = x1 /\ okQ D.q = x2 /\ (decide (1 <= D.np /\ D.np <= 8) && allN (fun i => okPt (D.pt i)) D.np) = x3 /\ (decide (D.hs.length = D.np) && (decide (D.nt = D.np) && allN (tdB D) D.np)) = x4 /\ n5 = cntF D.hs D.hs.length /\ PdAt w g o D /\ BdD D) := ⟨by unfold okPd; rw [hx0, hx1, hx2, <- hn5, <- hx3, <- hx4]; simp only [Bool.and_assoc], hx0, hx1, hx2, hx3, hx4, hn5, h, hb⟩
 obtain ⟨hg, a1, c1, a2, c2, a3, c3, a4, c4, a5, c5, hr, r1, r2, r3, r4, r5⟩ := h.cells
 have HR : Hid (w.rangeAt g o (dL D a1 D.q.ws.length c1 a2 D.q.bs.length c2 a3 D.np c3 a4 D.hs.length c4 a5 D.nt c5) /\ Rd w 0 (intsT D.q.ws) (.slice a1 D.q.ws.length c1) /\ Rd w 0 (boolsT D.q.bs) (.slice a2 D.q.bs.length c2)) := ⟨hr, r1, r2⟩
 rw [HE.out.1]
 have hn9 : n5 <= 2000000 := by have := cntF_le D.hs D.hs.length; have := hb.2.2.1; omega
 have y1 := hr 1 _ rfl
 have y2 := hr 2 _ rfl
 have y3 := hr 3 _ rfl
 have y4 := hr 4 _ rfl
 have y5 := hr 5 _ rfl
 have y6 := hr 6 _ rfl
 have y7 := hr 7 _ rfl
 have y8 := hr 8 _ rfl
 have y9 := hr 9 _ rfl
 clear hx0 hx1 hx2 hx3 hx4 hn5 hr r1 r2 r3 r4 r5 h hb hg
 go_enter func145, ntmps145
 go_wp2_with fail
 refine (isIdT _ _ _ HE.out.2.1).mono ?_
 rintro e w1 ⟨rfl, hw⟩
 have hw := hw.symm
 subst hw
 cases x0
 case false =>
  go_wp2
  go_ret
  exact ⟨rfl, Below.refl _ _⟩
 go_wp2_with fail
 refine (isIdT _ _ _ HE.out.2.2.1).mono ?_
 rintro e w1 ⟨rfl, hw⟩
 have hw := hw.symm
 subst hw
 cases x1
 case false =>
  go_wp2
  go_ret
  exact ⟨rfl, Below.refl _ _⟩
 go_wp2_with fail
 refine (implOkQ D.q a1 _ c1 a2 _ c2 _ HR.out.2.1 HR.out.2.2 HE.out.2.2.2.2.2.2.2.2.1).mono ?_
 rintro e w1 ⟨rfl, b1⟩
 rw [HE.out.2.2.2.1]
 have HB : Hid (Below w.heap.size w w1) := b1
 clear b1 y1 y2 y3 y4 y5 y6 y7 y8 y9
 cases x2
 case false =>
  go_wp2
  go_ret
  exact ⟨rfl, HB.out⟩
 go_wp2_with fail
 refine (partsRight_any D g o _ (HE.out.2.2.2.2.2.2.2.1.below HB.out) HE.out.2.2.2.2.2.2.2.2).mono ?_
 rintro e w2 ⟨rfl, b2⟩
 rw [HE.out.2.2.2.2.1]
 have HB2 : Hid (Below w.heap.size w w2) := bel_nx HB.out b2
 clear b2 HB
 cases x3
 case false =>
  go_wp2
  go_ret
  exact ⟨rfl, HB2.out⟩
 go_wp2_with fail
 refine (toldRight_any D g o _ (HE.out.2.2.2.2.2.2.2.1.below HB2.out) HE.out.2.2.2.2.2.2.2.2).mono ?_
 rintro e w3 ⟨rfl, b3⟩
 rw [HE.out.2.2.2.2.2.1]
 have HB3 : Hid (Below w.heap.size w w3) := bel_nx HB2.out b3
 clear b3 HB2
 cases x4
 case false =>
  go_wp2
  go_ret
  exact ⟨rfl, HB3.out⟩
 go_wp2_with fail
 refine (waits_any D g o _ (HE.out.2.2.2.2.2.2.2.1.below HB3.out) HE.out.2.2.2.2.2.2.2.2).mono ?_
 rintro e w4 ⟨rfl, hw⟩
 have hw := hw.symm
 subst hw
 rw [<- HE.out.2.2.2.2.2.2.1]
 by_cases h5 : 0 < n5
 ·have h6 : (0 : Int) < (n5 : Int) := by omega
  have HD : Hid (decide (0 < n5) = true) := decide_eq_true h5
  go_wp2
  go_ret
  exact ⟨by rw [HD.out]; rfl, HB3.out⟩
 have h6 : ¬ (0 : Int) < (n5 : Int) := by omega
 have HD : Hid (decide (0 < n5) = false) := decide_eq_false h5
 go_wp2
 go_ret
 exact ⟨by rw [HD.out]; rfl, HB3.out⟩
def lsT (X : VT) (k : Nat) : Int := if k = 0 then 0 else (X.f (k - 1)).id + 1
theorem row_at {X : VT} {k : Nat} (h : rowB X k = true) : okPd (X.f k) = true /\ 0 <= (X.f k).id /\ (X.f k).id < X.nx /\ (k = 0 \/ (X.f (k - 1)).id < (X.f k).id) := by
 unfold rowB inB at h
 simp only [Bool.and_eq_true, decide_eq_true_eq, Bool.or_eq_true] at h
 exact ⟨h.1, h.2.1.1, by omega, h.2.2⟩
theorem row_tests {X : VT} {k : Nat} (h : allN (rowB X) k = true) : rowB X k = (!decide ((X.f k).id < lsT X k) && (!decide (X.nx <= (X.f k).id) && okPd (X.f k))) := by
 have hp : k = 0 \/ 0 <= (X.f (k - 1)).id := by
  by_cases e : k = 0
  ·exact .inl e
  exact .inr (row_at (allN_iff.1 h (k - 1) (by omega))).2.1
 rw [Bool.eq_iff_iff]
 unfold rowB inB lsT
 simp only [Bool.and_eq_true, Bool.or_eq_true, Bool.not_eq_true', decide_eq_true_eq, decide_eq_false_iff_not]
 by_cases e : k = 0
 ·subst e
  simp only [if_true]
  constructor
  ·rintro ⟨h1, ⟨h2, h3⟩, _⟩
   exact ⟨by omega, by omega, h1⟩
  rintro ⟨h1, h2, h3⟩
  exact ⟨h3, ⟨by omega, by omega⟩, .inl trivial⟩
 simp only [if_neg e]
 have hp : 0 <= (X.f (k - 1)).id := by rcases hp with h | h; exact absurd h e; exact h
 constructor
 ·rintro ⟨h1, ⟨h2, h3⟩, h4⟩
  exact ⟨by omega, by omega, h1⟩
 rintro ⟨h1, h2, h3⟩
 exact ⟨h3, ⟨by omega, by omega⟩, .inr (by omega)⟩
def TbR (w : World) (X : VT) (a : Option Addr) (c : Nat) : Prop := Rd w 0 (.list 13 X.m (fun i => trs (dT (X.f i)))) (.slice a X.m c) /\ BdT X
theorem TbR.below {w w' : World} {X : VT} {a : Option Addr} {c : Nat} (h : TbR w X a c) (hb : Below w.heap.size w w') : TbR w' X a c := ⟨h.1.below hb, h.2⟩
theorem TbR.at {w : World} {X : VT} {a : Option Addr} {c k : Nat} (h : TbR w X a c) (hk : k < X.m) : ∃ b off, a = some ⟨b, off, none⟩ /\ PdAt w b (off + k * 13) (X.f k) /\ BdD (X.f k) := by
 obtain ⟨b, off, vs, ha, _, hb0, hlen, hr, hrd⟩ := h.1.at hk
 exact ⟨b, off, ha, ⟨hb0, vs, hlen, hr, hrd⟩, h.2.2 k hk⟩
theorem implTableOk_any (X : VT) (a : Option Addr) (c : Nat) (w : World) (h : TbR w X a c) :
 Calls prog 89 #[.agg (tL X a X.m c).toArray] w fun e w' => e = .returned (.bool (okTb X)) /\ Below w.heap.size w w' := by
 obtain ⟨x0, hx0⟩ : ∃ x, inB X.nx 0 1000000000 = x := ⟨_, rfl⟩
 obtain ⟨x1, hx1⟩ : ∃ x, decide (X.m <= 16) = x := ⟨_, rfl⟩
 obtain ⟨G, hG⟩ : ∃ G, G = w.heap.size := ⟨_, rfl⟩
 obtain ⟨W, hW⟩ : ∃ W, W = w.alloc (.cells (tL X a X.m c).toArray 38) := ⟨_, rfl⟩
 have HE : Hid (okTb X = (x0 && (x1 && allN (rowB X) X.m)) /\ inB X.nx 0 1000000000 = x0 /\ decide (X.m <= 16) = x1 /\ Below w.heap.size w W /\ Blk W G 38 (tL X a X.m c).toArray /\ TbR W X a c) := ⟨by unfold okTb; rw [hx0, hx1], hx0, hx1, by rw [hW]; exact bel_alloc _ _, by rw [hW, hG]; exact Blk.new _ _ _, h.below (by rw [hW]; exact bel_alloc _ _)⟩
 rw [HE.out.1]
 have hm2 := h.2.1
 clear hx0 hx1 h
 obtain ⟨⟨y0, y1⟩, yf⟩ := HE.out.2.2.2.2.1.tc2
 clear yf
 go_enter func89, ntmps89
 go_upto_region 1 with fail
 rw [<- hW, <- hG]
 clear hW hG
 go_wp2_with fail
 refine (isIdT _ _ _ HE.out.2.1).mono ?_
 rintro e w1 ⟨rfl, hw⟩
 have hw := hw.symm
 subst hw
 cases x0
 case false =>
  go_wp2
  go_ret
  exact ⟨rfl, HE.out.2.2.2.1⟩
 have hnx : 0 <= X.nx /\ X.nx <= 1000000000 := inB_yes HE.out.2.1
 obtain ⟨hnx0, hnx1⟩ := hnx
 cases x1
 case false =>
  have h16 : (16 : Int) < (X.m : Int) := by have := of_decide_eq_false HE.out.2.2.1; omega
  go_wp2
  go_ret
  exact ⟨rfl, HE.out.2.2.2.1⟩
 have h16 : ¬ (16 : Int) < (X.m : Int) := by have := of_decide_eq_true HE.out.2.2.1; omega
 go_wp2
 clear y0 y1
 go_loopw [3, 19] (fun l i wr => ∃ k : Nat, k <= X.m /\ i = .int .i64 k /\ l = .int .i64 (lsT X k) /\ allN (rowB X) k = true /\ Below W.heap.size W wr) (fun _ i _ => X.m - (intOf i).toNat)
 case atStart => exact ⟨0, Nat.zero_le _, rfl, rfl, rfl, Below.refl _ _⟩
 case round =>
  obtain ⟨k, hk, rfl, rfl, hall, hbl⟩ := hrel
  by_cases hlt : k < X.m
  ·have hi : (k : Int) < (X.m : Int) := by omega
   obtain ⟨b, off, rfl, hp, hbd⟩ := (HE.out.2.2.2.2.2.below hbl).at hlt
   obtain ⟨⟨y0, y1⟩, yf⟩ := (HE.out.2.2.2.2.1.below hbl).tc2
   clear yf
   obtain ⟨hb0, a1, c1, a2, c2, a3, c3, a4, c4, a5, c5, hr, -⟩ := hp.cells
   obtain ⟨ls, hls⟩ : ∃ x, x = lsT X k := ⟨_, rfl⟩
   obtain ⟨x, hx⟩ : ∃ x, okPd (X.f k) = x := ⟨_, rfl⟩
   have hrt := row_tests hall
   rw [<- hls, hx] at hrt
   rw [<- hls]
   obtain ⟨lt, hlt9⟩ : ∃ t, decide ((X.f k).id < ls) = t := ⟨_, rfl⟩
   obtain ⟨gq, hgq⟩ : ∃ t, decide (X.nx <= (X.f k).id) = t := ⟨_, rfl⟩
   have HD : Hid (decide ((X.f k).id < ls) = lt /\ decide (X.nx <= (X.f k).id) = gq) := ⟨hlt9, hgq⟩
   have HA : Hid (allN (rowB X) k = true /\ Below w.heap.size w wr /\ Below W.heap.size W wr /\ ls = lsT X k /\ rowB X k = (!lt && (!gq && x))) := ⟨hall, bel_nx HE.out.2.2.2.1 hbl, hbl, hls, by rw [hrt, hlt9, hgq]⟩
   clear hlt9 hgq
   have HK : Hid (Blk wr G 38 (tL X (some ⟨b, off, none⟩) X.m c).toArray /\ b < wr.heap.size /\ wr.rangeAt b (off + k * 13) (dL (X.f k) a1 (X.f k).q.ws.length c1 a2 (X.f k).q.bs.length c2 a3 (X.f k).np c3 a4 (X.f k).hs.length c4 a5 (X.f k).nt c5) /\ PdAt wr b (off + k * 13) (X.f k) /\ BdD (X.f k) /\ okPd (X.f k) = x) := ⟨HE.out.2.2.2.2.1.below hbl, hb0, hr, hp, hbd, hx⟩
   clear hall hbl hls hrt hb0 hr hp hbd hx
   go_upto_region 8 with fail
   clear y0 y1
   refine wp_region_any (by kernel_rfl) ?_
   refine wpAny_vals (fun u => Below wr.heap.size wr u) (fun i v u => match i with
    | 0 => v = .pointer (some ⟨b, off + k * 13, none⟩)
    | 1 => v = .pointer (some ⟨b, off + k * 13, none⟩)
    | 2 => v = .pointer (some ⟨b, off + k * 13, none⟩)
    | 3 => v = .int .i64 (X.f k).id
    | 4 => v = .int .i64 ls
    | 5 => v = .bool lt
    | 6 => v = .bool lt
    | 7 => v = cond lt undef (.pointer (some ⟨b, off + k * 13, none⟩))
    | 8 => v = cond lt undef (.pointer (some ⟨b, off + k * 13, none⟩))
    | 9 => v = cond lt undef (.pointer (some ⟨b, off + k * 13, none⟩))
    | 10 => v = cond lt undef (.int .i64 (X.f k).id)
    | 11 => v = cond lt undef (.pointer (some ⟨G, 0, none⟩))
    | 12 => v = cond lt undef (.int .i64 X.nx)
    | 13 => v = cond lt undef (.bool gq)
    | 14 => v = cond lt (.bool true) (.bool gq)
    | 15 => v = cond lt (.bool true) (.bool gq)
    | 16 => v = cond lt undef (cond gq undef (.pointer (some ⟨b, off + k * 13, none⟩)))
    | 17 => v = cond lt undef (cond gq undef (.bool x))
    | 18 => v = cond lt undef (cond gq undef (.bool (!x)))
    | 19 => v = cond lt (.bool true) (cond gq (.bool true) (.bool (!x)))
    | _ => v = undef) (by kernel_rfl) (by kernel_rfl) (fun _ _ _ _ h _ => h) (by first | exact Below.refl _ _ | exact (Below.refl _ _).drew) ?_ ?_ _ _ rfl (by decide) (fun i => by simp [Array.getD]; try (split <;> rfl))
   ·intro vs u hR hall
    simp only [putsL]
    cases lt
    ·cases gq
     ·cases x
      ·have e19 : vs 19 = .bool true := hall 19 (by simp)
       rw [e19]
       clear hall e19
       have HF : Hid (allN (rowB X) X.m = false /\ Below w.heap.size w u) := ⟨allN_no hlt (by rw [HA.out.2.2.2.2]; rfl), bel_nx HA.out.2.1 hR⟩
       clear HK HA hR
       go_simp
       go_wp2
       go_ret
       exact ⟨by rw [HF.out.1]; rfl, HF.out.2⟩
      have e19 : vs 19 = .bool false := hall 19 (by simp)
      rw [e19]
      clear hall e19
      have hgood : rowB X k = true := by rw [HA.out.2.2.2.2]; rfl
      have hpos := (row_at hgood).2
      have hp1 : 0 <= (X.f k).id := hpos.1
      have hp2 : (X.f k).id < X.nx := hpos.2.1
      have d0 : u.cell? ⟨b, off + k * 13, none⟩ = some (.int .i64 (X.f k).id) := (rangeAt_below HK.out.2.2.1 HK.out.2.1 hR) 0 _ rfl
      have HF : Hid (allN (rowB X) (k + 1) = true /\ Below W.heap.size W u /\ (X.f k).id + 1 = lsT X (k + 1)) := ⟨allN_succ HA.out.1 hgood, bel_nx HA.out.2.2.1 hR, by simp [lsT]⟩
      clear HK HA hR hgood hpos
      go_simp
      go_wp2
      go_roundw
      case rel => exact ⟨k + 1, by omega, by go_num, by rw [<- HF.out.2.2], HF.out.1, HF.out.2.1⟩
      case measure => simp [intOf]; omega
     have e19 : vs 19 = .bool true := hall 19 (by simp)
     rw [e19]
     clear hall e19
     have HF : Hid (allN (rowB X) X.m = false /\ Below w.heap.size w u) := ⟨allN_no hlt (by rw [HA.out.2.2.2.2]; rfl), bel_nx HA.out.2.1 hR⟩
     clear HK HA hR
     go_simp
     go_wp2
     go_ret
     exact ⟨by rw [HF.out.1]; rfl, HF.out.2⟩
    have e19 : vs 19 = .bool true := hall 19 (by simp)
    rw [e19]
    clear hall e19
    have HF : Hid (allN (rowB X) X.m = false /\ Below w.heap.size w u) := ⟨allN_no hlt (by rw [HA.out.2.2.2.2]; rfl), bel_nx HA.out.2.1 hR⟩
    clear HK HA hR
    go_simp
    go_wp2
    go_ret
    exact ⟨by rw [HF.out.1]; rfl, HF.out.2⟩
   intro u i o ρ hR ho hρ hc hf hd
   have hi : i < 20 := by
    have := (Array.getElem?_eq_some_iff.1 ho).1
    simpa using this
   obtain rfl | rfl | rfl | rfl | rfl | rfl | rfl | rfl | rfl | rfl | rfl | rfl | rfl | rfl | rfl | rfl | rfl | rfl | rfl | rfl : i = 0 \/ i = 1 \/ i = 2 \/ i = 3 \/ i = 4 \/ i = 5 \/ i = 6 \/ i = 7 \/ i = 8 \/ i = 9 \/ i = 10 \/ i = 11 \/ i = 12 \/ i = 13 \/ i = 14 \/ i = 15 \/ i = 16 \/ i = 17 \/ i = 18 \/ i = 19 := by omega
   all_goals (simp only [List.getElem?_toArray, List.getElem?_cons_zero, List.getElem?_cons_succ, Option.some.injEq] at ho; subst ho)
   ·exact yr rfl (hρ 5 (by kernel_rfl)) hR
   ·exact yr (run_nilz rfl (dq hd 0 26)) rfl hR
   ·exact yr (run_field_op rfl (dq hd 1 27) (by go_simp)) rfl hR
   ·have y9 : u.cell? ⟨b, off + k * 13, none⟩ = some (.int .i64 (X.f k).id) := (rangeAt_below HK.out.2.2.1 HK.out.2.1 hR) 0 _ rfl
    exact yr (run_load_op rfl (dq hd 2 28) (by go_simp)) rfl hR
   ·exact yr rfl (hρ 3 (by kernel_rfl)) hR
   ·cases lt
    ·have t0 := of_decide_eq_false HD.out.1
     exact yr (run_bin_op rfl (dq hd 3 29) (dq hd 4 30) (by go_simp)) rfl hR
    have t0 := of_decide_eq_true HD.out.1
    exact yr (run_bin_op rfl (dq hd 3 29) (dq hd 4 30) (by go_simp)) rfl hR
   ·exact yr rfl (dq hd 5 31) hR
   ·cases lt
    ·exact yq hd 6 32 rfl (hρ 5 (by kernel_rfl)) hR
    exact ngq (.bool true) hd 6 32
   ·cases lt
    ·exact yq hd 6 32 (run_nilz rfl (dq hd 7 33)) rfl hR
    exact ngq (.bool true) hd 6 32
   ·cases lt
    ·exact yq hd 6 32 (run_field_op rfl (dq hd 8 34) (by go_simp)) rfl hR
    exact ngq (.bool true) hd 6 32
   ·cases lt
    ·have y9 : u.cell? ⟨b, off + k * 13, none⟩ = some (.int .i64 (X.f k).id) := (rangeAt_below HK.out.2.2.1 HK.out.2.1 hR) 0 _ rfl
     exact yq hd 6 32 (run_load_op rfl (dq hd 9 35) (by go_simp)) rfl hR
    exact ngq (.bool true) hd 6 32
   ·cases lt
    ·exact yq hd 6 32 (run_field_op rfl (hρ 1 (by kernel_rfl)) (by go_simp)) rfl hR
    exact ngq (.bool true) hd 6 32
   ·cases lt
    ·have y9 : u.cell? ⟨G, 0, none⟩ = some (.int .i64 X.nx) := (HK.out.1.below hR).rng 0 _ rfl
     exact yq hd 6 32 (run_load_op rfl (dq hd 11 37) (by go_simp)) rfl hR
    exact ngq (.bool true) hd 6 32
   ·cases lt
    ·cases gq
     ·have t1 := of_decide_eq_false HD.out.2
      exact yq hd 6 32 (run_bin_op rfl (dq hd 10 36) (dq hd 12 38) (by go_simp)) rfl hR
     have t1 := of_decide_eq_true HD.out.2
     exact yq hd 6 32 (run_bin_op rfl (dq hd 10 36) (dq hd 12 38) (by go_simp)) rfl hR
    exact ngq (.bool true) hd 6 32
   ·cases lt
    ·exact yr (run_pick_op rfl (dq hd 6 32)) (by simpa using (dq hd 13 39)) hR
    exact yr (run_pick_op rfl (dq hd 6 32)) (by simpa using hc _) hR
   ·exact yr rfl (dq hd 14 40) hR
   ·cases lt
    ·cases gq
     ·exact yq hd 15 41 rfl (hρ 5 (by kernel_rfl)) hR
     exact ngq (.bool true) hd 15 41
    exact ngq (.bool true) hd 15 41
   ·cases lt
    ·cases gq
     ·have g15 : ρ (.tmp 41) = .bool false := gq hd 15 41
      have h16 : _ = _ := dq hd 16 42
      refine .inl ⟨(by show (match ρ (.tmp 41) with | .bool b => b == false | _ => false) = true; rw [g15]; rfl), .inr ⟨_, _, run_call_op rfl (hf _) (args := #[.pointer (some ⟨b, off + k * 13, none⟩)]) (by simp [h16]) (by kernel_rfl), ?_⟩⟩
      refine (pendRight_any (X.f k) b (off + k * 13) _ (HK.out.2.2.2.1.below hR) HK.out.2.2.2.2.1).mono ?_
      rintro e u' ⟨he, b'⟩
      exact ⟨_, he.trans (by rw [HK.out.2.2.2.2.2] <;> rfl), rfl, bel_nx hR b', b'⟩
     exact ngq (.bool true) hd 15 41
    exact ngq (.bool true) hd 15 41
   ·cases lt
    ·cases gq
     ·exact yq hd 15 41 (run_un_op rfl (dq hd 17 43) (by go_simp)) rfl hR
     exact ngq (.bool true) hd 15 41
    exact ngq (.bool true) hd 15 41
   cases lt
   ·cases gq
    ·exact yr (run_pick_op rfl (dq hd 15 41)) (by simpa using (dq hd 18 44)) hR
    exact yr (run_pick_op rfl (dq hd 15 41)) (by simpa using hc _) hR
   exact yr (run_pick_op rfl (dq hd 15 41)) (by simpa using hc _) hR
  have hi : ¬ (k : Int) < (X.m : Int) := by omega
  have e9 : k = X.m := by omega
  have HF : Hid (allN (rowB X) X.m = true /\ Below w.heap.size w wr) := ⟨by rw [<- e9]; exact hall, bel_nx HE.out.2.2.2.1 hbl⟩
  clear hall hbl e9
  go_wp2
  go_ret
  exact ⟨by rw [HF.out.1]; rfl, HF.out.2⟩
noncomputable def okRuB (X : VC) : Bool := @decide (OkRs X.f X.n) (Classical.propDecidable _)
theorem okRuB_iff (X : VC) : okRuB X = true ↔ OkRs X.f X.n := by
 unfold okRuB
 exact @decide_eq_true_iff _ (Classical.propDecidable _)
noncomputable def okFb (X : VF) : Bool := inB X.nw 0 4294967295 && (allN (fun k => inB (cnV X k) 0 1000000000) 4 && (okC X.set.wt X.set.tr (okRuB X.set) && (okTb X.op && ((decide (X.nl = 6) && allN (fun i => okVN (X.lf i)) X.nl) && callsB X))))
def BdF (X : VF) : Prop := X.set.n <= 2000000 /\ (∀ k, k < X.set.n -> -9223372036854775808 <= (X.set.f k).sh /\ (X.set.f k).sh <= 9223372036854775807) /\ BdT X.op /\ X.nl <= 2000000 /\ ∀ k, k < X.nl -> BdN (X.lf k)
theorem okTb_row {X : VT} (h : okTb X = true) : allN (rowB X) X.m = true /\ X.m <= 16 := by
 unfold okTb at h
 simp only [Bool.and_eq_true, decide_eq_true_eq] at h
 exact ⟨h.2.2, h.2.1⟩
theorem okVN_q {N : VN} (h : okVN N = true) : (lcV N).length <= 41 := by
 unfold okVN okLn at h
 simp only [Bool.and_eq_true, decide_eq_true_eq] at h
 have := h.2.2.1
 rw [lcV_len]
 split <;> omega
theorem okLs_q {X : VF} (h : (decide (X.nl = 6) && allN (fun i => okVN (X.lf i)) X.nl) = true) : X.nl = 6 /\ ∀ k, k < X.nl -> (lcV (X.lf k)).length <= 41 := by
 simp only [Bool.and_eq_true, decide_eq_true_eq] at h
 exact ⟨h.1, fun k hk => okVN_q (allN_iff.1 h.2 k hk)⟩
theorem fabRight_any (X : VF) (g o : Nat) (w : World) (h : FbAt w g o X) (hb : BdF X) :
 Calls prog 44 #[.pointer (some ⟨g, o, none⟩)] w fun e w' => e = .returned (.bool (okFb X)) /\ Below w.heap.size w w' := by
 obtain ⟨x0, h0⟩ : ∃ x, inB X.nw 0 4294967295 = x := ⟨_, rfl⟩
 obtain ⟨x1, h1⟩ : ∃ x, allN (fun k => inB (cnV X k) 0 1000000000) 4 = x := ⟨_, rfl⟩
 obtain ⟨x2, h2⟩ : ∃ x, okC X.set.wt X.set.tr (okRuB X.set) = x := ⟨_, rfl⟩
 obtain ⟨x3, h3⟩ : ∃ x, okTb X.op = x := ⟨_, rfl⟩
 obtain ⟨x4, h4⟩ : ∃ x, (decide (X.nl = 6) && allN (fun i => okVN (X.lf i)) X.nl) = x := ⟨_, rfl⟩
 obtain ⟨x5, h5⟩ : ∃ x, callsB X = x := ⟨_, rfl⟩
 have he : okFb X = (x0 && (x1 && (x2 && (x3 && (x4 && x5))))) := by unfold okFb; rw [h0, h1, h2, h3, h4, h5]
 rw [he]
 have HX : Hid (inB X.nw 0 4294967295 = x0 /\ allN (fun k => inB (cnV X k) 0 1000000000) 4 = x1 /\ okC X.set.wt X.set.tr (okRuB X.set) = x2 /\ okTb X.op = x3 /\ (decide (X.nl = 6) && allN (fun i => okVN (X.lf i)) X.nl) = x4 /\ callsB X = x5) := ⟨h0, h1, h2, h3, h4, h5⟩
 have HP : Hid (FbAt w g o X /\ BdF X) := ⟨h, hb⟩
 obtain ⟨a1, c1, a2, c2, a3, c3, ⟨y0, y1, y2, y3, y4, y5, y6, y7, y8, y9, y10⟩, r1, r2, r3⟩ := h.tc
 clear he h0 h1 h2 h3 h4 h5 h hb r1 r2 r3
 go_enter func44, ntmps44
 go_wp2_with fail
 refine (isTickL _ _ _ HX.out.1).mono ?_
 rintro e w1 ⟨rfl, hw⟩
 have hw := hw.symm
 subst hw
 cases x0 with
 | false =>
  go_wp2
  go_ret
  exact ⟨rfl, Below.refl _ _⟩
 | true =>
 go_wp2_with fail
 refine (countsRight_any X g o _ HP.out.1).mono ?_
 rintro e w1 ⟨rfl, hw⟩
 have hw := hw.symm
 subst hw
 rw [HX.out.2.1]
 cases x1 with
 | false =>
  go_wp2
  go_ret
  exact ⟨rfl, Below.refl _ _⟩
 | true =>
 have HU : Hid (Rd w 0 (.list 7 X.set.n (fun i => trs (xrT (X.set.f i)))) (.slice a1 X.set.n c1)) := by
  obtain ⟨b1, d1, b2, d2, b3, d3, ⟨z0, z1, z2, z3, z4, z5, z6, z7, z8, z9, z10⟩, q1, q2, q3⟩ := HP.out.1.tc
  rw [y3] at z3
  simp only [Option.some.injEq, Value.slice.injEq] at z3
  obtain ⟨rfl, -, rfl⟩ := z3
  exact q1
 go_wp2_with fail
 refine (implConfigOk_any X.set.wt X.set.tr a1 X.set.n c1 X.set.f _ HU.out.slu.2 HP.out.2.1 HP.out.2.2.1 (okRuB X.set) (okRuB_iff X.set)).mono ?_
 rintro e w1 ⟨rfl, b1⟩
 rw [HX.out.2.2.1]
 have B1 : Hid (Below w.heap.size w w1) := b1
 clear b1 HU y0 y1 y2 y3 y4 y5 y6 y7 y8 y9 y10
 cases x2 with
 | false =>
  go_wp2
  go_ret
  exact ⟨rfl, B1.out⟩
 | true =>
 obtain ⟨f1, k1, f2, k2, f3, k3, ⟨y0, y1, y2, y3, y4, y5, y6, y7, y8, y9, y10⟩, r1, r2, r3⟩ := (HP.out.1.below B1.out).tc
 have HT : Hid (TbR w1 X.op f2 k2) := ⟨r2, HP.out.2.2.2.1⟩
 clear r1 r2 r3
 go_wp2_with fail
 refine (implTableOk_any X.op f2 k2 _ HT.out).mono ?_
 rintro e w2 ⟨rfl, b2⟩
 rw [HX.out.2.2.2.1]
 have B2 : Hid (Below w.heap.size w w2) := bel_nx B1.out b2
 clear b2 HT B1 y0 y1 y2 y3 y4 y5 y6 y7 y8 y9 y10
 cases x3 with
 | false =>
  go_wp2
  go_ret
  exact ⟨rfl, B2.out⟩
 | true =>
 go_wp2_with fail
 refine (linesRight_any X g o _ (HP.out.1.below B2.out) HP.out.2.2.2.2.2).mono ?_
 rintro e w3 ⟨rfl, b3⟩
 rw [HX.out.2.2.2.2.1]
 have B3 : Hid (Below w.heap.size w w3) := bel_nx B2.out b3
 clear b3 B2
 cases x4 with
 | false =>
  go_wp2
  go_ret
  exact ⟨rfl, B3.out⟩
 | true =>
 go_wp2_with fail
 refine (callsRight_any X g o _ (HP.out.1.below B3.out) (okTb_row HX.out.2.2.2.1).1 (okTb_row HX.out.2.2.2.1).2 (by have := (okLs_q HX.out.2.2.2.2.1).1; omega) HP.out.2.2.2.2.2 HP.out.2.2.2.1 (okLs_q HX.out.2.2.2.2.1).2).mono ?_
 rintro e w4 ⟨rfl, b4⟩
 rw [HX.out.2.2.2.2.2]
 have B4 : Hid (Below w.heap.size w w4) := bel_nx B3.out b4
 clear b4 B3
 go_wp2
 go_ret
 exact ⟨rfl, B4.out⟩
theorem implFabricOk_any (X : VF) (a1 : Option Addr) (c1 : Nat) (a2 : Option Addr) (c2 : Nat) (a3 : Option Addr) (c3 : Nat) (w : World) (h : RdL w 0 (trs (xfT X)) (xfL X a1 X.set.n c1 a2 X.op.m c2 a3 X.nl c3)) (hb : BdF X) :
 Calls prog 11 #[.agg (xfL X a1 X.set.n c1 a2 X.op.m c2 a3 X.nl c3).toArray] w fun e w' => e = .returned (.bool (okFb X)) /\ Below w.heap.size w w' := by
 obtain ⟨W, hW⟩ : ∃ W, W = w.alloc (.cells (xfL X a1 X.set.n c1 a2 X.op.m c2 a3 X.nl c3).toArray 41) := ⟨_, rfl⟩
 obtain ⟨G, hG⟩ : ∃ G, G = w.heap.size := ⟨_, rfl⟩
 have bW : Below w.heap.size w W := by rw [hW]; exact bel_alloc _ _
 have k1 : Blk W G 41 (xfL X a1 X.set.n c1 a2 X.op.m c2 a3 X.nl c3).toArray := by rw [hW, hG]; exact Blk.new _ _ _
 have HE : Hid (FbAt W G 0 X /\ Below w.heap.size w W /\ BdF X) := ⟨⟨k1.lt, _, rfl, k1.rng, h.below bW⟩, bW, hb⟩
 clear k1 bW h hb
 go_enter func11, ntmps11
 go_upto_region 1 with fail
 rw [<- hW, <- hG]
 clear hW hG
 go_wp2_with fail
 refine (fabRight_any X G 0 _ HE.out.1 HE.out.2.2).mono ?_
 rintro e w1 ⟨rfl, b1⟩
 have B1 : Hid (Below w.heap.size w w1) := bel_nx HE.out.2.1 b1
 clear b1
 go_wp2
 go_ret
 exact ⟨rfl, B1.out⟩
end Go.Proofs.YtplaoagcedgdfaaGreat
