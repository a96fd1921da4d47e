/- Texts that the proof needs, joined: Tb2 Tb3. -/
import Derived.Test.YtlhjiiifmfgnoaaGreatV11
import Derived.Test.YtlhjiiifmfgnoaaGreatV13
import Derived.BigQuiet
set_option linter.unusedVariables false
set_option linter.unusedSimpArgs false
set_option maxHeartbeats 8000000
set_option maxRecDepth 20000
namespace Go.Proofs.YtlhjiiifmfgnoaaGreat
open Go.RowKit Go.Joins
theorem drN (w : World) (n : Nat) : Below w.heap.size w (w.drewN n) := ⟨rfl, rfl, rfl, Nat.le_refl _, fun _ _ => rfl⟩
theorem implSuQ (Q : VQ) (A : VA) (a1 : Option Addr) (l1 c1 : Nat) (a2 : Option Addr) (l2 c2 : Nat) (b1 : Option Addr) (m1 d1 : Nat) (b2 : Option Addr) (m2 d2 : Nat) (w : World) (r1 : Rd w 0 (intsT Q.ws) (.slice a1 l1 c1)) (r2 : Rd w 0 (boolsT Q.bs) (.slice a2 l2 c2)) (r3 : Rd w 0 (intsT A.ws) (.slice b1 m1 d1)) (r4 : Rd w 0 (boolsT A.bs) (.slice b2 m2 d2)) (hb : BdQ Q) (ha : BdA A) :
 Calls Tryz.prog 97 #[.agg (qL Q a1 l1 c1 a2 l2 c2).toArray, .agg (aL A b1 m1 d1 b2 m2 d2).toArray] w fun e w' => e = .returned (.bool (suQ Q A)) /\ Below w.heap.size w w' := by
 obtain ⟨e1, _, s1⟩ := r1.int3
 obtain ⟨e2, _, s2⟩ := r2.bool3
 obtain ⟨e3, _, s3⟩ := r3.int3
 obtain ⟨e4, h4, s4⟩ := r4.bool3
 unfold suQ
 rw [<- e1, <- e2, <- e3, <- e4]
 exact implSuits_q Q.kd A.kd A.fl Q.pl Q.n Q.wa a1 a2 l1 l2 c1 c2 Q.ws Q.bs A.pl A.n b1 b2 m1 m2 d1 d2 A.ws A.bs w e1 e2 s1 s2 hb.1 hb.2 e3 e4 s3 s4 ha.1 ha.2 h4
theorem noA_eq (X : VA) : noA X = ((X.kd == 0) && ((X.fl == 0) && ((X.pl == 0) && ((X.n == 0) && (decide (X.ws = []) && decide (X.bs = [])))))) := by
 unfold noA
 have h1 : ((X.ws.length : Int) == 0) = decide (X.ws = []) := by cases X.ws <;> simp; omega
 have h2 : ((X.bs.length : Int) == 0) = decide (X.bs = []) := by cases X.bs <;> simp; omega
 rw [h1, h2]
theorem sameR0_any (X : VA) (a1 : Option Addr) (c1 : Nat) (a2 : Option Addr) (c2 : Nat) (w : World) (r1 : Rd w 0 (intsT X.ws) (.slice a1 X.ws.length c1)) (r2 : Rd w 0 (boolsT X.bs) (.slice a2 X.bs.length c2)) (hb : BdA X) :
 Calls Tryz.prog 98 #[.agg (aL X a1 X.ws.length c1 a2 X.bs.length c2).toArray, .agg ([.int .i64 0, .int .i64 0, .int .i64 0, .int .i64 0, .slice none 0 0, .slice none 0 0]).toArray] w fun e w' => e = .returned (.bool (noA X)) /\ Below w.heap.size w w' := by
 obtain ⟨t0, q0⟩ : ∃ t, (X.kd == 0) = t := ⟨_, rfl⟩
 obtain ⟨t1, q1⟩ : ∃ t, (X.fl == 0) = t := ⟨_, rfl⟩
 obtain ⟨t2, q2⟩ : ∃ t, (X.pl == 0) = t := ⟨_, rfl⟩
 obtain ⟨t3, q3⟩ : ∃ t, (X.n == 0) = t := ⟨_, rfl⟩
 obtain ⟨t4, q4⟩ : ∃ t, decide (X.ws = []) = t := ⟨_, rfl⟩
 obtain ⟨t5, q5⟩ : ∃ t, decide (X.bs = []) = t := ⟨_, rfl⟩
 obtain ⟨W, hW⟩ : ∃ W, W = (w.alloc (.cells (aL X a1 X.ws.length c1 a2 X.bs.length c2).toArray 89)).alloc (.cells ([.int .i64 0, .int .i64 0, .int .i64 0, .int .i64 0, .slice none 0 0, .slice none 0 0]).toArray 89) := ⟨_, rfl⟩
 have HE : Hid (noA X = (t0 && (t1 && (t2 && (t3 && (t4 && t5))))) /\ decide (X.ws = []) = t4 /\ decide (X.bs = []) = t5 /\ Below w.heap.size w W /\ Blk W w.heap.size 89 (aL X a1 X.ws.length c1 a2 X.bs.length c2).toArray /\ Blk W (w.heap.size + 1) 89 ([.int .i64 0, .int .i64 0, .int .i64 0, .int .i64 0, .slice none 0 0, .slice none 0 0]).toArray /\ SlI W a1 X.ws /\ SlB W a2 X.bs) := by
  have B : Below w.heap.size w W := by rw [hW]; exact bel_nx (bel_alloc _ _) (bel_alloc _ _)
  exact ⟨by rw [noA_eq, q0, q1, q2, q3, q4, q5], q4, q5, B, by rw [hW]; exact (Blk.new w _ _).below (bel_alloc _ _), by rw [hW]; have := Blk.new (w.alloc (.cells (aL X a1 X.ws.length c1 a2 X.bs.length c2).toArray 89)) ([.int .i64 0, .int .i64 0, .int .i64 0, .int .i64 0, .slice none 0 0, .slice none 0 0]).toArray 89; simpa using this, (r1.below B).int3.2.2, (r2.below B).bool3.2.2⟩
 rw [HE.out.1]
 obtain ⟨⟨y0, y1, y2, y3, y4, y5⟩, yf⟩ := HE.out.2.2.2.2.1.tc6
 obtain ⟨⟨z0, z1, z2, z3, z4, z5⟩, zf⟩ := HE.out.2.2.2.2.2.1.tc6
 clear q4 q5 r1 r2 yf zf
 cases t0
 case false =>
  go_enter Tryz.func98, Tryz.ntmps98
  go_upto_region 1 with fail
  rw [<- hW]
  clear hW
  go_wp2
  go_ret
  exact ⟨rfl, HE.out.2.2.2.1⟩
 cases t1
 case false =>
  go_enter Tryz.func98, Tryz.ntmps98
  go_upto_region 1 with fail
  rw [<- hW]
  clear hW
  go_wp2
  go_ret
  exact ⟨rfl, HE.out.2.2.2.1⟩
 cases t2
 case false =>
  go_enter Tryz.func98, Tryz.ntmps98
  go_upto_region 1 with fail
  rw [<- hW]
  clear hW
  go_wp2
  go_ret
  exact ⟨rfl, HE.out.2.2.2.1⟩
 cases t3
 case false =>
  go_enter Tryz.func98, Tryz.ntmps98
  go_upto_region 1 with fail
  rw [<- hW]
  clear hW
  go_wp2
  go_ret
  exact ⟨rfl, HE.out.2.2.2.1⟩
 go_enter Tryz.func98, Tryz.ntmps98
 go_upto_region 1 with fail
 rw [<- hW]
 clear hW
 go_wp2_with fail
 refine (equal_int_any a1 none _ 0 c1 0 X.ws [] _ rfl rfl HE.out.2.2.2.2.2.2.1 (.inl rfl) hb.1 (by simp) t4 HE.out.2.1).mono ?_
 rintro e w1 ⟨rfl, b1⟩
 have HB : Hid (Below W.heap.size W w1) := b1
 clear b1 y0 y1 y2 y3 y4 y5 z0 z1 z2 z3 z4 z5
 cases t4
 case false =>
  go_wp2
  go_ret
  exact ⟨rfl, bel_nx HE.out.2.2.2.1 HB.out⟩
 obtain ⟨⟨y0, y1, y2, y3, y4, y5⟩, yf⟩ := (HE.out.2.2.2.2.1.below HB.out).tc6
 obtain ⟨⟨z0, z1, z2, z3, z4, z5⟩, zf⟩ := (HE.out.2.2.2.2.2.1.below HB.out).tc6
 clear yf zf
 go_wp2_with fail
 refine (equal_bool_any a2 none _ 0 c2 0 X.bs [] _ rfl rfl (HE.out.2.2.2.2.2.2.2.below HB.out) (.inl rfl) hb.2 (by simp) t5 HE.out.2.2.1).mono ?_
 rintro e w2 ⟨rfl, b2⟩
 have B2 := bel_nx (bel_nx HE.out.2.2.2.1 HB.out) b2
 clear b2 y0 y1 y2 y3 y4 y5 z0 z1 z2 z3 z4 z5
 go_wp2
 go_ret
 exact ⟨rfl, B2⟩
theorem toldRight_any (D : VD) (g o : Nat) (w : World) (h : PdAt w g o D) (hb : BdD D) :
 Calls Tryz.prog 80 #[.pointer (some ⟨g, o, none⟩)] w fun e w' => e = .returned (.bool (decide (D.hs.length = D.np) && (decide (D.nt = D.np) && allN (tdB D) D.np))) /\ Below w.heap.size w w' := by
 have HP : Hid (PdAt w g o D /\ BdD D) := ⟨h, hb⟩
 obtain ⟨hg, a1, c1, a2, c2, a3, c3, a4, c4, a5, c5, hr, r1, r2, r3, r4, r5⟩ := h.cells
 have y10 : w.cell? ⟨g, o + 10, none⟩ = _ := hr 10 _ rfl
 have y11 : w.cell? ⟨g, o + 11, none⟩ = _ := hr 11 _ rfl
 have y12 : w.cell? ⟨g, o + 12, none⟩ = _ := hr 12 _ rfl
 obtain ⟨-, hn1, hn2, hn3, -, -⟩ := hb
 by_cases e1 : D.hs.length = D.np
 ·have f1 : ((D.hs.length : Int) != (D.np : Int)) = false := by simp [e1]
  have f1' : ((D.hs.length : Int) == (D.np : Int)) = true := by simp [e1]
  by_cases e2 : D.nt = D.np
  ·have f2 : ((D.nt : Int) != (D.np : Int)) = false := by simp [e2]
   have HT : Hid (decide (D.hs.length = D.np) = true /\ decide (D.nt = D.np) = true /\ D.hs.length = D.np /\ D.nt = D.np) := ⟨decide_eq_true e1, decide_eq_true e2, e1, e2⟩
   rw [HT.out.1, HT.out.2.1, Bool.true_and, Bool.true_and]
   have HR : Hid (w.rangeAt g o (dL D a1 D.q.ws.length c1 a2 D.q.bs.length c2 a3 D.np c3 a4 D.hs.length c4 a5 D.nt c5) /\ g < w.heap.size /\ Rd w 0 (.list 8 D.np (fun i => trs (pT (D.pt i)))) (.slice a3 D.np c3) /\ Rd w 0 (boolsT D.hs) (.slice a4 D.hs.length c4) /\ Rd w 0 (.list 6 D.nt (fun i => trs (aT (D.tl i)))) (.slice a5 D.nt c5)) := ⟨hr, hg, r3, r4, r5⟩
   clear hr r1 r2 r3 r4 r5 hg h e1 e2
   go_enter Tryz.func80, Tryz.ntmps80
   go_upto_region 1 with fail
   go_quiet (fail)
   go_wp2
   clear y10 y11 y12 f1 f1' f2
   go_loopw [34] (fun i wr => ∃ k : Nat, k <= D.hs.length /\ i = .int .i64 k /\ allN (tdB D) k = true /\ Below w.heap.size w wr) (fun i _ => D.hs.length - (intOf i).toNat)
   case atStart => exact ⟨0, Nat.zero_le _, rfl, rfl, by first | exact Below.refl _ _ | exact (Below.refl _ _).drew | exact drN _ _⟩
   case round =>
    obtain ⟨k, hk, rfl, hall, hbl⟩ := hrel
    by_cases hlt : k < D.hs.length
    ·have hi : (k : Int) < (D.hs.length : Int) := by omega
     have hi3 : (k : Int) < (D.np : Int) := by have := HT.out.2.2.1; omega
     have hi5 : (k : Int) < (D.nt : Int) := by have := HT.out.2.2; omega
     obtain ⟨b4, o4, rfl, hb4, d0⟩ := (HR.out.2.2.2.1.below hbl).bit (k := k) (n := D.np) hlt
     obtain ⟨b3, o3, vs, rfl, _, hb3, hlen, hr3, hrd⟩ := (HR.out.2.2.1.below hbl).at (k := k) (by have := HT.out.2.2.1; omega)
     obtain ⟨p1, k1, p2, k2, rfl, rp1, rp2⟩ := VP.cells hrd hlen
     clear hlen hrd
     obtain ⟨b5, o5, vs, rfl, _, hb5, hlen, hr5, hrd⟩ := (HR.out.2.2.2.2.below hbl).at (k := k) (by have := HT.out.2.2; omega)
     obtain ⟨t1, j1, t2, j2, rfl, rt1, rt2⟩ := VA.cells hrd hlen
     clear hlen hrd
     obtain ⟨hs, hhs⟩ : ∃ x, D.hs.getD k false = x := ⟨_, rfl⟩
     rw [hhs] at d0
     obtain ⟨x, hx⟩ : ∃ x, tdB D k = x := ⟨_, rfl⟩
     have HA : Hid (allN (tdB D) k = true /\ tdB D k = x /\ Below w.heap.size w wr) := ⟨hall, hx, hbl⟩
     have hbq := HP.out.2.2.2.2.2.1 k (by have := HT.out.2.2.1; omega)
     have hba := HP.out.2.2.2.2.2.2 k (by have := HT.out.2.2; omega)
     have hgw := Nat.lt_of_lt_of_le HR.out.2.1 hbl.size
     have hrw := rangeAt_below HR.out.1 HR.out.2.1 hbl
     have HB : Hid (BdQ (D.pt k).q /\ BdA (D.tl k)) := ⟨hbq, hba⟩
     have hx2 : hs = true -> suQ (D.pt k).q (D.tl k) = x := fun e => by rw [<- hx]; unfold tdB; rw [hhs, e]; rfl
     have hx3 : hs = false -> noA (D.tl k) = x := fun e => by rw [<- hx]; unfold tdB; rw [hhs, e]; rfl
     have HK : Hid (g < wr.heap.size /\ wr.rangeAt g o (dL D a1 D.q.ws.length c1 a2 D.q.bs.length c2 (some ⟨b3, o3, none⟩) D.np c3 (some ⟨b4, o4, none⟩) D.hs.length c4 (some ⟨b5, o5, none⟩) D.nt c5) /\ b3 < wr.heap.size /\ wr.rangeAt b3 (o3 + k * 8) (pL (D.pt k) p1 (D.pt k).q.ws.length k1 p2 (D.pt k).q.bs.length k2) /\ b5 < wr.heap.size /\ wr.rangeAt b5 (o5 + k * 6) (aL (D.tl k) t1 (D.tl k).ws.length j1 t2 (D.tl k).bs.length j2) /\ Rd wr 0 (intsT (D.pt k).q.ws) (.slice p1 (D.pt k).q.ws.length k1) /\ Rd wr 0 (boolsT (D.pt k).q.bs) (.slice p2 (D.pt k).q.bs.length k2) /\ Rd wr 0 (intsT (D.tl k).ws) (.slice t1 (D.tl k).ws.length j1) /\ Rd wr 0 (boolsT (D.tl k).bs) (.slice t2 (D.tl k).bs.length j2) /\ BdQ (D.pt k).q /\ BdA (D.tl k) /\ (hs = true -> suQ (D.pt k).q (D.tl k) = x) /\ (hs = false -> noA (D.tl k) = x)) := ⟨hgw, hrw, hb3, hr3, hb5, hr5, rp1, rp2, rt1, rt2, hbq, hba, hx2, hx3⟩
     clear hx hx2 hx3 hhs hgw hrw hb3 hr3 hb5 hr5 rp1 rp2 rt1 rt2 hbq hba hall hbl hb4
     go_upto_region 6 with fail
     clear d0
     refine wp_region_any (by kernel_rfl) ?_
     refine wpAny_vals (fun u => Below wr.heap.size wr u) (fun i v u => match i with
      | 0 => v = .bool hs
      | 1 => v = .bool hs
      | 2 => v = cond hs (.pointer (some ⟨g, o, none⟩)) undef
      | 3 => v = cond hs (.pointer (some ⟨g, o, none⟩)) undef
      | 4 => v = cond hs (.pointer (some ⟨g, o + 10, none⟩)) undef
      | 5 => v = cond hs (.slice (some ⟨b3, o3, none⟩) D.np c3) undef
      | 6 => v = cond hs (.int .i64 (k : Int)) undef
      | 7 => v = cond hs (.pointer (some ⟨b3, o3 + k * 8, none⟩)) undef
      | 8 => v = cond hs (.pointer (some ⟨b3, o3 + k * 8 + 2, none⟩)) undef
      | 9 => v = cond hs (.agg ([.int .i64 (D.pt k).q.kd, .int .i64 (D.pt k).q.pl, .int .i64 (D.pt k).q.n, .slice p1 ((D.pt k).q.ws.length) k1, .slice p2 ((D.pt k).q.bs.length) k2, .int .i64 (D.pt k).q.wa]).toArray) undef
      | 10 => v = cond hs (.pointer (some ⟨g, o, none⟩)) undef
      | 11 => v = cond hs (.pointer (some ⟨g, o, none⟩)) undef
      | 12 => v = cond hs (.pointer (some ⟨g, o + 12, none⟩)) undef
      | 13 => v = cond hs (.slice (some ⟨b5, o5, none⟩) D.nt c5) undef
      | 14 => v = cond hs (.int .i64 (k : Int)) undef
      | 15 => v = cond hs (.pointer (some ⟨b5, o5 + k * 6, none⟩)) undef
      | 16 => v = cond hs (.agg (aL (D.tl k) t1 (D.tl k).ws.length j1 t2 (D.tl k).bs.length j2).toArray) undef
      | 17 => v = cond hs (.bool x) undef
      | 18 => v = cond hs (.bool (!x)) undef
      | 19 => v = cond hs (.bool (!x)) (.bool false)
      | 20 => v = cond hs (.bool (!x)) (.bool false)
      | 21 => v = cond hs (cond x (.bool true) undef) (.bool false)
      | 22 => v = cond hs (cond x (.bool false) undef) (.bool true)
      | 23 => v = cond hs (cond x (.bool false) undef) (.bool true)
      | 24 => v = cond hs undef (.pointer (some ⟨g, o, none⟩))
      | 25 => v = cond hs undef (.pointer (some ⟨g, o, none⟩))
      | 26 => v = cond hs undef (.pointer (some ⟨g, o + 12, none⟩))
      | 27 => v = cond hs undef (.slice (some ⟨b5, o5, none⟩) D.nt c5)
      | 28 => v = cond hs undef (.int .i64 (k : Int))
      | 29 => v = cond hs undef (.pointer (some ⟨b5, o5 + k * 6, none⟩))
      | 30 => v = cond hs undef (.agg (aL (D.tl k) t1 (D.tl k).ws.length j1 t2 (D.tl k).bs.length j2).toArray)
      | 31 => v = cond hs undef (.agg ([.int .i64 0, .int .i64 0, .int .i64 0, .int .i64 0, .slice none 0 0, .slice none 0 0]).toArray)
      | 32 => v = cond hs undef (.bool x)
      | 33 => v = cond hs undef (.bool (!x))
      | 34 => v = cond hs (cond x (.bool false) undef) (.bool (!x))
      | 35 => v = .bool (!x)
      | _ => v = undef) (by kernel_rfl) (by kernel_rfl) (fun _ _ _ _ h _ => h) (by first | exact Below.refl _ _ | exact (Below.refl _ _).drew) ?_ ?_ _ _ rfl (by decide) (fun i => by simp [Array.getD]; try (split <;> rfl))
     ·intro vs u hR hall
      simp only [putsL]
      cases x
      ·have e35 : vs 35 = .bool true := hall 35 (by simp)
       rw [e35]
       clear hall e35
       have HF : Hid (allN (tdB D) D.np = false /\ Below w.heap.size w u) := ⟨allN_no (by have := HT.out.2.2.1; omega) HA.out.2.1, bel_nx HA.out.2.2 hR⟩
       clear HK HA hR
       go_simp
       go_wp2
       go_ret
       exact ⟨by rw [HF.out.1]; rfl, HF.out.2⟩
      have e35 : vs 35 = .bool false := hall 35 (by simp)
      rw [e35]
      clear hall e35
      have HF : Hid (allN (tdB D) (k + 1) = true /\ Below w.heap.size w u) := ⟨allN_succ HA.out.1 HA.out.2.1, bel_nx HA.out.2.2 hR⟩
      clear HK HA hR
      go_simp
      go_wp2
      go_roundw
      case rel => exact ⟨k + 1, by omega, by go_num, HF.out.1, HF.out.2⟩
      case measure => simp [intOf]; omega
     intro u i o ρ hR ho hρ hc hf hd
     have hi : i < 36 := by
      have := (Array.getElem?_eq_some_iff.1 ho).1
      simpa using this
     obtain rfl | rfl | rfl | rfl | rfl | rfl | rfl | rfl | rfl | rfl | rfl | rfl | rfl | rfl | rfl | rfl | rfl | rfl | rfl | rfl | rfl | rfl | rfl | rfl | rfl | rfl | rfl | rfl | rfl | rfl | rfl | rfl | rfl | rfl | rfl | rfl : i = 0 \/ i = 1 \/ i = 2 \/ i = 3 \/ i = 4 \/ i = 5 \/ i = 6 \/ i = 7 \/ i = 8 \/ i = 9 \/ i = 10 \/ i = 11 \/ i = 12 \/ i = 13 \/ i = 14 \/ i = 15 \/ i = 16 \/ i = 17 \/ i = 18 \/ i = 19 \/ i = 20 \/ i = 21 \/ i = 22 \/ i = 23 \/ i = 24 \/ i = 25 \/ i = 26 \/ i = 27 \/ i = 28 \/ i = 29 \/ i = 30 \/ i = 31 \/ i = 32 \/ i = 33 \/ i = 34 \/ i = 35 := by omega
     all_goals (simp only [List.getElem?_toArray, List.getElem?_cons_zero, List.getElem?_cons_succ, Option.some.injEq] at ho; subst ho)
     ·cases hs
      ·have s4 : ρ (.tmp 4) = .bool false := (hρ 4 (by kernel_rfl)).trans rfl
       exact .inl ⟨rfl, .inl ⟨_, u, rfl, s4, hR, Below.refl _ _⟩⟩
      have s4 : ρ (.tmp 4) = .bool true := (hρ 4 (by kernel_rfl)).trans rfl
      exact .inl ⟨rfl, .inl ⟨_, u, rfl, s4, hR, Below.refl _ _⟩⟩
     ·have h0 : _ = _ := hd ⟨0, .data⟩ (by simp) rfl 39 rfl
      exact .inl ⟨rfl, .inl ⟨_, u, rfl, h0, hR, Below.refl _ _⟩⟩
     ·cases hs
      ·exact .inr ⟨nog (x := .bool false) rfl rfl (hd ⟨1, .guard⟩ (by simp) rfl 40 rfl) rfl, rfl⟩
      have g1 : ρ (.tmp 40) = .bool true := hd ⟨1, .guard⟩ (by simp) rfl 40 rfl
      have s0 : ρ (.tmp 0) = .pointer (some ⟨g, o, none⟩) := (hρ 0 (by kernel_rfl)).trans rfl
      exact .inl ⟨(by show (match ρ (.tmp 40) with | .bool b => b == true | _ => false) = true; rw [g1]; rfl), .inl ⟨_, u, rfl, s0, hR, Below.refl _ _⟩⟩
     ·cases hs
      ·exact .inr ⟨nog (x := .bool false) rfl rfl (hd ⟨1, .guard⟩ (by simp) rfl 40 rfl) rfl, rfl⟩
      have g1 : ρ (.tmp 40) = .bool true := hd ⟨1, .guard⟩ (by simp) rfl 40 rfl
      have h2 : _ = _ := hd ⟨2, .data⟩ (by simp) rfl 41 rfl
      exact .inl ⟨(by show (match ρ (.tmp 40) with | .bool b => b == true | _ => false) = true; rw [g1]; rfl), .inl ⟨_, u, run_nilz rfl h2, rfl, hR, Below.refl _ _⟩⟩
     ·cases hs
      ·exact .inr ⟨nog (x := .bool false) rfl rfl (hd ⟨1, .guard⟩ (by simp) rfl 40 rfl) rfl, rfl⟩
      have g1 : ρ (.tmp 40) = .bool true := hd ⟨1, .guard⟩ (by simp) rfl 40 rfl
      have h3 : _ = _ := hd ⟨3, .data⟩ (by simp) rfl 42 rfl
      exact .inl ⟨(by show (match ρ (.tmp 40) with | .bool b => b == true | _ => false) = true; rw [g1]; rfl), .inl ⟨_, u, run_field_op rfl h3 (by go_simp), rfl, hR, Below.refl _ _⟩⟩
     ·cases hs
      ·exact .inr ⟨nog (x := .bool false) rfl rfl (hd ⟨1, .guard⟩ (by simp) rfl 40 rfl) rfl, rfl⟩
      have g1 : ρ (.tmp 40) = .bool true := hd ⟨1, .guard⟩ (by simp) rfl 40 rfl
      have h4 : _ = _ := hd ⟨4, .data⟩ (by simp) rfl 43 rfl
      have y9 : u.cell? ⟨g, o + 10, none⟩ = some (.slice (some ⟨b3, o3, none⟩) D.np c3) := (rangeAt_below HK.out.2.1 HK.out.1 hR) 10 _ rfl
      have hr : (Instr.loadAt 41 (.pointer (some ⟨g, o + 10, none⟩))).run Tryz.prog u = .ok (.slice (some ⟨b3, o3, none⟩) D.np c3) u := by go_simp
      exact .inl ⟨(by show (match ρ (.tmp 40) with | .bool b => b == true | _ => false) = true; rw [g1]; rfl), .inl ⟨_, u, run_load_op rfl h4 hr, rfl, hR, Below.refl _ _⟩⟩
     ·cases hs
      ·exact .inr ⟨nog (x := .bool false) rfl rfl (hd ⟨1, .guard⟩ (by simp) rfl 40 rfl) rfl, rfl⟩
      have g1 : ρ (.tmp 40) = .bool true := hd ⟨1, .guard⟩ (by simp) rfl 40 rfl
      have s3 : ρ (.tmp 3) = .int .i64 (k : Int) := (hρ 3 (by kernel_rfl)).trans rfl
      exact .inl ⟨(by show (match ρ (.tmp 40) with | .bool b => b == true | _ => false) = true; rw [g1]; rfl), .inl ⟨_, u, rfl, s3, hR, Below.refl _ _⟩⟩
     ·cases hs
      ·exact .inr ⟨nog (x := .bool false) rfl rfl (hd ⟨1, .guard⟩ (by simp) rfl 40 rfl) rfl, rfl⟩
      have g1 : ρ (.tmp 40) = .bool true := hd ⟨1, .guard⟩ (by simp) rfl 40 rfl
      have h5 : _ = _ := hd ⟨5, .data⟩ (by simp) rfl 44 rfl
      have h6 : _ = _ := hd ⟨6, .data⟩ (by simp) rfl 45 rfl
      exact .inl ⟨(by show (match ρ (.tmp 40) with | .bool b => b == true | _ => false) = true; rw [g1]; rfl), .inl ⟨_, u, run_index_op rfl h5 h6 (by go_simp), rfl, hR, Below.refl _ _⟩⟩
     ·cases hs
      ·exact .inr ⟨nog (x := .bool false) rfl rfl (hd ⟨1, .guard⟩ (by simp) rfl 40 rfl) rfl, rfl⟩
      have g1 : ρ (.tmp 40) = .bool true := hd ⟨1, .guard⟩ (by simp) rfl 40 rfl
      have h7 : _ = _ := hd ⟨7, .data⟩ (by simp) rfl 46 rfl
      exact .inl ⟨(by show (match ρ (.tmp 40) with | .bool b => b == true | _ => false) = true; rw [g1]; rfl), .inl ⟨_, u, run_field_op rfl h7 (by go_simp), rfl, hR, Below.refl _ _⟩⟩
     ·cases hs
      ·exact .inr ⟨nog (x := .bool false) rfl rfl (hd ⟨1, .guard⟩ (by simp) rfl 40 rfl) rfl, rfl⟩
      have g1 : ρ (.tmp 40) = .bool true := hd ⟨1, .guard⟩ (by simp) rfl 40 rfl
      have h8 : _ = _ := hd ⟨8, .data⟩ (by simp) rfl 47 rfl
      have hr : (Instr.loadAt 39 (.pointer (some ⟨b3, o3 + k * 8 + 2, none⟩))).run Tryz.prog u = .ok (.agg ([.int .i64 (D.pt k).q.kd, .int .i64 (D.pt k).q.pl, .int .i64 (D.pt k).q.n, .slice p1 ((D.pt k).q.ws.length) k1, .slice p2 ((D.pt k).q.bs.length) k2, .int .i64 (D.pt k).q.wa]).toArray) u := run_loadAt_mid u b3 (o3 + k * 8 + 2) 39 ([.int .i64 (D.pt k).q.kd, .int .i64 (D.pt k).q.pl, .int .i64 (D.pt k).q.n, .slice p1 ((D.pt k).q.ws.length) k1, .slice p2 ((D.pt k).q.bs.length) k2, .int .i64 (D.pt k).q.wa]) _ (rangeAt_mid [.int .i64 (D.pt k).p, .int .i64 (D.pt k).t] [.int .i64 (D.pt k).q.kd, .int .i64 (D.pt k).q.pl, .int .i64 (D.pt k).q.n, .slice p1 ((D.pt k).q.ws.length) k1, .slice p2 ((D.pt k).q.bs.length) k2, .int .i64 (D.pt k).q.wa] [] (rangeAt_below HK.out.2.2.2.1 HK.out.2.2.1 hR) rfl) Tryz.underlying39 rfl (by kernel_rfl)
      exact .inl ⟨(by show (match ρ (.tmp 40) with | .bool b => b == true | _ => false) = true; rw [g1]; rfl), .inl ⟨_, u, run_load_op rfl h8 hr, rfl, hR, Below.refl _ _⟩⟩
     ·cases hs
      ·exact .inr ⟨nog (x := .bool false) rfl rfl (hd ⟨1, .guard⟩ (by simp) rfl 40 rfl) rfl, rfl⟩
      have g1 : ρ (.tmp 40) = .bool true := hd ⟨1, .guard⟩ (by simp) rfl 40 rfl
      have s0 : ρ (.tmp 0) = .pointer (some ⟨g, o, none⟩) := (hρ 0 (by kernel_rfl)).trans rfl
      exact .inl ⟨(by show (match ρ (.tmp 40) with | .bool b => b == true | _ => false) = true; rw [g1]; rfl), .inl ⟨_, u, rfl, s0, hR, Below.refl _ _⟩⟩
     ·cases hs
      ·exact .inr ⟨nog (x := .bool false) rfl rfl (hd ⟨1, .guard⟩ (by simp) rfl 40 rfl) rfl, rfl⟩
      have g1 : ρ (.tmp 40) = .bool true := hd ⟨1, .guard⟩ (by simp) rfl 40 rfl
      have h10 : _ = _ := hd ⟨10, .data⟩ (by simp) rfl 49 rfl
      exact .inl ⟨(by show (match ρ (.tmp 40) with | .bool b => b == true | _ => false) = true; rw [g1]; rfl), .inl ⟨_, u, run_nilz rfl h10, rfl, hR, Below.refl _ _⟩⟩
     ·cases hs
      ·exact .inr ⟨nog (x := .bool false) rfl rfl (hd ⟨1, .guard⟩ (by simp) rfl 40 rfl) rfl, rfl⟩
      have g1 : ρ (.tmp 40) = .bool true := hd ⟨1, .guard⟩ (by simp) rfl 40 rfl
      have h11 : _ = _ := hd ⟨11, .data⟩ (by simp) rfl 50 rfl
      exact .inl ⟨(by show (match ρ (.tmp 40) with | .bool b => b == true | _ => false) = true; rw [g1]; rfl), .inl ⟨_, u, run_field_op rfl h11 (by go_simp), rfl, hR, Below.refl _ _⟩⟩
     ·cases hs
      ·exact .inr ⟨nog (x := .bool false) rfl rfl (hd ⟨1, .guard⟩ (by simp) rfl 40 rfl) rfl, rfl⟩
      have g1 : ρ (.tmp 40) = .bool true := hd ⟨1, .guard⟩ (by simp) rfl 40 rfl
      have h12 : _ = _ := hd ⟨12, .data⟩ (by simp) rfl 51 rfl
      have y9 : u.cell? ⟨g, o + 12, none⟩ = some (.slice (some ⟨b5, o5, none⟩) D.nt c5) := (rangeAt_below HK.out.2.1 HK.out.1 hR) 12 _ rfl
      have hr : (Instr.loadAt 59 (.pointer (some ⟨g, o + 12, none⟩))).run Tryz.prog u = .ok (.slice (some ⟨b5, o5, none⟩) D.nt c5) u := by go_simp
      exact .inl ⟨(by show (match ρ (.tmp 40) with | .bool b => b == true | _ => false) = true; rw [g1]; rfl), .inl ⟨_, u, run_load_op rfl h12 hr, rfl, hR, Below.refl _ _⟩⟩
     ·cases hs
      ·exact .inr ⟨nog (x := .bool false) rfl rfl (hd ⟨1, .guard⟩ (by simp) rfl 40 rfl) rfl, rfl⟩
      have g1 : ρ (.tmp 40) = .bool true := hd ⟨1, .guard⟩ (by simp) rfl 40 rfl
      have s3 : ρ (.tmp 3) = .int .i64 (k : Int) := (hρ 3 (by kernel_rfl)).trans rfl
      exact .inl ⟨(by show (match ρ (.tmp 40) with | .bool b => b == true | _ => false) = true; rw [g1]; rfl), .inl ⟨_, u, rfl, s3, hR, Below.refl _ _⟩⟩
     ·cases hs
      ·exact .inr ⟨nog (x := .bool false) rfl rfl (hd ⟨1, .guard⟩ (by simp) rfl 40 rfl) rfl, rfl⟩
      have g1 : ρ (.tmp 40) = .bool true := hd ⟨1, .guard⟩ (by simp) rfl 40 rfl
      have h13 : _ = _ := hd ⟨13, .data⟩ (by simp) rfl 52 rfl
      have h14 : _ = _ := hd ⟨14, .data⟩ (by simp) rfl 53 rfl
      exact .inl ⟨(by show (match ρ (.tmp 40) with | .bool b => b == true | _ => false) = true; rw [g1]; rfl), .inl ⟨_, u, run_index_op rfl h13 h14 (by go_simp), rfl, hR, Below.refl _ _⟩⟩
     ·cases hs
      ·exact .inr ⟨nog (x := .bool false) rfl rfl (hd ⟨1, .guard⟩ (by simp) rfl 40 rfl) rfl, rfl⟩
      have g1 : ρ (.tmp 40) = .bool true := hd ⟨1, .guard⟩ (by simp) rfl 40 rfl
      have h15 : _ = _ := hd ⟨15, .data⟩ (by simp) rfl 54 rfl
      have hr : (Instr.loadAt 89 (.pointer (some ⟨b5, o5 + k * 6, none⟩))).run Tryz.prog u = .ok (.agg (aL (D.tl k) t1 (D.tl k).ws.length j1 t2 (D.tl k).bs.length j2).toArray) u := run_loadAt_mid u b5 (o5 + k * 6) 89 (aL (D.tl k) t1 (D.tl k).ws.length j1 t2 (D.tl k).bs.length j2) _ (rangeAt_below HK.out.2.2.2.2.2.1 HK.out.2.2.2.2.1 hR) Tryz.underlying89 rfl (by kernel_rfl)
      exact .inl ⟨(by show (match ρ (.tmp 40) with | .bool b => b == true | _ => false) = true; rw [g1]; rfl), .inl ⟨_, u, run_load_op rfl h15 hr, rfl, hR, Below.refl _ _⟩⟩
     ·cases hs
      ·exact .inr ⟨nog (x := .bool false) rfl rfl (hd ⟨1, .guard⟩ (by simp) rfl 40 rfl) rfl, rfl⟩
      have g1 : ρ (.tmp 40) = .bool true := hd ⟨1, .guard⟩ (by simp) rfl 40 rfl
      have h9 : _ = _ := hd ⟨9, .data⟩ (by simp) rfl 48 rfl
      have h16 : _ = _ := hd ⟨16, .data⟩ (by simp) rfl 55 rfl
      refine .inl ⟨(by show (match ρ (.tmp 40) with | .bool b => b == true | _ => false) = true; rw [g1]; rfl), .inr ⟨_, _, run_call_op rfl (hf _) (args := #[.agg ([.int .i64 (D.pt k).q.kd, .int .i64 (D.pt k).q.pl, .int .i64 (D.pt k).q.n, .slice p1 ((D.pt k).q.ws.length) k1, .slice p2 ((D.pt k).q.bs.length) k2, .int .i64 (D.pt k).q.wa]).toArray, .agg (aL (D.tl k) t1 (D.tl k).ws.length j1 t2 (D.tl k).bs.length j2).toArray]) (by simp [h9, h16]) (by kernel_rfl), ?_⟩⟩
      refine (implSuQ (D.pt k).q (D.tl k) p1 _ k1 p2 _ k2 t1 _ j1 t2 _ j2 _ (HK.out.2.2.2.2.2.2.1.below hR) (HK.out.2.2.2.2.2.2.2.1.below hR) (HK.out.2.2.2.2.2.2.2.2.1.below hR) (HK.out.2.2.2.2.2.2.2.2.2.1.below hR) HK.out.2.2.2.2.2.2.2.2.2.2.1 HK.out.2.2.2.2.2.2.2.2.2.2.2.1).mono ?_
      rintro e u' ⟨he, b'⟩
      exact ⟨_, he.trans (by rw [HK.out.2.2.2.2.2.2.2.2.2.2.2.2.1 rfl] <;> rfl), rfl, bel_nx hR b', b'⟩
     ·cases hs
      ·exact .inr ⟨nog (x := .bool false) rfl rfl (hd ⟨1, .guard⟩ (by simp) rfl 40 rfl) rfl, rfl⟩
      have g1 : ρ (.tmp 40) = .bool true := hd ⟨1, .guard⟩ (by simp) rfl 40 rfl
      have h17 : _ = _ := hd ⟨17, .data⟩ (by simp) rfl 56 rfl
      exact .inl ⟨(by show (match ρ (.tmp 40) with | .bool b => b == true | _ => false) = true; rw [g1]; rfl), .inl ⟨_, u, run_un_op rfl h17 (by go_simp), rfl, hR, Below.refl _ _⟩⟩
     ·cases hs
      ·have h1 : _ = _ := hd ⟨1, .data⟩ (by simp) rfl 40 rfl
       exact .inl ⟨rfl, .inl ⟨_, u, run_pick_op rfl h1, (by simpa using hc _), hR, Below.refl _ _⟩⟩
      have h1 : _ = _ := hd ⟨1, .data⟩ (by simp) rfl 40 rfl
      have h18 : _ = _ := hd ⟨18, .data⟩ (by simp) rfl 57 rfl
      exact .inl ⟨rfl, .inl ⟨_, u, run_pick_op rfl h1, (by simpa using h18), hR, Below.refl _ _⟩⟩
     ·have h19 : _ = _ := hd ⟨19, .data⟩ (by simp) rfl 58 rfl
      exact .inl ⟨rfl, .inl ⟨_, u, rfl, h19, hR, Below.refl _ _⟩⟩
     ·cases hs
      ·have g20 : ρ (.tmp 59) = .bool false := hd ⟨20, .guard⟩ (by simp) rfl 59 rfl
       have s4 : ρ (.tmp 4) = .bool false := (hρ 4 (by kernel_rfl)).trans rfl
       exact .inl ⟨(by show (match ρ (.tmp 59) with | .bool b => b == false | _ => false) = true; rw [g20]; rfl), .inl ⟨_, u, rfl, s4, hR, Below.refl _ _⟩⟩
      cases x
      ·exact .inr ⟨nog (x := .bool true) rfl rfl (hd ⟨20, .guard⟩ (by simp) rfl 59 rfl) rfl, rfl⟩
      have g20 : ρ (.tmp 59) = .bool false := hd ⟨20, .guard⟩ (by simp) rfl 59 rfl
      have s4 : ρ (.tmp 4) = .bool true := (hρ 4 (by kernel_rfl)).trans rfl
      exact .inl ⟨(by show (match ρ (.tmp 59) with | .bool b => b == false | _ => false) = true; rw [g20]; rfl), .inl ⟨_, u, rfl, s4, hR, Below.refl _ _⟩⟩
     ·cases hs
      ·have g20 : ρ (.tmp 59) = .bool false := hd ⟨20, .guard⟩ (by simp) rfl 59 rfl
       have h21 : _ = _ := hd ⟨21, .data⟩ (by simp) rfl 60 rfl
       exact .inl ⟨(by show (match ρ (.tmp 59) with | .bool b => b == false | _ => false) = true; rw [g20]; rfl), .inl ⟨_, u, run_un_op rfl h21 (by go_simp), rfl, hR, Below.refl _ _⟩⟩
      cases x
      ·exact .inr ⟨nog (x := .bool true) rfl rfl (hd ⟨20, .guard⟩ (by simp) rfl 59 rfl) rfl, rfl⟩
      have g20 : ρ (.tmp 59) = .bool false := hd ⟨20, .guard⟩ (by simp) rfl 59 rfl
      have h21 : _ = _ := hd ⟨21, .data⟩ (by simp) rfl 60 rfl
      exact .inl ⟨(by show (match ρ (.tmp 59) with | .bool b => b == false | _ => false) = true; rw [g20]; rfl), .inl ⟨_, u, run_un_op rfl h21 (by go_simp), rfl, hR, Below.refl _ _⟩⟩
     ·cases hs
      ·have g20 : ρ (.tmp 59) = .bool false := hd ⟨20, .guard⟩ (by simp) rfl 59 rfl
       have h22 : _ = _ := hd ⟨22, .data⟩ (by simp) rfl 61 rfl
       exact .inl ⟨(by show (match ρ (.tmp 59) with | .bool b => b == false | _ => false) = true; rw [g20]; rfl), .inl ⟨_, u, rfl, h22, hR, Below.refl _ _⟩⟩
      cases x
      ·exact .inr ⟨nog (x := .bool true) rfl rfl (hd ⟨20, .guard⟩ (by simp) rfl 59 rfl) rfl, rfl⟩
      have g20 : ρ (.tmp 59) = .bool false := hd ⟨20, .guard⟩ (by simp) rfl 59 rfl
      have h22 : _ = _ := hd ⟨22, .data⟩ (by simp) rfl 61 rfl
      exact .inl ⟨(by show (match ρ (.tmp 59) with | .bool b => b == false | _ => false) = true; rw [g20]; rfl), .inl ⟨_, u, rfl, h22, hR, Below.refl _ _⟩⟩
     ·cases hs
      ·have g23 : ρ (.tmp 62) = .bool true := hd ⟨23, .guard⟩ (by simp) rfl 62 rfl
       have s0 : ρ (.tmp 0) = .pointer (some ⟨g, o, none⟩) := (hρ 0 (by kernel_rfl)).trans rfl
       exact .inl ⟨(by show (match ρ (.tmp 62) with | .bool b => b == true | _ => false) = true; rw [g23]; rfl), .inl ⟨_, u, rfl, s0, hR, Below.refl _ _⟩⟩
      cases x
      ·exact .inr ⟨nog (x := undef) rfl rfl (hd ⟨23, .guard⟩ (by simp) rfl 62 rfl) rfl, rfl⟩
      exact .inr ⟨nog (x := .bool false) rfl rfl (hd ⟨23, .guard⟩ (by simp) rfl 62 rfl) rfl, rfl⟩
     ·cases hs
      ·have g23 : ρ (.tmp 62) = .bool true := hd ⟨23, .guard⟩ (by simp) rfl 62 rfl
       have h24 : _ = _ := hd ⟨24, .data⟩ (by simp) rfl 63 rfl
       exact .inl ⟨(by show (match ρ (.tmp 62) with | .bool b => b == true | _ => false) = true; rw [g23]; rfl), .inl ⟨_, u, run_nilz rfl h24, rfl, hR, Below.refl _ _⟩⟩
      cases x
      ·exact .inr ⟨nog (x := undef) rfl rfl (hd ⟨23, .guard⟩ (by simp) rfl 62 rfl) rfl, rfl⟩
      exact .inr ⟨nog (x := .bool false) rfl rfl (hd ⟨23, .guard⟩ (by simp) rfl 62 rfl) rfl, rfl⟩
     ·cases hs
      ·have g23 : ρ (.tmp 62) = .bool true := hd ⟨23, .guard⟩ (by simp) rfl 62 rfl
       have h25 : _ = _ := hd ⟨25, .data⟩ (by simp) rfl 64 rfl
       exact .inl ⟨(by show (match ρ (.tmp 62) with | .bool b => b == true | _ => false) = true; rw [g23]; rfl), .inl ⟨_, u, run_field_op rfl h25 (by go_simp), rfl, hR, Below.refl _ _⟩⟩
      cases x
      ·exact .inr ⟨nog (x := undef) rfl rfl (hd ⟨23, .guard⟩ (by simp) rfl 62 rfl) rfl, rfl⟩
      exact .inr ⟨nog (x := .bool false) rfl rfl (hd ⟨23, .guard⟩ (by simp) rfl 62 rfl) rfl, rfl⟩
     ·cases hs
      ·have g23 : ρ (.tmp 62) = .bool true := hd ⟨23, .guard⟩ (by simp) rfl 62 rfl
       have h26 : _ = _ := hd ⟨26, .data⟩ (by simp) rfl 65 rfl
       have y9 : u.cell? ⟨g, o + 12, none⟩ = some (.slice (some ⟨b5, o5, none⟩) D.nt c5) := (rangeAt_below HK.out.2.1 HK.out.1 hR) 12 _ rfl
       have hr : (Instr.loadAt 59 (.pointer (some ⟨g, o + 12, none⟩))).run Tryz.prog u = .ok (.slice (some ⟨b5, o5, none⟩) D.nt c5) u := by go_simp
       exact .inl ⟨(by show (match ρ (.tmp 62) with | .bool b => b == true | _ => false) = true; rw [g23]; rfl), .inl ⟨_, u, run_load_op rfl h26 hr, rfl, hR, Below.refl _ _⟩⟩
      cases x
      ·exact .inr ⟨nog (x := undef) rfl rfl (hd ⟨23, .guard⟩ (by simp) rfl 62 rfl) rfl, rfl⟩
      exact .inr ⟨nog (x := .bool false) rfl rfl (hd ⟨23, .guard⟩ (by simp) rfl 62 rfl) rfl, rfl⟩
     ·cases hs
      ·have g23 : ρ (.tmp 62) = .bool true := hd ⟨23, .guard⟩ (by simp) rfl 62 rfl
       have s3 : ρ (.tmp 3) = .int .i64 (k : Int) := (hρ 3 (by kernel_rfl)).trans rfl
       exact .inl ⟨(by show (match ρ (.tmp 62) with | .bool b => b == true | _ => false) = true; rw [g23]; rfl), .inl ⟨_, u, rfl, s3, hR, Below.refl _ _⟩⟩
      cases x
      ·exact .inr ⟨nog (x := undef) rfl rfl (hd ⟨23, .guard⟩ (by simp) rfl 62 rfl) rfl, rfl⟩
      exact .inr ⟨nog (x := .bool false) rfl rfl (hd ⟨23, .guard⟩ (by simp) rfl 62 rfl) rfl, rfl⟩
     ·cases hs
      ·have g23 : ρ (.tmp 62) = .bool true := hd ⟨23, .guard⟩ (by simp) rfl 62 rfl
       have h27 : _ = _ := hd ⟨27, .data⟩ (by simp) rfl 66 rfl
       have h28 : _ = _ := hd ⟨28, .data⟩ (by simp) rfl 67 rfl
       exact .inl ⟨(by show (match ρ (.tmp 62) with | .bool b => b == true | _ => false) = true; rw [g23]; rfl), .inl ⟨_, u, run_index_op rfl h27 h28 (by go_simp), rfl, hR, Below.refl _ _⟩⟩
      cases x
      ·exact .inr ⟨nog (x := undef) rfl rfl (hd ⟨23, .guard⟩ (by simp) rfl 62 rfl) rfl, rfl⟩
      exact .inr ⟨nog (x := .bool false) rfl rfl (hd ⟨23, .guard⟩ (by simp) rfl 62 rfl) rfl, rfl⟩
     ·cases hs
      ·have g23 : ρ (.tmp 62) = .bool true := hd ⟨23, .guard⟩ (by simp) rfl 62 rfl
       have h29 : _ = _ := hd ⟨29, .data⟩ (by simp) rfl 68 rfl
       have hr : (Instr.loadAt 89 (.pointer (some ⟨b5, o5 + k * 6, none⟩))).run Tryz.prog u = .ok (.agg (aL (D.tl k) t1 (D.tl k).ws.length j1 t2 (D.tl k).bs.length j2).toArray) u := run_loadAt_mid u b5 (o5 + k * 6) 89 (aL (D.tl k) t1 (D.tl k).ws.length j1 t2 (D.tl k).bs.length j2) _ (rangeAt_below HK.out.2.2.2.2.2.1 HK.out.2.2.2.2.1 hR) Tryz.underlying89 rfl (by kernel_rfl)
       exact .inl ⟨(by show (match ρ (.tmp 62) with | .bool b => b == true | _ => false) = true; rw [g23]; rfl), .inl ⟨_, u, run_load_op rfl h29 hr, rfl, hR, Below.refl _ _⟩⟩
      cases x
      ·exact .inr ⟨nog (x := undef) rfl rfl (hd ⟨23, .guard⟩ (by simp) rfl 62 rfl) rfl, rfl⟩
      exact .inr ⟨nog (x := .bool false) rfl rfl (hd ⟨23, .guard⟩ (by simp) rfl 62 rfl) rfl, rfl⟩
     ·cases hs
      ·have g23 : ρ (.tmp 62) = .bool true := hd ⟨23, .guard⟩ (by simp) rfl 62 rfl
       exact .inl ⟨(by show (match ρ (.tmp 62) with | .bool b => b == true | _ => false) = true; rw [g23]; rfl), .inl ⟨_, u, run_bldz rfl (qs := #[]) (by simp) (by kernel_rfl), rfl, hR, Below.refl _ _⟩⟩
      cases x
      ·exact .inr ⟨nog (x := undef) rfl rfl (hd ⟨23, .guard⟩ (by simp) rfl 62 rfl) rfl, rfl⟩
      exact .inr ⟨nog (x := .bool false) rfl rfl (hd ⟨23, .guard⟩ (by simp) rfl 62 rfl) rfl, rfl⟩
     ·cases hs
      ·have g23 : ρ (.tmp 62) = .bool true := hd ⟨23, .guard⟩ (by simp) rfl 62 rfl
       have h30 : _ = _ := hd ⟨30, .data⟩ (by simp) rfl 69 rfl
       have h31 : _ = _ := hd ⟨31, .data⟩ (by simp) rfl 70 rfl
       refine .inl ⟨(by show (match ρ (.tmp 62) with | .bool b => b == true | _ => false) = true; rw [g23]; rfl), .inr ⟨_, _, run_call_op rfl (hf _) (args := #[.agg (aL (D.tl k) t1 (D.tl k).ws.length j1 t2 (D.tl k).bs.length j2).toArray, .agg ([.int .i64 0, .int .i64 0, .int .i64 0, .int .i64 0, .slice none 0 0, .slice none 0 0]).toArray]) (by simp [h30, h31]) (by kernel_rfl), ?_⟩⟩
       refine (sameR0_any (D.tl k) t1 j1 t2 j2 _ (HK.out.2.2.2.2.2.2.2.2.1.below hR) (HK.out.2.2.2.2.2.2.2.2.2.1.below hR) HK.out.2.2.2.2.2.2.2.2.2.2.2.1).mono ?_
       rintro e u' ⟨he, b'⟩
       exact ⟨_, he.trans (by rw [HK.out.2.2.2.2.2.2.2.2.2.2.2.2.2 rfl] <;> rfl), rfl, bel_nx hR b', b'⟩
      cases x
      ·exact .inr ⟨nog (x := undef) rfl rfl (hd ⟨23, .guard⟩ (by simp) rfl 62 rfl) rfl, rfl⟩
      exact .inr ⟨nog (x := .bool false) rfl rfl (hd ⟨23, .guard⟩ (by simp) rfl 62 rfl) rfl, rfl⟩
     ·cases hs
      ·have g23 : ρ (.tmp 62) = .bool true := hd ⟨23, .guard⟩ (by simp) rfl 62 rfl
       have h32 : _ = _ := hd ⟨32, .data⟩ (by simp) rfl 71 rfl
       exact .inl ⟨(by show (match ρ (.tmp 62) with | .bool b => b == true | _ => false) = true; rw [g23]; rfl), .inl ⟨_, u, run_un_op rfl h32 (by go_simp), rfl, hR, Below.refl _ _⟩⟩
      cases x
      ·exact .inr ⟨nog (x := undef) rfl rfl (hd ⟨23, .guard⟩ (by simp) rfl 62 rfl) rfl, rfl⟩
      exact .inr ⟨nog (x := .bool false) rfl rfl (hd ⟨23, .guard⟩ (by simp) rfl 62 rfl) rfl, rfl⟩
     ·cases hs
      ·have g20 : ρ (.tmp 59) = .bool false := hd ⟨20, .guard⟩ (by simp) rfl 59 rfl
       have h23 : _ = _ := hd ⟨23, .data⟩ (by simp) rfl 62 rfl
       have h33 : _ = _ := hd ⟨33, .data⟩ (by simp) rfl 72 rfl
       exact .inl ⟨(by show (match ρ (.tmp 59) with | .bool b => b == false | _ => false) = true; rw [g20]; rfl), .inl ⟨_, u, run_pick_op rfl h23, (by simpa using h33), hR, Below.refl _ _⟩⟩
      cases x
      ·exact .inr ⟨nog (x := .bool true) rfl rfl (hd ⟨20, .guard⟩ (by simp) rfl 59 rfl) rfl, rfl⟩
      have g20 : ρ (.tmp 59) = .bool false := hd ⟨20, .guard⟩ (by simp) rfl 59 rfl
      have h23 : _ = _ := hd ⟨23, .data⟩ (by simp) rfl 62 rfl
      exact .inl ⟨(by show (match ρ (.tmp 59) with | .bool b => b == false | _ => false) = true; rw [g20]; rfl), .inl ⟨_, u, run_pick_op rfl h23, (by simpa using hc _), hR, Below.refl _ _⟩⟩
     cases hs
     ·have h20 : _ = _ := hd ⟨20, .data⟩ (by simp) rfl 59 rfl
      have h34 : _ = _ := hd ⟨34, .data⟩ (by simp) rfl 73 rfl
      exact .inl ⟨rfl, .inl ⟨_, u, run_pick_op rfl h20, (by simpa using h34), hR, Below.refl _ _⟩⟩
     cases x
     ·have h20 : _ = _ := hd ⟨20, .data⟩ (by simp) rfl 59 rfl
      exact .inl ⟨rfl, .inl ⟨_, u, run_pick_op rfl h20, (by simpa using hc _), hR, Below.refl _ _⟩⟩
     have h20 : _ = _ := hd ⟨20, .data⟩ (by simp) rfl 59 rfl
     have h34 : _ = _ := hd ⟨34, .data⟩ (by simp) rfl 73 rfl
     exact .inl ⟨rfl, .inl ⟨_, u, run_pick_op rfl h20, (by simpa using h34), hR, Below.refl _ _⟩⟩
    have hi : ¬ (k : Int) < (D.hs.length : Int) := by omega
    have HF : Hid (allN (tdB D) D.np = true /\ Below w.heap.size w wr) := ⟨by have h9 := HT.out.2.2.1; rw [show D.np = k by omega]; exact hall, hbl⟩
    clear hall hbl
    go_wp2
    go_ret
    exact ⟨by rw [HF.out.1]; rfl, HF.out.2⟩
  have f2 : ((D.nt : Int) != (D.np : Int)) = true := by simp; omega
  have HT : Hid (decide (D.hs.length = D.np) = true /\ decide (D.nt = D.np) = false) := ⟨decide_eq_true e1, decide_eq_false e2⟩
  rw [HT.out.1, HT.out.2, Bool.true_and, Bool.false_and]
  clear hr r1 r2 r3 r4 r5 hg h e1 e2
  go_enter Tryz.func80, Tryz.ntmps80
  go_upto_region 1 with fail
  go_quiet (fail)
  go_wp2
  go_ret
  exact ⟨rfl, by first | exact Below.refl _ _ | exact (Below.refl _ _).drew | exact drN _ _⟩
 have f1 : ((D.hs.length : Int) != (D.np : Int)) = true := by simp; omega
 have HT : Hid (decide (D.hs.length = D.np) = false) := decide_eq_false e1
 rw [HT.out, Bool.false_and]
 clear hr r1 r2 r3 r4 r5 hg h e1
 go_enter Tryz.func80, Tryz.ntmps80
 go_upto_region 1 with fail
 go_quiet (fail)
 go_wp2
 go_ret
 exact ⟨rfl, by first | exact Below.refl _ _ | exact (Below.refl _ _).drew | exact drN _ _⟩
theorem pendRight_any (D : VD) (g o : Nat) (w : World) (h : PdAt w g o D) (hb : BdD D) :
 Calls Tryz.prog 54 #[.pointer (some ⟨g, o, none⟩)] w fun e w' => e = .returned (.bool (okPd D)) /\ Below w.heap.size w w' := by
 obtain ⟨x0, hx0⟩ : ∃ x, inB D.so 0 1000000000 = x := ⟨_, rfl⟩
 obtain ⟨x1, hx1⟩ : ∃ x, inB D.ta 0 1000000000 = x := ⟨_, rfl⟩
 obtain ⟨x2, hx2⟩ : ∃ x, okQ D.q = x := ⟨_, rfl⟩
 obtain ⟨x3, hx3⟩ : ∃ x, (decide (1 <= D.np /\ D.np <= 8) && allN (fun i => okPt (D.pt i)) D.np) = x := ⟨_, rfl⟩
 obtain ⟨x4, hx4⟩ : ∃ x, (decide (D.hs.length = D.np) && (decide (D.nt = D.np) && allN (tdB D) D.np)) = x := ⟨_, rfl⟩
 obtain ⟨n5, hn5⟩ : ∃ n, n = cntF D.hs D.hs.length := ⟨_, rfl⟩
 have HE : Hid (okPd D = (x0 && (x1 && (x2 && (x3 && (x4 && decide (0 < n5)))))) /\ inB D.so 0 1000000000 = x0 /\ inB D.ta 0 1000000000 = x1 /\ okQ D.q = x2 /\ (decide (1 <= D.np /\ D.np <= 8) && allN (fun i => okPt (D.pt i)) D.np) = x3 /\ (decide (D.hs.length = D.np) && (decide (D.nt = D.np) && allN (tdB D) D.np)) = x4 /\ n5 = cntF D.hs D.hs.length /\ PdAt w g o D /\ BdD D) := ⟨by unfold okPd; rw [hx0, hx1, hx2, <- hn5, <- hx3, <- hx4]; simp only [Bool.and_assoc], hx0, hx1, hx2, hx3, hx4, hn5, h, hb⟩
 obtain ⟨hg, a1, c1, a2, c2, a3, c3, a4, c4, a5, c5, hr, r1, r2, r3, r4, r5⟩ := h.cells
 have HR : Hid (w.rangeAt g o (dL D a1 D.q.ws.length c1 a2 D.q.bs.length c2 a3 D.np c3 a4 D.hs.length c4 a5 D.nt c5) /\ Rd w 0 (intsT D.q.ws) (.slice a1 D.q.ws.length c1) /\ Rd w 0 (boolsT D.q.bs) (.slice a2 D.q.bs.length c2)) := ⟨hr, r1, r2⟩
 rw [HE.out.1]
 have hn9 : n5 <= 2000000 := by have := cntF_le D.hs D.hs.length; have := hb.2.2.1; omega
 have y1 : w.cell? ⟨g, o + 1, none⟩ = _ := hr 1 _ rfl
 have y2 : w.cell? ⟨g, o + 2, none⟩ = _ := hr 2 _ rfl
 have y3 : w.cell? ⟨g, o + 3, none⟩ = _ := hr 3 _ rfl
 have y4 : w.cell? ⟨g, o + 4, none⟩ = _ := hr 4 _ rfl
 have y5 : w.cell? ⟨g, o + 5, none⟩ = _ := hr 5 _ rfl
 have y6 : w.cell? ⟨g, o + 6, none⟩ = _ := hr 6 _ rfl
 have y7 : w.cell? ⟨g, o + 7, none⟩ = _ := hr 7 _ rfl
 have y8 : w.cell? ⟨g, o + 8, none⟩ = _ := hr 8 _ rfl
 have y9 : w.cell? ⟨g, o + 9, none⟩ = _ := hr 9 _ rfl
 clear hx0 hx1 hx2 hx3 hx4 hn5 hr r1 r2 r3 r4 r5 h hb hg
 go_enter Tryz.func54, Tryz.ntmps54
 go_wp2_with fail
 refine (isIdT _ _ _ HE.out.2.1).mono ?_
 rintro e w1 ⟨rfl, hw⟩
 have hw := hw.symm
 subst hw
 cases x0
 case false =>
  go_wp2
  go_ret
  exact ⟨rfl, Below.refl _ _⟩
 go_wp2_with fail
 refine (isIdT _ _ _ HE.out.2.2.1).mono ?_
 rintro e w1 ⟨rfl, hw⟩
 have hw := hw.symm
 subst hw
 cases x1
 case false =>
  go_wp2
  go_ret
  exact ⟨rfl, Below.refl _ _⟩
 go_wp2_with fail
 refine (implOkQ D.q a1 _ c1 a2 _ c2 _ HR.out.2.1 HR.out.2.2 HE.out.2.2.2.2.2.2.2.2.1).mono ?_
 rintro e w1 ⟨rfl, b1⟩
 rw [HE.out.2.2.2.1]
 have HB : Hid (Below w.heap.size w w1) := b1
 clear b1 y1 y2 y3 y4 y5 y6 y7 y8 y9
 cases x2
 case false =>
  go_wp2
  go_ret
  exact ⟨rfl, HB.out⟩
 go_wp2_with fail
 refine (partsRight_any D g o _ (HE.out.2.2.2.2.2.2.2.1.below HB.out) HE.out.2.2.2.2.2.2.2.2).mono ?_
 rintro e w2 ⟨rfl, b2⟩
 rw [HE.out.2.2.2.2.1]
 have HB2 : Hid (Below w.heap.size w w2) := bel_nx HB.out b2
 clear b2 HB
 cases x3
 case false =>
  go_wp2
  go_ret
  exact ⟨rfl, HB2.out⟩
 go_wp2_with fail
 refine (toldRight_any D g o _ (HE.out.2.2.2.2.2.2.2.1.below HB2.out) HE.out.2.2.2.2.2.2.2.2).mono ?_
 rintro e w3 ⟨rfl, b3⟩
 rw [HE.out.2.2.2.2.2.1]
 have HB3 : Hid (Below w.heap.size w w3) := bel_nx HB2.out b3
 clear b3 HB2
 cases x4
 case false =>
  go_wp2
  go_ret
  exact ⟨rfl, HB3.out⟩
 go_wp2_with fail
 refine (waits_any D g o _ (HE.out.2.2.2.2.2.2.2.1.below HB3.out) HE.out.2.2.2.2.2.2.2.2).mono ?_
 rintro e w4 ⟨rfl, hw⟩
 have hw := hw.symm
 subst hw
 rw [<- HE.out.2.2.2.2.2.2.1]
 by_cases h5 : 0 < n5
 ·have h6 : (0 : Int) < (n5 : Int) := by omega
  have HD : Hid (decide (0 < n5) = true) := decide_eq_true h5
  go_wp2
  go_ret
  exact ⟨by rw [HD.out]; rfl, HB3.out⟩
 have h6 : ¬ (0 : Int) < (n5 : Int) := by omega
 have HD : Hid (decide (0 < n5) = false) := decide_eq_false h5
 go_wp2
 go_ret
 exact ⟨by rw [HD.out]; rfl, HB3.out⟩
end Go.Proofs.YtlhjiiifmfgnoaaGreat
namespace Go.Proofs.YtlhjiiifmfgnoaaGreat
open Go.RowKit Go.Joins
def lsT (X : VT) (k : Nat) : Int := if k = 0 then 0 else (X.f (k - 1)).id + 1
theorem row_at {X : VT} {k : Nat} (h : rowB X k = true) : okPd (X.f k) = true /\ 0 <= (X.f k).id /\ (X.f k).id < X.nx /\ (k = 0 \/ (X.f (k - 1)).id < (X.f k).id) := by
 unfold rowB inB at h
 simp only [Bool.and_eq_true, decide_eq_true_eq, Bool.or_eq_true] at h
 exact ⟨h.1, h.2.1.1, by omega, h.2.2⟩
theorem row_tests {X : VT} {k : Nat} (h : allN (rowB X) k = true) : rowB X k = (!decide ((X.f k).id < lsT X k) && (!decide (X.nx <= (X.f k).id) && okPd (X.f k))) := by
 have hp : k = 0 \/ 0 <= (X.f (k - 1)).id := by
  by_cases e : k = 0
  ·exact .inl e
  exact .inr (row_at (allN_iff.1 h (k - 1) (by omega))).2.1
 rw [Bool.eq_iff_iff]
 unfold rowB inB lsT
 simp only [Bool.and_eq_true, Bool.or_eq_true, Bool.not_eq_true', decide_eq_true_eq, decide_eq_false_iff_not]
 by_cases e : k = 0
 ·subst e
  simp only [if_true]
  constructor
  ·rintro ⟨h1, ⟨h2, h3⟩, _⟩
   exact ⟨by omega, by omega, h1⟩
  rintro ⟨h1, h2, h3⟩
  exact ⟨h3, ⟨by omega, by omega⟩, .inl trivial⟩
 simp only [if_neg e]
 have hp : 0 <= (X.f (k - 1)).id := by rcases hp with h | h; exact absurd h e; exact h
 constructor
 ·rintro ⟨h1, ⟨h2, h3⟩, h4⟩
  exact ⟨by omega, by omega, h1⟩
 rintro ⟨h1, h2, h3⟩
 exact ⟨h3, ⟨by omega, by omega⟩, .inr (by omega)⟩
def TbR (w : World) (X : VT) (a : Option Addr) (c : Nat) : Prop := Rd w 0 (.list 13 X.m (fun i => trs (dT (X.f i)))) (.slice a X.m c) /\ BdT X
theorem TbR.below {w w' : World} {X : VT} {a : Option Addr} {c : Nat} (h : TbR w X a c) (hb : Below w.heap.size w w') : TbR w' X a c := ⟨h.1.below hb, h.2⟩
theorem TbR.at {w : World} {X : VT} {a : Option Addr} {c k : Nat} (h : TbR w X a c) (hk : k < X.m) : ∃ b off, a = some ⟨b, off, none⟩ /\ PdAt w b (off + k * 13) (X.f k) /\ BdD (X.f k) := by
 obtain ⟨b, off, vs, ha, _, hb0, hlen, hr, hrd⟩ := h.1.at hk
 exact ⟨b, off, ha, ⟨hb0, vs, hlen, hr, hrd⟩, h.2.2 k hk⟩
theorem implTableOk_any (X : VT) (a : Option Addr) (c : Nat) (w : World) (h : TbR w X a c) :
 Calls Tryz.prog 32 #[.agg (tL X a X.m c).toArray] w fun e w' => e = .returned (.bool (okTb X)) /\ Below w.heap.size w w' := by
 obtain ⟨x0, hx0⟩ : ∃ x, inB X.nx 0 1000000000 = x := ⟨_, rfl⟩
 obtain ⟨x1, hx1⟩ : ∃ x, decide (X.m <= 16) = x := ⟨_, rfl⟩
 obtain ⟨G, hG⟩ : ∃ G, G = w.heap.size := ⟨_, rfl⟩
 obtain ⟨W, hW⟩ : ∃ W, W = w.alloc (.cells (tL X a X.m c).toArray 35) := ⟨_, rfl⟩
 have HE : Hid (okTb X = (x0 && (x1 && allN (rowB X) X.m)) /\ inB X.nx 0 1000000000 = x0 /\ decide (X.m <= 16) = x1 /\ Below w.heap.size w W /\ Blk W G 35 (tL X a X.m c).toArray /\ TbR W X a c) := ⟨by unfold okTb; rw [hx0, hx1], hx0, hx1, by rw [hW]; exact bel_alloc _ _, by rw [hW, hG]; exact Blk.new _ _ _, h.below (by rw [hW]; exact bel_alloc _ _)⟩
 rw [HE.out.1]
 have hm2 := h.2.1
 clear hx0 hx1 h
 obtain ⟨⟨y0, y1⟩, yf⟩ := HE.out.2.2.2.2.1.tc2
 clear yf
 go_enter Tryz.func32, Tryz.ntmps32
 go_upto_region 1 with fail
 rw [<- hW, <- hG]
 clear hW hG
 go_wp2_with fail
 refine (isIdT _ _ _ HE.out.2.1).mono ?_
 rintro e w1 ⟨rfl, hw⟩
 have hw := hw.symm
 subst hw
 cases x0
 case false =>
  go_wp2
  go_ret
  exact ⟨rfl, HE.out.2.2.2.1⟩
 have hnx : 0 <= X.nx /\ X.nx <= 1000000000 := inB_yes HE.out.2.1
 obtain ⟨hnx0, hnx1⟩ := hnx
 cases x1
 case false =>
  have h16 : (16 : Int) < (X.m : Int) := by have := of_decide_eq_false HE.out.2.2.1; omega
  go_wp2
  go_ret
  exact ⟨rfl, HE.out.2.2.2.1⟩
 have h16 : ¬ (16 : Int) < (X.m : Int) := by have := of_decide_eq_true HE.out.2.2.1; omega
 go_wp2
 clear y0 y1
 go_loopw [3, 19] (fun l i wr => ∃ k : Nat, k <= X.m /\ i = .int .i64 k /\ l = .int .i64 (lsT X k) /\ allN (rowB X) k = true /\ Below W.heap.size W wr) (fun _ i _ => X.m - (intOf i).toNat)
 case atStart => exact ⟨0, Nat.zero_le _, rfl, rfl, rfl, Below.refl _ _⟩
 case round =>
  obtain ⟨k, hk, rfl, rfl, hall, hbl⟩ := hrel
  by_cases hlt : k < X.m
  ·have hi : (k : Int) < (X.m : Int) := by omega
   obtain ⟨b, off, rfl, hp, hbd⟩ := (HE.out.2.2.2.2.2.below hbl).at hlt
   obtain ⟨⟨y0, y1⟩, yf⟩ := (HE.out.2.2.2.2.1.below hbl).tc2
   clear yf
   obtain ⟨hb0, a1, c1, a2, c2, a3, c3, a4, c4, a5, c5, hr, -⟩ := hp.cells
   obtain ⟨ls, hls⟩ : ∃ x, x = lsT X k := ⟨_, rfl⟩
   obtain ⟨x, hx⟩ : ∃ x, okPd (X.f k) = x := ⟨_, rfl⟩
   have hrt := row_tests hall
   rw [<- hls, hx] at hrt
   rw [<- hls]
   obtain ⟨lt, hlt9⟩ : ∃ t, decide ((X.f k).id < ls) = t := ⟨_, rfl⟩
   obtain ⟨gq, hgq⟩ : ∃ t, decide (X.nx <= (X.f k).id) = t := ⟨_, rfl⟩
   have HD : Hid (decide ((X.f k).id < ls) = lt /\ decide (X.nx <= (X.f k).id) = gq) := ⟨hlt9, hgq⟩
   have HA : Hid (allN (rowB X) k = true /\ Below w.heap.size w wr /\ Below W.heap.size W wr /\ ls = lsT X k /\ rowB X k = (!lt && (!gq && x))) := ⟨hall, bel_nx HE.out.2.2.2.1 hbl, hbl, hls, by rw [hrt, hlt9, hgq]⟩
   clear hlt9 hgq
   have HK : Hid (Blk wr G 35 (tL X (some ⟨b, off, none⟩) X.m c).toArray /\ b < wr.heap.size /\ wr.rangeAt b (off + k * 13) (dL (X.f k) a1 (X.f k).q.ws.length c1 a2 (X.f k).q.bs.length c2 a3 (X.f k).np c3 a4 (X.f k).hs.length c4 a5 (X.f k).nt c5) /\ PdAt wr b (off + k * 13) (X.f k) /\ BdD (X.f k) /\ okPd (X.f k) = x) := ⟨HE.out.2.2.2.2.1.below hbl, hb0, hr, hp, hbd, hx⟩
   clear hall hbl hls hrt hb0 hr hp hbd hx
   go_upto_region 8 with fail
   clear y0 y1
   refine wp_region_any (by kernel_rfl) ?_
   refine wpAny_vals (fun u => Below wr.heap.size wr u) (fun i v u => match i with
    | 0 => v = .pointer (some ⟨b, off + k * 13, none⟩)
    | 1 => v = .pointer (some ⟨b, off + k * 13, none⟩)
    | 2 => v = .pointer (some ⟨b, off + k * 13, none⟩)
    | 3 => v = .int .i64 (X.f k).id
    | 4 => v = .int .i64 ls
    | 5 => v = .bool lt
    | 6 => v = .bool lt
    | 7 => v = cond lt undef (.pointer (some ⟨b, off + k * 13, none⟩))
    | 8 => v = cond lt undef (.pointer (some ⟨b, off + k * 13, none⟩))
    | 9 => v = cond lt undef (.pointer (some ⟨b, off + k * 13, none⟩))
    | 10 => v = cond lt undef (.int .i64 (X.f k).id)
    | 11 => v = cond lt undef (.pointer (some ⟨G, 0, none⟩))
    | 12 => v = cond lt undef (.int .i64 X.nx)
    | 13 => v = cond lt undef (.bool gq)
    | 14 => v = cond lt (.bool true) (.bool gq)
    | 15 => v = cond lt (.bool true) (.bool gq)
    | 16 => v = cond lt undef (cond gq undef (.pointer (some ⟨b, off + k * 13, none⟩)))
    | 17 => v = cond lt undef (cond gq undef (.bool x))
    | 18 => v = cond lt undef (cond gq undef (.bool (!x)))
    | 19 => v = cond lt (.bool true) (cond gq (.bool true) (.bool (!x)))
    | _ => v = undef) (by kernel_rfl) (by kernel_rfl) (fun _ _ _ _ h _ => h) (by first | exact Below.refl _ _ | exact (Below.refl _ _).drew) ?_ ?_ _ _ rfl (by decide) (fun i => by simp [Array.getD]; try (split <;> rfl))
   ·intro vs u hR hall
    simp only [putsL]
    cases lt
    ·cases gq
     ·cases x
      ·have e19 : vs 19 = .bool true := hall 19 (by simp)
       rw [e19]
       clear hall e19
       have HF : Hid (allN (rowB X) X.m = false /\ Below w.heap.size w u) := ⟨allN_no hlt (by rw [HA.out.2.2.2.2]; rfl), bel_nx HA.out.2.1 hR⟩
       clear HK HA hR
       go_simp
       go_wp2
       go_ret
       exact ⟨by rw [HF.out.1]; rfl, HF.out.2⟩
      have e19 : vs 19 = .bool false := hall 19 (by simp)
      rw [e19]
      clear hall e19
      have hgood : rowB X k = true := by rw [HA.out.2.2.2.2]; rfl
      have hpos := (row_at hgood).2
      have hp1 : 0 <= (X.f k).id := hpos.1
      have hp2 : (X.f k).id < X.nx := hpos.2.1
      have d0 : u.cell? ⟨b, off + k * 13, none⟩ = some (.int .i64 (X.f k).id) := (rangeAt_below HK.out.2.2.1 HK.out.2.1 hR) 0 _ rfl
      have HF : Hid (allN (rowB X) (k + 1) = true /\ Below W.heap.size W u /\ (X.f k).id + 1 = lsT X (k + 1)) := ⟨allN_succ HA.out.1 hgood, bel_nx HA.out.2.2.1 hR, by simp [lsT]⟩
      clear HK HA hR hgood hpos
      go_simp
      go_wp2
      go_roundw
      case rel => exact ⟨k + 1, by omega, by go_num, by rw [<- HF.out.2.2], HF.out.1, HF.out.2.1⟩
      case measure => simp [intOf]; omega
     have e19 : vs 19 = .bool true := hall 19 (by simp)
     rw [e19]
     clear hall e19
     have HF : Hid (allN (rowB X) X.m = false /\ Below w.heap.size w u) := ⟨allN_no hlt (by rw [HA.out.2.2.2.2]; rfl), bel_nx HA.out.2.1 hR⟩
     clear HK HA hR
     go_simp
     go_wp2
     go_ret
     exact ⟨by rw [HF.out.1]; rfl, HF.out.2⟩
    have e19 : vs 19 = .bool true := hall 19 (by simp)
    rw [e19]
    clear hall e19
    have HF : Hid (allN (rowB X) X.m = false /\ Below w.heap.size w u) := ⟨allN_no hlt (by rw [HA.out.2.2.2.2]; rfl), bel_nx HA.out.2.1 hR⟩
    clear HK HA hR
    go_simp
    go_wp2
    go_ret
    exact ⟨by rw [HF.out.1]; rfl, HF.out.2⟩
   intro u i o ρ hR ho hρ hc hf hd
   have hi : i < 20 := by
    have := (Array.getElem?_eq_some_iff.1 ho).1
    simpa using this
   obtain rfl | rfl | rfl | rfl | rfl | rfl | rfl | rfl | rfl | rfl | rfl | rfl | rfl | rfl | rfl | rfl | rfl | rfl | rfl | rfl : i = 0 \/ i = 1 \/ i = 2 \/ i = 3 \/ i = 4 \/ i = 5 \/ i = 6 \/ i = 7 \/ i = 8 \/ i = 9 \/ i = 10 \/ i = 11 \/ i = 12 \/ i = 13 \/ i = 14 \/ i = 15 \/ i = 16 \/ i = 17 \/ i = 18 \/ i = 19 := by omega
   all_goals (simp only [List.getElem?_toArray, List.getElem?_cons_zero, List.getElem?_cons_succ, Option.some.injEq] at ho; subst ho)
   ·have s5 : ρ (.tmp 5) = .pointer (some ⟨b, off + k * 13, none⟩) := (hρ 5 (by kernel_rfl)).trans rfl
    exact .inl ⟨rfl, .inl ⟨_, u, rfl, s5, hR, Below.refl _ _⟩⟩
   ·have h0 : _ = _ := hd ⟨0, .data⟩ (by simp) rfl 26 rfl
    exact .inl ⟨rfl, .inl ⟨_, u, run_nilz rfl h0, rfl, hR, Below.refl _ _⟩⟩
   ·have h1 : _ = _ := hd ⟨1, .data⟩ (by simp) rfl 27 rfl
    exact .inl ⟨rfl, .inl ⟨_, u, run_field_op rfl h1 (by go_simp), rfl, hR, Below.refl _ _⟩⟩
   ·have h2 : _ = _ := hd ⟨2, .data⟩ (by simp) rfl 28 rfl
    have y9 : u.cell? ⟨b, off + k * 13, none⟩ = some (.int .i64 (X.f k).id) := (rangeAt_below HK.out.2.2.1 HK.out.2.1 hR) 0 _ rfl
    have hr : (Instr.loadAt 3 (.pointer (some ⟨b, off + k * 13, none⟩))).run Tryz.prog u = .ok (.int .i64 (X.f k).id) u := by go_simp
    exact .inl ⟨rfl, .inl ⟨_, u, run_load_op rfl h2 hr, rfl, hR, Below.refl _ _⟩⟩
   ·have s3 : ρ (.tmp 3) = .int .i64 ls := (hρ 3 (by kernel_rfl)).trans rfl
    exact .inl ⟨rfl, .inl ⟨_, u, rfl, s3, hR, Below.refl _ _⟩⟩
   ·cases lt
    ·have t0 := of_decide_eq_false HD.out.1
     have h3 : _ = _ := hd ⟨3, .data⟩ (by simp) rfl 29 rfl
     have h4 : _ = _ := hd ⟨4, .data⟩ (by simp) rfl 30 rfl
     exact .inl ⟨rfl, .inl ⟨_, u, run_bin_op rfl h3 h4 (by go_simp), rfl, hR, Below.refl _ _⟩⟩
    have t0 := of_decide_eq_true HD.out.1
    have h3 : _ = _ := hd ⟨3, .data⟩ (by simp) rfl 29 rfl
    have h4 : _ = _ := hd ⟨4, .data⟩ (by simp) rfl 30 rfl
    exact .inl ⟨rfl, .inl ⟨_, u, run_bin_op rfl h3 h4 (by go_simp), rfl, hR, Below.refl _ _⟩⟩
   ·have h5 : _ = _ := hd ⟨5, .data⟩ (by simp) rfl 31 rfl
    exact .inl ⟨rfl, .inl ⟨_, u, rfl, h5, hR, Below.refl _ _⟩⟩
   ·cases lt
    ·have g6 : ρ (.tmp 32) = .bool false := hd ⟨6, .guard⟩ (by simp) rfl 32 rfl
     have s5 : ρ (.tmp 5) = .pointer (some ⟨b, off + k * 13, none⟩) := (hρ 5 (by kernel_rfl)).trans rfl
     exact .inl ⟨(by show (match ρ (.tmp 32) with | .bool b => b == false | _ => false) = true; rw [g6]; rfl), .inl ⟨_, u, rfl, s5, hR, Below.refl _ _⟩⟩
    exact .inr ⟨nog (x := .bool true) rfl rfl (hd ⟨6, .guard⟩ (by simp) rfl 32 rfl) rfl, rfl⟩
   ·cases lt
    ·have g6 : ρ (.tmp 32) = .bool false := hd ⟨6, .guard⟩ (by simp) rfl 32 rfl
     have h7 : _ = _ := hd ⟨7, .data⟩ (by simp) rfl 33 rfl
     exact .inl ⟨(by show (match ρ (.tmp 32) with | .bool b => b == false | _ => false) = true; rw [g6]; rfl), .inl ⟨_, u, run_nilz rfl h7, rfl, hR, Below.refl _ _⟩⟩
    exact .inr ⟨nog (x := .bool true) rfl rfl (hd ⟨6, .guard⟩ (by simp) rfl 32 rfl) rfl, rfl⟩
   ·cases lt
    ·have g6 : ρ (.tmp 32) = .bool false := hd ⟨6, .guard⟩ (by simp) rfl 32 rfl
     have h8 : _ = _ := hd ⟨8, .data⟩ (by simp) rfl 34 rfl
     exact .inl ⟨(by show (match ρ (.tmp 32) with | .bool b => b == false | _ => false) = true; rw [g6]; rfl), .inl ⟨_, u, run_field_op rfl h8 (by go_simp), rfl, hR, Below.refl _ _⟩⟩
    exact .inr ⟨nog (x := .bool true) rfl rfl (hd ⟨6, .guard⟩ (by simp) rfl 32 rfl) rfl, rfl⟩
   ·cases lt
    ·have g6 : ρ (.tmp 32) = .bool false := hd ⟨6, .guard⟩ (by simp) rfl 32 rfl
     have h9 : _ = _ := hd ⟨9, .data⟩ (by simp) rfl 35 rfl
     have y9 : u.cell? ⟨b, off + k * 13, none⟩ = some (.int .i64 (X.f k).id) := (rangeAt_below HK.out.2.2.1 HK.out.2.1 hR) 0 _ rfl
     have hr : (Instr.loadAt 3 (.pointer (some ⟨b, off + k * 13, none⟩))).run Tryz.prog u = .ok (.int .i64 (X.f k).id) u := by go_simp
     exact .inl ⟨(by show (match ρ (.tmp 32) with | .bool b => b == false | _ => false) = true; rw [g6]; rfl), .inl ⟨_, u, run_load_op rfl h9 hr, rfl, hR, Below.refl _ _⟩⟩
    exact .inr ⟨nog (x := .bool true) rfl rfl (hd ⟨6, .guard⟩ (by simp) rfl 32 rfl) rfl, rfl⟩
   ·cases lt
    ·have g6 : ρ (.tmp 32) = .bool false := hd ⟨6, .guard⟩ (by simp) rfl 32 rfl
     have s1 : ρ (.tmp 1) = .pointer (some ⟨G, 0, none⟩) := (hρ 1 (by kernel_rfl)).trans rfl
     exact .inl ⟨(by show (match ρ (.tmp 32) with | .bool b => b == false | _ => false) = true; rw [g6]; rfl), .inl ⟨_, u, run_field_op rfl s1 (by go_simp), rfl, hR, Below.refl _ _⟩⟩
    exact .inr ⟨nog (x := .bool true) rfl rfl (hd ⟨6, .guard⟩ (by simp) rfl 32 rfl) rfl, rfl⟩
   ·cases lt
    ·have g6 : ρ (.tmp 32) = .bool false := hd ⟨6, .guard⟩ (by simp) rfl 32 rfl
     have h11 : _ = _ := hd ⟨11, .data⟩ (by simp) rfl 37 rfl
     have y9 : u.cell? ⟨G, 0, none⟩ = some (.int .i64 X.nx) := (HK.out.1.below hR).rng 0 _ rfl
     have hr : (Instr.loadAt 3 (.pointer (some ⟨G, 0, none⟩))).run Tryz.prog u = .ok (.int .i64 X.nx) u := by go_simp
     exact .inl ⟨(by show (match ρ (.tmp 32) with | .bool b => b == false | _ => false) = true; rw [g6]; rfl), .inl ⟨_, u, run_load_op rfl h11 hr, rfl, hR, Below.refl _ _⟩⟩
    exact .inr ⟨nog (x := .bool true) rfl rfl (hd ⟨6, .guard⟩ (by simp) rfl 32 rfl) rfl, rfl⟩
   ·cases lt
    ·cases gq
     ·have t1 := of_decide_eq_false HD.out.2
      have g6 : ρ (.tmp 32) = .bool false := hd ⟨6, .guard⟩ (by simp) rfl 32 rfl
      have h10 : _ = _ := hd ⟨10, .data⟩ (by simp) rfl 36 rfl
      have h12 : _ = _ := hd ⟨12, .data⟩ (by simp) rfl 38 rfl
      exact .inl ⟨(by show (match ρ (.tmp 32) with | .bool b => b == false | _ => false) = true; rw [g6]; rfl), .inl ⟨_, u, run_bin_op rfl h10 h12 (by go_simp), rfl, hR, Below.refl _ _⟩⟩
     have t1 := of_decide_eq_true HD.out.2
     have g6 : ρ (.tmp 32) = .bool false := hd ⟨6, .guard⟩ (by simp) rfl 32 rfl
     have h10 : _ = _ := hd ⟨10, .data⟩ (by simp) rfl 36 rfl
     have h12 : _ = _ := hd ⟨12, .data⟩ (by simp) rfl 38 rfl
     exact .inl ⟨(by show (match ρ (.tmp 32) with | .bool b => b == false | _ => false) = true; rw [g6]; rfl), .inl ⟨_, u, run_bin_op rfl h10 h12 (by go_simp), rfl, hR, Below.refl _ _⟩⟩
    exact .inr ⟨nog (x := .bool true) rfl rfl (hd ⟨6, .guard⟩ (by simp) rfl 32 rfl) rfl, rfl⟩
   ·cases lt
    ·have h6 : _ = _ := hd ⟨6, .data⟩ (by simp) rfl 32 rfl
     have h13 : _ = _ := hd ⟨13, .data⟩ (by simp) rfl 39 rfl
     exact .inl ⟨rfl, .inl ⟨_, u, run_pick_op rfl h6, (by simpa using h13), hR, Below.refl _ _⟩⟩
    have h6 : _ = _ := hd ⟨6, .data⟩ (by simp) rfl 32 rfl
    exact .inl ⟨rfl, .inl ⟨_, u, run_pick_op rfl h6, (by simpa using hc _), hR, Below.refl _ _⟩⟩
   ·have h14 : _ = _ := hd ⟨14, .data⟩ (by simp) rfl 40 rfl
    exact .inl ⟨rfl, .inl ⟨_, u, rfl, h14, hR, Below.refl _ _⟩⟩
   ·cases lt
    ·cases gq
     ·have g15 : ρ (.tmp 41) = .bool false := hd ⟨15, .guard⟩ (by simp) rfl 41 rfl
      have s5 : ρ (.tmp 5) = .pointer (some ⟨b, off + k * 13, none⟩) := (hρ 5 (by kernel_rfl)).trans rfl
      exact .inl ⟨(by show (match ρ (.tmp 41) with | .bool b => b == false | _ => false) = true; rw [g15]; rfl), .inl ⟨_, u, rfl, s5, hR, Below.refl _ _⟩⟩
     exact .inr ⟨nog (x := .bool true) rfl rfl (hd ⟨15, .guard⟩ (by simp) rfl 41 rfl) rfl, rfl⟩
    exact .inr ⟨nog (x := .bool true) rfl rfl (hd ⟨15, .guard⟩ (by simp) rfl 41 rfl) rfl, rfl⟩
   ·cases lt
    ·cases gq
     ·have g15 : ρ (.tmp 41) = .bool false := hd ⟨15, .guard⟩ (by simp) rfl 41 rfl
      have h16 : _ = _ := hd ⟨16, .data⟩ (by simp) rfl 42 rfl
      refine .inl ⟨(by show (match ρ (.tmp 41) with | .bool b => b == false | _ => false) = true; rw [g15]; rfl), .inr ⟨_, _, run_call_op rfl (hf _) (args := #[.pointer (some ⟨b, off + k * 13, none⟩)]) (by simp [h16]) (by kernel_rfl), ?_⟩⟩
      refine (pendRight_any (X.f k) b (off + k * 13) _ (HK.out.2.2.2.1.below hR) HK.out.2.2.2.2.1).mono ?_
      rintro e u' ⟨he, b'⟩
      exact ⟨_, he.trans (by rw [HK.out.2.2.2.2.2] <;> rfl), rfl, bel_nx hR b', b'⟩
     exact .inr ⟨nog (x := .bool true) rfl rfl (hd ⟨15, .guard⟩ (by simp) rfl 41 rfl) rfl, rfl⟩
    exact .inr ⟨nog (x := .bool true) rfl rfl (hd ⟨15, .guard⟩ (by simp) rfl 41 rfl) rfl, rfl⟩
   ·cases lt
    ·cases gq
     ·have g15 : ρ (.tmp 41) = .bool false := hd ⟨15, .guard⟩ (by simp) rfl 41 rfl
      have h17 : _ = _ := hd ⟨17, .data⟩ (by simp) rfl 43 rfl
      exact .inl ⟨(by show (match ρ (.tmp 41) with | .bool b => b == false | _ => false) = true; rw [g15]; rfl), .inl ⟨_, u, run_un_op rfl h17 (by go_simp), rfl, hR, Below.refl _ _⟩⟩
     exact .inr ⟨nog (x := .bool true) rfl rfl (hd ⟨15, .guard⟩ (by simp) rfl 41 rfl) rfl, rfl⟩
    exact .inr ⟨nog (x := .bool true) rfl rfl (hd ⟨15, .guard⟩ (by simp) rfl 41 rfl) rfl, rfl⟩
   cases lt
   ·cases gq
    ·have h15 : _ = _ := hd ⟨15, .data⟩ (by simp) rfl 41 rfl
     have h18 : _ = _ := hd ⟨18, .data⟩ (by simp) rfl 44 rfl
     exact .inl ⟨rfl, .inl ⟨_, u, run_pick_op rfl h15, (by simpa using h18), hR, Below.refl _ _⟩⟩
    have h15 : _ = _ := hd ⟨15, .data⟩ (by simp) rfl 41 rfl
    exact .inl ⟨rfl, .inl ⟨_, u, run_pick_op rfl h15, (by simpa using hc _), hR, Below.refl _ _⟩⟩
   have h15 : _ = _ := hd ⟨15, .data⟩ (by simp) rfl 41 rfl
   exact .inl ⟨rfl, .inl ⟨_, u, run_pick_op rfl h15, (by simpa using hc _), hR, Below.refl _ _⟩⟩
  have hi : ¬ (k : Int) < (X.m : Int) := by omega
  have e9 : k = X.m := by omega
  have HF : Hid (allN (rowB X) X.m = true /\ Below w.heap.size w wr) := ⟨by rw [<- e9]; exact hall, bel_nx HE.out.2.2.2.1 hbl⟩
  clear hall hbl e9
  go_wp2
  go_ret
  exact ⟨by rw [HF.out.1]; rfl, HF.out.2⟩
end Go.Proofs.YtlhjiiifmfgnoaaGreat
