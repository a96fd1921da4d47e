/- Parts of the proof. -/
import Derived.Test.YtplaoagcedgdfaaGreatZq13
import Derived.Test.YtplaoagcedgdfaaGreatZq10
import Derived.BigQuiet
import Derived.Test.YtplaoagcedgdfaaGreatZq1
import Derived.Test.YtplaoagcedgdfaaGreatZq12
import Derived.Test.YtplaoagcedgdfaaGreatZq11
import Derived.Test.YtplaoagcedgdfaaGreatZq6
set_option linter.unusedVariables false
set_option linter.unusedSimpArgs false
set_option maxHeartbeats 8000000
set_option maxRecDepth 20000
namespace Go.Proofs.YtplaoagcedgdfaaGreat
open Go.RowKit Go.Joins Go.Proofs.Tryz
abbrev kp : Array Value := #[.int .i64 0, .int .i64 0, .int .i64 0, .slice none 0 0, .slice none 0 0, .int .i64 0]
theorem uv (w : World) (n : Nat) : Below w.heap.size w (w.drewN n) := ⟨rfl, rfl, rfl, Nat.le_refl _, fun _ _ => rfl⟩
theorem s8 (Q : VQ) (A : VA) (a1 : Option Addr) (l1 c1 : Nat) (a2 : Option Addr) (l2 c2 : Nat) (b1 : Option Addr) (m1 d1 : Nat) (b2 : Option Addr) (m2 d2 : Nat) (w : World) (r1 : Rd w 0 (ah Q.ws) (.slice a1 l1 c1)) (r2 : Rd w 0 (af Q.bs) (.slice a2 l2 c2)) (r3 : Rd w 0 (ah A.ws) (.slice b1 m1 d1)) (r4 : Rd w 0 (af A.bs) (.slice b2 m2 d2)) (hb : ce Q) (ha : eL A) :
 Calls prog 237 #[.agg (qL Q a1 l1 c1 a2 l2 c2).toArray, .agg (aL A b1 m1 d1 b2 m2 d2).toArray] w fun e w' => e = .returned (.bool (jE Q A)) /\ Below w.heap.size w w' := by
 obtain ⟨e1, _, s1⟩ := r1.int3
 obtain ⟨e2, _, s2⟩ := r2.bool3
 obtain ⟨e3, _, s3⟩ := r3.int3
 obtain ⟨e4, h4, s4⟩ := r4.bool3
 unfold jE
 rw [<- e1, <- e2, <- e3, <- e4]
 exact mV Q.kd A.kd A.fl Q.pl Q.n Q.wa a1 a2 l1 l2 c1 c2 Q.ws Q.bs A.pl A.n b1 b2 m1 m2 d1 d2 A.ws A.bs w e1 e2 s1 s2 hb.1 hb.2 e3 e4 s3 s4 ha.1 ha.2 h4
theorem uw (X : VA) : fk X = ((X.kd == 0) && ((X.fl == 0) && ((X.pl == 0) && ((X.n == 0) && (decide (X.ws = []) && decide (X.bs = [])))))) := by
 unfold fk
 have h1 : ((X.ws.length : Int) == 0) = decide (X.ws = []) := by cases X.ws <;> simp; omega
 have h2 : ((X.bs.length : Int) == 0) = decide (X.bs = []) := by cases X.bs <;> simp; omega
 rw [h1, h2]
theorem jH (X : VA) (a1 : Option Addr) (c1 : Nat) (a2 : Option Addr) (c2 : Nat) (w : World) (r1 : Rd w 0 (ah X.ws) (.slice a1 X.ws.length c1)) (r2 : Rd w 0 (af X.bs) (.slice a2 X.bs.length c2)) (hb : eL X) :
 Calls prog 238 #[.agg (aL X a1 X.ws.length c1 a2 X.bs.length c2).toArray, .agg ([.int .i64 0, .int .i64 0, .int .i64 0, .int .i64 0, .slice none 0 0, .slice none 0 0]).toArray] w fun e w' => e = .returned (.bool (fk X)) /\ Below w.heap.size w w' := by
 obtain ⟨t0, q0⟩ : ∃ t, (X.kd == 0) = t := ⟨_, rfl⟩
 obtain ⟨t1, q1⟩ : ∃ t, (X.fl == 0) = t := ⟨_, rfl⟩
 obtain ⟨t2, q2⟩ : ∃ t, (X.pl == 0) = t := ⟨_, rfl⟩
 obtain ⟨t3, q3⟩ : ∃ t, (X.n == 0) = t := ⟨_, rfl⟩
 obtain ⟨t4, q4⟩ : ∃ t, decide (X.ws = []) = t := ⟨_, rfl⟩
 obtain ⟨t5, q5⟩ : ∃ t, decide (X.bs = []) = t := ⟨_, rfl⟩
 obtain ⟨W, hW⟩ : ∃ W, W = (w.alloc (.cells (aL X a1 X.ws.length c1 a2 X.bs.length c2).toArray 118)).alloc (.cells ([.int .i64 0, .int .i64 0, .int .i64 0, .int .i64 0, .slice none 0 0, .slice none 0 0]).toArray 118) := ⟨_, rfl⟩
 have HE : Hid (fk X = (t0 && (t1 && (t2 && (t3 && (t4 && t5))))) /\ decide (X.ws = []) = t4 /\ decide (X.bs = []) = t5 /\ Below w.heap.size w W /\ ag W w.heap.size 118 (aL X a1 X.ws.length c1 a2 X.bs.length c2).toArray /\ ag W (w.heap.size + 1) 118 ([.int .i64 0, .int .i64 0, .int .i64 0, .int .i64 0, .slice none 0 0, .slice none 0 0]).toArray /\ aQ W a1 X.ws /\ aW W a2 X.bs) := by
  have B : Below w.heap.size w W := by rw [hW]; exact ae (ac _ _) (ac _ _)
  exact ⟨by rw [uw, q0, q1, q2, q3, q4, q5], q4, q5, B, by rw [hW]; exact (ag.new w _ _).below (ac _ _), by rw [hW]; have := ag.new (w.alloc (.cells (aL X a1 X.ws.length c1 a2 X.bs.length c2).toArray 118)) ([.int .i64 0, .int .i64 0, .int .i64 0, .int .i64 0, .slice none 0 0, .slice none 0 0]).toArray 118; simpa using this, (r1.below B).int3.2.2, (r2.below B).bool3.2.2⟩
 rw [HE.out.1]
 obtain ⟨⟨y0, y1, y2, y3, y4, y5⟩, yf⟩ := HE.out.2.2.2.2.1.tc6
 obtain ⟨⟨z0, z1, z2, z3, z4, z5⟩, zf⟩ := HE.out.2.2.2.2.2.1.tc6
 clear q4 q5 r1 r2 yf zf
 cases t0
 case false =>
  go_enter func238, ntmps238
  go_upto_region 1 with fail
  rw [<- hW]
  clear hW
  go_wp2
  go_ret
  exact ⟨rfl, HE.out.2.2.2.1⟩
 cases t1
 case false =>
  go_enter func238, ntmps238
  go_upto_region 1 with fail
  rw [<- hW]
  clear hW
  go_wp2
  go_ret
  exact ⟨rfl, HE.out.2.2.2.1⟩
 cases t2
 case false =>
  go_enter func238, ntmps238
  go_upto_region 1 with fail
  rw [<- hW]
  clear hW
  go_wp2
  go_ret
  exact ⟨rfl, HE.out.2.2.2.1⟩
 cases t3
 case false =>
  go_enter func238, ntmps238
  go_upto_region 1 with fail
  rw [<- hW]
  clear hW
  go_wp2
  go_ret
  exact ⟨rfl, HE.out.2.2.2.1⟩
 go_enter func238, ntmps238
 go_upto_region 1 with fail
 rw [<- hW]
 clear hW
 go_wp2_with fail
 refine (fA a1 none _ 0 c1 0 X.ws [] _ rfl rfl HE.out.2.2.2.2.2.2.1 (.inl rfl) hb.1 (by simp) t4 HE.out.2.1).mono ?_
 rintro e w1 ⟨rfl, b1⟩
 have HB : Hid (Below W.heap.size W w1) := b1
 clear b1 y0 y1 y2 y3 y4 y5 z0 z1 z2 z3 z4 z5
 cases t4
 case false =>
  go_wp2
  go_ret
  exact ⟨rfl, ae HE.out.2.2.2.1 HB.out⟩
 obtain ⟨⟨y0, y1, y2, y3, y4, y5⟩, yf⟩ := (HE.out.2.2.2.2.1.below HB.out).tc6
 obtain ⟨⟨z0, z1, z2, z3, z4, z5⟩, zf⟩ := (HE.out.2.2.2.2.2.1.below HB.out).tc6
 clear yf zf
 go_wp2_with fail
 refine (fi a2 none _ 0 c2 0 X.bs [] _ rfl rfl (HE.out.2.2.2.2.2.2.2.below HB.out) (.inl rfl) hb.2 (by simp) t5 HE.out.2.2.1).mono ?_
 rintro e w2 ⟨rfl, b2⟩
 have B2 := ae (ae HE.out.2.2.2.1 HB.out) b2
 clear b2 y0 y1 y2 y3 y4 y5 z0 z1 z2 z3 z4 z5
 go_wp2
 go_ret
 exact ⟨rfl, B2⟩
theorem lr (D : VD) (g o : Nat) (w : World) (h : eZ w g o D) (hb : fV D) :
 Calls prog 202 #[.pointer (some ⟨g, o, none⟩)] w fun e w' => e = .returned (.bool (decide (D.hs.length = D.np) && (decide (D.nt = D.np) && aI (dD D) D.np))) /\ Below w.heap.size w w' := by
 have HP : Hid (eZ w g o D /\ fV D) := ⟨h, hb⟩
 obtain ⟨hg, a1, c1, a2, c2, a3, c3, a4, c4, a5, c5, hr, r1, r2, r3, r4, r5⟩ := h.cells
 have y10 := hr 10 _ rfl
 have y11 := hr 11 _ rfl
 have y12 := hr 12 _ rfl
 obtain ⟨-, hn1, hn2, hn3, -, -⟩ := hb
 by_cases e1 : D.hs.length = D.np
 ·have f1 : ((D.hs.length : Int) != (D.np : Int)) = false := by simp [e1]
  have f1' : ((D.hs.length : Int) == (D.np : Int)) = true := by simp [e1]
  by_cases e2 : D.nt = D.np
  ·have f2 : ((D.nt : Int) != (D.np : Int)) = false := by simp [e2]
   have HT : Hid (decide (D.hs.length = D.np) = true /\ decide (D.nt = D.np) = true /\ D.hs.length = D.np /\ D.nt = D.np) := ⟨decide_eq_true e1, decide_eq_true e2, e1, e2⟩
   rw [HT.out.1, HT.out.2.1, Bool.true_and, Bool.true_and]
   have HR : Hid (w.rangeAt g o (dL D a1 D.q.ws.length c1 a2 D.q.bs.length c2 a3 D.np c3 a4 D.hs.length c4 a5 D.nt c5) /\ g < w.heap.size /\ Rd w 0 (.list 8 D.np (fun i => aa (pT (D.pt i)))) (.slice a3 D.np c3) /\ Rd w 0 (af D.hs) (.slice a4 D.hs.length c4) /\ Rd w 0 (.list 6 D.nt (fun i => aa (aT (D.tl i)))) (.slice a5 D.nt c5)) := ⟨hr, hg, r3, r4, r5⟩
   clear hr r1 r2 r3 r4 r5 hg h e1 e2
   go_enter func202, ntmps202
   go_upto_region 1 with fail
   go_quiet (fail)
   go_wp2
   clear y10 y11 y12 f1 f1' f2
   go_loopw [34] (fun i wr => ∃ k : Nat, k <= D.hs.length /\ i = .int .i64 k /\ aI (dD D) k = true /\ Below w.heap.size w wr) (fun i _ => D.hs.length - (intOf i).toNat)
   case atStart => exact ⟨0, Nat.zero_le _, rfl, rfl, by first | exact Below.refl _ _ | exact (Below.refl _ _).drew | exact uv _ _⟩
   case round =>
    obtain ⟨k, hk, rfl, hall, hbl⟩ := hrel
    by_cases hlt : k < D.hs.length
    ·have hi : (k : Int) < (D.hs.length : Int) := by omega
     have hi3 : (k : Int) < (D.np : Int) := by have := HT.out.2.2.1; omega
     have hi5 : (k : Int) < (D.nt : Int) := by have := HT.out.2.2; omega
     obtain ⟨b4, o4, rfl, hb4, d0⟩ := (HR.out.2.2.2.1.below hbl).bit (k := k) (n := D.np) hlt
     obtain ⟨b3, o3, vs, rfl, _, hb3, hlen, hr3, hrd⟩ := (HR.out.2.2.1.below hbl).at (k := k) (by have := HT.out.2.2.1; omega)
     obtain ⟨p1, k1, p2, k2, rfl, rp1, rp2⟩ := VP.cells hrd hlen
     clear hlen hrd
     obtain ⟨b5, o5, vs, rfl, _, hb5, hlen, hr5, hrd⟩ := (HR.out.2.2.2.2.below hbl).at (k := k) (by have := HT.out.2.2; omega)
     obtain ⟨t1, j1, t2, j2, rfl, rt1, rt2⟩ := VA.cells hrd hlen
     clear hlen hrd
     obtain ⟨hs, hhs⟩ : ∃ x, D.hs.getD k false = x := ⟨_, rfl⟩
     rw [hhs] at d0
     obtain ⟨x, hx⟩ : ∃ x, dD D k = x := ⟨_, rfl⟩
     have HA : Hid (aI (dD D) k = true /\ dD D k = x /\ Below w.heap.size w wr) := ⟨hall, hx, hbl⟩
     have hbq := HP.out.2.2.2.2.2.1 k (by have := HT.out.2.2.1; omega)
     have hba := HP.out.2.2.2.2.2.2 k (by have := HT.out.2.2; omega)
     have hgw := Nat.lt_of_lt_of_le HR.out.2.1 hbl.size
     have hrw := ax HR.out.1 HR.out.2.1 hbl
     have HB : Hid (ce (D.pt k).q /\ eL (D.tl k)) := ⟨hbq, hba⟩
     have hx2 : hs = true -> jE (D.pt k).q (D.tl k) = x := fun e => by rw [<- hx]; unfold dD; rw [hhs, e]; rfl
     have hx3 : hs = false -> fk (D.tl k) = x := fun e => by rw [<- hx]; unfold dD; rw [hhs, e]; rfl
     have HK : Hid (g < wr.heap.size /\ wr.rangeAt g o (dL D a1 D.q.ws.length c1 a2 D.q.bs.length c2 (some ⟨b3, o3, none⟩) D.np c3 (some ⟨b4, o4, none⟩) D.hs.length c4 (some ⟨b5, o5, none⟩) D.nt c5) /\ b3 < wr.heap.size /\ wr.rangeAt b3 (o3 + k * 8) (pL (D.pt k) p1 (D.pt k).q.ws.length k1 p2 (D.pt k).q.bs.length k2) /\ b5 < wr.heap.size /\ wr.rangeAt b5 (o5 + k * 6) (aL (D.tl k) t1 (D.tl k).ws.length j1 t2 (D.tl k).bs.length j2) /\ Rd wr 0 (ah (D.pt k).q.ws) (.slice p1 (D.pt k).q.ws.length k1) /\ Rd wr 0 (af (D.pt k).q.bs) (.slice p2 (D.pt k).q.bs.length k2) /\ Rd wr 0 (ah (D.tl k).ws) (.slice t1 (D.tl k).ws.length j1) /\ Rd wr 0 (af (D.tl k).bs) (.slice t2 (D.tl k).bs.length j2) /\ ce (D.pt k).q /\ eL (D.tl k) /\ (hs = true -> jE (D.pt k).q (D.tl k) = x) /\ (hs = false -> fk (D.tl k) = x)) := ⟨hgw, hrw, hb3, hr3, hb5, hr5, rp1, rp2, rt1, rt2, hbq, hba, hx2, hx3⟩
     clear hx hx2 hx3 hhs hgw hrw hb3 hr3 hb5 hr5 rp1 rp2 rt1 rt2 hbq hba hall hbl hb4
     go_upto_region 6 with fail
     clear d0
     refine wp_region_any (by kernel_rfl) ?_
     refine aX (fun u => Below wr.heap.size wr u) (fun i v u => match i with
      | 0 => v = .bool hs
      | 1 => v = .bool hs
      | 2 => v = cond hs (.pointer (some ⟨g, o, none⟩)) undef
      | 3 => v = cond hs (.pointer (some ⟨g, o, none⟩)) undef
      | 4 => v = cond hs (.pointer (some ⟨g, o + 10, none⟩)) undef
      | 5 => v = cond hs (.slice (some ⟨b3, o3, none⟩) D.np c3) undef
      | 6 => v = cond hs (.int .i64 (k : Int)) undef
      | 7 => v = cond hs (.pointer (some ⟨b3, o3 + k * 8, none⟩)) undef
      | 8 => v = cond hs (.pointer (some ⟨b3, o3 + k * 8 + 2, none⟩)) undef
      | 9 => v = cond hs (.agg ([.int .i64 (D.pt k).q.kd, .int .i64 (D.pt k).q.pl, .int .i64 (D.pt k).q.n, .slice p1 ((D.pt k).q.ws.length) k1, .slice p2 ((D.pt k).q.bs.length) k2, .int .i64 (D.pt k).q.wa]).toArray) undef
      | 10 => v = cond hs (.pointer (some ⟨g, o, none⟩)) undef
      | 11 => v = cond hs (.pointer (some ⟨g, o, none⟩)) undef
      | 12 => v = cond hs (.pointer (some ⟨g, o + 12, none⟩)) undef
      | 13 => v = cond hs (.slice (some ⟨b5, o5, none⟩) D.nt c5) undef
      | 14 => v = cond hs (.int .i64 (k : Int)) undef
      | 15 => v = cond hs (.pointer (some ⟨b5, o5 + k * 6, none⟩)) undef
      | 16 => v = cond hs (.agg (aL (D.tl k) t1 (D.tl k).ws.length j1 t2 (D.tl k).bs.length j2).toArray) undef
      | 17 => v = cond hs (.bool x) undef
      | 18 => v = cond hs (.bool (!x)) undef
      | 19 => v = cond hs (.bool (!x)) (.bool false)
      | 20 => v = cond hs (.bool (!x)) (.bool false)
      | 21 => v = cond hs (cond x (.bool true) undef) (.bool false)
      | 22 => v = cond hs (cond x (.bool false) undef) (.bool true)
      | 23 => v = cond hs (cond x (.bool false) undef) (.bool true)
      | 24 => v = cond hs undef (.pointer (some ⟨g, o, none⟩))
      | 25 => v = cond hs undef (.pointer (some ⟨g, o, none⟩))
      | 26 => v = cond hs undef (.pointer (some ⟨g, o + 12, none⟩))
      | 27 => v = cond hs undef (.slice (some ⟨b5, o5, none⟩) D.nt c5)
      | 28 => v = cond hs undef (.int .i64 (k : Int))
      | 29 => v = cond hs undef (.pointer (some ⟨b5, o5 + k * 6, none⟩))
      | 30 => v = cond hs undef (.agg (aL (D.tl k) t1 (D.tl k).ws.length j1 t2 (D.tl k).bs.length j2).toArray)
      | 31 => v = cond hs undef (.agg ([.int .i64 0, .int .i64 0, .int .i64 0, .int .i64 0, .slice none 0 0, .slice none 0 0]).toArray)
      | 32 => v = cond hs undef (.bool x)
      | 33 => v = cond hs undef (.bool (!x))
      | 34 => v = cond hs (cond x (.bool false) undef) (.bool (!x))
      | 35 => v = .bool (!x)
      | _ => v = undef) (by kernel_rfl) (by kernel_rfl) (fun _ _ _ _ h _ => h) (by first | exact Below.refl _ _ | exact (Below.refl _ _).drew) ?_ ?_ _ _ rfl (by decide) (fun i => by simp [Array.getD]; try (split <;> rfl))
     ·intro vs u hR hall
      simp only [bm]
      cases x
      ·have e35 : vs 35 = .bool true := hall 35 (by simp)
       rw [e35]
       clear hall e35
       have HF : Hid (aI (dD D) D.np = false /\ Below w.heap.size w u) := ⟨cM (by have := HT.out.2.2.1; omega) HA.out.2.1, ae HA.out.2.2 hR⟩
       clear HK HA hR
       go_simp
       go_wp2
       go_ret
       exact ⟨by rw [HF.out.1]; rfl, HF.out.2⟩
      have e35 : vs 35 = .bool false := hall 35 (by simp)
      rw [e35]
      clear hall e35
      have HF : Hid (aI (dD D) (k + 1) = true /\ Below w.heap.size w u) := ⟨cF HA.out.1 HA.out.2.1, ae HA.out.2.2 hR⟩
      clear HK HA hR
      go_simp
      go_wp2
      go_roundw
      case rel => exact ⟨k + 1, by omega, by go_num, HF.out.1, HF.out.2⟩
      case measure => simp [intOf]; omega
     intro u i o ρ hR ho hρ hc hf hd
     have hi : i < 36 := by
      have := (Array.getElem?_eq_some_iff.1 ho).1
      simpa using this
     obtain rfl | rfl | rfl | rfl | rfl | rfl | rfl | rfl | rfl | rfl | rfl | rfl | rfl | rfl | rfl | rfl | rfl | rfl | rfl | rfl | rfl | rfl | rfl | rfl | rfl | rfl | rfl | rfl | rfl | rfl | rfl | rfl | rfl | rfl | rfl | rfl : i = 0 \/ i = 1 \/ i = 2 \/ i = 3 \/ i = 4 \/ i = 5 \/ i = 6 \/ i = 7 \/ i = 8 \/ i = 9 \/ i = 10 \/ i = 11 \/ i = 12 \/ i = 13 \/ i = 14 \/ i = 15 \/ i = 16 \/ i = 17 \/ i = 18 \/ i = 19 \/ i = 20 \/ i = 21 \/ i = 22 \/ i = 23 \/ i = 24 \/ i = 25 \/ i = 26 \/ i = 27 \/ i = 28 \/ i = 29 \/ i = 30 \/ i = 31 \/ i = 32 \/ i = 33 \/ i = 34 \/ i = 35 := by omega
     all_goals (simp only [List.getElem?_toArray, List.getElem?_cons_zero, List.getElem?_cons_succ, Option.some.injEq] at ho; subst ho)
     ·cases hs
      ·exact yr rfl (hρ 4 (by kernel_rfl)) hR
      exact yr rfl (hρ 4 (by kernel_rfl)) hR
     ·exact yr rfl (dq hd 0 39) hR
     ·cases hs
      ·exact aj (.bool false) hd 1 40
      exact yq hd 1 40 rfl (hρ 0 (by kernel_rfl)) hR
     ·cases hs
      ·exact aj (.bool false) hd 1 40
      exact yq hd 1 40 (cx rfl (dq hd 2 41)) rfl hR
     ·cases hs
      ·exact aj (.bool false) hd 1 40
      exact yq hd 1 40 (aq rfl (dq hd 3 42) (by go_simp)) rfl hR
     ·cases hs
      ·exact aj (.bool false) hd 1 40
      have y9 := (ax HK.out.2.1 HK.out.1 hR) 10 _ rfl
      exact yq hd 1 40 (ai rfl (dq hd 4 43) (by go_simp)) rfl hR
     ·cases hs
      ·exact aj (.bool false) hd 1 40
      exact yq hd 1 40 rfl (hρ 3 (by kernel_rfl)) hR
     ·cases hs
      ·exact aj (.bool false) hd 1 40
      exact yq hd 1 40 (au rfl (dq hd 5 44) (dq hd 6 45) (by go_simp)) rfl hR
     ·cases hs
      ·exact aj (.bool false) hd 1 40
      exact yq hd 1 40 (aq rfl (dq hd 7 46) (by go_simp)) rfl hR
     ·cases hs
      ·exact aj (.bool false) hd 1 40
      have h8 : _ = _ := dq hd 8 47
      have hr : (Instr.loadAt 84 (.pointer (some ⟨b3, o3 + k * 8 + 2, none⟩))).run prog u = .ok (.agg ([.int .i64 (D.pt k).q.kd, .int .i64 (D.pt k).q.pl, .int .i64 (D.pt k).q.n, .slice p1 ((D.pt k).q.ws.length) k1, .slice p2 ((D.pt k).q.bs.length) k2, .int .i64 (D.pt k).q.wa]).toArray) u := run_loadAt_mid u b3 (o3 + k * 8 + 2) 84 ([.int .i64 (D.pt k).q.kd, .int .i64 (D.pt k).q.pl, .int .i64 (D.pt k).q.n, .slice p1 ((D.pt k).q.ws.length) k1, .slice p2 ((D.pt k).q.bs.length) k2, .int .i64 (D.pt k).q.wa]) _ (en [.int .i64 (D.pt k).p, .int .i64 (D.pt k).t] [.int .i64 (D.pt k).q.kd, .int .i64 (D.pt k).q.pl, .int .i64 (D.pt k).q.n, .slice p1 ((D.pt k).q.ws.length) k1, .slice p2 ((D.pt k).q.bs.length) k2, .int .i64 (D.pt k).q.wa] [] (ax HK.out.2.2.2.1 HK.out.2.2.1 hR) rfl) underlying84 rfl (by kernel_rfl)
      exact yq hd 1 40 (ai rfl h8 hr) rfl hR
     ·cases hs
      ·exact aj (.bool false) hd 1 40
      exact yq hd 1 40 rfl (hρ 0 (by kernel_rfl)) hR
     ·cases hs
      ·exact aj (.bool false) hd 1 40
      exact yq hd 1 40 (cx rfl (dq hd 10 49)) rfl hR
     ·cases hs
      ·exact aj (.bool false) hd 1 40
      exact yq hd 1 40 (aq rfl (dq hd 11 50) (by go_simp)) rfl hR
     ·cases hs
      ·exact aj (.bool false) hd 1 40
      have y9 := (ax HK.out.2.1 HK.out.1 hR) 12 _ rfl
      exact yq hd 1 40 (ai rfl (dq hd 12 51) (by go_simp)) rfl hR
     ·cases hs
      ·exact aj (.bool false) hd 1 40
      exact yq hd 1 40 rfl (hρ 3 (by kernel_rfl)) hR
     ·cases hs
      ·exact aj (.bool false) hd 1 40
      exact yq hd 1 40 (au rfl (dq hd 13 52) (dq hd 14 53) (by go_simp)) rfl hR
     ·cases hs
      ·exact aj (.bool false) hd 1 40
      have h15 : _ = _ := dq hd 15 54
      have hr : (Instr.loadAt 118 (.pointer (some ⟨b5, o5 + k * 6, none⟩))).run prog u = .ok (.agg (aL (D.tl k) t1 (D.tl k).ws.length j1 t2 (D.tl k).bs.length j2).toArray) u := run_loadAt_mid u b5 (o5 + k * 6) 118 (aL (D.tl k) t1 (D.tl k).ws.length j1 t2 (D.tl k).bs.length j2) _ (ax HK.out.2.2.2.2.2.1 HK.out.2.2.2.2.1 hR) underlying118 rfl (by kernel_rfl)
      exact yq hd 1 40 (ai rfl h15 hr) rfl hR
     ·cases hs
      ·exact aj (.bool false) hd 1 40
      have g1 : ρ (.tmp 40) = .bool true := gq hd 1 40
      have h9 : _ = _ := dq hd 9 48
      have h16 : _ = _ := dq hd 16 55
      refine .inl ⟨(by show (match ρ (.tmp 40) with | .bool b => b == true | _ => false) = true; rw [g1]; rfl), .inr ⟨_, _, bj rfl (hf _) (args := #[.agg ([.int .i64 (D.pt k).q.kd, .int .i64 (D.pt k).q.pl, .int .i64 (D.pt k).q.n, .slice p1 ((D.pt k).q.ws.length) k1, .slice p2 ((D.pt k).q.bs.length) k2, .int .i64 (D.pt k).q.wa]).toArray, .agg (aL (D.tl k) t1 (D.tl k).ws.length j1 t2 (D.tl k).bs.length j2).toArray]) (by simp [h9, h16]) (by kernel_rfl), ?_⟩⟩
      refine (s8 (D.pt k).q (D.tl k) p1 _ k1 p2 _ k2 t1 _ j1 t2 _ j2 _ (HK.out.2.2.2.2.2.2.1.below hR) (HK.out.2.2.2.2.2.2.2.1.below hR) (HK.out.2.2.2.2.2.2.2.2.1.below hR) (HK.out.2.2.2.2.2.2.2.2.2.1.below hR) HK.out.2.2.2.2.2.2.2.2.2.2.1 HK.out.2.2.2.2.2.2.2.2.2.2.2.1).mono ?_
      rintro e u' ⟨he, b'⟩
      exact ⟨_, he.trans (by rw [HK.out.2.2.2.2.2.2.2.2.2.2.2.2.1 rfl] <;> rfl), rfl, ae hR b', b'⟩
     ·cases hs
      ·exact aj (.bool false) hd 1 40
      exact yq hd 1 40 (bH rfl (dq hd 17 56) (by go_simp)) rfl hR
     ·cases hs
      ·exact yr (aA rfl (dq hd 1 40)) (by simpa using hc _) hR
      exact yr (aA rfl (dq hd 1 40)) (by simpa using (dq hd 18 57)) hR
     ·exact yr rfl (dq hd 19 58) hR
     ·cases hs
      ·exact yq hd 20 59 rfl (hρ 4 (by kernel_rfl)) hR
      cases x
      ·exact aj (.bool true) hd 20 59
      exact yq hd 20 59 rfl (hρ 4 (by kernel_rfl)) hR
     ·cases hs
      ·exact yq hd 20 59 (bH rfl (dq hd 21 60) (by go_simp)) rfl hR
      cases x
      ·exact aj (.bool true) hd 20 59
      exact yq hd 20 59 (bH rfl (dq hd 21 60) (by go_simp)) rfl hR
     ·cases hs
      ·exact yq hd 20 59 rfl (dq hd 22 61) hR
      cases x
      ·exact aj (.bool true) hd 20 59
      exact yq hd 20 59 rfl (dq hd 22 61) hR
     ·cases hs
      ·exact yq hd 23 62 rfl (hρ 0 (by kernel_rfl)) hR
      cases x
      ·exact aj undef hd 23 62
      exact aj (.bool false) hd 23 62
     ·cases hs
      ·exact yq hd 23 62 (cx rfl (dq hd 24 63)) rfl hR
      cases x
      ·exact aj undef hd 23 62
      exact aj (.bool false) hd 23 62
     ·cases hs
      ·exact yq hd 23 62 (aq rfl (dq hd 25 64) (by go_simp)) rfl hR
      cases x
      ·exact aj undef hd 23 62
      exact aj (.bool false) hd 23 62
     ·cases hs
      ·have y9 := (ax HK.out.2.1 HK.out.1 hR) 12 _ rfl
       exact yq hd 23 62 (ai rfl (dq hd 26 65) (by go_simp)) rfl hR
      cases x
      ·exact aj undef hd 23 62
      exact aj (.bool false) hd 23 62
     ·cases hs
      ·exact yq hd 23 62 rfl (hρ 3 (by kernel_rfl)) hR
      cases x
      ·exact aj undef hd 23 62
      exact aj (.bool false) hd 23 62
     ·cases hs
      ·exact yq hd 23 62 (au rfl (dq hd 27 66) (dq hd 28 67) (by go_simp)) rfl hR
      cases x
      ·exact aj undef hd 23 62
      exact aj (.bool false) hd 23 62
     ·cases hs
      ·have h29 : _ = _ := dq hd 29 68
       have hr : (Instr.loadAt 118 (.pointer (some ⟨b5, o5 + k * 6, none⟩))).run prog u = .ok (.agg (aL (D.tl k) t1 (D.tl k).ws.length j1 t2 (D.tl k).bs.length j2).toArray) u := run_loadAt_mid u b5 (o5 + k * 6) 118 (aL (D.tl k) t1 (D.tl k).ws.length j1 t2 (D.tl k).bs.length j2) _ (ax HK.out.2.2.2.2.2.1 HK.out.2.2.2.2.1 hR) underlying118 rfl (by kernel_rfl)
       exact yq hd 23 62 (ai rfl h29 hr) rfl hR
      cases x
      ·exact aj undef hd 23 62
      exact aj (.bool false) hd 23 62
     ·cases hs
      ·exact yq hd 23 62 (lP rfl (qs := #[]) (by simp) (by kernel_rfl)) rfl hR
      cases x
      ·exact aj undef hd 23 62
      exact aj (.bool false) hd 23 62
     ·cases hs
      ·have g23 : ρ (.tmp 62) = .bool true := gq hd 23 62
       have h30 : _ = _ := dq hd 30 69
       have h31 : _ = _ := dq hd 31 70
       refine .inl ⟨(by show (match ρ (.tmp 62) with | .bool b => b == true | _ => false) = true; rw [g23]; rfl), .inr ⟨_, _, bj rfl (hf _) (args := #[.agg (aL (D.tl k) t1 (D.tl k).ws.length j1 t2 (D.tl k).bs.length j2).toArray, .agg ([.int .i64 0, .int .i64 0, .int .i64 0, .int .i64 0, .slice none 0 0, .slice none 0 0]).toArray]) (by simp [h30, h31]) (by kernel_rfl), ?_⟩⟩
       refine (jH (D.tl k) t1 j1 t2 j2 _ (HK.out.2.2.2.2.2.2.2.2.1.below hR) (HK.out.2.2.2.2.2.2.2.2.2.1.below hR) HK.out.2.2.2.2.2.2.2.2.2.2.2.1).mono ?_
       rintro e u' ⟨he, b'⟩
       exact ⟨_, he.trans (by rw [HK.out.2.2.2.2.2.2.2.2.2.2.2.2.2 rfl] <;> rfl), rfl, ae hR b', b'⟩
      cases x
      ·exact aj undef hd 23 62
      exact aj (.bool false) hd 23 62
     ·cases hs
      ·exact yq hd 23 62 (bH rfl (dq hd 32 71) (by go_simp)) rfl hR
      cases x
      ·exact aj undef hd 23 62
      exact aj (.bool false) hd 23 62
     ·cases hs
      ·exact yq hd 20 59 (aA rfl (dq hd 23 62)) (by simpa using (dq hd 33 72)) hR
      cases x
      ·exact aj (.bool true) hd 20 59
      exact yq hd 20 59 (aA rfl (dq hd 23 62)) (by simpa using hc _) hR
     cases hs
     ·exact yr (aA rfl (dq hd 20 59)) (by simpa using (dq hd 34 73)) hR
     cases x
     ·exact yr (aA rfl (dq hd 20 59)) (by simpa using hc _) hR
     exact yr (aA rfl (dq hd 20 59)) (by simpa using (dq hd 34 73)) hR
    have hi : ¬ (k : Int) < (D.hs.length : Int) := by omega
    have HF : Hid (aI (dD D) D.np = true /\ Below w.heap.size w wr) := ⟨by have h9 := HT.out.2.2.1; rw [show D.np = k by omega]; exact hall, hbl⟩
    clear hall hbl
    go_wp2
    go_ret
    exact ⟨by rw [HF.out.1]; rfl, HF.out.2⟩
  have f2 : ((D.nt : Int) != (D.np : Int)) = true := by simp; omega
  have HT : Hid (decide (D.hs.length = D.np) = true /\ decide (D.nt = D.np) = false) := ⟨decide_eq_true e1, decide_eq_false e2⟩
  rw [HT.out.1, HT.out.2, Bool.true_and, Bool.false_and]
  clear hr r1 r2 r3 r4 r5 hg h e1 e2
  go_enter func202, ntmps202
  go_upto_region 1 with fail
  go_quiet (fail)
  go_wp2
  go_ret
  exact ⟨rfl, by first | exact Below.refl _ _ | exact (Below.refl _ _).drew | exact uv _ _⟩
 have f1 : ((D.hs.length : Int) != (D.np : Int)) = true := by simp; omega
 have HT : Hid (decide (D.hs.length = D.np) = false) := decide_eq_false e1
 rw [HT.out, Bool.false_and]
 clear hr r1 r2 r3 r4 r5 hg h e1
 go_enter func202, ntmps202
 go_upto_region 1 with fail
 go_quiet (fail)
 go_wp2
 go_ret
 exact ⟨rfl, by first | exact Below.refl _ _ | exact (Below.refl _ _).drew | exact uv _ _⟩
theorem lu (D : VD) (g o : Nat) (w : World) (h : eZ w g o D) (hb : fV D) :
 Calls prog 145 #[.pointer (some ⟨g, o, none⟩)] w fun e w' => e = .returned (.bool (eD D)) /\ Below w.heap.size w w' := by
 obtain ⟨x0, hx0⟩ : ∃ x, aw D.so 0 1000000000 = x := ⟨_, rfl⟩
 obtain ⟨x1, hx1⟩ : ∃ x, aw D.ta 0 1000000000 = x := ⟨_, rfl⟩
 obtain ⟨x2, hx2⟩ : ∃ x, eK D.q = x := ⟨_, rfl⟩
 obtain ⟨x3, hx3⟩ : ∃ x, (decide (1 <= D.np /\ D.np <= 8) && aI (fun i => cd (D.pt i)) D.np) = x := ⟨_, rfl⟩
 obtain ⟨x4, hx4⟩ : ∃ x, (decide (D.hs.length = D.np) && (decide (D.nt = D.np) && aI (dD D) D.np)) = x := ⟨_, rfl⟩
 obtain ⟨n5, hn5⟩ : ∃ n, n = cH D.hs D.hs.length := ⟨_, rfl⟩
 have HE : Hid (eD D = (x0 && (x1 && (x2 && (x3 && (x4 && decide (0 < n5)))))) /\ aw D.so 0 1000000000 = x0 /\ aw D.ta 0 1000000000 = x1 /\ eK D.q = x2 /\ (decide (1 <= D.np /\ D.np <= 8) && aI (fun i => cd (D.pt i)) D.np) = x3 /\ (decide (D.hs.length = D.np) && (decide (D.nt = D.np) && aI (dD D) D.np)) = x4 /\ n5 = cH D.hs D.hs.length /\ eZ w g o D /\ fV D) := ⟨by unfold eD; rw [hx0, hx1, hx2, <- hn5, <- hx3, <- hx4]; simp only [Bool.and_assoc], hx0, hx1, hx2, hx3, hx4, hn5, h, hb⟩
 obtain ⟨hg, a1, c1, a2, c2, a3, c3, a4, c4, a5, c5, hr, r1, r2, r3, r4, r5⟩ := h.cells
 have HR : Hid (w.rangeAt g o (dL D a1 D.q.ws.length c1 a2 D.q.bs.length c2 a3 D.np c3 a4 D.hs.length c4 a5 D.nt c5) /\ Rd w 0 (ah D.q.ws) (.slice a1 D.q.ws.length c1) /\ Rd w 0 (af D.q.bs) (.slice a2 D.q.bs.length c2)) := ⟨hr, r1, r2⟩
 rw [HE.out.1]
 have hn9 : n5 <= 2000000 := by have := iO D.hs D.hs.length; have := hb.2.2.1; omega
 have y1 := hr 1 _ rfl
 have y2 := hr 2 _ rfl
 have y3 := hr 3 _ rfl
 have y4 := hr 4 _ rfl
 have y5 := hr 5 _ rfl
 have y6 := hr 6 _ rfl
 have y7 := hr 7 _ rfl
 have y8 := hr 8 _ rfl
 have y9 := hr 9 _ rfl
 clear hx0 hx1 hx2 hx3 hx4 hn5 hr r1 r2 r3 r4 r5 h hb hg
 go_enter func145, ntmps145
 go_wp2_with fail
 refine (n7 _ _ _ HE.out.2.1).mono ?_
 rintro e w1 ⟨rfl, hw⟩
 have hw := hw.symm
 subst hw
 cases x0
 case false =>
  go_wp2
  go_ret
  exact ⟨rfl, Below.refl _ _⟩
 go_wp2_with fail
 refine (n7 _ _ _ HE.out.2.2.1).mono ?_
 rintro e w1 ⟨rfl, hw⟩
 have hw := hw.symm
 subst hw
 cases x1
 case false =>
  go_wp2
  go_ret
  exact ⟨rfl, Below.refl _ _⟩
 go_wp2_with fail
 refine (kj D.q a1 _ c1 a2 _ c2 _ HR.out.2.1 HR.out.2.2 HE.out.2.2.2.2.2.2.2.2.1).mono ?_
 rintro e w1 ⟨rfl, b1⟩
 rw [HE.out.2.2.2.1]
 have HB : Hid (Below w.heap.size w w1) := b1
 clear b1 y1 y2 y3 y4 y5 y6 y7 y8 y9
 cases x2
 case false =>
  go_wp2
  go_ret
  exact ⟨rfl, HB.out⟩
 go_wp2_with fail
 refine (kn D g o _ (HE.out.2.2.2.2.2.2.2.1.below HB.out) HE.out.2.2.2.2.2.2.2.2).mono ?_
 rintro e w2 ⟨rfl, b2⟩
 rw [HE.out.2.2.2.2.1]
 have HB2 : Hid (Below w.heap.size w w2) := ae HB.out b2
 clear b2 HB
 cases x3
 case false =>
  go_wp2
  go_ret
  exact ⟨rfl, HB2.out⟩
 go_wp2_with fail
 refine (lr D g o _ (HE.out.2.2.2.2.2.2.2.1.below HB2.out) HE.out.2.2.2.2.2.2.2.2).mono ?_
 rintro e w3 ⟨rfl, b3⟩
 rw [HE.out.2.2.2.2.2.1]
 have HB3 : Hid (Below w.heap.size w w3) := ae HB2.out b3
 clear b3 HB2
 cases x4
 case false =>
  go_wp2
  go_ret
  exact ⟨rfl, HB3.out⟩
 go_wp2_with fail
 refine (pg D g o _ (HE.out.2.2.2.2.2.2.2.1.below HB3.out) HE.out.2.2.2.2.2.2.2.2).mono ?_
 rintro e w4 ⟨rfl, hw⟩
 have hw := hw.symm
 subst hw
 rw [<- HE.out.2.2.2.2.2.2.1]
 by_cases h5 : 0 < n5
 ·have h6 : (0 : Int) < (n5 : Int) := by omega
  have HD : Hid (decide (0 < n5) = true) := decide_eq_true h5
  go_wp2
  go_ret
  exact ⟨by rw [HD.out]; rfl, HB3.out⟩
 have h6 : ¬ (0 : Int) < (n5 : Int) := by omega
 have HD : Hid (decide (0 < n5) = false) := decide_eq_false h5
 go_wp2
 go_ret
 exact ⟨by rw [HD.out]; rfl, HB3.out⟩
theorem pk (x hi : Int) (w : World) (b : Bool) (hb : aw x 1 hi = b) : Calls prog 199 #[.int .i64 x, .int .i64 hi] w fun e w' => e = .returned (.bool b) /\ w' = w := by
 subst hb
 unfold aw
 by_cases h1 : 1 <= x
 ·by_cases h2 : x <= hi
  ·rw [decide_eq_true (show 1 <= x /\ x <= hi from ⟨h1, h2⟩)]
   go_enter func199, ntmps199
   go_wp2
   go_ret
   exact ⟨rfl, rfl⟩
  rw [decide_eq_false (show ¬ (1 <= x /\ x <= hi) from fun h => h2 h.2)]
  go_enter func199, ntmps199
  go_wp2
  go_ret
  exact ⟨rfl, rfl⟩
 rw [decide_eq_false (show ¬ (1 <= x /\ x <= hi) from fun h => h1 h.1)]
 go_enter func199, ntmps199
 go_wp2
 go_ret
 exact ⟨rfl, rfl⟩
theorem vn (x : Int) (w : World) (b : Bool) (hb : aw x 0 1000000000 = b) : Calls prog 144 #[.int .i64 x] w fun e w' => e = .returned (.bool b) /\ w' = w := by
 subst hb
 unfold aw
 by_cases h1 : 0 <= x
 ·by_cases h2 : x <= 1000000000
  ·rw [decide_eq_true ⟨h1, h2⟩]
   go_enter func144, ntmps144
   go_wp2
   go_ret
   exact ⟨rfl, rfl⟩
  rw [decide_eq_false (fun h => h2 h.2)]
  go_enter func144, ntmps144
  go_wp2
  go_ret
  exact ⟨rfl, rfl⟩
 rw [decide_eq_false (fun h => h1 h.1)]
 go_enter func144, ntmps144
 go_wp2
 go_ret
 exact ⟨rfl, rfl⟩
theorem s9 (x : Int) (w : World) (b : Bool) (hb : aw x 0 7 = b) : Calls prog 252 #[.int .i64 x] w fun e w' => e = .returned (.bool b) /\ w' = w := by
 subst hb
 unfold aw
 by_cases h1 : 0 <= x
 ·by_cases h2 : x <= 7
  ·rw [decide_eq_true ⟨h1, h2⟩]
   have h3 : x < 8 := by omega
   go_enter func252, ntmps252
   go_wp2
   go_ret
   exact ⟨rfl, rfl⟩
  rw [decide_eq_false (fun h => h2 h.2)]
  have h3 : ¬ x < 8 := by omega
  go_enter func252, ntmps252
  go_wp2
  go_ret
  exact ⟨rfl, rfl⟩
 rw [decide_eq_false (fun h => h1 h.1)]
 go_enter func252, ntmps252
 go_wp2
 go_ret
 exact ⟨rfl, rfl⟩
theorem nI (x : Int) (w : World) (b : Bool) (hb : aw x 0 4294967295 = b) : Calls prog 86 #[.int .i64 x] w fun e w' => e = .returned (.bool b) /\ w' = w := by
 subst hb
 unfold aw
 by_cases h1 : 0 <= x
 ·by_cases h2 : x <= 4294967295
  ·rw [decide_eq_true ⟨h1, h2⟩]
   go_enter func86, ntmps86
   go_wp2
   go_ret
   exact ⟨rfl, rfl⟩
  rw [decide_eq_false (fun h => h2 h.2)]
  go_enter func86, ntmps86
  go_wp2
  go_ret
  exact ⟨rfl, rfl⟩
 rw [decide_eq_false (fun h => h1 h.1)]
 go_enter func86, ntmps86
 go_wp2
 go_ret
 exact ⟨rfl, rfl⟩
theorem qO (x : Int) (w : World) (b : Bool) (hb : aw x 0 5 = b) : Calls prog 143 #[.int .i64 x] w fun e w' => e = .returned (.bool b) /\ w' = w := by
 subst hb
 unfold aw
 by_cases h1 : 0 <= x
 ·by_cases h2 : x <= 5
  ·rw [decide_eq_true ⟨h1, h2⟩]
   go_enter func143, ntmps143
   go_wp2
   go_ret
   exact ⟨rfl, rfl⟩
  rw [decide_eq_false (fun h => h2 h.2)]
  go_enter func143, ntmps143
  go_wp2
  go_ret
  exact ⟨rfl, rfl⟩
 rw [decide_eq_false (fun h => h1 h.1)]
 go_enter func143, ntmps143
 go_wp2
 go_ret
 exact ⟨rfl, rfl⟩
theorem tb (x : Int) (w : World) (b : Bool) (hb : aw x 1 247 = b) : Calls prog 158 #[.int .i64 x] w fun e w' => e = .returned (.bool b) /\ w' = w := by
 go_enter func158, ntmps158
 go_wp2_with fail
 refine (pk _ _ _ _ hb).mono ?_
 rintro e wx ⟨rfl, rfl⟩
 go_wp2
 go_ret
 exact ⟨rfl, rfl⟩
theorem td (x : Int) (w : World) (b : Bool) (hb : aw x 1 100 = b) : Calls prog 142 #[.int .i64 x] w fun e w' => e = .returned (.bool b) /\ w' = w := by
 go_enter func142, ntmps142
 go_wp2_with fail
 refine (pk _ _ _ _ hb).mono ?_
 rintro e wx ⟨rfl, rfl⟩
 go_wp2
 go_ret
 exact ⟨rfl, rfl⟩
theorem nJ (x : Int) (w : World) (b : Bool) (hb : aw x 0 4294967295 = b) : Calls prog 33 #[.int .i64 x] w fun e w' => e = .returned (.bool b) /\ w' = w := by
 go_enter func33, ntmps33
 go_wp2_with fail
 refine (aE _ _ _ _ _ hb).mono ?_
 rintro e wx ⟨rfl, rfl⟩
 go_wp2
 go_ret
 exact ⟨rfl, rfl⟩
def dc (C : Ca) : Bool := aw C.id 0 1000000000 && (aw C.pa 0 7 && (aw C.un 1 247 && bv C.kd C.pl C.n C.wa C.ws C.ws.length C.bs.length))
def cS (kd pl nn wa : Int) (l1 l2 : Nat) : Bool := (kd == 0) && ((pl == 0) && ((nn == 0) && ((wa == 0) && (((l1 : Int) == 0) && ((l2 : Int) == 0)))))
def cV (C : Ca) (l1 l2 : Nat) : Bool := (C.id == 0) && ((C.pa == 0) && ((C.un == 0) && cS C.kd C.pl C.n C.wa l1 l2))
theorem hJ (C : Ca) (g o : Nat) (a1 a2 : Option Addr) (l1 l2 c1 c2 : Nat) (w : World) (d0 : w.cell? ⟨g, o, none⟩ = some (.int .i64 C.id)) (d1 : w.cell? ⟨g, o + 1, none⟩ = some (.int .i64 C.pa)) (d2 : w.cell? ⟨g, o + 2, none⟩ = some (.int .i64 C.un)) (d3 : w.cell? ⟨g, o + 3, none⟩ = some (.int .i64 C.kd)) (d4 : w.cell? ⟨g, o + 4, none⟩ = some (.int .i64 C.pl)) (d5 : w.cell? ⟨g, o + 5, none⟩ = some (.int .i64 C.n)) (d6 : w.cell? ⟨g, o + 6, none⟩ = some (.slice a1 l1 c1)) (d7 : w.cell? ⟨g, o + 7, none⟩ = some (.slice a2 l2 c2)) (d8 : w.cell? ⟨g, o + 8, none⟩ = some (.int .i64 C.wa)) (h1 : l1 = C.ws.length) (h2 : l2 = C.bs.length) (s1 : aQ w a1 C.ws) (s2 : aW w a2 C.bs) (hl1 : l1 <= 2000000) (hl2 : l2 <= 2000000) :
 Calls prog 240 #[.pointer (some ⟨g, o, none⟩)] w fun e w' => e = .returned (.bool (dc C)) /\ Below w.heap.size w w' := by
 obtain ⟨x0, hx0⟩ : ∃ x, aw C.id 0 1000000000 = x := ⟨_, rfl⟩
 obtain ⟨x1, hx1⟩ : ∃ x, aw C.pa 0 7 = x := ⟨_, rfl⟩
 obtain ⟨x2, hx2⟩ : ∃ x, aw C.un 1 247 = x := ⟨_, rfl⟩
 obtain ⟨x3, hx3⟩ : ∃ x, bv C.kd C.pl C.n C.wa C.ws l1 l2 = x := ⟨_, rfl⟩
 have HE : Hid (dc C = (x0 && (x1 && (x2 && x3))) /\ aw C.id 0 1000000000 = x0 /\ aw C.pa 0 7 = x1 /\ aw C.un 1 247 = x2 /\ bv C.kd C.pl C.n C.wa C.ws l1 l2 = x3 /\ l1 = C.ws.length /\ l2 = C.bs.length /\ aQ w a1 C.ws /\ aW w a2 C.bs) := ⟨by unfold dc; rw [hx0, hx1, hx2, <- h1, <- h2, hx3], hx0, hx1, hx2, hx3, h1, h2, s1, s2⟩
 rw [HE.out.1]
 clear hx0 hx1 hx2 hx3 h1 h2 s1 s2
 go_enter func240, ntmps240
 go_wp2_with fail
 refine (vn _ _ _ HE.out.2.1).mono ?_
 rintro e w1 ⟨rfl, rfl⟩
 cases x0
 case false =>
  go_wp2
  go_ret
  exact ⟨rfl, Below.refl _ _⟩
 go_wp2_with fail
 refine (s9 _ _ _ HE.out.2.2.1).mono ?_
 rintro e w1 ⟨rfl, rfl⟩
 cases x1
 case false =>
  go_wp2
  go_ret
  exact ⟨rfl, Below.refl _ _⟩
 go_wp2_with fail
 refine (tb _ _ _ HE.out.2.2.2.1).mono ?_
 rintro e w1 ⟨rfl, rfl⟩
 cases x2
 case false =>
  go_wp2
  go_ret
  exact ⟨rfl, Below.refl _ _⟩
 go_wp2_with fail
 refine (gm C.kd C.pl C.n C.wa a1 a2 l1 l2 c1 c2 C.ws C.bs _ HE.out.2.2.2.2.2.1 HE.out.2.2.2.2.2.2.1 HE.out.2.2.2.2.2.2.2.1 HE.out.2.2.2.2.2.2.2.2 (by have := HE.out.2.2.2.2.2.1; omega) (by have := HE.out.2.2.2.2.2.2.1; omega)).mono ?_
 rintro e w1 ⟨rfl, b1⟩
 rw [HE.out.2.2.2.2.1]
 clear d0 d1 d2 d3 d4 d5 d6 d7 d8
 go_wp2
 go_ret
 exact ⟨rfl, b1⟩
theorem iS (C : Ca) (a1 a2 : Option Addr) (l1 l2 c1 c2 : Nat) (w : World) (h1 : l1 = C.ws.length) (h2 : l2 = C.bs.length) (s1 : aQ w a1 C.ws) (s2 : aW w a2 C.bs) (hl1 : l1 <= 2000000) (hl2 : l2 <= 2000000) :
 Calls prog 80 #[.agg (o8 C a1 a2 l1 l2 c1 c2)] w fun e w' => e = .returned (.bool (dc C)) /\ Below w.heap.size w w' := by
 obtain ⟨W, hW⟩ : ∃ W, W = w.alloc (.cells (o8 C a1 a2 l1 l2 c1 c2) 86) := ⟨_, rfl⟩
 have bW : Below w.heap.size w W := by rw [hW]; exact ac _ _
 have A0 : ag W w.heap.size 86 (o8 C a1 a2 l1 l2 c1 c2) := by rw [hW]; exact ag.new _ _ _
 obtain ⟨⟨y0, y1, y2, y3, y4, y5, y6, y7, y8⟩, _⟩ := A0.nine
 obtain ⟨x0, hx0⟩ : ∃ x, aw C.id 0 1000000000 = x := ⟨_, rfl⟩
 obtain ⟨x1, hx1⟩ : ∃ x, aw C.pa 0 7 = x := ⟨_, rfl⟩
 obtain ⟨x2, hx2⟩ : ∃ x, aw C.un 1 247 = x := ⟨_, rfl⟩
 obtain ⟨x3, hx3⟩ : ∃ x, bv C.kd C.pl C.n C.wa C.ws l1 l2 = x := ⟨_, rfl⟩
 have HE : Hid (dc C = (x0 && (x1 && (x2 && x3))) /\ aw C.id 0 1000000000 = x0 /\ aw C.pa 0 7 = x1 /\ aw C.un 1 247 = x2 /\ bv C.kd C.pl C.n C.wa C.ws l1 l2 = x3 /\ l1 = C.ws.length /\ l2 = C.bs.length /\ aQ W a1 C.ws /\ aW W a2 C.bs /\ Below w.heap.size w W) := ⟨by unfold dc; rw [hx0, hx1, hx2, <- h1, <- h2, hx3], hx0, hx1, hx2, hx3, h1, h2, s1.below bW, s2.below bW, bW⟩
 rw [HE.out.1]
 clear hx0 hx1 hx2 hx3 h1 h2 s1 s2 bW A0
 go_enter func80, ntmps80
 go_upto_region 1 with fail
 rw [<- hW]
 clear hW
 go_wp2_with fail
 refine (aE _ _ _ _ _ HE.out.2.1).mono ?_
 rintro e w1 ⟨rfl, rfl⟩
 cases x0
 case false =>
  go_wp2
  go_ret
  exact ⟨rfl, HE.out.2.2.2.2.2.2.2.2.2⟩
 go_wp2_with fail
 refine (aE _ _ _ _ _ HE.out.2.2.1).mono ?_
 rintro e w1 ⟨rfl, rfl⟩
 cases x1
 case false =>
  go_wp2
  go_ret
  exact ⟨rfl, HE.out.2.2.2.2.2.2.2.2.2⟩
 go_wp2_with fail
 refine (aE _ _ _ _ _ HE.out.2.2.2.1).mono ?_
 rintro e w1 ⟨rfl, rfl⟩
 cases x2
 case false =>
  go_wp2
  go_ret
  exact ⟨rfl, HE.out.2.2.2.2.2.2.2.2.2⟩
 go_wp2_with fail
 refine (gk C.kd C.pl C.n C.wa a1 a2 l1 l2 c1 c2 C.ws C.bs _ HE.out.2.2.2.2.2.1 HE.out.2.2.2.2.2.2.1 HE.out.2.2.2.2.2.2.2.1 HE.out.2.2.2.2.2.2.2.2.1 (by have := HE.out.2.2.2.2.2.1; omega) (by have := HE.out.2.2.2.2.2.2.1; omega)).mono ?_
 rintro e w1 ⟨rfl, b1⟩
 rw [HE.out.2.2.2.2.1]
 have HB : Hid (Below w.heap.size w w1) := ae HE.out.2.2.2.2.2.2.2.2.2 b1
 clear y0 y1 y2 y3 y4 y5 y6 y7 y8 b1
 go_wp2
 go_ret
 exact ⟨rfl, HB.out⟩
theorem oc (kd pl nn wa : Int) (a1 a2 : Option Addr) (l1 l2 c1 c2 : Nat) (w : World) (hne : ¬ kd = 0) :
 Calls prog 206 #[rq kd pl nn wa a1 a2 l1 l2 c1 c2, rq 0 0 0 0 none none 0 0 0 0] w fun e w' => e = .returned (.bool false) /\ Below w.heap.size w w' := by
 obtain ⟨W0, hW0'⟩ : ∃ W0, W0 = (w.alloc (.cells #[.int .i64 kd, .int .i64 pl, .int .i64 nn, .slice a1 l1 c1, .slice a2 l2 c2, .int .i64 wa] 84)).alloc (.cells kp 84) := ⟨_, rfl⟩
 have hW0 : Hid (W0 = _) := hW0'
 have B0 : Below w.heap.size w W0 := by rw [hW0']; exact ak (ac w _) (ac _ _)
 have X0 : ag W0 w.heap.size 84 #[.int .i64 kd, .int .i64 pl, .int .i64 nn, .slice a1 l1 c1, .slice a2 l2 c2, .int .i64 wa] := by rw [hW0']; exact (ag.new w _ _).below (ac _ _)
 have Y0 : ag W0 (w.heap.size + 1) 84 kp := by
  rw [hW0']; have := ag.new (w.alloc (.cells #[.int .i64 kd, .int .i64 pl, .int .i64 nn, .slice a1 l1 c1, .slice a2 l2 c2, .int .i64 wa] 84)) kp 84; simpa using this
 obtain ⟨x0, x1, x2, x3, x4, x5⟩ := X0.six
 obtain ⟨y0, y1, y2, y3, y4, y5⟩ := Y0.six
 clear hW0'
 go_enter func206, ntmps206
 go_upto_region 1 with fail
 rw [<- hW0.out]
 go_wp2
 go_ret
 exact ⟨rfl, B0⟩
theorem oe (kd pl nn wa : Int) (a1 a2 : Option Addr) (l1 l2 c1 c2 : Nat) (w : World) (hk : kd = 0) (hne : ¬ pl = 0) :
 Calls prog 206 #[rq kd pl nn wa a1 a2 l1 l2 c1 c2, rq 0 0 0 0 none none 0 0 0 0] w fun e w' => e = .returned (.bool false) /\ Below w.heap.size w w' := by
 obtain ⟨W0, hW0'⟩ : ∃ W0, W0 = (w.alloc (.cells #[.int .i64 kd, .int .i64 pl, .int .i64 nn, .slice a1 l1 c1, .slice a2 l2 c2, .int .i64 wa] 84)).alloc (.cells kp 84) := ⟨_, rfl⟩
 have hW0 : Hid (W0 = _) := hW0'
 have B0 : Below w.heap.size w W0 := by rw [hW0']; exact ak (ac w _) (ac _ _)
 have X0 : ag W0 w.heap.size 84 #[.int .i64 kd, .int .i64 pl, .int .i64 nn, .slice a1 l1 c1, .slice a2 l2 c2, .int .i64 wa] := by rw [hW0']; exact (ag.new w _ _).below (ac _ _)
 have Y0 : ag W0 (w.heap.size + 1) 84 kp := by
  rw [hW0']; have := ag.new (w.alloc (.cells #[.int .i64 kd, .int .i64 pl, .int .i64 nn, .slice a1 l1 c1, .slice a2 l2 c2, .int .i64 wa] 84)) kp 84; simpa using this
 obtain ⟨x0, x1, x2, x3, x4, x5⟩ := X0.six
 obtain ⟨y0, y1, y2, y3, y4, y5⟩ := Y0.six
 subst hk
 clear hW0'
 go_enter func206, ntmps206
 go_upto_region 1 with fail
 rw [<- hW0.out]
 go_wp2
 go_ret
 exact ⟨rfl, B0⟩
theorem iy (kd pl nn wa : Int) (a1 a2 : Option Addr) (l1 l2 c1 c2 : Nat) (ws : List Int) (bs : List Bool) (w : World) (h1 : l1 = ws.length) (h2 : l2 = bs.length) (hl1 : l1 <= 2000000) (hl2 : l2 <= 2000000) :
 Calls prog 206 #[rq kd pl nn wa a1 a2 l1 l2 c1 c2, rq 0 0 0 0 none none 0 0 0 0] w fun e w' => e = .returned (.bool (cS kd pl nn wa l1 l2)) /\ Below w.heap.size w w' := by
 by_cases q0 : kd = 0
 ·by_cases q1 : pl = 0
  ·subst q0 q1
   by_cases q2 : nn = 0
   ·by_cases q3 : wa = 0
    ·by_cases q4 : l1 = 0
     ·by_cases q5 : l2 = 0
      ·subst q2 q3 q4 q5
       have e1 : ws = [] := List.eq_nil_of_length_eq_zero h1.symm
       have e2 : bs = [] := List.eq_nil_of_length_eq_zero h2.symm
       exact cR 0 0 0 0 0 0 a1 a2 none none 0 0 c1 c2 0 0 0 0 w rfl rfl [] rfl rfl (.inl rfl) (.inl rfl) (by simp) [] rfl rfl (.inl rfl) (.inl rfl) (by simp)
      subst q2 q3 q4
      have e1 : ws = [] := List.eq_nil_of_length_eq_zero h1.symm
      have e9 : cS 0 0 0 0 0 l2 = false := by unfold cS; simp; omega
      rw [e9]
      exact dp 0 0 0 0 0 0 a1 a2 none none 0 l2 c1 c2 0 0 0 0 w rfl rfl [] rfl rfl (.inl rfl) (.inl rfl) (by simp) (by omega) (by omega) (by omega)
     subst q2 q3
     have e9 : cS 0 0 0 0 l1 l2 = false := by unfold cS; simp; omega
     rw [e9]
     exact dU 0 0 0 0 0 0 a1 a2 none none l1 l2 c1 c2 0 0 0 0 w rfl rfl (by omega) (by omega) (by omega)
    subst q2
    have e9 : cS 0 0 0 wa l1 l2 = false := by unfold cS; simp [q3]
    rw [e9]
    exact db 0 0 0 wa 0 0 a1 a2 none none l1 l2 c1 c2 0 0 0 0 w rfl q3
   have e9 : cS 0 0 nn wa l1 l2 = false := by unfold cS; simp [q2]
   rw [e9]
   exact eI 0 0 nn wa 0 0 a1 a2 none none l1 l2 c1 c2 0 0 0 0 w q2
  have e9 : cS kd pl nn wa l1 l2 = false := by unfold cS; simp [q1]
  rw [e9]
  exact oe kd pl nn wa a1 a2 l1 l2 c1 c2 w q0 q1
 have e9 : cS kd pl nn wa l1 l2 = false := by unfold cS; simp [q0]
 rw [e9]
 exact oc kd pl nn wa a1 a2 l1 l2 c1 c2 w q0
theorem lX (C : Ca) (g o : Nat) (a1 a2 : Option Addr) (l1 l2 c1 c2 : Nat) (w : World) (d0 : w.cell? ⟨g, o, none⟩ = some (.int .i64 C.id)) (d1 : w.cell? ⟨g, o + 1, none⟩ = some (.int .i64 C.pa)) (d2 : w.cell? ⟨g, o + 2, none⟩ = some (.int .i64 C.un)) (d3 : w.cell? ⟨g, o + 3, none⟩ = some (.int .i64 C.kd)) (d4 : w.cell? ⟨g, o + 4, none⟩ = some (.int .i64 C.pl)) (d5 : w.cell? ⟨g, o + 5, none⟩ = some (.int .i64 C.n)) (d6 : w.cell? ⟨g, o + 6, none⟩ = some (.slice a1 l1 c1)) (d7 : w.cell? ⟨g, o + 7, none⟩ = some (.slice a2 l2 c2)) (d8 : w.cell? ⟨g, o + 8, none⟩ = some (.int .i64 C.wa)) (h1 : l1 = C.ws.length) (h2 : l2 = C.bs.length) (hl1 : l1 <= 2000000) (hl2 : l2 <= 2000000) :
 Calls prog 239 #[.pointer (some ⟨g, o, none⟩)] w fun e w' => e = .returned (.bool (cV C l1 l2)) /\ Below w.heap.size w w' := by
 have HL : Hid (l1 = C.ws.length /\ l2 = C.bs.length) := ⟨h1, h2⟩
 clear h1 h2
 cases q0 : (C.id == 0) with
 | false =>
  rw [show cV C l1 l2 = false by unfold cV; simp [q0]]
  go_enter func239, ntmps239
  go_wp2
  go_ret
  exact ⟨rfl, Below.refl _ _⟩
 | true =>
  cases q1 : (C.pa == 0) with
  | false =>
   rw [show cV C l1 l2 = false by unfold cV; simp [q0, q1]]
   go_enter func239, ntmps239
   go_wp2
   go_ret
   exact ⟨rfl, Below.refl _ _⟩
  | true =>
   cases q2 : (C.un == 0) with
   | false =>
    rw [show cV C l1 l2 = false by unfold cV; simp [q0, q1, q2]]
    go_enter func239, ntmps239
    go_wp2
    go_ret
    exact ⟨rfl, Below.refl _ _⟩
   | true =>
    obtain ⟨bb, hbb⟩ : ∃ b, cS C.kd C.pl C.n C.wa l1 l2 = b := ⟨_, rfl⟩
    have HBB : Hid (cS C.kd C.pl C.n C.wa l1 l2 = bb) := hbb
    rw [show cV C l1 l2 = bb by unfold cV; simp [q0, q1, q2, hbb]]
    clear hbb
    go_enter func239, ntmps239
    go_wp2_with fail
    refine (iy C.kd C.pl C.n C.wa a1 a2 l1 l2 c1 c2 C.ws C.bs _ HL.out.1 HL.out.2 hl1 hl2).mono ?_
    rintro e w1 ⟨rfl, b1⟩
    rw [HBB.out]
    clear d0 d1 d2 d3 d4 d5 d6 d7 d8
    go_wp2
    go_ret
    exact ⟨rfl, b1⟩
theorem iz (kd pl nn wa : Int) (a1 a2 : Option Addr) (l1 l2 c1 c2 : Nat) (w : World) :
 Calls prog 118 #[rq kd pl nn wa a1 a2 l1 l2 c1 c2] w fun e w' => e = .returned (.bool (cS kd pl nn wa l1 l2)) /\ Below w.heap.size w w' := by
 cases q0 : (kd == 0) with
 | false =>
  rw [show cS kd pl nn wa l1 l2 = false by unfold cS; simp [q0]]
  go_enter func118, ntmps118
  go_wp2
  go_ret
  exact ⟨rfl, ac _ _⟩
 | true =>
  cases q1 : (pl == 0) with
  | false =>
   rw [show cS kd pl nn wa l1 l2 = false by unfold cS; simp [q0, q1]]
   go_enter func118, ntmps118
   go_wp2
   go_ret
   exact ⟨rfl, ac _ _⟩
  | true =>
   cases q2 : (nn == 0) with
   | false =>
    rw [show cS kd pl nn wa l1 l2 = false by unfold cS; simp [q0, q1, q2]]
    go_enter func118, ntmps118
    go_wp2
    go_ret
    exact ⟨rfl, ac _ _⟩
   | true =>
    cases q3 : ((l1 : Int) == 0) with
    | false =>
     rw [show cS kd pl nn wa l1 l2 = false by unfold cS; simp [q0, q1, q2, q3]]
     go_enter func118, ntmps118
     go_wp2
     go_ret
     exact ⟨rfl, ac _ _⟩
    | true =>
     cases q4 : ((l2 : Int) == 0) with
     | false =>
      rw [show cS kd pl nn wa l1 l2 = false by unfold cS; simp [q0, q1, q2, q3, q4]]
      go_enter func118, ntmps118
      go_wp2
      go_ret
      exact ⟨rfl, ac _ _⟩
     | true =>
      cases q5 : (wa == 0) with
      | false =>
       rw [show cS kd pl nn wa l1 l2 = false by unfold cS; simp [q0, q1, q2, q3, q4, q5]]
       go_enter func118, ntmps118
       go_wp2
       go_ret
       exact ⟨rfl, ac _ _⟩
      | true =>
       rw [show cS kd pl nn wa l1 l2 = true by unfold cS; simp [q0, q1, q2, q3, q4, q5]]
       go_enter func118, ntmps118
       go_wp2
       go_ret
       exact ⟨rfl, ac _ _⟩
theorem dE (C : Ca) (a1 a2 : Option Addr) (l1 l2 c1 c2 : Nat) (w : World) :
 Calls prog 81 #[.agg (o8 C a1 a2 l1 l2 c1 c2)] w fun e w' => e = .returned (.bool (cV C l1 l2)) /\ Below w.heap.size w w' := by
 cases q0 : (C.id == 0) with
 | false =>
  rw [show cV C l1 l2 = false by unfold cV; simp [q0]]
  go_enter func81, ntmps81
  go_wp2
  go_ret
  exact ⟨rfl, ac _ _⟩
 | true =>
  cases q1 : (C.pa == 0) with
  | false =>
   rw [show cV C l1 l2 = false by unfold cV; simp [q0, q1]]
   go_enter func81, ntmps81
   go_wp2
   go_ret
   exact ⟨rfl, ac _ _⟩
  | true =>
   cases q2 : (C.un == 0) with
   | false =>
    rw [show cV C l1 l2 = false by unfold cV; simp [q0, q1, q2]]
    go_enter func81, ntmps81
    go_wp2
    go_ret
    exact ⟨rfl, ac _ _⟩
   | true =>
    obtain ⟨bb, hbb⟩ : ∃ b, cS C.kd C.pl C.n C.wa l1 l2 = b := ⟨_, rfl⟩
    have HBB : Hid (cS C.kd C.pl C.n C.wa l1 l2 = bb) := hbb
    rw [show cV C l1 l2 = bb by unfold cV; simp [q0, q1, q2, hbb]]
    clear hbb
    have B0 := ac w (.cells (o8 C a1 a2 l1 l2 c1 c2) 86)
    go_enter func81, ntmps81
    go_wp2_with fail
    refine (iz C.kd C.pl C.n C.wa a1 a2 l1 l2 c1 c2 _).mono ?_
    rintro e w1 ⟨rfl, b1⟩
    have B1 := ae B0 b1
    clear b1 B0
    rw [HBB.out]
    go_wp2
    go_ret
    exact ⟨rfl, B1⟩
def jd (A : VA) : Bool := dk A.kd A.fl A.pl A.n A.ws A.ws.length A.bs.length
def lY (Q : VQ) : Bool := cS Q.kd Q.pl Q.n Q.wa Q.ws.length Q.bs.length
def lZ (K : VK) : Bool := bif K.bk then jd K.a && lY K.q else eK K.q && fk K.a
def dm (K : VK) : Bool := (aw K.po 0 5 && aw K.un 1 247) && (aw K.nu 0 65535 && lZ K)
theorem te (X : VA) (a1 : Option Addr) (c1 : Nat) (a2 : Option Addr) (c2 : Nat) (w : World) (r1 : Rd w 0 (ah X.ws) (.slice a1 X.ws.length c1)) (r2 : Rd w 0 (af X.bs) (.slice a2 X.bs.length c2)) (hb : eL X) :
 Calls prog 247 #[.agg (aL X a1 X.ws.length c1 a2 X.bs.length c2).toArray] w fun e w' => e = .returned (.bool (jd X)) /\ Below w.heap.size w w' :=
 iw X.kd X.fl X.pl X.n a1 a2 _ _ c1 c2 X.ws X.bs w rfl rfl r1.int3.2.2 r2.bool3.2.2 hb.1 hb.2
theorem ux (X : VQ) (a1 : Option Addr) (c1 : Nat) (a2 : Option Addr) (c2 : Nat) (w : World) (hb : ce X) :
 Calls prog 206 #[.agg (qL X a1 X.ws.length c1 a2 X.bs.length c2).toArray, rq 0 0 0 0 none none 0 0 0 0] w fun e w' => e = .returned (.bool (lY X)) /\ Below w.heap.size w w' :=
 iy X.kd X.pl X.n X.wa a1 a2 _ _ c1 c2 X.ws X.bs w rfl rfl hb.1 hb.2
theorem l0 (K : VK) (b1 : Option Addr) (c1 : Nat) (b2 : Option Addr) (c2 : Nat) (b3 : Option Addr) (c3 : Nat) (b4 : Option Addr) (c4 : Nat) (w : World) :
 Calls prog 229 #[.agg (cr K b1 K.q.ws.length c1 b2 K.q.bs.length c2 b3 K.a.ws.length c3 b4 K.a.bs.length c4).toArray] w fun e w' => e = .returned (.agg #[.int .i64 K.po, .int .i64 K.un]) /\ Below w.heap.size w w' := by
 obtain ⟨W, hW⟩ : ∃ W, W = (w.alloc (.cells (cr K b1 K.q.ws.length c1 b2 K.q.bs.length c2 b3 K.a.ws.length c3 b4 K.a.bs.length c4).toArray 120)).alloc (.cells #[.int .i64 0, .int .i64 0] 245) := ⟨_, rfl⟩
 have bW : Below w.heap.size w W := by rw [hW]; exact ae (ac w _) (ac _ _)
 have A0 : ag W w.heap.size 120 (cr K b1 K.q.ws.length c1 b2 K.q.bs.length c2 b3 K.a.ws.length c3 b4 K.a.bs.length c4).toArray := by rw [hW]; exact (ag.new w _ _).below (ac _ _)
 have R0 : ag W (w.heap.size + 1) 245 #[.int .i64 0, .int .i64 0] := by
  rw [hW]; have := ag.new (w.alloc (.cells (cr K b1 K.q.ws.length c1 b2 K.q.bs.length c2 b3 K.a.ws.length c3 b4 K.a.bs.length c4).toArray 120)) #[.int .i64 0, .int .i64 0] 245; simpa using this
 obtain ⟨⟨y0, y1, y2, y3, y4, y5, y6, y7, y8, y9, y10, y11, y12, y13, y14, y15⟩, yf⟩ := A0.tc16
 obtain ⟨⟨z0, z1⟩, zf⟩ := R0.tc2
 have z00 := zf 0
 have z01 := zf 1
 clear A0 R0 yf zf
 go_enter func229, ntmps229
 go_upto_region 1 with fail
 rw [<- hW]
 clear hW
 go_wp2
 refine bodyPost_ret (v := .agg #[.int .i64 K.po, .int .i64 K.un]) (by simp [results, results229, go_sem, z0, z1]) rfl ⟨rfl, ?_⟩
 exact (bW.setCell (p := ⟨w.heap.size + 1, 0, none⟩) (by show w.heap.size <= w.heap.size + 1; omega) _).setCell (p := ⟨w.heap.size + 1, 1, none⟩) (by show w.heap.size <= w.heap.size + 1; omega) _
theorem l8 (K : VK) (b1 : Option Addr) (c1 : Nat) (b2 : Option Addr) (c2 : Nat) (b3 : Option Addr) (c3 : Nat) (b4 : Option Addr) (c4 : Nat) (w : World) (h : Rd w 0 (ah K.q.ws) (.slice b1 K.q.ws.length c1) /\ Rd w 0 (af K.q.bs) (.slice b2 K.q.bs.length c2) /\ Rd w 0 (ah K.a.ws) (.slice b3 K.a.ws.length c3) /\ Rd w 0 (af K.a.bs) (.slice b4 K.a.bs.length c4)) (hq : ce K.q) (ha : eL K.a) :
 Calls prog 230 #[.agg (cr K b1 K.q.ws.length c1 b2 K.q.bs.length c2 b3 K.a.ws.length c3 b4 K.a.bs.length c4).toArray] w fun e w' => e = .returned (.bool (lZ K)) /\ Below w.heap.size w w' := by
 obtain ⟨W, hW⟩ : ∃ W, W = w.alloc (.cells (cr K b1 K.q.ws.length c1 b2 K.q.bs.length c2 b3 K.a.ws.length c3 b4 K.a.bs.length c4).toArray 120) := ⟨_, rfl⟩
 have bW : Below w.heap.size w W := by rw [hW]; exact ac w _
 have HE : Hid (ag W w.heap.size 120 (cr K b1 K.q.ws.length c1 b2 K.q.bs.length c2 b3 K.a.ws.length c3 b4 K.a.bs.length c4).toArray /\ Below w.heap.size w W /\ ce K.q /\ eL K.a /\ Rd W 0 (ah K.q.ws) (.slice b1 K.q.ws.length c1) /\ Rd W 0 (af K.q.bs) (.slice b2 K.q.bs.length c2) /\ Rd W 0 (ah K.a.ws) (.slice b3 K.a.ws.length c3) /\ Rd W 0 (af K.a.bs) (.slice b4 K.a.bs.length c4)) := ⟨by rw [hW]; exact ag.new w _ _, bW, hq, ha, h.1.below bW, h.2.1.below bW, h.2.2.1.below bW, h.2.2.2.below bW⟩
 obtain ⟨x0, h0⟩ : ∃ x, K.bk = x := ⟨_, rfl⟩
 obtain ⟨x1, h1⟩ : ∃ x, jd K.a = x := ⟨_, rfl⟩
 obtain ⟨x2, h2⟩ : ∃ x, lY K.q = x := ⟨_, rfl⟩
 obtain ⟨x3, h3⟩ : ∃ x, eK K.q = x := ⟨_, rfl⟩
 obtain ⟨x4, h4⟩ : ∃ x, fk K.a = x := ⟨_, rfl⟩
 have hf : lZ K = bif x0 then x1 && x2 else x3 && x4 := by unfold lZ; rw [h0, h1, h2, h3, h4]
 rw [hf]
 have HX : Hid (jd K.a = x1 /\ lY K.q = x2 /\ eK K.q = x3 /\ fk K.a = x4) := ⟨h1, h2, h3, h4⟩
 obtain ⟨⟨y0, y1, y2, y3, y4, y5, y6, y7, y8, y9, y10, y11, y12, y13, y14, y15⟩, yf⟩ := HE.out.1.tc16
 rw [h0] at y0
 clear hf h0 h1 h2 h3 h4 h hq ha yf bW
 go_enter func230, ntmps230
 go_upto_region 1 with fail
 rw [<- hW]
 clear hW
 cases x0 with
 | true =>
  go_wp2_with fail
  refine (te K.a b3 c3 b4 c4 _ HE.out.2.2.2.2.2.2.1 HE.out.2.2.2.2.2.2.2 HE.out.2.2.2.1).mono ?_
  rintro e w1 ⟨rfl, bb⟩
  rw [HX.out.1]
  have B1 : Hid (Below W.heap.size W w1) := bb
  clear bb y0 y1 y2 y3 y4 y5 y6 y7 y8 y9 y10 y11 y12 y13 y14 y15
  cases x1
  case false =>
   have B9 := ae HE.out.2.1 B1.out
   clear HE HX B1
   go_wp2
   go_ret
   exact ⟨rfl, B9⟩
  obtain ⟨⟨y0, y1, y2, y3, y4, y5, y6, y7, y8, y9, y10, y11, y12, y13, y14, y15⟩, yf⟩ := (HE.out.1.below B1.out).tc16
  clear yf
  go_wp2_with fail
  refine (ux K.q b1 c1 b2 c2 _ HE.out.2.2.1).mono ?_
  rintro e w2 ⟨rfl, bb⟩
  rw [HX.out.2.1]
  have B9 := ae HE.out.2.1 (ae B1.out bb)
  clear bb y0 y1 y2 y3 y4 y5 y6 y7 y8 y9 y10 y11 y12 y13 y14 y15 HE HX B1
  go_wp2
  go_ret
  exact ⟨rfl, B9⟩
 | false =>
  go_wp2_with fail
  refine (kj K.q b1 _ c1 b2 _ c2 _ HE.out.2.2.2.2.1 HE.out.2.2.2.2.2.1 HE.out.2.2.1).mono ?_
  rintro e w1 ⟨rfl, bb⟩
  rw [HX.out.2.2.1]
  have B1 : Hid (Below W.heap.size W w1) := bb
  clear bb y0 y1 y2 y3 y4 y5 y6 y7 y8 y9 y10 y11 y12 y13 y14 y15
  cases x3
  case false =>
   have B9 := ae HE.out.2.1 B1.out
   clear HE HX B1
   go_wp2
   go_ret
   exact ⟨rfl, B9⟩
  obtain ⟨⟨y0, y1, y2, y3, y4, y5, y6, y7, y8, y9, y10, y11, y12, y13, y14, y15⟩, yf⟩ := (HE.out.1.below B1.out).tc16
  clear yf
  go_wp2_with fail
  refine (jH K.a b3 c3 b4 c4 _ (HE.out.2.2.2.2.2.2.1.below B1.out) (HE.out.2.2.2.2.2.2.2.below B1.out) HE.out.2.2.2.1).mono ?_
  rintro e w2 ⟨rfl, bb⟩
  rw [HX.out.2.2.2]
  have B9 := ae HE.out.2.1 (ae B1.out bb)
  clear bb y0 y1 y2 y3 y4 y5 y6 y7 y8 y9 y10 y11 y12 y13 y14 y15 HE HX B1
  go_wp2
  go_ret
  exact ⟨rfl, B9⟩
theorem mW (K : VK) (b1 : Option Addr) (c1 : Nat) (b2 : Option Addr) (c2 : Nat) (b3 : Option Addr) (c3 : Nat) (b4 : Option Addr) (c4 : Nat) (w : World) (h : Rd w 0 (ah K.q.ws) (.slice b1 K.q.ws.length c1) /\ Rd w 0 (af K.q.bs) (.slice b2 K.q.bs.length c2) /\ Rd w 0 (ah K.a.ws) (.slice b3 K.a.ws.length c3) /\ Rd w 0 (af K.a.bs) (.slice b4 K.a.bs.length c4)) (hq : ce K.q) (ha : eL K.a) :
 Calls prog 191 #[.agg (cr K b1 K.q.ws.length c1 b2 K.q.bs.length c2 b3 K.a.ws.length c3 b4 K.a.bs.length c4).toArray] w fun e w' => e = .returned (.bool (dm K)) /\ Below w.heap.size w w' := by
 obtain ⟨W, hW⟩ : ∃ W, W = w.alloc (.cells (cr K b1 K.q.ws.length c1 b2 K.q.bs.length c2 b3 K.a.ws.length c3 b4 K.a.bs.length c4).toArray 120) := ⟨_, rfl⟩
 have bW : Below w.heap.size w W := by rw [hW]; exact ac w _
 have HE : Hid (ag W w.heap.size 120 (cr K b1 K.q.ws.length c1 b2 K.q.bs.length c2 b3 K.a.ws.length c3 b4 K.a.bs.length c4).toArray /\ Below w.heap.size w W /\ ce K.q /\ eL K.a /\ Rd W 0 (ah K.q.ws) (.slice b1 K.q.ws.length c1) /\ Rd W 0 (af K.q.bs) (.slice b2 K.q.bs.length c2) /\ Rd W 0 (ah K.a.ws) (.slice b3 K.a.ws.length c3) /\ Rd W 0 (af K.a.bs) (.slice b4 K.a.bs.length c4)) := ⟨by rw [hW]; exact ag.new w _ _, bW, hq, ha, h.1.below bW, h.2.1.below bW, h.2.2.1.below bW, h.2.2.2.below bW⟩
 obtain ⟨x0, h0⟩ : ∃ x, (aw K.po 0 5 && aw K.un 1 247) = x := ⟨_, rfl⟩
 obtain ⟨x1, h1⟩ : ∃ x, aw K.nu 0 65535 = x := ⟨_, rfl⟩
 obtain ⟨x2, h2⟩ : ∃ x, lZ K = x := ⟨_, rfl⟩
 have hf : dm K = (x0 && (x1 && x2)) := by unfold dm; rw [h0, h1, h2]
 rw [hf]
 have HX : Hid ((aw K.po 0 5 && aw K.un 1 247) = x0 /\ aw K.nu 0 65535 = x1 /\ lZ K = x2) := ⟨h0, h1, h2⟩
 obtain ⟨⟨y0, y1, y2, y3, y4, y5, y6, y7, y8, y9, y10, y11, y12, y13, y14, y15⟩, yf⟩ := HE.out.1.tc16
 clear hf h0 h1 h2 h hq ha yf bW
 go_enter func191, ntmps191
 go_upto_region 1 with fail
 rw [<- hW]
 clear hW
 go_wp2_with fail
 refine (l0 K b1 c1 b2 c2 b3 c3 b4 c4 _).mono ?_
 rintro e w1 ⟨rfl, bb1⟩
 go_wp2_with fail
 refine (gU _ _ _ x0 HX.out.1).mono ?_
 rintro e w2 ⟨rfl, bb2⟩
 have B1 : Hid (Below W.heap.size W w2) := ae bb1 bb2
 clear bb1 bb2 y0 y1 y2 y3 y4 y5 y6 y7 y8 y9 y10 y11 y12 y13 y14 y15
 cases x0
 case false =>
  have B9 := ae HE.out.2.1 B1.out
  clear HE HX B1
  go_wp2
  go_ret
  exact ⟨rfl, B9⟩
 obtain ⟨⟨y0, y1, y2, y3, y4, y5, y6, y7, y8, y9, y10, y11, y12, y13, y14, y15⟩, yf⟩ := (HE.out.1.below B1.out).tc16
 clear yf
 go_wp2_with fail
 refine (be _ _ _ HX.out.2.1).mono ?_
 rintro e w3 ⟨rfl, hw⟩
 have hw := hw.symm
 subst hw
 clear y0 y1 y2 y3 y4 y5 y6 y7 y8 y9 y10 y11 y12 y13 y14 y15
 cases x1
 case false =>
  have B9 := ae HE.out.2.1 B1.out
  clear HE HX B1
  go_wp2
  go_ret
  exact ⟨rfl, B9⟩
 obtain ⟨⟨y0, y1, y2, y3, y4, y5, y6, y7, y8, y9, y10, y11, y12, y13, y14, y15⟩, yf⟩ := (HE.out.1.below B1.out).tc16
 clear yf
 go_wp2_with fail
 refine (l8 K b1 c1 b2 c2 b3 c3 b4 c4 _ ⟨HE.out.2.2.2.2.1.below B1.out, HE.out.2.2.2.2.2.1.below B1.out, HE.out.2.2.2.2.2.2.1.below B1.out, HE.out.2.2.2.2.2.2.2.below B1.out⟩ HE.out.2.2.1 HE.out.2.2.2.1).mono ?_
 rintro e w4 ⟨rfl, bb⟩
 rw [HX.out.2.2]
 have B9 := ae HE.out.2.1 (ae B1.out bb)
 clear bb y0 y1 y2 y3 y4 y5 y6 y7 y8 y9 y10 y11 y12 y13 y14 y15 HE HX B1
 go_wp2
 go_ret
 exact ⟨rfl, B9⟩
def gI (n : Nat) (f : Nat -> VK) : Bool := decide (n <= 60) && bO (fun i => dm (f i)) n
theorem qP (K : VK) (b1 : Option Addr) (c1 : Nat) (b2 : Option Addr) (c2 : Nat) (b3 : Option Addr) (c3 : Nat) (b4 : Option Addr) (c4 : Nat) (w : World) (h : Rd w 0 (ah K.q.ws) (.slice b1 K.q.ws.length c1) /\ Rd w 0 (af K.q.bs) (.slice b2 K.q.bs.length c2) /\ Rd w 0 (ah K.a.ws) (.slice b3 K.a.ws.length c3) /\ Rd w 0 (af K.a.bs) (.slice b4 K.a.bs.length c4)) (hq : ce K.q) (ha : eL K.a) (x : Bool) (hx : dm K = x) :
 Calls prog 190 #[.agg (cr K b1 K.q.ws.length c1 b2 K.q.bs.length c2 b3 K.a.ws.length c3 b4 K.a.bs.length c4).toArray] w fun e w' => e = .returned (.bool (!x)) /\ Below w.heap.size w w' := by
 obtain ⟨W, hW⟩ : ∃ W, W = w.alloc (.cells (cr K b1 K.q.ws.length c1 b2 K.q.bs.length c2 b3 K.a.ws.length c3 b4 K.a.bs.length c4).toArray 120) := ⟨_, rfl⟩
 have bW : Below w.heap.size w W := by rw [hW]; exact ac w _
 have HE : Hid (Below w.heap.size w W /\ ce K.q /\ eL K.a /\ dm K = x /\ Rd W 0 (ah K.q.ws) (.slice b1 K.q.ws.length c1) /\ Rd W 0 (af K.q.bs) (.slice b2 K.q.bs.length c2) /\ Rd W 0 (ah K.a.ws) (.slice b3 K.a.ws.length c3) /\ Rd W 0 (af K.a.bs) (.slice b4 K.a.bs.length c4)) := ⟨bW, hq, ha, hx, h.1.below bW, h.2.1.below bW, h.2.2.1.below bW, h.2.2.2.below bW⟩
 have A0 : ag W w.heap.size 120 (cr K b1 K.q.ws.length c1 b2 K.q.bs.length c2 b3 K.a.ws.length c3 b4 K.a.bs.length c4).toArray := by rw [hW]; exact ag.new w _ _
 obtain ⟨⟨y0, y1, y2, y3, y4, y5, y6, y7, y8, y9, y10, y11, y12, y13, y14, y15⟩, yf⟩ := A0.tc16
 clear h hq ha hx yf bW A0
 go_enter func190, ntmps190
 go_upto_region 1 with fail
 rw [<- hW]
 clear hW
 go_wp2_with fail
 refine (mW K b1 c1 b2 c2 b3 c3 b4 c4 _ ⟨HE.out.2.2.2.2.1, HE.out.2.2.2.2.2.1, HE.out.2.2.2.2.2.2.1, HE.out.2.2.2.2.2.2.2⟩ HE.out.2.1 HE.out.2.2.1).mono ?_
 rintro e w1 ⟨rfl, bb⟩
 rw [HE.out.2.2.2.1]
 have B9 := ae HE.out.1 bb
 clear bb y0 y1 y2 y3 y4 y5 y6 y7 y8 y9 y10 y11 y12 y13 y14 y15 HE
 go_wp2
 go_ret
 exact ⟨rfl, B9⟩
def vA (n : Nat) (f : Nat -> VK) (r : Int) : Prop := (r = -1 /\ bO (fun i => dm (f i)) n = true) \/ (0 <= r /\ bO (fun i => dm (f i)) n = false)
def pm (w : World) (n : Nat) (f : Nat -> VK) (a : Option Addr) (c : Nat) : Prop := Rd w 0 (.list 16 n (fun i => aa (br (f i)))) (.slice a n c) /\ n <= 2000000 /\ ∀ k, k < n -> ce (f k).q /\ eL (f k).a
theorem og (n : Nat) (f : Nat -> VK) (a : Option Addr) (c : Nat) (w : World) (h : pm w n f a c) :
 Calls prog 228 #[.slice a n c, .func (.func 190) #[] #[]] w fun e w' => ∃ r, e = .returned (.int .i64 r) /\ vA n f r /\ Below w.heap.size w w' := by
 have HS : Hid (pm w n f a c) := h
 have hn := h.2.1
 clear h
 go_enter func228, ntmps228
 go_wp2
 go_loopw [8] (fun i wr => ∃ k : Nat, k <= n /\ i = .int .i64 k /\ bO (fun i => dm (f i)) k = true /\ Below w.heap.size w wr) (fun i _ => n - (intOf i).toNat)
 case atStart => exact ⟨0, Nat.zero_le _, rfl, rfl, Below.refl _ _⟩
 case round =>
  obtain ⟨k, hk, rfl, hall, hbl⟩ := hrel
  by_cases hlt : k < n
  ·have hi : (k : Int) < (n : Int) := by omega
   obtain ⟨b, off, vs, rfl, _, hb0, hlen, hr, hrd⟩ := (HS.out.1.below hbl).at hlt
   obtain ⟨b1, c1, b2, c2, b3, c3, b4, c4, rfl, q1, q2, q3, q4⟩ := VK.cells hrd hlen
   clear hlen hrd hb0
   have dd0 : wr.cell? ⟨b, off + k * 16, none⟩ = _ := hr 0 _ rfl
   have dd1 := hr 1 _ rfl
   have dd2 := hr 2 _ rfl
   have dd3 := hr 3 _ rfl
   have dd4 := hr 4 _ rfl
   have dd5 := hr 5 _ rfl
   have dd6 := hr 6 _ rfl
   have dd7 := hr 7 _ rfl
   have dd8 := hr 8 _ rfl
   have dd9 := hr 9 _ rfl
   have dd10 := hr 10 _ rfl
   have dd11 := hr 11 _ rfl
   have dd12 := hr 12 _ rfl
   have dd13 := hr 13 _ rfl
   have dd14 := hr 14 _ rfl
   have dd15 := hr 15 _ rfl
   obtain ⟨x, hx⟩ : ∃ x, dm (f k) = x := ⟨_, rfl⟩
   have HK : Hid (dm (f k) = x /\ bO (fun i => dm (f i)) k = true /\ Below w.heap.size w wr /\ Rd wr 0 (ah (f k).q.ws) (.slice b1 (f k).q.ws.length c1) /\ Rd wr 0 (af (f k).q.bs) (.slice b2 (f k).q.bs.length c2) /\ Rd wr 0 (ah (f k).a.ws) (.slice b3 (f k).a.ws.length c3) /\ Rd wr 0 (af (f k).a.bs) (.slice b4 (f k).a.bs.length c4)) := ⟨hx, hall, hbl, q1, q2, q3, q4⟩
   clear hx hall hbl hr q1 q2 q3 q4
   go_wp2_with fail
   refine (qP (f k) b1 c1 b2 c2 b3 c3 b4 c4 _ HK.out.2.2.2 (HS.out.2.2 k hlt).1 (HS.out.2.2 k hlt).2 x HK.out.1).mono ?_
   rintro e w1 ⟨rfl, b9⟩
   have B1 := ae HK.out.2.2.1 b9
   clear b9 dd0 dd1 dd2 dd3 dd4 dd5 dd6 dd7 dd8 dd9 dd10 dd11 dd12 dd13 dd14 dd15
   cases x with
   | true =>
    have HF : Hid (bO (fun i => dm (f i)) (k + 1) = true) := dO HK.out.2.1 HK.out.1
    clear HK
    go_wp2
    go_roundw
    case rel => exact ⟨k + 1, by omega, by go_num, HF.out, B1⟩
    case measure => simp [intOf]; omega
   | false =>
    have HF : Hid (bO (fun i => dm (f i)) n = false) := er hlt HK.out.1
    clear HK
    go_wp2
    go_ret
    exact ⟨_, rfl, .inr ⟨by omega, HF.out⟩, B1⟩
  have hi : ¬ (k : Int) < (n : Int) := by omega
  have e9 : k = n := by omega
  subst e9
  have HF : Hid (bO (fun i => dm (f i)) k = true) := hall
  clear hall
  go_wp2
  go_ret
  exact ⟨_, rfl, .inl ⟨rfl, HF.out⟩, hbl⟩
theorem lw (n : Nat) (f : Nat -> VK) (a : Option Addr) (c : Nat) (w : World) (h : pm w n f a c) (x : Bool) (hx : bO (fun i => dm (f i)) n = x) :
 Calls prog 189 #[.slice a n c, .func (.func 190) #[] #[]] w fun e w' => e = .returned (.bool (!x)) /\ Below w.heap.size w w' := by
 have HX : Hid (bO (fun i => dm (f i)) n = x) := hx
 clear hx
 go_enter func189, ntmps189
 go_wp2_with fail
 refine (og n f a c _ h).mono ?_
 rintro e w1 ⟨r, rfl, hr, b1⟩
 have HR : Hid (vA n f r) := hr
 clear hr
 cases x with
 | true =>
  have h0 : ¬ (0 <= r) := by
   rcases HR.out with h | h
   ·omega
   have := HX.out; rw [h.2] at this; cases this
  have HD : Hid (decide (0 <= r) = false) := decide_eq_false h0
  go_wp2
  go_ret
  exact ⟨by show Ending.returned (.bool (decide (0 <= r))) = _; rw [HD.out]; rfl, b1⟩
 | false =>
  have h0 : 0 <= r := by
   rcases HR.out with h | h
   ·have := HX.out; rw [h.2] at this; cases this
   exact h.1
  have HD : Hid (decide (0 <= r) = true) := decide_eq_true h0
  go_wp2
  go_ret
  exact ⟨rfl, b1⟩
theorem je (n : Nat) (f : Nat -> VK) (a : Option Addr) (c : Nat) (w : World) (h : pm w n f a c) :
 Calls prog 126 #[.slice a n c] w fun e w' => e = .returned (.bool (gI n f)) /\ Below w.heap.size w w' := by
 obtain ⟨x0, hx0⟩ : ∃ x, decide (n <= 60) = x := ⟨_, rfl⟩
 obtain ⟨x, hx⟩ : ∃ x, bO (fun i => dm (f i)) n = x := ⟨_, rfl⟩
 have HE : Hid (gI n f = (x0 && x) /\ bO (fun i => dm (f i)) n = x /\ pm w n f a c) := ⟨by unfold gI; rw [hx0, hx], hx, h⟩
 rw [HE.out.1]
 clear hx h
 cases x0
 case false =>
  have h8 : (60 : Int) < (n : Int) := by have := of_decide_eq_false hx0; omega
  clear hx0 HE
  go_enter func126, ntmps126
  go_wp2
  go_ret
  exact ⟨rfl, Below.refl _ _⟩
 have h8 : ¬ (60 : Int) < (n : Int) := by have := of_decide_eq_true hx0; omega
 clear hx0
 go_enter func126, ntmps126
 go_wp2_with fail
 refine (lw n f a c _ HE.out.2.2 x HE.out.2.1).mono ?_
 rintro e w1 ⟨rfl, B1⟩
 clear HE
 go_wp2
 go_ret
 exact ⟨by cases x <;> rfl, B1⟩
end Go.Proofs.YtplaoagcedgdfaaGreat
