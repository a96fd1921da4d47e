/- Texts that the proof needs, joined: Tb4. -/
import Derived.Test.YtfagbjffhjnmaaaY8
import Derived.Test.YtfagbjffhjnmaaaY12
namespace Go.Proofs.Ytfagbjffhjnmaaa
open Go.RowKit Go.Joins
set_option linter.unusedVariables false
set_option linter.unusedSimpArgs false
theorem specSuQ (Q : VQ) (A : VA) (a1 : Option Addr) (l1 c1 : Nat) (a2 : Option Addr) (l2 c2 : Nat) (b1 : Option Addr) (m1 d1 : Nat) (b2 : Option Addr) (m2 d2 : Nat) (w : World) (r1 : Rd w 0 (intsT Q.ws) (.slice a1 l1 c1)) (r2 : Rd w 0 (boolsT Q.bs) (.slice a2 l2 c2)) (r3 : Rd w 0 (intsT A.ws) (.slice b1 m1 d1)) (r4 : Rd w 0 (boolsT A.bs) (.slice b2 m2 d2)) (hb : BdQ Q) (ha : BdA A) :
    Calls Try.prog 23 #[.agg (qL Q a1 l1 c1 a2 l2 c2).toArray, .agg (aL A b1 m1 d1 b2 m2 d2).toArray] w fun e w' => e = .returned (.bool (suQ Q A)) ∧ Below w.heap.size w w' := by
  obtain ⟨e1, _, s1⟩ := r1.int3
  obtain ⟨e2, _, s2⟩ := r2.bool3
  obtain ⟨e3, _, s3⟩ := r3.int3
  obtain ⟨e4, h4, s4⟩ := r4.bool3
  unfold suQ
  rw [← e1, ← e2, ← e3, ← e4]
  exact specSuits_q Q.kd A.kd A.fl Q.pl Q.n Q.wa a1 a2 l1 l2 c1 c2 Q.ws Q.bs A.pl A.n b1 b2 m1 m2 d1 d2 A.ws A.bs w e1 e2 s1 s2 hb.1 hb.2 e3 e4 s3 s4 ha.1 ha.2
set_option maxRecDepth 20000 in
set_option maxHeartbeats 2000000 in
theorem noResp_any (X : VA) (a1 : Option Addr) (c1 : Nat) (a2 : Option Addr) (c2 : Nat) (w : World) :
    Calls Try.prog 24 #[.agg (aL X a1 X.ws.length c1 a2 X.bs.length c2).toArray] w fun e w' => e = .returned (.bool (noA X)) ∧ Below w.heap.size w w' := by
  obtain ⟨t0, q0⟩ : ∃ t, (X.kd == 0) = t := ⟨_, rfl⟩
  obtain ⟨t1, q1⟩ : ∃ t, (X.fl == 0) = t := ⟨_, rfl⟩
  obtain ⟨t2, q2⟩ : ∃ t, (X.pl == 0) = t := ⟨_, rfl⟩
  obtain ⟨t3, q3⟩ : ∃ t, (X.n == 0) = t := ⟨_, rfl⟩
  obtain ⟨t4, q4⟩ : ∃ t, ((X.ws.length : Int) == 0) = t := ⟨_, rfl⟩
  obtain ⟨t5, q5⟩ : ∃ t, ((X.bs.length : Int) == 0) = t := ⟨_, rfl⟩
  obtain ⟨W, hW⟩ : ∃ W, W = w.alloc (.cells (aL X a1 X.ws.length c1 a2 X.bs.length c2).toArray 63) := ⟨_, rfl⟩
  have HE : Hid (noA X = (t0 && (t1 && (t2 && (t3 && (t4 && t5))))) ∧ Below w.heap.size w W) := ⟨by unfold noA; rw [q0, q1, q2, q3, q4, q5], by rw [hW]; exact bel_alloc _ _⟩
  have A0 : Blk W w.heap.size 63 (aL X a1 X.ws.length c1 a2 X.bs.length c2).toArray := by rw [hW]; exact Blk.new _ _ _
  rw [HE.out.1]
  obtain ⟨⟨y0, y1, y2, y3, y4, y5⟩, yf⟩ := A0.tc6
  clear yf A0
  cases t0 with
  | false =>
    go_enter Try.func24, Try.ntmps24
    go_upto_region 1 with fail
    rw [← hW]
    clear hW
    go_wp2
    go_ret
    exact ⟨rfl, HE.out.2⟩
  | true =>
    cases t1 with
    | false =>
      go_enter Try.func24, Try.ntmps24
      go_upto_region 1 with fail
      rw [← hW]
      clear hW
      go_wp2
      go_ret
      exact ⟨rfl, HE.out.2⟩
    | true =>
      cases t2 with
      | false =>
        go_enter Try.func24, Try.ntmps24
        go_upto_region 1 with fail
        rw [← hW]
        clear hW
        go_wp2
        go_ret
        exact ⟨rfl, HE.out.2⟩
      | true =>
        cases t3 with
        | false =>
          go_enter Try.func24, Try.ntmps24
          go_upto_region 1 with fail
          rw [← hW]
          clear hW
          go_wp2
          go_ret
          exact ⟨rfl, HE.out.2⟩
        | true =>
          cases t4 with
          | false =>
            go_enter Try.func24, Try.ntmps24
            go_upto_region 1 with fail
            rw [← hW]
            clear hW
            go_wp2
            go_ret
            exact ⟨rfl, HE.out.2⟩
          | true =>
            cases t5 with
            | false =>
              go_enter Try.func24, Try.ntmps24
              go_upto_region 1 with fail
              rw [← hW]
              clear hW
              go_wp2
              go_ret
              exact ⟨rfl, HE.out.2⟩
            | true =>
              go_enter Try.func24, Try.ntmps24
              go_upto_region 1 with fail
              rw [← hW]
              clear hW
              go_wp2
              go_ret
              exact ⟨rfl, HE.out.2⟩
set_option maxRecDepth 20000 in
set_option maxHeartbeats 16000000 in
theorem specPend_any (D : VD) (a1 : Option Addr) (c1 : Nat) (a2 : Option Addr) (c2 : Nat) (a3 : Option Addr) (c3 : Nat) (a4 : Option Addr) (c4 : Nat) (a5 : Option Addr) (c5 : Nat) (w : World) (r1 : Rd w 0 (intsT D.q.ws) (.slice a1 D.q.ws.length c1)) (r2 : Rd w 0 (boolsT D.q.bs) (.slice a2 D.q.bs.length c2)) (r3 : Rd w 0 (.list 8 D.np (fun i => trs (pT (D.pt i)))) (.slice a3 D.np c3)) (r4 : Rd w 0 (boolsT D.hs) (.slice a4 D.hs.length c4)) (r5 : Rd w 0 (.list 6 D.nt (fun i => trs (aT (D.tl i)))) (.slice a5 D.nt c5)) (hb : BdD D) :
    Calls Try.prog 14 #[.agg (dL D a1 D.q.ws.length c1 a2 D.q.bs.length c2 a3 D.np c3 a4 D.hs.length c4 a5 D.nt c5).toArray] w fun e w' => e = .returned (.bool (okPd D)) ∧ Below w.heap.size w w' := by
  obtain ⟨x0, hx0⟩ : ∃ x, inB D.so 0 1000000000 = x := ⟨_, rfl⟩
  obtain ⟨x1, hx1⟩ : ∃ x, inB D.ta 0 1000000000 = x := ⟨_, rfl⟩
  obtain ⟨x2, hx2⟩ : ∃ x, okQ D.q = x := ⟨_, rfl⟩
  obtain ⟨x3, hx3⟩ : ∃ x, inB (D.np : Int) 1 8 = x := ⟨_, rfl⟩
  have hx3' : decide (1 ≤ D.np ∧ D.np ≤ 8) = x3 := by rw [← hx3]; unfold inB; exact decide_eq_decide.2 (by omega)
  obtain ⟨G, hG⟩ : ∃ G, G = w.heap.size := ⟨_, rfl⟩
  obtain ⟨W, hW⟩ : ∃ W, W = w.alloc (.cells (dL D a1 D.q.ws.length c1 a2 D.q.bs.length c2 a3 D.np c3 a4 D.hs.length c4 a5 D.nt c5).toArray 44) := ⟨_, rfl⟩
  have bW : Below w.heap.size w W := by rw [hW]; exact bel_alloc _ _
  have HE : Hid (okPd D = (x0 && (x1 && (x2 && (x3 && (allN (fun i => okPt (D.pt i)) D.np && (decide (D.hs.length = D.np) && (decide (D.nt = D.np) && (allN (tdB D) D.np && decide (0 < cntF D.hs D.hs.length)))))))) ) ∧ inB D.so 0 1000000000 = x0 ∧ inB D.ta 0 1000000000 = x1 ∧ okQ D.q = x2 ∧ inB (D.np : Int) 1 8 = x3 ∧ BdD D ∧ Below w.heap.size w W ∧ Blk W G 44 (dL D a1 D.q.ws.length c1 a2 D.q.bs.length c2 a3 D.np c3 a4 D.hs.length c4 a5 D.nt c5).toArray) := ⟨by unfold okPd; rw [hx0, hx1, hx2, hx3'], hx0, hx1, hx2, hx3, hb, bW, by rw [hW, hG]; exact Blk.new _ _ _⟩
  have HR : Hid (Rd W 0 (intsT D.q.ws) (.slice a1 D.q.ws.length c1) ∧ Rd W 0 (boolsT D.q.bs) (.slice a2 D.q.bs.length c2) ∧ Rd W 0 (.list 8 D.np (fun i => trs (pT (D.pt i)))) (.slice a3 D.np c3) ∧ Rd W 0 (boolsT D.hs) (.slice a4 D.hs.length c4) ∧ Rd W 0 (.list 6 D.nt (fun i => trs (aT (D.tl i)))) (.slice a5 D.nt c5)) := ⟨r1.below bW, r2.below bW, r3.below bW, r4.below bW, r5.below bW⟩
  rw [HE.out.1]
  obtain ⟨⟨y0, y1, y2, y3, y4, y5, y6, y7, y8, y9, y10, y11, y12⟩, yf⟩ := HE.out.2.2.2.2.2.2.2.tc13
  have hn1 := hb.2.1
  have hn2 := hb.2.2.1
  have hn3 := hb.2.2.2.1
  clear hx0 hx1 hx2 hx3 hx3' hb r1 r2 r3 r4 r5 bW yf
  go_enter Try.func14, Try.ntmps14
  go_upto_region 1 with fail
  rw [← hW, ← hG]
  clear hW hG
  go_wp2_with fail
  refine (l1In_any _ _ _ _ _ HE.out.2.1).mono ?_
  rintro e w1 ⟨rfl, hw⟩
  have hw := hw.symm
  subst hw
  cases x0 with
  | false =>
    go_wp2
    go_ret
    exact ⟨rfl, HE.out.2.2.2.2.2.2.1⟩
  | true =>
    go_wp2_with fail
    refine (l1In_any _ _ _ _ _ HE.out.2.2.1).mono ?_
    rintro e w1 ⟨rfl, hw⟩
    have hw := hw.symm
    subst hw
    cases x1 with
    | false =>
      go_wp2
      go_ret
      exact ⟨rfl, HE.out.2.2.2.2.2.2.1⟩
    | true =>
      go_wp2_with fail
      refine (specOkQ D.q a1 _ c1 a2 _ c2 _ HR.out.1 HR.out.2.1 HE.out.2.2.2.2.2.1.1).mono ?_
      rintro e w1 ⟨rfl, b1⟩
      rw [HE.out.2.2.2.1]
      have HB : Hid (Below W.heap.size W w1 ∧ Below w.heap.size w w1) := ⟨b1, bel_nx HE.out.2.2.2.2.2.2.1 b1⟩
      clear b1 y0 y1 y2 y3 y4 y5 y6 y7 y8 y9 y10 y11 y12
      cases x2 with
      | false =>
        go_wp2
        go_ret
        exact ⟨rfl, HB.out.2⟩
      | true =>
        obtain ⟨⟨y0, y1, y2, y3, y4, y5, y6, y7, y8, y9, y10, y11, y12⟩, yf⟩ := (HE.out.2.2.2.2.2.2.2.below HB.out.1).tc13
        clear yf
        go_wp2_with fail
        refine (l1In_any _ _ _ _ _ HE.out.2.2.2.2.1).mono ?_
        rintro e w2 ⟨rfl, hw⟩
        have hw := hw.symm
        subst hw
        cases x3 with
        | false =>
          go_wp2
          go_ret
          exact ⟨rfl, HB.out.2⟩
        | true =>
          by_cases e1 : D.hs.length = D.np
          · have f1 : ((D.hs.length : Int) != (D.np : Int)) = false := by simp [e1]
            by_cases e2 : D.nt = D.np
            · have f2 : ((D.nt : Int) != (D.np : Int)) = false := by simp [e2]
              have HT : Hid (decide (D.hs.length = D.np) = true ∧ decide (D.nt = D.np) = true ∧ D.hs.length = D.np ∧ D.nt = D.np) := ⟨decide_eq_true e1, decide_eq_true e2, e1, e2⟩
              clear e1 e2
              go_wp2
              clear y0 y1 y2 y3 y4 y5 y6 y7 y8 y9 y10 y11 y12 f1 f2
              go_loopw [3, 4] (fun al i wr => ∃ k : Nat, k ≤ D.np ∧ i = .int .i64 k ∧ al = .bool (allN (fun i => D.hs.getD i false) k) ∧ allN (fun i => okPt (D.pt i)) k = true ∧ allN (tdB D) k = true ∧ Below w1.heap.size w1 wr) (fun _ i _ => D.np - (intOf i).toNat)
              case atStart => exact ⟨0, Nat.zero_le _, rfl, rfl, rfl, rfl, Below.refl _ _⟩
              case round =>
                obtain ⟨k, hk, rfl, rfl, hall, hall2, hbl⟩ := hrel
                obtain ⟨al, hal⟩ : ∃ x, allN (fun i => D.hs.getD i false) k = x := ⟨_, rfl⟩
                rw [hal]
                have HL : Hid (allN (fun i => D.hs.getD i false) k = al) := hal
                clear hal
                obtain ⟨⟨y0, y1, y2, y3, y4, y5, y6, y7, y8, y9, y10, y11, y12⟩, yf⟩ := ((HE.out.2.2.2.2.2.2.2.below HB.out.1).below hbl).tc13
                clear yf
                have HB2 : Hid (Below W.heap.size W wr ∧ Below w.heap.size w wr) := ⟨bel_nx HB.out.1 hbl, bel_nx HB.out.2 hbl⟩
                by_cases hlt : k < D.np
                · have hi : (k : Int) < (D.np : Int) := by omega
                  have hi4 : (k : Int) < (D.hs.length : Int) := by have := HT.out.2.2.1; omega
                  have hi5 : (k : Int) < (D.nt : Int) := by have := HT.out.2.2; omega
                  obtain ⟨b4, o4, rfl, hb4, d0⟩ := (HR.out.2.2.2.1.below HB2.out.1).bit (k := k) (n := D.np) (by have := HT.out.2.2.1; omega)
                  obtain ⟨b3, o3, vs, rfl, _, hb3, hlen, hr3, hrd⟩ := (HR.out.2.2.1.below HB2.out.1).at (k := k) hlt
                  obtain ⟨p1, k1, p2, k2, rfl, rp1, rp2⟩ := VP.cells hrd hlen
                  clear hlen hrd
                  obtain ⟨b5, o5, vs, rfl, _, hb5, hlen, hr5, hrd⟩ := (HR.out.2.2.2.2.below HB2.out.1).at (k := k) (by have := HT.out.2.2; omega)
                  obtain ⟨t1, j1, t2, j2, rfl, rt1, rt2⟩ := VA.cells hrd hlen
                  clear hlen hrd
                  obtain ⟨hs, hhs⟩ : ∃ x, D.hs.getD k false = x := ⟨_, rfl⟩
                  rw [hhs] at d0
                  obtain ⟨x, hx⟩ : ∃ x, tdB D k = x := ⟨_, rfl⟩
                  obtain ⟨xp, hxp⟩ : ∃ x, okPt (D.pt k) = x := ⟨_, rfl⟩
                  have hbq := HE.out.2.2.2.2.2.1.2.2.2.2.1 k hlt
                  have hba := HE.out.2.2.2.2.2.1.2.2.2.2.2 k (by have := HT.out.2.2; omega)
                  have HA : Hid (allN (fun i => okPt (D.pt i)) k = true ∧ allN (tdB D) k = true ∧ okPt (D.pt k) = xp ∧ tdB D k = x ∧ D.hs.getD k false = hs ∧ Below w1.heap.size w1 wr) := ⟨hall, hall2, hxp, hx, hhs, hbl⟩
                  have c4' : wr.rangeAt b4 (o4 + k) [.bool hs] := fun j v hv => by
                    match j, hv with
                    | 0, hv => simp at hv; subst hv; exact d0
                    | j + 1, hv => simp at hv
                  have hBk := HE.out.2.2.2.2.2.2.2.below HB2.out.1
                  clear hall hall2 hbl d0
                  cases hs with
                  | true =>
                    have hx2 : suQ (D.pt k).q (D.tl k) = x := by rw [← hx]; unfold tdB; rw [hhs]; rfl
                    have HK : Hid (Blk wr G 44 (dL D a1 D.q.ws.length c1 a2 D.q.bs.length c2 (some ⟨b3, o3, none⟩) D.np c3 (some ⟨b4, o4, none⟩) D.hs.length c4 (some ⟨b5, o5, none⟩) D.nt c5).toArray ∧ b3 < wr.heap.size ∧ wr.rangeAt b3 (o3 + k * 8) (pL (D.pt k) p1 (D.pt k).q.ws.length k1 p2 (D.pt k).q.bs.length k2) ∧ b5 < wr.heap.size ∧ wr.rangeAt b5 (o5 + k * 6) (aL (D.tl k) t1 (D.tl k).ws.length j1 t2 (D.tl k).bs.length j2) ∧ b4 < wr.heap.size ∧ wr.rangeAt b4 (o4 + k) [.bool true] ∧ Rd wr 0 (intsT (D.pt k).q.ws) (.slice p1 (D.pt k).q.ws.length k1) ∧ Rd wr 0 (boolsT (D.pt k).q.bs) (.slice p2 (D.pt k).q.bs.length k2) ∧ Rd wr 0 (intsT (D.tl k).ws) (.slice t1 (D.tl k).ws.length j1) ∧ Rd wr 0 (boolsT (D.tl k).bs) (.slice t2 (D.tl k).bs.length j2) ∧ BdQ (D.pt k).q ∧ BdA (D.tl k) ∧ okPt (D.pt k) = xp ∧ suQ (D.pt k).q (D.tl k) = x) := ⟨hBk, hb3, hr3, hb5, hr5, hb4, c4', rp1, rp2, rt1, rt2, hbq, hba, hxp, hx2⟩
                    clear hx hx2 hhs hb3 hr3 hb5 hr5 hb4 c4' rp1 rp2 rt1 rt2 hbq hba hxp hBk
                    go_upto_region 7 with fail
                    clear y0 y1 y2 y3 y4 y5 y6 y7 y8 y9 y10 y11 y12
                    cases xp with
                    | false =>
                      refine wp_region_any (by kernel_rfl) ?_
                      refine wpAny_vals (fun u => Below wr.heap.size wr u) (fun i v u => match i with
                        | 0 => v = .pointer (some ⟨G, 10, none⟩)
                        | 1 => v = .slice (some ⟨b3, o3, none⟩) D.np c3
                        | 2 => v = .int .i64 (k : Int)
                        | 3 => v = .pointer (some ⟨b3, o3 + k * 8, none⟩)
                        | 4 => v = .agg (pL (D.pt k) p1 (D.pt k).q.ws.length k1 p2 (D.pt k).q.bs.length k2).toArray
                        | 5 => v = .bool false
                        | 6 => v = .bool true
                        | 7 => v = .bool true
                        | 8 => v = undef
                        | 9 => v = undef
                        | 10 => v = undef
                        | 11 => v = undef
                        | 12 => v = undef
                        | 13 => v = undef
                        | 14 => v = undef
                        | 15 => v = undef
                        | 16 => v = undef
                        | 17 => v = undef
                        | 18 => v = undef
                        | 19 => v = undef
                        | 20 => v = undef
                        | 21 => v = undef
                        | 22 => v = undef
                        | 23 => v = undef
                        | 24 => v = undef
                        | 25 => v = undef
                        | 26 => v = undef
                        | 27 => v = undef
                        | 28 => v = .bool true
                        | 29 => v = .bool true
                        | 30 => v = undef
                        | 31 => v = undef
                        | 32 => v = undef
                        | 33 => v = undef
                        | 34 => v = undef
                        | 35 => v = undef
                        | 36 => v = undef
                        | 37 => v = undef
                        | 38 => v = undef
                        | 39 => v = undef
                        | 40 => v = undef
                        | 41 => v = undef
                        | 42 => v = undef
                        | 43 => v = undef
                        | 44 => v = undef
                        | 45 => v = .bool true
                        | _ => True) (by kernel_rfl) (by kernel_rfl) (fun _ _ _ _ h _ => h) (by first | exact Below.refl _ _ | exact (Below.refl _ _).drew) ?_ ?_ _ _ rfl (by decide) (fun i => by simp [Array.getD]; try (split <;> rfl))
                      · intro vs u hR hall
                        have e45 : vs 45 = .bool true := hall 45 (by simp)
                        simp only [putsL]
                        rw [e45]
                        clear hall e45
                        have HF : Hid (allN (fun i => okPt (D.pt i)) D.np = false ∧ Below w.heap.size w u) := ⟨allN_no hlt HA.out.2.2.1, bel_nx HB2.out.2 hR⟩
                        clear HK HA hR
                        go_simp
                        go_wp2
                        go_ret
                        exact ⟨by rw [HF.out.1]; rfl, HF.out.2⟩
                      · intro u i o ρ hR ho hρ hc hf hd
                        have hi : i < 46 := by
                          have := (Array.getElem?_eq_some_iff.1 ho).1
                          simpa using this
                        obtain rfl | rfl | rfl | rfl | rfl | rfl | rfl | rfl | rfl | rfl | rfl | rfl | rfl | rfl | rfl | rfl | rfl | rfl | rfl | rfl | rfl | rfl | rfl | rfl | rfl | rfl | rfl | rfl | rfl | rfl | rfl | rfl | rfl | rfl | rfl | rfl | rfl | rfl | rfl | rfl | rfl | rfl | rfl | rfl | rfl | rfl : i = 0 ∨ i = 1 ∨ i = 2 ∨ i = 3 ∨ i = 4 ∨ i = 5 ∨ i = 6 ∨ i = 7 ∨ i = 8 ∨ i = 9 ∨ i = 10 ∨ i = 11 ∨ i = 12 ∨ i = 13 ∨ i = 14 ∨ i = 15 ∨ i = 16 ∨ i = 17 ∨ i = 18 ∨ i = 19 ∨ i = 20 ∨ i = 21 ∨ i = 22 ∨ i = 23 ∨ i = 24 ∨ i = 25 ∨ i = 26 ∨ i = 27 ∨ i = 28 ∨ i = 29 ∨ i = 30 ∨ i = 31 ∨ i = 32 ∨ i = 33 ∨ i = 34 ∨ i = 35 ∨ i = 36 ∨ i = 37 ∨ i = 38 ∨ i = 39 ∨ i = 40 ∨ i = 41 ∨ i = 42 ∨ i = 43 ∨ i = 44 ∨ i = 45 := by omega
                        all_goals (simp only [List.getElem?_toArray, List.getElem?_cons_zero, List.getElem?_cons_succ, Option.some.injEq] at ho; subst ho)
                        · -- 0
                          have s1 : ρ (.tmp 1) = .pointer (some ⟨G, 0, none⟩) := (hρ 1 (by kernel_rfl)).trans rfl
                          exact .inl ⟨rfl, .inl ⟨.pointer (some ⟨G, 10, none⟩), u, run_field_op rfl s1 (by go_simp), rfl, hR, Below.refl _ _⟩⟩
                        · -- 1
                          have h0 : ρ (.tmp 53) = .pointer (some ⟨G, 10, none⟩) := hd ⟨0, .data⟩ (by simp) rfl 53 rfl
                          have y9 : u.cell? ⟨G, 10, none⟩ = some (.slice (some ⟨b3, o3, none⟩) D.np c3) := (HK.out.1.below hR).rng 10 _ rfl
                          have hr : (Instr.loadAt 41 (.pointer (some ⟨G, 10, none⟩))).run Try.prog u = .ok (.slice (some ⟨b3, o3, none⟩) D.np c3) u := by go_simp
                          exact .inl ⟨rfl, .inl ⟨.slice (some ⟨b3, o3, none⟩) D.np c3, u, run_load_op rfl h0 hr, rfl, hR, Below.refl _ _⟩⟩
                        · -- 2
                          have s4 : ρ (.tmp 4) = .int .i64 (k : Int) := (hρ 4 (by kernel_rfl)).trans rfl
                          exact .inl ⟨rfl, .inl ⟨_, u, rfl, s4, hR, Below.refl _ _⟩⟩
                        · -- 3
                          have h1 : ρ (.tmp 54) = .slice (some ⟨b3, o3, none⟩) D.np c3 := hd ⟨1, .data⟩ (by simp) rfl 54 rfl
                          have h2 : ρ (.tmp 55) = .int .i64 (k : Int) := hd ⟨2, .data⟩ (by simp) rfl 55 rfl
                          exact .inl ⟨rfl, .inl ⟨.pointer (some ⟨b3, o3 + k * 8, none⟩), u, run_index_op rfl h1 h2 (by go_simp), rfl, hR, Below.refl _ _⟩⟩
                        · -- 4
                          have h3 : ρ (.tmp 56) = .pointer (some ⟨b3, o3 + k * 8, none⟩) := hd ⟨3, .data⟩ (by simp) rfl 56 rfl
                          have hr : (Instr.loadAt 60 (.pointer (some ⟨b3, o3 + k * 8, none⟩))).run Try.prog u = .ok (.agg (pL (D.pt k) p1 (D.pt k).q.ws.length k1 p2 (D.pt k).q.bs.length k2).toArray) u := run_loadAt_mid u b3 (o3 + k * 8) 60 (pL (D.pt k) p1 (D.pt k).q.ws.length k1 p2 (D.pt k).q.bs.length k2) _ (rangeAt_below HK.out.2.2.1 HK.out.2.1 hR) Try.underlying60 rfl (by kernel_rfl)
                          exact .inl ⟨rfl, .inl ⟨.agg (pL (D.pt k) p1 (D.pt k).q.ws.length k1 p2 (D.pt k).q.bs.length k2).toArray, u, run_load_op rfl h3 hr, rfl, hR, Below.refl _ _⟩⟩
                        · -- 5
                          have h4 : ρ (.tmp 57) = .agg (pL (D.pt k) p1 (D.pt k).q.ws.length k1 p2 (D.pt k).q.bs.length k2).toArray := hd ⟨4, .data⟩ (by simp) rfl 57 rfl
                          refine .inl ⟨rfl, .inr ⟨_, _, run_call_op rfl (hf _) (args := #[.agg (pL (D.pt k) p1 (D.pt k).q.ws.length k1 p2 (D.pt k).q.bs.length k2).toArray]) (by simp [h4]) (by kernel_rfl), ?_⟩⟩
                          refine (specPart_any (D.pt k) p1 k1 p2 k2 _ (HK.out.2.2.2.2.2.2.2.1.below hR) (HK.out.2.2.2.2.2.2.2.2.1.below hR) HK.out.2.2.2.2.2.2.2.2.2.2.2.1).mono ?_
                          rintro e u' ⟨he, b'⟩
                          exact ⟨_, he.trans (by rw [HK.out.2.2.2.2.2.2.2.2.2.2.2.2.2.1]), rfl, bel_nx hR b', b'⟩
                        · -- 6
                          have h5 : ρ (.tmp 58) = .bool false := hd ⟨5, .data⟩ (by simp) rfl 58 rfl
                          exact .inl ⟨rfl, .inl ⟨.bool true, u, run_un_op rfl h5 (by go_simp), rfl, hR, Below.refl _ _⟩⟩
                        · -- 7
                          have h6 : ρ (.tmp 59) = .bool true := hd ⟨6, .data⟩ (by simp) rfl 59 rfl
                          exact .inl ⟨rfl, .inl ⟨_, u, rfl, h6, hR, Below.refl _ _⟩⟩
                        · -- 8
                          have g7 : ρ (.tmp 60) = .bool true := hd ⟨7, .guard⟩ (by simp) rfl 60 rfl
                          exact .inr ⟨(by show (match ρ (.tmp 60) with | .bool b => b == false | _ => false) = false; rw [g7]; rfl), rfl⟩
                        · -- 9
                          have g7 : ρ (.tmp 60) = .bool true := hd ⟨7, .guard⟩ (by simp) rfl 60 rfl
                          exact .inr ⟨(by show (match ρ (.tmp 60) with | .bool b => b == false | _ => false) = false; rw [g7]; rfl), rfl⟩
                        · -- 10
                          have g7 : ρ (.tmp 60) = .bool true := hd ⟨7, .guard⟩ (by simp) rfl 60 rfl
                          exact .inr ⟨(by show (match ρ (.tmp 60) with | .bool b => b == false | _ => false) = false; rw [g7]; rfl), rfl⟩
                        · -- 11
                          have g7 : ρ (.tmp 60) = .bool true := hd ⟨7, .guard⟩ (by simp) rfl 60 rfl
                          exact .inr ⟨(by show (match ρ (.tmp 60) with | .bool b => b == false | _ => false) = false; rw [g7]; rfl), rfl⟩
                        · -- 12
                          have g7 : ρ (.tmp 60) = .bool true := hd ⟨7, .guard⟩ (by simp) rfl 60 rfl
                          exact .inr ⟨(by show (match ρ (.tmp 60) with | .bool b => b == false | _ => false) = false; rw [g7]; rfl), rfl⟩
                        · -- 13
                          have g7 : ρ (.tmp 60) = .bool true := hd ⟨7, .guard⟩ (by simp) rfl 60 rfl
                          exact .inr ⟨(by show (match ρ (.tmp 60) with | .bool b => b == false | _ => false) = false; rw [g7]; rfl), rfl⟩
                        · -- 14
                          have g13 : ρ (.tmp 66) = undef := hd ⟨13, .guard⟩ (by simp) rfl 66 rfl
                          exact .inr ⟨(by show (match ρ (.tmp 66) with | .bool b => b == true | _ => false) = false; rw [g13]; rfl), rfl⟩
                        · -- 15
                          have g13 : ρ (.tmp 66) = undef := hd ⟨13, .guard⟩ (by simp) rfl 66 rfl
                          exact .inr ⟨(by show (match ρ (.tmp 66) with | .bool b => b == true | _ => false) = false; rw [g13]; rfl), rfl⟩
                        · -- 16
                          have g13 : ρ (.tmp 66) = undef := hd ⟨13, .guard⟩ (by simp) rfl 66 rfl
                          exact .inr ⟨(by show (match ρ (.tmp 66) with | .bool b => b == true | _ => false) = false; rw [g13]; rfl), rfl⟩
                        · -- 17
                          have g13 : ρ (.tmp 66) = undef := hd ⟨13, .guard⟩ (by simp) rfl 66 rfl
                          exact .inr ⟨(by show (match ρ (.tmp 66) with | .bool b => b == true | _ => false) = false; rw [g13]; rfl), rfl⟩
                        · -- 18
                          have g13 : ρ (.tmp 66) = undef := hd ⟨13, .guard⟩ (by simp) rfl 66 rfl
                          exact .inr ⟨(by show (match ρ (.tmp 66) with | .bool b => b == true | _ => false) = false; rw [g13]; rfl), rfl⟩
                        · -- 19
                          have g13 : ρ (.tmp 66) = undef := hd ⟨13, .guard⟩ (by simp) rfl 66 rfl
                          exact .inr ⟨(by show (match ρ (.tmp 66) with | .bool b => b == true | _ => false) = false; rw [g13]; rfl), rfl⟩
                        · -- 20
                          have g13 : ρ (.tmp 66) = undef := hd ⟨13, .guard⟩ (by simp) rfl 66 rfl
                          exact .inr ⟨(by show (match ρ (.tmp 66) with | .bool b => b == true | _ => false) = false; rw [g13]; rfl), rfl⟩
                        · -- 21
                          have g13 : ρ (.tmp 66) = undef := hd ⟨13, .guard⟩ (by simp) rfl 66 rfl
                          exact .inr ⟨(by show (match ρ (.tmp 66) with | .bool b => b == true | _ => false) = false; rw [g13]; rfl), rfl⟩
                        · -- 22
                          have g13 : ρ (.tmp 66) = undef := hd ⟨13, .guard⟩ (by simp) rfl 66 rfl
                          exact .inr ⟨(by show (match ρ (.tmp 66) with | .bool b => b == true | _ => false) = false; rw [g13]; rfl), rfl⟩
                        · -- 23
                          have g13 : ρ (.tmp 66) = undef := hd ⟨13, .guard⟩ (by simp) rfl 66 rfl
                          exact .inr ⟨(by show (match ρ (.tmp 66) with | .bool b => b == true | _ => false) = false; rw [g13]; rfl), rfl⟩
                        · -- 24
                          have g13 : ρ (.tmp 66) = undef := hd ⟨13, .guard⟩ (by simp) rfl 66 rfl
                          exact .inr ⟨(by show (match ρ (.tmp 66) with | .bool b => b == true | _ => false) = false; rw [g13]; rfl), rfl⟩
                        · -- 25
                          have g13 : ρ (.tmp 66) = undef := hd ⟨13, .guard⟩ (by simp) rfl 66 rfl
                          exact .inr ⟨(by show (match ρ (.tmp 66) with | .bool b => b == true | _ => false) = false; rw [g13]; rfl), rfl⟩
                        · -- 26
                          have g13 : ρ (.tmp 66) = undef := hd ⟨13, .guard⟩ (by simp) rfl 66 rfl
                          exact .inr ⟨(by show (match ρ (.tmp 66) with | .bool b => b == true | _ => false) = false; rw [g13]; rfl), rfl⟩
                        · -- 27
                          have g7 : ρ (.tmp 60) = .bool true := hd ⟨7, .guard⟩ (by simp) rfl 60 rfl
                          exact .inr ⟨(by show (match ρ (.tmp 60) with | .bool b => b == false | _ => false) = false; rw [g7]; rfl), rfl⟩
                        · -- 28
                          have h7 : ρ (.tmp 60) = .bool true := hd ⟨7, .data⟩ (by simp) rfl 60 rfl
                          exact .inl ⟨rfl, .inl ⟨_, u, run_pick_op rfl h7, (by simpa using hc _), hR, Below.refl _ _⟩⟩
                        · -- 29
                          have h28 : ρ (.tmp 81) = .bool true := hd ⟨28, .data⟩ (by simp) rfl 81 rfl
                          exact .inl ⟨rfl, .inl ⟨_, u, rfl, h28, hR, Below.refl _ _⟩⟩
                        · -- 30
                          have g29 : ρ (.tmp 82) = .bool true := hd ⟨29, .guard⟩ (by simp) rfl 82 rfl
                          exact .inr ⟨(by show (match ρ (.tmp 82) with | .bool b => b == false | _ => false) = false; rw [g29]; rfl), rfl⟩
                        · -- 31
                          have g29 : ρ (.tmp 82) = .bool true := hd ⟨29, .guard⟩ (by simp) rfl 82 rfl
                          exact .inr ⟨(by show (match ρ (.tmp 82) with | .bool b => b == false | _ => false) = false; rw [g29]; rfl), rfl⟩
                        · -- 32
                          have g29 : ρ (.tmp 82) = .bool true := hd ⟨29, .guard⟩ (by simp) rfl 82 rfl
                          exact .inr ⟨(by show (match ρ (.tmp 82) with | .bool b => b == false | _ => false) = false; rw [g29]; rfl), rfl⟩
                        · -- 33
                          have g29 : ρ (.tmp 82) = .bool true := hd ⟨29, .guard⟩ (by simp) rfl 82 rfl
                          exact .inr ⟨(by show (match ρ (.tmp 82) with | .bool b => b == false | _ => false) = false; rw [g29]; rfl), rfl⟩
                        · -- 34
                          have g29 : ρ (.tmp 82) = .bool true := hd ⟨29, .guard⟩ (by simp) rfl 82 rfl
                          exact .inr ⟨(by show (match ρ (.tmp 82) with | .bool b => b == false | _ => false) = false; rw [g29]; rfl), rfl⟩
                        · -- 35
                          have g29 : ρ (.tmp 82) = .bool true := hd ⟨29, .guard⟩ (by simp) rfl 82 rfl
                          exact .inr ⟨(by show (match ρ (.tmp 82) with | .bool b => b == false | _ => false) = false; rw [g29]; rfl), rfl⟩
                        · -- 36
                          have g29 : ρ (.tmp 82) = .bool true := hd ⟨29, .guard⟩ (by simp) rfl 82 rfl
                          exact .inr ⟨(by show (match ρ (.tmp 82) with | .bool b => b == false | _ => false) = false; rw [g29]; rfl), rfl⟩
                        · -- 37
                          have g36 : ρ (.tmp 89) = undef := hd ⟨36, .guard⟩ (by simp) rfl 89 rfl
                          exact .inr ⟨(by show (match ρ (.tmp 89) with | .bool b => b == true | _ => false) = false; rw [g36]; rfl), rfl⟩
                        · -- 38
                          have g36 : ρ (.tmp 89) = undef := hd ⟨36, .guard⟩ (by simp) rfl 89 rfl
                          exact .inr ⟨(by show (match ρ (.tmp 89) with | .bool b => b == true | _ => false) = false; rw [g36]; rfl), rfl⟩
                        · -- 39
                          have g36 : ρ (.tmp 89) = undef := hd ⟨36, .guard⟩ (by simp) rfl 89 rfl
                          exact .inr ⟨(by show (match ρ (.tmp 89) with | .bool b => b == true | _ => false) = false; rw [g36]; rfl), rfl⟩
                        · -- 40
                          have g36 : ρ (.tmp 89) = undef := hd ⟨36, .guard⟩ (by simp) rfl 89 rfl
                          exact .inr ⟨(by show (match ρ (.tmp 89) with | .bool b => b == true | _ => false) = false; rw [g36]; rfl), rfl⟩
                        · -- 41
                          have g36 : ρ (.tmp 89) = undef := hd ⟨36, .guard⟩ (by simp) rfl 89 rfl
                          exact .inr ⟨(by show (match ρ (.tmp 89) with | .bool b => b == true | _ => false) = false; rw [g36]; rfl), rfl⟩
                        · -- 42
                          have g36 : ρ (.tmp 89) = undef := hd ⟨36, .guard⟩ (by simp) rfl 89 rfl
                          exact .inr ⟨(by show (match ρ (.tmp 89) with | .bool b => b == true | _ => false) = false; rw [g36]; rfl), rfl⟩
                        · -- 43
                          have g36 : ρ (.tmp 89) = undef := hd ⟨36, .guard⟩ (by simp) rfl 89 rfl
                          exact .inr ⟨(by show (match ρ (.tmp 89) with | .bool b => b == true | _ => false) = false; rw [g36]; rfl), rfl⟩
                        · -- 44
                          have g29 : ρ (.tmp 82) = .bool true := hd ⟨29, .guard⟩ (by simp) rfl 82 rfl
                          exact .inr ⟨(by show (match ρ (.tmp 82) with | .bool b => b == false | _ => false) = false; rw [g29]; rfl), rfl⟩
                        · -- 45
                          have h29 : ρ (.tmp 82) = .bool true := hd ⟨29, .data⟩ (by simp) rfl 82 rfl
                          exact .inl ⟨rfl, .inl ⟨_, u, run_pick_op rfl h29, (by simpa using hc _), hR, Below.refl _ _⟩⟩
                    | true =>
                      cases x with
                      | false =>
                        refine wp_region_any (by kernel_rfl) ?_
                        refine wpAny_vals (fun u => Below wr.heap.size wr u) (fun i v u => match i with
                          | 0 => v = .pointer (some ⟨G, 10, none⟩)
                          | 1 => v = .slice (some ⟨b3, o3, none⟩) D.np c3
                          | 2 => v = .int .i64 (k : Int)
                          | 3 => v = .pointer (some ⟨b3, o3 + k * 8, none⟩)
                          | 4 => v = .agg (pL (D.pt k) p1 (D.pt k).q.ws.length k1 p2 (D.pt k).q.bs.length k2).toArray
                          | 5 => v = .bool true
                          | 6 => v = .bool false
                          | 7 => v = .bool false
                          | 8 => v = .pointer (some ⟨G, 11, none⟩)
                          | 9 => v = .slice (some ⟨b4, o4, none⟩) D.hs.length c4
                          | 10 => v = .int .i64 (k : Int)
                          | 11 => v = .pointer (some ⟨b4, o4 + k, none⟩)
                          | 12 => v = .bool true
                          | 13 => v = .bool true
                          | 14 => v = .pointer (some ⟨G, 10, none⟩)
                          | 15 => v = .slice (some ⟨b3, o3, none⟩) D.np c3
                          | 16 => v = .int .i64 (k : Int)
                          | 17 => v = .pointer (some ⟨b3, o3 + k * 8, none⟩)
                          | 18 => v = .pointer (some ⟨b3, o3 + k * 8 + 2, none⟩)
                          | 19 => v = .agg ([.int .i64 (D.pt k).q.kd, .int .i64 (D.pt k).q.pl, .int .i64 (D.pt k).q.n, .slice p1 ((D.pt k).q.ws.length) k1, .slice p2 ((D.pt k).q.bs.length) k2, .int .i64 (D.pt k).q.wa]).toArray
                          | 20 => v = .pointer (some ⟨G, 12, none⟩)
                          | 21 => v = .slice (some ⟨b5, o5, none⟩) D.nt c5
                          | 22 => v = .int .i64 (k : Int)
                          | 23 => v = .pointer (some ⟨b5, o5 + k * 6, none⟩)
                          | 24 => v = .agg (aL (D.tl k) t1 (D.tl k).ws.length j1 t2 (D.tl k).bs.length j2).toArray
                          | 25 => v = .bool false
                          | 26 => v = .bool true
                          | 27 => v = .bool true
                          | 28 => v = .bool true
                          | 29 => v = .bool true
                          | 30 => v = undef
                          | 31 => v = undef
                          | 32 => v = undef
                          | 33 => v = undef
                          | 34 => v = undef
                          | 35 => v = undef
                          | 36 => v = undef
                          | 37 => v = undef
                          | 38 => v = undef
                          | 39 => v = undef
                          | 40 => v = undef
                          | 41 => v = undef
                          | 42 => v = undef
                          | 43 => v = undef
                          | 44 => v = undef
                          | 45 => v = .bool true
                          | _ => True) (by kernel_rfl) (by kernel_rfl) (fun _ _ _ _ h _ => h) (by first | exact Below.refl _ _ | exact (Below.refl _ _).drew) ?_ ?_ _ _ rfl (by decide) (fun i => by simp [Array.getD]; try (split <;> rfl))
                        · intro vs u hR hall
                          have e45 : vs 45 = .bool true := hall 45 (by simp)
                          simp only [putsL]
                          rw [e45]
                          clear hall e45
                          have HF : Hid (allN (tdB D) D.np = false ∧ Below w.heap.size w u) := ⟨allN_no hlt HA.out.2.2.2.1, bel_nx HB2.out.2 hR⟩
                          clear HK HA hR
                          go_simp
                          go_wp2
                          go_ret
                          exact ⟨by rw [HF.out.1]; simp, HF.out.2⟩
                        · intro u i o ρ hR ho hρ hc hf hd
                          have hi : i < 46 := by
                            have := (Array.getElem?_eq_some_iff.1 ho).1
                            simpa using this
                          obtain rfl | rfl | rfl | rfl | rfl | rfl | rfl | rfl | rfl | rfl | rfl | rfl | rfl | rfl | rfl | rfl | rfl | rfl | rfl | rfl | rfl | rfl | rfl | rfl | rfl | rfl | rfl | rfl | rfl | rfl | rfl | rfl | rfl | rfl | rfl | rfl | rfl | rfl | rfl | rfl | rfl | rfl | rfl | rfl | rfl | rfl : i = 0 ∨ i = 1 ∨ i = 2 ∨ i = 3 ∨ i = 4 ∨ i = 5 ∨ i = 6 ∨ i = 7 ∨ i = 8 ∨ i = 9 ∨ i = 10 ∨ i = 11 ∨ i = 12 ∨ i = 13 ∨ i = 14 ∨ i = 15 ∨ i = 16 ∨ i = 17 ∨ i = 18 ∨ i = 19 ∨ i = 20 ∨ i = 21 ∨ i = 22 ∨ i = 23 ∨ i = 24 ∨ i = 25 ∨ i = 26 ∨ i = 27 ∨ i = 28 ∨ i = 29 ∨ i = 30 ∨ i = 31 ∨ i = 32 ∨ i = 33 ∨ i = 34 ∨ i = 35 ∨ i = 36 ∨ i = 37 ∨ i = 38 ∨ i = 39 ∨ i = 40 ∨ i = 41 ∨ i = 42 ∨ i = 43 ∨ i = 44 ∨ i = 45 := by omega
                          all_goals (simp only [List.getElem?_toArray, List.getElem?_cons_zero, List.getElem?_cons_succ, Option.some.injEq] at ho; subst ho)
                          · -- 0
                            have s1 : ρ (.tmp 1) = .pointer (some ⟨G, 0, none⟩) := (hρ 1 (by kernel_rfl)).trans rfl
                            exact .inl ⟨rfl, .inl ⟨.pointer (some ⟨G, 10, none⟩), u, run_field_op rfl s1 (by go_simp), rfl, hR, Below.refl _ _⟩⟩
                          · -- 1
                            have h0 : ρ (.tmp 53) = .pointer (some ⟨G, 10, none⟩) := hd ⟨0, .data⟩ (by simp) rfl 53 rfl
                            have y9 : u.cell? ⟨G, 10, none⟩ = some (.slice (some ⟨b3, o3, none⟩) D.np c3) := (HK.out.1.below hR).rng 10 _ rfl
                            have hr : (Instr.loadAt 41 (.pointer (some ⟨G, 10, none⟩))).run Try.prog u = .ok (.slice (some ⟨b3, o3, none⟩) D.np c3) u := by go_simp
                            exact .inl ⟨rfl, .inl ⟨.slice (some ⟨b3, o3, none⟩) D.np c3, u, run_load_op rfl h0 hr, rfl, hR, Below.refl _ _⟩⟩
                          · -- 2
                            have s4 : ρ (.tmp 4) = .int .i64 (k : Int) := (hρ 4 (by kernel_rfl)).trans rfl
                            exact .inl ⟨rfl, .inl ⟨_, u, rfl, s4, hR, Below.refl _ _⟩⟩
                          · -- 3
                            have h1 : ρ (.tmp 54) = .slice (some ⟨b3, o3, none⟩) D.np c3 := hd ⟨1, .data⟩ (by simp) rfl 54 rfl
                            have h2 : ρ (.tmp 55) = .int .i64 (k : Int) := hd ⟨2, .data⟩ (by simp) rfl 55 rfl
                            exact .inl ⟨rfl, .inl ⟨.pointer (some ⟨b3, o3 + k * 8, none⟩), u, run_index_op rfl h1 h2 (by go_simp), rfl, hR, Below.refl _ _⟩⟩
                          · -- 4
                            have h3 : ρ (.tmp 56) = .pointer (some ⟨b3, o3 + k * 8, none⟩) := hd ⟨3, .data⟩ (by simp) rfl 56 rfl
                            have hr : (Instr.loadAt 60 (.pointer (some ⟨b3, o3 + k * 8, none⟩))).run Try.prog u = .ok (.agg (pL (D.pt k) p1 (D.pt k).q.ws.length k1 p2 (D.pt k).q.bs.length k2).toArray) u := run_loadAt_mid u b3 (o3 + k * 8) 60 (pL (D.pt k) p1 (D.pt k).q.ws.length k1 p2 (D.pt k).q.bs.length k2) _ (rangeAt_below HK.out.2.2.1 HK.out.2.1 hR) Try.underlying60 rfl (by kernel_rfl)
                            exact .inl ⟨rfl, .inl ⟨.agg (pL (D.pt k) p1 (D.pt k).q.ws.length k1 p2 (D.pt k).q.bs.length k2).toArray, u, run_load_op rfl h3 hr, rfl, hR, Below.refl _ _⟩⟩
                          · -- 5
                            have h4 : ρ (.tmp 57) = .agg (pL (D.pt k) p1 (D.pt k).q.ws.length k1 p2 (D.pt k).q.bs.length k2).toArray := hd ⟨4, .data⟩ (by simp) rfl 57 rfl
                            refine .inl ⟨rfl, .inr ⟨_, _, run_call_op rfl (hf _) (args := #[.agg (pL (D.pt k) p1 (D.pt k).q.ws.length k1 p2 (D.pt k).q.bs.length k2).toArray]) (by simp [h4]) (by kernel_rfl), ?_⟩⟩
                            refine (specPart_any (D.pt k) p1 k1 p2 k2 _ (HK.out.2.2.2.2.2.2.2.1.below hR) (HK.out.2.2.2.2.2.2.2.2.1.below hR) HK.out.2.2.2.2.2.2.2.2.2.2.2.1).mono ?_
                            rintro e u' ⟨he, b'⟩
                            exact ⟨_, he.trans (by rw [HK.out.2.2.2.2.2.2.2.2.2.2.2.2.2.1]), rfl, bel_nx hR b', b'⟩
                          · -- 6
                            have h5 : ρ (.tmp 58) = .bool true := hd ⟨5, .data⟩ (by simp) rfl 58 rfl
                            exact .inl ⟨rfl, .inl ⟨.bool false, u, run_un_op rfl h5 (by go_simp), rfl, hR, Below.refl _ _⟩⟩
                          · -- 7
                            have h6 : ρ (.tmp 59) = .bool false := hd ⟨6, .data⟩ (by simp) rfl 59 rfl
                            exact .inl ⟨rfl, .inl ⟨_, u, rfl, h6, hR, Below.refl _ _⟩⟩
                          · -- 8
                            have g7 : ρ (.tmp 60) = .bool false := hd ⟨7, .guard⟩ (by simp) rfl 60 rfl
                            have s1 : ρ (.tmp 1) = .pointer (some ⟨G, 0, none⟩) := (hρ 1 (by kernel_rfl)).trans rfl
                            exact .inl ⟨(by show (match ρ (.tmp 60) with | .bool b => b == false | _ => false) = true; rw [g7]; rfl), .inl ⟨.pointer (some ⟨G, 11, none⟩), u, run_field_op rfl s1 (by go_simp), rfl, hR, Below.refl _ _⟩⟩
                          · -- 9
                            have g7 : ρ (.tmp 60) = .bool false := hd ⟨7, .guard⟩ (by simp) rfl 60 rfl
                            have h8 : ρ (.tmp 61) = .pointer (some ⟨G, 11, none⟩) := hd ⟨8, .data⟩ (by simp) rfl 61 rfl
                            have y9 : u.cell? ⟨G, 11, none⟩ = some (.slice (some ⟨b4, o4, none⟩) D.hs.length c4) := (HK.out.1.below hR).rng 11 _ rfl
                            have hr : (Instr.loadAt 38 (.pointer (some ⟨G, 11, none⟩))).run Try.prog u = .ok (.slice (some ⟨b4, o4, none⟩) D.hs.length c4) u := by go_simp
                            exact .inl ⟨(by show (match ρ (.tmp 60) with | .bool b => b == false | _ => false) = true; rw [g7]; rfl), .inl ⟨.slice (some ⟨b4, o4, none⟩) D.hs.length c4, u, run_load_op rfl h8 hr, rfl, hR, Below.refl _ _⟩⟩
                          · -- 10
                            have g7 : ρ (.tmp 60) = .bool false := hd ⟨7, .guard⟩ (by simp) rfl 60 rfl
                            have s4 : ρ (.tmp 4) = .int .i64 (k : Int) := (hρ 4 (by kernel_rfl)).trans rfl
                            exact .inl ⟨(by show (match ρ (.tmp 60) with | .bool b => b == false | _ => false) = true; rw [g7]; rfl), .inl ⟨_, u, rfl, s4, hR, Below.refl _ _⟩⟩
                          · -- 11
                            have g7 : ρ (.tmp 60) = .bool false := hd ⟨7, .guard⟩ (by simp) rfl 60 rfl
                            have h9 : ρ (.tmp 62) = .slice (some ⟨b4, o4, none⟩) D.hs.length c4 := hd ⟨9, .data⟩ (by simp) rfl 62 rfl
                            have h10 : ρ (.tmp 63) = .int .i64 (k : Int) := hd ⟨10, .data⟩ (by simp) rfl 63 rfl
                            exact .inl ⟨(by show (match ρ (.tmp 60) with | .bool b => b == false | _ => false) = true; rw [g7]; rfl), .inl ⟨.pointer (some ⟨b4, o4 + k, none⟩), u, run_index_op rfl h9 h10 (by go_simp), rfl, hR, Below.refl _ _⟩⟩
                          · -- 12
                            have g7 : ρ (.tmp 60) = .bool false := hd ⟨7, .guard⟩ (by simp) rfl 60 rfl
                            have h11 : ρ (.tmp 64) = .pointer (some ⟨b4, o4 + k, none⟩) := hd ⟨11, .data⟩ (by simp) rfl 64 rfl
                            have y9 : u.cell? ⟨b4, o4 + k, none⟩ = some (.bool true) := (rangeAt_below HK.out.2.2.2.2.2.2.1 HK.out.2.2.2.2.2.1 hR) 0 _ rfl
                            have hr : (Instr.loadAt 4 (.pointer (some ⟨b4, o4 + k, none⟩))).run Try.prog u = .ok (.bool true) u := by go_simp
                            exact .inl ⟨(by show (match ρ (.tmp 60) with | .bool b => b == false | _ => false) = true; rw [g7]; rfl), .inl ⟨.bool true, u, run_load_op rfl h11 hr, rfl, hR, Below.refl _ _⟩⟩
                          · -- 13
                            have g7 : ρ (.tmp 60) = .bool false := hd ⟨7, .guard⟩ (by simp) rfl 60 rfl
                            have h12 : ρ (.tmp 65) = .bool true := hd ⟨12, .data⟩ (by simp) rfl 65 rfl
                            exact .inl ⟨(by show (match ρ (.tmp 60) with | .bool b => b == false | _ => false) = true; rw [g7]; rfl), .inl ⟨_, u, rfl, h12, hR, Below.refl _ _⟩⟩
                          · -- 14
                            have g13 : ρ (.tmp 66) = .bool true := hd ⟨13, .guard⟩ (by simp) rfl 66 rfl
                            have s1 : ρ (.tmp 1) = .pointer (some ⟨G, 0, none⟩) := (hρ 1 (by kernel_rfl)).trans rfl
                            exact .inl ⟨(by show (match ρ (.tmp 66) with | .bool b => b == true | _ => false) = true; rw [g13]; rfl), .inl ⟨.pointer (some ⟨G, 10, none⟩), u, run_field_op rfl s1 (by go_simp), rfl, hR, Below.refl _ _⟩⟩
                          · -- 15
                            have g13 : ρ (.tmp 66) = .bool true := hd ⟨13, .guard⟩ (by simp) rfl 66 rfl
                            have h14 : ρ (.tmp 67) = .pointer (some ⟨G, 10, none⟩) := hd ⟨14, .data⟩ (by simp) rfl 67 rfl
                            have y9 : u.cell? ⟨G, 10, none⟩ = some (.slice (some ⟨b3, o3, none⟩) D.np c3) := (HK.out.1.below hR).rng 10 _ rfl
                            have hr : (Instr.loadAt 41 (.pointer (some ⟨G, 10, none⟩))).run Try.prog u = .ok (.slice (some ⟨b3, o3, none⟩) D.np c3) u := by go_simp
                            exact .inl ⟨(by show (match ρ (.tmp 66) with | .bool b => b == true | _ => false) = true; rw [g13]; rfl), .inl ⟨.slice (some ⟨b3, o3, none⟩) D.np c3, u, run_load_op rfl h14 hr, rfl, hR, Below.refl _ _⟩⟩
                          · -- 16
                            have g13 : ρ (.tmp 66) = .bool true := hd ⟨13, .guard⟩ (by simp) rfl 66 rfl
                            have s4 : ρ (.tmp 4) = .int .i64 (k : Int) := (hρ 4 (by kernel_rfl)).trans rfl
                            exact .inl ⟨(by show (match ρ (.tmp 66) with | .bool b => b == true | _ => false) = true; rw [g13]; rfl), .inl ⟨_, u, rfl, s4, hR, Below.refl _ _⟩⟩
                          · -- 17
                            have g13 : ρ (.tmp 66) = .bool true := hd ⟨13, .guard⟩ (by simp) rfl 66 rfl
                            have h15 : ρ (.tmp 68) = .slice (some ⟨b3, o3, none⟩) D.np c3 := hd ⟨15, .data⟩ (by simp) rfl 68 rfl
                            have h16 : ρ (.tmp 69) = .int .i64 (k : Int) := hd ⟨16, .data⟩ (by simp) rfl 69 rfl
                            exact .inl ⟨(by show (match ρ (.tmp 66) with | .bool b => b == true | _ => false) = true; rw [g13]; rfl), .inl ⟨.pointer (some ⟨b3, o3 + k * 8, none⟩), u, run_index_op rfl h15 h16 (by go_simp), rfl, hR, Below.refl _ _⟩⟩
                          · -- 18
                            have g13 : ρ (.tmp 66) = .bool true := hd ⟨13, .guard⟩ (by simp) rfl 66 rfl
                            have h17 : ρ (.tmp 70) = .pointer (some ⟨b3, o3 + k * 8, none⟩) := hd ⟨17, .data⟩ (by simp) rfl 70 rfl
                            exact .inl ⟨(by show (match ρ (.tmp 66) with | .bool b => b == true | _ => false) = true; rw [g13]; rfl), .inl ⟨.pointer (some ⟨b3, o3 + k * 8 + 2, none⟩), u, run_field_op rfl h17 (by go_simp), rfl, hR, Below.refl _ _⟩⟩
                          · -- 19
                            have g13 : ρ (.tmp 66) = .bool true := hd ⟨13, .guard⟩ (by simp) rfl 66 rfl
                            have h18 : ρ (.tmp 71) = .pointer (some ⟨b3, o3 + k * 8 + 2, none⟩) := hd ⟨18, .data⟩ (by simp) rfl 71 rfl
                            have hr : (Instr.loadAt 40 (.pointer (some ⟨b3, o3 + k * 8 + 2, none⟩))).run Try.prog u = .ok (.agg ([.int .i64 (D.pt k).q.kd, .int .i64 (D.pt k).q.pl, .int .i64 (D.pt k).q.n, .slice p1 ((D.pt k).q.ws.length) k1, .slice p2 ((D.pt k).q.bs.length) k2, .int .i64 (D.pt k).q.wa]).toArray) u := run_loadAt_mid u b3 (o3 + k * 8 + 2) 40 ([.int .i64 (D.pt k).q.kd, .int .i64 (D.pt k).q.pl, .int .i64 (D.pt k).q.n, .slice p1 ((D.pt k).q.ws.length) k1, .slice p2 ((D.pt k).q.bs.length) k2, .int .i64 (D.pt k).q.wa]) _ (rangeAt_mid [.int .i64 (D.pt k).p, .int .i64 (D.pt k).t] [.int .i64 (D.pt k).q.kd, .int .i64 (D.pt k).q.pl, .int .i64 (D.pt k).q.n, .slice p1 ((D.pt k).q.ws.length) k1, .slice p2 ((D.pt k).q.bs.length) k2, .int .i64 (D.pt k).q.wa] [] (rangeAt_below HK.out.2.2.1 HK.out.2.1 hR) rfl) Try.underlying40 rfl (by kernel_rfl)
                            exact .inl ⟨(by show (match ρ (.tmp 66) with | .bool b => b == true | _ => false) = true; rw [g13]; rfl), .inl ⟨.agg ([.int .i64 (D.pt k).q.kd, .int .i64 (D.pt k).q.pl, .int .i64 (D.pt k).q.n, .slice p1 ((D.pt k).q.ws.length) k1, .slice p2 ((D.pt k).q.bs.length) k2, .int .i64 (D.pt k).q.wa]).toArray, u, run_load_op rfl h18 hr, rfl, hR, Below.refl _ _⟩⟩
                          · -- 20
                            have g13 : ρ (.tmp 66) = .bool true := hd ⟨13, .guard⟩ (by simp) rfl 66 rfl
                            have s1 : ρ (.tmp 1) = .pointer (some ⟨G, 0, none⟩) := (hρ 1 (by kernel_rfl)).trans rfl
                            exact .inl ⟨(by show (match ρ (.tmp 66) with | .bool b => b == true | _ => false) = true; rw [g13]; rfl), .inl ⟨.pointer (some ⟨G, 12, none⟩), u, run_field_op rfl s1 (by go_simp), rfl, hR, Below.refl _ _⟩⟩
                          · -- 21
                            have g13 : ρ (.tmp 66) = .bool true := hd ⟨13, .guard⟩ (by simp) rfl 66 rfl
                            have h20 : ρ (.tmp 73) = .pointer (some ⟨G, 12, none⟩) := hd ⟨20, .data⟩ (by simp) rfl 73 rfl
                            have y9 : u.cell? ⟨G, 12, none⟩ = some (.slice (some ⟨b5, o5, none⟩) D.nt c5) := (HK.out.1.below hR).rng 12 _ rfl
                            have hr : (Instr.loadAt 42 (.pointer (some ⟨G, 12, none⟩))).run Try.prog u = .ok (.slice (some ⟨b5, o5, none⟩) D.nt c5) u := by go_simp
                            exact .inl ⟨(by show (match ρ (.tmp 66) with | .bool b => b == true | _ => false) = true; rw [g13]; rfl), .inl ⟨.slice (some ⟨b5, o5, none⟩) D.nt c5, u, run_load_op rfl h20 hr, rfl, hR, Below.refl _ _⟩⟩
                          · -- 22
                            have g13 : ρ (.tmp 66) = .bool true := hd ⟨13, .guard⟩ (by simp) rfl 66 rfl
                            have s4 : ρ (.tmp 4) = .int .i64 (k : Int) := (hρ 4 (by kernel_rfl)).trans rfl
                            exact .inl ⟨(by show (match ρ (.tmp 66) with | .bool b => b == true | _ => false) = true; rw [g13]; rfl), .inl ⟨_, u, rfl, s4, hR, Below.refl _ _⟩⟩
                          · -- 23
                            have g13 : ρ (.tmp 66) = .bool true := hd ⟨13, .guard⟩ (by simp) rfl 66 rfl
                            have h21 : ρ (.tmp 74) = .slice (some ⟨b5, o5, none⟩) D.nt c5 := hd ⟨21, .data⟩ (by simp) rfl 74 rfl
                            have h22 : ρ (.tmp 75) = .int .i64 (k : Int) := hd ⟨22, .data⟩ (by simp) rfl 75 rfl
                            exact .inl ⟨(by show (match ρ (.tmp 66) with | .bool b => b == true | _ => false) = true; rw [g13]; rfl), .inl ⟨.pointer (some ⟨b5, o5 + k * 6, none⟩), u, run_index_op rfl h21 h22 (by go_simp), rfl, hR, Below.refl _ _⟩⟩
                          · -- 24
                            have g13 : ρ (.tmp 66) = .bool true := hd ⟨13, .guard⟩ (by simp) rfl 66 rfl
                            have h23 : ρ (.tmp 76) = .pointer (some ⟨b5, o5 + k * 6, none⟩) := hd ⟨23, .data⟩ (by simp) rfl 76 rfl
                            have hr : (Instr.loadAt 63 (.pointer (some ⟨b5, o5 + k * 6, none⟩))).run Try.prog u = .ok (.agg (aL (D.tl k) t1 (D.tl k).ws.length j1 t2 (D.tl k).bs.length j2).toArray) u := run_loadAt_mid u b5 (o5 + k * 6) 63 (aL (D.tl k) t1 (D.tl k).ws.length j1 t2 (D.tl k).bs.length j2) _ (rangeAt_below HK.out.2.2.2.2.1 HK.out.2.2.2.1 hR) Try.underlying63 rfl (by kernel_rfl)
                            exact .inl ⟨(by show (match ρ (.tmp 66) with | .bool b => b == true | _ => false) = true; rw [g13]; rfl), .inl ⟨.agg (aL (D.tl k) t1 (D.tl k).ws.length j1 t2 (D.tl k).bs.length j2).toArray, u, run_load_op rfl h23 hr, rfl, hR, Below.refl _ _⟩⟩
                          · -- 25
                            have g13 : ρ (.tmp 66) = .bool true := hd ⟨13, .guard⟩ (by simp) rfl 66 rfl
                            have h19 : ρ (.tmp 72) = .agg ([.int .i64 (D.pt k).q.kd, .int .i64 (D.pt k).q.pl, .int .i64 (D.pt k).q.n, .slice p1 ((D.pt k).q.ws.length) k1, .slice p2 ((D.pt k).q.bs.length) k2, .int .i64 (D.pt k).q.wa]).toArray := hd ⟨19, .data⟩ (by simp) rfl 72 rfl
                            have h24 : ρ (.tmp 77) = .agg (aL (D.tl k) t1 (D.tl k).ws.length j1 t2 (D.tl k).bs.length j2).toArray := hd ⟨24, .data⟩ (by simp) rfl 77 rfl
                            refine .inl ⟨(by show (match ρ (.tmp 66) with | .bool b => b == true | _ => false) = true; rw [g13]; rfl), .inr ⟨_, _, run_call_op rfl (hf _) (args := #[.agg ([.int .i64 (D.pt k).q.kd, .int .i64 (D.pt k).q.pl, .int .i64 (D.pt k).q.n, .slice p1 ((D.pt k).q.ws.length) k1, .slice p2 ((D.pt k).q.bs.length) k2, .int .i64 (D.pt k).q.wa]).toArray, .agg (aL (D.tl k) t1 (D.tl k).ws.length j1 t2 (D.tl k).bs.length j2).toArray]) (by simp [h19, h24]) (by kernel_rfl), ?_⟩⟩
                            refine (specSuQ (D.pt k).q (D.tl k) p1 _ k1 p2 _ k2 t1 _ j1 t2 _ j2 _ (HK.out.2.2.2.2.2.2.2.1.below hR) (HK.out.2.2.2.2.2.2.2.2.1.below hR) (HK.out.2.2.2.2.2.2.2.2.2.1.below hR) (HK.out.2.2.2.2.2.2.2.2.2.2.1.below hR) HK.out.2.2.2.2.2.2.2.2.2.2.2.1 HK.out.2.2.2.2.2.2.2.2.2.2.2.2.1).mono ?_
                            rintro e u' ⟨he, b'⟩
                            exact ⟨_, he.trans (by rw [HK.out.2.2.2.2.2.2.2.2.2.2.2.2.2.2]), rfl, bel_nx hR b', b'⟩
                          · -- 26
                            have g13 : ρ (.tmp 66) = .bool true := hd ⟨13, .guard⟩ (by simp) rfl 66 rfl
                            have h25 : ρ (.tmp 78) = .bool false := hd ⟨25, .data⟩ (by simp) rfl 78 rfl
                            exact .inl ⟨(by show (match ρ (.tmp 66) with | .bool b => b == true | _ => false) = true; rw [g13]; rfl), .inl ⟨.bool true, u, run_un_op rfl h25 (by go_simp), rfl, hR, Below.refl _ _⟩⟩
                          · -- 27
                            have g7 : ρ (.tmp 60) = .bool false := hd ⟨7, .guard⟩ (by simp) rfl 60 rfl
                            have h13 : ρ (.tmp 66) = .bool true := hd ⟨13, .data⟩ (by simp) rfl 66 rfl
                            have h26 : ρ (.tmp 79) = .bool true := hd ⟨26, .data⟩ (by simp) rfl 79 rfl
                            exact .inl ⟨(by show (match ρ (.tmp 60) with | .bool b => b == false | _ => false) = true; rw [g7]; rfl), .inl ⟨_, u, run_pick_op rfl h13, (by simpa using h26), hR, Below.refl _ _⟩⟩
                          · -- 28
                            have h7 : ρ (.tmp 60) = .bool false := hd ⟨7, .data⟩ (by simp) rfl 60 rfl
                            have h27 : ρ (.tmp 80) = .bool true := hd ⟨27, .data⟩ (by simp) rfl 80 rfl
                            exact .inl ⟨rfl, .inl ⟨_, u, run_pick_op rfl h7, (by simpa using h27), hR, Below.refl _ _⟩⟩
                          · -- 29
                            have h28 : ρ (.tmp 81) = .bool true := hd ⟨28, .data⟩ (by simp) rfl 81 rfl
                            exact .inl ⟨rfl, .inl ⟨_, u, rfl, h28, hR, Below.refl _ _⟩⟩
                          · -- 30
                            have g29 : ρ (.tmp 82) = .bool true := hd ⟨29, .guard⟩ (by simp) rfl 82 rfl
                            exact .inr ⟨(by show (match ρ (.tmp 82) with | .bool b => b == false | _ => false) = false; rw [g29]; rfl), rfl⟩
                          · -- 31
                            have g29 : ρ (.tmp 82) = .bool true := hd ⟨29, .guard⟩ (by simp) rfl 82 rfl
                            exact .inr ⟨(by show (match ρ (.tmp 82) with | .bool b => b == false | _ => false) = false; rw [g29]; rfl), rfl⟩
                          · -- 32
                            have g29 : ρ (.tmp 82) = .bool true := hd ⟨29, .guard⟩ (by simp) rfl 82 rfl
                            exact .inr ⟨(by show (match ρ (.tmp 82) with | .bool b => b == false | _ => false) = false; rw [g29]; rfl), rfl⟩
                          · -- 33
                            have g29 : ρ (.tmp 82) = .bool true := hd ⟨29, .guard⟩ (by simp) rfl 82 rfl
                            exact .inr ⟨(by show (match ρ (.tmp 82) with | .bool b => b == false | _ => false) = false; rw [g29]; rfl), rfl⟩
                          · -- 34
                            have g29 : ρ (.tmp 82) = .bool true := hd ⟨29, .guard⟩ (by simp) rfl 82 rfl
                            exact .inr ⟨(by show (match ρ (.tmp 82) with | .bool b => b == false | _ => false) = false; rw [g29]; rfl), rfl⟩
                          · -- 35
                            have g29 : ρ (.tmp 82) = .bool true := hd ⟨29, .guard⟩ (by simp) rfl 82 rfl
                            exact .inr ⟨(by show (match ρ (.tmp 82) with | .bool b => b == false | _ => false) = false; rw [g29]; rfl), rfl⟩
                          · -- 36
                            have g29 : ρ (.tmp 82) = .bool true := hd ⟨29, .guard⟩ (by simp) rfl 82 rfl
                            exact .inr ⟨(by show (match ρ (.tmp 82) with | .bool b => b == false | _ => false) = false; rw [g29]; rfl), rfl⟩
                          · -- 37
                            have g36 : ρ (.tmp 89) = undef := hd ⟨36, .guard⟩ (by simp) rfl 89 rfl
                            exact .inr ⟨(by show (match ρ (.tmp 89) with | .bool b => b == true | _ => false) = false; rw [g36]; rfl), rfl⟩
                          · -- 38
                            have g36 : ρ (.tmp 89) = undef := hd ⟨36, .guard⟩ (by simp) rfl 89 rfl
                            exact .inr ⟨(by show (match ρ (.tmp 89) with | .bool b => b == true | _ => false) = false; rw [g36]; rfl), rfl⟩
                          · -- 39
                            have g36 : ρ (.tmp 89) = undef := hd ⟨36, .guard⟩ (by simp) rfl 89 rfl
                            exact .inr ⟨(by show (match ρ (.tmp 89) with | .bool b => b == true | _ => false) = false; rw [g36]; rfl), rfl⟩
                          · -- 40
                            have g36 : ρ (.tmp 89) = undef := hd ⟨36, .guard⟩ (by simp) rfl 89 rfl
                            exact .inr ⟨(by show (match ρ (.tmp 89) with | .bool b => b == true | _ => false) = false; rw [g36]; rfl), rfl⟩
                          · -- 41
                            have g36 : ρ (.tmp 89) = undef := hd ⟨36, .guard⟩ (by simp) rfl 89 rfl
                            exact .inr ⟨(by show (match ρ (.tmp 89) with | .bool b => b == true | _ => false) = false; rw [g36]; rfl), rfl⟩
                          · -- 42
                            have g36 : ρ (.tmp 89) = undef := hd ⟨36, .guard⟩ (by simp) rfl 89 rfl
                            exact .inr ⟨(by show (match ρ (.tmp 89) with | .bool b => b == true | _ => false) = false; rw [g36]; rfl), rfl⟩
                          · -- 43
                            have g36 : ρ (.tmp 89) = undef := hd ⟨36, .guard⟩ (by simp) rfl 89 rfl
                            exact .inr ⟨(by show (match ρ (.tmp 89) with | .bool b => b == true | _ => false) = false; rw [g36]; rfl), rfl⟩
                          · -- 44
                            have g29 : ρ (.tmp 82) = .bool true := hd ⟨29, .guard⟩ (by simp) rfl 82 rfl
                            exact .inr ⟨(by show (match ρ (.tmp 82) with | .bool b => b == false | _ => false) = false; rw [g29]; rfl), rfl⟩
                          · -- 45
                            have h29 : ρ (.tmp 82) = .bool true := hd ⟨29, .data⟩ (by simp) rfl 82 rfl
                            exact .inl ⟨rfl, .inl ⟨_, u, run_pick_op rfl h29, (by simpa using hc _), hR, Below.refl _ _⟩⟩
                      | true =>
                        refine wp_region_any (by kernel_rfl) ?_
                        refine wpAny_vals (fun u => Below wr.heap.size wr u) (fun i v u => match i with
                          | 0 => v = .pointer (some ⟨G, 10, none⟩)
                          | 1 => v = .slice (some ⟨b3, o3, none⟩) D.np c3
                          | 2 => v = .int .i64 (k : Int)
                          | 3 => v = .pointer (some ⟨b3, o3 + k * 8, none⟩)
                          | 4 => v = .agg (pL (D.pt k) p1 (D.pt k).q.ws.length k1 p2 (D.pt k).q.bs.length k2).toArray
                          | 5 => v = .bool true
                          | 6 => v = .bool false
                          | 7 => v = .bool false
                          | 8 => v = .pointer (some ⟨G, 11, none⟩)
                          | 9 => v = .slice (some ⟨b4, o4, none⟩) D.hs.length c4
                          | 10 => v = .int .i64 (k : Int)
                          | 11 => v = .pointer (some ⟨b4, o4 + k, none⟩)
                          | 12 => v = .bool true
                          | 13 => v = .bool true
                          | 14 => v = .pointer (some ⟨G, 10, none⟩)
                          | 15 => v = .slice (some ⟨b3, o3, none⟩) D.np c3
                          | 16 => v = .int .i64 (k : Int)
                          | 17 => v = .pointer (some ⟨b3, o3 + k * 8, none⟩)
                          | 18 => v = .pointer (some ⟨b3, o3 + k * 8 + 2, none⟩)
                          | 19 => v = .agg ([.int .i64 (D.pt k).q.kd, .int .i64 (D.pt k).q.pl, .int .i64 (D.pt k).q.n, .slice p1 ((D.pt k).q.ws.length) k1, .slice p2 ((D.pt k).q.bs.length) k2, .int .i64 (D.pt k).q.wa]).toArray
                          | 20 => v = .pointer (some ⟨G, 12, none⟩)
                          | 21 => v = .slice (some ⟨b5, o5, none⟩) D.nt c5
                          | 22 => v = .int .i64 (k : Int)
                          | 23 => v = .pointer (some ⟨b5, o5 + k * 6, none⟩)
                          | 24 => v = .agg (aL (D.tl k) t1 (D.tl k).ws.length j1 t2 (D.tl k).bs.length j2).toArray
                          | 25 => v = .bool true
                          | 26 => v = .bool false
                          | 27 => v = .bool false
                          | 28 => v = .bool false
                          | 29 => v = .bool false
                          | 30 => v = .pointer (some ⟨G, 11, none⟩)
                          | 31 => v = .slice (some ⟨b4, o4, none⟩) D.hs.length c4
                          | 32 => v = .int .i64 (k : Int)
                          | 33 => v = .pointer (some ⟨b4, o4 + k, none⟩)
                          | 34 => v = .bool true
                          | 35 => v = .bool false
                          | 36 => v = .bool false
                          | 37 => v = undef
                          | 38 => v = undef
                          | 39 => v = undef
                          | 40 => v = undef
                          | 41 => v = undef
                          | 42 => v = undef
                          | 43 => v = undef
                          | 44 => v = .bool false
                          | 45 => v = .bool false
                          | _ => True) (by kernel_rfl) (by kernel_rfl) (fun _ _ _ _ h _ => h) (by first | exact Below.refl _ _ | exact (Below.refl _ _).drew) ?_ ?_ _ _ rfl (by decide) (fun i => by simp [Array.getD]; try (split <;> rfl))
                        · intro vs u hR hall
                          have e45 : vs 45 = .bool false := hall 45 (by simp)
                          simp only [putsL]
                          rw [e45]
                          clear hall e45
                          have HF : Hid (allN (fun i => okPt (D.pt i)) (k + 1) = true ∧ allN (tdB D) (k + 1) = true ∧ allN (fun i => D.hs.getD i false) (k + 1) = (al && true) ∧ Below w1.heap.size w1 u) := ⟨allN_succ HA.out.1 HA.out.2.2.1, allN_succ HA.out.2.1 HA.out.2.2.2.1, by show (allN (fun i => D.hs.getD i false) k && D.hs.getD k false) = _; rw [HL.out, HA.out.2.2.2.2.1], bel_nx HA.out.2.2.2.2.2 hR⟩
                          obtain ⟨⟨y0, y1, y2, y3, y4, y5, y6, y7, y8, y9, y10, y11, y12⟩, yf⟩ := (HK.out.1.below hR).tc13
                          clear yf
                          have d0 : u.cell? ⟨b4, o4 + k, none⟩ = some (.bool true) := (rangeAt_below HK.out.2.2.2.2.2.2.1 HK.out.2.2.2.2.2.1 hR) 0 _ rfl
                          clear HK HA hR
                          go_simp
                          cases al with
                          | false =>
                            go_wp2
                            go_roundw
                            case rel => exact ⟨k + 1, by omega, by go_num, by rw [HF.out.2.2.1]; rfl, HF.out.1, HF.out.2.1, HF.out.2.2.2⟩
                            case measure => simp [intOf]; omega
                          | true =>
                            go_wp2
                            go_roundw
                            case rel => exact ⟨k + 1, by omega, by go_num, by rw [HF.out.2.2.1]; rfl, HF.out.1, HF.out.2.1, HF.out.2.2.2⟩
                            case measure => simp [intOf]; omega
                        · intro u i o ρ hR ho hρ hc hf hd
                          have hi : i < 46 := by
                            have := (Array.getElem?_eq_some_iff.1 ho).1
                            simpa using this
                          obtain rfl | rfl | rfl | rfl | rfl | rfl | rfl | rfl | rfl | rfl | rfl | rfl | rfl | rfl | rfl | rfl | rfl | rfl | rfl | rfl | rfl | rfl | rfl | rfl | rfl | rfl | rfl | rfl | rfl | rfl | rfl | rfl | rfl | rfl | rfl | rfl | rfl | rfl | rfl | rfl | rfl | rfl | rfl | rfl | rfl | rfl : i = 0 ∨ i = 1 ∨ i = 2 ∨ i = 3 ∨ i = 4 ∨ i = 5 ∨ i = 6 ∨ i = 7 ∨ i = 8 ∨ i = 9 ∨ i = 10 ∨ i = 11 ∨ i = 12 ∨ i = 13 ∨ i = 14 ∨ i = 15 ∨ i = 16 ∨ i = 17 ∨ i = 18 ∨ i = 19 ∨ i = 20 ∨ i = 21 ∨ i = 22 ∨ i = 23 ∨ i = 24 ∨ i = 25 ∨ i = 26 ∨ i = 27 ∨ i = 28 ∨ i = 29 ∨ i = 30 ∨ i = 31 ∨ i = 32 ∨ i = 33 ∨ i = 34 ∨ i = 35 ∨ i = 36 ∨ i = 37 ∨ i = 38 ∨ i = 39 ∨ i = 40 ∨ i = 41 ∨ i = 42 ∨ i = 43 ∨ i = 44 ∨ i = 45 := by omega
                          all_goals (simp only [List.getElem?_toArray, List.getElem?_cons_zero, List.getElem?_cons_succ, Option.some.injEq] at ho; subst ho)
                          · -- 0
                            have s1 : ρ (.tmp 1) = .pointer (some ⟨G, 0, none⟩) := (hρ 1 (by kernel_rfl)).trans rfl
                            exact .inl ⟨rfl, .inl ⟨.pointer (some ⟨G, 10, none⟩), u, run_field_op rfl s1 (by go_simp), rfl, hR, Below.refl _ _⟩⟩
                          · -- 1
                            have h0 : ρ (.tmp 53) = .pointer (some ⟨G, 10, none⟩) := hd ⟨0, .data⟩ (by simp) rfl 53 rfl
                            have y9 : u.cell? ⟨G, 10, none⟩ = some (.slice (some ⟨b3, o3, none⟩) D.np c3) := (HK.out.1.below hR).rng 10 _ rfl
                            have hr : (Instr.loadAt 41 (.pointer (some ⟨G, 10, none⟩))).run Try.prog u = .ok (.slice (some ⟨b3, o3, none⟩) D.np c3) u := by go_simp
                            exact .inl ⟨rfl, .inl ⟨.slice (some ⟨b3, o3, none⟩) D.np c3, u, run_load_op rfl h0 hr, rfl, hR, Below.refl _ _⟩⟩
                          · -- 2
                            have s4 : ρ (.tmp 4) = .int .i64 (k : Int) := (hρ 4 (by kernel_rfl)).trans rfl
                            exact .inl ⟨rfl, .inl ⟨_, u, rfl, s4, hR, Below.refl _ _⟩⟩
                          · -- 3
                            have h1 : ρ (.tmp 54) = .slice (some ⟨b3, o3, none⟩) D.np c3 := hd ⟨1, .data⟩ (by simp) rfl 54 rfl
                            have h2 : ρ (.tmp 55) = .int .i64 (k : Int) := hd ⟨2, .data⟩ (by simp) rfl 55 rfl
                            exact .inl ⟨rfl, .inl ⟨.pointer (some ⟨b3, o3 + k * 8, none⟩), u, run_index_op rfl h1 h2 (by go_simp), rfl, hR, Below.refl _ _⟩⟩
                          · -- 4
                            have h3 : ρ (.tmp 56) = .pointer (some ⟨b3, o3 + k * 8, none⟩) := hd ⟨3, .data⟩ (by simp) rfl 56 rfl
                            have hr : (Instr.loadAt 60 (.pointer (some ⟨b3, o3 + k * 8, none⟩))).run Try.prog u = .ok (.agg (pL (D.pt k) p1 (D.pt k).q.ws.length k1 p2 (D.pt k).q.bs.length k2).toArray) u := run_loadAt_mid u b3 (o3 + k * 8) 60 (pL (D.pt k) p1 (D.pt k).q.ws.length k1 p2 (D.pt k).q.bs.length k2) _ (rangeAt_below HK.out.2.2.1 HK.out.2.1 hR) Try.underlying60 rfl (by kernel_rfl)
                            exact .inl ⟨rfl, .inl ⟨.agg (pL (D.pt k) p1 (D.pt k).q.ws.length k1 p2 (D.pt k).q.bs.length k2).toArray, u, run_load_op rfl h3 hr, rfl, hR, Below.refl _ _⟩⟩
                          · -- 5
                            have h4 : ρ (.tmp 57) = .agg (pL (D.pt k) p1 (D.pt k).q.ws.length k1 p2 (D.pt k).q.bs.length k2).toArray := hd ⟨4, .data⟩ (by simp) rfl 57 rfl
                            refine .inl ⟨rfl, .inr ⟨_, _, run_call_op rfl (hf _) (args := #[.agg (pL (D.pt k) p1 (D.pt k).q.ws.length k1 p2 (D.pt k).q.bs.length k2).toArray]) (by simp [h4]) (by kernel_rfl), ?_⟩⟩
                            refine (specPart_any (D.pt k) p1 k1 p2 k2 _ (HK.out.2.2.2.2.2.2.2.1.below hR) (HK.out.2.2.2.2.2.2.2.2.1.below hR) HK.out.2.2.2.2.2.2.2.2.2.2.2.1).mono ?_
                            rintro e u' ⟨he, b'⟩
                            exact ⟨_, he.trans (by rw [HK.out.2.2.2.2.2.2.2.2.2.2.2.2.2.1]), rfl, bel_nx hR b', b'⟩
                          · -- 6
                            have h5 : ρ (.tmp 58) = .bool true := hd ⟨5, .data⟩ (by simp) rfl 58 rfl
                            exact .inl ⟨rfl, .inl ⟨.bool false, u, run_un_op rfl h5 (by go_simp), rfl, hR, Below.refl _ _⟩⟩
                          · -- 7
                            have h6 : ρ (.tmp 59) = .bool false := hd ⟨6, .data⟩ (by simp) rfl 59 rfl
                            exact .inl ⟨rfl, .inl ⟨_, u, rfl, h6, hR, Below.refl _ _⟩⟩
                          · -- 8
                            have g7 : ρ (.tmp 60) = .bool false := hd ⟨7, .guard⟩ (by simp) rfl 60 rfl
                            have s1 : ρ (.tmp 1) = .pointer (some ⟨G, 0, none⟩) := (hρ 1 (by kernel_rfl)).trans rfl
                            exact .inl ⟨(by show (match ρ (.tmp 60) with | .bool b => b == false | _ => false) = true; rw [g7]; rfl), .inl ⟨.pointer (some ⟨G, 11, none⟩), u, run_field_op rfl s1 (by go_simp), rfl, hR, Below.refl _ _⟩⟩
                          · -- 9
                            have g7 : ρ (.tmp 60) = .bool false := hd ⟨7, .guard⟩ (by simp) rfl 60 rfl
                            have h8 : ρ (.tmp 61) = .pointer (some ⟨G, 11, none⟩) := hd ⟨8, .data⟩ (by simp) rfl 61 rfl
                            have y9 : u.cell? ⟨G, 11, none⟩ = some (.slice (some ⟨b4, o4, none⟩) D.hs.length c4) := (HK.out.1.below hR).rng 11 _ rfl
                            have hr : (Instr.loadAt 38 (.pointer (some ⟨G, 11, none⟩))).run Try.prog u = .ok (.slice (some ⟨b4, o4, none⟩) D.hs.length c4) u := by go_simp
                            exact .inl ⟨(by show (match ρ (.tmp 60) with | .bool b => b == false | _ => false) = true; rw [g7]; rfl), .inl ⟨.slice (some ⟨b4, o4, none⟩) D.hs.length c4, u, run_load_op rfl h8 hr, rfl, hR, Below.refl _ _⟩⟩
                          · -- 10
                            have g7 : ρ (.tmp 60) = .bool false := hd ⟨7, .guard⟩ (by simp) rfl 60 rfl
                            have s4 : ρ (.tmp 4) = .int .i64 (k : Int) := (hρ 4 (by kernel_rfl)).trans rfl
                            exact .inl ⟨(by show (match ρ (.tmp 60) with | .bool b => b == false | _ => false) = true; rw [g7]; rfl), .inl ⟨_, u, rfl, s4, hR, Below.refl _ _⟩⟩
                          · -- 11
                            have g7 : ρ (.tmp 60) = .bool false := hd ⟨7, .guard⟩ (by simp) rfl 60 rfl
                            have h9 : ρ (.tmp 62) = .slice (some ⟨b4, o4, none⟩) D.hs.length c4 := hd ⟨9, .data⟩ (by simp) rfl 62 rfl
                            have h10 : ρ (.tmp 63) = .int .i64 (k : Int) := hd ⟨10, .data⟩ (by simp) rfl 63 rfl
                            exact .inl ⟨(by show (match ρ (.tmp 60) with | .bool b => b == false | _ => false) = true; rw [g7]; rfl), .inl ⟨.pointer (some ⟨b4, o4 + k, none⟩), u, run_index_op rfl h9 h10 (by go_simp), rfl, hR, Below.refl _ _⟩⟩
                          · -- 12
                            have g7 : ρ (.tmp 60) = .bool false := hd ⟨7, .guard⟩ (by simp) rfl 60 rfl
                            have h11 : ρ (.tmp 64) = .pointer (some ⟨b4, o4 + k, none⟩) := hd ⟨11, .data⟩ (by simp) rfl 64 rfl
                            have y9 : u.cell? ⟨b4, o4 + k, none⟩ = some (.bool true) := (rangeAt_below HK.out.2.2.2.2.2.2.1 HK.out.2.2.2.2.2.1 hR) 0 _ rfl
                            have hr : (Instr.loadAt 4 (.pointer (some ⟨b4, o4 + k, none⟩))).run Try.prog u = .ok (.bool true) u := by go_simp
                            exact .inl ⟨(by show (match ρ (.tmp 60) with | .bool b => b == false | _ => false) = true; rw [g7]; rfl), .inl ⟨.bool true, u, run_load_op rfl h11 hr, rfl, hR, Below.refl _ _⟩⟩
                          · -- 13
                            have g7 : ρ (.tmp 60) = .bool false := hd ⟨7, .guard⟩ (by simp) rfl 60 rfl
                            have h12 : ρ (.tmp 65) = .bool true := hd ⟨12, .data⟩ (by simp) rfl 65 rfl
                            exact .inl ⟨(by show (match ρ (.tmp 60) with | .bool b => b == false | _ => false) = true; rw [g7]; rfl), .inl ⟨_, u, rfl, h12, hR, Below.refl _ _⟩⟩
                          · -- 14
                            have g13 : ρ (.tmp 66) = .bool true := hd ⟨13, .guard⟩ (by simp) rfl 66 rfl
                            have s1 : ρ (.tmp 1) = .pointer (some ⟨G, 0, none⟩) := (hρ 1 (by kernel_rfl)).trans rfl
                            exact .inl ⟨(by show (match ρ (.tmp 66) with | .bool b => b == true | _ => false) = true; rw [g13]; rfl), .inl ⟨.pointer (some ⟨G, 10, none⟩), u, run_field_op rfl s1 (by go_simp), rfl, hR, Below.refl _ _⟩⟩
                          · -- 15
                            have g13 : ρ (.tmp 66) = .bool true := hd ⟨13, .guard⟩ (by simp) rfl 66 rfl
                            have h14 : ρ (.tmp 67) = .pointer (some ⟨G, 10, none⟩) := hd ⟨14, .data⟩ (by simp) rfl 67 rfl
                            have y9 : u.cell? ⟨G, 10, none⟩ = some (.slice (some ⟨b3, o3, none⟩) D.np c3) := (HK.out.1.below hR).rng 10 _ rfl
                            have hr : (Instr.loadAt 41 (.pointer (some ⟨G, 10, none⟩))).run Try.prog u = .ok (.slice (some ⟨b3, o3, none⟩) D.np c3) u := by go_simp
                            exact .inl ⟨(by show (match ρ (.tmp 66) with | .bool b => b == true | _ => false) = true; rw [g13]; rfl), .inl ⟨.slice (some ⟨b3, o3, none⟩) D.np c3, u, run_load_op rfl h14 hr, rfl, hR, Below.refl _ _⟩⟩
                          · -- 16
                            have g13 : ρ (.tmp 66) = .bool true := hd ⟨13, .guard⟩ (by simp) rfl 66 rfl
                            have s4 : ρ (.tmp 4) = .int .i64 (k : Int) := (hρ 4 (by kernel_rfl)).trans rfl
                            exact .inl ⟨(by show (match ρ (.tmp 66) with | .bool b => b == true | _ => false) = true; rw [g13]; rfl), .inl ⟨_, u, rfl, s4, hR, Below.refl _ _⟩⟩
                          · -- 17
                            have g13 : ρ (.tmp 66) = .bool true := hd ⟨13, .guard⟩ (by simp) rfl 66 rfl
                            have h15 : ρ (.tmp 68) = .slice (some ⟨b3, o3, none⟩) D.np c3 := hd ⟨15, .data⟩ (by simp) rfl 68 rfl
                            have h16 : ρ (.tmp 69) = .int .i64 (k : Int) := hd ⟨16, .data⟩ (by simp) rfl 69 rfl
                            exact .inl ⟨(by show (match ρ (.tmp 66) with | .bool b => b == true | _ => false) = true; rw [g13]; rfl), .inl ⟨.pointer (some ⟨b3, o3 + k * 8, none⟩), u, run_index_op rfl h15 h16 (by go_simp), rfl, hR, Below.refl _ _⟩⟩
                          · -- 18
                            have g13 : ρ (.tmp 66) = .bool true := hd ⟨13, .guard⟩ (by simp) rfl 66 rfl
                            have h17 : ρ (.tmp 70) = .pointer (some ⟨b3, o3 + k * 8, none⟩) := hd ⟨17, .data⟩ (by simp) rfl 70 rfl
                            exact .inl ⟨(by show (match ρ (.tmp 66) with | .bool b => b == true | _ => false) = true; rw [g13]; rfl), .inl ⟨.pointer (some ⟨b3, o3 + k * 8 + 2, none⟩), u, run_field_op rfl h17 (by go_simp), rfl, hR, Below.refl _ _⟩⟩
                          · -- 19
                            have g13 : ρ (.tmp 66) = .bool true := hd ⟨13, .guard⟩ (by simp) rfl 66 rfl
                            have h18 : ρ (.tmp 71) = .pointer (some ⟨b3, o3 + k * 8 + 2, none⟩) := hd ⟨18, .data⟩ (by simp) rfl 71 rfl
                            have hr : (Instr.loadAt 40 (.pointer (some ⟨b3, o3 + k * 8 + 2, none⟩))).run Try.prog u = .ok (.agg ([.int .i64 (D.pt k).q.kd, .int .i64 (D.pt k).q.pl, .int .i64 (D.pt k).q.n, .slice p1 ((D.pt k).q.ws.length) k1, .slice p2 ((D.pt k).q.bs.length) k2, .int .i64 (D.pt k).q.wa]).toArray) u := run_loadAt_mid u b3 (o3 + k * 8 + 2) 40 ([.int .i64 (D.pt k).q.kd, .int .i64 (D.pt k).q.pl, .int .i64 (D.pt k).q.n, .slice p1 ((D.pt k).q.ws.length) k1, .slice p2 ((D.pt k).q.bs.length) k2, .int .i64 (D.pt k).q.wa]) _ (rangeAt_mid [.int .i64 (D.pt k).p, .int .i64 (D.pt k).t] [.int .i64 (D.pt k).q.kd, .int .i64 (D.pt k).q.pl, .int .i64 (D.pt k).q.n, .slice p1 ((D.pt k).q.ws.length) k1, .slice p2 ((D.pt k).q.bs.length) k2, .int .i64 (D.pt k).q.wa] [] (rangeAt_below HK.out.2.2.1 HK.out.2.1 hR) rfl) Try.underlying40 rfl (by kernel_rfl)
                            exact .inl ⟨(by show (match ρ (.tmp 66) with | .bool b => b == true | _ => false) = true; rw [g13]; rfl), .inl ⟨.agg ([.int .i64 (D.pt k).q.kd, .int .i64 (D.pt k).q.pl, .int .i64 (D.pt k).q.n, .slice p1 ((D.pt k).q.ws.length) k1, .slice p2 ((D.pt k).q.bs.length) k2, .int .i64 (D.pt k).q.wa]).toArray, u, run_load_op rfl h18 hr, rfl, hR, Below.refl _ _⟩⟩
                          · -- 20
                            have g13 : ρ (.tmp 66) = .bool true := hd ⟨13, .guard⟩ (by simp) rfl 66 rfl
                            have s1 : ρ (.tmp 1) = .pointer (some ⟨G, 0, none⟩) := (hρ 1 (by kernel_rfl)).trans rfl
                            exact .inl ⟨(by show (match ρ (.tmp 66) with | .bool b => b == true | _ => false) = true; rw [g13]; rfl), .inl ⟨.pointer (some ⟨G, 12, none⟩), u, run_field_op rfl s1 (by go_simp), rfl, hR, Below.refl _ _⟩⟩
                          · -- 21
                            have g13 : ρ (.tmp 66) = .bool true := hd ⟨13, .guard⟩ (by simp) rfl 66 rfl
                            have h20 : ρ (.tmp 73) = .pointer (some ⟨G, 12, none⟩) := hd ⟨20, .data⟩ (by simp) rfl 73 rfl
                            have y9 : u.cell? ⟨G, 12, none⟩ = some (.slice (some ⟨b5, o5, none⟩) D.nt c5) := (HK.out.1.below hR).rng 12 _ rfl
                            have hr : (Instr.loadAt 42 (.pointer (some ⟨G, 12, none⟩))).run Try.prog u = .ok (.slice (some ⟨b5, o5, none⟩) D.nt c5) u := by go_simp
                            exact .inl ⟨(by show (match ρ (.tmp 66) with | .bool b => b == true | _ => false) = true; rw [g13]; rfl), .inl ⟨.slice (some ⟨b5, o5, none⟩) D.nt c5, u, run_load_op rfl h20 hr, rfl, hR, Below.refl _ _⟩⟩
                          · -- 22
                            have g13 : ρ (.tmp 66) = .bool true := hd ⟨13, .guard⟩ (by simp) rfl 66 rfl
                            have s4 : ρ (.tmp 4) = .int .i64 (k : Int) := (hρ 4 (by kernel_rfl)).trans rfl
                            exact .inl ⟨(by show (match ρ (.tmp 66) with | .bool b => b == true | _ => false) = true; rw [g13]; rfl), .inl ⟨_, u, rfl, s4, hR, Below.refl _ _⟩⟩
                          · -- 23
                            have g13 : ρ (.tmp 66) = .bool true := hd ⟨13, .guard⟩ (by simp) rfl 66 rfl
                            have h21 : ρ (.tmp 74) = .slice (some ⟨b5, o5, none⟩) D.nt c5 := hd ⟨21, .data⟩ (by simp) rfl 74 rfl
                            have h22 : ρ (.tmp 75) = .int .i64 (k : Int) := hd ⟨22, .data⟩ (by simp) rfl 75 rfl
                            exact .inl ⟨(by show (match ρ (.tmp 66) with | .bool b => b == true | _ => false) = true; rw [g13]; rfl), .inl ⟨.pointer (some ⟨b5, o5 + k * 6, none⟩), u, run_index_op rfl h21 h22 (by go_simp), rfl, hR, Below.refl _ _⟩⟩
                          · -- 24
                            have g13 : ρ (.tmp 66) = .bool true := hd ⟨13, .guard⟩ (by simp) rfl 66 rfl
                            have h23 : ρ (.tmp 76) = .pointer (some ⟨b5, o5 + k * 6, none⟩) := hd ⟨23, .data⟩ (by simp) rfl 76 rfl
                            have hr : (Instr.loadAt 63 (.pointer (some ⟨b5, o5 + k * 6, none⟩))).run Try.prog u = .ok (.agg (aL (D.tl k) t1 (D.tl k).ws.length j1 t2 (D.tl k).bs.length j2).toArray) u := run_loadAt_mid u b5 (o5 + k * 6) 63 (aL (D.tl k) t1 (D.tl k).ws.length j1 t2 (D.tl k).bs.length j2) _ (rangeAt_below HK.out.2.2.2.2.1 HK.out.2.2.2.1 hR) Try.underlying63 rfl (by kernel_rfl)
                            exact .inl ⟨(by show (match ρ (.tmp 66) with | .bool b => b == true | _ => false) = true; rw [g13]; rfl), .inl ⟨.agg (aL (D.tl k) t1 (D.tl k).ws.length j1 t2 (D.tl k).bs.length j2).toArray, u, run_load_op rfl h23 hr, rfl, hR, Below.refl _ _⟩⟩
                          · -- 25
                            have g13 : ρ (.tmp 66) = .bool true := hd ⟨13, .guard⟩ (by simp) rfl 66 rfl
                            have h19 : ρ (.tmp 72) = .agg ([.int .i64 (D.pt k).q.kd, .int .i64 (D.pt k).q.pl, .int .i64 (D.pt k).q.n, .slice p1 ((D.pt k).q.ws.length) k1, .slice p2 ((D.pt k).q.bs.length) k2, .int .i64 (D.pt k).q.wa]).toArray := hd ⟨19, .data⟩ (by simp) rfl 72 rfl
                            have h24 : ρ (.tmp 77) = .agg (aL (D.tl k) t1 (D.tl k).ws.length j1 t2 (D.tl k).bs.length j2).toArray := hd ⟨24, .data⟩ (by simp) rfl 77 rfl
                            refine .inl ⟨(by show (match ρ (.tmp 66) with | .bool b => b == true | _ => false) = true; rw [g13]; rfl), .inr ⟨_, _, run_call_op rfl (hf _) (args := #[.agg ([.int .i64 (D.pt k).q.kd, .int .i64 (D.pt k).q.pl, .int .i64 (D.pt k).q.n, .slice p1 ((D.pt k).q.ws.length) k1, .slice p2 ((D.pt k).q.bs.length) k2, .int .i64 (D.pt k).q.wa]).toArray, .agg (aL (D.tl k) t1 (D.tl k).ws.length j1 t2 (D.tl k).bs.length j2).toArray]) (by simp [h19, h24]) (by kernel_rfl), ?_⟩⟩
                            refine (specSuQ (D.pt k).q (D.tl k) p1 _ k1 p2 _ k2 t1 _ j1 t2 _ j2 _ (HK.out.2.2.2.2.2.2.2.1.below hR) (HK.out.2.2.2.2.2.2.2.2.1.below hR) (HK.out.2.2.2.2.2.2.2.2.2.1.below hR) (HK.out.2.2.2.2.2.2.2.2.2.2.1.below hR) HK.out.2.2.2.2.2.2.2.2.2.2.2.1 HK.out.2.2.2.2.2.2.2.2.2.2.2.2.1).mono ?_
                            rintro e u' ⟨he, b'⟩
                            exact ⟨_, he.trans (by rw [HK.out.2.2.2.2.2.2.2.2.2.2.2.2.2.2]), rfl, bel_nx hR b', b'⟩
                          · -- 26
                            have g13 : ρ (.tmp 66) = .bool true := hd ⟨13, .guard⟩ (by simp) rfl 66 rfl
                            have h25 : ρ (.tmp 78) = .bool true := hd ⟨25, .data⟩ (by simp) rfl 78 rfl
                            exact .inl ⟨(by show (match ρ (.tmp 66) with | .bool b => b == true | _ => false) = true; rw [g13]; rfl), .inl ⟨.bool false, u, run_un_op rfl h25 (by go_simp), rfl, hR, Below.refl _ _⟩⟩
                          · -- 27
                            have g7 : ρ (.tmp 60) = .bool false := hd ⟨7, .guard⟩ (by simp) rfl 60 rfl
                            have h13 : ρ (.tmp 66) = .bool true := hd ⟨13, .data⟩ (by simp) rfl 66 rfl
                            have h26 : ρ (.tmp 79) = .bool false := hd ⟨26, .data⟩ (by simp) rfl 79 rfl
                            exact .inl ⟨(by show (match ρ (.tmp 60) with | .bool b => b == false | _ => false) = true; rw [g7]; rfl), .inl ⟨_, u, run_pick_op rfl h13, (by simpa using h26), hR, Below.refl _ _⟩⟩
                          · -- 28
                            have h7 : ρ (.tmp 60) = .bool false := hd ⟨7, .data⟩ (by simp) rfl 60 rfl
                            have h27 : ρ (.tmp 80) = .bool false := hd ⟨27, .data⟩ (by simp) rfl 80 rfl
                            exact .inl ⟨rfl, .inl ⟨_, u, run_pick_op rfl h7, (by simpa using h27), hR, Below.refl _ _⟩⟩
                          · -- 29
                            have h28 : ρ (.tmp 81) = .bool false := hd ⟨28, .data⟩ (by simp) rfl 81 rfl
                            exact .inl ⟨rfl, .inl ⟨_, u, rfl, h28, hR, Below.refl _ _⟩⟩
                          · -- 30
                            have g29 : ρ (.tmp 82) = .bool false := hd ⟨29, .guard⟩ (by simp) rfl 82 rfl
                            have s1 : ρ (.tmp 1) = .pointer (some ⟨G, 0, none⟩) := (hρ 1 (by kernel_rfl)).trans rfl
                            exact .inl ⟨(by show (match ρ (.tmp 82) with | .bool b => b == false | _ => false) = true; rw [g29]; rfl), .inl ⟨.pointer (some ⟨G, 11, none⟩), u, run_field_op rfl s1 (by go_simp), rfl, hR, Below.refl _ _⟩⟩
                          · -- 31
                            have g29 : ρ (.tmp 82) = .bool false := hd ⟨29, .guard⟩ (by simp) rfl 82 rfl
                            have h30 : ρ (.tmp 83) = .pointer (some ⟨G, 11, none⟩) := hd ⟨30, .data⟩ (by simp) rfl 83 rfl
                            have y9 : u.cell? ⟨G, 11, none⟩ = some (.slice (some ⟨b4, o4, none⟩) D.hs.length c4) := (HK.out.1.below hR).rng 11 _ rfl
                            have hr : (Instr.loadAt 38 (.pointer (some ⟨G, 11, none⟩))).run Try.prog u = .ok (.slice (some ⟨b4, o4, none⟩) D.hs.length c4) u := by go_simp
                            exact .inl ⟨(by show (match ρ (.tmp 82) with | .bool b => b == false | _ => false) = true; rw [g29]; rfl), .inl ⟨.slice (some ⟨b4, o4, none⟩) D.hs.length c4, u, run_load_op rfl h30 hr, rfl, hR, Below.refl _ _⟩⟩
                          · -- 32
                            have g29 : ρ (.tmp 82) = .bool false := hd ⟨29, .guard⟩ (by simp) rfl 82 rfl
                            have s4 : ρ (.tmp 4) = .int .i64 (k : Int) := (hρ 4 (by kernel_rfl)).trans rfl
                            exact .inl ⟨(by show (match ρ (.tmp 82) with | .bool b => b == false | _ => false) = true; rw [g29]; rfl), .inl ⟨_, u, rfl, s4, hR, Below.refl _ _⟩⟩
                          · -- 33
                            have g29 : ρ (.tmp 82) = .bool false := hd ⟨29, .guard⟩ (by simp) rfl 82 rfl
                            have h31 : ρ (.tmp 84) = .slice (some ⟨b4, o4, none⟩) D.hs.length c4 := hd ⟨31, .data⟩ (by simp) rfl 84 rfl
                            have h32 : ρ (.tmp 85) = .int .i64 (k : Int) := hd ⟨32, .data⟩ (by simp) rfl 85 rfl
                            exact .inl ⟨(by show (match ρ (.tmp 82) with | .bool b => b == false | _ => false) = true; rw [g29]; rfl), .inl ⟨.pointer (some ⟨b4, o4 + k, none⟩), u, run_index_op rfl h31 h32 (by go_simp), rfl, hR, Below.refl _ _⟩⟩
                          · -- 34
                            have g29 : ρ (.tmp 82) = .bool false := hd ⟨29, .guard⟩ (by simp) rfl 82 rfl
                            have h33 : ρ (.tmp 86) = .pointer (some ⟨b4, o4 + k, none⟩) := hd ⟨33, .data⟩ (by simp) rfl 86 rfl
                            have y9 : u.cell? ⟨b4, o4 + k, none⟩ = some (.bool true) := (rangeAt_below HK.out.2.2.2.2.2.2.1 HK.out.2.2.2.2.2.1 hR) 0 _ rfl
                            have hr : (Instr.loadAt 4 (.pointer (some ⟨b4, o4 + k, none⟩))).run Try.prog u = .ok (.bool true) u := by go_simp
                            exact .inl ⟨(by show (match ρ (.tmp 82) with | .bool b => b == false | _ => false) = true; rw [g29]; rfl), .inl ⟨.bool true, u, run_load_op rfl h33 hr, rfl, hR, Below.refl _ _⟩⟩
                          · -- 35
                            have g29 : ρ (.tmp 82) = .bool false := hd ⟨29, .guard⟩ (by simp) rfl 82 rfl
                            have h34 : ρ (.tmp 87) = .bool true := hd ⟨34, .data⟩ (by simp) rfl 87 rfl
                            exact .inl ⟨(by show (match ρ (.tmp 82) with | .bool b => b == false | _ => false) = true; rw [g29]; rfl), .inl ⟨.bool false, u, run_un_op rfl h34 (by go_simp), rfl, hR, Below.refl _ _⟩⟩
                          · -- 36
                            have g29 : ρ (.tmp 82) = .bool false := hd ⟨29, .guard⟩ (by simp) rfl 82 rfl
                            have h35 : ρ (.tmp 88) = .bool false := hd ⟨35, .data⟩ (by simp) rfl 88 rfl
                            exact .inl ⟨(by show (match ρ (.tmp 82) with | .bool b => b == false | _ => false) = true; rw [g29]; rfl), .inl ⟨_, u, rfl, h35, hR, Below.refl _ _⟩⟩
                          · -- 37
                            have g36 : ρ (.tmp 89) = .bool false := hd ⟨36, .guard⟩ (by simp) rfl 89 rfl
                            exact .inr ⟨(by show (match ρ (.tmp 89) with | .bool b => b == true | _ => false) = false; rw [g36]; rfl), rfl⟩
                          · -- 38
                            have g36 : ρ (.tmp 89) = .bool false := hd ⟨36, .guard⟩ (by simp) rfl 89 rfl
                            exact .inr ⟨(by show (match ρ (.tmp 89) with | .bool b => b == true | _ => false) = false; rw [g36]; rfl), rfl⟩
                          · -- 39
                            have g36 : ρ (.tmp 89) = .bool false := hd ⟨36, .guard⟩ (by simp) rfl 89 rfl
                            exact .inr ⟨(by show (match ρ (.tmp 89) with | .bool b => b == true | _ => false) = false; rw [g36]; rfl), rfl⟩
                          · -- 40
                            have g36 : ρ (.tmp 89) = .bool false := hd ⟨36, .guard⟩ (by simp) rfl 89 rfl
                            exact .inr ⟨(by show (match ρ (.tmp 89) with | .bool b => b == true | _ => false) = false; rw [g36]; rfl), rfl⟩
                          · -- 41
                            have g36 : ρ (.tmp 89) = .bool false := hd ⟨36, .guard⟩ (by simp) rfl 89 rfl
                            exact .inr ⟨(by show (match ρ (.tmp 89) with | .bool b => b == true | _ => false) = false; rw [g36]; rfl), rfl⟩
                          · -- 42
                            have g36 : ρ (.tmp 89) = .bool false := hd ⟨36, .guard⟩ (by simp) rfl 89 rfl
                            exact .inr ⟨(by show (match ρ (.tmp 89) with | .bool b => b == true | _ => false) = false; rw [g36]; rfl), rfl⟩
                          · -- 43
                            have g36 : ρ (.tmp 89) = .bool false := hd ⟨36, .guard⟩ (by simp) rfl 89 rfl
                            exact .inr ⟨(by show (match ρ (.tmp 89) with | .bool b => b == true | _ => false) = false; rw [g36]; rfl), rfl⟩
                          · -- 44
                            have g29 : ρ (.tmp 82) = .bool false := hd ⟨29, .guard⟩ (by simp) rfl 82 rfl
                            have h36 : ρ (.tmp 89) = .bool false := hd ⟨36, .data⟩ (by simp) rfl 89 rfl
                            exact .inl ⟨(by show (match ρ (.tmp 82) with | .bool b => b == false | _ => false) = true; rw [g29]; rfl), .inl ⟨_, u, run_pick_op rfl h36, (by simpa using hc _), hR, Below.refl _ _⟩⟩
                          · -- 45
                            have h29 : ρ (.tmp 82) = .bool false := hd ⟨29, .data⟩ (by simp) rfl 82 rfl
                            have h44 : ρ (.tmp 97) = .bool false := hd ⟨44, .data⟩ (by simp) rfl 97 rfl
                            exact .inl ⟨rfl, .inl ⟨_, u, run_pick_op rfl h29, (by simpa using h44), hR, Below.refl _ _⟩⟩
                  | false =>
                    have hx2 : noA (D.tl k) = x := by rw [← hx]; unfold tdB; rw [hhs]; rfl
                    have HK : Hid (Blk wr G 44 (dL D a1 D.q.ws.length c1 a2 D.q.bs.length c2 (some ⟨b3, o3, none⟩) D.np c3 (some ⟨b4, o4, none⟩) D.hs.length c4 (some ⟨b5, o5, none⟩) D.nt c5).toArray ∧ b3 < wr.heap.size ∧ wr.rangeAt b3 (o3 + k * 8) (pL (D.pt k) p1 (D.pt k).q.ws.length k1 p2 (D.pt k).q.bs.length k2) ∧ b5 < wr.heap.size ∧ wr.rangeAt b5 (o5 + k * 6) (aL (D.tl k) t1 (D.tl k).ws.length j1 t2 (D.tl k).bs.length j2) ∧ b4 < wr.heap.size ∧ wr.rangeAt b4 (o4 + k) [.bool false] ∧ Rd wr 0 (intsT (D.pt k).q.ws) (.slice p1 (D.pt k).q.ws.length k1) ∧ Rd wr 0 (boolsT (D.pt k).q.bs) (.slice p2 (D.pt k).q.bs.length k2) ∧ Rd wr 0 (intsT (D.tl k).ws) (.slice t1 (D.tl k).ws.length j1) ∧ Rd wr 0 (boolsT (D.tl k).bs) (.slice t2 (D.tl k).bs.length j2) ∧ BdQ (D.pt k).q ∧ BdA (D.tl k) ∧ okPt (D.pt k) = xp ∧ noA (D.tl k) = x) := ⟨hBk, hb3, hr3, hb5, hr5, hb4, c4', rp1, rp2, rt1, rt2, hbq, hba, hxp, hx2⟩
                    clear hx hx2 hhs hb3 hr3 hb5 hr5 hb4 c4' rp1 rp2 rt1 rt2 hbq hba hxp hBk
                    go_upto_region 7 with fail
                    clear y0 y1 y2 y3 y4 y5 y6 y7 y8 y9 y10 y11 y12
                    cases xp with
                    | false =>
                      refine wp_region_any (by kernel_rfl) ?_
                      refine wpAny_vals (fun u => Below wr.heap.size wr u) (fun i v u => match i with
                        | 0 => v = .pointer (some ⟨G, 10, none⟩)
                        | 1 => v = .slice (some ⟨b3, o3, none⟩) D.np c3
                        | 2 => v = .int .i64 (k : Int)
                        | 3 => v = .pointer (some ⟨b3, o3 + k * 8, none⟩)
                        | 4 => v = .agg (pL (D.pt k) p1 (D.pt k).q.ws.length k1 p2 (D.pt k).q.bs.length k2).toArray
                        | 5 => v = .bool false
                        | 6 => v = .bool true
                        | 7 => v = .bool true
                        | 8 => v = undef
                        | 9 => v = undef
                        | 10 => v = undef
                        | 11 => v = undef
                        | 12 => v = undef
                        | 13 => v = undef
                        | 14 => v = undef
                        | 15 => v = undef
                        | 16 => v = undef
                        | 17 => v = undef
                        | 18 => v = undef
                        | 19 => v = undef
                        | 20 => v = undef
                        | 21 => v = undef
                        | 22 => v = undef
                        | 23 => v = undef
                        | 24 => v = undef
                        | 25 => v = undef
                        | 26 => v = undef
                        | 27 => v = undef
                        | 28 => v = .bool true
                        | 29 => v = .bool true
                        | 30 => v = undef
                        | 31 => v = undef
                        | 32 => v = undef
                        | 33 => v = undef
                        | 34 => v = undef
                        | 35 => v = undef
                        | 36 => v = undef
                        | 37 => v = undef
                        | 38 => v = undef
                        | 39 => v = undef
                        | 40 => v = undef
                        | 41 => v = undef
                        | 42 => v = undef
                        | 43 => v = undef
                        | 44 => v = undef
                        | 45 => v = .bool true
                        | _ => True) (by kernel_rfl) (by kernel_rfl) (fun _ _ _ _ h _ => h) (by first | exact Below.refl _ _ | exact (Below.refl _ _).drew) ?_ ?_ _ _ rfl (by decide) (fun i => by simp [Array.getD]; try (split <;> rfl))
                      · intro vs u hR hall
                        have e45 : vs 45 = .bool true := hall 45 (by simp)
                        simp only [putsL]
                        rw [e45]
                        clear hall e45
                        have HF : Hid (allN (fun i => okPt (D.pt i)) D.np = false ∧ Below w.heap.size w u) := ⟨allN_no hlt HA.out.2.2.1, bel_nx HB2.out.2 hR⟩
                        clear HK HA hR
                        go_simp
                        go_wp2
                        go_ret
                        exact ⟨by rw [HF.out.1]; rfl, HF.out.2⟩
                      · intro u i o ρ hR ho hρ hc hf hd
                        have hi : i < 46 := by
                          have := (Array.getElem?_eq_some_iff.1 ho).1
                          simpa using this
                        obtain rfl | rfl | rfl | rfl | rfl | rfl | rfl | rfl | rfl | rfl | rfl | rfl | rfl | rfl | rfl | rfl | rfl | rfl | rfl | rfl | rfl | rfl | rfl | rfl | rfl | rfl | rfl | rfl | rfl | rfl | rfl | rfl | rfl | rfl | rfl | rfl | rfl | rfl | rfl | rfl | rfl | rfl | rfl | rfl | rfl | rfl : i = 0 ∨ i = 1 ∨ i = 2 ∨ i = 3 ∨ i = 4 ∨ i = 5 ∨ i = 6 ∨ i = 7 ∨ i = 8 ∨ i = 9 ∨ i = 10 ∨ i = 11 ∨ i = 12 ∨ i = 13 ∨ i = 14 ∨ i = 15 ∨ i = 16 ∨ i = 17 ∨ i = 18 ∨ i = 19 ∨ i = 20 ∨ i = 21 ∨ i = 22 ∨ i = 23 ∨ i = 24 ∨ i = 25 ∨ i = 26 ∨ i = 27 ∨ i = 28 ∨ i = 29 ∨ i = 30 ∨ i = 31 ∨ i = 32 ∨ i = 33 ∨ i = 34 ∨ i = 35 ∨ i = 36 ∨ i = 37 ∨ i = 38 ∨ i = 39 ∨ i = 40 ∨ i = 41 ∨ i = 42 ∨ i = 43 ∨ i = 44 ∨ i = 45 := by omega
                        all_goals (simp only [List.getElem?_toArray, List.getElem?_cons_zero, List.getElem?_cons_succ, Option.some.injEq] at ho; subst ho)
                        · -- 0
                          have s1 : ρ (.tmp 1) = .pointer (some ⟨G, 0, none⟩) := (hρ 1 (by kernel_rfl)).trans rfl
                          exact .inl ⟨rfl, .inl ⟨.pointer (some ⟨G, 10, none⟩), u, run_field_op rfl s1 (by go_simp), rfl, hR, Below.refl _ _⟩⟩
                        · -- 1
                          have h0 : ρ (.tmp 53) = .pointer (some ⟨G, 10, none⟩) := hd ⟨0, .data⟩ (by simp) rfl 53 rfl
                          have y9 : u.cell? ⟨G, 10, none⟩ = some (.slice (some ⟨b3, o3, none⟩) D.np c3) := (HK.out.1.below hR).rng 10 _ rfl
                          have hr : (Instr.loadAt 41 (.pointer (some ⟨G, 10, none⟩))).run Try.prog u = .ok (.slice (some ⟨b3, o3, none⟩) D.np c3) u := by go_simp
                          exact .inl ⟨rfl, .inl ⟨.slice (some ⟨b3, o3, none⟩) D.np c3, u, run_load_op rfl h0 hr, rfl, hR, Below.refl _ _⟩⟩
                        · -- 2
                          have s4 : ρ (.tmp 4) = .int .i64 (k : Int) := (hρ 4 (by kernel_rfl)).trans rfl
                          exact .inl ⟨rfl, .inl ⟨_, u, rfl, s4, hR, Below.refl _ _⟩⟩
                        · -- 3
                          have h1 : ρ (.tmp 54) = .slice (some ⟨b3, o3, none⟩) D.np c3 := hd ⟨1, .data⟩ (by simp) rfl 54 rfl
                          have h2 : ρ (.tmp 55) = .int .i64 (k : Int) := hd ⟨2, .data⟩ (by simp) rfl 55 rfl
                          exact .inl ⟨rfl, .inl ⟨.pointer (some ⟨b3, o3 + k * 8, none⟩), u, run_index_op rfl h1 h2 (by go_simp), rfl, hR, Below.refl _ _⟩⟩
                        · -- 4
                          have h3 : ρ (.tmp 56) = .pointer (some ⟨b3, o3 + k * 8, none⟩) := hd ⟨3, .data⟩ (by simp) rfl 56 rfl
                          have hr : (Instr.loadAt 60 (.pointer (some ⟨b3, o3 + k * 8, none⟩))).run Try.prog u = .ok (.agg (pL (D.pt k) p1 (D.pt k).q.ws.length k1 p2 (D.pt k).q.bs.length k2).toArray) u := run_loadAt_mid u b3 (o3 + k * 8) 60 (pL (D.pt k) p1 (D.pt k).q.ws.length k1 p2 (D.pt k).q.bs.length k2) _ (rangeAt_below HK.out.2.2.1 HK.out.2.1 hR) Try.underlying60 rfl (by kernel_rfl)
                          exact .inl ⟨rfl, .inl ⟨.agg (pL (D.pt k) p1 (D.pt k).q.ws.length k1 p2 (D.pt k).q.bs.length k2).toArray, u, run_load_op rfl h3 hr, rfl, hR, Below.refl _ _⟩⟩
                        · -- 5
                          have h4 : ρ (.tmp 57) = .agg (pL (D.pt k) p1 (D.pt k).q.ws.length k1 p2 (D.pt k).q.bs.length k2).toArray := hd ⟨4, .data⟩ (by simp) rfl 57 rfl
                          refine .inl ⟨rfl, .inr ⟨_, _, run_call_op rfl (hf _) (args := #[.agg (pL (D.pt k) p1 (D.pt k).q.ws.length k1 p2 (D.pt k).q.bs.length k2).toArray]) (by simp [h4]) (by kernel_rfl), ?_⟩⟩
                          refine (specPart_any (D.pt k) p1 k1 p2 k2 _ (HK.out.2.2.2.2.2.2.2.1.below hR) (HK.out.2.2.2.2.2.2.2.2.1.below hR) HK.out.2.2.2.2.2.2.2.2.2.2.2.1).mono ?_
                          rintro e u' ⟨he, b'⟩
                          exact ⟨_, he.trans (by rw [HK.out.2.2.2.2.2.2.2.2.2.2.2.2.2.1]), rfl, bel_nx hR b', b'⟩
                        · -- 6
                          have h5 : ρ (.tmp 58) = .bool false := hd ⟨5, .data⟩ (by simp) rfl 58 rfl
                          exact .inl ⟨rfl, .inl ⟨.bool true, u, run_un_op rfl h5 (by go_simp), rfl, hR, Below.refl _ _⟩⟩
                        · -- 7
                          have h6 : ρ (.tmp 59) = .bool true := hd ⟨6, .data⟩ (by simp) rfl 59 rfl
                          exact .inl ⟨rfl, .inl ⟨_, u, rfl, h6, hR, Below.refl _ _⟩⟩
                        · -- 8
                          have g7 : ρ (.tmp 60) = .bool true := hd ⟨7, .guard⟩ (by simp) rfl 60 rfl
                          exact .inr ⟨(by show (match ρ (.tmp 60) with | .bool b => b == false | _ => false) = false; rw [g7]; rfl), rfl⟩
                        · -- 9
                          have g7 : ρ (.tmp 60) = .bool true := hd ⟨7, .guard⟩ (by simp) rfl 60 rfl
                          exact .inr ⟨(by show (match ρ (.tmp 60) with | .bool b => b == false | _ => false) = false; rw [g7]; rfl), rfl⟩
                        · -- 10
                          have g7 : ρ (.tmp 60) = .bool true := hd ⟨7, .guard⟩ (by simp) rfl 60 rfl
                          exact .inr ⟨(by show (match ρ (.tmp 60) with | .bool b => b == false | _ => false) = false; rw [g7]; rfl), rfl⟩
                        · -- 11
                          have g7 : ρ (.tmp 60) = .bool true := hd ⟨7, .guard⟩ (by simp) rfl 60 rfl
                          exact .inr ⟨(by show (match ρ (.tmp 60) with | .bool b => b == false | _ => false) = false; rw [g7]; rfl), rfl⟩
                        · -- 12
                          have g7 : ρ (.tmp 60) = .bool true := hd ⟨7, .guard⟩ (by simp) rfl 60 rfl
                          exact .inr ⟨(by show (match ρ (.tmp 60) with | .bool b => b == false | _ => false) = false; rw [g7]; rfl), rfl⟩
                        · -- 13
                          have g7 : ρ (.tmp 60) = .bool true := hd ⟨7, .guard⟩ (by simp) rfl 60 rfl
                          exact .inr ⟨(by show (match ρ (.tmp 60) with | .bool b => b == false | _ => false) = false; rw [g7]; rfl), rfl⟩
                        · -- 14
                          have g13 : ρ (.tmp 66) = undef := hd ⟨13, .guard⟩ (by simp) rfl 66 rfl
                          exact .inr ⟨(by show (match ρ (.tmp 66) with | .bool b => b == true | _ => false) = false; rw [g13]; rfl), rfl⟩
                        · -- 15
                          have g13 : ρ (.tmp 66) = undef := hd ⟨13, .guard⟩ (by simp) rfl 66 rfl
                          exact .inr ⟨(by show (match ρ (.tmp 66) with | .bool b => b == true | _ => false) = false; rw [g13]; rfl), rfl⟩
                        · -- 16
                          have g13 : ρ (.tmp 66) = undef := hd ⟨13, .guard⟩ (by simp) rfl 66 rfl
                          exact .inr ⟨(by show (match ρ (.tmp 66) with | .bool b => b == true | _ => false) = false; rw [g13]; rfl), rfl⟩
                        · -- 17
                          have g13 : ρ (.tmp 66) = undef := hd ⟨13, .guard⟩ (by simp) rfl 66 rfl
                          exact .inr ⟨(by show (match ρ (.tmp 66) with | .bool b => b == true | _ => false) = false; rw [g13]; rfl), rfl⟩
                        · -- 18
                          have g13 : ρ (.tmp 66) = undef := hd ⟨13, .guard⟩ (by simp) rfl 66 rfl
                          exact .inr ⟨(by show (match ρ (.tmp 66) with | .bool b => b == true | _ => false) = false; rw [g13]; rfl), rfl⟩
                        · -- 19
                          have g13 : ρ (.tmp 66) = undef := hd ⟨13, .guard⟩ (by simp) rfl 66 rfl
                          exact .inr ⟨(by show (match ρ (.tmp 66) with | .bool b => b == true | _ => false) = false; rw [g13]; rfl), rfl⟩
                        · -- 20
                          have g13 : ρ (.tmp 66) = undef := hd ⟨13, .guard⟩ (by simp) rfl 66 rfl
                          exact .inr ⟨(by show (match ρ (.tmp 66) with | .bool b => b == true | _ => false) = false; rw [g13]; rfl), rfl⟩
                        · -- 21
                          have g13 : ρ (.tmp 66) = undef := hd ⟨13, .guard⟩ (by simp) rfl 66 rfl
                          exact .inr ⟨(by show (match ρ (.tmp 66) with | .bool b => b == true | _ => false) = false; rw [g13]; rfl), rfl⟩
                        · -- 22
                          have g13 : ρ (.tmp 66) = undef := hd ⟨13, .guard⟩ (by simp) rfl 66 rfl
                          exact .inr ⟨(by show (match ρ (.tmp 66) with | .bool b => b == true | _ => false) = false; rw [g13]; rfl), rfl⟩
                        · -- 23
                          have g13 : ρ (.tmp 66) = undef := hd ⟨13, .guard⟩ (by simp) rfl 66 rfl
                          exact .inr ⟨(by show (match ρ (.tmp 66) with | .bool b => b == true | _ => false) = false; rw [g13]; rfl), rfl⟩
                        · -- 24
                          have g13 : ρ (.tmp 66) = undef := hd ⟨13, .guard⟩ (by simp) rfl 66 rfl
                          exact .inr ⟨(by show (match ρ (.tmp 66) with | .bool b => b == true | _ => false) = false; rw [g13]; rfl), rfl⟩
                        · -- 25
                          have g13 : ρ (.tmp 66) = undef := hd ⟨13, .guard⟩ (by simp) rfl 66 rfl
                          exact .inr ⟨(by show (match ρ (.tmp 66) with | .bool b => b == true | _ => false) = false; rw [g13]; rfl), rfl⟩
                        · -- 26
                          have g13 : ρ (.tmp 66) = undef := hd ⟨13, .guard⟩ (by simp) rfl 66 rfl
                          exact .inr ⟨(by show (match ρ (.tmp 66) with | .bool b => b == true | _ => false) = false; rw [g13]; rfl), rfl⟩
                        · -- 27
                          have g7 : ρ (.tmp 60) = .bool true := hd ⟨7, .guard⟩ (by simp) rfl 60 rfl
                          exact .inr ⟨(by show (match ρ (.tmp 60) with | .bool b => b == false | _ => false) = false; rw [g7]; rfl), rfl⟩
                        · -- 28
                          have h7 : ρ (.tmp 60) = .bool true := hd ⟨7, .data⟩ (by simp) rfl 60 rfl
                          exact .inl ⟨rfl, .inl ⟨_, u, run_pick_op rfl h7, (by simpa using hc _), hR, Below.refl _ _⟩⟩
                        · -- 29
                          have h28 : ρ (.tmp 81) = .bool true := hd ⟨28, .data⟩ (by simp) rfl 81 rfl
                          exact .inl ⟨rfl, .inl ⟨_, u, rfl, h28, hR, Below.refl _ _⟩⟩
                        · -- 30
                          have g29 : ρ (.tmp 82) = .bool true := hd ⟨29, .guard⟩ (by simp) rfl 82 rfl
                          exact .inr ⟨(by show (match ρ (.tmp 82) with | .bool b => b == false | _ => false) = false; rw [g29]; rfl), rfl⟩
                        · -- 31
                          have g29 : ρ (.tmp 82) = .bool true := hd ⟨29, .guard⟩ (by simp) rfl 82 rfl
                          exact .inr ⟨(by show (match ρ (.tmp 82) with | .bool b => b == false | _ => false) = false; rw [g29]; rfl), rfl⟩
                        · -- 32
                          have g29 : ρ (.tmp 82) = .bool true := hd ⟨29, .guard⟩ (by simp) rfl 82 rfl
                          exact .inr ⟨(by show (match ρ (.tmp 82) with | .bool b => b == false | _ => false) = false; rw [g29]; rfl), rfl⟩
                        · -- 33
                          have g29 : ρ (.tmp 82) = .bool true := hd ⟨29, .guard⟩ (by simp) rfl 82 rfl
                          exact .inr ⟨(by show (match ρ (.tmp 82) with | .bool b => b == false | _ => false) = false; rw [g29]; rfl), rfl⟩
                        · -- 34
                          have g29 : ρ (.tmp 82) = .bool true := hd ⟨29, .guard⟩ (by simp) rfl 82 rfl
                          exact .inr ⟨(by show (match ρ (.tmp 82) with | .bool b => b == false | _ => false) = false; rw [g29]; rfl), rfl⟩
                        · -- 35
                          have g29 : ρ (.tmp 82) = .bool true := hd ⟨29, .guard⟩ (by simp) rfl 82 rfl
                          exact .inr ⟨(by show (match ρ (.tmp 82) with | .bool b => b == false | _ => false) = false; rw [g29]; rfl), rfl⟩
                        · -- 36
                          have g29 : ρ (.tmp 82) = .bool true := hd ⟨29, .guard⟩ (by simp) rfl 82 rfl
                          exact .inr ⟨(by show (match ρ (.tmp 82) with | .bool b => b == false | _ => false) = false; rw [g29]; rfl), rfl⟩
                        · -- 37
                          have g36 : ρ (.tmp 89) = undef := hd ⟨36, .guard⟩ (by simp) rfl 89 rfl
                          exact .inr ⟨(by show (match ρ (.tmp 89) with | .bool b => b == true | _ => false) = false; rw [g36]; rfl), rfl⟩
                        · -- 38
                          have g36 : ρ (.tmp 89) = undef := hd ⟨36, .guard⟩ (by simp) rfl 89 rfl
                          exact .inr ⟨(by show (match ρ (.tmp 89) with | .bool b => b == true | _ => false) = false; rw [g36]; rfl), rfl⟩
                        · -- 39
                          have g36 : ρ (.tmp 89) = undef := hd ⟨36, .guard⟩ (by simp) rfl 89 rfl
                          exact .inr ⟨(by show (match ρ (.tmp 89) with | .bool b => b == true | _ => false) = false; rw [g36]; rfl), rfl⟩
                        · -- 40
                          have g36 : ρ (.tmp 89) = undef := hd ⟨36, .guard⟩ (by simp) rfl 89 rfl
                          exact .inr ⟨(by show (match ρ (.tmp 89) with | .bool b => b == true | _ => false) = false; rw [g36]; rfl), rfl⟩
                        · -- 41
                          have g36 : ρ (.tmp 89) = undef := hd ⟨36, .guard⟩ (by simp) rfl 89 rfl
                          exact .inr ⟨(by show (match ρ (.tmp 89) with | .bool b => b == true | _ => false) = false; rw [g36]; rfl), rfl⟩
                        · -- 42
                          have g36 : ρ (.tmp 89) = undef := hd ⟨36, .guard⟩ (by simp) rfl 89 rfl
                          exact .inr ⟨(by show (match ρ (.tmp 89) with | .bool b => b == true | _ => false) = false; rw [g36]; rfl), rfl⟩
                        · -- 43
                          have g36 : ρ (.tmp 89) = undef := hd ⟨36, .guard⟩ (by simp) rfl 89 rfl
                          exact .inr ⟨(by show (match ρ (.tmp 89) with | .bool b => b == true | _ => false) = false; rw [g36]; rfl), rfl⟩
                        · -- 44
                          have g29 : ρ (.tmp 82) = .bool true := hd ⟨29, .guard⟩ (by simp) rfl 82 rfl
                          exact .inr ⟨(by show (match ρ (.tmp 82) with | .bool b => b == false | _ => false) = false; rw [g29]; rfl), rfl⟩
                        · -- 45
                          have h29 : ρ (.tmp 82) = .bool true := hd ⟨29, .data⟩ (by simp) rfl 82 rfl
                          exact .inl ⟨rfl, .inl ⟨_, u, run_pick_op rfl h29, (by simpa using hc _), hR, Below.refl _ _⟩⟩
                    | true =>
                      cases x with
                      | false =>
                        refine wp_region_any (by kernel_rfl) ?_
                        refine wpAny_vals (fun u => Below wr.heap.size wr u) (fun i v u => match i with
                          | 0 => v = .pointer (some ⟨G, 10, none⟩)
                          | 1 => v = .slice (some ⟨b3, o3, none⟩) D.np c3
                          | 2 => v = .int .i64 (k : Int)
                          | 3 => v = .pointer (some ⟨b3, o3 + k * 8, none⟩)
                          | 4 => v = .agg (pL (D.pt k) p1 (D.pt k).q.ws.length k1 p2 (D.pt k).q.bs.length k2).toArray
                          | 5 => v = .bool true
                          | 6 => v = .bool false
                          | 7 => v = .bool false
                          | 8 => v = .pointer (some ⟨G, 11, none⟩)
                          | 9 => v = .slice (some ⟨b4, o4, none⟩) D.hs.length c4
                          | 10 => v = .int .i64 (k : Int)
                          | 11 => v = .pointer (some ⟨b4, o4 + k, none⟩)
                          | 12 => v = .bool false
                          | 13 => v = .bool false
                          | 14 => v = undef
                          | 15 => v = undef
                          | 16 => v = undef
                          | 17 => v = undef
                          | 18 => v = undef
                          | 19 => v = undef
                          | 20 => v = undef
                          | 21 => v = undef
                          | 22 => v = undef
                          | 23 => v = undef
                          | 24 => v = undef
                          | 25 => v = undef
                          | 26 => v = undef
                          | 27 => v = .bool false
                          | 28 => v = .bool false
                          | 29 => v = .bool false
                          | 30 => v = .pointer (some ⟨G, 11, none⟩)
                          | 31 => v = .slice (some ⟨b4, o4, none⟩) D.hs.length c4
                          | 32 => v = .int .i64 (k : Int)
                          | 33 => v = .pointer (some ⟨b4, o4 + k, none⟩)
                          | 34 => v = .bool false
                          | 35 => v = .bool true
                          | 36 => v = .bool true
                          | 37 => v = .pointer (some ⟨G, 12, none⟩)
                          | 38 => v = .slice (some ⟨b5, o5, none⟩) D.nt c5
                          | 39 => v = .int .i64 (k : Int)
                          | 40 => v = .pointer (some ⟨b5, o5 + k * 6, none⟩)
                          | 41 => v = .agg (aL (D.tl k) t1 (D.tl k).ws.length j1 t2 (D.tl k).bs.length j2).toArray
                          | 42 => v = .bool false
                          | 43 => v = .bool true
                          | 44 => v = .bool true
                          | 45 => v = .bool true
                          | _ => True) (by kernel_rfl) (by kernel_rfl) (fun _ _ _ _ h _ => h) (by first | exact Below.refl _ _ | exact (Below.refl _ _).drew) ?_ ?_ _ _ rfl (by decide) (fun i => by simp [Array.getD]; try (split <;> rfl))
                        · intro vs u hR hall
                          have e45 : vs 45 = .bool true := hall 45 (by simp)
                          simp only [putsL]
                          rw [e45]
                          clear hall e45
                          have HF : Hid (allN (tdB D) D.np = false ∧ Below w.heap.size w u) := ⟨allN_no hlt HA.out.2.2.2.1, bel_nx HB2.out.2 hR⟩
                          clear HK HA hR
                          go_simp
                          go_wp2
                          go_ret
                          exact ⟨by rw [HF.out.1]; simp, HF.out.2⟩
                        · intro u i o ρ hR ho hρ hc hf hd
                          have hi : i < 46 := by
                            have := (Array.getElem?_eq_some_iff.1 ho).1
                            simpa using this
                          obtain rfl | rfl | rfl | rfl | rfl | rfl | rfl | rfl | rfl | rfl | rfl | rfl | rfl | rfl | rfl | rfl | rfl | rfl | rfl | rfl | rfl | rfl | rfl | rfl | rfl | rfl | rfl | rfl | rfl | rfl | rfl | rfl | rfl | rfl | rfl | rfl | rfl | rfl | rfl | rfl | rfl | rfl | rfl | rfl | rfl | rfl : i = 0 ∨ i = 1 ∨ i = 2 ∨ i = 3 ∨ i = 4 ∨ i = 5 ∨ i = 6 ∨ i = 7 ∨ i = 8 ∨ i = 9 ∨ i = 10 ∨ i = 11 ∨ i = 12 ∨ i = 13 ∨ i = 14 ∨ i = 15 ∨ i = 16 ∨ i = 17 ∨ i = 18 ∨ i = 19 ∨ i = 20 ∨ i = 21 ∨ i = 22 ∨ i = 23 ∨ i = 24 ∨ i = 25 ∨ i = 26 ∨ i = 27 ∨ i = 28 ∨ i = 29 ∨ i = 30 ∨ i = 31 ∨ i = 32 ∨ i = 33 ∨ i = 34 ∨ i = 35 ∨ i = 36 ∨ i = 37 ∨ i = 38 ∨ i = 39 ∨ i = 40 ∨ i = 41 ∨ i = 42 ∨ i = 43 ∨ i = 44 ∨ i = 45 := by omega
                          all_goals (simp only [List.getElem?_toArray, List.getElem?_cons_zero, List.getElem?_cons_succ, Option.some.injEq] at ho; subst ho)
                          · -- 0
                            have s1 : ρ (.tmp 1) = .pointer (some ⟨G, 0, none⟩) := (hρ 1 (by kernel_rfl)).trans rfl
                            exact .inl ⟨rfl, .inl ⟨.pointer (some ⟨G, 10, none⟩), u, run_field_op rfl s1 (by go_simp), rfl, hR, Below.refl _ _⟩⟩
                          · -- 1
                            have h0 : ρ (.tmp 53) = .pointer (some ⟨G, 10, none⟩) := hd ⟨0, .data⟩ (by simp) rfl 53 rfl
                            have y9 : u.cell? ⟨G, 10, none⟩ = some (.slice (some ⟨b3, o3, none⟩) D.np c3) := (HK.out.1.below hR).rng 10 _ rfl
                            have hr : (Instr.loadAt 41 (.pointer (some ⟨G, 10, none⟩))).run Try.prog u = .ok (.slice (some ⟨b3, o3, none⟩) D.np c3) u := by go_simp
                            exact .inl ⟨rfl, .inl ⟨.slice (some ⟨b3, o3, none⟩) D.np c3, u, run_load_op rfl h0 hr, rfl, hR, Below.refl _ _⟩⟩
                          · -- 2
                            have s4 : ρ (.tmp 4) = .int .i64 (k : Int) := (hρ 4 (by kernel_rfl)).trans rfl
                            exact .inl ⟨rfl, .inl ⟨_, u, rfl, s4, hR, Below.refl _ _⟩⟩
                          · -- 3
                            have h1 : ρ (.tmp 54) = .slice (some ⟨b3, o3, none⟩) D.np c3 := hd ⟨1, .data⟩ (by simp) rfl 54 rfl
                            have h2 : ρ (.tmp 55) = .int .i64 (k : Int) := hd ⟨2, .data⟩ (by simp) rfl 55 rfl
                            exact .inl ⟨rfl, .inl ⟨.pointer (some ⟨b3, o3 + k * 8, none⟩), u, run_index_op rfl h1 h2 (by go_simp), rfl, hR, Below.refl _ _⟩⟩
                          · -- 4
                            have h3 : ρ (.tmp 56) = .pointer (some ⟨b3, o3 + k * 8, none⟩) := hd ⟨3, .data⟩ (by simp) rfl 56 rfl
                            have hr : (Instr.loadAt 60 (.pointer (some ⟨b3, o3 + k * 8, none⟩))).run Try.prog u = .ok (.agg (pL (D.pt k) p1 (D.pt k).q.ws.length k1 p2 (D.pt k).q.bs.length k2).toArray) u := run_loadAt_mid u b3 (o3 + k * 8) 60 (pL (D.pt k) p1 (D.pt k).q.ws.length k1 p2 (D.pt k).q.bs.length k2) _ (rangeAt_below HK.out.2.2.1 HK.out.2.1 hR) Try.underlying60 rfl (by kernel_rfl)
                            exact .inl ⟨rfl, .inl ⟨.agg (pL (D.pt k) p1 (D.pt k).q.ws.length k1 p2 (D.pt k).q.bs.length k2).toArray, u, run_load_op rfl h3 hr, rfl, hR, Below.refl _ _⟩⟩
                          · -- 5
                            have h4 : ρ (.tmp 57) = .agg (pL (D.pt k) p1 (D.pt k).q.ws.length k1 p2 (D.pt k).q.bs.length k2).toArray := hd ⟨4, .data⟩ (by simp) rfl 57 rfl
                            refine .inl ⟨rfl, .inr ⟨_, _, run_call_op rfl (hf _) (args := #[.agg (pL (D.pt k) p1 (D.pt k).q.ws.length k1 p2 (D.pt k).q.bs.length k2).toArray]) (by simp [h4]) (by kernel_rfl), ?_⟩⟩
                            refine (specPart_any (D.pt k) p1 k1 p2 k2 _ (HK.out.2.2.2.2.2.2.2.1.below hR) (HK.out.2.2.2.2.2.2.2.2.1.below hR) HK.out.2.2.2.2.2.2.2.2.2.2.2.1).mono ?_
                            rintro e u' ⟨he, b'⟩
                            exact ⟨_, he.trans (by rw [HK.out.2.2.2.2.2.2.2.2.2.2.2.2.2.1]), rfl, bel_nx hR b', b'⟩
                          · -- 6
                            have h5 : ρ (.tmp 58) = .bool true := hd ⟨5, .data⟩ (by simp) rfl 58 rfl
                            exact .inl ⟨rfl, .inl ⟨.bool false, u, run_un_op rfl h5 (by go_simp), rfl, hR, Below.refl _ _⟩⟩
                          · -- 7
                            have h6 : ρ (.tmp 59) = .bool false := hd ⟨6, .data⟩ (by simp) rfl 59 rfl
                            exact .inl ⟨rfl, .inl ⟨_, u, rfl, h6, hR, Below.refl _ _⟩⟩
                          · -- 8
                            have g7 : ρ (.tmp 60) = .bool false := hd ⟨7, .guard⟩ (by simp) rfl 60 rfl
                            have s1 : ρ (.tmp 1) = .pointer (some ⟨G, 0, none⟩) := (hρ 1 (by kernel_rfl)).trans rfl
                            exact .inl ⟨(by show (match ρ (.tmp 60) with | .bool b => b == false | _ => false) = true; rw [g7]; rfl), .inl ⟨.pointer (some ⟨G, 11, none⟩), u, run_field_op rfl s1 (by go_simp), rfl, hR, Below.refl _ _⟩⟩
                          · -- 9
                            have g7 : ρ (.tmp 60) = .bool false := hd ⟨7, .guard⟩ (by simp) rfl 60 rfl
                            have h8 : ρ (.tmp 61) = .pointer (some ⟨G, 11, none⟩) := hd ⟨8, .data⟩ (by simp) rfl 61 rfl
                            have y9 : u.cell? ⟨G, 11, none⟩ = some (.slice (some ⟨b4, o4, none⟩) D.hs.length c4) := (HK.out.1.below hR).rng 11 _ rfl
                            have hr : (Instr.loadAt 38 (.pointer (some ⟨G, 11, none⟩))).run Try.prog u = .ok (.slice (some ⟨b4, o4, none⟩) D.hs.length c4) u := by go_simp
                            exact .inl ⟨(by show (match ρ (.tmp 60) with | .bool b => b == false | _ => false) = true; rw [g7]; rfl), .inl ⟨.slice (some ⟨b4, o4, none⟩) D.hs.length c4, u, run_load_op rfl h8 hr, rfl, hR, Below.refl _ _⟩⟩
                          · -- 10
                            have g7 : ρ (.tmp 60) = .bool false := hd ⟨7, .guard⟩ (by simp) rfl 60 rfl
                            have s4 : ρ (.tmp 4) = .int .i64 (k : Int) := (hρ 4 (by kernel_rfl)).trans rfl
                            exact .inl ⟨(by show (match ρ (.tmp 60) with | .bool b => b == false | _ => false) = true; rw [g7]; rfl), .inl ⟨_, u, rfl, s4, hR, Below.refl _ _⟩⟩
                          · -- 11
                            have g7 : ρ (.tmp 60) = .bool false := hd ⟨7, .guard⟩ (by simp) rfl 60 rfl
                            have h9 : ρ (.tmp 62) = .slice (some ⟨b4, o4, none⟩) D.hs.length c4 := hd ⟨9, .data⟩ (by simp) rfl 62 rfl
                            have h10 : ρ (.tmp 63) = .int .i64 (k : Int) := hd ⟨10, .data⟩ (by simp) rfl 63 rfl
                            exact .inl ⟨(by show (match ρ (.tmp 60) with | .bool b => b == false | _ => false) = true; rw [g7]; rfl), .inl ⟨.pointer (some ⟨b4, o4 + k, none⟩), u, run_index_op rfl h9 h10 (by go_simp), rfl, hR, Below.refl _ _⟩⟩
                          · -- 12
                            have g7 : ρ (.tmp 60) = .bool false := hd ⟨7, .guard⟩ (by simp) rfl 60 rfl
                            have h11 : ρ (.tmp 64) = .pointer (some ⟨b4, o4 + k, none⟩) := hd ⟨11, .data⟩ (by simp) rfl 64 rfl
                            have y9 : u.cell? ⟨b4, o4 + k, none⟩ = some (.bool false) := (rangeAt_below HK.out.2.2.2.2.2.2.1 HK.out.2.2.2.2.2.1 hR) 0 _ rfl
                            have hr : (Instr.loadAt 4 (.pointer (some ⟨b4, o4 + k, none⟩))).run Try.prog u = .ok (.bool false) u := by go_simp
                            exact .inl ⟨(by show (match ρ (.tmp 60) with | .bool b => b == false | _ => false) = true; rw [g7]; rfl), .inl ⟨.bool false, u, run_load_op rfl h11 hr, rfl, hR, Below.refl _ _⟩⟩
                          · -- 13
                            have g7 : ρ (.tmp 60) = .bool false := hd ⟨7, .guard⟩ (by simp) rfl 60 rfl
                            have h12 : ρ (.tmp 65) = .bool false := hd ⟨12, .data⟩ (by simp) rfl 65 rfl
                            exact .inl ⟨(by show (match ρ (.tmp 60) with | .bool b => b == false | _ => false) = true; rw [g7]; rfl), .inl ⟨_, u, rfl, h12, hR, Below.refl _ _⟩⟩
                          · -- 14
                            have g13 : ρ (.tmp 66) = .bool false := hd ⟨13, .guard⟩ (by simp) rfl 66 rfl
                            exact .inr ⟨(by show (match ρ (.tmp 66) with | .bool b => b == true | _ => false) = false; rw [g13]; rfl), rfl⟩
                          · -- 15
                            have g13 : ρ (.tmp 66) = .bool false := hd ⟨13, .guard⟩ (by simp) rfl 66 rfl
                            exact .inr ⟨(by show (match ρ (.tmp 66) with | .bool b => b == true | _ => false) = false; rw [g13]; rfl), rfl⟩
                          · -- 16
                            have g13 : ρ (.tmp 66) = .bool false := hd ⟨13, .guard⟩ (by simp) rfl 66 rfl
                            exact .inr ⟨(by show (match ρ (.tmp 66) with | .bool b => b == true | _ => false) = false; rw [g13]; rfl), rfl⟩
                          · -- 17
                            have g13 : ρ (.tmp 66) = .bool false := hd ⟨13, .guard⟩ (by simp) rfl 66 rfl
                            exact .inr ⟨(by show (match ρ (.tmp 66) with | .bool b => b == true | _ => false) = false; rw [g13]; rfl), rfl⟩
                          · -- 18
                            have g13 : ρ (.tmp 66) = .bool false := hd ⟨13, .guard⟩ (by simp) rfl 66 rfl
                            exact .inr ⟨(by show (match ρ (.tmp 66) with | .bool b => b == true | _ => false) = false; rw [g13]; rfl), rfl⟩
                          · -- 19
                            have g13 : ρ (.tmp 66) = .bool false := hd ⟨13, .guard⟩ (by simp) rfl 66 rfl
                            exact .inr ⟨(by show (match ρ (.tmp 66) with | .bool b => b == true | _ => false) = false; rw [g13]; rfl), rfl⟩
                          · -- 20
                            have g13 : ρ (.tmp 66) = .bool false := hd ⟨13, .guard⟩ (by simp) rfl 66 rfl
                            exact .inr ⟨(by show (match ρ (.tmp 66) with | .bool b => b == true | _ => false) = false; rw [g13]; rfl), rfl⟩
                          · -- 21
                            have g13 : ρ (.tmp 66) = .bool false := hd ⟨13, .guard⟩ (by simp) rfl 66 rfl
                            exact .inr ⟨(by show (match ρ (.tmp 66) with | .bool b => b == true | _ => false) = false; rw [g13]; rfl), rfl⟩
                          · -- 22
                            have g13 : ρ (.tmp 66) = .bool false := hd ⟨13, .guard⟩ (by simp) rfl 66 rfl
                            exact .inr ⟨(by show (match ρ (.tmp 66) with | .bool b => b == true | _ => false) = false; rw [g13]; rfl), rfl⟩
                          · -- 23
                            have g13 : ρ (.tmp 66) = .bool false := hd ⟨13, .guard⟩ (by simp) rfl 66 rfl
                            exact .inr ⟨(by show (match ρ (.tmp 66) with | .bool b => b == true | _ => false) = false; rw [g13]; rfl), rfl⟩
                          · -- 24
                            have g13 : ρ (.tmp 66) = .bool false := hd ⟨13, .guard⟩ (by simp) rfl 66 rfl
                            exact .inr ⟨(by show (match ρ (.tmp 66) with | .bool b => b == true | _ => false) = false; rw [g13]; rfl), rfl⟩
                          · -- 25
                            have g13 : ρ (.tmp 66) = .bool false := hd ⟨13, .guard⟩ (by simp) rfl 66 rfl
                            exact .inr ⟨(by show (match ρ (.tmp 66) with | .bool b => b == true | _ => false) = false; rw [g13]; rfl), rfl⟩
                          · -- 26
                            have g13 : ρ (.tmp 66) = .bool false := hd ⟨13, .guard⟩ (by simp) rfl 66 rfl
                            exact .inr ⟨(by show (match ρ (.tmp 66) with | .bool b => b == true | _ => false) = false; rw [g13]; rfl), rfl⟩
                          · -- 27
                            have g7 : ρ (.tmp 60) = .bool false := hd ⟨7, .guard⟩ (by simp) rfl 60 rfl
                            have h13 : ρ (.tmp 66) = .bool false := hd ⟨13, .data⟩ (by simp) rfl 66 rfl
                            exact .inl ⟨(by show (match ρ (.tmp 60) with | .bool b => b == false | _ => false) = true; rw [g7]; rfl), .inl ⟨_, u, run_pick_op rfl h13, (by simpa using hc _), hR, Below.refl _ _⟩⟩
                          · -- 28
                            have h7 : ρ (.tmp 60) = .bool false := hd ⟨7, .data⟩ (by simp) rfl 60 rfl
                            have h27 : ρ (.tmp 80) = .bool false := hd ⟨27, .data⟩ (by simp) rfl 80 rfl
                            exact .inl ⟨rfl, .inl ⟨_, u, run_pick_op rfl h7, (by simpa using h27), hR, Below.refl _ _⟩⟩
                          · -- 29
                            have h28 : ρ (.tmp 81) = .bool false := hd ⟨28, .data⟩ (by simp) rfl 81 rfl
                            exact .inl ⟨rfl, .inl ⟨_, u, rfl, h28, hR, Below.refl _ _⟩⟩
                          · -- 30
                            have g29 : ρ (.tmp 82) = .bool false := hd ⟨29, .guard⟩ (by simp) rfl 82 rfl
                            have s1 : ρ (.tmp 1) = .pointer (some ⟨G, 0, none⟩) := (hρ 1 (by kernel_rfl)).trans rfl
                            exact .inl ⟨(by show (match ρ (.tmp 82) with | .bool b => b == false | _ => false) = true; rw [g29]; rfl), .inl ⟨.pointer (some ⟨G, 11, none⟩), u, run_field_op rfl s1 (by go_simp), rfl, hR, Below.refl _ _⟩⟩
                          · -- 31
                            have g29 : ρ (.tmp 82) = .bool false := hd ⟨29, .guard⟩ (by simp) rfl 82 rfl
                            have h30 : ρ (.tmp 83) = .pointer (some ⟨G, 11, none⟩) := hd ⟨30, .data⟩ (by simp) rfl 83 rfl
                            have y9 : u.cell? ⟨G, 11, none⟩ = some (.slice (some ⟨b4, o4, none⟩) D.hs.length c4) := (HK.out.1.below hR).rng 11 _ rfl
                            have hr : (Instr.loadAt 38 (.pointer (some ⟨G, 11, none⟩))).run Try.prog u = .ok (.slice (some ⟨b4, o4, none⟩) D.hs.length c4) u := by go_simp
                            exact .inl ⟨(by show (match ρ (.tmp 82) with | .bool b => b == false | _ => false) = true; rw [g29]; rfl), .inl ⟨.slice (some ⟨b4, o4, none⟩) D.hs.length c4, u, run_load_op rfl h30 hr, rfl, hR, Below.refl _ _⟩⟩
                          · -- 32
                            have g29 : ρ (.tmp 82) = .bool false := hd ⟨29, .guard⟩ (by simp) rfl 82 rfl
                            have s4 : ρ (.tmp 4) = .int .i64 (k : Int) := (hρ 4 (by kernel_rfl)).trans rfl
                            exact .inl ⟨(by show (match ρ (.tmp 82) with | .bool b => b == false | _ => false) = true; rw [g29]; rfl), .inl ⟨_, u, rfl, s4, hR, Below.refl _ _⟩⟩
                          · -- 33
                            have g29 : ρ (.tmp 82) = .bool false := hd ⟨29, .guard⟩ (by simp) rfl 82 rfl
                            have h31 : ρ (.tmp 84) = .slice (some ⟨b4, o4, none⟩) D.hs.length c4 := hd ⟨31, .data⟩ (by simp) rfl 84 rfl
                            have h32 : ρ (.tmp 85) = .int .i64 (k : Int) := hd ⟨32, .data⟩ (by simp) rfl 85 rfl
                            exact .inl ⟨(by show (match ρ (.tmp 82) with | .bool b => b == false | _ => false) = true; rw [g29]; rfl), .inl ⟨.pointer (some ⟨b4, o4 + k, none⟩), u, run_index_op rfl h31 h32 (by go_simp), rfl, hR, Below.refl _ _⟩⟩
                          · -- 34
                            have g29 : ρ (.tmp 82) = .bool false := hd ⟨29, .guard⟩ (by simp) rfl 82 rfl
                            have h33 : ρ (.tmp 86) = .pointer (some ⟨b4, o4 + k, none⟩) := hd ⟨33, .data⟩ (by simp) rfl 86 rfl
                            have y9 : u.cell? ⟨b4, o4 + k, none⟩ = some (.bool false) := (rangeAt_below HK.out.2.2.2.2.2.2.1 HK.out.2.2.2.2.2.1 hR) 0 _ rfl
                            have hr : (Instr.loadAt 4 (.pointer (some ⟨b4, o4 + k, none⟩))).run Try.prog u = .ok (.bool false) u := by go_simp
                            exact .inl ⟨(by show (match ρ (.tmp 82) with | .bool b => b == false | _ => false) = true; rw [g29]; rfl), .inl ⟨.bool false, u, run_load_op rfl h33 hr, rfl, hR, Below.refl _ _⟩⟩
                          · -- 35
                            have g29 : ρ (.tmp 82) = .bool false := hd ⟨29, .guard⟩ (by simp) rfl 82 rfl
                            have h34 : ρ (.tmp 87) = .bool false := hd ⟨34, .data⟩ (by simp) rfl 87 rfl
                            exact .inl ⟨(by show (match ρ (.tmp 82) with | .bool b => b == false | _ => false) = true; rw [g29]; rfl), .inl ⟨.bool true, u, run_un_op rfl h34 (by go_simp), rfl, hR, Below.refl _ _⟩⟩
                          · -- 36
                            have g29 : ρ (.tmp 82) = .bool false := hd ⟨29, .guard⟩ (by simp) rfl 82 rfl
                            have h35 : ρ (.tmp 88) = .bool true := hd ⟨35, .data⟩ (by simp) rfl 88 rfl
                            exact .inl ⟨(by show (match ρ (.tmp 82) with | .bool b => b == false | _ => false) = true; rw [g29]; rfl), .inl ⟨_, u, rfl, h35, hR, Below.refl _ _⟩⟩
                          · -- 37
                            have g36 : ρ (.tmp 89) = .bool true := hd ⟨36, .guard⟩ (by simp) rfl 89 rfl
                            have s1 : ρ (.tmp 1) = .pointer (some ⟨G, 0, none⟩) := (hρ 1 (by kernel_rfl)).trans rfl
                            exact .inl ⟨(by show (match ρ (.tmp 89) with | .bool b => b == true | _ => false) = true; rw [g36]; rfl), .inl ⟨.pointer (some ⟨G, 12, none⟩), u, run_field_op rfl s1 (by go_simp), rfl, hR, Below.refl _ _⟩⟩
                          · -- 38
                            have g36 : ρ (.tmp 89) = .bool true := hd ⟨36, .guard⟩ (by simp) rfl 89 rfl
                            have h37 : ρ (.tmp 90) = .pointer (some ⟨G, 12, none⟩) := hd ⟨37, .data⟩ (by simp) rfl 90 rfl
                            have y9 : u.cell? ⟨G, 12, none⟩ = some (.slice (some ⟨b5, o5, none⟩) D.nt c5) := (HK.out.1.below hR).rng 12 _ rfl
                            have hr : (Instr.loadAt 42 (.pointer (some ⟨G, 12, none⟩))).run Try.prog u = .ok (.slice (some ⟨b5, o5, none⟩) D.nt c5) u := by go_simp
                            exact .inl ⟨(by show (match ρ (.tmp 89) with | .bool b => b == true | _ => false) = true; rw [g36]; rfl), .inl ⟨.slice (some ⟨b5, o5, none⟩) D.nt c5, u, run_load_op rfl h37 hr, rfl, hR, Below.refl _ _⟩⟩
                          · -- 39
                            have g36 : ρ (.tmp 89) = .bool true := hd ⟨36, .guard⟩ (by simp) rfl 89 rfl
                            have s4 : ρ (.tmp 4) = .int .i64 (k : Int) := (hρ 4 (by kernel_rfl)).trans rfl
                            exact .inl ⟨(by show (match ρ (.tmp 89) with | .bool b => b == true | _ => false) = true; rw [g36]; rfl), .inl ⟨_, u, rfl, s4, hR, Below.refl _ _⟩⟩
                          · -- 40
                            have g36 : ρ (.tmp 89) = .bool true := hd ⟨36, .guard⟩ (by simp) rfl 89 rfl
                            have h38 : ρ (.tmp 91) = .slice (some ⟨b5, o5, none⟩) D.nt c5 := hd ⟨38, .data⟩ (by simp) rfl 91 rfl
                            have h39 : ρ (.tmp 92) = .int .i64 (k : Int) := hd ⟨39, .data⟩ (by simp) rfl 92 rfl
                            exact .inl ⟨(by show (match ρ (.tmp 89) with | .bool b => b == true | _ => false) = true; rw [g36]; rfl), .inl ⟨.pointer (some ⟨b5, o5 + k * 6, none⟩), u, run_index_op rfl h38 h39 (by go_simp), rfl, hR, Below.refl _ _⟩⟩
                          · -- 41
                            have g36 : ρ (.tmp 89) = .bool true := hd ⟨36, .guard⟩ (by simp) rfl 89 rfl
                            have h40 : ρ (.tmp 93) = .pointer (some ⟨b5, o5 + k * 6, none⟩) := hd ⟨40, .data⟩ (by simp) rfl 93 rfl
                            have hr : (Instr.loadAt 63 (.pointer (some ⟨b5, o5 + k * 6, none⟩))).run Try.prog u = .ok (.agg (aL (D.tl k) t1 (D.tl k).ws.length j1 t2 (D.tl k).bs.length j2).toArray) u := run_loadAt_mid u b5 (o5 + k * 6) 63 (aL (D.tl k) t1 (D.tl k).ws.length j1 t2 (D.tl k).bs.length j2) _ (rangeAt_below HK.out.2.2.2.2.1 HK.out.2.2.2.1 hR) Try.underlying63 rfl (by kernel_rfl)
                            exact .inl ⟨(by show (match ρ (.tmp 89) with | .bool b => b == true | _ => false) = true; rw [g36]; rfl), .inl ⟨.agg (aL (D.tl k) t1 (D.tl k).ws.length j1 t2 (D.tl k).bs.length j2).toArray, u, run_load_op rfl h40 hr, rfl, hR, Below.refl _ _⟩⟩
                          · -- 42
                            have g36 : ρ (.tmp 89) = .bool true := hd ⟨36, .guard⟩ (by simp) rfl 89 rfl
                            have h41 : ρ (.tmp 94) = .agg (aL (D.tl k) t1 (D.tl k).ws.length j1 t2 (D.tl k).bs.length j2).toArray := hd ⟨41, .data⟩ (by simp) rfl 94 rfl
                            refine .inl ⟨(by show (match ρ (.tmp 89) with | .bool b => b == true | _ => false) = true; rw [g36]; rfl), .inr ⟨_, _, run_call_op rfl (hf _) (args := #[.agg (aL (D.tl k) t1 (D.tl k).ws.length j1 t2 (D.tl k).bs.length j2).toArray]) (by simp [h41]) (by kernel_rfl), ?_⟩⟩
                            refine (noResp_any (D.tl k) t1 j1 t2 j2 _).mono ?_
                            rintro e u' ⟨he, b'⟩
                            exact ⟨_, he.trans (by rw [HK.out.2.2.2.2.2.2.2.2.2.2.2.2.2.2]), rfl, bel_nx hR b', b'⟩
                          · -- 43
                            have g36 : ρ (.tmp 89) = .bool true := hd ⟨36, .guard⟩ (by simp) rfl 89 rfl
                            have h42 : ρ (.tmp 95) = .bool false := hd ⟨42, .data⟩ (by simp) rfl 95 rfl
                            exact .inl ⟨(by show (match ρ (.tmp 89) with | .bool b => b == true | _ => false) = true; rw [g36]; rfl), .inl ⟨.bool true, u, run_un_op rfl h42 (by go_simp), rfl, hR, Below.refl _ _⟩⟩
                          · -- 44
                            have g29 : ρ (.tmp 82) = .bool false := hd ⟨29, .guard⟩ (by simp) rfl 82 rfl
                            have h36 : ρ (.tmp 89) = .bool true := hd ⟨36, .data⟩ (by simp) rfl 89 rfl
                            have h43 : ρ (.tmp 96) = .bool true := hd ⟨43, .data⟩ (by simp) rfl 96 rfl
                            exact .inl ⟨(by show (match ρ (.tmp 82) with | .bool b => b == false | _ => false) = true; rw [g29]; rfl), .inl ⟨_, u, run_pick_op rfl h36, (by simpa using h43), hR, Below.refl _ _⟩⟩
                          · -- 45
                            have h29 : ρ (.tmp 82) = .bool false := hd ⟨29, .data⟩ (by simp) rfl 82 rfl
                            have h44 : ρ (.tmp 97) = .bool true := hd ⟨44, .data⟩ (by simp) rfl 97 rfl
                            exact .inl ⟨rfl, .inl ⟨_, u, run_pick_op rfl h29, (by simpa using h44), hR, Below.refl _ _⟩⟩
                      | true =>
                        refine wp_region_any (by kernel_rfl) ?_
                        refine wpAny_vals (fun u => Below wr.heap.size wr u) (fun i v u => match i with
                          | 0 => v = .pointer (some ⟨G, 10, none⟩)
                          | 1 => v = .slice (some ⟨b3, o3, none⟩) D.np c3
                          | 2 => v = .int .i64 (k : Int)
                          | 3 => v = .pointer (some ⟨b3, o3 + k * 8, none⟩)
                          | 4 => v = .agg (pL (D.pt k) p1 (D.pt k).q.ws.length k1 p2 (D.pt k).q.bs.length k2).toArray
                          | 5 => v = .bool true
                          | 6 => v = .bool false
                          | 7 => v = .bool false
                          | 8 => v = .pointer (some ⟨G, 11, none⟩)
                          | 9 => v = .slice (some ⟨b4, o4, none⟩) D.hs.length c4
                          | 10 => v = .int .i64 (k : Int)
                          | 11 => v = .pointer (some ⟨b4, o4 + k, none⟩)
                          | 12 => v = .bool false
                          | 13 => v = .bool false
                          | 14 => v = undef
                          | 15 => v = undef
                          | 16 => v = undef
                          | 17 => v = undef
                          | 18 => v = undef
                          | 19 => v = undef
                          | 20 => v = undef
                          | 21 => v = undef
                          | 22 => v = undef
                          | 23 => v = undef
                          | 24 => v = undef
                          | 25 => v = undef
                          | 26 => v = undef
                          | 27 => v = .bool false
                          | 28 => v = .bool false
                          | 29 => v = .bool false
                          | 30 => v = .pointer (some ⟨G, 11, none⟩)
                          | 31 => v = .slice (some ⟨b4, o4, none⟩) D.hs.length c4
                          | 32 => v = .int .i64 (k : Int)
                          | 33 => v = .pointer (some ⟨b4, o4 + k, none⟩)
                          | 34 => v = .bool false
                          | 35 => v = .bool true
                          | 36 => v = .bool true
                          | 37 => v = .pointer (some ⟨G, 12, none⟩)
                          | 38 => v = .slice (some ⟨b5, o5, none⟩) D.nt c5
                          | 39 => v = .int .i64 (k : Int)
                          | 40 => v = .pointer (some ⟨b5, o5 + k * 6, none⟩)
                          | 41 => v = .agg (aL (D.tl k) t1 (D.tl k).ws.length j1 t2 (D.tl k).bs.length j2).toArray
                          | 42 => v = .bool true
                          | 43 => v = .bool false
                          | 44 => v = .bool false
                          | 45 => v = .bool false
                          | _ => True) (by kernel_rfl) (by kernel_rfl) (fun _ _ _ _ h _ => h) (by first | exact Below.refl _ _ | exact (Below.refl _ _).drew) ?_ ?_ _ _ rfl (by decide) (fun i => by simp [Array.getD]; try (split <;> rfl))
                        · intro vs u hR hall
                          have e45 : vs 45 = .bool false := hall 45 (by simp)
                          simp only [putsL]
                          rw [e45]
                          clear hall e45
                          have HF : Hid (allN (fun i => okPt (D.pt i)) (k + 1) = true ∧ allN (tdB D) (k + 1) = true ∧ allN (fun i => D.hs.getD i false) (k + 1) = (al && false) ∧ Below w1.heap.size w1 u) := ⟨allN_succ HA.out.1 HA.out.2.2.1, allN_succ HA.out.2.1 HA.out.2.2.2.1, by show (allN (fun i => D.hs.getD i false) k && D.hs.getD k false) = _; rw [HL.out, HA.out.2.2.2.2.1], bel_nx HA.out.2.2.2.2.2 hR⟩
                          obtain ⟨⟨y0, y1, y2, y3, y4, y5, y6, y7, y8, y9, y10, y11, y12⟩, yf⟩ := (HK.out.1.below hR).tc13
                          clear yf
                          have d0 : u.cell? ⟨b4, o4 + k, none⟩ = some (.bool false) := (rangeAt_below HK.out.2.2.2.2.2.2.1 HK.out.2.2.2.2.2.1 hR) 0 _ rfl
                          clear HK HA hR
                          go_simp
                          cases al with
                          | false =>
                            go_wp2
                            go_roundw
                            case rel => exact ⟨k + 1, by omega, by go_num, by rw [HF.out.2.2.1]; rfl, HF.out.1, HF.out.2.1, HF.out.2.2.2⟩
                            case measure => simp [intOf]; omega
                          | true =>
                            go_wp2
                            go_roundw
                            case rel => exact ⟨k + 1, by omega, by go_num, by rw [HF.out.2.2.1]; rfl, HF.out.1, HF.out.2.1, HF.out.2.2.2⟩
                            case measure => simp [intOf]; omega
                        · intro u i o ρ hR ho hρ hc hf hd
                          have hi : i < 46 := by
                            have := (Array.getElem?_eq_some_iff.1 ho).1
                            simpa using this
                          obtain rfl | rfl | rfl | rfl | rfl | rfl | rfl | rfl | rfl | rfl | rfl | rfl | rfl | rfl | rfl | rfl | rfl | rfl | rfl | rfl | rfl | rfl | rfl | rfl | rfl | rfl | rfl | rfl | rfl | rfl | rfl | rfl | rfl | rfl | rfl | rfl | rfl | rfl | rfl | rfl | rfl | rfl | rfl | rfl | rfl | rfl : i = 0 ∨ i = 1 ∨ i = 2 ∨ i = 3 ∨ i = 4 ∨ i = 5 ∨ i = 6 ∨ i = 7 ∨ i = 8 ∨ i = 9 ∨ i = 10 ∨ i = 11 ∨ i = 12 ∨ i = 13 ∨ i = 14 ∨ i = 15 ∨ i = 16 ∨ i = 17 ∨ i = 18 ∨ i = 19 ∨ i = 20 ∨ i = 21 ∨ i = 22 ∨ i = 23 ∨ i = 24 ∨ i = 25 ∨ i = 26 ∨ i = 27 ∨ i = 28 ∨ i = 29 ∨ i = 30 ∨ i = 31 ∨ i = 32 ∨ i = 33 ∨ i = 34 ∨ i = 35 ∨ i = 36 ∨ i = 37 ∨ i = 38 ∨ i = 39 ∨ i = 40 ∨ i = 41 ∨ i = 42 ∨ i = 43 ∨ i = 44 ∨ i = 45 := by omega
                          all_goals (simp only [List.getElem?_toArray, List.getElem?_cons_zero, List.getElem?_cons_succ, Option.some.injEq] at ho; subst ho)
                          · -- 0
                            have s1 : ρ (.tmp 1) = .pointer (some ⟨G, 0, none⟩) := (hρ 1 (by kernel_rfl)).trans rfl
                            exact .inl ⟨rfl, .inl ⟨.pointer (some ⟨G, 10, none⟩), u, run_field_op rfl s1 (by go_simp), rfl, hR, Below.refl _ _⟩⟩
                          · -- 1
                            have h0 : ρ (.tmp 53) = .pointer (some ⟨G, 10, none⟩) := hd ⟨0, .data⟩ (by simp) rfl 53 rfl
                            have y9 : u.cell? ⟨G, 10, none⟩ = some (.slice (some ⟨b3, o3, none⟩) D.np c3) := (HK.out.1.below hR).rng 10 _ rfl
                            have hr : (Instr.loadAt 41 (.pointer (some ⟨G, 10, none⟩))).run Try.prog u = .ok (.slice (some ⟨b3, o3, none⟩) D.np c3) u := by go_simp
                            exact .inl ⟨rfl, .inl ⟨.slice (some ⟨b3, o3, none⟩) D.np c3, u, run_load_op rfl h0 hr, rfl, hR, Below.refl _ _⟩⟩
                          · -- 2
                            have s4 : ρ (.tmp 4) = .int .i64 (k : Int) := (hρ 4 (by kernel_rfl)).trans rfl
                            exact .inl ⟨rfl, .inl ⟨_, u, rfl, s4, hR, Below.refl _ _⟩⟩
                          · -- 3
                            have h1 : ρ (.tmp 54) = .slice (some ⟨b3, o3, none⟩) D.np c3 := hd ⟨1, .data⟩ (by simp) rfl 54 rfl
                            have h2 : ρ (.tmp 55) = .int .i64 (k : Int) := hd ⟨2, .data⟩ (by simp) rfl 55 rfl
                            exact .inl ⟨rfl, .inl ⟨.pointer (some ⟨b3, o3 + k * 8, none⟩), u, run_index_op rfl h1 h2 (by go_simp), rfl, hR, Below.refl _ _⟩⟩
                          · -- 4
                            have h3 : ρ (.tmp 56) = .pointer (some ⟨b3, o3 + k * 8, none⟩) := hd ⟨3, .data⟩ (by simp) rfl 56 rfl
                            have hr : (Instr.loadAt 60 (.pointer (some ⟨b3, o3 + k * 8, none⟩))).run Try.prog u = .ok (.agg (pL (D.pt k) p1 (D.pt k).q.ws.length k1 p2 (D.pt k).q.bs.length k2).toArray) u := run_loadAt_mid u b3 (o3 + k * 8) 60 (pL (D.pt k) p1 (D.pt k).q.ws.length k1 p2 (D.pt k).q.bs.length k2) _ (rangeAt_below HK.out.2.2.1 HK.out.2.1 hR) Try.underlying60 rfl (by kernel_rfl)
                            exact .inl ⟨rfl, .inl ⟨.agg (pL (D.pt k) p1 (D.pt k).q.ws.length k1 p2 (D.pt k).q.bs.length k2).toArray, u, run_load_op rfl h3 hr, rfl, hR, Below.refl _ _⟩⟩
                          · -- 5
                            have h4 : ρ (.tmp 57) = .agg (pL (D.pt k) p1 (D.pt k).q.ws.length k1 p2 (D.pt k).q.bs.length k2).toArray := hd ⟨4, .data⟩ (by simp) rfl 57 rfl
                            refine .inl ⟨rfl, .inr ⟨_, _, run_call_op rfl (hf _) (args := #[.agg (pL (D.pt k) p1 (D.pt k).q.ws.length k1 p2 (D.pt k).q.bs.length k2).toArray]) (by simp [h4]) (by kernel_rfl), ?_⟩⟩
                            refine (specPart_any (D.pt k) p1 k1 p2 k2 _ (HK.out.2.2.2.2.2.2.2.1.below hR) (HK.out.2.2.2.2.2.2.2.2.1.below hR) HK.out.2.2.2.2.2.2.2.2.2.2.2.1).mono ?_
                            rintro e u' ⟨he, b'⟩
                            exact ⟨_, he.trans (by rw [HK.out.2.2.2.2.2.2.2.2.2.2.2.2.2.1]), rfl, bel_nx hR b', b'⟩
                          · -- 6
                            have h5 : ρ (.tmp 58) = .bool true := hd ⟨5, .data⟩ (by simp) rfl 58 rfl
                            exact .inl ⟨rfl, .inl ⟨.bool false, u, run_un_op rfl h5 (by go_simp), rfl, hR, Below.refl _ _⟩⟩
                          · -- 7
                            have h6 : ρ (.tmp 59) = .bool false := hd ⟨6, .data⟩ (by simp) rfl 59 rfl
                            exact .inl ⟨rfl, .inl ⟨_, u, rfl, h6, hR, Below.refl _ _⟩⟩
                          · -- 8
                            have g7 : ρ (.tmp 60) = .bool false := hd ⟨7, .guard⟩ (by simp) rfl 60 rfl
                            have s1 : ρ (.tmp 1) = .pointer (some ⟨G, 0, none⟩) := (hρ 1 (by kernel_rfl)).trans rfl
                            exact .inl ⟨(by show (match ρ (.tmp 60) with | .bool b => b == false | _ => false) = true; rw [g7]; rfl), .inl ⟨.pointer (some ⟨G, 11, none⟩), u, run_field_op rfl s1 (by go_simp), rfl, hR, Below.refl _ _⟩⟩
                          · -- 9
                            have g7 : ρ (.tmp 60) = .bool false := hd ⟨7, .guard⟩ (by simp) rfl 60 rfl
                            have h8 : ρ (.tmp 61) = .pointer (some ⟨G, 11, none⟩) := hd ⟨8, .data⟩ (by simp) rfl 61 rfl
                            have y9 : u.cell? ⟨G, 11, none⟩ = some (.slice (some ⟨b4, o4, none⟩) D.hs.length c4) := (HK.out.1.below hR).rng 11 _ rfl
                            have hr : (Instr.loadAt 38 (.pointer (some ⟨G, 11, none⟩))).run Try.prog u = .ok (.slice (some ⟨b4, o4, none⟩) D.hs.length c4) u := by go_simp
                            exact .inl ⟨(by show (match ρ (.tmp 60) with | .bool b => b == false | _ => false) = true; rw [g7]; rfl), .inl ⟨.slice (some ⟨b4, o4, none⟩) D.hs.length c4, u, run_load_op rfl h8 hr, rfl, hR, Below.refl _ _⟩⟩
                          · -- 10
                            have g7 : ρ (.tmp 60) = .bool false := hd ⟨7, .guard⟩ (by simp) rfl 60 rfl
                            have s4 : ρ (.tmp 4) = .int .i64 (k : Int) := (hρ 4 (by kernel_rfl)).trans rfl
                            exact .inl ⟨(by show (match ρ (.tmp 60) with | .bool b => b == false | _ => false) = true; rw [g7]; rfl), .inl ⟨_, u, rfl, s4, hR, Below.refl _ _⟩⟩
                          · -- 11
                            have g7 : ρ (.tmp 60) = .bool false := hd ⟨7, .guard⟩ (by simp) rfl 60 rfl
                            have h9 : ρ (.tmp 62) = .slice (some ⟨b4, o4, none⟩) D.hs.length c4 := hd ⟨9, .data⟩ (by simp) rfl 62 rfl
                            have h10 : ρ (.tmp 63) = .int .i64 (k : Int) := hd ⟨10, .data⟩ (by simp) rfl 63 rfl
                            exact .inl ⟨(by show (match ρ (.tmp 60) with | .bool b => b == false | _ => false) = true; rw [g7]; rfl), .inl ⟨.pointer (some ⟨b4, o4 + k, none⟩), u, run_index_op rfl h9 h10 (by go_simp), rfl, hR, Below.refl _ _⟩⟩
                          · -- 12
                            have g7 : ρ (.tmp 60) = .bool false := hd ⟨7, .guard⟩ (by simp) rfl 60 rfl
                            have h11 : ρ (.tmp 64) = .pointer (some ⟨b4, o4 + k, none⟩) := hd ⟨11, .data⟩ (by simp) rfl 64 rfl
                            have y9 : u.cell? ⟨b4, o4 + k, none⟩ = some (.bool false) := (rangeAt_below HK.out.2.2.2.2.2.2.1 HK.out.2.2.2.2.2.1 hR) 0 _ rfl
                            have hr : (Instr.loadAt 4 (.pointer (some ⟨b4, o4 + k, none⟩))).run Try.prog u = .ok (.bool false) u := by go_simp
                            exact .inl ⟨(by show (match ρ (.tmp 60) with | .bool b => b == false | _ => false) = true; rw [g7]; rfl), .inl ⟨.bool false, u, run_load_op rfl h11 hr, rfl, hR, Below.refl _ _⟩⟩
                          · -- 13
                            have g7 : ρ (.tmp 60) = .bool false := hd ⟨7, .guard⟩ (by simp) rfl 60 rfl
                            have h12 : ρ (.tmp 65) = .bool false := hd ⟨12, .data⟩ (by simp) rfl 65 rfl
                            exact .inl ⟨(by show (match ρ (.tmp 60) with | .bool b => b == false | _ => false) = true; rw [g7]; rfl), .inl ⟨_, u, rfl, h12, hR, Below.refl _ _⟩⟩
                          · -- 14
                            have g13 : ρ (.tmp 66) = .bool false := hd ⟨13, .guard⟩ (by simp) rfl 66 rfl
                            exact .inr ⟨(by show (match ρ (.tmp 66) with | .bool b => b == true | _ => false) = false; rw [g13]; rfl), rfl⟩
                          · -- 15
                            have g13 : ρ (.tmp 66) = .bool false := hd ⟨13, .guard⟩ (by simp) rfl 66 rfl
                            exact .inr ⟨(by show (match ρ (.tmp 66) with | .bool b => b == true | _ => false) = false; rw [g13]; rfl), rfl⟩
                          · -- 16
                            have g13 : ρ (.tmp 66) = .bool false := hd ⟨13, .guard⟩ (by simp) rfl 66 rfl
                            exact .inr ⟨(by show (match ρ (.tmp 66) with | .bool b => b == true | _ => false) = false; rw [g13]; rfl), rfl⟩
                          · -- 17
                            have g13 : ρ (.tmp 66) = .bool false := hd ⟨13, .guard⟩ (by simp) rfl 66 rfl
                            exact .inr ⟨(by show (match ρ (.tmp 66) with | .bool b => b == true | _ => false) = false; rw [g13]; rfl), rfl⟩
                          · -- 18
                            have g13 : ρ (.tmp 66) = .bool false := hd ⟨13, .guard⟩ (by simp) rfl 66 rfl
                            exact .inr ⟨(by show (match ρ (.tmp 66) with | .bool b => b == true | _ => false) = false; rw [g13]; rfl), rfl⟩
                          · -- 19
                            have g13 : ρ (.tmp 66) = .bool false := hd ⟨13, .guard⟩ (by simp) rfl 66 rfl
                            exact .inr ⟨(by show (match ρ (.tmp 66) with | .bool b => b == true | _ => false) = false; rw [g13]; rfl), rfl⟩
                          · -- 20
                            have g13 : ρ (.tmp 66) = .bool false := hd ⟨13, .guard⟩ (by simp) rfl 66 rfl
                            exact .inr ⟨(by show (match ρ (.tmp 66) with | .bool b => b == true | _ => false) = false; rw [g13]; rfl), rfl⟩
                          · -- 21
                            have g13 : ρ (.tmp 66) = .bool false := hd ⟨13, .guard⟩ (by simp) rfl 66 rfl
                            exact .inr ⟨(by show (match ρ (.tmp 66) with | .bool b => b == true | _ => false) = false; rw [g13]; rfl), rfl⟩
                          · -- 22
                            have g13 : ρ (.tmp 66) = .bool false := hd ⟨13, .guard⟩ (by simp) rfl 66 rfl
                            exact .inr ⟨(by show (match ρ (.tmp 66) with | .bool b => b == true | _ => false) = false; rw [g13]; rfl), rfl⟩
                          · -- 23
                            have g13 : ρ (.tmp 66) = .bool false := hd ⟨13, .guard⟩ (by simp) rfl 66 rfl
                            exact .inr ⟨(by show (match ρ (.tmp 66) with | .bool b => b == true | _ => false) = false; rw [g13]; rfl), rfl⟩
                          · -- 24
                            have g13 : ρ (.tmp 66) = .bool false := hd ⟨13, .guard⟩ (by simp) rfl 66 rfl
                            exact .inr ⟨(by show (match ρ (.tmp 66) with | .bool b => b == true | _ => false) = false; rw [g13]; rfl), rfl⟩
                          · -- 25
                            have g13 : ρ (.tmp 66) = .bool false := hd ⟨13, .guard⟩ (by simp) rfl 66 rfl
                            exact .inr ⟨(by show (match ρ (.tmp 66) with | .bool b => b == true | _ => false) = false; rw [g13]; rfl), rfl⟩
                          · -- 26
                            have g13 : ρ (.tmp 66) = .bool false := hd ⟨13, .guard⟩ (by simp) rfl 66 rfl
                            exact .inr ⟨(by show (match ρ (.tmp 66) with | .bool b => b == true | _ => false) = false; rw [g13]; rfl), rfl⟩
                          · -- 27
                            have g7 : ρ (.tmp 60) = .bool false := hd ⟨7, .guard⟩ (by simp) rfl 60 rfl
                            have h13 : ρ (.tmp 66) = .bool false := hd ⟨13, .data⟩ (by simp) rfl 66 rfl
                            exact .inl ⟨(by show (match ρ (.tmp 60) with | .bool b => b == false | _ => false) = true; rw [g7]; rfl), .inl ⟨_, u, run_pick_op rfl h13, (by simpa using hc _), hR, Below.refl _ _⟩⟩
                          · -- 28
                            have h7 : ρ (.tmp 60) = .bool false := hd ⟨7, .data⟩ (by simp) rfl 60 rfl
                            have h27 : ρ (.tmp 80) = .bool false := hd ⟨27, .data⟩ (by simp) rfl 80 rfl
                            exact .inl ⟨rfl, .inl ⟨_, u, run_pick_op rfl h7, (by simpa using h27), hR, Below.refl _ _⟩⟩
                          · -- 29
                            have h28 : ρ (.tmp 81) = .bool false := hd ⟨28, .data⟩ (by simp) rfl 81 rfl
                            exact .inl ⟨rfl, .inl ⟨_, u, rfl, h28, hR, Below.refl _ _⟩⟩
                          · -- 30
                            have g29 : ρ (.tmp 82) = .bool false := hd ⟨29, .guard⟩ (by simp) rfl 82 rfl
                            have s1 : ρ (.tmp 1) = .pointer (some ⟨G, 0, none⟩) := (hρ 1 (by kernel_rfl)).trans rfl
                            exact .inl ⟨(by show (match ρ (.tmp 82) with | .bool b => b == false | _ => false) = true; rw [g29]; rfl), .inl ⟨.pointer (some ⟨G, 11, none⟩), u, run_field_op rfl s1 (by go_simp), rfl, hR, Below.refl _ _⟩⟩
                          · -- 31
                            have g29 : ρ (.tmp 82) = .bool false := hd ⟨29, .guard⟩ (by simp) rfl 82 rfl
                            have h30 : ρ (.tmp 83) = .pointer (some ⟨G, 11, none⟩) := hd ⟨30, .data⟩ (by simp) rfl 83 rfl
                            have y9 : u.cell? ⟨G, 11, none⟩ = some (.slice (some ⟨b4, o4, none⟩) D.hs.length c4) := (HK.out.1.below hR).rng 11 _ rfl
                            have hr : (Instr.loadAt 38 (.pointer (some ⟨G, 11, none⟩))).run Try.prog u = .ok (.slice (some ⟨b4, o4, none⟩) D.hs.length c4) u := by go_simp
                            exact .inl ⟨(by show (match ρ (.tmp 82) with | .bool b => b == false | _ => false) = true; rw [g29]; rfl), .inl ⟨.slice (some ⟨b4, o4, none⟩) D.hs.length c4, u, run_load_op rfl h30 hr, rfl, hR, Below.refl _ _⟩⟩
                          · -- 32
                            have g29 : ρ (.tmp 82) = .bool false := hd ⟨29, .guard⟩ (by simp) rfl 82 rfl
                            have s4 : ρ (.tmp 4) = .int .i64 (k : Int) := (hρ 4 (by kernel_rfl)).trans rfl
                            exact .inl ⟨(by show (match ρ (.tmp 82) with | .bool b => b == false | _ => false) = true; rw [g29]; rfl), .inl ⟨_, u, rfl, s4, hR, Below.refl _ _⟩⟩
                          · -- 33
                            have g29 : ρ (.tmp 82) = .bool false := hd ⟨29, .guard⟩ (by simp) rfl 82 rfl
                            have h31 : ρ (.tmp 84) = .slice (some ⟨b4, o4, none⟩) D.hs.length c4 := hd ⟨31, .data⟩ (by simp) rfl 84 rfl
                            have h32 : ρ (.tmp 85) = .int .i64 (k : Int) := hd ⟨32, .data⟩ (by simp) rfl 85 rfl
                            exact .inl ⟨(by show (match ρ (.tmp 82) with | .bool b => b == false | _ => false) = true; rw [g29]; rfl), .inl ⟨.pointer (some ⟨b4, o4 + k, none⟩), u, run_index_op rfl h31 h32 (by go_simp), rfl, hR, Below.refl _ _⟩⟩
                          · -- 34
                            have g29 : ρ (.tmp 82) = .bool false := hd ⟨29, .guard⟩ (by simp) rfl 82 rfl
                            have h33 : ρ (.tmp 86) = .pointer (some ⟨b4, o4 + k, none⟩) := hd ⟨33, .data⟩ (by simp) rfl 86 rfl
                            have y9 : u.cell? ⟨b4, o4 + k, none⟩ = some (.bool false) := (rangeAt_below HK.out.2.2.2.2.2.2.1 HK.out.2.2.2.2.2.1 hR) 0 _ rfl
                            have hr : (Instr.loadAt 4 (.pointer (some ⟨b4, o4 + k, none⟩))).run Try.prog u = .ok (.bool false) u := by go_simp
                            exact .inl ⟨(by show (match ρ (.tmp 82) with | .bool b => b == false | _ => false) = true; rw [g29]; rfl), .inl ⟨.bool false, u, run_load_op rfl h33 hr, rfl, hR, Below.refl _ _⟩⟩
                          · -- 35
                            have g29 : ρ (.tmp 82) = .bool false := hd ⟨29, .guard⟩ (by simp) rfl 82 rfl
                            have h34 : ρ (.tmp 87) = .bool false := hd ⟨34, .data⟩ (by simp) rfl 87 rfl
                            exact .inl ⟨(by show (match ρ (.tmp 82) with | .bool b => b == false | _ => false) = true; rw [g29]; rfl), .inl ⟨.bool true, u, run_un_op rfl h34 (by go_simp), rfl, hR, Below.refl _ _⟩⟩
                          · -- 36
                            have g29 : ρ (.tmp 82) = .bool false := hd ⟨29, .guard⟩ (by simp) rfl 82 rfl
                            have h35 : ρ (.tmp 88) = .bool true := hd ⟨35, .data⟩ (by simp) rfl 88 rfl
                            exact .inl ⟨(by show (match ρ (.tmp 82) with | .bool b => b == false | _ => false) = true; rw [g29]; rfl), .inl ⟨_, u, rfl, h35, hR, Below.refl _ _⟩⟩
                          · -- 37
                            have g36 : ρ (.tmp 89) = .bool true := hd ⟨36, .guard⟩ (by simp) rfl 89 rfl
                            have s1 : ρ (.tmp 1) = .pointer (some ⟨G, 0, none⟩) := (hρ 1 (by kernel_rfl)).trans rfl
                            exact .inl ⟨(by show (match ρ (.tmp 89) with | .bool b => b == true | _ => false) = true; rw [g36]; rfl), .inl ⟨.pointer (some ⟨G, 12, none⟩), u, run_field_op rfl s1 (by go_simp), rfl, hR, Below.refl _ _⟩⟩
                          · -- 38
                            have g36 : ρ (.tmp 89) = .bool true := hd ⟨36, .guard⟩ (by simp) rfl 89 rfl
                            have h37 : ρ (.tmp 90) = .pointer (some ⟨G, 12, none⟩) := hd ⟨37, .data⟩ (by simp) rfl 90 rfl
                            have y9 : u.cell? ⟨G, 12, none⟩ = some (.slice (some ⟨b5, o5, none⟩) D.nt c5) := (HK.out.1.below hR).rng 12 _ rfl
                            have hr : (Instr.loadAt 42 (.pointer (some ⟨G, 12, none⟩))).run Try.prog u = .ok (.slice (some ⟨b5, o5, none⟩) D.nt c5) u := by go_simp
                            exact .inl ⟨(by show (match ρ (.tmp 89) with | .bool b => b == true | _ => false) = true; rw [g36]; rfl), .inl ⟨.slice (some ⟨b5, o5, none⟩) D.nt c5, u, run_load_op rfl h37 hr, rfl, hR, Below.refl _ _⟩⟩
                          · -- 39
                            have g36 : ρ (.tmp 89) = .bool true := hd ⟨36, .guard⟩ (by simp) rfl 89 rfl
                            have s4 : ρ (.tmp 4) = .int .i64 (k : Int) := (hρ 4 (by kernel_rfl)).trans rfl
                            exact .inl ⟨(by show (match ρ (.tmp 89) with | .bool b => b == true | _ => false) = true; rw [g36]; rfl), .inl ⟨_, u, rfl, s4, hR, Below.refl _ _⟩⟩
                          · -- 40
                            have g36 : ρ (.tmp 89) = .bool true := hd ⟨36, .guard⟩ (by simp) rfl 89 rfl
                            have h38 : ρ (.tmp 91) = .slice (some ⟨b5, o5, none⟩) D.nt c5 := hd ⟨38, .data⟩ (by simp) rfl 91 rfl
                            have h39 : ρ (.tmp 92) = .int .i64 (k : Int) := hd ⟨39, .data⟩ (by simp) rfl 92 rfl
                            exact .inl ⟨(by show (match ρ (.tmp 89) with | .bool b => b == true | _ => false) = true; rw [g36]; rfl), .inl ⟨.pointer (some ⟨b5, o5 + k * 6, none⟩), u, run_index_op rfl h38 h39 (by go_simp), rfl, hR, Below.refl _ _⟩⟩
                          · -- 41
                            have g36 : ρ (.tmp 89) = .bool true := hd ⟨36, .guard⟩ (by simp) rfl 89 rfl
                            have h40 : ρ (.tmp 93) = .pointer (some ⟨b5, o5 + k * 6, none⟩) := hd ⟨40, .data⟩ (by simp) rfl 93 rfl
                            have hr : (Instr.loadAt 63 (.pointer (some ⟨b5, o5 + k * 6, none⟩))).run Try.prog u = .ok (.agg (aL (D.tl k) t1 (D.tl k).ws.length j1 t2 (D.tl k).bs.length j2).toArray) u := run_loadAt_mid u b5 (o5 + k * 6) 63 (aL (D.tl k) t1 (D.tl k).ws.length j1 t2 (D.tl k).bs.length j2) _ (rangeAt_below HK.out.2.2.2.2.1 HK.out.2.2.2.1 hR) Try.underlying63 rfl (by kernel_rfl)
                            exact .inl ⟨(by show (match ρ (.tmp 89) with | .bool b => b == true | _ => false) = true; rw [g36]; rfl), .inl ⟨.agg (aL (D.tl k) t1 (D.tl k).ws.length j1 t2 (D.tl k).bs.length j2).toArray, u, run_load_op rfl h40 hr, rfl, hR, Below.refl _ _⟩⟩
                          · -- 42
                            have g36 : ρ (.tmp 89) = .bool true := hd ⟨36, .guard⟩ (by simp) rfl 89 rfl
                            have h41 : ρ (.tmp 94) = .agg (aL (D.tl k) t1 (D.tl k).ws.length j1 t2 (D.tl k).bs.length j2).toArray := hd ⟨41, .data⟩ (by simp) rfl 94 rfl
                            refine .inl ⟨(by show (match ρ (.tmp 89) with | .bool b => b == true | _ => false) = true; rw [g36]; rfl), .inr ⟨_, _, run_call_op rfl (hf _) (args := #[.agg (aL (D.tl k) t1 (D.tl k).ws.length j1 t2 (D.tl k).bs.length j2).toArray]) (by simp [h41]) (by kernel_rfl), ?_⟩⟩
                            refine (noResp_any (D.tl k) t1 j1 t2 j2 _).mono ?_
                            rintro e u' ⟨he, b'⟩
                            exact ⟨_, he.trans (by rw [HK.out.2.2.2.2.2.2.2.2.2.2.2.2.2.2]), rfl, bel_nx hR b', b'⟩
                          · -- 43
                            have g36 : ρ (.tmp 89) = .bool true := hd ⟨36, .guard⟩ (by simp) rfl 89 rfl
                            have h42 : ρ (.tmp 95) = .bool true := hd ⟨42, .data⟩ (by simp) rfl 95 rfl
                            exact .inl ⟨(by show (match ρ (.tmp 89) with | .bool b => b == true | _ => false) = true; rw [g36]; rfl), .inl ⟨.bool false, u, run_un_op rfl h42 (by go_simp), rfl, hR, Below.refl _ _⟩⟩
                          · -- 44
                            have g29 : ρ (.tmp 82) = .bool false := hd ⟨29, .guard⟩ (by simp) rfl 82 rfl
                            have h36 : ρ (.tmp 89) = .bool true := hd ⟨36, .data⟩ (by simp) rfl 89 rfl
                            have h43 : ρ (.tmp 96) = .bool false := hd ⟨43, .data⟩ (by simp) rfl 96 rfl
                            exact .inl ⟨(by show (match ρ (.tmp 82) with | .bool b => b == false | _ => false) = true; rw [g29]; rfl), .inl ⟨_, u, run_pick_op rfl h36, (by simpa using h43), hR, Below.refl _ _⟩⟩
                          · -- 45
                            have h29 : ρ (.tmp 82) = .bool false := hd ⟨29, .data⟩ (by simp) rfl 82 rfl
                            have h44 : ρ (.tmp 97) = .bool false := hd ⟨44, .data⟩ (by simp) rfl 97 rfl
                            exact .inl ⟨rfl, .inl ⟨_, u, run_pick_op rfl h29, (by simpa using h44), hR, Below.refl _ _⟩⟩
                · have hi : ¬ (k : Int) < (D.np : Int) := by omega
                  have e9 : k = D.np := by omega
                  have HF : Hid (allN (fun i => okPt (D.pt i)) D.np = true ∧ allN (tdB D) D.np = true ∧ decide (0 < cntF D.hs D.hs.length) = !al) := by
                    refine ⟨by rw [← e9]; exact hall, by rw [← e9]; exact hall2, ?_⟩
                    have h8 := cntF_all (bs := D.hs) (n := D.hs.length)
                    have h9 := HL.out
                    rw [show k = D.hs.length by have := HT.out.2.2.1; omega] at h9
                    rw [h9] at h8
                    cases al
                    · simp at h8 ⊢; omega
                    · simp at h8 ⊢; omega
                  clear hall hall2 hbl e9
                  go_wp2
                  go_ret
                  exact ⟨by rw [HF.out.1, HF.out.2.1, HF.out.2.2, HT.out.1, HT.out.2.1]; cases al <;> rfl, HB2.out.2⟩
            · have f2 : ((D.nt : Int) != (D.np : Int)) = true := by simp; omega
              have HT : Hid (decide (D.nt = D.np) = false) := decide_eq_false e2
              clear e1 e2
              go_wp2
              go_ret
              exact ⟨by rw [HT.out]; simp, HB.out.2⟩
          · have f1 : ((D.hs.length : Int) != (D.np : Int)) = true := by simp; omega
            have HT : Hid (decide (D.hs.length = D.np) = false) := decide_eq_false e1
            clear e1
            go_wp2
            go_ret
            exact ⟨by rw [HT.out]; simp, HB.out.2⟩
end Go.Proofs.Ytfagbjffhjnmaaa
