/- Which lines are right: LineOk of the model. -/
import Derived.Test.YtmhdneenjoelfaaLn3
namespace Go.Proofs.Ytmhdneenjoelfaa
open Go.RowKit Go.Joins

set_option linter.unusedVariables false

set_option linter.unusedSimpArgs false

theorem askB_in (L : La) (l1 l2 : Nat) : askB L l1 l2 = if L.bz = true then okCa L.c && (inB L.nu 0 65535 && (inB L.du 0 4294967295 && inB L.le 0 L.tr)) else noCa L.c l1 l2 && ((L.nu == 0) && ((L.du == 0) && (L.le == 0))) := by
  unfold askB inB
  cases L.bz <;> simp

set_option maxRecDepth 20000 in
set_option maxHeartbeats 4000000 in
theorem specLineOk_any (L : La) (n cp : Nat) (a a1 a2 : Option Addr) (l1 l2 c1 c2 : Nat) (f : Nat → Ca) (w : World) (hs : LnR w n f L a a1 a2 l1 l2) (hb : BdC n f) (hl1 : l1 ≤ 2000000) (hl2 : l2 ≤ 2000000) :
    Calls Try.prog 33 #[.agg (lac L a n cp a1 a2 l1 l2 c1 c2)] w fun e w' => e = .returned (.bool (okLn n f L l1 l2)) ∧ Below w.heap.size w w' := by
  obtain ⟨g, hg⟩ : ∃ g, g = w.heap.size := ⟨_, rfl⟩
  obtain ⟨W, hW⟩ : ∃ W, W = w.alloc (.cells (lac L a n cp a1 a2 l1 l2 c1 c2) 32) := ⟨_, rfl⟩
  have bW : Below w.heap.size w W := by rw [hW]; exact bel_alloc _ _
  have A0 : Blk W g 32 (lac L a n cp a1 a2 l1 l2 c1 c2) := by rw [hW, hg]; exact Blk.new _ _ _
  obtain ⟨x0, hx0⟩ : ∃ x, inB L.wt 1 100 = x := ⟨_, rfl⟩
  obtain ⟨x1, hx1⟩ : ∃ x, inB L.tr 0 5 = x := ⟨_, rfl⟩
  obtain ⟨x2, hx2⟩ : ∃ x, inB L.nx 0 65535 = x := ⟨_, rfl⟩
  obtain ⟨x4, hx4⟩ : ∃ x, decide (n ≤ 40) = x := ⟨_, rfl⟩
  have he : okLn n f L l1 l2 = (x0 && (x1 && (x4 && (x2 && (allC f n && askB L l1 l2))))) := by unfold okLn; rw [hx0, hx1, hx2, hx4]
  have H4 : Hid (decide (n ≤ 40) = x4) := hx4
  have HX : Hid (inB L.wt 1 100 = x0 ∧ inB L.tr 0 5 = x1 ∧ inB L.nx 0 65535 = x2 ∧ Blk W g 32 (lac L a n cp a1 a2 l1 l2 c1 c2) ∧ LnR W n f L a a1 a2 l1 l2 ∧ BdC n f ∧ Below w.heap.size w W) := ⟨hx0, hx1, hx2, A0, hs.below bW, hb, bW⟩
  rw [he]
  obtain ⟨⟨y0, y1, y2, y3, y4, y5, y6, y7, y8, y9, y10, y11, y12, y13, y14, y15, y16⟩, _⟩ := A0.svn
  have hn2 := hb.1
  clear hx0 hx1 hx2 hx4 hs hb he A0 bW
  go_enter Try.func33, Try.ntmps33
  go_upto_region 1 with fail
  rw [← hW, ← hg]
  clear hW hg
  go_wp2_with fail
  refine (l1In_any _ _ _ _ _ HX.out.1).mono ?_
  rintro e w1 ⟨rfl, hw⟩
  have hw := hw.symm
  subst hw
  cases x0 with
  | false =>
    go_wp2
    go_ret
    exact ⟨rfl, HX.out.2.2.2.2.2.2⟩
  | true =>
    go_wp2_with fail
    refine (l1In_any _ _ _ _ _ HX.out.2.1).mono ?_
    rintro e w1 ⟨rfl, hw⟩
    have hw := hw.symm
    subst hw
    cases x1 with
    | false =>
      go_wp2
      go_ret
      exact ⟨rfl, HX.out.2.2.2.2.2.2⟩
    | true =>
      cases x4 with
      | true =>
        have hg4 : ¬ (40 < (n : Int)) := by have := of_decide_eq_true H4.out; omega
        have h40 : n ≤ 40 := by omega
        go_wp2_with fail
        refine (l1In_any _ _ _ _ _ HX.out.2.2.1).mono ?_
        rintro e w1 ⟨rfl, hw⟩
        have hw := hw.symm
        subst hw
        cases x2 with
        | false =>
          go_wp2
          go_ret
          exact ⟨rfl, HX.out.2.2.2.2.2.2⟩
        | true =>
          go_wp2
          clear y0 y1 y2 y3 y4 y5 y6 y7 y8 y9 y10 y11 y12 y13 y14 y15 y16
          go_loopw [3] (fun i wr => ∃ k : Nat, k ≤ n ∧ i = .int .i64 k ∧ allC f k = true ∧ Below W.heap.size W wr) (fun i _ => n - (intOf i).toNat)
          case atStart => exact ⟨0, Nat.zero_le _, rfl, rfl, Below.refl _ _⟩
          case round =>
            obtain ⟨k, hk, rfl, hall, hbl⟩ := hrel
            obtain ⟨⟨y0, y1, y2, y3, y4, y5, y6, y7, y8, y9, y10, y11, y12, y13, y14, y15, y16⟩, _⟩ := (HX.out.2.2.2.1.below hbl).svn
            by_cases hlt : k < n
            · have hi : (k : Int) < (n : Int) := by omega
              obtain ⟨b, off, b1, b2, m1, m2, k1, k2, rfl, hb0, hm1, hm2, ⟨d0, d1, d2, d3, d4, d5, d6, d7, d8⟩, s1, s2⟩ := SlC.nine (HX.out.2.2.2.2.1.2.2.1.below hbl) hlt
              obtain ⟨C, hC⟩ : ∃ C, C = f k := ⟨_, rfl⟩
              rw [← hC] at d0 d1 d2 d3 d4 d5 d8 hm1 hm2 s1 s2
              obtain ⟨x, hx⟩ : ∃ x, okCa C = x := ⟨_, rfl⟩
              have hbd := HX.out.2.2.2.2.2.1.2 k hlt
              have HS : Hid (SlI wr b1 C.ws ∧ SlB wr b2 C.bs ∧ m1 = C.ws.length ∧ m2 = C.bs.length ∧ m1 ≤ 2000000 ∧ m2 ≤ 2000000 ∧ C = f k ∧ okCa C = x ∧ allC f k = true ∧ Below W.heap.size W wr) := ⟨s1, s2, hm1, hm2, by rw [hm1, hC]; exact hbd.1, by rw [hm2, hC]; exact hbd.2, hC, hx, hall, hbl⟩
              clear s1 s2 hm1 hm2 hC hx hbd hb0 hall hbl
              go_wp2_with fail
              refine (l12Call_any C b1 b2 m1 m2 k1 k2 _ HS.out.2.2.1 HS.out.2.2.2.1 HS.out.1 HS.out.2.1 HS.out.2.2.2.2.1 HS.out.2.2.2.2.2.1).mono ?_
              rintro e w1 ⟨rfl, b9⟩
              rw [HS.out.2.2.2.2.2.2.2.1]
              have HW : Hid (Below W.heap.size W w1) := bel_nx HS.out.2.2.2.2.2.2.2.2.2 b9
              clear b9 d0 d1 d2 d3 d4 d5 d6 d7 d8 y0 y1 y2 y3 y4 y5 y6 y7 y8 y9 y10 y11 y12 y13 y14 y15 y16
              cases x with
              | false =>
                have HF : Hid (allC f n = false) := allC_no hlt (by rw [← HS.out.2.2.2.2.2.2.1]; exact HS.out.2.2.2.2.2.2.2.1)
                go_wp2
                go_ret
                exact ⟨(by rw [HF.out]; rfl), bel_nx HX.out.2.2.2.2.2.2 HW.out⟩
              | true =>
                have HF : Hid (allC f (k + 1) = true) := by show (allC f k && okCa (f k)) = true; rw [HS.out.2.2.2.2.2.2.2.2.1, ← HS.out.2.2.2.2.2.2.1, HS.out.2.2.2.2.2.2.2.1]; rfl
                go_wp2
                go_roundw
                case rel => exact ⟨k + 1, by omega, by go_num, HF.out, HW.out⟩
                case measure => simp [intOf]; omega
            · have hi : ¬ (k : Int) < (n : Int) := by omega
              have e9 : k = n := by omega
              subst e9
              obtain ⟨ab, hab⟩ : ∃ ab, askB L l1 l2 = ab := ⟨_, rfl⟩
              have HF : Hid (allC f k = true ∧ askB L l1 l2 = ab ∧ Blk wr g 32 (lac L a k cp a1 a2 l1 l2 c1 c2) ∧ LnR wr k f L a a1 a2 l1 l2 ∧ Below w.heap.size w wr) := ⟨hall, hab, HX.out.2.2.2.1.below hbl, HX.out.2.2.2.2.1.below hbl, bel_nx HX.out.2.2.2.2.2.2 hbl⟩
              clear hall hab hbl HX
              obtain ⟨bz, hbz⟩ : ∃ bz, L.bz = bz := ⟨_, rfl⟩
              rw [hbz] at y1
              cases bz with
              | false =>
                obtain ⟨z0, hz0⟩ : ∃ z, noCa L.c l1 l2 = z := ⟨_, rfl⟩
                have HZ : Hid (noCa L.c l1 l2 = z0 ∧ ab = (z0 && ((L.nu == 0) && ((L.du == 0) && (L.le == 0))))) := ⟨hz0, by rw [← HF.out.2.1, askB_in, hbz, ← hz0]; rfl⟩
                clear hbz hz0
                cases z0 with
                | false =>
                  go_wp2_with fail
                  refine (l12NoCall_any L.c a1 a2 l1 l2 c1 c2 _).mono ?_
                  rintro e w1 ⟨rfl, b1⟩
                  rw [HZ.out.1]
                  have HB : Hid (Below w.heap.size w w1) := bel_nx HF.out.2.2.2.2 b1
                  clear b1 y0 y1 y2 y3 y4 y5 y6 y7 y8 y9 y10 y11 y12 y13 y14 y15 y16
                  go_wp2
                  go_ret
                  exact ⟨(by rw [HF.out.1, HF.out.2.1, HZ.out.2]; rfl), HB.out⟩
                | true =>
                  obtain ⟨t0, q0⟩ : ∃ t, (L.nu == 0) = t := ⟨_, rfl⟩
                  have HZ0 := HZ
                  clear HZ
                  have HZ := hide (show _ from by have h9 := HZ0.out; rw [q0] at h9; exact h9)
                  cases t0 with
                  | false =>
                    go_wp2_with fail
                    refine (l12NoCall_any L.c a1 a2 l1 l2 c1 c2 _).mono ?_
                    rintro e w1 ⟨rfl, b1⟩
                    rw [HZ.out.1]
                    have HB : Hid (Below w.heap.size w w1) := bel_nx HF.out.2.2.2.2 b1
                    clear y0 y1 y2 y3 y4 y5 y6 y7 y8 y9 y10 y11 y12 y13 y14 y15 y16
                    obtain ⟨⟨y0, y1, y2, y3, y4, y5, y6, y7, y8, y9, y10, y11, y12, y13, y14, y15, y16⟩, _⟩ := (HF.out.2.2.1.below b1).svn
                    clear b1
                    go_wp2
                    go_ret
                    exact ⟨(by rw [HF.out.1, HF.out.2.1, HZ.out.2]; rfl), HB.out⟩
                  | true =>
                    obtain ⟨t1, q1⟩ : ∃ t, (L.du == 0) = t := ⟨_, rfl⟩
                    have HZ1 := HZ
                    clear HZ
                    have HZ := hide (show _ from by have h9 := HZ1.out; rw [q1] at h9; exact h9)
                    cases t1 with
                    | false =>
                      go_wp2_with fail
                      refine (l12NoCall_any L.c a1 a2 l1 l2 c1 c2 _).mono ?_
                      rintro e w1 ⟨rfl, b1⟩
                      rw [HZ.out.1]
                      have HB : Hid (Below w.heap.size w w1) := bel_nx HF.out.2.2.2.2 b1
                      clear y0 y1 y2 y3 y4 y5 y6 y7 y8 y9 y10 y11 y12 y13 y14 y15 y16
                      obtain ⟨⟨y0, y1, y2, y3, y4, y5, y6, y7, y8, y9, y10, y11, y12, y13, y14, y15, y16⟩, _⟩ := (HF.out.2.2.1.below b1).svn
                      clear b1
                      go_wp2
                      go_ret
                      exact ⟨(by rw [HF.out.1, HF.out.2.1, HZ.out.2]; rfl), HB.out⟩
                    | true =>
                      obtain ⟨t2, q2⟩ : ∃ t, (L.le == 0) = t := ⟨_, rfl⟩
                      have HZ2 := HZ
                      clear HZ
                      have HZ := hide (show _ from by have h9 := HZ2.out; rw [q2] at h9; exact h9)
                      cases t2 with
                      | false =>
                        go_wp2_with fail
                        refine (l12NoCall_any L.c a1 a2 l1 l2 c1 c2 _).mono ?_
                        rintro e w1 ⟨rfl, b1⟩
                        rw [HZ.out.1]
                        have HB : Hid (Below w.heap.size w w1) := bel_nx HF.out.2.2.2.2 b1
                        clear y0 y1 y2 y3 y4 y5 y6 y7 y8 y9 y10 y11 y12 y13 y14 y15 y16
                        obtain ⟨⟨y0, y1, y2, y3, y4, y5, y6, y7, y8, y9, y10, y11, y12, y13, y14, y15, y16⟩, _⟩ := (HF.out.2.2.1.below b1).svn
                        clear b1
                        go_wp2
                        go_ret
                        exact ⟨(by rw [HF.out.1, HF.out.2.1, HZ.out.2]; rfl), HB.out⟩
                      | true =>
                        go_wp2_with fail
                        refine (l12NoCall_any L.c a1 a2 l1 l2 c1 c2 _).mono ?_
                        rintro e w1 ⟨rfl, b1⟩
                        rw [HZ.out.1]
                        have HB : Hid (Below w.heap.size w w1) := bel_nx HF.out.2.2.2.2 b1
                        clear y0 y1 y2 y3 y4 y5 y6 y7 y8 y9 y10 y11 y12 y13 y14 y15 y16
                        obtain ⟨⟨y0, y1, y2, y3, y4, y5, y6, y7, y8, y9, y10, y11, y12, y13, y14, y15, y16⟩, _⟩ := (HF.out.2.2.1.below b1).svn
                        clear b1
                        go_wp2
                        go_ret
                        exact ⟨(by rw [HF.out.1, HF.out.2.1, HZ.out.2]; rfl), HB.out⟩
              | true =>
                obtain ⟨z0, hz0⟩ : ∃ z, okCa L.c = z := ⟨_, rfl⟩
                obtain ⟨z1, hz1⟩ : ∃ z, inB L.nu 0 65535 = z := ⟨_, rfl⟩
                obtain ⟨z2, hz2⟩ : ∃ z, inB L.du 0 4294967295 = z := ⟨_, rfl⟩
                obtain ⟨z3, hz3⟩ : ∃ z, inB L.le 0 L.tr = z := ⟨_, rfl⟩
                have HZ : Hid (okCa L.c = z0 ∧ inB L.nu 0 65535 = z1 ∧ inB L.du 0 4294967295 = z2 ∧ inB L.le 0 L.tr = z3 ∧ ab = (z0 && (z1 && (z2 && z3)))) := ⟨hz0, hz1, hz2, hz3, by rw [← HF.out.2.1, askB_in, hbz, hz0, hz1, hz2, hz3]; rfl⟩
                clear hbz hz0 hz1 hz2 hz3
                go_wp2_with fail
                refine (l12Call_any L.c a1 a2 l1 l2 c1 c2 _ HF.out.2.2.2.1.1 HF.out.2.2.2.1.2.1 HF.out.2.2.2.1.2.2.2.1 HF.out.2.2.2.1.2.2.2.2 hl1 hl2).mono ?_
                rintro e w1 ⟨rfl, b1⟩
                rw [HZ.out.1]
                have HB : Hid (Below w.heap.size w w1) := bel_nx HF.out.2.2.2.2 b1
                clear y0 y1 y2 y3 y4 y5 y6 y7 y8 y9 y10 y11 y12 y13 y14 y15 y16
                obtain ⟨⟨y0, y1, y2, y3, y4, y5, y6, y7, y8, y9, y10, y11, y12, y13, y14, y15, y16⟩, _⟩ := (HF.out.2.2.1.below b1).svn
                clear b1
                cases z0 with
                | false =>
                  go_wp2
                  go_ret
                  exact ⟨(by rw [HF.out.1, HF.out.2.1, HZ.out.2.2.2.2]; rfl), HB.out⟩
                | true =>
                  go_wp2_with fail
                  refine (l1In_any _ _ _ _ _ HZ.out.2.1).mono ?_
                  rintro e w2 ⟨rfl, rfl⟩
                  cases z1 with
                  | false =>
                    go_wp2
                    go_ret
                    exact ⟨(by rw [HF.out.1, HF.out.2.1, HZ.out.2.2.2.2]; rfl), HB.out⟩
                  | true =>
                    go_wp2_with fail
                    refine (l1TickL _ _ _ HZ.out.2.2.1).mono ?_
                    rintro e w2 ⟨rfl, rfl⟩
                    cases z2 with
                    | false =>
                      go_wp2
                      go_ret
                      exact ⟨(by rw [HF.out.1, HF.out.2.1, HZ.out.2.2.2.2]; rfl), HB.out⟩
                    | true =>
                      go_wp2_with fail
                      refine (l1In_any _ _ _ _ _ HZ.out.2.2.2.1).mono ?_
                      rintro e w2 ⟨rfl, rfl⟩
                      go_wp2
                      go_ret
                      exact ⟨(by rw [HF.out.1, HF.out.2.1, HZ.out.2.2.2.2]; rfl), HB.out⟩
      | false =>
        have hg4 : 40 < (n : Int) := by have := of_decide_eq_false H4.out; omega
        go_wp2
        go_ret
        exact ⟨rfl, HX.out.2.2.2.2.2.2⟩

end Go.Proofs.Ytmhdneenjoelfaa
