/- Texts that the proof needs, joined: Ln4 Pu1 Pu2 Ln1t PuR Dn1 Dn2 Dn3. -/
import Derived.Test.YtmhdneenjoelfaaGreatY8
import Derived.Test.YtmhdneenjoelfaaGreatY5
import Derived.Test.YtmhdneenjoelfaaGreatY2
import Derived.Test.YtmhdneenjoelfaaGreatY4
namespace Go.Proofs.YtmhdneenjoelfaaGreat
open Go.RowKit Go.Joins
set_option linter.unusedVariables false
set_option linter.unusedSimpArgs false
theorem askB_in (L : La) (l1 l2 : Nat) : askB L l1 l2 = if L.bz = true then okCa L.c && (inB L.nu 0 65535 && (inB L.du 0 4294967295 && inB L.le 0 L.tr)) else noCa L.c l1 l2 && ((L.nu == 0) && ((L.du == 0) && (L.le == 0))) := by
  unfold askB inB
  cases L.bz <;> simp
set_option maxRecDepth 20000 in
set_option maxHeartbeats 4000000 in
theorem specLineOk_any (L : La) (n cp : Nat) (a a1 a2 : Option Addr) (l1 l2 c1 c2 : Nat) (f : Nat → Ca) (w : World) (hs : LnR w n f L a a1 a2 l1 l2) (hb : BdC n f) (hl1 : l1 ≤ 2000000) (hl2 : l2 ≤ 2000000) :
    Calls Tryz.prog 49 #[.agg (lac L a n cp a1 a2 l1 l2 c1 c2)] w fun e w' => e = .returned (.bool (okLn n f L l1 l2)) ∧ Below w.heap.size w w' := by
  obtain ⟨g, hg⟩ : ∃ g, g = w.heap.size := ⟨_, rfl⟩
  obtain ⟨W, hW⟩ : ∃ W, W = w.alloc (.cells (lac L a n cp a1 a2 l1 l2 c1 c2) 32) := ⟨_, rfl⟩
  have bW : Below w.heap.size w W := by rw [hW]; exact bel_alloc _ _
  have A0 : Blk W g 32 (lac L a n cp a1 a2 l1 l2 c1 c2) := by rw [hW, hg]; exact Blk.new _ _ _
  obtain ⟨x0, hx0⟩ : ∃ x, inB L.wt 1 100 = x := ⟨_, rfl⟩
  obtain ⟨x1, hx1⟩ : ∃ x, inB L.tr 0 5 = x := ⟨_, rfl⟩
  obtain ⟨x2, hx2⟩ : ∃ x, inB L.nx 0 65535 = x := ⟨_, rfl⟩
  obtain ⟨x4, hx4⟩ : ∃ x, decide (n ≤ 40) = x := ⟨_, rfl⟩
  have he : okLn n f L l1 l2 = (x0 && (x1 && (x4 && (x2 && (allC f n && askB L l1 l2))))) := by unfold okLn; rw [hx0, hx1, hx2, hx4]
  have H4 : Hid (decide (n ≤ 40) = x4) := hx4
  have HX : Hid (inB L.wt 1 100 = x0 ∧ inB L.tr 0 5 = x1 ∧ inB L.nx 0 65535 = x2 ∧ Blk W g 32 (lac L a n cp a1 a2 l1 l2 c1 c2) ∧ LnR W n f L a a1 a2 l1 l2 ∧ BdC n f ∧ Below w.heap.size w W) := ⟨hx0, hx1, hx2, A0, hs.below bW, hb, bW⟩
  rw [he]
  obtain ⟨⟨y0, y1, y2, y3, y4, y5, y6, y7, y8, y9, y10, y11, y12, y13, y14, y15, y16⟩, _⟩ := A0.svn
  have hn2 := hb.1
  clear hx0 hx1 hx2 hx4 hs hb he A0 bW
  go_enter Tryz.func49, Tryz.ntmps49
  go_upto_region 1 with fail
  rw [← hW, ← hg]
  clear hW hg
  go_wp2_with fail
  refine (l1In_any _ _ _ _ _ HX.out.1).mono ?_
  rintro e w1 ⟨rfl, hw⟩
  have hw := hw.symm
  subst hw
  cases x0 with
  | false =>
    go_wp2
    go_ret
    exact ⟨rfl, HX.out.2.2.2.2.2.2⟩
  | true =>
    go_wp2_with fail
    refine (l1In_any _ _ _ _ _ HX.out.2.1).mono ?_
    rintro e w1 ⟨rfl, hw⟩
    have hw := hw.symm
    subst hw
    cases x1 with
    | false =>
      go_wp2
      go_ret
      exact ⟨rfl, HX.out.2.2.2.2.2.2⟩
    | true =>
      cases x4 with
      | true =>
        have hg4 : ¬ (40 < (n : Int)) := by have := of_decide_eq_true H4.out; omega
        have h40 : n ≤ 40 := by omega
        go_wp2_with fail
        refine (l1In_any _ _ _ _ _ HX.out.2.2.1).mono ?_
        rintro e w1 ⟨rfl, hw⟩
        have hw := hw.symm
        subst hw
        cases x2 with
        | false =>
          go_wp2
          go_ret
          exact ⟨rfl, HX.out.2.2.2.2.2.2⟩
        | true =>
          go_wp2
          clear y0 y1 y2 y3 y4 y5 y6 y7 y8 y9 y10 y11 y12 y13 y14 y15 y16
          go_loopw [3] (fun i wr => ∃ k : Nat, k ≤ n ∧ i = .int .i64 k ∧ allC f k = true ∧ Below W.heap.size W wr) (fun i _ => n - (intOf i).toNat)
          case atStart => exact ⟨0, Nat.zero_le _, rfl, rfl, Below.refl _ _⟩
          case round =>
            obtain ⟨k, hk, rfl, hall, hbl⟩ := hrel
            obtain ⟨⟨y0, y1, y2, y3, y4, y5, y6, y7, y8, y9, y10, y11, y12, y13, y14, y15, y16⟩, _⟩ := (HX.out.2.2.2.1.below hbl).svn
            by_cases hlt : k < n
            · have hi : (k : Int) < (n : Int) := by omega
              obtain ⟨b, off, b1, b2, m1, m2, k1, k2, rfl, hb0, hm1, hm2, ⟨d0, d1, d2, d3, d4, d5, d6, d7, d8⟩, s1, s2⟩ := SlC.nine (HX.out.2.2.2.2.1.2.2.1.below hbl) hlt
              obtain ⟨C, hC⟩ : ∃ C, C = f k := ⟨_, rfl⟩
              rw [← hC] at d0 d1 d2 d3 d4 d5 d8 hm1 hm2 s1 s2
              obtain ⟨x, hx⟩ : ∃ x, okCa C = x := ⟨_, rfl⟩
              have hbd := HX.out.2.2.2.2.2.1.2 k hlt
              have HS : Hid (SlI wr b1 C.ws ∧ SlB wr b2 C.bs ∧ m1 = C.ws.length ∧ m2 = C.bs.length ∧ m1 ≤ 2000000 ∧ m2 ≤ 2000000 ∧ C = f k ∧ okCa C = x ∧ allC f k = true ∧ Below W.heap.size W wr) := ⟨s1, s2, hm1, hm2, by rw [hm1, hC]; exact hbd.1, by rw [hm2, hC]; exact hbd.2, hC, hx, hall, hbl⟩
              clear s1 s2 hm1 hm2 hC hx hbd hb0 hall hbl
              go_wp2_with fail
              refine (l12Call_any C b1 b2 m1 m2 k1 k2 _ HS.out.2.2.1 HS.out.2.2.2.1 HS.out.1 HS.out.2.1 HS.out.2.2.2.2.1 HS.out.2.2.2.2.2.1).mono ?_
              rintro e w1 ⟨rfl, b9⟩
              rw [HS.out.2.2.2.2.2.2.2.1]
              have HW : Hid (Below W.heap.size W w1) := bel_nx HS.out.2.2.2.2.2.2.2.2.2 b9
              clear b9 d0 d1 d2 d3 d4 d5 d6 d7 d8 y0 y1 y2 y3 y4 y5 y6 y7 y8 y9 y10 y11 y12 y13 y14 y15 y16
              cases x with
              | false =>
                have HF : Hid (allC f n = false) := allC_no hlt (by rw [← HS.out.2.2.2.2.2.2.1]; exact HS.out.2.2.2.2.2.2.2.1)
                go_wp2
                go_ret
                exact ⟨(by rw [HF.out]; rfl), bel_nx HX.out.2.2.2.2.2.2 HW.out⟩
              | true =>
                have HF : Hid (allC f (k + 1) = true) := by show (allC f k && okCa (f k)) = true; rw [HS.out.2.2.2.2.2.2.2.2.1, ← HS.out.2.2.2.2.2.2.1, HS.out.2.2.2.2.2.2.2.1]; rfl
                go_wp2
                go_roundw
                case rel => exact ⟨k + 1, by omega, by go_num, HF.out, HW.out⟩
                case measure => simp [intOf]; omega
            · have hi : ¬ (k : Int) < (n : Int) := by omega
              have e9 : k = n := by omega
              subst e9
              obtain ⟨ab, hab⟩ : ∃ ab, askB L l1 l2 = ab := ⟨_, rfl⟩
              have HF : Hid (allC f k = true ∧ askB L l1 l2 = ab ∧ Blk wr g 32 (lac L a k cp a1 a2 l1 l2 c1 c2) ∧ LnR wr k f L a a1 a2 l1 l2 ∧ Below w.heap.size w wr) := ⟨hall, hab, HX.out.2.2.2.1.below hbl, HX.out.2.2.2.2.1.below hbl, bel_nx HX.out.2.2.2.2.2.2 hbl⟩
              clear hall hab hbl HX
              obtain ⟨bz, hbz⟩ : ∃ bz, L.bz = bz := ⟨_, rfl⟩
              rw [hbz] at y1
              cases bz with
              | false =>
                obtain ⟨z0, hz0⟩ : ∃ z, noCa L.c l1 l2 = z := ⟨_, rfl⟩
                have HZ : Hid (noCa L.c l1 l2 = z0 ∧ ab = (z0 && ((L.nu == 0) && ((L.du == 0) && (L.le == 0))))) := ⟨hz0, by rw [← HF.out.2.1, askB_in, hbz, ← hz0]; rfl⟩
                clear hbz hz0
                cases z0 with
                | false =>
                  go_wp2_with fail
                  refine (l12NoCall_any L.c a1 a2 l1 l2 c1 c2 _).mono ?_
                  rintro e w1 ⟨rfl, b1⟩
                  rw [HZ.out.1]
                  have HB : Hid (Below w.heap.size w w1) := bel_nx HF.out.2.2.2.2 b1
                  clear b1 y0 y1 y2 y3 y4 y5 y6 y7 y8 y9 y10 y11 y12 y13 y14 y15 y16
                  go_wp2
                  go_ret
                  exact ⟨(by rw [HF.out.1, HF.out.2.1, HZ.out.2]; rfl), HB.out⟩
                | true =>
                  obtain ⟨t0, q0⟩ : ∃ t, (L.nu == 0) = t := ⟨_, rfl⟩
                  have HZ0 := HZ
                  clear HZ
                  have HZ := hide (show _ from by have h9 := HZ0.out; rw [q0] at h9; exact h9)
                  cases t0 with
                  | false =>
                    go_wp2_with fail
                    refine (l12NoCall_any L.c a1 a2 l1 l2 c1 c2 _).mono ?_
                    rintro e w1 ⟨rfl, b1⟩
                    rw [HZ.out.1]
                    have HB : Hid (Below w.heap.size w w1) := bel_nx HF.out.2.2.2.2 b1
                    clear y0 y1 y2 y3 y4 y5 y6 y7 y8 y9 y10 y11 y12 y13 y14 y15 y16
                    obtain ⟨⟨y0, y1, y2, y3, y4, y5, y6, y7, y8, y9, y10, y11, y12, y13, y14, y15, y16⟩, _⟩ := (HF.out.2.2.1.below b1).svn
                    clear b1
                    go_wp2
                    go_ret
                    exact ⟨(by rw [HF.out.1, HF.out.2.1, HZ.out.2]; rfl), HB.out⟩
                  | true =>
                    obtain ⟨t1, q1⟩ : ∃ t, (L.du == 0) = t := ⟨_, rfl⟩
                    have HZ1 := HZ
                    clear HZ
                    have HZ := hide (show _ from by have h9 := HZ1.out; rw [q1] at h9; exact h9)
                    cases t1 with
                    | false =>
                      go_wp2_with fail
                      refine (l12NoCall_any L.c a1 a2 l1 l2 c1 c2 _).mono ?_
                      rintro e w1 ⟨rfl, b1⟩
                      rw [HZ.out.1]
                      have HB : Hid (Below w.heap.size w w1) := bel_nx HF.out.2.2.2.2 b1
                      clear y0 y1 y2 y3 y4 y5 y6 y7 y8 y9 y10 y11 y12 y13 y14 y15 y16
                      obtain ⟨⟨y0, y1, y2, y3, y4, y5, y6, y7, y8, y9, y10, y11, y12, y13, y14, y15, y16⟩, _⟩ := (HF.out.2.2.1.below b1).svn
                      clear b1
                      go_wp2
                      go_ret
                      exact ⟨(by rw [HF.out.1, HF.out.2.1, HZ.out.2]; rfl), HB.out⟩
                    | true =>
                      obtain ⟨t2, q2⟩ : ∃ t, (L.le == 0) = t := ⟨_, rfl⟩
                      have HZ2 := HZ
                      clear HZ
                      have HZ := hide (show _ from by have h9 := HZ2.out; rw [q2] at h9; exact h9)
                      cases t2 with
                      | false =>
                        go_wp2_with fail
                        refine (l12NoCall_any L.c a1 a2 l1 l2 c1 c2 _).mono ?_
                        rintro e w1 ⟨rfl, b1⟩
                        rw [HZ.out.1]
                        have HB : Hid (Below w.heap.size w w1) := bel_nx HF.out.2.2.2.2 b1
                        clear y0 y1 y2 y3 y4 y5 y6 y7 y8 y9 y10 y11 y12 y13 y14 y15 y16
                        obtain ⟨⟨y0, y1, y2, y3, y4, y5, y6, y7, y8, y9, y10, y11, y12, y13, y14, y15, y16⟩, _⟩ := (HF.out.2.2.1.below b1).svn
                        clear b1
                        go_wp2
                        go_ret
                        exact ⟨(by rw [HF.out.1, HF.out.2.1, HZ.out.2]; rfl), HB.out⟩
                      | true =>
                        go_wp2_with fail
                        refine (l12NoCall_any L.c a1 a2 l1 l2 c1 c2 _).mono ?_
                        rintro e w1 ⟨rfl, b1⟩
                        rw [HZ.out.1]
                        have HB : Hid (Below w.heap.size w w1) := bel_nx HF.out.2.2.2.2 b1
                        clear y0 y1 y2 y3 y4 y5 y6 y7 y8 y9 y10 y11 y12 y13 y14 y15 y16
                        obtain ⟨⟨y0, y1, y2, y3, y4, y5, y6, y7, y8, y9, y10, y11, y12, y13, y14, y15, y16⟩, _⟩ := (HF.out.2.2.1.below b1).svn
                        clear b1
                        go_wp2
                        go_ret
                        exact ⟨(by rw [HF.out.1, HF.out.2.1, HZ.out.2]; rfl), HB.out⟩
              | true =>
                obtain ⟨z0, hz0⟩ : ∃ z, okCa L.c = z := ⟨_, rfl⟩
                obtain ⟨z1, hz1⟩ : ∃ z, inB L.nu 0 65535 = z := ⟨_, rfl⟩
                obtain ⟨z2, hz2⟩ : ∃ z, inB L.du 0 4294967295 = z := ⟨_, rfl⟩
                obtain ⟨z3, hz3⟩ : ∃ z, inB L.le 0 L.tr = z := ⟨_, rfl⟩
                have HZ : Hid (okCa L.c = z0 ∧ inB L.nu 0 65535 = z1 ∧ inB L.du 0 4294967295 = z2 ∧ inB L.le 0 L.tr = z3 ∧ ab = (z0 && (z1 && (z2 && z3)))) := ⟨hz0, hz1, hz2, hz3, by rw [← HF.out.2.1, askB_in, hbz, hz0, hz1, hz2, hz3]; rfl⟩
                clear hbz hz0 hz1 hz2 hz3
                go_wp2_with fail
                refine (l12Call_any L.c a1 a2 l1 l2 c1 c2 _ HF.out.2.2.2.1.1 HF.out.2.2.2.1.2.1 HF.out.2.2.2.1.2.2.2.1 HF.out.2.2.2.1.2.2.2.2 hl1 hl2).mono ?_
                rintro e w1 ⟨rfl, b1⟩
                rw [HZ.out.1]
                have HB : Hid (Below w.heap.size w w1) := bel_nx HF.out.2.2.2.2 b1
                clear y0 y1 y2 y3 y4 y5 y6 y7 y8 y9 y10 y11 y12 y13 y14 y15 y16
                obtain ⟨⟨y0, y1, y2, y3, y4, y5, y6, y7, y8, y9, y10, y11, y12, y13, y14, y15, y16⟩, _⟩ := (HF.out.2.2.1.below b1).svn
                clear b1
                cases z0 with
                | false =>
                  go_wp2
                  go_ret
                  exact ⟨(by rw [HF.out.1, HF.out.2.1, HZ.out.2.2.2.2]; rfl), HB.out⟩
                | true =>
                  go_wp2_with fail
                  refine (l1In_any _ _ _ _ _ HZ.out.2.1).mono ?_
                  rintro e w2 ⟨rfl, rfl⟩
                  cases z1 with
                  | false =>
                    go_wp2
                    go_ret
                    exact ⟨(by rw [HF.out.1, HF.out.2.1, HZ.out.2.2.2.2]; rfl), HB.out⟩
                  | true =>
                    go_wp2_with fail
                    refine (l1TickL _ _ _ HZ.out.2.2.1).mono ?_
                    rintro e w2 ⟨rfl, rfl⟩
                    cases z2 with
                    | false =>
                      go_wp2
                      go_ret
                      exact ⟨(by rw [HF.out.1, HF.out.2.1, HZ.out.2.2.2.2]; rfl), HB.out⟩
                    | true =>
                      go_wp2_with fail
                      refine (l1In_any _ _ _ _ _ HZ.out.2.2.2.1).mono ?_
                      rintro e w2 ⟨rfl, rfl⟩
                      go_wp2
                      go_ret
                      exact ⟨(by rw [HF.out.1, HF.out.2.1, HZ.out.2.2.2.2]; rfl), HB.out⟩
      | false =>
        have hg4 : 40 < (n : Int) := by have := of_decide_eq_false H4.out; omega
        go_wp2
        go_ret
        exact ⟨rfl, HX.out.2.2.2.2.2.2⟩
end Go.Proofs.YtmhdneenjoelfaaGreat
namespace Go.Proofs.YtmhdneenjoelfaaGreat
open Go.RowKit Go.Joins
set_option linter.unusedVariables false
set_option linter.unusedSimpArgs false
def okPut (n : Nat) (f : Nat → Ca) (L : La) (l1 l2 : Nat) (C : Ca) : Bool := okLn n f L l1 l2 && (okCa C && !((n : Int) == 40))
def nPut (b : Bool) (n : Nat) : Nat := if b = true then n + 1 else n
def fPut (b : Bool) (n : Nat) (f : Nat → Ca) (C : Ca) : Nat → Ca := if b = true then (fun k => if k = n then C else f k) else f
def LpQ (w w' : World) (e : Ending) (n : Nat) (f : Nat → Ca) (L : La) (l1 l2 : Nat) (C : Ca) (b : Bool) : Prop :=
  ∃ a cp a1 a2 c1 c2, e = .returned (.tuple #[.agg (lac L a (nPut b n) cp a1 a2 l1 l2 c1 c2), .bool b]) ∧ LnO w' w.heap.size (nPut b n) (fPut b n f C) L a cp a1 a2 l1 l2 c1 c2 ∧ Below w.heap.size w w'
theorem lnO_mono {w : World} {base base' n cp l1 l2 c1 c2 : Nat} {f : Nat → Ca} {L : La} {a a1 a2 : Option Addr} (h : LnO w base n f L a cp a1 a2 l1 l2 c1 c2) (hb : base' ≤ base) : LnO w base' n f L a cp a1 a2 l1 l2 c1 c2 := by
  obtain ⟨h1, h2, F, β, h3, h4, h5, h6, h7, h8⟩ := h
  refine ⟨h1, h2, F, β, ⟨h3.1, ?_⟩, h4.mono hb, h5, h6.mono hb, h7.mono hb, h8⟩
  rcases h3.2 with q | ⟨g, cap, cur, hv, hg, r⟩
  · exact .inl q
  · exact .inr ⟨g, cap, cur, hv, by omega, r⟩
end Go.Proofs.YtmhdneenjoelfaaGreat
namespace Go.Proofs.YtmhdneenjoelfaaGreat
open Go.RowKit Go.Joins
set_option linter.unusedVariables false
set_option linter.unusedSimpArgs false
end Go.Proofs.YtmhdneenjoelfaaGreat
namespace Go.Proofs.YtmhdneenjoelfaaGreat
open Go.RowKit Go.Joins
set_option linter.unusedVariables false
set_option linter.unusedSimpArgs false
set_option maxRecDepth 20000 in
set_option maxHeartbeats 4000000 in
theorem toLine_any (L : La) (a a1 a2 : Option Addr) (n cp l1 l2 c1 c2 : Nat) (f : Nat → Ca) (w : World) (hs : LnR w n f L a a1 a2 l1 l2) (hb : BdC n f) (hl1 : l1 ≤ 2000000) (hl2 : l2 ≤ 2000000) :
    Calls Tryz.prog 15 #[.agg (lac L a n cp a1 a2 l1 l2 c1 c2)] w fun e w' => ∃ g g1 g2, e = .returned (.agg (lac L (some ⟨g, 0, none⟩) n n (some ⟨g1, 0, none⟩) (some ⟨g2, 0, none⟩) l1 l2 l1 l2)) ∧ LnP w' w.heap.size n f L (some ⟨g, 0, none⟩) n (some ⟨g1, 0, none⟩) (some ⟨g2, 0, none⟩) l1 l2 l1 l2 ∧ Below w.heap.size w w' := by
  obtain ⟨W, hW⟩ : ∃ W, W = ((w.alloc (.cells (lac L a n cp a1 a2 l1 l2 c1 c2) 53)).alloc (.cells lzc 32)).alloc (.cells lzc 32) := ⟨_, rfl⟩
  have bW : Below w.heap.size w W := by rw [hW]; exact bel_nx (bel_nx (bel_alloc w _) (bel_alloc _ _)) (bel_alloc _ _)
  have A0 : Blk W w.heap.size 53 (lac L a n cp a1 a2 l1 l2 c1 c2) := by rw [hW]; exact ((Blk.new w _ _).below (bel_alloc _ _)).below (bel_alloc _ _)
  have R0 : Blk W (w.heap.size + 1) 32 lzc := by
    rw [hW]; have := (Blk.new (w.alloc (.cells (lac L a n cp a1 a2 l1 l2 c1 c2) 53)) lzc 32).below (bel_alloc _ (.cells lzc 32)); simpa using this
  have O0 : Blk W (w.heap.size + 1 + 1) 32 lzc := by
    rw [hW]; have := Blk.new ((w.alloc (.cells (lac L a n cp a1 a2 l1 l2 c1 c2) 53)).alloc (.cells lzc 32)) lzc 32; simpa using this
  have hz : W.heap.size = w.heap.size + 1 + 1 + 1 := by rw [hW]; simp
  have H0 : Hid (LnR W n f L a a1 a2 l1 l2 ∧ Below w.heap.size w W ∧ Blk W w.heap.size 53 (lac L a n cp a1 a2 l1 l2 c1 c2) ∧ Blk W (w.heap.size + 1) 32 lzc ∧ Blk W (w.heap.size + 1 + 1) 32 lzc ∧ BdC n f ∧ W.heap.size = w.heap.size + 1 + 1 + 1) := ⟨hs.below bW, bW, A0, R0, O0, hb, hz⟩
  obtain ⟨⟨y0, y1, y2, y3, y4, y5, y6, y7, y8, y9, y10, y11, y12, y13, y14, y15, y16⟩, yf⟩ := A0.svn
  have HR0 : Hid (LnR w n f L a a1 a2 l1 l2) := hs
  clear hs bW A0 R0 O0 hb yf hz
  go_enter Tryz.func15, Tryz.ntmps15
  go_upto_region 2 with fail
  rw [← hW]
  clear hW
  go_wp2_with fail
  refine (toCallS_any a n cp f _ H0.out.1.2.2.1 H0.out.2.2.2.2.2.1).mono ?_
  rintro e w1 ⟨rfl, m1, b1⟩
  obtain ⟨g, hg⟩ : ∃ g, g = W.heap.size := ⟨_, rfl⟩
  rw [← hg] at m1 ⊢
  have HG : Hid (g = w.heap.size + 1 + 1 + 1) := by show _ = _; rw [hg]; exact H0.out.2.2.2.2.2.2
  clear y0 y1 y2 y3 y4 y5 y6 y7 y8 y9 y10 y11 y12 y13 y14 y15 y16
  have A1 := H0.out.2.2.1.below b1
  have R1 := H0.out.2.2.2.1.below b1
  have O1 := H0.out.2.2.2.2.1.below b1
  obtain ⟨⟨y0, y1, y2, y3, y4, y5, y6, y7, y8, y9, y10, y11, y12, y13, y14, y15, y16⟩, yf⟩ := A1.svn
  obtain ⟨⟨z0, z1, z2, z3, z4, z5, z6, z7, z8, z9, z10, z11, z12, z13, z14, z15, z16⟩, zf⟩ := O1.svn
  have zg0 := zf 0; have zg1 := zf 1
  obtain ⟨W2, hW2⟩ : ∃ W2, W2 = setL w1 (w.heap.size + 1 + 1) 0 [.slice (some ⟨g, 0, none⟩) n n, .bool L.bz] := ⟨_, rfl⟩
  have H1 : Hid (OwnL W2 g 30 9 (.slice (some ⟨g, 0, none⟩) n n) n (fun k => caE (f k)) ∧ LnR W2 n f L a a1 a2 l1 l2 ∧ Below w.heap.size w W2 ∧ Blk W2 w.heap.size 53 (lac L a n cp a1 a2 l1 l2 c1 c2) ∧ Blk W2 (w.heap.size + 1) 32 lzc ∧ Blk W2 (w.heap.size + 1 + 1) 32 #[.slice (some ⟨g, 0, none⟩) n n, .bool L.bz, .int .i64 0, .int .i64 0, .int .i64 0, .int .i64 0, .int .i64 0, .int .i64 0, .slice none 0 0, .slice none 0 0, .int .i64 0, .int .i64 0, .int .i64 0, .int .i64 0, .int .i64 0, .int .i64 0, .int .i64 0] ∧ MadeL W2 g 30 9 n (fun k => caE (f k)) ∧ g ≤ W2.heap.size) := by
    have hg1 : w1.grownBy W2 (some (w.heap.size + 1 + 1)) := by rw [hW2]; exact setL_gw _ _ _
    have hge := HG.out
    have M2 : MadeL W2 g 30 9 n (fun k => caE (f k)) := by
      obtain ⟨F, β, q1, q2, q3⟩ := m1
      exact ⟨F, β, q1.kept hg1 (by intro e9; have := Option.some.inj e9; omega), q2.keptLt hg1 (by omega), Nat.le_trans q3 hg1.size⟩
    have bb : Below w.heap.size w W2 := by rw [hW2]; exact setL_below (by omega) _ _ _ (bel_nx H0.out.2.1 b1)
    refine ⟨M2.own, ?_, bb, by rw [hW2]; exact Blk.stNe (by omega) _ _ A1, by rw [hW2]; exact Blk.stNe (by omega) _ _ R1, by rw [hW2, show (#[.slice (some ⟨g, 0, none⟩) n n, .bool L.bz, .int .i64 0, .int .i64 0, .int .i64 0, .int .i64 0, .int .i64 0, .int .i64 0, .slice none 0 0, .slice none 0 0, .int .i64 0, .int .i64 0, .int .i64 0, .int .i64 0, .int .i64 0, .int .i64 0, .int .i64 0] : Array Value) = wrA lzc 0 [.slice (some ⟨g, 0, none⟩) n n, .bool L.bz] from (lwr0_2 _ _ _ _ _ _ _ _ _ _ _ _ _ _ _ _ _ _ _).symm]; exact Blk.stL _ _ O1, M2, by have := b1.size; have := hg1.size; omega⟩
    exact HR0.out.below bb
  have hW2' : W2 = ((w1.setCell ⟨w.heap.size + 1 + 1, 0, none⟩ (.slice (some ⟨g, 0, none⟩) n n)).setCell ⟨w.heap.size + 1 + 1, 1, none⟩ (.bool L.bz)) := by rw [hW2]; simp only [setL, Nat.reduceAdd, Nat.zero_add]
  clear m1 b1 A1 R1 O1 hW2 hg
  go_upto_region 4 with fail
  rw [← hW2']
  clear hW2' y0 y1 y2 y3 y4 y5 y6 y7 y8 y9 y10 y11 y12 y13 y14 y15 y16 z0 z1 z2 z3 z4 z5 z6 z7 z8 z9 z10 z11 z12 z13 z14 z15 z16 zf yf zg0 zg1
  obtain ⟨⟨y0, y1, y2, y3, y4, y5, y6, y7, y8, y9, y10, y11, y12, y13, y14, y15, y16⟩, yf⟩ := H1.out.2.2.2.1.svn
  clear yf
  go_wp2_with fail
  refine (toCall_any L.c a1 a2 l1 l2 c1 c2 _ H1.out.2.1.1 H1.out.2.1.2.1 H1.out.2.1.2.2.2.1 H1.out.2.1.2.2.2.2 hl1 hl2).mono ?_
  rintro e w3 ⟨g1, g2, rfl, i1, i2, b3⟩
  clear y0 y1 y2 y3 y4 y5 y6 y7 y8 y9 y10 y11 y12 y13 y14 y15 y16
  have A3 := H1.out.2.2.2.1.below b3
  have R3 := H1.out.2.2.2.2.1.below b3
  have O3 := H1.out.2.2.2.2.2.1.below b3
  obtain ⟨⟨y0, y1, y2, y3, y4, y5, y6, y7, y8, y9, y10, y11, y12, y13, y14, y15, y16⟩, yf⟩ := A3.svn
  obtain ⟨⟨z0, z1, z2, z3, z4, z5, z6, z7, z8, z9, z10, z11, z12, z13, z14, z15, z16⟩, zf⟩ := O3.svn
  have zg2 := zf 2; have zg3 := zf 3; have zg4 := zf 4; have zg5 := zf 5; have zg6 := zf 6; have zg7 := zf 7; have zg8 := zf 8; have zg9 := zf 9; have zg10 := zf 10
  obtain ⟨W4, hW4⟩ : ∃ W4, W4 = setL w3 (w.heap.size + 1 + 1) 2 [.int .i64 L.c.id, .int .i64 L.c.pa, .int .i64 L.c.un, .int .i64 L.c.kd, .int .i64 L.c.pl, .int .i64 L.c.n, .slice (some ⟨g1, 0, none⟩) l1 l1, .slice (some ⟨g2, 0, none⟩) l2 l2, .int .i64 L.c.wa] := ⟨_, rfl⟩
  have H2 : Hid (LnP W4 w.heap.size n f L (some ⟨g, 0, none⟩) n (some ⟨g1, 0, none⟩) (some ⟨g2, 0, none⟩) l1 l2 l1 l2 ∧ Below w.heap.size w W4 ∧ Blk W4 w.heap.size 53 (lac L a n cp a1 a2 l1 l2 c1 c2) ∧ Blk W4 (w.heap.size + 1) 32 lzc ∧ Blk W4 (w.heap.size + 1 + 1) 32 #[.slice (some ⟨g, 0, none⟩) n n, .bool L.bz, .int .i64 L.c.id, .int .i64 L.c.pa, .int .i64 L.c.un, .int .i64 L.c.kd, .int .i64 L.c.pl, .int .i64 L.c.n, .slice (some ⟨g1, 0, none⟩) l1 l1, .slice (some ⟨g2, 0, none⟩) l2 l2, .int .i64 L.c.wa, .int .i64 0, .int .i64 0, .int .i64 0, .int .i64 0, .int .i64 0, .int .i64 0]) := by
    have hg1 : w3.grownBy W4 (some (w.heap.size + 1 + 1)) := by rw [hW4]; exact setL_gw _ _ _
    have hge := HG.out
    have hg2 := H1.out.2.2.2.2.2.2.2
    refine ⟨⟨H1.out.2.1.1, H1.out.2.1.2.1, ?_⟩, by rw [hW4]; exact setL_below (by omega) _ _ _ (bel_nx H1.out.2.2.1 b3), by rw [hW4]; exact Blk.stNe (by omega) _ _ A3, by rw [hW4]; exact Blk.stNe (by omega) _ _ R3, by rw [hW4, show (#[.slice (some ⟨g, 0, none⟩) n n, .bool L.bz, .int .i64 L.c.id, .int .i64 L.c.pa, .int .i64 L.c.un, .int .i64 L.c.kd, .int .i64 L.c.pl, .int .i64 L.c.n, .slice (some ⟨g1, 0, none⟩) l1 l1, .slice (some ⟨g2, 0, none⟩) l2 l2, .int .i64 L.c.wa, .int .i64 0, .int .i64 0, .int .i64 0, .int .i64 0, .int .i64 0, .int .i64 0] : Array Value) = wrA #[.slice (some ⟨g, 0, none⟩) n n, .bool L.bz, .int .i64 0, .int .i64 0, .int .i64 0, .int .i64 0, .int .i64 0, .int .i64 0, .slice none 0 0, .slice none 0 0, .int .i64 0, .int .i64 0, .int .i64 0, .int .i64 0, .int .i64 0, .int .i64 0, .int .i64 0] 2 [.int .i64 L.c.id, .int .i64 L.c.pa, .int .i64 L.c.un, .int .i64 L.c.kd, .int .i64 L.c.pl, .int .i64 L.c.n, .slice (some ⟨g1, 0, none⟩) l1 l1, .slice (some ⟨g2, 0, none⟩) l2 l2, .int .i64 L.c.wa] from (lwr2_9 _ _ _ _ _ _ _ _ _ _ _ _ _ _ _ _ _ _ _ _ _ _ _ _ _ _).symm]; exact Blk.stL _ _ O3⟩
    obtain ⟨F, β, q1, q2, q3⟩ := H1.out.2.2.2.2.2.2.1
    refine ⟨F, β, .inr ⟨g, 0, n, rfl, by omega, ((q1.below b3).rowO).kept hg1 (by intro e9; have := Option.some.inj e9; omega)⟩, ((q2.below b3).keptLt hg1 (by omega)).mono (by omega), OwnI.mono (show OwnI _ _ _ _ from i1.kept hg1 (.inr (fun e9 => by have := (World.ownsRow.lt i1 _ e9).1; omega))) (by omega), OwnB.mono (show OwnB _ _ _ _ from i2.kept hg1 (.inr (fun e9 => by have := (World.ownsRow.lt i2 _ e9).1; omega))) (by omega), fun k hk j hj ho => ?_, fun k hk j hj ho => ?_⟩
    · have := (World.ownsRow.lt i1 k hk).1; have := (q2.ob hj ho).2.1; omega
    · have := (World.ownsRow.lt i2 k hk).1; have := (q2.ob hj ho).2.1; omega
  have hW4' : W4 = (((((((((w3.setCell ⟨w.heap.size + 1 + 1, 2, none⟩ (.int .i64 L.c.id)).setCell ⟨w.heap.size + 1 + 1, 3, none⟩ (.int .i64 L.c.pa)).setCell ⟨w.heap.size + 1 + 1, 4, none⟩ (.int .i64 L.c.un)).setCell ⟨w.heap.size + 1 + 1, 5, none⟩ (.int .i64 L.c.kd)).setCell ⟨w.heap.size + 1 + 1, 6, none⟩ (.int .i64 L.c.pl)).setCell ⟨w.heap.size + 1 + 1, 7, none⟩ (.int .i64 L.c.n)).setCell ⟨w.heap.size + 1 + 1, 8, none⟩ (.slice (some ⟨g1, 0, none⟩) l1 l1)).setCell ⟨w.heap.size + 1 + 1, 9, none⟩ (.slice (some ⟨g2, 0, none⟩) l2 l2)).setCell ⟨w.heap.size + 1 + 1, 10, none⟩ (.int .i64 L.c.wa)) := by rw [hW4]; simp only [setL, Nat.reduceAdd, Nat.zero_add]
  clear b3 A3 R3 O3 hW4 i1 i2 H1
  go_upto_region 5 with fail
  rw [← hW4']
  clear hW4' y0 y1 y2 y3 y4 y5 y6 y7 y8 y9 y10 y11 y12 y13 y14 y15 y16 z0 z1 z2 z3 z4 z5 z6 z7 z8 z9 z10 z11 z12 z13 z14 z15 z16 zf yf zg2 zg3 zg4 zg5 zg6 zg7 zg8 zg9 zg10
  obtain ⟨⟨y0, y1, y2, y3, y4, y5, y6, y7, y8, y9, y10, y11, y12, y13, y14, y15, y16⟩, yf⟩ := H2.out.2.2.1.svn
  obtain ⟨⟨z0, z1, z2, z3, z4, z5, z6, z7, z8, z9, z10, z11, z12, z13, z14, z15, z16⟩, zf⟩ := H2.out.2.2.2.2.svn
  have zg11 := zf 11; have zg12 := zf 12; have zg13 := zf 13; have zg14 := zf 14; have zg15 := zf 15; have zg16 := zf 16
  obtain ⟨W6, hW6⟩ : ∃ W6, W6 = setL W4 (w.heap.size + 1 + 1) 11 [.int .i64 L.nu, .int .i64 L.du, .int .i64 L.le, .int .i64 L.nx, .int .i64 L.wt, .int .i64 L.tr] := ⟨_, rfl⟩
  have H3 : Hid (LnP W6 w.heap.size n f L (some ⟨g, 0, none⟩) n (some ⟨g1, 0, none⟩) (some ⟨g2, 0, none⟩) l1 l2 l1 l2 ∧ Below w.heap.size w W6 ∧ Blk W6 (w.heap.size + 1) 32 lzc ∧ Blk W6 (w.heap.size + 1 + 1) 32 (lac L (some ⟨g, 0, none⟩) n n (some ⟨g1, 0, none⟩) (some ⟨g2, 0, none⟩) l1 l2 l1 l2)) := by
    have hg1 : W4.grownBy W6 (some (w.heap.size + 1 + 1)) := by rw [hW6]; exact setL_gw _ _ _
    exact ⟨H2.out.1.keptT hg1 ⟨_, H2.out.2.2.2.2⟩ (by decide) (by decide) (by decide), by rw [hW6]; exact setL_below (by omega) _ _ _ H2.out.2.1, by rw [hW6]; exact Blk.stNe (by omega) _ _ H2.out.2.2.2.1, by rw [hW6, show (lac L (some ⟨g, 0, none⟩) n n (some ⟨g1, 0, none⟩) (some ⟨g2, 0, none⟩) l1 l2 l1 l2) = wrA #[.slice (some ⟨g, 0, none⟩) n n, .bool L.bz, .int .i64 L.c.id, .int .i64 L.c.pa, .int .i64 L.c.un, .int .i64 L.c.kd, .int .i64 L.c.pl, .int .i64 L.c.n, .slice (some ⟨g1, 0, none⟩) l1 l1, .slice (some ⟨g2, 0, none⟩) l2 l2, .int .i64 L.c.wa, .int .i64 0, .int .i64 0, .int .i64 0, .int .i64 0, .int .i64 0, .int .i64 0] 11 [.int .i64 L.nu, .int .i64 L.du, .int .i64 L.le, .int .i64 L.nx, .int .i64 L.wt, .int .i64 L.tr] from (lwr11_6 _ _ _ _ _ _ _ _ _ _ _ _ _ _ _ _ _ _ _ _ _ _ _).symm]; exact Blk.stL _ _ H2.out.2.2.2.2⟩
  have hW6' : W6 = ((((((W4.setCell ⟨w.heap.size + 1 + 1, 11, none⟩ (.int .i64 L.nu)).setCell ⟨w.heap.size + 1 + 1, 12, none⟩ (.int .i64 L.du)).setCell ⟨w.heap.size + 1 + 1, 13, none⟩ (.int .i64 L.le)).setCell ⟨w.heap.size + 1 + 1, 14, none⟩ (.int .i64 L.nx)).setCell ⟨w.heap.size + 1 + 1, 15, none⟩ (.int .i64 L.wt)).setCell ⟨w.heap.size + 1 + 1, 16, none⟩ (.int .i64 L.tr)) := by rw [hW6]; simp only [setL, Nat.reduceAdd, Nat.zero_add]
  clear hW6 H2
  go_upto_region 11 with fail
  rw [← hW6']
  clear hW6' y0 y1 y2 y3 y4 y5 y6 y7 y8 y9 y10 y11 y12 y13 y14 y15 y16 z0 z1 z2 z3 z4 z5 z6 z7 z8 z9 z10 z11 z12 z13 z14 z15 z16 zf yf zg11 zg12 zg13 zg14 zg15 zg16
  obtain ⟨W5, hW5⟩ : ∃ W5, W5 = setL W6 (w.heap.size + 1) 0 (lacL L (some ⟨g, 0, none⟩) n n (some ⟨g1, 0, none⟩) (some ⟨g2, 0, none⟩) l1 l2 l1 l2) := ⟨_, rfl⟩
  have H4 : Hid (LnP W5 w.heap.size n f L (some ⟨g, 0, none⟩) n (some ⟨g1, 0, none⟩) (some ⟨g2, 0, none⟩) l1 l2 l1 l2 ∧ Below w.heap.size w W5 ∧ Blk W5 (w.heap.size + 1) 32 (lac L (some ⟨g, 0, none⟩) n n (some ⟨g1, 0, none⟩) (some ⟨g2, 0, none⟩) l1 l2 l1 l2)) := by
    have hg1 : W6.grownBy W5 (some (w.heap.size + 1)) := by rw [hW5]; exact setL_gw _ _ _
    exact ⟨H3.out.1.keptT hg1 ⟨_, H3.out.2.2.1⟩ (by decide) (by decide) (by decide), by rw [hW5]; exact setL_below (by omega) _ _ _ H3.out.2.1, by rw [hW5, show (lac L (some ⟨g, 0, none⟩) n n (some ⟨g1, 0, none⟩) (some ⟨g2, 0, none⟩) l1 l2 l1 l2) = wrA lzc 0 (lacL L (some ⟨g, 0, none⟩) n n (some ⟨g1, 0, none⟩) (some ⟨g2, 0, none⟩) l1 l2 l1 l2) from (lwr0_17 _ _ _ _ _ _ _ _ _ _ _ _ _ _ _ _ _ _ _ _ _ _ _ _ _ _ _ _ _ _ _ _ _ _).symm]; exact Blk.stL _ _ H3.out.2.2.1⟩
  have hr := H3.out.2.2.2.all
  have ht := H3.out.2.2.1.there 0 17 (by simp)
  clear H3
  refine wp_region_lit ?_
  refine wpList_load_mid rfl 32 (.tmp 3) rfl (w.heap.size + 1 + 1) 0 rfl (lacL L (some ⟨g, 0, none⟩) n n (some ⟨g1, 0, none⟩) (some ⟨g2, 0, none⟩) l1 l2 l1 l2) _ hr Tryz.underlying32 rfl (by kernel_rfl) ?_
  refine wpList_store_mid rfl 32 (.tmp 2) (.tmp 33) rfl (w.heap.size + 1) 0 (lac L (some ⟨g, 0, none⟩) n n (some ⟨g1, 0, none⟩) (some ⟨g2, 0, none⟩) l1 l2 l1 l2) rfl rfl ht (by kernel_rfl) (by simp [Value.oneCell']) ?_
  rw [setCells_L, ← hW5]
  clear hW5 hr ht
  refine wpList_nil ?_
  go_wp2
  obtain ⟨⟨y0, y1, y2, y3, y4, y5, y6, y7, y8, y9, y10, y11, y12, y13, y14, y15, y16⟩, yf⟩ := H4.out.2.2.svn
  refine bodyPost_ret (v := .agg (lac L (some ⟨g, 0, none⟩) n n (some ⟨g1, 0, none⟩) (some ⟨g2, 0, none⟩) l1 l2 l1 l2)) (by simp [results, Tryz.results15, go_sem, y0, y1, y2, y3, y4, y5, y6, y7, y8, y9, y10, y11, y12, y13, y14, y15, y16]) rfl ⟨g, g1, g2, rfl, H4.out.1, H4.out.2.1⟩
end Go.Proofs.YtmhdneenjoelfaaGreat
namespace Go.Proofs.YtmhdneenjoelfaaGreat
open Go.RowKit Go.Joins
set_option linter.unusedVariables false
set_option linter.unusedSimpArgs false
theorem run_ext_op {P : Program} {ρ : Operand → Value} {o : Oper} {u : World} {x : Operand} {k : Nat} {vs : Array Value} {v : Value} (ho : o.op = .extract x k) (ha : ρ x = .tuple vs) (hv : vs[k]? = some v) : (execOp ρ o).run P u = .ok (.value v) u := by
  unfold execOp
  simp only [ho, ha]
  rw [Sem.run_bind]
  simp [Instr.extract, hv]
theorem run_alloc_op {P : Program} {ρ : Operand → Value} {o : Oper} {w : World} (ty : TypeId) (ho : o.op = .alloc ty) (cs : Array Value) (n b : Nat) (hi : (P.info? ty).map (fun i => (i.zero, i.size, i.bytes)) = some (some (.agg cs), n, b)) : (execOp ρ o).run P w = .ok (.value (.pointer (some ⟨w.heap.size, 0, none⟩))) (w.alloc (.cells cs ty)) := by
  have hz : (zeroValue ty).run P w = .ok (.agg cs) w := by
    cases hq : P.info? ty with
    | none => simp [hq] at hi
    | some i => simp [hq] at hi; simp [zeroValue, typeInfo, hq, hi.1]
  unfold execOp
  simp only [ho]
  rw [Sem.run_bind]
  have h9 : (Instr.alloc ty true (.tuple #[])).run P w = .ok (.pointer (some ⟨w.heap.size, 0, none⟩)) (w.alloc (.cells cs ty)) := by
    unfold Instr.alloc
    rw [Sem.run_bind, hz]
    rfl
  rw [h9]
  rfl
theorem wpList_run_any {P : Program} {ops : Array Oper} {rest : List Oper} {op : Oper} {a : Act} {w : World} {Q : Exit → Act → World → Prop} (hgd : op.guard = none) (v : Value) (hr : (execOp a.eval op).run P w = .ok (.value v) w) (h : wpList P ops Q rest (a.put op.dst v) w) : wpList P ops Q (op :: rest) a w :=
  wpList_plain hgd fun K hK => by
    unfold Oper.wp
    rw [hr]
    exact hK _ _ h
theorem wpList_ext_any {P : Program} {ops : Array Oper} {rest : List Oper} {op : Oper} {a : Act} {w : World} {Q : Exit → Act → World → Prop} (hgd : op.guard = none) (x : Operand) (k : Nat) (ho : op.op = .extract x k) (vs : Array Value) (v : Value) (ha : a.eval x = .tuple vs) (hv : vs[k]? = some v) (h : wpList P ops Q rest (a.put op.dst v) w) : wpList P ops Q (op :: rest) a w :=
  wpList_run_any hgd v (run_ext_op ho ha hv) h
theorem wpList_load_g {P : Program} {ops : Array Oper} {rest : List Oper} {op : Oper} {a : Act} {w : World} {Q : Exit → Act → World → Prop} (hw : Region.wanted op (yielded ops a.tmps) = true) (ty : TypeId) (x : Operand) (ho : op.op = .load ty x)
    (b o : Nat) (hx : a.eval x = .pointer (some ⟨b, o, none⟩)) (cs : List Value) (d : TypeDesc) (hc : w.rangeAt b o cs)
    (hu : P.underlying ty = some d) (hd : d.isRow = true) (hi : (P.info? ty).map (·.size) = some cs.length)
    (h : wpList P ops Q rest (a.put op.dst (.agg cs.toArray)) w) : wpList P ops Q (op :: rest) a w :=
  wpList_step fun K hK => by
    rw [if_pos hw]
    exact wp_load_mid ty x ho b o hx cs d hc hu hd hi (hK _ _ h)
def StL (base n : Nat) (f : Nat → Ca) (L : La) (l1 l2 : Nat) (u : World) (g : Nat) : Prop := ∃ a cp a1 a2 c1 c2, Blk u g 32 (lac L a n cp a1 a2 l1 l2 c1 c2) ∧ LnP u base n f L a cp a1 a2 l1 l2 c1 c2
def RgP (w8 : World) (S : Nat) (St : World → Nat → Prop) (l : Nat → Bool) (σ : Nat → Value) (u : World) : Prop :=
  Below w8.heap.size w8 u ∧ (l 8 = true → ∃ g, σ S = .pointer (some ⟨g, 0, none⟩) ∧ w8.heap.size ≤ g ∧ (l 9 = false → Blk u g 32 lzc) ∧ (l 9 = true → St u g))
def MgP (b : Nat) (u u' : World) : Prop := Below u.heap.size u u' ∨ ∃ g, u.grownBy u' (some g) ∧ ExB u g 32 ∧ b ≤ g
def LpR (w w' : World) (e : Ending) (n' : Nat) (f' : Nat → Ca) (L : La) (l1 l2 : Nat) (b : Bool) : Prop :=
  ∃ a cp a1 a2 c1 c2, e = .returned (.tuple #[.agg (lac L a n' cp a1 a2 l1 l2 c1 c2), .bool b]) ∧ LnO w' w.heap.size n' f' L a cp a1 a2 l1 l2 c1 c2 ∧ Below w.heap.size w w'
end Go.Proofs.YtmhdneenjoelfaaGreat
namespace Go.Proofs.YtmhdneenjoelfaaGreat
open Go.RowKit Go.Joins
set_option linter.unusedVariables false
set_option linter.unusedSimpArgs false
def RgB (w8 : World) (m s S : Nat) (t : TypeId) (zs cs : Array Value) (l : Nat → Bool) (σ : Nat → Value) (u : World) : Prop :=
  Below w8.heap.size w8 u ∧ (l m = true → ∃ g, σ S = .pointer (some ⟨g, 0, none⟩) ∧ w8.heap.size ≤ g ∧ (l s = false → Blk u g t zs) ∧ (l s = true → Blk u g t cs))
theorem RgB.next {w8 u u' : World} {m s S : Nat} {t : TypeId} {zs cs : Array Value} {l : Nat → Bool} {σ : Nat → Value} (h : RgB w8 m s S t zs cs l σ u) {i d : Nat} {v : Value} (h8 : i ≠ m) (h9 : i ≠ s) (hd : d ≠ S) (hb : Below u.heap.size u u') : RgB w8 m s S t zs cs (updB l i) (updS σ (some d) v) u' := by
  refine ⟨bel_nx h.1 hb, fun hl => ?_⟩
  have e8 : updB l i m = l m := by unfold updB; rw [if_neg (Ne.symm h8)]
  have e9 : updB l i s = l s := by unfold updB; rw [if_neg (Ne.symm h9)]
  rw [e8] at hl
  rw [e9]
  obtain ⟨g, q1, q2, q3, q4⟩ := h.2 hl
  refine ⟨g, ?_, q2, fun q => (q3 q).below hb, fun q => (q4 q).below hb⟩
  show (if S = d then v else σ S) = _
  rw [if_neg (Ne.symm hd)]
  exact q1
theorem RgB.made {w8 u : World} {m s S : Nat} {t : TypeId} {zs cs : Array Value} {l : Nat → Bool} {σ : Nat → Value} (h : RgB w8 m s S t zs cs l σ u) (hms : s ≠ m) (h9 : l s = false) : RgB w8 m s S t zs cs (updB l m) (updS σ (some S) (.pointer (some ⟨u.heap.size, 0, none⟩))) (u.alloc (.cells zs t)) := by
  refine ⟨bel_nx h.1 (bel_alloc _ _), fun _ => ⟨u.heap.size, ?_, h.1.size, fun _ => Blk.new _ _ _, fun q => ?_⟩⟩
  · show (if S = S then _ else _) = _
    rw [if_pos rfl]
  · have e9 : updB l m s = l s := by unfold updB; rw [if_neg hms]
    rw [e9, h9] at q; cases q
abbrev rpL (kd fl pl nn : Int) (a1 a2 : Option Addr) (l1 l2 c1 c2 : Nat) : Array Value := #[.int .i64 kd, .int .i64 fl, .int .i64 pl, .int .i64 nn, .slice a1 l1 c1, .slice a2 l2 c2]
abbrev rpLL (kd fl pl nn : Int) (a1 a2 : Option Addr) (l1 l2 c1 c2 : Nat) : List Value := [.int .i64 kd, .int .i64 fl, .int .i64 pl, .int .i64 nn, .slice a1 l1 c1, .slice a2 l2 c2]
abbrev dnc (id pa kd fl pl nn : Int) (a1 a2 : Option Addr) (l1 l2 c1 c2 : Nat) : Array Value := #[.int .i64 id, .int .i64 pa, .int .i64 kd, .int .i64 fl, .int .i64 pl, .int .i64 nn, .slice a1 l1 c1, .slice a2 l2 c2]
abbrev dncL (id pa kd fl pl nn : Int) (a1 a2 : Option Addr) (l1 l2 c1 c2 : Nat) : List Value := [.int .i64 id, .int .i64 pa, .int .i64 kd, .int .i64 fl, .int .i64 pl, .int .i64 nn, .slice a1 l1 c1, .slice a2 l2 c2]
abbrev dn0 : Array Value := #[.int .i64 0, .int .i64 0, .int .i64 0, .int .i64 0, .int .i64 0, .int .i64 0, .slice none 0 0, .slice none 0 0]
def freeL (L : La) : La := ⟨false, ca0, 0, 0, 0, L.nx, L.wt, L.tr⟩
theorem wr08 (v0 v1 v2 v3 v4 v5 v6 v7 x0 x1 x2 x3 x4 x5 x6 x7 : Value) : wrA #[v0, v1, v2, v3, v4, v5, v6, v7] 0 [x0, x1, x2, x3, x4, x5, x6, x7] = #[x0, x1, x2, x3, x4, x5, x6, x7] := by simp [wrA]
theorem Tryz.infoD43 : (Tryz.prog.info? 43).map (fun i => (i.zero, i.size, i.bytes)) = some (some (.agg dn0), 8, 96) := by kernel_rfl
end Go.Proofs.YtmhdneenjoelfaaGreat
namespace Go.Proofs.YtmhdneenjoelfaaGreat
open Go.RowKit Go.Joins
set_option linter.unusedVariables false
set_option linter.unusedSimpArgs false
theorem lwr1_13 (v0 v1 v2 v3 v4 v5 v6 v7 v8 v9 v10 v11 v12 v13 v14 v15 v16 x1 x2 x3 x4 x5 x6 x7 x8 x9 x10 x11 x12 x13 : Value) : wrA #[v0, v1, v2, v3, v4, v5, v6, v7, v8, v9, v10, v11, v12, v13, v14, v15, v16] 1 [x1, x2, x3, x4, x5, x6, x7, x8, x9, x10, x11, x12, x13] = #[v0, x1, x2, x3, x4, x5, x6, x7, x8, x9, x10, x11, x12, x13, v14, v15, v16] := by simp [wrA]
set_option maxRecDepth 20000 in
set_option maxHeartbeats 2000000 in
theorem l12Free_any (L : La) (a a1 a2 : Option Addr) (n cp l1 l2 c1 c2 : Nat) (w : World) :
    Calls Tryz.prog 54 #[.agg (lac L a n cp a1 a2 l1 l2 c1 c2)] w fun e w' => e = .returned (.agg (lac (freeL L) a n cp none none 0 0 0 0)) ∧ Below w.heap.size w w' := by
  obtain ⟨B, hB⟩ : ∃ B, B = w.heap.size := ⟨_, rfl⟩
  obtain ⟨W, hW⟩ : ∃ W, W = (w.alloc (.cells (lac L a n cp a1 a2 l1 l2 c1 c2) 32)).alloc (.cells lzc 32) := ⟨_, rfl⟩
  have A0 : Blk W B 32 (lac L a n cp a1 a2 l1 l2 c1 c2) := by rw [hW, hB]; exact (Blk.new w _ _).below (bel_alloc _ _)
  have R0 : Blk W (B + 1) 32 lzc := by
    rw [hW, hB]; have := Blk.new (w.alloc (.cells (lac L a n cp a1 a2 l1 l2 c1 c2) 32)) lzc 32; simpa using this
  obtain ⟨W2, hW2⟩ : ∃ W2, W2 = setL W B 1 [.bool false, .int .i64 0, .int .i64 0, .int .i64 0, .int .i64 0, .int .i64 0, .int .i64 0, .slice none 0 0, .slice none 0 0, .int .i64 0, .int .i64 0, .int .i64 0, .int .i64 0] := ⟨_, rfl⟩
  have H2 : Hid (Blk W2 B 32 (lac (freeL L) a n cp none none 0 0 0 0) ∧ Blk W2 (B + 1) 32 lzc ∧ Below w.heap.size w W2) := by
    refine ⟨by rw [hW2, show lac (freeL L) a n cp none none 0 0 0 0 = wrA (lac L a n cp a1 a2 l1 l2 c1 c2) 1 [.bool false, .int .i64 0, .int .i64 0, .int .i64 0, .int .i64 0, .int .i64 0, .int .i64 0, .slice none 0 0, .slice none 0 0, .int .i64 0, .int .i64 0, .int .i64 0, .int .i64 0] from (lwr1_13 _ _ _ _ _ _ _ _ _ _ _ _ _ _ _ _ _ _ _ _ _ _ _ _ _ _ _ _ _ _).symm]; exact Blk.stL _ _ A0, by rw [hW2]; exact Blk.stNe (by omega) _ _ R0, by rw [hW2]; exact setL_below (by omega) _ _ _ (by rw [hW]; exact bel_nx (bel_alloc _ _) (bel_alloc _ _))⟩
  have hW2' : W2 = (((((((((((((W.setCell ⟨B, 1, none⟩ (.bool false)).setCell ⟨B, 2, none⟩ (.int .i64 0)).setCell ⟨B, 3, none⟩ (.int .i64 0)).setCell ⟨B, 4, none⟩ (.int .i64 0)).setCell ⟨B, 5, none⟩ (.int .i64 0)).setCell ⟨B, 6, none⟩ (.int .i64 0)).setCell ⟨B, 7, none⟩ (.int .i64 0)).setCell ⟨B, 8, none⟩ (.slice none 0 0)).setCell ⟨B, 9, none⟩ (.slice none 0 0)).setCell ⟨B, 10, none⟩ (.int .i64 0)).setCell ⟨B, 11, none⟩ (.int .i64 0)).setCell ⟨B, 12, none⟩ (.int .i64 0)).setCell ⟨B, 13, none⟩ (.int .i64 0)) := by rw [hW2]; simp only [setL, Nat.reduceAdd, Nat.zero_add]
  obtain ⟨⟨y0, y1, y2, y3, y4, y5, y6, y7, y8, y9, y10, y11, y12, y13, y14, y15, y16⟩, yf⟩ := A0.svn
  have yg1 := yf 1; have yg2 := yf 2; have yg3 := yf 3; have yg4 := yf 4; have yg5 := yf 5; have yg6 := yf 6; have yg7 := yf 7; have yg8 := yf 8; have yg9 := yf 9; have yg10 := yf 10; have yg11 := yf 11; have yg12 := yf 12; have yg13 := yf 13
  clear A0 R0 hW2
  go_enter Tryz.func54, Tryz.ntmps54
  go_upto_region 1 with fail
  have hB1 : w.heap.size + 1 = B + 1 := by omega
  have HB : Hid (w.heap.size = B) := hB.symm
  rw [← hW, hB1, ← hB]
  clear hW hB hB1
  go_upto_region 6 with fail
  rw [← hW2']
  clear hW2' y0 y1 y2 y3 y4 y5 y6 y7 y8 y9 y10 y11 y12 y13 y14 y15 y16 yf yg1 yg2 yg3 yg4 yg5 yg6 yg7 yg8 yg9 yg10 yg11 yg12 yg13
  try go_simp
  refine wp_region_lit ?_
  refine wpList_load_mid rfl 32 (.tmp 1) rfl B 0 rfl (lacL (freeL L) a n cp none none 0 0 0 0) _ H2.out.1.all Tryz.underlying32 rfl (by kernel_rfl) ?_
  refine wpList_store_mid rfl 32 (.tmp 2) (.tmp 9) rfl (B + 1) 0 (lac (freeL L) a n cp none none 0 0 0 0) rfl rfl (H2.out.2.1.there 0 17 (by simp)) (by kernel_rfl) (by simp [Value.oneCell']) ?_
  rw [setCells_L]
  refine wpList_nil ?_
  have H5 : Hid (Blk (setL W2 (B + 1) 0 (lacL (freeL L) a n cp none none 0 0 0 0)) (B + 1) 32 (lac (freeL L) a n cp none none 0 0 0 0)) := by
    show Blk _ _ _ _
    rw [show lac (freeL L) a n cp none none 0 0 0 0 = wrA lzc 0 (lacL (freeL L) a n cp none none 0 0 0 0) from (lwr0_17 _ _ _ _ _ _ _ _ _ _ _ _ _ _ _ _ _ _ _ _ _ _ _ _ _ _ _ _ _ _ _ _ _ _).symm]; exact Blk.stL _ _ H2.out.2.1
  go_wp2
  refine bodyPost_ret (v := .agg (lac (freeL L) a n cp none none 0 0 0 0)) (results_cell Tryz.results54 rfl (run_loadVar_mid _ _ _ 32 (lacL (freeL L) a n cp none none 0 0 0 0) _ H5.out.all Tryz.underlying32 rfl (by kernel_rfl))) rfl ⟨rfl, ?_⟩
  exact setL_below (by have := HB.out; omega) _ _ _ H2.out.2.2
end Go.Proofs.YtmhdneenjoelfaaGreat
namespace Go.Proofs.YtmhdneenjoelfaaGreat
open Go.RowKit Go.Joins
set_option linter.unusedVariables false
set_option linter.unusedSimpArgs false
theorem run_bld_op {P : Program} {ρ : Operand → Value} {o : Oper} {u : World} {t : TypeId} {ps : Array (Nat × Operand)} {qs : Array (Nat × Value)} {v : Value} (ho : o.op = .build t ps) (ha : ps.map (fun (i, x) => (i, ρ x)) = qs) (hr : (Instr.build t qs).run P u = .ok v u) : (execOp ρ o).run P u = .ok (.value v) u := by
  unfold execOp
  simp only [ho, ha]
  rw [Sem.run_bind, hr]
  rfl
theorem gr_comp {w u u2 u3 : World} {B D : Nat} (b : Below w.heap.size w u) (g : u.grownBy u2 (some B)) (g3 : u2.grownBy u3 (some D)) (hD : w.heap.size ≤ D) : w.grownBy u3 (some B) := by
  have g1 : w.grownBy u (some B) := grown_below b (some B)
  refine ⟨g3.os.trans (g.os.trans g1.os), g3.tape.trans (g.tape.trans g1.tape), g3.output.trans (g.output.trans g1.output), Nat.le_trans g1.size (Nat.le_trans g.size g3.size), fun k hk hne => ?_⟩
  have s1 := Nat.lt_of_lt_of_le hk g1.size
  rw [g3.block k (Nat.lt_of_lt_of_le s1 g.size) (fun e => by have := Option.some.inj e; omega), g.block k s1 hne, g1.block k hk hne]
def EndP (w w' : World) (e : Ending) (B : Nat) (L : La) (a : Option Addr) (n cp : Nat) (kd fl pl nn : Int) (b1 b2 : Option Addr) (m1 m2 d1 d2 : Nat) : Prop :=
  e = .returned (.agg (dnc L.c.id L.c.pa kd fl pl nn b1 b2 m1 m2 d1 d2)) ∧ Blk w' B 32 (lac (freeL L) a n cp none none 0 0 0 0) ∧ w.grownBy w' (some B)
set_option maxRecDepth 20000 in
set_option maxHeartbeats 2000000 in
theorem end_any (L : La) (a a1 a2 : Option Addr) (n cp l1 l2 c1 c2 B : Nat) (kd fl pl nn : Int) (b1 b2 : Option Addr) (m1 m2 d1 d2 : Nat) (w : World) (hB : Blk w B 32 (lac L a n cp a1 a2 l1 l2 c1 c2)) :
    Calls Tryz.prog 39 #[.pointer (some ⟨B, 0, none⟩), .agg (rpL kd fl pl nn b1 b2 m1 m2 d1 d2)] w fun e w' => EndP w w' e B L a n cp kd fl pl nn b1 b2 m1 m2 d1 d2 := by
  obtain ⟨Br, hBr⟩ : ∃ Br, Br = w.heap.size := ⟨_, rfl⟩
  obtain ⟨W, hW⟩ : ∃ W, W = (w.alloc (.cells (rpL kd fl pl nn b1 b2 m1 m2 d1 d2) 37)).alloc (.cells dn0 43) := ⟨_, rfl⟩
  have bW : Below w.heap.size w W := by rw [hW]; exact bel_nx (bel_alloc _ _) (bel_alloc _ _)
  have HB : Hid (Blk W B 32 (lac L a n cp a1 a2 l1 l2 c1 c2) ∧ Blk W Br 37 (rpL kd fl pl nn b1 b2 m1 m2 d1 d2) ∧ Blk W (Br + 1) 43 dn0 ∧ Below w.heap.size w W ∧ w.heap.size = Br ∧ B < Br) := by
    refine ⟨hB.below bW, by rw [hW, hBr]; exact (Blk.new w _ _).below (bel_alloc _ _), ?_, bW, hBr.symm, by have := hB.lt; omega⟩
    rw [hW, hBr]; have := Blk.new (w.alloc (.cells (rpL kd fl pl nn b1 b2 m1 m2 d1 d2) 37)) dn0 43; simpa using this
  clear hB bW
  go_enter Tryz.func39, Tryz.ntmps39
  go_upto_region 1 with fail
  have hB1 : w.heap.size + 1 = Br + 1 := by omega
  rw [← hW, hB1, ← hBr]
  clear hW hBr hB1
  try go_simp
  refine wp_region_any (by kernel_rfl) ?_
  refine wpAny_valy (RgB W 12 13 5 43 dn0 (dnc L.c.id L.c.pa kd fl pl nn b1 b2 m1 m2 d1 d2)) (fun _ _ => True) (fun i v u => match i with
    | 0 => v = .pointer (some ⟨B, 0, none⟩)
    | 1 => v = .pointer (some ⟨B, 0, none⟩)
    | 2 => v = .pointer (some ⟨B, 2, none⟩)
    | 3 => v = .pointer (some ⟨B, 2, none⟩)
    | 4 => v = .int .i64 L.c.id
    | 5 => v = .pointer (some ⟨B, 0, none⟩)
    | 6 => v = .pointer (some ⟨B, 0, none⟩)
    | 7 => v = .pointer (some ⟨B, 2, none⟩)
    | 8 => v = .pointer (some ⟨B, 3, none⟩)
    | 9 => v = .int .i64 L.c.pa
    | 10 => v = .agg (rpL kd fl pl nn b1 b2 m1 m2 d1 d2)
    | 11 => v = .agg (dnc L.c.id L.c.pa kd fl pl nn b1 b2 m1 m2 d1 d2)
    | _ => True) (by kernel_rfl) (by kernel_rfl) (fun _ _ _ _ h _ => h) (fun _ => trivial) ⟨by first | exact Below.refl _ _ | exact (Below.refl _ _).drew, fun h => by cases h⟩ ?_ ?_ _ _ rfl (by decide) (fun i => by simp [Array.getD]; try (split <;> rfl))
  rotate_left
  · intro u i o ρ l hR ho hli hcl hρ hc hf hdep hv
    have hi : i < 14 := by
      have := (Array.getElem?_eq_some_iff.1 ho).1
      simpa using this
    obtain rfl | rfl | rfl | rfl | rfl | rfl | rfl | rfl | rfl | rfl | rfl | rfl | rfl | rfl : i = 0 ∨ i = 1 ∨ i = 2 ∨ i = 3 ∨ i = 4 ∨ i = 5 ∨ i = 6 ∨ i = 7 ∨ i = 8 ∨ i = 9 ∨ i = 10 ∨ i = 11 ∨ i = 12 ∨ i = 13 := by omega
    all_goals (simp only [List.getElem?_toArray, List.getElem?_cons_zero, List.getElem?_cons_succ, Option.some.injEq] at ho; subst ho)
    · have s0 : ρ (.tmp 0) = .pointer (some ⟨B, 0, none⟩) := (hρ 0 (by kernel_rfl)).trans rfl
      exact .inl ⟨rfl, .inl ⟨_, u, rfl, s0, (hR.next (i := 0) (d := 6) (by decide) (by decide) (by decide) (Below.refl _ _)), trivial⟩⟩
    · have h0 : ρ (.tmp 6) = .pointer (some ⟨B, 0, none⟩) := hv 0 6 rfl (hdep ⟨0, .data⟩ (by simp) rfl)
      exact .inl ⟨rfl, .inl ⟨_, u, run_nil_op rfl h0, rfl, (hR.next (i := 1) (d := 7) (by decide) (by decide) (by decide) (Below.refl _ _)), trivial⟩⟩
    · have h1 : ρ (.tmp 7) = .pointer (some ⟨B, 0, none⟩) := hv 1 7 rfl (hdep ⟨1, .data⟩ (by simp) rfl)
      exact .inl ⟨rfl, .inl ⟨.pointer (some ⟨B, 2, none⟩), u, run_field_op rfl h1 (by go_simp), rfl, (hR.next (i := 2) (d := 8) (by decide) (by decide) (by decide) (Below.refl _ _)), trivial⟩⟩
    · have h2 : ρ (.tmp 8) = .pointer (some ⟨B, 2, none⟩) := hv 2 8 rfl (hdep ⟨2, .data⟩ (by simp) rfl)
      exact .inl ⟨rfl, .inl ⟨.pointer (some ⟨B, 2, none⟩), u, run_field_op rfl h2 (by go_simp), rfl, (hR.next (i := 3) (d := 9) (by decide) (by decide) (by decide) (Below.refl _ _)), trivial⟩⟩
    · have h3 : ρ (.tmp 9) = .pointer (some ⟨B, 2, none⟩) := hv 3 9 rfl (hdep ⟨3, .data⟩ (by simp) rfl)
      obtain ⟨⟨y0, y1, y2, y3, y4, y5, y6, y7, y8, y9, y10, y11, y12, y13, y14, y15, y16⟩, _⟩ := (HB.out.1.below hR.1).svn
      have hr : (Instr.loadAt 3 (.pointer (some ⟨B, 2, none⟩))).run Tryz.prog u = .ok (.int .i64 L.c.id) u := by go_simp
      exact .inl ⟨rfl, .inl ⟨_, u, run_load_op rfl h3 hr, rfl, (hR.next (i := 4) (d := 10) (by decide) (by decide) (by decide) (Below.refl _ _)), trivial⟩⟩
    · have s0 : ρ (.tmp 0) = .pointer (some ⟨B, 0, none⟩) := (hρ 0 (by kernel_rfl)).trans rfl
      exact .inl ⟨rfl, .inl ⟨_, u, rfl, s0, (hR.next (i := 5) (d := 11) (by decide) (by decide) (by decide) (Below.refl _ _)), trivial⟩⟩
    · have h5 : ρ (.tmp 11) = .pointer (some ⟨B, 0, none⟩) := hv 5 11 rfl (hdep ⟨5, .data⟩ (by simp) rfl)
      exact .inl ⟨rfl, .inl ⟨_, u, run_nil_op rfl h5, rfl, (hR.next (i := 6) (d := 12) (by decide) (by decide) (by decide) (Below.refl _ _)), trivial⟩⟩
    · have h6 : ρ (.tmp 12) = .pointer (some ⟨B, 0, none⟩) := hv 6 12 rfl (hdep ⟨6, .data⟩ (by simp) rfl)
      exact .inl ⟨rfl, .inl ⟨.pointer (some ⟨B, 2, none⟩), u, run_field_op rfl h6 (by go_simp), rfl, (hR.next (i := 7) (d := 13) (by decide) (by decide) (by decide) (Below.refl _ _)), trivial⟩⟩
    · have h7 : ρ (.tmp 13) = .pointer (some ⟨B, 2, none⟩) := hv 7 13 rfl (hdep ⟨7, .data⟩ (by simp) rfl)
      exact .inl ⟨rfl, .inl ⟨.pointer (some ⟨B, 3, none⟩), u, run_field_op rfl h7 (by go_simp), rfl, (hR.next (i := 8) (d := 14) (by decide) (by decide) (by decide) (Below.refl _ _)), trivial⟩⟩
    · have h8 : ρ (.tmp 14) = .pointer (some ⟨B, 3, none⟩) := hv 8 14 rfl (hdep ⟨8, .data⟩ (by simp) rfl)
      obtain ⟨⟨y0, y1, y2, y3, y4, y5, y6, y7, y8, y9, y10, y11, y12, y13, y14, y15, y16⟩, _⟩ := (HB.out.1.below hR.1).svn
      have hr : (Instr.loadAt 3 (.pointer (some ⟨B, 3, none⟩))).run Tryz.prog u = .ok (.int .i64 L.c.pa) u := by go_simp
      exact .inl ⟨rfl, .inl ⟨_, u, run_load_op rfl h8 hr, rfl, (hR.next (i := 9) (d := 15) (by decide) (by decide) (by decide) (Below.refl _ _)), trivial⟩⟩
    · have s3 : ρ (.tmp 3) = .pointer (some ⟨Br, 0, none⟩) := (hρ 3 (by kernel_rfl)).trans rfl
      exact .inl ⟨rfl, .inl ⟨_, u, run_load_op rfl s3 (run_loadAt_mid u Br 0 37 (rpLL kd fl pl nn b1 b2 m1 m2 d1 d2) _ (HB.out.2.1.below hR.1).all Tryz.underlying37 rfl (by kernel_rfl)), rfl, (hR.next (i := 10) (d := 16) (by decide) (by decide) (by decide) (Below.refl _ _)), trivial⟩⟩
    · have h4 : ρ (.tmp 10) = .int .i64 L.c.id := hv 4 10 rfl (hdep ⟨4, .data⟩ (by simp) rfl)
      have h9 : ρ (.tmp 15) = .int .i64 L.c.pa := hv 9 15 rfl (hdep ⟨9, .data⟩ (by simp) rfl)
      have h10 : ρ (.tmp 16) = .agg (rpL kd fl pl nn b1 b2 m1 m2 d1 d2) := hv 10 16 rfl (hdep ⟨10, .data⟩ (by simp) rfl)
      exact .inl ⟨rfl, .inl ⟨.agg (dnc L.c.id L.c.pa kd fl pl nn b1 b2 m1 m2 d1 d2), u, run_bld_op rfl (qs := #[(0, .int .i64 L.c.id), (1, .int .i64 L.c.pa), (2, .agg (rpL kd fl pl nn b1 b2 m1 m2 d1 d2))]) (by simp only [List.map_toArray, List.map_cons, List.map_nil, h4, h9, h10]) (by kernel_rfl), rfl, (hR.next (i := 11) (d := 17) (by decide) (by decide) (by decide) (Below.refl _ _)), trivial⟩⟩
    · have h9 : l 13 = false := by
        cases h : l 13 with
        | false => rfl
        | true =>
          have := hcl 13 _ rfl h ⟨12, .data⟩ (by simp) rfl
          rw [hli] at this; cases this
      exact .inl ⟨rfl, .inl ⟨_, _, run_alloc_op 43 rfl dn0 8 96 (by kernel_rfl), trivial, hR.made (by decide) h9, trivial⟩⟩
    · have h11 : ρ (.tmp 17) = .agg (dnc L.c.id L.c.pa kd fl pl nn b1 b2 m1 m2 d1 d2) := hv 11 17 rfl (hdep ⟨11, .data⟩ (by simp) rfl)
      obtain ⟨g, q1', q2', q3', _⟩ := hR.2 (hdep ⟨12, .data⟩ (by simp) rfl)
      have hz := q3' hli
      have hr : (Instr.storeAt 43 (.pointer (some ⟨g, 0, none⟩)) (.agg (dnc L.c.id L.c.pa kd fl pl nn b1 b2 m1 m2 d1 d2))).run Tryz.prog u = .ok () (setL u g 0 (dncL L.c.id L.c.pa kd fl pl nn b1 b2 m1 m2 d1 d2)) := by
        rw [run_storeAt_mid u g 0 43 (dnc L.c.id L.c.pa kd fl pl nn b1 b2 m1 m2 d1 d2) (hz.there 0 8 (by simp)) (by kernel_rfl) (by simp [Value.oneCell']), setCells_L]
      refine .inl ⟨rfl, .inr (.inr ⟨rfl, _, run_store_op rfl q1' h11 hr, ⟨setL_below q2' _ _ _ hR.1, fun _ => ⟨g, q1', q2', fun h => (by have h9 : updB l 13 13 = true := rfl; rw [h9] at h; cases h), fun _ => ?_⟩⟩, trivial⟩)⟩
      rw [show dnc L.c.id L.c.pa kd fl pl nn b1 b2 m1 m2 d1 d2 = wrA dn0 0 (dncL L.c.id L.c.pa kd fl pl nn b1 b2 m1 m2 d1 d2) from (wr08 _ _ _ _ _ _ _ _ _ _ _ _ _ _ _ _).symm]; exact Blk.stL _ _ hz
  intro vs σ u hR hσ hall
  obtain ⟨g, qs, qlo, _, qst⟩ := hR.2 rfl
  have e8 : vs 12 = .pointer (some ⟨g, 0, none⟩) := (hσ 12 5 rfl).trans qs
  have HQ : Hid (Blk u g 43 (dnc L.c.id L.c.pa kd fl pl nn b1 b2 m1 m2 d1 d2) ∧ Below W.heap.size W u ∧ W.heap.size ≤ g) := ⟨qst rfl, hR.1, qlo⟩
  simp only [putsL]
  rw [e8]
  clear hall hσ e8 qs qlo qst hR
  obtain ⟨W2, hW2⟩ : ∃ W2, W2 = setL u B 1 [.bool false, .int .i64 0, .int .i64 0, .int .i64 0, .int .i64 0, .int .i64 0, .int .i64 0, .slice none 0 0, .slice none 0 0, .int .i64 0, .int .i64 0, .int .i64 0, .int .i64 0] := ⟨_, rfl⟩
  have A0 := HB.out.1.below HQ.out.2.1
  have H2 : Hid (Blk W2 B 32 (lac (freeL L) a n cp none none 0 0 0 0) ∧ Blk W2 (Br + 1) 43 dn0 ∧ Blk W2 g 43 (dnc L.c.id L.c.pa kd fl pl nn b1 b2 m1 m2 d1 d2) ∧ u.grownBy W2 (some B)) := by
    have hlt := HB.out.1.lt
    have h9 := HQ.out.2.2
    have h8 := HB.out.2.2.2.2
    refine ⟨by rw [hW2, show lac (freeL L) a n cp none none 0 0 0 0 = wrA (lac L a n cp a1 a2 l1 l2 c1 c2) 1 [.bool false, .int .i64 0, .int .i64 0, .int .i64 0, .int .i64 0, .int .i64 0, .int .i64 0, .slice none 0 0, .slice none 0 0, .int .i64 0, .int .i64 0, .int .i64 0, .int .i64 0] from (lwr1_13 _ _ _ _ _ _ _ _ _ _ _ _ _ _ _ _ _ _ _ _ _ _ _ _ _ _ _ _ _ _).symm]; exact Blk.stL _ _ A0, by rw [hW2]; exact Blk.stNe (by omega) _ _ (HB.out.2.2.1.below HQ.out.2.1), by rw [hW2]; exact Blk.stNe (by omega) _ _ HQ.out.1, by rw [hW2]; exact setL_gw _ _ _⟩
  have hW2' : W2 = (((((((((((((u.setCell ⟨B, 1, none⟩ (.bool false)).setCell ⟨B, 2, none⟩ (.int .i64 0)).setCell ⟨B, 3, none⟩ (.int .i64 0)).setCell ⟨B, 4, none⟩ (.int .i64 0)).setCell ⟨B, 5, none⟩ (.int .i64 0)).setCell ⟨B, 6, none⟩ (.int .i64 0)).setCell ⟨B, 7, none⟩ (.int .i64 0)).setCell ⟨B, 8, none⟩ (.slice none 0 0)).setCell ⟨B, 9, none⟩ (.slice none 0 0)).setCell ⟨B, 10, none⟩ (.int .i64 0)).setCell ⟨B, 11, none⟩ (.int .i64 0)).setCell ⟨B, 12, none⟩ (.int .i64 0)).setCell ⟨B, 13, none⟩ (.int .i64 0)) := by rw [hW2]; simp only [setL, Nat.reduceAdd, Nat.zero_add]
  obtain ⟨⟨y0, y1, y2, y3, y4, y5, y6, y7, y8, y9, y10, y11, y12, y13, y14, y15, y16⟩, yf⟩ := A0.svn
  have yg1 := yf 1; have yg2 := yf 2; have yg3 := yf 3; have yg4 := yf 4; have yg5 := yf 5; have yg6 := yf 6; have yg7 := yf 7; have yg8 := yf 8; have yg9 := yf 9; have yg10 := yf 10; have yg11 := yf 11; have yg12 := yf 12; have yg13 := yf 13
  clear A0 hW2
  go_upto_region 3 with fail
  rw [← hW2']
  clear hW2' y0 y1 y2 y3 y4 y5 y6 y7 y8 y9 y10 y11 y12 y13 y14 y15 y16 yf yg1 yg2 yg3 yg4 yg5 yg6 yg7 yg8 yg9 yg10 yg11 yg12 yg13
  try go_simp
  refine wp_region_lit ?_
  refine wpList_load_mid rfl 43 (.tmp 5) rfl g 0 rfl (dncL L.c.id L.c.pa kd fl pl nn b1 b2 m1 m2 d1 d2) _ H2.out.2.2.1.all Tryz.underlying43 rfl (by kernel_rfl) ?_
  refine wpList_store_mid rfl 43 (.tmp 4) (.tmp 34) rfl (Br + 1) 0 (dnc L.c.id L.c.pa kd fl pl nn b1 b2 m1 m2 d1 d2) rfl rfl (H2.out.2.1.there 0 8 (by simp)) (by kernel_rfl) (by simp [Value.oneCell']) ?_
  rw [setCells_L]
  refine wpList_nil ?_
  have H5 : Hid (Blk (setL W2 (Br + 1) 0 (dncL L.c.id L.c.pa kd fl pl nn b1 b2 m1 m2 d1 d2)) (Br + 1) 43 (dnc L.c.id L.c.pa kd fl pl nn b1 b2 m1 m2 d1 d2)) := by
    show Blk _ _ _ _
    rw [show dnc L.c.id L.c.pa kd fl pl nn b1 b2 m1 m2 d1 d2 = wrA dn0 0 (dncL L.c.id L.c.pa kd fl pl nn b1 b2 m1 m2 d1 d2) from (wr08 _ _ _ _ _ _ _ _ _ _ _ _ _ _ _ _).symm]; exact Blk.stL _ _ H2.out.2.1
  go_wp2
  refine bodyPost_ret (v := .agg (dnc L.c.id L.c.pa kd fl pl nn b1 b2 m1 m2 d1 d2)) (results_cell Tryz.results39 rfl (run_loadVar_mid _ _ _ 43 (dncL L.c.id L.c.pa kd fl pl nn b1 b2 m1 m2 d1 d2) _ H5.out.all Tryz.underlying43 rfl (by kernel_rfl))) rfl ⟨rfl, ?_, ?_⟩
  · exact Blk.stNe (by have := HB.out.2.2.2.2; omega) _ _ H2.out.1
  · exact gr_comp (bel_nx HB.out.2.2.2.1 HQ.out.2.1) H2.out.2.2.2 (setL_gw _ _ _) (by have := HB.out.2.2.2.2; omega)
end Go.Proofs.YtmhdneenjoelfaaGreat
