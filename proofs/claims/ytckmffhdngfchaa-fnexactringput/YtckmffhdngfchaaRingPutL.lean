/- The law of RingPut, walked. -/
import Derived.Test.YtckmffhdngfchaaRing4
import Derived.Test.YtckmffhdngfchaaRing5
namespace Go.Proofs.Ytckmffhdngfchaa
open Go.RowKit

/-- How many bytes the ring holds behind it, how many were lost, which they are. -/
def PutIs (zs bs : List Int) (q : Nat) (l : Int) (R : List Int) : Prop := q = zs.length + putK zs bs ∧ l = (bs.length : Int) - (putK zs bs : Nat) ∧ R = putR zs bs

theorem specRingPut_q (ad ad' : Addr) (n m cap cap' : Nat) (zs bs : List Int) (q : Nat) (l : Int) (R : List Int) (w : World) (hn : n = zs.length) (hm : m = bs.length) (hE : PutIs zs bs q l R) (hs : Sl w (some ad) zs) (ht : Sl w (some ad') bs) (hz : n ≤ 2000000) (hl : m ≤ 2000000) (hc : m ≤ cap') :
    Calls Try.prog 15 #[.agg #[.slice (some ad) n cap], .slice (some ad') m cap'] w fun e w' => ∃ a c, e = .returned (.tuple #[.agg #[.slice a q c], .int .i64 l]) ∧ Own w' w.heap.size (.slice a q c) R ∧ Below w.heap.size w w' := by
  obtain ⟨rfl, rfl, rfl⟩ := hE
  exact specRingPut_any ad ad' n m cap cap' zs bs w hn hm hs ht hz hl hc

theorem implRingPut_q (a ad : Option Addr) (n m cap cap' : Nat) (zs bs : List Int) (q : Nat) (l : Int) (R : List Int) (w : World) (hn : n = zs.length) (hm : m = bs.length) (hE : PutIs zs bs q l R) (hs : Sl w a zs) (ht : Sl w ad bs) (hz : zs.length ≤ 2000000) (hl : bs.length ≤ 2000000) :
    Calls Try.prog 8 #[.agg #[.slice a n cap], .slice ad m cap'] w fun e w' => ∃ a c, e = .returned (.tuple #[.agg #[.slice a q c], .int .i64 l]) ∧ Own w' w.heap.size (.slice a q c) R ∧ Below w.heap.size w w' := by
  obtain ⟨rfl, rfl, rfl⟩ := hE
  exact implRingPut_any a ad n m cap cap' zs bs w hn hm hs ht hz hl

theorem putIs_len {zs bs : List Int} {q : Nat} {l : Int} {R : List Int} (h : PutIs zs bs q l R) : q = R.length := by
  obtain ⟨rfl, rfl, rfl⟩ := h; exact (putR_length zs bs).symm

set_option maxRecDepth 20000 in
set_option maxHeartbeats 8000000 in
theorem ringPut_law (a ad : Option Addr) (n m cap cap' : Nat) (zs bs : List Int) (q : Nat) (l : Int) (R : List Int) (w : World) (hn : n = zs.length) (hm : m = bs.length) (hs : Sl w a zs) (ht : Sl w ad bs) (hl : n ≤ 1048576) (hl' : m ≤ 1048576) (hE : PutIs zs bs q l R) (hq3 : q ≤ 3000000) (hq2 : q ≤ 2000000) :
    Calls Try.prog 4 #[.agg #[.slice a n cap], .slice ad m cap'] w fun e w' => e = .returned (.bool true) ∧ Below w.heap.size w w' := by
  have HN : Hid (n = zs.length) := hn
  have HM : Hid (m = bs.length) := hm
  have HE : Hid (PutIs zs bs q l R) := hE
  have HQ : Hid (q = R.length) := putIs_len hE
  have HR : Hid (R.length ≤ 2000000) := by show R.length ≤ 2000000; rw [← putIs_len hE]; exact hq2
  have HL : Hid (zs.length ≤ 2000000) := by show zs.length ≤ 2000000; omega
  have HL' : Hid (bs.length ≤ 2000000) := by show bs.length ≤ 2000000; omega
  have Hs : Hid (Sl w a zs) := hs
  have Ht : Hid (Sl w ad bs) := ht
  have f0 : ¬ (1048576 - (n : Int) < 0) := by omega
  have hn2 : n ≤ 2000000 := by omega
  have hm2 : m ≤ 2000000 := by omega
  have hn3 : n ≤ 3000000 := by omega
  have hm3 : m ≤ 3000000 := by omega
  clear hs ht hn hm hE
  have b0 := bel_alloc w (.cells #[.slice a n cap] 35)
  have A0 := Box.new w (.slice a n cap) 35
  have cA0 := A0.cell
  go_enter Try.func4, Try.ntmps4
  go_wp2_with fail
  refine (szRing_fits a n cap _ hl).mono ?_
  rintro e v1 ⟨rfl, b'⟩
  have b1 := bel_next b0 b'
  have A1 := A0.below b'
  have cA1 := A1.cell
  clear b0 A0 cA0 b'
  go_wp2_with fail
  refine (toRing_any a n cap zs _ HN.out (Hs.out.below b1) HL.out).mono ?_
  rintro e v2 ⟨r0, rfl, n', b'⟩
  have b2 := bel_next b1 b'
  have A2 := A1.below b'
  have cA2 := A2.cell
  have Q2 := n'
  have hBQ : w.heap.size ≤ _ := b1.size
  clear b1 A1 cA1 b' n'
  go_wp2_with fail
  refine (toByteS_ok ad m cap' bs _ HM.out (Ht.out.below b2) HL'.out).mono ?_
  rintro e v3 ⟨t0, rfl, n', b'⟩
  have b3 := bel_next b2 b'
  have A3 := A2.below b'
  have cA3 := A3.cell
  have Q3 := Q2.below b'
  have T3 := n'
  have hBT : w.heap.size ≤ _ := b2.size
  have neQT := own_ne Q2 n' (Nat.le_refl _)
  clear b2 A2 cA2 Q2 b' n'
  go_wp2_with fail
  refine (specRingPut_q _ _ _ _ _ _ zs bs q l R _ HN.out HM.out HE.out Q3.sl.2 T3.sl.2 hn2 hm2 (Nat.le_refl _)).mono ?_
  rintro e v4 ⟨o0, oc, rfl, n', b'⟩
  have b4 := bel_next b3 b'
  have A4 := A3.below b'
  have cA4 := A4.cell
  have Q4 := Q3.below b'
  have T4 := T3.below b'
  have O4 := n'
  have hBO : w.heap.size ≤ _ := b3.size
  have neQO := own_ne Q3 n' (Nat.le_refl _)
  have neTO := own_ne T3 n' (Nat.le_refl _)
  clear b3 A3 cA3 Q3 T3 b' n'
  clear Q4 T4 neQO neTO hBQ hBT neQT
  have b' := bel_alloc v4 (.cells #[.slice o0 q oc] 25)
  have n' := Box.new v4 (.slice o0 q oc) 25
  have b5 := bel_next b4 b'
  have A5 := A4.below b'
  have cA5 := A5.cell
  have O5 := O4.below b'
  have W5 := n'
  have cW5 := W5.cell
  have fW5 := W5.fro
  clear b4 A4 cA4 O4 b' n' fW5
  go_wp2_with fail
  refine (toRing_any a n cap zs _ HN.out (Hs.out.below b5) HL.out).mono ?_
  rintro e v6 ⟨x0, rfl, n', b'⟩
  have b6 := bel_next b5 b'
  have A6 := A5.below b'
  have cA6 := A6.cell
  have W6 := W5.below b'
  have cW6 := W6.cell
  have O6 := O5.below b'
  have X6 := n'
  have hBX : w.heap.size ≤ _ := b5.size
  have neOX := own_ne O5 n' (Nat.le_refl _)
  clear b5 A5 cA5 W5 cW5 O5 b' n'
  have b' := bel_alloc v6 (.cells #[.slice (some ⟨x0, 0, none⟩) n n] 25)
  have n' := Box.new v6 (.slice (some ⟨x0, 0, none⟩) n n) 25
  have b7 := bel_next b6 b'
  have A7 := A6.below b'
  have cA7 := A7.cell
  have W7 := W6.below b'
  have cW7 := W7.cell
  have O7 := O6.below b'
  have X7 := X6.below b'
  have V7 := n'
  have cV7 := V7.cell
  have fV7 := V7.fro
  clear b6 A6 cA6 W6 cW6 O6 X6 b' n' fV7
  go_wp2_with fail
  refine (toByteS_ok ad m cap' bs _ HM.out (Ht.out.below b7) HL'.out).mono ?_
  rintro e v8 ⟨y0, rfl, n', b'⟩
  have b8 := bel_next b7 b'
  have A8 := A7.below b'
  have cA8 := A8.cell
  have W8 := W7.below b'
  have cW8 := W8.cell
  have V8 := V7.below b'
  have cV8 := V8.cell
  have O8 := O7.below b'
  have X8 := X7.below b'
  have Y8 := n'
  have hBY : w.heap.size ≤ _ := b7.size
  have neOY := own_ne O7 n' (Nat.le_refl _)
  have neXY := own_ne X7 n' (Nat.le_refl _)
  clear b7 A7 cA7 W7 cW7 V7 cV7 O7 X7 b' n'
  go_wp2_with fail
  refine (implRingPut_q _ _ _ _ _ _ zs bs q l R _ HN.out HM.out HE.out X8.sl.2 Y8.sl.2 HL.out HL'.out).mono ?_
  rintro e v9 ⟨g0, gc, rfl, n', b'⟩
  have b9 := bel_next b8 b'
  have A9 := A8.below b'
  have cA9 := A9.cell
  have W9 := W8.below b'
  have cW9 := W9.cell
  have V9 := V8.below b'
  have cV9 := V9.cell
  have O9 := O8.below b'
  have X9 := X8.below b'
  have Y9 := Y8.below b'
  have G9 := n'
  have hBG : w.heap.size ≤ _ := b8.size
  have neOG := own_ne O8 n' (Nat.le_refl _)
  have neXG := own_ne X8 n' (Nat.le_refl _)
  have neYG := own_ne Y8 n' (Nat.le_refl _)
  clear b8 A8 cA8 W8 cW8 V8 cV8 O8 X8 Y8 b' n'
  have b' := bel_alloc v9 (.cells #[.slice g0 q gc] 25)
  have n' := Box.new v9 (.slice g0 q gc) 25
  have b10 := bel_next b9 b'
  have A10 := A9.below b'
  have cA10 := A10.cell
  have W10 := W9.below b'
  have cW10 := W10.cell
  have V10 := V9.below b'
  have cV10 := V10.cell
  have O10 := O9.below b'
  have X10 := X9.below b'
  have Y10 := Y9.below b'
  have G10 := G9.below b'
  have U10 := n'
  have cU10 := U10.cell
  have fU10 := U10.fro
  clear b9 A9 cA9 W9 cW9 V9 cV9 O9 X9 Y9 G9 b' n' fU10
  go_wp2_with fail
  refine (eqRing_true _ _ _ _ _ _ R _ HQ.out HQ.out G10.sl.2 O10.sl.2 HR.out).mono ?_
  rintro e v11 ⟨rfl, b'⟩
  have b11 := bel_next b10 b'
  have A11 := A10.below b'
  have cA11 := A11.cell
  have W11 := W10.below b'
  have cW11 := W11.cell
  have V11 := V10.below b'
  have cV11 := V11.cell
  have U11 := U10.below b'
  have cU11 := U11.cell
  have O11 := O10.below b'
  have X11 := X10.below b'
  have Y11 := Y10.below b'
  have G11 := G10.below b'
  clear b10 A10 cA10 W10 cW10 V10 cV10 U10 cU10 O10 X10 Y10 G10 b'
  go_upto_region 13 with fail
  go_cut [56] (fun s56 wx => s56 = .bool false ∧ Below v11.heap.size v11 wx)
  case first =>
    go_region_with (first
      | (go_at_call 16; refine (toRing_any a n cap zs _ HN.out (Hs.out.below ?_) HL.out).mono ?_; (first | exact b11 | exact b11.drew | exact b11.drew.drew | exact b11.drew.drew.drew); rintro e z7 ⟨g7, rfl, o7, b7'⟩; have b7 := bel_next (Below.refl _ v11).drew b7'; have x7 := keepc b7' (show v11.drew.cell? _ = _ from cV11); have o6' := (X11.below (Below.refl _ _).drew).below b7'; clear b7')
      | (go_at_call 18; refine (eqRing_true _ _ _ _ _ _ zs _ HN.out HN.out ?_ ?_ HL.out).mono ?_; (first | exact o6'.sl.2 | exact (o6'.below (Below.refl _ _).drew).sl.2 | exact (o6'.below (Below.refl _ _).drew.drew).sl.2); (first | exact o7.sl.2 | exact (o7.below (Below.refl _ _).drew).sl.2 | exact (o7.below (Below.refl _ _).drew.drew).sl.2); rintro e z8 ⟨rfl, b8'⟩; have b8 := bel_next (by first | exact b7 | exact b7.drew | exact b7.drew.drew) b8'; clear b8'))
    all_goals (go_wp2_with fail; go_meet; exact ⟨rfl, b8⟩)
  case rest =>
  obtain ⟨rfl, b'⟩ := hcut
  have b12 := bel_next b11 b'
  have A12 := A11.below b'
  have cA12 := A12.cell
  have W12 := W11.below b'
  have cW12 := W12.cell
  have V12 := V11.below b'
  have cV12 := V12.cell
  have U12 := U11.below b'
  have cU12 := U12.cell
  have O12 := O11.below b'
  have X12 := X11.below b'
  have Y12 := Y11.below b'
  have G12 := G11.below b'
  clear b11 A11 cA11 W11 cW11 V11 cV11 U11 cU11 O11 X11 Y11 G11 b'
  go_wp2_with fail
  refine (toByteS_ok ad m cap' bs _ HM.out (Ht.out.below b12) HL'.out).mono ?_
  rintro e v13 ⟨t1, rfl, n', b'⟩
  have b13 := bel_next b12 b'
  have A13 := A12.below b'
  have cA13 := A13.cell
  have W13 := W12.below b'
  have cW13 := W13.cell
  have V13 := V12.below b'
  have cV13 := V13.cell
  have U13 := U12.below b'
  have cU13 := U13.cell
  have O13 := O12.below b'
  have X13 := X12.below b'
  have Y13 := Y12.below b'
  have G13 := G12.below b'
  have T13 := n'
  have hBT : w.heap.size ≤ _ := b12.size
  have neOT := own_ne O12 n' (Nat.le_refl _)
  have neXT := own_ne X12 n' (Nat.le_refl _)
  have neYT := own_ne Y12 n' (Nat.le_refl _)
  have neGT := own_ne G12 n' (Nat.le_refl _)
  clear b12 A12 cA12 W12 cW12 V12 cV12 U12 cU12 O12 X12 Y12 G12 b' n'
  go_wp2_with fail
  refine (eqByteS_ok _ _ _ _ _ _ bs _ HM.out HM.out Y13.sl.2 T13.sl.2 HL'.out).mono ?_
  rintro e v14 ⟨rfl, b'⟩
  have b14 := bel_next b13 b'
  have A14 := A13.below b'
  have cA14 := A14.cell
  have W14 := W13.below b'
  have cW14 := W14.cell
  have V14 := V13.below b'
  have cV14 := V14.cell
  have U14 := U13.below b'
  have cU14 := U14.cell
  have O14 := O13.below b'
  have X14 := X13.below b'
  have Y14 := Y13.below b'
  have G14 := G13.below b'
  have T14 := T13.below b'
  clear b13 A13 cA13 W13 cW13 V13 cV13 U13 cU13 O13 X13 Y13 G13 T13 b'
  clear T14 neOT neXT neYT neGT hBT
  go_wp2_with fail
  refine (markRing_sv 1 _ _ _ _ 1 zs _ rfl X14 hn3 (by omega)).mono ?_
  rintro e v15 ⟨rfl, n', gr⟩
  have b15 := below_own b14 X14 gr hBX b14.size
  have A15 := A14.grown gr (X14.noBox A14 (by decide))
  have cA15 := A15.cell
  have W15 := W14.grown gr (X14.noBox W14 (by decide))
  have cW15 := W15.cell
  have V15 := V14.grown gr (X14.noBox V14 (by decide))
  have cV15 := V15.cell
  have U15 := U14.grown gr (X14.noBox U14 (by decide))
  have cU15 := U15.cell
  have O15 := O14.kept gr neOX.1
  have Y15 := Y14.kept gr neXY.2
  have G15 := G14.kept gr neXG.2
  clear b14 A14 cA14 W14 cW14 V14 cV14 U14 cU14 O14 Y14 G14 X14 n' gr
  go_wp2_with fail
  refine (markByteS_sv (1 + (n : Int)) _ _ _ _ (1 + n) bs _ (by simp) Y15 hm3 (by omega)).mono ?_
  rintro e v16 ⟨rfl, n', gr⟩
  have b16 := below_own b15 Y15 gr hBY b15.size
  have A16 := A15.grown gr (Y15.noBox A15 (by decide))
  have cA16 := A16.cell
  have W16 := W15.grown gr (Y15.noBox W15 (by decide))
  have cW16 := W16.cell
  have V16 := V15.grown gr (Y15.noBox V15 (by decide))
  have cV16 := V16.cell
  have U16 := U15.grown gr (Y15.noBox U15 (by decide))
  have cU16 := U16.cell
  have O16 := O15.kept gr neOY.1
  have G16 := G15.kept gr neYG.2
  clear b15 A15 cA15 W15 cW15 V15 cV15 U15 cU15 O15 G15 Y15 n' gr
  go_wp2_with fail
  refine (eqRing_true _ _ _ _ _ _ R _ HQ.out HQ.out G16.sl.2 O16.sl.2 HR.out).mono ?_
  rintro e v17 ⟨rfl, b'⟩
  have b17 := bel_next b16 b'
  have A17 := A16.below b'
  have cA17 := A17.cell
  have W17 := W16.below b'
  have cW17 := W17.cell
  have V17 := V16.below b'
  have cV17 := V17.cell
  have U17 := U16.below b'
  have cU17 := U17.cell
  have O17 := O16.below b'
  have G17 := G16.below b'
  clear b16 A16 cA16 W16 cW16 V16 cV16 U16 cU16 O16 G16 b'
  go_wp2_with fail
  refine (markRing_sv 1 _ _ _ _ 1 R _ rfl G17 hq3 (by omega)).mono ?_
  rintro e v18 ⟨rfl, n', gr⟩
  have b18 := below_own b17 G17 gr hBG b17.size
  have A18 := A17.grown gr (G17.noBox A17 (by decide))
  have cA18 := A18.cell
  have W18 := W17.grown gr (G17.noBox W17 (by decide))
  have cW18 := W18.cell
  have V18 := V17.grown gr (G17.noBox V17 (by decide))
  have cV18 := V18.cell
  have U18 := U17.grown gr (G17.noBox U17 (by decide))
  have cU18 := U18.cell
  have O18 := O17.kept gr neOG.1
  have G18 := n'
  clear b17 A17 cA17 W17 cW17 V17 cV17 U17 cU17 O17 G17 n' gr
  go_wp2_with fail
  refine (heldRing_sv 1 _ _ _ 1 _ rfl G18.sl.2 hq3 (by omega)).mono ?_
  rintro e v19 ⟨rfl, b'⟩
  have b19 := bel_next b18 b'
  have A19 := A18.below b'
  have cA19 := A19.cell
  have W19 := W18.below b'
  have cW19 := W19.cell
  have V19 := V18.below b'
  have cV19 := V19.cell
  have U19 := U18.below b'
  have cU19 := U19.cell
  have O19 := O18.below b'
  have G19 := G18.below b'
  clear b18 A18 cA18 W18 cW18 V18 cV18 U18 cU18 O18 G18 b'
  go_wp2_with fail
  refine (toRing_any a n cap zs _ HN.out (Hs.out.below b19) HL.out).mono ?_
  rintro e v20 ⟨r1, rfl, n', b'⟩
  have b20 := bel_next b19 b'
  have A20 := A19.below b'
  have cA20 := A20.cell
  have W20 := W19.below b'
  have cW20 := W20.cell
  have V20 := V19.below b'
  have cV20 := V20.cell
  have U20 := U19.below b'
  have cU20 := U20.cell
  have O20 := O19.below b'
  have G20 := G19.below b'
  have Q20 := n'
  have hBQ : w.heap.size ≤ _ := b19.size
  have neOQ := own_ne O19 n' (Nat.le_refl _)
  have neGQ := own_ne G19 n' (Nat.le_refl _)
  clear b19 A19 cA19 W19 cW19 V19 cV19 U19 cU19 O19 G19 b' n'
  go_wp2_with fail
  refine (toByteS_ok ad m cap' bs _ HM.out (Ht.out.below b20) HL'.out).mono ?_
  rintro e v21 ⟨t2, rfl, n', b'⟩
  have b21 := bel_next b20 b'
  have A21 := A20.below b'
  have cA21 := A21.cell
  have W21 := W20.below b'
  have cW21 := W21.cell
  have V21 := V20.below b'
  have cV21 := V21.cell
  have U21 := U20.below b'
  have cU21 := U21.cell
  have O21 := O20.below b'
  have G21 := G20.below b'
  have Q21 := Q20.below b'
  have T21 := n'
  have hBT : w.heap.size ≤ _ := b20.size
  have neOT := own_ne O20 n' (Nat.le_refl _)
  have neGT := own_ne G20 n' (Nat.le_refl _)
  have neQT := own_ne Q20 n' (Nat.le_refl _)
  clear b20 A20 cA20 W20 cW20 V20 cV20 U20 cU20 O20 G20 Q20 b' n'
  go_wp2_with fail
  refine (implRingPut_q _ _ _ _ _ _ zs bs q l R _ HN.out HM.out HE.out Q21.sl.2 T21.sl.2 HL.out HL'.out).mono ?_
  rintro e v22 ⟨h0, hc0, rfl, n', b'⟩
  have b22 := bel_next b21 b'
  have A22 := A21.below b'
  have cA22 := A22.cell
  have W22 := W21.below b'
  have cW22 := W22.cell
  have V22 := V21.below b'
  have cV22 := V22.cell
  have U22 := U21.below b'
  have cU22 := U22.cell
  have O22 := O21.below b'
  have G22 := G21.below b'
  have Q22 := Q21.below b'
  have T22 := T21.below b'
  have Z22 := n'
  have hBZ : w.heap.size ≤ _ := b21.size
  have neOZ := own_ne O21 n' (Nat.le_refl _)
  have neGZ := own_ne G21 n' (Nat.le_refl _)
  have neQZ := own_ne Q21 n' (Nat.le_refl _)
  have neTZ := own_ne T21 n' (Nat.le_refl _)
  clear b21 A21 cA21 W21 cW21 V21 cV21 U21 cU21 O21 G21 Q21 T21 b' n'
  have b' := bel_alloc v22 (.cells #[.slice h0 q hc0] 25)
  have n' := Box.new v22 (.slice h0 q hc0) 25
  have b23 := bel_next b22 b'
  have A23 := A22.below b'
  have cA23 := A23.cell
  have W23 := W22.below b'
  have cW23 := W23.cell
  have V23 := V22.below b'
  have cV23 := V23.cell
  have U23 := U22.below b'
  have cU23 := U23.cell
  have O23 := O22.below b'
  have G23 := G22.below b'
  have Q23 := Q22.below b'
  have T23 := T22.below b'
  have Z23 := Z22.below b'
  have P23 := n'
  have cP23 := P23.cell
  have fP23 := P23.fro
  clear b22 A22 cA22 W22 cW22 V22 cV22 U22 cU22 O22 G22 Q22 T22 Z22 b' n' fP23
  go_wp2_with fail
  refine (eqRing_true _ _ _ _ _ _ R _ HQ.out HQ.out Z23.sl.2 O23.sl.2 HR.out).mono ?_
  rintro e v24 ⟨rfl, b'⟩
  have b24 := bel_next b23 b'
  have A24 := A23.below b'
  have cA24 := A24.cell
  have W24 := W23.below b'
  have cW24 := W24.cell
  have V24 := V23.below b'
  have cV24 := V24.cell
  have U24 := U23.below b'
  have cU24 := U24.cell
  have P24 := P23.below b'
  have cP24 := P24.cell
  have O24 := O23.below b'
  have G24 := G23.below b'
  have Q24 := Q23.below b'
  have T24 := T23.below b'
  have Z24 := Z23.below b'
  clear b23 A23 cA23 W23 cW23 V23 cV23 U23 cU23 P23 cP23 O23 G23 Q23 T23 Z23 b'
  go_wp2_with fail
  refine (heldRing_sv 1 _ _ _ 1 _ rfl G24.sl.2 hq3 (by omega)).mono ?_
  rintro e v25 ⟨rfl, b'⟩
  have b25 := bel_next b24 b'
  have A25 := A24.below b'
  have cA25 := A25.cell
  have W25 := W24.below b'
  have cW25 := W25.cell
  have V25 := V24.below b'
  have cV25 := V25.cell
  have U25 := U24.below b'
  have cU25 := U25.cell
  have P25 := P24.below b'
  have cP25 := P25.cell
  have O25 := O24.below b'
  have G25 := G24.below b'
  have Q25 := Q24.below b'
  have T25 := T24.below b'
  have Z25 := Z24.below b'
  clear b24 A24 cA24 W24 cW24 V24 cV24 U24 cU24 P24 cP24 O24 G24 Q24 T24 Z24 b'
  go_wp2
  go_ret
  exact ⟨rfl, b25⟩

end Go.Proofs.Ytckmffhdngfchaa
