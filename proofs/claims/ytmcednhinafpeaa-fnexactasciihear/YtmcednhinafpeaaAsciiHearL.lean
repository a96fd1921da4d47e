/- The law of FnExactAsciiHear, walked. -/
import Derived.Test.YtmcednhinafpeaaAsc9a
import Derived.Test.YtmcednhinafpeaaAsc9b
import Derived.Test.YtmcednhinafpeaaAsc8a
import Derived.Test.YtmcednhinafpeaaAsc8b
import Derived.Test.YtmcednhinafpeaaArgK
import Derived.Deep.RegionWith
namespace Go.Proofs.Ytmcednhinafpeaa
open Go.RowKit

set_option linter.unusedVariables false

set_option linter.unusedSimpArgs false

/-- What both answer. -/
theorem hear_any (op : Bool) (ls wt by' tk : Int) (zs : List Int) (hl' : zs.length ≤ 1999999) : ∃ (Z : List Int) (D : Bool) (LS : Int) (G : Option (Int × Int × List Int)), (Z.length ≤ 2000000 ∧ cnG G ≤ 302) ∧
    (∀ (a : Option Addr) (l c : Nat) (w : World), l = zs.length → Sl w a zs → Calls Try.prog 16 #[sc a l c op ls wt, .int .u8 by', .int .i64 tk] w fun e w' => XR w w' e Z D LS wt G) ∧
    (∀ (a : Option Addr) (l c : Nat) (w : World), l = zs.length → Sl w a zs → Calls Try.prog 31 #[sc a l c op ls wt, .int .u8 by', .int .i64 tk] w fun e w' => XR w w' e Z D LS wt G) := by
  have hl : zs.length ≤ 2000000 := by omega
  cases hh : (okK zs op ls wt && tkB tk)
  · exact ⟨zs, op, ls, none, ⟨by omega, by simp [cnG]⟩, fun a l c w hn hs => implAsciiHear_no a l c op ls wt by' tk zs w hn hs hl hh, fun a l c w hn hs => specAsciiHear_no a l c op ls wt by' tk zs w hn hs hl hh⟩
  have ho : okK zs op ls wt = true := by simp only [Bool.and_eq_true] at hh; exact hh.1
  have ht := tkB_parts (t := tk) (by simp only [Bool.and_eq_true] at hh; exact hh.2)
  clear hh
  have hp := okK_parts ho
  cases op
  · have hz : zs = [] := by have h := hp.2.2.2.2.2; cases zs with | nil => rfl | cons z zs => simp at h
    subst hz
    by_cases h58 : by' = 58
    · exact ⟨[58], true, tk, none, ⟨by simp, by simp [cnG]⟩, fun a l c w hn hs => implAsciiHear_sc a l c ls wt by' tk [] w hn hs hl ho ht h58, fun a l c w hn hs => specAsciiHear_sc a l c ls wt by' tk [] w hn hs hl ho ht h58⟩
    · exact ⟨[], false, tk, none, ⟨by simp, by simp [cnG]⟩, fun a l c w hn hs => implAsciiHear_sp a l c ls wt by' tk [] w hn hs hl ho ht (by simpa using h58), fun a l c w hn hs => specAsciiHear_sp a l c ls wt by' tk [] w hn hs hl ho ht (by simpa using h58)⟩
  · by_cases hg : wt ≤ gap ls tk
    · by_cases h58 : by' = 58
      · exact ⟨[58], true, tk, some (5, 0, []), ⟨by simp, by simp [cnG]⟩, fun a l c w hn hs => implAsciiHear_lc a l c ls wt by' tk zs w hn hs hl ho ht hg h58, fun a l c w hn hs => specAsciiHear_lc a l c ls wt by' tk zs w hn hs hl ho ht hg h58⟩
      · exact ⟨[], false, tk, some (5, 0, []), ⟨by simp, by simp [cnG]⟩, fun a l c w hn hs => implAsciiHear_lp a l c ls wt by' tk zs w hn hs hl ho ht hg (by simpa using h58), fun a l c w hn hs => specAsciiHear_lp a l c ls wt by' tk zs w hn hs hl ho ht hg (by simpa using h58)⟩
    · by_cases h58 : by' = 58
      · exact ⟨[58], true, tk, some (4, 0, []), ⟨by simp, by simp [cnG]⟩, fun a l c w hn hs => implAsciiHear_oc a l c ls wt by' tk zs w hn hs hl ho ht hg h58, fun a l c w hn hs => specAsciiHear_oc a l c ls wt by' tk zs w hn hs hl ho ht hg h58⟩
      have h58' : (by' == 58) = false := by simpa using h58
      by_cases h6 : zs.length = 600
      · exact ⟨[], false, tk, some (2, 0, []), ⟨by simp, by simp [cnG]⟩, fun a l c w hn hs => implAsciiHear_ol a l c ls wt by' tk zs w hn hs hl ho ht hg (by omega) h58', fun a l c w hn hs => specAsciiHear_ol a l c ls wt by' tk zs w hn hs hl ho ht hg (by omega) h58'⟩
      have h6' : zs.length < 600 := by omega
      by_cases h10 : by' = 10
      · exact ⟨[], false, tk, some (gaC (zs ++ [10]), gaU (zs ++ [10]), gaP (zs ++ [10])), ⟨by simp, by have := gaP_300 (zs ++ [10]); show 2 + (gaP (zs ++ [10])).length ≤ 302; omega⟩, fun a l c w hn hs => implAsciiHear_oe a l c ls wt by' tk zs w hn hs hl ho ht hg (by omega) h10, fun a l c w hn hs => specAsciiHear_oe a l c ls wt by' tk zs w hn hs hl ho ht hg (by omega) h10⟩
      · exact ⟨zs ++ [by'], true, tk, none, ⟨by simp; omega, by simp [cnG]⟩, fun a l c w hn hs => implAsciiHear_oa a l c ls wt by' tk zs w hn hs hl ho ht hg (by omega) (by simpa using h10) h58', fun a l c w hn hs => specAsciiHear_oa a l c ls wt by' tk zs w hn hs hl ho ht hg (by omega) (by simpa using h10) h58'⟩

set_option maxRecDepth 20000 in
set_option maxHeartbeats 16000000 in
theorem asciiHear_law (a : Option Addr) (l c : Nat) (op : Bool) (ls wt tk : Int) (by' : Int) (zs : List Int) (w : World) (hq : InAsc w a l ls wt zs) (hl : l ≤ 1048576) :
    Calls Try.prog 8 #[.agg #[.slice a l c, .bool op, .int .i64 ls, .int .i64 wt], .int .u8 by', .int .i64 tk] w fun e w' => e = .returned (.bool true) ∧ Below w.heap.size w w' := by
  obtain ⟨⟨h1, _, s1, hr⟩, _⟩ := hq
  have HN : Hid (l = zs.length ∧ zs.length ≤ 2000000 ∧ l ≤ 2000000) := by show _ ∧ _; omega
  have HR : Hid (∀ z ∈ zs, 0 ≤ z ∧ z ≤ 255) := hr
  have HS : Hid (Sl w a zs) := s1
  have f0 : ¬ (1048576 - (l : Int) < 0) := by omega
  obtain ⟨Z, D, LS, G, hZG, hIM, hSP⟩ := hear_any op ls wt by' tk zs (by omega)
  have HZ : Hid (Z.length ≤ 2000000 ∧ cnG G ≤ 302) := hZG
  have HIM := hide hIM
  have HSP := hide hSP
  clear hZG hIM hSP
  clear h1 s1 hr
  have b0 := bel_alloc w (.cells #[.slice a l c, .bool op, .int .i64 ls, .int .i64 wt] 45)
  have A0 := Blk.new w #[.slice a l c, .bool op, .int .i64 ls, .int .i64 wt] 45
  obtain ⟨x0, x1, x2, x3⟩ := A0.four
  go_enter Try.func8, Try.ntmps8
  go_wp2_with fail
  refine (szAscii_fits a l c op ls wt _ hl).mono ?_
  rintro e w1 ⟨rfl, b'⟩
  have b1 := bel_next b0 b'
  have A1 := A0.below b'
  clear b' b0 A0 x0 x1 x2 x3
  obtain ⟨x0, x1, x2, x3⟩ := A1.four
  go_wp2_with fail
  refine (toAscii_any a l c op ls wt zs _ HN.out.1 (HS.out.below b1) HN.out.2.1).mono ?_
  rintro e w2 ⟨g1, rfl, i2, b'⟩
  have b2 := bel_next b1 b'
  have A2 := A1.below b'
  clear b' b1 A1 x0 x1 x2 x3
  obtain ⟨x0, x1, x2, x3⟩ := A2.four
  go_wp2_with fail
  refine (unhide HSP (some ⟨g1, 0, none⟩) l l _ HN.out.1 i2.sl.2).mono ?_
  rintro e w3 ⟨aO, nO, cO, aV, nV, cV, rfl, hnO, O3, V3, b'⟩
  have HO : Hid (nO = Z.length) := hnO
  have b3 := bel_next b2 b'
  have A3 := A2.below b'
  clear b' b2 A2 i2 hnO x0 x1 x2 x3
  have q' := bel_alloc w3 (.cells #[.slice aO nO cO, .bool D, .int .i64 LS, .int .i64 wt] 31)
  have Q' := Blk.new w3 #[.slice aO nO cO, .bool D, .int .i64 LS, .int .i64 wt] 31
  obtain ⟨x0, x1, x2, x3⟩ := (A3.below q').four
  obtain ⟨w4, hw4⟩ : ∃ x, x = w3.alloc (.cells #[.slice aO nO cO, .bool D, .int .i64 LS, .int .i64 wt] 31) := ⟨_, rfl⟩
  rw [← hw4] at q' Q'
  have HW4 : Hid (w4 = _) := hw4
  obtain ⟨BO, hBO⟩ : ∃ x, x = w3.heap.size := ⟨_, rfl⟩
  rw [← hBO] at Q'
  have HBO : Hid (BO = w3.heap.size) := hBO
  clear hw4 hBO
  have b4 := bel_next b3 q'
  have A4 := A3.below q'
  have O4 := O3.below q'
  have V4 := V3.below q'
  have X4 := Q'
  clear q' Q' b3 A3 O3 V3
  have s4 : Below w4.heap.size w4 w4 := Below.refl _ _
  go_wp2_with fail
  rw [← HW4.out]
  simp only [← HBO.out]
  refine (toAscii_any a l c op ls wt zs _ HN.out.1 (HS.out.below b4) HN.out.2.1).mono ?_
  rintro e w5 ⟨g2, rfl, i5, b'⟩
  have s5 := bel_next s4 b'
  have b5 := bel_next b4 b'
  have hB5 : Hid (w4.heap.size ≤ w5.heap.size) := s5.size
  have hBw : Hid (w.heap.size ≤ w4.heap.size) := b4.size
  clear b' s4 x0 x1 x2 x3
  have q' := bel_alloc w5 (.cells #[.slice (some ⟨g2, 0, none⟩) l l, .bool op, .int .i64 ls, .int .i64 wt] 31)
  have Q' := Blk.new w5 #[.slice (some ⟨g2, 0, none⟩) l l, .bool op, .int .i64 ls, .int .i64 wt] 31
  obtain ⟨y0, y1, y2, y3⟩ := (Q').four
  obtain ⟨w6, hw6⟩ : ∃ x, x = w5.alloc (.cells #[.slice (some ⟨g2, 0, none⟩) l l, .bool op, .int .i64 ls, .int .i64 wt] 31) := ⟨_, rfl⟩
  rw [← hw6] at q' Q'
  have HW6 : Hid (w6 = _) := hw6
  obtain ⟨BX, hBX⟩ : ∃ x, x = w5.heap.size := ⟨_, rfl⟩
  rw [← hBX] at Q'
  have HBX : Hid (BX = w5.heap.size) := hBX
  clear hw6 hBX
  have s6 := bel_next s5 q'
  have b6 := bel_next b5 q'
  have i6 := i5.below q'
  have Y6 := Q'
  clear q' Q' b5 i5 s5
  go_wp2_with fail
  rw [← HW6.out]
  simp only [← HBX.out]
  refine (unhide HIM (some ⟨g2, 0, none⟩) l l _ HN.out.1 i6.sl.2).mono ?_
  rintro e w7 ⟨aG, nG, cG, aW, nW, cW, rfl, hnG, G7, U7, b'⟩
  have HG : Hid (nG = Z.length) := hnG
  have s7 := bel_next s6 b'
  have b7 := bel_next b6 b'
  have i7 := i6.below b'
  have Y7 := Y6.below b'
  have hB6 : Hid (w4.heap.size ≤ w6.heap.size) := s6.size
  have ltX : Hid (∀ k, (Value.slice (some ⟨g2, 0, none⟩) l l).ownBlock = some k → k < w6.heap.size) := fun k hk => (World.ownsRow.lt i6 k hk).2
  have neG : Hid ((Value.slice aG nG cG).ownBlock = none ∨ (Value.slice aG nG cG).ownBlock ≠ (Value.slice (some ⟨g2, 0, none⟩) l l).ownBlock) := by
    cases e : (Value.slice aG nG cG).ownBlock with
    | none => exact .inl rfl
    | some k => exact .inr (fun e2 => by have := (World.ownsRow.lt G7 k e).1; have := (World.ownsRow.lt i6 k e2.symm).2; omega)
  clear b' b6 s6 i6 Y6 hnG y0 y1 y2 y3
  have q' := bel_alloc w7 (.cells #[.slice aG nG cG, .bool D, .int .i64 LS, .int .i64 wt] 31)
  have Q' := Blk.new w7 #[.slice aG nG cG, .bool D, .int .i64 LS, .int .i64 wt] 31
  obtain ⟨z0, z1, z2, z3⟩ := (Q').four
  obtain ⟨o0, o1, o2, o3⟩ := ((X4.below s7).below q').four
  obtain ⟨w8, hw8⟩ : ∃ x, x = w7.alloc (.cells #[.slice aG nG cG, .bool D, .int .i64 LS, .int .i64 wt] 31) := ⟨_, rfl⟩
  rw [← hw8] at q' Q'
  have HW8 : Hid (w8 = _) := hw8
  obtain ⟨BG, hBG⟩ : ∃ x, x = w7.heap.size := ⟨_, rfl⟩
  rw [← hBG] at Q'
  have HBG : Hid (BG = w7.heap.size) := hBG
  clear hw8 hBG
  have s8 := bel_next s7 q'
  have b8 := bel_next b7 q'
  have i8 := i7.below q'
  have Y8 := Y7.below q'
  have G8 := G7.below q'
  have U8 := U7.below q'
  have Z8 := Q'
  clear q' Q' b7 i7 s7 Y7 G7 U7
  go_wp2_with fail
  rw [← HW8.out]
  simp only [← HBG.out]
  refine (eqAscii_true aG aO nG nO cG cO D LS wt Z _ HG.out HO.out G8.sl.2 (O4.below s8).sl.2 HZ.out.1).mono ?_
  rintro e w9 ⟨rfl, b'⟩
  have s9 := bel_next s8 b'
  have b9 := bel_next b8 b'
  have i9 := i8.below b'
  have G9 := G8.below b'
  have U9 := U8.below b'
  have Y9 := Y8.below b'
  have Z9 := Z8.below b'
  clear b' s8 b8 i8 G8 U8 Y8 Z8 o0 o1 o2 o3 z0 z1 z2 z3
  go_wp2_with fail
  refine (eqGotS_x _ _ aW aV nW nV cW cV _ _ G _ U9 (V4.below s9)).mono ?_
  rintro e w10 ⟨rfl, b'⟩
  have s10 := bel_next s9 b'
  have b10 := bel_next b9 b'
  have i10 := i9.below b'
  have G10 := G9.below b'
  have U10 := U9.below b'
  have Y10 := Y9.below b'
  have Z10 := Z9.below b'
  clear b' s9 b9 i9 G9 U9 Y9 Z9 
  obtain ⟨x0, x1, x2, x3⟩ := (A4.below s10).four
  obtain ⟨y0, y1, y2, y3⟩ := Y10.four
  go_upto_region 10 with fail
  go_cut [54] (fun sX wx => sX = .bool false ∧ Below w10.heap.size w10 wx)
  case first =>
    go_region_with (first
      | (go_at_call 30; refine (toAscii_any a l c op ls wt zs _ HN.out.1 (HS.out.below ?_) HN.out.2.1).mono ?_; (first | exact b10 | exact b10.drew | exact b10.drew.drew | exact b10.drew.drew.drew); rintro e wa ⟨n1, rfl, ia, ba'⟩; have ba := bel_next (Below.refl _ w10).drew ba'; have Ya := Y10.below ba; have i10' := i10.below ba; obtain ⟨u0, u1, u2, u3⟩ := Ya.four; clear ba' Ya)
      | (go_at_call 25; refine (eqAscii_true _ _ _ _ _ _ op ls wt zs _ HN.out.1 HN.out.1 ?_ ?_ HN.out.2.1).mono ?_; (first | exact i10'.sl.2 | exact (i10'.below (Below.refl _ _).drew).sl.2 | exact (i10'.below (Below.refl _ _).drew.drew).sl.2); (first | exact ia.sl.2 | exact (ia.below (Below.refl _ _).drew).sl.2 | exact (ia.below (Below.refl _ _).drew.drew).sl.2); rintro e wb ⟨rfl, bb'⟩; have bb := bel_next (by first | exact ba | exact ba.drew | exact ba.drew.drew) bb'; clear bb'))
    all_goals (go_wp2_with fail; go_meet; exact ⟨rfl, bb⟩)
  case rest =>
  obtain ⟨rfl, b'⟩ := hcut
  obtain ⟨w11, hw11⟩ : ∃ x, x = wc := ⟨_, rfl⟩
  subst hw11
  have s11 := bel_next s10 b'
  have b11 := bel_next b10 b'
  have i11 := i10.below b'
  have G11 := G10.below b'
  have U11 := U10.below b'
  have Y11 := Y10.below b'
  have Z11 := Z10.below b'
  clear b' s10 b10 i10 G10 U10 Y10 Z10 x0 x1 x2 x3 y0 y1 y2 y3
  obtain ⟨y0, y1, y2, y3⟩ := Y11.four
  go_wp2_with fail
  refine (markAscii_sv 1 (some ⟨g2, 0, none⟩) l l _ 1 op ls wt zs _ rfl i11 (by have := HN.out; omega) (by omega)).mono ?_
  rintro e w12 ⟨rfl, _, gr⟩
  have hx5 : w4.heap.size ≤ w5.heap.size := hB5.out
  have s12 : Below w4.heap.size w4 w12 := s11.grown gr s11.size (fun k hk => by have := (World.ownsRow.lt i11 k hk).1; omega)
  have b12 : Below w.heap.size w w12 := b11.grown gr b11.size (fun k hk => by have := (World.ownsRow.lt i11 k hk).1; have := hBw.out; omega)
  have G12 := G11.kept gr neG.out
  have U12 := U11.kept gr (fun k hk => by have := ltX.out k hk; omega)
  have Z12 := Z11.grown gr (row_noBlk i11 Z11 (by decide))
  clear gr i11 s11 b11 G11 U11 Y11 Z11 y0 y1 y2 y3
  obtain ⟨o0, o1, o2, o3⟩ := (X4.below s12).four
  obtain ⟨z0, z1, z2, z3⟩ := Z12.four
  have fk : ¬ ((1 : Int) + (l : Int) < 0) := by omega
  go_wp2_with fail
  refine (eqAscii_true aG aO nG nO cG cO D LS wt Z _ HG.out HO.out G12.sl.2 (O4.below s12).sl.2 HZ.out.1).mono ?_
  rintro e w13 ⟨rfl, b'⟩
  have s13 := bel_next s12 b'
  have b13 := bel_next b12 b'
  have G13 := G12.below b'
  have U13 := U12.below b'
  have Z13 := Z12.below b'
  clear b' s12 b12 G12 U12 Z12 o0 o1 o2 o3 z0 z1 z2 z3
  go_wp2_with fail
  refine (eqGotS_x _ _ aW aV nW nV cW cV _ _ G _ U13 (V4.below s13)).mono ?_
  rintro e w14 ⟨rfl, b'⟩
  have s14 := bel_next s13 b'
  have b14 := bel_next b13 b'
  have G14 := G13.below b'
  have U14 := U13.below b'
  have Z14 := Z13.below b'
  clear b' s13 b13 G13 U13 Z13 
  obtain ⟨z0, z1, z2, z3⟩ := Z14.four
  go_wp2_with fail
  refine (markAscii_sv 1 aG nG cG _ 1 D LS wt Z _ rfl G14 (by have := HZ.out; have := HG.out; omega) (by omega)).mono ?_
  rintro e w15 ⟨rfl, G15, gr⟩
  have s15 : Below w4.heap.size w4 w15 := s14.grown gr s14.size (fun k hk => by have := (World.ownsRow.lt G14 k hk).1; have := hB6.out; omega)
  have b15 : Below w.heap.size w w15 := b14.grown gr b14.size (fun k hk => by have := (World.ownsRow.lt G14 k hk).1; have := hB6.out; have := hBw.out; omega)
  have U15 := U14.keptX G14 gr
  have Z15 := Z14.grown gr (row_noBlk G14 Z14 (by decide))
  clear gr s14 b14 G14 U14 Z14 z0 z1 z2 z3
  go_wp2_with fail
  refine (markGotS_x _ _ aW nW cW _ (1 + nG) G _ (by omega) U15 (by have := HZ.out; have := HG.out; omega)).mono ?_
  rintro e w16 ⟨rfl, U16, kx, kb, kz⟩
  have G16 := kx _ _ G15
  have s16 := kb _ _ s15 hB6.out s15.size
  have b16 := kb _ _ b15 (by have := hB6.out; have := hBw.out; omega) b15.size
  have Z16 := kz _ _ _ Z15 (by decide) (by decide)
  clear kx kb kz s15 b15 G15 U15 Z15
  obtain ⟨z0, z1, z2, z3⟩ := Z16.four
  go_wp2_with fail
  refine (heldAscii_sv 1 aG nG cG 1 D LS wt _ rfl G16.sl.2 (by have := HZ.out; have := HG.out; omega) (by omega)).mono ?_
  rintro e w17 ⟨rfl, b'⟩
  have s17 := bel_next s16 b'
  have b17 := bel_next b16 b'
  have G17 := G16.below b'
  have U17 := U16.below b'
  have Z17 := Z16.below b'
  clear b' s16 b16 G16 U16 Z16 z0 z1 z2 z3
  have fq16 : ¬ ((1 : Int) + (nG : Int) < 0) := by omega
  go_wp2_with fail
  refine (heldGotS_x _ _ aW nW cW _ (1 + nG) G _ (by omega) U17 (by have := HZ.out; have := HG.out; omega)).mono ?_
  rintro e w18 ⟨rfl, b'⟩
  have s18 := bel_next s17 b'
  have b18 := bel_next b17 b'
  have G18 := G17.below b'
  have U18 := U17.below b'
  have Z18 := Z17.below b'
  clear b' s17 b17 G17 U17 Z17 
  have fr16 : ¬ ((1 : Int) + (nG : Int) + (cnG G : Int) < 0) := by omega
  obtain ⟨x0, x1, x2, x3⟩ := (A4.below s18).four
  clear fq16 
  go_wp2_with fail
  refine (toAscii_any a l c op ls wt zs _ HN.out.1 (HS.out.below b18) HN.out.2.1).mono ?_
  rintro e w19 ⟨g3, rfl, j19, b'⟩
  have s19 := bel_next s18 b'
  have b19 := bel_next b18 b'
  have G19 := G18.below b'
  have U19 := U18.below b'
  have Z19 := Z18.below b'
  clear b' s18 b18 G18 U18 Z18 x0 x1 x2 x3
  go_wp2_with fail
  refine (unhide HIM (some ⟨g3, 0, none⟩) l l _ HN.out.1 j19.sl.2).mono ?_
  rintro e w20 ⟨aH, nH, cH, aJ, nJ, cJ, rfl, hnH, H20, J20, b'⟩
  have HH : Hid (nH = Z.length) := hnH
  clear hnH j19
  have s20 := bel_next s19 b'
  have b20 := bel_next b19 b'
  have G20 := G19.below b'
  have U20 := U19.below b'
  have Z20 := Z19.below b'
  clear b' s19 b19 G19 U19 Z19 
  have q' := bel_alloc w20 (.cells #[.slice aH nH cH, .bool D, .int .i64 LS, .int .i64 wt] 31)
  have Q' := Blk.new w20 #[.slice aH nH cH, .bool D, .int .i64 LS, .int .i64 wt] 31
  obtain ⟨y0, y1, y2, y3⟩ := (Q').four
  obtain ⟨o0, o1, o2, o3⟩ := ((X4.below s20).below q').four
  obtain ⟨w21, hw21⟩ : ∃ x, x = w20.alloc (.cells #[.slice aH nH cH, .bool D, .int .i64 LS, .int .i64 wt] 31) := ⟨_, rfl⟩
  rw [← hw21] at q' Q'
  have HW21 : Hid (w21 = _) := hw21
  obtain ⟨BH, hBH⟩ : ∃ x, x = w20.heap.size := ⟨_, rfl⟩
  rw [← hBH] at Q'
  have HBH : Hid (BH = w20.heap.size) := hBH
  clear hw21 hBH
  have s21 := bel_next s20 q'
  have b21 := bel_next b20 q'
  have G21 := G20.below q'
  have U21 := U20.below q'
  have Z21 := Z20.below q'
  have H21 := H20.below q'
  have J21 := J20.below q'
  clear q' Q' s20 b20 G20 U20 Z20 H20 J20
  go_wp2_with fail
  rw [← HW21.out]
  simp only [← HBH.out]
  refine (eqAscii_true aH aO nH nO cH cO D LS wt Z _ HH.out HO.out H21.sl.2 (O4.below s21).sl.2 HZ.out.1).mono ?_
  rintro e w22 ⟨rfl, b'⟩
  have s22 := bel_next s21 b'
  have b22 := bel_next b21 b'
  have G22 := G21.below b'
  have U22 := U21.below b'
  have H22 := H21.below b'
  have J22 := J21.below b'
  have Z22 := Z21.below b'
  clear b' s21 b21 G21 U21 H21 J21 Z21 o0 o1 o2 o3 y0 y1 y2 y3
  go_wp2_with fail
  refine (eqGotS_x _ _ aJ aV nJ nV cJ cV _ _ G _ J22 (V4.below s22)).mono ?_
  rintro e w23 ⟨rfl, b'⟩
  have s23 := bel_next s22 b'
  have b23 := bel_next b22 b'
  have G23 := G22.below b'
  have U23 := U22.below b'
  have H23 := H22.below b'
  have J23 := J22.below b'
  have Z23 := Z22.below b'
  clear b' s22 b22 G22 U22 H22 J22 Z22 
  obtain ⟨z0, z1, z2, z3⟩ := Z23.four
  clear fr16 H23 J23
  go_wp2_with fail
  refine (heldAscii_sv 1 aG nG cG 1 D LS wt _ rfl G23.sl.2 (by have := HZ.out; have := HG.out; omega) (by omega)).mono ?_
  rintro e w24 ⟨rfl, b'⟩
  have s24 := bel_next s23 b'
  have b24 := bel_next b23 b'
  have G24 := G23.below b'
  have U24 := U23.below b'
  have Z24 := Z23.below b'
  clear b' s23 b23 G23 U23 Z23 z0 z1 z2 z3
  have fq23 : ¬ ((1 : Int) + (nG : Int) < 0) := by omega
  go_wp2_with fail
  refine (heldGotS_x _ _ aW nW cW _ (1 + nG) G _ (by omega) U24 (by have := HZ.out; have := HG.out; omega)).mono ?_
  rintro e w25 ⟨rfl, b'⟩
  have s25 := bel_next s24 b'
  have b25 := bel_next b24 b'
  have G25 := G24.below b'
  have U25 := U24.below b'
  have Z25 := Z24.below b'
  clear b' s24 b24 G24 U24 Z24 
  have fr23 : ¬ ((1 : Int) + (nG : Int) + (cnG G : Int) < 0) := by omega
  go_wp2
  go_ret
  exact ⟨rfl, b25⟩

end Go.Proofs.Ytmcednhinafpeaa
