/- The law of RingTake, walked. -/
import Derived.Test.YtckmffhdngfchaaRing9
import Derived.Deep.Cut
import Derived.Deep.CutRange
import Derived.Deep.DeepCutAuto
import Derived.Deep.RegionWith
namespace Go.Proofs.Ytckmffhdngfchaa
open Go.RowKit

/-- How many bytes are taken and left, which they are. -/
def TakeIs (zs : List Int) (x : Int) (t s : Nat) (T S : List Int) : Prop := t = takeK zs x ∧ s = zs.length - takeK zs x ∧ T = zs.take (takeK zs x) ∧ S = zs.drop (takeK zs x)

theorem implRingTake_q2 (g n t s : Nat) (zs : List Int) (x : Int) (T S : List Int) (w : World) (hn : n = zs.length) (hE : TakeIs zs x t s T S) (hs : Sl w (some ⟨g, 0, none⟩) zs) (hl : zs.length ≤ 2000000) :
    Calls Try.prog 12 #[.agg #[.slice (some ⟨g, 0, none⟩) n n], .int .i64 x] w fun e w' => ∃ a g, e = .returned (.tuple #[.slice a t t, .agg #[.slice (some ⟨g, 0, none⟩) s s]]) ∧
      Own w' w.heap.size (.slice a t t) T ∧ Own w' w.heap.size (.slice (some ⟨g, 0, none⟩) s s) S ∧ Apart (.slice a t t) (.slice (some ⟨g, 0, none⟩) s s) ∧ Below w.heap.size w w' := by
  obtain ⟨rfl, rfl, rfl, rfl⟩ := hE
  exact implRingTake_any g n zs x w hn hs hl

theorem specRingTake_q2 (g n t s : Nat) (zs : List Int) (x : Int) (T S : List Int) (w : World) (hn : n = zs.length) (hE : TakeIs zs x t s T S) (hs : Sl w (some ⟨g, 0, none⟩) zs) (hl : n ≤ 2000000) :
    Calls Try.prog 23 #[.agg #[.slice (some ⟨g, 0, none⟩) n n], .int .i64 x] w fun e w' => ∃ a c a' c', e = .returned (.tuple #[.slice a t c, .agg #[.slice a' s c']]) ∧
      OwnT w' w'.heap.size (.slice a t c) T ∧ OwnT w' w'.heap.size (.slice a' s c') S ∧ Below w.heap.size w w' := by
  obtain ⟨rfl, rfl, rfl, rfl⟩ := hE
  exact specRingTake_any g n zs x w hn hs hl

theorem ne_lt {v1 v2 : Value} {B : Nat} (h1 : ∀ k, v1.ownBlock = some k → k < B) (h2 : ∀ k, v2.ownBlock = some k → B ≤ k) :
    (v1.ownBlock = none ∨ v1.ownBlock ≠ v2.ownBlock) ∧ (v2.ownBlock = none ∨ v2.ownBlock ≠ v1.ownBlock) := by
  constructor
  · cases e : v1.ownBlock with
    | none => exact .inl rfl
    | some k => exact .inr (fun e2 => by have a := h1 k e; have b := h2 k e2.symm; omega)
  · cases e : v2.ownBlock with
    | none => exact .inl rfl
    | some k => exact .inr (fun e2 => by have a := h2 k e; have b := h1 k e2.symm; omega)

theorem below_ownG {B : Nat} {w0 w w' : World} {base size n : Nat} {e : TypeId} {v : Value} {xs : List Value} (hb : Below B w0 w) (h : w.ownsRow base e size v n xs) (hg : w.grownBy w' v.ownBlock) (h1 : B ≤ base) (h2 : B ≤ w.heap.size) : Below B w0 w' :=
  hb.grown hg h2 (fun k hk => by have := (World.ownsRow.lt h k hk).1; omega)

set_option maxRecDepth 20000 in
set_option maxHeartbeats 8000000 in
theorem ringTake_law (a : Option Addr) (n cap t s : Nat) (zs T S : List Int) (x : Int) (w : World) (hn : n = zs.length) (hs : Sl w a zs) (hl : n ≤ 1048576) (hE : TakeIs zs x t s T S) :
    Calls Try.prog 5 #[.agg #[.slice a n cap], .int .i64 x] w fun e w' => e = .returned (.bool true) ∧ Below w.heap.size w w' := by
  have hk := takeK_le zs x
  have htn : t ≤ n := by rw [hE.1, hn]; exact hk
  have hsn : s ≤ n := by rw [hE.2.1, hn]; omega
  have htT : Hid (t = T.length) := by show t = _; rw [hE.2.2.1, hE.1]; simp; omega
  have hsS : Hid (s = S.length) := by show s = _; rw [hE.2.2.2, hE.2.1]; simp
  have hTb : Hid (T.length ≤ 2000000) := by show T.length ≤ _; rw [← htT.out]; omega
  have hSb : Hid (S.length ≤ 2000000) := by show S.length ≤ _; rw [← hsS.out]; omega
  have HN : Hid (n = zs.length) := hn
  have HE : Hid (TakeIs zs x t s T S) := hE
  have HL : Hid (zs.length ≤ 2000000) := by show zs.length ≤ 2000000; omega
  have Hs : Hid (Sl w a zs) := hs
  have f0 : ¬ (1048576 - (n : Int) < 0) := by omega
  have hn2 : n ≤ 2000000 := by omega
  have hn3 : n ≤ 3000000 := by omega
  have ht3 : t ≤ 3000000 := by omega
  have hs3 : s ≤ 3000000 := by omega
  clear hs hn hE hk
  have b0 := bel_alloc w (.cells #[.slice a n cap] 35)
  have A0 := Box.new w (.slice a n cap) 35
  have cA0 := A0.cell
  go_enter Try.func5, Try.ntmps5
  go_wp2_with fail
  refine (szRing_fits a n cap _ hl).mono ?_
  rintro e v1 ⟨rfl, b'⟩
  have b1 := bel_next b0 b'
  have A1 := A0.below b'
  have cA1 := A1.cell
  clear b0 A0 cA0 b'
  go_wp2_with fail
  refine (toRing_any a n cap zs _ HN.out (Hs.out.below b1) HL.out).mono ?_
  rintro e v2 ⟨r0, rfl, n', b'⟩
  have b2 := bel_next b1 b'
  have A2 := A1.below b'
  have cA2 := A2.cell
  have Q2 := n'
  have hBQ : w.heap.size ≤ _ := b1.size
  clear b1 A1 cA1 b' n' 
  go_wp2_with fail
  refine (specRingTake_q2 _ n t s zs x T S _ HN.out HE.out Q2.sl.2 hn2).mono ?_
  rintro e v3 ⟨oa, oc, ha, hc, rfl, o', h', b'⟩
  have b3 := bel_next b2 b'
  have A3 := A2.below b'
  have cA3 := A3.cell
  have Q3 := Q2.below b'
  have O3 := o'
  have H3 := h'
  have z3 : v3.heap.size ≤ v3.heap.size := Nat.le_refl _
  clear b2 A2 cA2 Q2 b' o' h' Q3 hBQ
  have b' := bel_alloc v3 (.cells #[.slice ha s hc] 25)
  have n' := Box.new v3 (.slice ha s hc) 25
  have b4 := bel_next b3 b'
  have A4 := A3.below b'
  have cA4 := A4.cell
  have O4 := O3.below b'
  have H4 := H3.below b'
  have z4 := Nat.le_trans z3 (Below.size b')
  have W4 := n'
  have cW4 := W4.cell
  have fW4 := W4.fro
  clear b3 A3 cA3 O3 H3 z3 b' n' fW4
  go_wp2_with fail
  refine (toRing_any a n cap zs _ HN.out (Hs.out.below b4) HL.out).mono ?_
  rintro e v5 ⟨x0, rfl, n', b'⟩
  have b5 := bel_next b4 b'
  have A5 := A4.below b'
  have cA5 := A5.cell
  have W5 := W4.below b'
  have cW5 := W5.cell
  have O5 := O4.below b'
  have H5 := H4.below b'
  have z5 := Nat.le_trans z4 (Below.size b')
  have X5 := n'
  have hBX : w.heap.size ≤ _ := b4.size
  have hTX := z4
  clear b4 A4 cA4 W4 cW4 O4 H4 z4 b' n' 
  have b' := bel_alloc v5 (.cells #[.slice (some ⟨x0, 0, none⟩) n n] 25)
  have n' := Box.new v5 (.slice (some ⟨x0, 0, none⟩) n n) 25
  have b6 := bel_next b5 b'
  have A6 := A5.below b'
  have cA6 := A6.cell
  have W6 := W5.below b'
  have cW6 := W6.cell
  have X6 := X5.below b'
  have O6 := O5.below b'
  have H6 := H5.below b'
  have z6 := Nat.le_trans z5 (Below.size b')
  have V6 := n'
  have cV6 := V6.cell
  have fV6 := V6.fro
  clear b5 A5 cA5 W5 cW5 X5 O5 H5 z5 b' n' fV6
  go_wp2_with fail
  refine (implRingTake_q2 _ n t s zs x T S _ HN.out HE.out X6.sl.2 HL.out).mono ?_
  rintro e v7 ⟨fa, gg, rfl, f', n', ap, b'⟩
  have b7 := bel_next b6 b'
  have A7 := A6.below b'
  have cA7 := A7.cell
  have W7 := W6.below b'
  have cW7 := W7.cell
  have V7 := V6.below b'
  have cV7 := V7.cell
  have X7 := X6.below b'
  have O7 := O6.below b'
  have H7 := H6.below b'
  have z7 := Nat.le_trans z6 (Below.size b')
  have F7 := f'
  have hBF : w.heap.size ≤ _ := b6.size
  have hTF := z6
  have neXF := ne_lt (fun k e => (World.ownsRow.lt X6 k e).2) (fun k e => (World.ownsRow.lt f' k e).1)
  have G7 := n'
  have hBG : w.heap.size ≤ _ := b6.size
  have hTG := z6
  have neXG := ne_lt (fun k e => (World.ownsRow.lt X6 k e).2) (fun k e => (World.ownsRow.lt n' k e).1)
  clear b6 A6 cA6 W6 cW6 V6 cV6 X6 O6 H6 z6 b' f' n' 
  have neFG : _ ∧ _ := ap
  clear ap
  have b' := bel_alloc v7 (.cells #[.slice (some ⟨gg, 0, none⟩) s s] 25)
  have n' := Box.new v7 (.slice (some ⟨gg, 0, none⟩) s s) 25
  have b8 := bel_next b7 b'
  have A8 := A7.below b'
  have cA8 := A8.cell
  have W8 := W7.below b'
  have cW8 := W8.cell
  have V8 := V7.below b'
  have cV8 := V8.cell
  have X8 := X7.below b'
  have F8 := F7.below b'
  have G8 := G7.below b'
  have O8 := O7.below b'
  have H8 := H7.below b'
  have z8 := Nat.le_trans z7 (Below.size b')
  have U8 := n'
  have cU8 := U8.cell
  have fU8 := U8.fro
  clear b7 A7 cA7 W7 cW7 V7 cV7 X7 F7 G7 O7 H7 z7 b' n' fU8
  go_wp2_with fail
  refine (eqByteS_ok _ _ _ _ _ _ T _ htT.out htT.out F8.sl.2 O8.sl.2 hTb.out).mono ?_
  rintro e v9 ⟨rfl, b'⟩
  have b9 := bel_next b8 b'
  have A9 := A8.below b'
  have cA9 := A9.cell
  have W9 := W8.below b'
  have cW9 := W9.cell
  have V9 := V8.below b'
  have cV9 := V9.cell
  have U9 := U8.below b'
  have cU9 := U9.cell
  have X9 := X8.below b'
  have F9 := F8.below b'
  have G9 := G8.below b'
  have O9 := O8.below b'
  have H9 := H8.below b'
  have z9 := Nat.le_trans z8 (Below.size b')
  clear b8 A8 cA8 W8 cW8 V8 cV8 U8 cU8 X8 F8 G8 O8 H8 z8 b'  
  go_wp2_with fail
  refine (eqRing_true _ _ _ _ _ _ S _ hsS.out hsS.out G9.sl.2 H9.sl.2 hSb.out).mono ?_
  rintro e v10 ⟨rfl, b'⟩
  have b10 := bel_next b9 b'
  have A10 := A9.below b'
  have cA10 := A10.cell
  have W10 := W9.below b'
  have cW10 := W10.cell
  have V10 := V9.below b'
  have cV10 := V10.cell
  have U10 := U9.below b'
  have cU10 := U10.cell
  have X10 := X9.below b'
  have F10 := F9.below b'
  have G10 := G9.below b'
  have O10 := O9.below b'
  have H10 := H9.below b'
  have z10 := Nat.le_trans z9 (Below.size b')
  clear b9 A9 cA9 W9 cW9 V9 cV9 U9 cU9 X9 F9 G9 O9 H9 z9 b'  
  go_upto_region 10 with fail
  go_cut [50] (fun s50 wx => s50 = .bool false ∧ Below v10.heap.size v10 wx)
  case first =>
    go_region_with (first
      | (go_at_call 16; refine (toRing_any a n cap zs _ HN.out (Hs.out.below ?_) HL.out).mono ?_; (first | exact b10 | exact b10.drew | exact b10.drew.drew | exact b10.drew.drew.drew); rintro e z7 ⟨g7, rfl, o7, b7'⟩; have b7 := bel_next (Below.refl _ v10).drew b7'; have x7 := keepc b7' (show v10.drew.cell? _ = _ from cV10); have o6' := (X10.below (Below.refl _ _).drew).below b7'; clear b7')
      | (go_at_call 18; refine (eqRing_true _ _ _ _ _ _ zs _ HN.out HN.out ?_ ?_ HL.out).mono ?_; (first | exact o6'.sl.2 | exact (o6'.below (Below.refl _ _).drew).sl.2 | exact (o6'.below (Below.refl _ _).drew.drew).sl.2); (first | exact o7.sl.2 | exact (o7.below (Below.refl _ _).drew).sl.2 | exact (o7.below (Below.refl _ _).drew.drew).sl.2); rintro e z8 ⟨rfl, b8'⟩; have b8 := bel_next (by first | exact b7 | exact b7.drew | exact b7.drew.drew) b8'; clear b8'))
    all_goals (go_wp2_with fail; go_meet; exact ⟨rfl, b8⟩)
  case rest =>
  obtain ⟨rfl, b'⟩ := hcut
  have b11 := bel_next b10 b'
  have A11 := A10.below b'
  have cA11 := A11.cell
  have W11 := W10.below b'
  have cW11 := W11.cell
  have V11 := V10.below b'
  have cV11 := V11.cell
  have U11 := U10.below b'
  have cU11 := U11.cell
  have X11 := X10.below b'
  have F11 := F10.below b'
  have G11 := G10.below b'
  have O11 := O10.below b'
  have H11 := H10.below b'
  have z11 := Nat.le_trans z10 (Below.size b')
  clear b10 A10 cA10 W10 cW10 V10 cV10 U10 cU10 X10 F10 G10 O10 H10 z10 b'
  go_wp2_with fail
  refine (markRing_sv 1 _ _ _ _ 1 zs _ rfl X11 hn3 (by omega)).mono ?_
  rintro e v12 ⟨rfl, n', gr⟩
  have b12 := below_ownG b11 X11 gr hBX b11.size
  have A12 := A11.grown gr (X11.noBox A11 (by decide))
  have cA12 := A12.cell
  have W12 := W11.grown gr (X11.noBox W11 (by decide))
  have cW12 := W12.cell
  have V12 := V11.grown gr (X11.noBox V11 (by decide))
  have cV12 := V12.cell
  have U12 := U11.grown gr (X11.noBox U11 (by decide))
  have cU12 := U12.cell
  have F12 := F11.kept gr neXF.2
  have G12 := G11.kept gr neXG.2
  have O12 := O11.keptT gr (fun k e => Nat.le_trans hTX (World.ownsRow.lt X11 k e).1)
  have H12 := H11.keptT gr (fun k e => Nat.le_trans hTX (World.ownsRow.lt X11 k e).1)
  have z12 := Nat.le_trans z11 gr.size
  clear b11 A11 cA11 W11 cW11 V11 cV11 U11 cU11 F11 G11 O11 H11 z11 X11 n' gr
  go_wp2_with fail
  refine (eqByteS_ok _ _ _ _ _ _ T _ htT.out htT.out F12.sl.2 O12.sl.2 hTb.out).mono ?_
  rintro e v13 ⟨rfl, b'⟩
  have b13 := bel_next b12 b'
  have A13 := A12.below b'
  have cA13 := A13.cell
  have W13 := W12.below b'
  have cW13 := W13.cell
  have V13 := V12.below b'
  have cV13 := V13.cell
  have U13 := U12.below b'
  have cU13 := U13.cell
  have F13 := F12.below b'
  have G13 := G12.below b'
  have O13 := O12.below b'
  have H13 := H12.below b'
  have z13 := Nat.le_trans z12 (Below.size b')
  clear b12 A12 cA12 W12 cW12 V12 cV12 U12 cU12 F12 G12 O12 H12 z12 b'  
  go_wp2_with fail
  refine (eqRing_true _ _ _ _ _ _ S _ hsS.out hsS.out G13.sl.2 H13.sl.2 hSb.out).mono ?_
  rintro e v14 ⟨rfl, b'⟩
  have b14 := bel_next b13 b'
  have A14 := A13.below b'
  have cA14 := A14.cell
  have W14 := W13.below b'
  have cW14 := W14.cell
  have V14 := V13.below b'
  have cV14 := V14.cell
  have U14 := U13.below b'
  have cU14 := U14.cell
  have F14 := F13.below b'
  have G14 := G13.below b'
  have O14 := O13.below b'
  have H14 := H13.below b'
  have z14 := Nat.le_trans z13 (Below.size b')
  clear b13 A13 cA13 W13 cW13 V13 cV13 U13 cU13 F13 G13 O13 H13 z13 b'  
  go_wp2_with fail
  refine (markByteS_sv 1 _ _ _ _ 1 T _ rfl F14 ht3 (by omega)).mono ?_
  rintro e v15 ⟨rfl, n', gr⟩
  have b15 := below_ownG b14 F14 gr hBF b14.size
  have A15 := A14.grown gr (F14.noBox A14 (by decide))
  have cA15 := A15.cell
  have W15 := W14.grown gr (F14.noBox W14 (by decide))
  have cW15 := W15.cell
  have V15 := V14.grown gr (F14.noBox V14 (by decide))
  have cV15 := V15.cell
  have U15 := U14.grown gr (F14.noBox U14 (by decide))
  have cU15 := U15.cell
  have G15 := G14.kept gr neFG.2
  have O15 := O14.keptT gr (fun k e => Nat.le_trans hTF (World.ownsRow.lt F14 k e).1)
  have H15 := H14.keptT gr (fun k e => Nat.le_trans hTF (World.ownsRow.lt F14 k e).1)
  have z15 := Nat.le_trans z14 gr.size
  have F15 := n'
  clear b14 A14 cA14 W14 cW14 V14 cV14 U14 cU14 G14 O14 H14 z14 F14 n' gr
  go_wp2_with fail
  refine (markRing_sv (1 + (t : Int)) _ _ _ _ (1 + t) S _ (by simp) G15 hs3 (by omega)).mono ?_
  rintro e v16 ⟨rfl, n', gr⟩
  have b16 := below_ownG b15 G15 gr hBG b15.size
  have A16 := A15.grown gr (G15.noBox A15 (by decide))
  have cA16 := A16.cell
  have W16 := W15.grown gr (G15.noBox W15 (by decide))
  have cW16 := W16.cell
  have V16 := V15.grown gr (G15.noBox V15 (by decide))
  have cV16 := V16.cell
  have U16 := U15.grown gr (G15.noBox U15 (by decide))
  have cU16 := U16.cell
  have F16 := F15.kept gr neFG.1
  have O16 := O15.keptT gr (fun k e => Nat.le_trans hTG (World.ownsRow.lt G15 k e).1)
  have H16 := H15.keptT gr (fun k e => Nat.le_trans hTG (World.ownsRow.lt G15 k e).1)
  have z16 := Nat.le_trans z15 gr.size
  have G16 := n'
  clear b15 A15 cA15 W15 cW15 V15 cV15 U15 cU15 F15 O15 H15 z15 G15 n' gr
  go_wp2_with fail
  refine (heldByteS_sv 1 _ _ _ 1 _ rfl F16.sl.2 ht3 (by omega)).mono ?_
  rintro e v17 ⟨rfl, b'⟩
  have b17 := bel_next b16 b'
  have A17 := A16.below b'
  have cA17 := A17.cell
  have W17 := W16.below b'
  have cW17 := W17.cell
  have V17 := V16.below b'
  have cV17 := V17.cell
  have U17 := U16.below b'
  have cU17 := U17.cell
  have F17 := F16.below b'
  have G17 := G16.below b'
  have O17 := O16.below b'
  have H17 := H16.below b'
  have z17 := Nat.le_trans z16 (Below.size b')
  clear b16 A16 cA16 W16 cW16 V16 cV16 U16 cU16 F16 G16 O16 H16 z16 b'  
  go_wp2_with fail
  refine (heldRing_sv (1 + (t : Int)) _ _ _ (1 + t) _ (by simp) G17.sl.2 hs3 (by omega)).mono ?_
  rintro e v18 ⟨rfl, b'⟩
  have b18 := bel_next b17 b'
  have A18 := A17.below b'
  have cA18 := A18.cell
  have W18 := W17.below b'
  have cW18 := W18.cell
  have V18 := V17.below b'
  have cV18 := V18.cell
  have U18 := U17.below b'
  have cU18 := U18.cell
  have F18 := F17.below b'
  have G18 := G17.below b'
  have O18 := O17.below b'
  have H18 := H17.below b'
  have z18 := Nat.le_trans z17 (Below.size b')
  clear b17 A17 cA17 W17 cW17 V17 cV17 U17 cU17 F17 G17 O17 H17 z17 b'  
  go_wp2_with fail
  refine (toRing_any a n cap zs _ HN.out (Hs.out.below b18) HL.out).mono ?_
  rintro e v19 ⟨r1, rfl, n', b'⟩
  have b19 := bel_next b18 b'
  have A19 := A18.below b'
  have cA19 := A19.cell
  have W19 := W18.below b'
  have cW19 := W19.cell
  have V19 := V18.below b'
  have cV19 := V19.cell
  have U19 := U18.below b'
  have cU19 := U19.cell
  have F19 := F18.below b'
  have G19 := G18.below b'
  have O19 := O18.below b'
  have H19 := H18.below b'
  have z19 := Nat.le_trans z18 (Below.size b')
  have Q19 := n'
  have hBQ : w.heap.size ≤ _ := b18.size
  have hTQ := z18
  have neFQ := ne_lt (fun k e => (World.ownsRow.lt F18 k e).2) (fun k e => (World.ownsRow.lt n' k e).1)
  have neGQ := ne_lt (fun k e => (World.ownsRow.lt G18 k e).2) (fun k e => (World.ownsRow.lt n' k e).1)
  clear b18 A18 cA18 W18 cW18 V18 cV18 U18 cU18 F18 G18 O18 H18 z18 b' n' 
  go_wp2_with fail
  refine (implRingTake_q2 _ n t s zs x T S _ HN.out HE.out Q19.sl.2 HL.out).mono ?_
  rintro e v20 ⟨za, zg, rfl, f', n', ap, b'⟩
  have b20 := bel_next b19 b'
  have A20 := A19.below b'
  have cA20 := A20.cell
  have W20 := W19.below b'
  have cW20 := W20.cell
  have V20 := V19.below b'
  have cV20 := V20.cell
  have U20 := U19.below b'
  have cU20 := U20.cell
  have F20 := F19.below b'
  have G20 := G19.below b'
  have Q20 := Q19.below b'
  have O20 := O19.below b'
  have H20 := H19.below b'
  have z20 := Nat.le_trans z19 (Below.size b')
  have Y20 := f'
  have hBY : w.heap.size ≤ _ := b19.size
  have hTY := z19
  have neFY := ne_lt (fun k e => (World.ownsRow.lt F19 k e).2) (fun k e => (World.ownsRow.lt f' k e).1)
  have neGY := ne_lt (fun k e => (World.ownsRow.lt G19 k e).2) (fun k e => (World.ownsRow.lt f' k e).1)
  have neQY := ne_lt (fun k e => (World.ownsRow.lt Q19 k e).2) (fun k e => (World.ownsRow.lt f' k e).1)
  have Z20 := n'
  have hBZ : w.heap.size ≤ _ := b19.size
  have hTZ := z19
  have neFZ := ne_lt (fun k e => (World.ownsRow.lt F19 k e).2) (fun k e => (World.ownsRow.lt n' k e).1)
  have neGZ := ne_lt (fun k e => (World.ownsRow.lt G19 k e).2) (fun k e => (World.ownsRow.lt n' k e).1)
  have neQZ := ne_lt (fun k e => (World.ownsRow.lt Q19 k e).2) (fun k e => (World.ownsRow.lt n' k e).1)
  clear b19 A19 cA19 W19 cW19 V19 cV19 U19 cU19 F19 G19 Q19 O19 H19 z19 b' f' n' ap
  have b' := bel_alloc v20 (.cells #[.slice (some ⟨zg, 0, none⟩) s s] 25)
  have n' := Box.new v20 (.slice (some ⟨zg, 0, none⟩) s s) 25
  have b21 := bel_next b20 b'
  have A21 := A20.below b'
  have cA21 := A21.cell
  have W21 := W20.below b'
  have cW21 := W21.cell
  have V21 := V20.below b'
  have cV21 := V21.cell
  have U21 := U20.below b'
  have cU21 := U21.cell
  have F21 := F20.below b'
  have G21 := G20.below b'
  have Q21 := Q20.below b'
  have Y21 := Y20.below b'
  have Z21 := Z20.below b'
  have O21 := O20.below b'
  have H21 := H20.below b'
  have z21 := Nat.le_trans z20 (Below.size b')
  have P21 := n'
  have cP21 := P21.cell
  have fP21 := P21.fro
  clear b20 A20 cA20 W20 cW20 V20 cV20 U20 cU20 F20 G20 Q20 Y20 Z20 O20 H20 z20 b' n' fP21
  go_wp2_with fail
  refine (eqByteS_ok _ _ _ _ _ _ T _ htT.out htT.out Y21.sl.2 O21.sl.2 hTb.out).mono ?_
  rintro e v22 ⟨rfl, b'⟩
  have b22 := bel_next b21 b'
  have A22 := A21.below b'
  have cA22 := A22.cell
  have W22 := W21.below b'
  have cW22 := W22.cell
  have V22 := V21.below b'
  have cV22 := V22.cell
  have U22 := U21.below b'
  have cU22 := U22.cell
  have P22 := P21.below b'
  have cP22 := P22.cell
  have F22 := F21.below b'
  have G22 := G21.below b'
  have Q22 := Q21.below b'
  have Y22 := Y21.below b'
  have Z22 := Z21.below b'
  have O22 := O21.below b'
  have H22 := H21.below b'
  have z22 := Nat.le_trans z21 (Below.size b')
  clear b21 A21 cA21 W21 cW21 V21 cV21 U21 cU21 P21 cP21 F21 G21 Q21 Y21 Z21 O21 H21 z21 b'  
  go_wp2_with fail
  refine (eqRing_true _ _ _ _ _ _ S _ hsS.out hsS.out Z22.sl.2 H22.sl.2 hSb.out).mono ?_
  rintro e v23 ⟨rfl, b'⟩
  have b23 := bel_next b22 b'
  have A23 := A22.below b'
  have cA23 := A23.cell
  have W23 := W22.below b'
  have cW23 := W23.cell
  have V23 := V22.below b'
  have cV23 := V23.cell
  have U23 := U22.below b'
  have cU23 := U23.cell
  have P23 := P22.below b'
  have cP23 := P23.cell
  have F23 := F22.below b'
  have G23 := G22.below b'
  have Q23 := Q22.below b'
  have Y23 := Y22.below b'
  have Z23 := Z22.below b'
  have O23 := O22.below b'
  have H23 := H22.below b'
  have z23 := Nat.le_trans z22 (Below.size b')
  clear b22 A22 cA22 W22 cW22 V22 cV22 U22 cU22 P22 cP22 F22 G22 Q22 Y22 Z22 O22 H22 z22 b'  
  go_wp2_with fail
  refine (heldByteS_sv 1 _ _ _ 1 _ rfl F23.sl.2 ht3 (by omega)).mono ?_
  rintro e v24 ⟨rfl, b'⟩
  have b24 := bel_next b23 b'
  have A24 := A23.below b'
  have cA24 := A24.cell
  have W24 := W23.below b'
  have cW24 := W24.cell
  have V24 := V23.below b'
  have cV24 := V24.cell
  have U24 := U23.below b'
  have cU24 := U24.cell
  have P24 := P23.below b'
  have cP24 := P24.cell
  have F24 := F23.below b'
  have G24 := G23.below b'
  have Q24 := Q23.below b'
  have Y24 := Y23.below b'
  have Z24 := Z23.below b'
  have O24 := O23.below b'
  have H24 := H23.below b'
  have z24 := Nat.le_trans z23 (Below.size b')
  clear b23 A23 cA23 W23 cW23 V23 cV23 U23 cU23 P23 cP23 F23 G23 Q23 Y23 Z23 O23 H23 z23 b'  
  go_wp2_with fail
  refine (heldRing_sv (1 + (t : Int)) _ _ _ (1 + t) _ (by simp) G24.sl.2 hs3 (by omega)).mono ?_
  rintro e v25 ⟨rfl, b'⟩
  have b25 := bel_next b24 b'
  have A25 := A24.below b'
  have cA25 := A25.cell
  have W25 := W24.below b'
  have cW25 := W25.cell
  have V25 := V24.below b'
  have cV25 := V25.cell
  have U25 := U24.below b'
  have cU25 := U25.cell
  have P25 := P24.below b'
  have cP25 := P25.cell
  have F25 := F24.below b'
  have G25 := G24.below b'
  have Q25 := Q24.below b'
  have Y25 := Y24.below b'
  have Z25 := Z24.below b'
  have O25 := O24.below b'
  have H25 := H24.below b'
  have z25 := Nat.le_trans z24 (Below.size b')
  clear b24 A24 cA24 W24 cW24 V24 cV24 U24 cU24 P24 cP24 F24 G24 Q24 Y24 Z24 O24 H24 z24 b'  
  go_wp2
  go_ret
  exact ⟨rfl, b25⟩

end Go.Proofs.Ytckmffhdngfchaa
