/- The law of FnExactDeviceOk, walked. -/
import Derived.Test.YtjfnghobnlpemaaDev2
import Derived.Test.YtjfnghobnlpemaaArgD
import Derived.Deep.RegionWith
namespace Go.Proofs.Ytjfnghobnlpemaa
open Go.RowKit

set_option maxRecDepth 20000 in
set_option maxHeartbeats 8000000 in
theorem deviceOk_law (a1 a2 a3 a4 : Option Addr) (l1 l2 l3 l4 c1 c2 c3 c4 : Nat) (cs is : List Bool) (hs rs : List Int) (w : World) (hq : InDev w a1 a2 a3 a4 l1 l2 l3 l4 cs is hs rs) (hl : (l1 : Int) + (l2 : Int) + (l3 : Int) + (l4 : Int) ≤ 1048576) :
    Calls Try.prog 8 #[.agg #[.slice a1 l1 c1, .slice a2 l2 c2, .slice a3 l3 c3, .slice a4 l4 c4]] w fun e w' => e = .returned (.bool true) ∧ Below w.heap.size w w' := by
  obtain ⟨⟨⟨h1, s1⟩, _⟩, ⟨⟨h2, s2⟩, _⟩, ⟨h3, _, s3, _⟩, h4, _, s4, _⟩ := hq
  have HN : Hid (LnD l1 l2 l3 l4 cs is hs rs) := ⟨h1.symm, h2.symm, h3.symm, h4.symm⟩
  have HL : Hid (SmD 2000000 cs is hs rs) := by show _ ∧ _; omega
  have HS : Hid (SlD w a1 a2 a3 a4 cs is hs rs) := ⟨s1, s2, s3, s4⟩
  have f0 : ¬ (1048576 - (l1 : Int) - (l2 : Int) - (l3 : Int) - (l4 : Int) < 0) := by omega
  clear h1 h2 h3 h4 s1 s2 s3 s4
  have b0 := bel_alloc w (.cells #[.slice a1 l1 c1, .slice a2 l2 c2, .slice a3 l3 c3, .slice a4 l4 c4] 57)
  have A0 := Blk.new w #[.slice a1 l1 c1, .slice a2 l2 c2, .slice a3 l3 c3, .slice a4 l4 c4] 57
  obtain ⟨x0, x1, x2, x3⟩ := A0.four
  go_enter Try.func8, Try.ntmps8
  go_wp2_with fail
  refine (szDevice_at a1 a2 a3 a4 l1 l2 l3 l4 c1 c2 c3 c4 1048576 _ (by omega) hl).mono ?_
  rintro e w1 ⟨rfl, b'⟩
  have b1 := bel_next b0 b'
  have A1 := A0.below b'
  clear b' b0 A0
  clear x0 x1 x2 x3
  obtain ⟨x0, x1, x2, x3⟩ := A1.four
  go_wp2_with fail
  refine (toDevice_any a1 a2 a3 a4 l1 l2 l3 l4 c1 c2 c3 c4 cs is hs rs _ HN.out (HS.out.below b1) HL.out).mono ?_
  rintro e w2 ⟨g1, g2, g3, g4, rfl, i2, b'⟩
  have b2 := bel_next b1 b'
  have A2 := A1.below b'
  clear b' b1 A1
  clear x0 x1 x2 x3
  go_wp2_with fail
  refine (specDeviceOk_any (some ⟨g1, 0, none⟩) (some ⟨g2, 0, none⟩) (some ⟨g3, 0, none⟩) (some ⟨g4, 0, none⟩) l1 l2 l3 l4 l1 l2 l3 l4 cs is hs rs _ HN.out i2.sl.2 HL.out _ rfl).mono ?_
  rintro e w3 ⟨rfl, b'⟩
  clear i2
  have b3 := bel_next b2 b'
  have A3 := A2.below b'
  clear b' b2 A2
  obtain ⟨x0, x1, x2, x3⟩ := A3.four
  go_wp2_with fail
  refine (toDevice_any a1 a2 a3 a4 l1 l2 l3 l4 c1 c2 c3 c4 cs is hs rs _ HN.out (HS.out.below b3) HL.out).mono ?_
  rintro e w4 ⟨k1, k2, k3, k4, rfl, i4, b'⟩
  have b4 := bel_next b3 b'
  have A4 := A3.below b'
  clear b' b3 A3
  clear x0 x1 x2 x3
  have b' := bel_alloc w4 (.cells #[.slice (some ⟨k1, 0, none⟩) l1 l1, .slice (some ⟨k2, 0, none⟩) l2 l2, .slice (some ⟨k3, 0, none⟩) l3 l3, .slice (some ⟨k4, 0, none⟩) l4 l4] 36)
  have X5 := Blk.new w4 #[.slice (some ⟨k1, 0, none⟩) l1 l1, .slice (some ⟨k2, 0, none⟩) l2 l2, .slice (some ⟨k3, 0, none⟩) l3 l3, .slice (some ⟨k4, 0, none⟩) l4 l4] 36
  have b5 := bel_next b4 b'
  have A5 := A4.below b'
  have i5 := i4.below b'
  clear b' b4 A4 i4
  obtain ⟨y0, y1, y2, y3⟩ := X5.four
  go_wp2_with fail
  refine (implDeviceOk_any (some ⟨k1, 0, none⟩) (some ⟨k2, 0, none⟩) (some ⟨k3, 0, none⟩) (some ⟨k4, 0, none⟩) l1 l2 l3 l4 l1 l2 l3 l4 cs is hs rs _ HN.out i5.sl.2 HL.out _ rfl).mono ?_
  rintro e w6 ⟨rfl, b'⟩
  clear y0 y1 y2 y3
  have b6 := bel_next b5 b'
  have A6 := A5.below b'
  have i6 := i5.below b'
  have X6 := X5.below b'
  clear b' b5 A5 i5 X5
  obtain ⟨x0, x1, x2, x3⟩ := A6.four
  obtain ⟨y0, y1, y2, y3⟩ := X6.four
  go_upto_region 10 with fail
  go_cut [26] (fun sX wx => sX = .bool false ∧ Below w.heap.size w wx)
  case first =>
    go_region_with (first
      | (go_at_call 35; refine (toDevice_any a1 a2 a3 a4 l1 l2 l3 l4 c1 c2 c3 c4 cs is hs rs _ HN.out (HS.out.below ?_) HL.out).mono ?_; (first | exact b6 | exact b6.drew | exact b6.drew.drew | exact b6.drew.drew.drew); rintro e w7 ⟨n1, n2, n3, n4, rfl, i7, b7'⟩; have b7 := bel_next b6.drew b7'; have X7 := (X6.below (Below.refl _ _).drew).below b7'; have i6' := (i6.below (Below.refl _ _).drew).below b7'; obtain ⟨u0, u1, u2, u3⟩ := X7.four; clear b7' X7)
      | (go_at_call 36; refine (eqDevice_true _ _ _ _ _ _ _ _ _ _ _ _ _ _ _ _ _ _ _ _ _ _ _ _ cs is hs rs _ HN.out HN.out ?_ ?_ HL.out).mono ?_; (first | exact i6'.sl.2 | exact (i6'.below (Below.refl _ _).drew).sl.2 | exact (i6'.below (Below.refl _ _).drew.drew).sl.2); (first | exact i7.sl.2 | exact (i7.below (Below.refl _ _).drew).sl.2 | exact (i7.below (Below.refl _ _).drew.drew).sl.2); rintro e w8 ⟨rfl, b8'⟩; have b8 := bel_next (by first | exact b7 | exact b7.drew | exact b7.drew.drew) b8'; clear b8'))
    all_goals (go_wp2_with fail; go_meet; exact ⟨rfl, b8⟩)
  case rest =>
  obtain ⟨rfl, b9⟩ := hcut
  go_wp2
  go_ret
  exact ⟨rfl, b9⟩

end Go.Proofs.Ytjfnghobnlpemaa
