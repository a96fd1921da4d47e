/- The law of FnExactAsciiOk, walked. -/
import Derived.Test.YtmcednhinafpeaaAsc1
import Derived.Test.YtmcednhinafpeaaArgK
import Derived.Deep.RegionWith
namespace Go.Proofs.Ytmcednhinafpeaa
open Go.RowKit

set_option maxRecDepth 20000 in
set_option maxHeartbeats 8000000 in
theorem asciiOk_law (a : Option Addr) (l c : Nat) (op : Bool) (ls wt : Int) (zs : List Int) (w : World) (hq : InAsc w a l ls wt zs) (hl : l ≤ 1048576) :
    Calls Try.prog 7 #[.agg #[.slice a l c, .bool op, .int .i64 ls, .int .i64 wt]] w fun e w' => e = .returned (.bool true) ∧ Below w.heap.size w w' := by
  obtain ⟨⟨h1, _, s1, _⟩, _⟩ := hq
  have HN : Hid (l = zs.length) := h1.symm
  have HL : Hid (zs.length ≤ 2000000 ∧ l ≤ 2000000) := by show _ ∧ _; omega
  have HS : Hid (Sl w a zs) := s1
  have f0 : ¬ (1048576 - (l : Int) < 0) := by omega
  clear h1 s1
  have b0 := bel_alloc w (.cells #[.slice a l c, .bool op, .int .i64 ls, .int .i64 wt] 45)
  have A0 := Blk.new w #[.slice a l c, .bool op, .int .i64 ls, .int .i64 wt] 45
  obtain ⟨x0, x1, x2, x3⟩ := A0.four
  go_enter Try.func7, Try.ntmps7
  go_wp2_with fail
  refine (szAscii_fits a l c op ls wt _ hl).mono ?_
  rintro e w1 ⟨rfl, b'⟩
  have b1 := bel_next b0 b'
  have A1 := A0.below b'
  clear b' b0 A0
  clear x0 x1 x2 x3
  obtain ⟨x0, x1, x2, x3⟩ := A1.four
  go_wp2_with fail
  refine (toAscii_any a l c op ls wt zs _ HN.out (HS.out.below b1) HL.out.1).mono ?_
  rintro e w2 ⟨g1, rfl, i2, b'⟩
  have b2 := bel_next b1 b'
  have A2 := A1.below b'
  clear b' b1 A1
  clear x0 x1 x2 x3
  go_wp2_with fail
  refine (specAsciiOk_any (some ⟨g1, 0, none⟩) l l op ls wt zs _ HN.out i2.sl.2 HL.out.2 _ rfl).mono ?_
  rintro e w3 ⟨rfl, b'⟩
  clear i2
  have b3 := bel_next b2 b'
  have A3 := A2.below b'
  clear b' b2 A2
  obtain ⟨x0, x1, x2, x3⟩ := A3.four
  go_wp2_with fail
  refine (toAscii_any a l c op ls wt zs _ HN.out (HS.out.below b3) HL.out.1).mono ?_
  rintro e w4 ⟨k1, rfl, i4, b'⟩
  have b4 := bel_next b3 b'
  have A4 := A3.below b'
  clear b' b3 A3
  clear x0 x1 x2 x3
  have b' := bel_alloc w4 (.cells #[.slice (some ⟨k1, 0, none⟩) l l, .bool op, .int .i64 ls, .int .i64 wt] 31)
  have X5 := Blk.new w4 #[.slice (some ⟨k1, 0, none⟩) l l, .bool op, .int .i64 ls, .int .i64 wt] 31
  have b5 := bel_next b4 b'
  have A5 := A4.below b'
  have i5 := i4.below b'
  clear b' b4 A4 i4
  obtain ⟨y0, y1, y2, y3⟩ := X5.four
  go_wp2_with fail
  refine (implAsciiOk_any (some ⟨k1, 0, none⟩) l l op ls wt zs _ HN.out i5.sl.2 HL.out.2 _ rfl).mono ?_
  rintro e w6 ⟨rfl, b'⟩
  clear y0 y1 y2 y3
  have b6 := bel_next b5 b'
  have A6 := A5.below b'
  have i6 := i5.below b'
  have X6 := X5.below b'
  clear b' b5 A5 i5 X5
  obtain ⟨x0, x1, x2, x3⟩ := A6.four
  obtain ⟨y0, y1, y2, y3⟩ := X6.four
  go_upto_region 10 with fail
  go_cut [26] (fun sX wx => sX = .bool false ∧ Below w.heap.size w wx)
  case first =>
    go_region_with (first
      | (go_at_call 30; refine (toAscii_any a l c op ls wt zs _ HN.out (HS.out.below ?_) HL.out.1).mono ?_; (first | exact b6 | exact b6.drew | exact b6.drew.drew | exact b6.drew.drew.drew); rintro e w7 ⟨n1, rfl, i7, b7'⟩; have b7 := bel_next b6.drew b7'; have X7 := (X6.below (Below.refl _ _).drew).below b7'; have i6' := (i6.below (Below.refl _ _).drew).below b7'; obtain ⟨u0, u1, u2, u3⟩ := X7.four; clear b7' X7)
      | (go_at_call 25; refine (eqAscii_true _ _ _ _ _ _ op ls wt zs _ HN.out HN.out ?_ ?_ HL.out.1).mono ?_; (first | exact i6'.sl.2 | exact (i6'.below (Below.refl _ _).drew).sl.2 | exact (i6'.below (Below.refl _ _).drew.drew).sl.2); (first | exact i7.sl.2 | exact (i7.below (Below.refl _ _).drew).sl.2 | exact (i7.below (Below.refl _ _).drew.drew).sl.2); rintro e w8 ⟨rfl, b8'⟩; have b8 := bel_next (by first | exact b7 | exact b7.drew | exact b7.drew.drew) b8'; clear b8'))
    all_goals (go_wp2_with fail; go_meet; exact ⟨rfl, b8⟩)
  case rest =>
  obtain ⟨rfl, b9⟩ := hcut
  go_wp2
  go_ret
  exact ⟨rfl, b9⟩

end Go.Proofs.Ytmcednhinafpeaa
