/- The law of FnExactConfigText, walked. -/
import Derived.Test.YtklnfeblkffgiaaDoorArgC
import Derived.Test.YtklnfeblkffgiaaDoorTx5
import Derived.Deep.RegionWith
namespace Go.Proofs.YtklnfeblkffgiaaDoor
open Go.RowKit

set_option linter.unusedVariables false

set_option maxRecDepth 20000 in
set_option maxHeartbeats 4000000 in
theorem configText_law (wt tr : Int) (a : Option Addr) (n cap : Nat) (f : Nat → Ru) (w : World) (hs : SlU w a n f) (hl : n ≤ 1048576) (h64 : ∀ k, k < n → -9223372036854775808 ≤ (f k).sh ∧ (f k).sh ≤ 9223372036854775807) (ht : Pw w) :
    Calls Tryd.prog 4 #[.agg (cfc wt tr a n cap)] w fun e w' => e = .returned (.bool true) ∧ Below w.heap.size w w' := by
  obtain ⟨b, hb⟩ : ∃ b : Bool, b = true ↔ OkRs f n := by
    by_cases h : OkRs f n
    · exact ⟨true, fun _ => h, fun _ => rfl⟩
    · exact ⟨false, ⟨fun e => Bool.noConfusion e, fun e => absurd e h⟩⟩
  have HB : Hid (b = true ↔ OkRs f n) := hb
  have H64 : Hid (∀ k, k < n → -9223372036854775808 ≤ (f k).sh ∧ (f k).sh ≤ 9223372036854775807) := h64
  have HL : Hid (n ≤ 2000000) := by show n ≤ 2000000; omega
  have HS := hide hs
  have HT := hide ht
  have hnn : ¬ (((1048576 - n : Nat) : Int) < 0) := by omega
  clear hb h64 hs ht
  have b0 := bel_alloc w (.cells (cfc wt tr a n cap) 36)
  have A0 := Blk.new w (cfc wt tr a n cap) 36
  obtain ⟨⟨x0, x1, x2⟩, _⟩ := A0.thr
  go_enter Tryd.func4, Tryd.ntmps4
  go_wp2_with fail
  refine (szConfig_fits wt tr a n cap _ hl).mono ?_
  rintro e w1 ⟨rfl, b'⟩
  have b1 := bel_next b0 b'
  have A1 := A0.below b'
  clear b' b0 A0 x0 x1 x2
  obtain ⟨⟨x0, x1, x2⟩, _⟩ := A1.thr
  go_wp2_with fail
  refine (toConfig_any wt tr a n cap f _ (SlS.below HS.out b1) HL.out).mono ?_
  rintro e w2 ⟨g1, rfl, R2, _, b'⟩
  have b2 := bel_next b1 b'
  have A2 := A1.below b'
  clear b' b1 A1 x0 x1 x2
  have SS := hide R2.sl
  clear R2
  go_wp2_with fail
  refine (specText_any wt tr _ n n f _ SS.out HL.out b HB.out).mono ?_
  rintro e w3 ⟨rfl, b'⟩
  clear SS
  have b3 := bel_next b2 b'
  have A3 := A2.below b'
  clear b' b2 A2
  obtain ⟨⟨x0, x1, x2⟩, _⟩ := A3.thr
  obtain ⟨ok, hok⟩ : ∃ ok, ok = tx (cfA wt tr b f n) := ⟨_, rfl⟩
  have HO : Hid (ok = tx (cfA wt tr b f n)) := hok
  rw [← hok]
  clear hok
  go_wp2_with fail
  refine (toConfig_any wt tr a n cap f _ (SlS.below HS.out b3) HL.out).mono ?_
  rintro e w4 ⟨g3, rfl, i4, _, b'⟩
  have b4 := bel_next b3 b'
  have A4 := A3.below b'
  clear b' b3 A3 x0 x1 x2
  have b' := bel_alloc w4 (.cells (cfc wt tr (some ⟨g3, 0, none⟩) n n) 26)
  have X5 := Blk.new w4 (cfc wt tr (some ⟨g3, 0, none⟩) n n) 26
  have b5 := bel_next b4 b'
  have i5 := RowS.below i4 b'
  have A5 := A4.below b'
  clear b' b4 i4 A4
  obtain ⟨⟨y0, y1, y2⟩, _⟩ := X5.thr
  go_wp2_with fail
  refine (implText_any wt tr _ n n f _ i5.sl HL.out H64.out b HB.out (HT.out.below b5)).mono ?_
  rintro e w6 ⟨rfl, b'⟩
  rw [← HO.out]
  clear y0 y1 y2
  have b6 := bel_next b5 b'
  have i6 := RowS.below i5 b'
  have A6 := A5.below b'
  have X6 := X5.below b'
  clear b' b5 i5 A5 X5
  obtain ⟨⟨x0, x1, x2⟩, _⟩ := A6.thr
  obtain ⟨⟨y0, y1, y2⟩, _⟩ := X6.thr
  have ebb : (ok.toList == ok.toList) = true := by simp
  go_upto_region 10 with fail
  go_cut [26] (fun sX wx => sX = .bool false ∧ Below w.heap.size w wx)
  case first =>
    go_region_with (first
      | (go_at_call 14; refine (toConfig_any wt tr a n cap f _ (SlS.below HS.out ?_) HL.out).mono ?_; (first | exact b6 | exact b6.drew | exact b6.drew.drew | exact b6.drew.drew.drew); rintro e w7 ⟨g5, rfl, i7, _, b7'⟩; have b7 := bel_next b6.drew b7'; have X7 := (X6.below (Below.refl _ _).drew).below b7'; have i6' := RowS.below (RowS.below i6 (Below.refl _ _).drew) b7'; obtain ⟨⟨u0, u1, u2⟩, _⟩ := X7.thr; clear b7' X7)
      | (go_at_call 15; refine (eqConfig_true wt tr _ _ n n n f _ ?_ ?_ HL.out).mono ?_; (first | exact i6'.sl | exact (RowS.below i6' (Below.refl _ _).drew).sl | exact (RowS.below i6' (Below.refl _ _).drew.drew).sl); (first | exact i7.sl | exact (RowS.below i7 (Below.refl _ _).drew).sl | exact (RowS.below i7 (Below.refl _ _).drew.drew).sl); rintro e w8 ⟨rfl, b8'⟩; have b8 := bel_next (by first | exact b7 | exact b7.drew | exact b7.drew.drew) b8'; clear b8'))
    all_goals (go_wp2_with fail; go_meet; exact ⟨rfl, b8⟩)
  case rest =>
  obtain ⟨rfl, b9⟩ := hcut
  go_wp2
  go_ret
  exact ⟨rfl, b9⟩

end Go.Proofs.YtklnfeblkffgiaaDoor
