/- The law of RingOk, walked. -/
import Derived.Test.YtolfomkllbbmhajRing1
import Derived.Deep.Cut
import Derived.Deep.CutRange
import Derived.Deep.DeepCutAuto
import Derived.Deep.RegionWith
namespace Go.Proofs.Ytolfomkllbbmhaj
open Go.RowKit

theorem keepc {w w' : World} {g : Nat} {v : Value} (hb : Below w.heap.size w w') (hc : w.cell? ⟨g, 0, none⟩ = some v) : w'.cell? ⟨g, 0, none⟩ = some v := by
  rw [hb.cell (p := ⟨g, 0, none⟩) (World.block_lt_of_cell? _ _ hc)]; exact hc

theorem bel_alloc (w : World) (o : Obj) : Below w.heap.size w (w.alloc o) := (Below.refl _ w).alloc (Nat.le_refl _) o

theorem bel_next {w0 w w' : World} (h : Below w0.heap.size w0 w) (h' : Below w.heap.size w w') : Below w0.heap.size w0 w' := h.trans (h'.mono h.size)

theorem new_cell (w : World) (v : Value) (t : TypeId) : (w.alloc (.cells #[v] t)).cell? ⟨w.heap.size, 0, none⟩ = some v := by simp [go_sem]

set_option maxHeartbeats 4000000 in
theorem ringOk_law (a : Option Addr) (n cap : Nat) (zs : List Int) (w : World) (hn : n = zs.length) (hs : Sl w a zs) (hl : n ≤ 1048576) :
    Calls Try.prog 3 #[.agg #[.slice a n cap]] w fun e w' => e = .returned (.bool true) ∧ Below w.heap.size w w' := by
  have HN : Hid (n = zs.length) := hn
  have HL : Hid (zs.length ≤ 2000000) := by show zs.length ≤ 2000000; omega
  have Hs : Hid (Sl w a zs) := hs
  have f0 : ¬ (1048576 - (n : Int) < 0) := by omega
  clear hs hn
  have b0 := bel_alloc w (.cells #[.slice a n cap] 24)
  have c0 := new_cell w (.slice a n cap) 24
  go_enter Try.func3, Try.ntmps3
  go_wp2_with fail
  refine (szRing_fits a n cap _ hl).mono ?_
  rintro e w1 ⟨rfl, b1'⟩
  have b1 := bel_next b0 b1'
  have c1 := keepc b1' c0
  clear b1' b0 c0
  go_wp2_with fail
  refine (toRing_any a n cap zs _ HN.out (Hs.out.below b1) HL.out).mono ?_
  rintro e w2 ⟨a2, rfl, _, b2'⟩
  have b2 := bel_next b1 b2'
  have c2 := keepc b2' c1
  clear b2' b1 c1
  go_wp2_with fail
  refine (specRingOk_any _ _ _ _).mono ?_
  rintro e w3 ⟨rfl, b3'⟩
  have b3 := bel_next b2 b3'
  have c3 := keepc b3' c2
  clear b3' b2 c2
  go_wp2_with fail
  refine (toRing_any a n cap zs _ HN.out (Hs.out.below b3) HL.out).mono ?_
  rintro e w4 ⟨a4, rfl, o4, b4'⟩
  have b4 := bel_next b3 b4'
  have c4 := keepc b4' c3
  clear b4' b3 c3
  have b5' := bel_alloc w4 (.cells #[.slice (some ⟨a4, 0, none⟩) n n] 27)
  have b5 := bel_next b4 b5'
  have c5 := keepc b5' c4
  have x5 := new_cell w4 (.slice (some ⟨a4, 0, none⟩) n n) 27
  have o5 := o4.below b5'
  clear b5' b4 c4 o4
  go_wp2_with fail
  refine (implRingOk_any _ _ _ _).mono ?_
  rintro e w6 ⟨rfl, b6'⟩
  have b6 := bel_next b5 b6'
  have c6 := keepc b6' c5
  have x6 := keepc b6' x5
  have o6 := o5.below b6'
  clear b6' b5 c5 x5 o5
  go_upto_region 10 with fail
  go_cut [26] (fun s26 wx => s26 = .bool false ∧ Below w.heap.size w wx)
  case first =>
    go_region_with (first
      | (go_at_call 8; refine (toRing_any a n cap zs _ HN.out (Hs.out.below ?_) HL.out).mono ?_; (first | exact b6 | exact b6.drew | exact b6.drew.drew | exact b6.drew.drew.drew); rintro e w7 ⟨a7, rfl, o7, b7'⟩; have b7 := bel_next b6.drew b7'; have x7 := keepc b7' (show w6.drew.cell? _ = _ from x6); have o6' := (o6.below (Below.refl _ _).drew).below b7'; clear b7')
      | (go_at_call 10; refine (eqRing_true _ _ _ _ _ _ zs _ HN.out HN.out ?_ ?_ HL.out).mono ?_; (first | exact o6'.sl.2 | exact (o6'.below (Below.refl _ _).drew).sl.2 | exact (o6'.below (Below.refl _ _).drew.drew).sl.2); (first | exact o7.sl.2 | exact (o7.below (Below.refl _ _).drew).sl.2 | exact (o7.below (Below.refl _ _).drew.drew).sl.2); rintro e w8 ⟨rfl, b8'⟩; have b8 := bel_next (by first | exact b7 | exact b7.drew | exact b7.drew.drew) b8'; clear b8'))
    all_goals (go_wp2_with fail; go_meet; exact ⟨rfl, b8⟩)
  case rest =>
  obtain ⟨rfl, b9⟩ := hcut
  go_wp2
  go_ret
  exact ⟨rfl, b9⟩

end Go.Proofs.Ytolfomkllbbmhaj
