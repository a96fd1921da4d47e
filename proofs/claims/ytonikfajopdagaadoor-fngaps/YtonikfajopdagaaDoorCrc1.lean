/- Crc, of the program and of its model: one number. -/
import Derived.Test.YtonikfajopdagaaDoorBys
import Derived.Test.YtonikfajopdagaaDoorBits
import Derived.Test.YtonikfajopdagaaDoorCrcN
namespace Go.Proofs.YtonikfajopdagaaDoor
open Go.RowKit

/-- The table lies in the first block. -/
def Tab (w : World) : Prop := ∀ i, i < 16 → w.cell? ⟨0, i, none⟩ = some (.int .i64 ((tabN.getD i 0 : Nat) : Int))

theorem Tab.below {B : Nat} {w w' : World} (h : Tab w) (hb : Below B w w') (hB : 0 < B) : Tab w' := fun i hi => by
  rw [hb.cell (p := ⟨0, i, none⟩) hB]; exact h i hi

theorem and1 (n : Int) : bits .and .i64 n 1 = n % 2 := i64_and_mask n 1 1 (by decide) (by decide)

set_option maxHeartbeats 1000000 in
theorem specCrc_any (a : Option Addr) (n cap : Nat) (zs : List Int) (w : World) (hn : n = zs.length) (hs : Sl w a zs) (hr : ∀ z ∈ zs, 0 ≤ z ∧ z ≤ 255) (hl : zs.length ≤ 2000000) :
    Calls Tryd.prog 51 #[.slice a n cap] w fun e w' => e = .returned (.int .i64 ((crcTo zs zs.length : Nat) : Int)) ∧ w' = w := by
  subst hn
  go_enter Tryd.func51, Tryd.ntmps51
  go_wp2
  go_loop [3, 4] (fun x i => ∃ k : Nat, k ≤ zs.length ∧ i = .int .i64 k ∧ x = .int .i64 ((crcTo zs k : Nat) : Int)) (fun _ i => zs.length - (intOf i).toNat)
  case atStart => exact ⟨0, Nat.zero_le _, rfl, rfl⟩
  case round =>
    obtain ⟨k, hk, rfl, rfl⟩ := hrel
    have hlt16 := crcTo_lt zs (get_range hr) k
    by_cases hlt : k < zs.length
    · obtain ⟨b, off, rfl, _, hc⟩ := cell_at hs hlt
      have rg := get_range hr k
      have HS : Hid (crcTo zs (k + 1) = four (four (crcTo zs k ^^^ (zs.getD k 0).toNat))) := rfl
      obtain ⟨z, hz⟩ := Int.eq_ofNat_of_zero_le rg.1
      rw [hz] at hc rg HS
      rw [Int.toNat_natCast] at HS
      have hz16 : z < 65536 := by omega
      have ex1 := xorI (crcTo zs k) z hlt16 hz16
      have hx0 := xor_lt (crcTo zs k) z hlt16 hz16
      generalize crcTo zs k ^^^ z = x0 at *
      generalize crcTo zs k = s at *
      clear hs hr hz
      go_wp2
      go_loop [3, 5] (fun x i => ∃ j : Nat, j ≤ 8 ∧ i = .int .i64 j ∧ x = .int .i64 ((sts j x0 : Nat) : Int)) (fun _ i => 8 - (intOf i).toNat)
      case atStart => exact ⟨0, Nat.zero_le _, rfl, rfl⟩
      case round =>
        obtain ⟨j, hj, rfl, rfl⟩ := hrel
        have hxj := sts_lt j x0 hx0
        by_cases hj8 : j < 8
        · have HT : Hid (sts (j + 1) x0 = st (sts j x0)) := rfl
          generalize sts j x0 = x at *
          have e1 := and1 (x : Int)
          have ec : ((x / 2 : Nat) : Int) = (x : Int) / 2 := by omega
          have ex2 : bits BinOp.xor IntKind.i64 ((x : Int) / 2) 40961 = ((x / 2 ^^^ 40961 : Nat) : Int) := by
            have h := xorI (x / 2) 40961 (by omega) (by decide)
            rw [ec] at h
            exact h
          by_cases ho : x % 2 = 1
          · have ho' : ((x : Int) % 2 == 1) = true := by simp; omega
            have HX : Hid (st x = x / 2 ^^^ 40961) := by unfold st; exact if_pos ho
            clear ec ho
            go_wp2
            go_round
            case rel => exact ⟨j + 1, by omega, by go_num, by rw [HT.out, HX.out]⟩
            case measure => simp [intOf]; omega
          · have ho' : ((x : Int) % 2 == 1) = false := by simp; omega
            have HX : Hid (((st x : Nat) : Int) = (x : Int) / 2) := by unfold st; rw [if_neg ho]; exact ec
            clear ec ho ex2
            go_wp2
            go_round
            case rel => exact ⟨j + 1, by omega, by go_num, by rw [HT.out, HX.out]⟩
            case measure => simp [intOf]; omega
        · obtain rfl : j = 8 := by omega
          have HE : Hid (sts 8 x0 = four (four x0)) := sts_eight x0 hx0
          clear hxj
          go_wp2
          go_round
          case rel => exact ⟨k + 1, by omega, by go_num, by rw [HS.out, HE.out]⟩
          case measure => simp [intOf]; omega
    · obtain rfl : k = zs.length := by omega
      clear hs hr
      go_wp2
      go_ret
      exact ⟨rfl, rfl⟩

set_option maxHeartbeats 1000000 in
theorem implCrc_any (a : Option Addr) (n cap : Nat) (zs : List Int) (w : World) (hn : n = zs.length) (hT : Tab w) (hs : Sl w a zs) (hr : ∀ z ∈ zs, 0 ≤ z ∧ z ≤ 255) (hl : zs.length ≤ 2000000) :
    Calls Tryd.prog 42 #[.slice a n cap] w fun e w' => e = .returned (.int .i64 ((crcTo zs zs.length : Nat) : Int)) ∧ w' = w := by
  subst hn
  have HTab : Hid (Tab w) := hT
  clear hT
  go_enter Tryd.func42, Tryd.ntmps42
  go_wp2
  go_loop [3, 8] (fun x i => ∃ k : Nat, k ≤ zs.length ∧ i = .int .i64 k ∧ x = .int .i64 ((crcTo zs k : Nat) : Int)) (fun _ i => zs.length - (intOf i).toNat)
  case atStart => exact ⟨0, Nat.zero_le _, rfl, rfl⟩
  case round =>
    obtain ⟨k, hk, rfl, rfl⟩ := hrel
    have hlt16 := crcTo_lt zs (get_range hr) k
    by_cases hlt : k < zs.length
    · obtain ⟨b, off, rfl, _, hc⟩ := cell_at hs hlt
      have rg := get_range hr k
      have HS : Hid (crcTo zs (k + 1) = four (four (crcTo zs k ^^^ (zs.getD k 0).toNat))) := rfl
      obtain ⟨z, hz⟩ := Int.eq_ofNat_of_zero_le rg.1
      rw [hz] at hc rg HS
      rw [Int.toNat_natCast] at HS
      have hz16 : z < 65536 := by omega
      have ex1 := xorI (crcTo zs k) z hlt16 hz16
      have hx0 := xor_lt (crcTo zs k) z hlt16 hz16
      generalize crcTo zs k ^^^ z = x0 at *
      generalize crcTo zs k = s at *
      clear hs hr hz
      have a1 : bits BinOp.and IntKind.i64 (x0 : Int) 15 = ((x0 % 16 : Nat) : Int) := by rw [and4]; omega
      have c1 := HTab.out (x0 % 16) (by omega)
      have y1 := xorI (x0 / 16) (tabN.getD (x0 % 16) 0) (by omega) (tab_lt _)
      have F1 : four x0 = x0 / 16 ^^^ tabN.getD (x0 % 16) 0 := rfl
      have hx1 := four_lt x0 hx0
      rw [← F1] at y1
      rw [show ((x0 / 16 : Nat) : Int) = (x0 : Int) / 16 by omega] at y1
      generalize four x0 = x1 at *
      generalize tabN.getD (x0 % 16) 0 = t1 at *
      have a2 : bits BinOp.and IntKind.i64 (x1 : Int) 15 = ((x1 % 16 : Nat) : Int) := by rw [and4]; omega
      have c2 := HTab.out (x1 % 16) (by omega)
      have y2 := xorI (x1 / 16) (tabN.getD (x1 % 16) 0) (by omega) (tab_lt _)
      have F2 : four x1 = x1 / 16 ^^^ tabN.getD (x1 % 16) 0 := rfl
      rw [← F2] at y2
      rw [show ((x1 / 16 : Nat) : Int) = (x1 : Int) / 16 by omega] at y2
      generalize four x1 = x2 at *
      generalize tabN.getD (x1 % 16) 0 = t2 at *
      have b1 : ((x0 % 16 : Nat) : Int) < 16 := by omega
      have b2 : ((x1 % 16 : Nat) : Int) < 16 := by omega
      clear F1 F2
      go_wp2
      go_round
      case rel => exact ⟨k + 1, by omega, by go_num, by rw [HS.out]⟩
      case measure => simp [intOf]; omega
    · obtain rfl : k = zs.length := by omega
      clear hs hr
      go_wp2
      go_ret
      exact ⟨rfl, rfl⟩

end Go.Proofs.YtonikfajopdagaaDoor
