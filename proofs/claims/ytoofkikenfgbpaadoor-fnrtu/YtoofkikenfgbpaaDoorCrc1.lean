/- Crc, of the program and of its model: one number. -/
import Derived.Test.YtoofkikenfgbpaaDoorBys
import Derived.Test.YtoofkikenfgbpaaDoorBits
import Derived.Test.YtoofkikenfgbpaaDoorCrcN
namespace Go.Proofs.YtoofkikenfgbpaaDoor
open Go.RowKit

/-- The table lies in the first block. -/
def Tab (w : World) : Prop := ∀ i, i < 16 → w.cell? ⟨0, i, none⟩ = some (.int .i64 ((tabN.getD i 0 : Nat) : Int))

theorem Tab.below {B : Nat} {w w' : World} (h : Tab w) (hb : Below B w w') (hB : 0 < B) : Tab w' := fun i hi => by
  rw [hb.cell (p := ⟨0, i, none⟩) hB]; exact h i hi

theorem and1 (n : Int) : bits .and .i64 n 1 = n % 2 := i64_and_mask n 1 1 (by decide) (by decide)

set_option maxHeartbeats 1000000 in
theorem implCrc_any (a : Option Addr) (n cap : Nat) (zs : List Int) (w : World) (hn : n = zs.length) (hT : Tab w) (hs : Sl w a zs) (hr : ∀ z ∈ zs, 0 ≤ z ∧ z ≤ 255) (hl : zs.length ≤ 2000000) :
    Calls Tryd.prog 28 #[.slice a n cap] w fun e w' => e = .returned (.int .i64 ((crcTo zs zs.length : Nat) : Int)) ∧ w' = w := by
  subst hn
  have HTab : Hid (Tab w) := hT
  clear hT
  go_enter Tryd.func28, Tryd.ntmps28
  go_wp2
  go_loop [3, 8] (fun x i => ∃ k : Nat, k ≤ zs.length ∧ i = .int .i64 k ∧ x = .int .i64 ((crcTo zs k : Nat) : Int)) (fun _ i => zs.length - (intOf i).toNat)
  case atStart => exact ⟨0, Nat.zero_le _, rfl, rfl⟩
  case round =>
    obtain ⟨k, hk, rfl, rfl⟩ := hrel
    have hlt16 := crcTo_lt zs (get_range hr) k
    by_cases hlt : k < zs.length
    · obtain ⟨b, off, rfl, _, hc⟩ := cell_at hs hlt
      have rg := get_range hr k
      have HS : Hid (crcTo zs (k + 1) = four (four (crcTo zs k ^^^ (zs.getD k 0).toNat))) := rfl
      obtain ⟨z, hz⟩ := Int.eq_ofNat_of_zero_le rg.1
      rw [hz] at hc rg HS
      rw [Int.toNat_natCast] at HS
      have hz16 : z < 65536 := by omega
      have ex1 := xorI (crcTo zs k) z hlt16 hz16
      have hx0 := xor_lt (crcTo zs k) z hlt16 hz16
      generalize crcTo zs k ^^^ z = x0 at *
      generalize crcTo zs k = s at *
      clear hs hr hz
      have a1 : bits BinOp.and IntKind.i64 (x0 : Int) 15 = ((x0 % 16 : Nat) : Int) := by rw [and4]; omega
      have c1 := HTab.out (x0 % 16) (by omega)
      have y1 := xorI (x0 / 16) (tabN.getD (x0 % 16) 0) (by omega) (tab_lt _)
      have F1 : four x0 = x0 / 16 ^^^ tabN.getD (x0 % 16) 0 := rfl
      have hx1 := four_lt x0 hx0
      rw [← F1] at y1
      rw [show ((x0 / 16 : Nat) : Int) = (x0 : Int) / 16 by omega] at y1
      generalize four x0 = x1 at *
      generalize tabN.getD (x0 % 16) 0 = t1 at *
      have a2 : bits BinOp.and IntKind.i64 (x1 : Int) 15 = ((x1 % 16 : Nat) : Int) := by rw [and4]; omega
      have c2 := HTab.out (x1 % 16) (by omega)
      have y2 := xorI (x1 / 16) (tabN.getD (x1 % 16) 0) (by omega) (tab_lt _)
      have F2 : four x1 = x1 / 16 ^^^ tabN.getD (x1 % 16) 0 := rfl
      rw [← F2] at y2
      rw [show ((x1 / 16 : Nat) : Int) = (x1 : Int) / 16 by omega] at y2
      generalize four x1 = x2 at *
      generalize tabN.getD (x1 % 16) 0 = t2 at *
      have b1 : ((x0 % 16 : Nat) : Int) < 16 := by omega
      have b2 : ((x1 % 16 : Nat) : Int) < 16 := by omega
      clear F1 F2
      go_wp2
      go_round
      case rel => exact ⟨k + 1, by omega, by go_num, by rw [HS.out]⟩
      case measure => simp [intOf]; omega
    · obtain rfl : k = zs.length := by omega
      clear hs hr
      go_wp2
      go_ret
      exact ⟨rfl, rfl⟩

end Go.Proofs.YtoofkikenfgbpaaDoor
