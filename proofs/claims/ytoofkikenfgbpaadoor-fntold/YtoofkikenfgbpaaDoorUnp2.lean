/- UnpackBits of the program. -/
import Derived.Test.YtoofkikenfgbpaaDoorUnp1
namespace Go.Proofs.YtoofkikenfgbpaaDoor
open Go.RowKit

theorem top_bit : ∀ s : Nat, s < 8 → ∀ z : Nat, z < 256 → z / 2 ^ s ≠ 0 → ∃ r, r < 8 ∧ s ≤ r ∧ z / 2 ^ r % 2 = 1 := by decide +kernel

theorem left_bad {zs : List Int} (hr : ∀ z ∈ zs, 0 ≤ z ∧ z ≤ 255) {x : Nat} (hn : (zs.length : Int) = ((x : Int) + 7) / 8) (h8 : x % 8 ≠ 0) (hz : zs.getD (x / 8) 0 / ((2 ^ (x % 8) : Nat) : Int) ≠ 0) :
    okU zs (x : Int) = false ∧ outU zs (x : Int) = [] := by
  have rg := get_range hr (x / 8)
  obtain ⟨y, hy⟩ := Int.eq_ofNat_of_zero_le rg.1
  have e : ((y : Int) / ((2 ^ (x % 8) : Nat) : Int)) = ((y / 2 ^ (x % 8) : Nat) : Int) := by simp
  rw [hy, e] at hz
  obtain ⟨r, h1, h2, h3⟩ := top_bit (x % 8) (Nat.mod_lt _ (by decide)) y (by omega) (by omega)
  have ej1 : (8 * (x / 8) + r) / 8 = x / 8 := by omega
  have ej2 : (8 * (x / 8) + r) % 8 = r := by omega
  refine okU_bad (8 * (x / 8) + r) (by omega) (by omega) ?_
  unfold ub
  rw [ej1, ej2, hy]
  have e2 : ((y : Int) / ((2 ^ r : Nat) : Int)) = ((y / 2 ^ r : Nat) : Int) := by simp
  rw [e2]
  have e3 : ((y / 2 ^ r : Nat) : Int) % 2 = 1 := by omega
  rw [e3]; rfl

theorem left_good {zs : List Int} (hr : ∀ z ∈ zs, 0 ≤ z ∧ z ≤ 255) {x : Nat} (hn : (zs.length : Int) = ((x : Int) + 7) / 8) (h : x % 8 = 0 ∨ zs.getD (x / 8) 0 / ((2 ^ (x % 8) : Nat) : Int) = 0) :
    okU zs (x : Int) = true ∧ outU zs (x : Int) = ubs zs x := by
  refine okU_yes hn (fun j hj hx => ?_)
  by_cases h8 : x % 8 = 0
  · omega
  · have hz := h.resolve_left h8
    have rg := get_range hr (x / 8)
    obtain ⟨y, hy⟩ := Int.eq_ofNat_of_zero_le rg.1
    have e : ((y : Int) / ((2 ^ (x % 8) : Nat) : Int)) = ((y / 2 ^ (x % 8) : Nat) : Int) := by simp
    rw [hy, e] at hz
    have hp : 0 < 2 ^ (x % 8) := Nat.two_pow_pos _
    have hlt : y < 2 ^ (x % 8) := by
      have hz' : y / 2 ^ (x % 8) = 0 := by omega
      rcases (Nat.div_eq_zero_iff).1 hz' with h0 | h0
      · omega
      · exact h0
    have ej : j / 8 = x / 8 := by omega
    have hle : 2 ^ (x % 8) ≤ 2 ^ (j % 8) := Nat.pow_le_pow_right (by decide) (by omega)
    unfold ub
    rw [ej, hy]
    have e2 : ((y : Int) / ((2 ^ (j % 8) : Nat) : Int)) = ((y / 2 ^ (j % 8) : Nat) : Int) := by simp
    rw [e2, Nat.div_eq_of_lt (by omega)]; rfl

set_option maxRecDepth 20000 in
set_option maxHeartbeats 2000000 in
theorem implUnpack_neg (a : Option Addr) (n cap : Nat) (zs : List Int) (x : Int) (w : World) (h : x < 0) :
    Calls Tryd.prog 95 #[.slice a n cap, .int .i64 x] w fun e w' => UnEnds zs x w e w' := by
  have HK : Hid (okU zs x = false ∧ outU zs x = []) := okU_no (by omega)
  go_enter Tryd.func95, Tryd.ntmps95
  go_wp2
  go_ret2
  exact unEnds_no HK.out (ownB_nil _ _) (Below.refl _ _)

set_option maxRecDepth 20000 in
set_option maxHeartbeats 2000000 in
theorem implUnpack_len (a : Option Addr) (n cap : Nat) (zs : List Int) (x : Int) (w : World) (hn : n = zs.length) (hx : x ≤ 9223372036854775807) (h : 0 ≤ x) (h2 : (n : Int) ≠ (x + 7) / 8) :
    Calls Tryd.prog 95 #[.slice a n cap, .int .i64 x] w fun e w' => UnEnds zs x w e w' := by
  have HK : Hid (okU zs x = false ∧ outU zs x = []) := okU_no (by rw [← hn]; omega)
  have g1 : ¬ x < 0 := by omega
  clear hn
  obtain ⟨y, hy⟩ : ∃ y, y = (x + 7) / 8 := ⟨_, rfl⟩
  have HY : Hid ((x + 7) / 8 = y) := hy.symm
  have g2 : ((n : Int) != y) = true := by rw [hy]; simp [h2]
  clear hy h2
  go_enter Tryd.func95, Tryd.ntmps95
  go_wp2_with (go_at_call 79; refine (bytesFor_any _ _ h hx).mono ?_; rintro e w1 ⟨rfl, e1⟩; subst e1; rw [HY.out])
  go_ret2
  exact unEnds_no HK.out (ownB_nil _ _) (Below.refl _ _)

set_option maxRecDepth 20000 in
set_option maxHeartbeats 4000000 in
theorem implUnpack_left (a : Option Addr) (n cap : Nat) (zs : List Int) (x : Nat) (w : World) (hn : n = zs.length) (hs : Sl w a zs) (hr : ∀ z ∈ zs, 0 ≤ z ∧ z ≤ 255) (hl : n ≤ 2000000) (h2 : (n : Int) = ((x : Int) + 7) / 8)
    (h8 : x % 8 ≠ 0) (hz : zs.getD (x / 8) 0 / ((2 ^ (x % 8) : Nat) : Int) ≠ 0) :
    Calls Tryd.prog 95 #[.slice a n cap, .int .i64 (x : Int)] w fun e w' => UnEnds zs (x : Int) w e w' := by
  have HK : Hid (okU zs (x : Int) = false ∧ outU zs (x : Int) = []) := left_bad hr (by rw [← hn]; exact h2) h8 hz
  have hxb : (x : Int) ≤ 9223372036854775807 := by omega
  have g2 : Hid (((x : Int) + 7) / 8 = (n : Int)) := h2.symm
  have g3 : ((x : Int) % 8 != 0) = true := by simp; omega
  have g5 : (x : Int) / 8 < (n : Int) := by omega
  obtain ⟨b, off, rfl, hb0, hc⟩ := cell_at hs (k := x / 8) (by omega)
  have rg := get_range hr (x / 8)
  rw [← pow_cast] at hz
  generalize zs.getD (x / 8) 0 = z at *
  have g4 : (z / 2 ^ (x % 8) != 0) = true := by simp [hz]
  clear hs hr hn h2 hz h8
  go_enter Tryd.func95, Tryd.ntmps95
  go_wp2_with (go_at_call 79; refine (bytesFor_any _ _ (by omega) hxb).mono ?_; rintro e w1 ⟨rfl, e1⟩; subst e1; rw [g2.out])
  go_ret2
  exact unEnds_no HK.out (ownB_nil _ _) (Below.refl _ _)

set_option maxRecDepth 20000 in
set_option maxHeartbeats 4000000 in
theorem implUnpack_yes (a : Option Addr) (n cap : Nat) (zs : List Int) (x : Nat) (w : World) (hn : n = zs.length) (hs : Sl w a zs) (hr : ∀ z ∈ zs, 0 ≤ z ∧ z ≤ 255) (hl : n ≤ 2000000) (h2 : (n : Int) = ((x : Int) + 7) / 8)
    (h : x % 8 = 0 ∨ zs.getD (x / 8) 0 / ((2 ^ (x % 8) : Nat) : Int) = 0) :
    Calls Tryd.prog 95 #[.slice a n cap, .int .i64 (x : Int)] w fun e w' => UnEnds zs (x : Int) w e w' := by
  have HY : Hid (okU zs (x : Int) = true ∧ outU zs (x : Int) = ubs zs x) := left_good hr (by rw [← hn]; exact h2) h
  have hxb : (x : Int) ≤ 9223372036854775807 := by omega
  have g2 : Hid (((x : Int) + 7) / 8 = (n : Int)) := h2.symm
  have hx8 : Hid (8 * n < x + 8 ∧ x ≤ 8 * n) := by show _ ∧ _; omega
  have hxl : x ≤ 16000000 := by omega
  have HN : Hid (n = zs.length) := hn
  have hmk := run_make_row' (P := Tryd.prog) 44 4 (.bool false) 1 Tryd.underlying44 Tryd.info4 rfl .i64 .i64 x (by omega) (by omega)
  have HS : Hid (Sl w a zs) := hs
  have HRG : Hid (∀ z ∈ zs, 0 ≤ z ∧ z ≤ 255) := hr
  have hcase : ((x : Int) % 8 != 0) = false ∨ (((x : Int) % 8 != 0) = true ∧ ∃ b off z, a = some ⟨b, off, none⟩ ∧ w.cell? ⟨b, off + x / 8, none⟩ = some (.int .u8 z) ∧ (x : Int) / 8 < (n : Int) ∧ 0 ≤ z ∧ z ≤ 255 ∧ (z / 2 ^ (x % 8) != 0) = false) := by
    by_cases h8 : x % 8 = 0
    · left; simp; omega
    · right
      obtain ⟨b, off, ha, _, hc⟩ := cell_at hs (k := x / 8) (by omega)
      have rg := get_range hr (x / 8)
      have hz := h.resolve_left h8
      rw [← pow_cast] at hz
      exact ⟨by simp; omega, b, off, _, ha, hc, by omega, rg.1, rg.2, bne_eq_false_iff_eq.2 hz⟩
  clear hs hr hn h2 h
  rcases hcase with g3 | ⟨g3, b, off, z, rfl, hc, g5, z0, z1, g4⟩
  all_goals
    go_enter Tryd.func95, Tryd.ntmps95
    go_wp2_with (go_at_call 79; refine (bytesFor_any _ _ (by omega) hxb).mono ?_; rintro e w1 ⟨rfl, e1⟩; subst e1; rw [g2.out])
    clear hmk
    go_loopw [35] (fun i wr => ∃ k : Nat, k ≤ x ∧ i = .int .i64 k ∧ wr.rowIs w1.heap.size 4 x (fun i => if i < k then .bool (ub zs i) else .bool false) ∧ Below w1.heap.size w1 wr) (fun i _ => x - (intOf i).toNat)
    case atStart => exact ⟨0, Nat.zero_le _, rfl, (World.rowIs_made w1 _ _ _).congr (fun i _ => by simp), (Below.refl _ _).alloc (Nat.le_refl _) _⟩
    case round =>
      obtain ⟨k, hk, rfl, hrow, hb⟩ := hrel
      by_cases hlt : k < x
      · obtain ⟨b1, off1, ha1, hb1, hc1⟩ := cell_at HS.out (k := k / 8) (by have := HN.out; have := hx8.out; omega)
        have hcc : wr.cell? ⟨b1, off1 + k / 8, none⟩ = some (.int .u8 (zs.getD (k / 8) 0)) := by rw [hb.cell (p := ⟨b1, off1 + k / 8, none⟩) hb1]; exact hc1
        have hi' : (k : Int) < (x : Int) := by omega
        have hi2 : (k : Int) / 8 < (n : Int) := by have := hx8.out; omega
        have hub : (bits BinOp.and IntKind.u8 (zs.getD (k / 8) 0 / 2 ^ (k % 8)) 1 == 1) = ub zs k := ub_eq HRG.out k
        have rg := get_range HRG.out (k / 8)
        generalize zs.getD (k / 8) 0 = z' at *
        have hst := hrow.cell hlt
        simp only [Nat.lt_irrefl, if_false] at hst
        have hfz := hrow.frozen k
        have R : Hid ((wr.setCell ⟨w1.heap.size, k, none⟩ (.bool (ub zs k))).rowIs w1.heap.size 4 x (fun i => if i < k + 1 then .bool (ub zs i) else .bool false)) := by
          refine (hrow.set k _).congr (fun i _ => ?_)
          by_cases e : i = k
          · subst e; simp
          · rw [if_neg e]
            by_cases h : i < k
            · rw [if_pos h, if_pos (by omega)]
            · rw [if_neg h, if_neg (by omega)]
        have B1 : Hid (Below w1.heap.size w1 (wr.setCell ⟨w1.heap.size, k, none⟩ (.bool (ub zs k)))) := hb.setCell (Nat.le_refl _) _
        generalize ub zs k = t at *
        clear hrow hb hc1 hb1
        first | subst ha1 | (simp only [Option.some.injEq, Addr.mk.injEq] at ha1; obtain ⟨rfl, rfl, _⟩ := ha1)
        go_wp2
        go_roundw
        case rel => exact ⟨k + 1, by omega, by go_num, R.out, B1.out⟩
        case measure => simp [intOf]; omega
      · obtain rfl : k = x := by omega
        have O : Hid (OwnB wr w1.heap.size (.slice (some ⟨w1.heap.size, 0, none⟩) k k) (ubs zs k)) := OwnB.ofRow (hrow.congr (fun i hi => by rw [if_pos hi]; simp [ubs, hi])) (by rw [ubs_length]) (Nat.le_refl _) (by unfold maxLen; omega)
        clear hrow
        go_wp2
        go_ret2
        exact unEnds_yes HY.out O.out hb

theorem implUnpack_any (a : Option Addr) (n cap : Nat) (zs : List Int) (x : Int) (w : World) (hn : n = zs.length) (hs : Sl w a zs) (hr : ∀ z ∈ zs, 0 ≤ z ∧ z ≤ 255) (hl : n ≤ 2000000) (hx : x ≤ 9223372036854775807) :
    Calls Tryd.prog 95 #[.slice a n cap, .int .i64 x] w fun e w' => UnEnds zs x w e w' := by
  by_cases h : x < 0
  · exact implUnpack_neg a n cap zs x w h
  · by_cases h2 : (n : Int) = (x + 7) / 8
    · obtain ⟨k, rfl⟩ := Int.eq_ofNat_of_zero_le (a := x) (by omega)
      by_cases h3 : k % 8 = 0 ∨ zs.getD (k / 8) 0 / ((2 ^ (k % 8) : Nat) : Int) = 0
      · exact implUnpack_yes a n cap zs k w hn hs hr hl h2 h3
      · exact implUnpack_left a n cap zs k w hn hs hr hl h2 (fun e => h3 (.inl e)) (fun e => h3 (.inr e))
    · exact implUnpack_len a n cap zs x w hn hx (by omega) h2

end Go.Proofs.YtoofkikenfgbpaaDoor
