/- Hex of the model, and the law of Hex. -/
import Derived.Test.YtmcednhinafpeaaHex1
namespace Go.Proofs.Ytmcednhinafpeaa
open Go.RowKit

set_option maxHeartbeats 2000000 in
theorem specHex_any (a : Option Addr) (n cap : Nat) (zs : List Int) (w : World) (hn : n = zs.length) (hs : Sl w a zs) (hr : ∀ z ∈ zs, 0 ≤ z ∧ z ≤ 255) (hl : zs.length ≤ 2000000) :
    Calls Try.prog 53 #[.slice a n cap] w fun e w' => e = .returned (.string (strOfNums (hexs zs zs.length))) ∧ Below w.heap.size w w' := by
  subst hn
  obtain ⟨i0, hi, hz0, hz1, hz2⟩ := info_parts Try.info5
  have hml : 2 * zs.length + 2 ≤ maxLen := by unfold maxLen; omega
  have o0 := World.ownsRow_lit (base := w.heap.size) (e := 5) (size := 1) w #[] 0 (Nat.le_refl _) (by omega) rfl
  have hb0 : Below w.heap.size w (w.alloc (.cells #[] 5)) := (Below.refl _ w).alloc (Nat.le_refl _) _
  go_enter Try.func53, Try.ntmps53
  go_wp2
  go_loopw [4, 5] (fun v i wr => ∃ k : Nat, k ≤ zs.length ∧ i = .int .i64 k ∧ Own wr w.heap.size v (hexs zs k) ∧ Below w.heap.size w wr) (fun _ i _ => zs.length - (intOf i).toNat)
  case atStart => exact ⟨0, Nat.zero_le _, rfl, o0, hb0⟩
  case round =>
    obtain ⟨k, hk, rfl, ho, hb⟩ := hrel
    by_cases hlt : k < zs.length
    · obtain ⟨b, off, rfl, hbl, hc0⟩ := cell_at hs hlt
      have hc : wr.cell? ⟨b, off + k, none⟩ = some (.int .u8 (zs.getD k 0)) := by rw [hb.cell (p := ⟨b, off + k, none⟩) hbl]; exact hc0
      have rg := get_range hr k
      have HS : Hid (hexs zs (k + 1) = hexs zs k ++ [hexd (zs.getD k 0 / 16), hexd (zs.getD k 0 % 16)]) := hexs_succ zs k hlt
      generalize zs.getD k 0 = z at *
      have hi' : (k : Int) < (zs.length : Int) := by omega
      clear hc0 hs hr hb0 o0
      have e15 : bits BinOp.and IntKind.u8 z 15 = z % 16 := u8_and15 z rg.1 (by omega)
      have j1 := index_digs (z / 16) (by omega) (by omega)
      have j2 := index_digs (z % 16) (by omega) (by omega)
      have hm1 : (hexs zs k).length + 2 ≤ maxLen := by have := hexs_le zs k; omega
      have hm2 : ((hexs zs k).length + 2) * 1 ≤ 140737488355328 := by have := hexs_le zs k; omega
      go_wp2
      go_region_law ((refine step_append_own rfl (.tmp 13) (.tmp 28) 22 rfl w.heap.size 5 i0 (.int .u8 0) 1 1 Try.underlying22 hi hz0 hz1 hz2 rfl (by decide) u4 (hexs zs k).length ((hexs zs k).map (Value.int .u8)) rfl (ho.alloc _).drew ⟨wr.heap.size, 0, none⟩ 2 2 [.int .u8 (hexd (z / 16)), .int .u8 (hexd (z % 16))] rfl (by simp) two_cells' (two_ones _ _) hm1 hm2 (by have := hb.size; simp; omega) ?_); intro v' w1 o1 g1)
      all_goals
        have R : Own w1 w.heap.size v' (hexs zs (k + 1)) ∧ Below w.heap.size w w1 := hex_step HS ho hb o1 g1
        clear ho hb o1 g1 j1 j2 e15
        go_wp2
        go_roundw
        case rel => exact ⟨k + 1, by omega, by go_num, R.1, R.2⟩
        case measure => simp [intOf]; omega
    · obtain rfl : k = zs.length := by omega
      have hcv := conv_own ho
      clear hs hr hb0 o0 ho
      go_wp2
      go_ret
      exact ⟨rfl, hb⟩

end Go.Proofs.Ytmcednhinafpeaa
