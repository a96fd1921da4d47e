/- Hex, of the program and of its model: the same digits. -/
import Derived.Test.YtmcednhinafpeaaPutWord1
import Derived.Test.YtmcednhinafpeaaSteps
namespace Go.Proofs.Ytmcednhinafpeaa
open Go.RowKit

/-- The sixteen digits. -/
def digs : ByteArray := ⟨#[48, 49, 50, 51, 52, 53, 54, 55, 56, 57, 65, 66, 67, 68, 69, 70]⟩

def hexd (d : Int) : Int := if d < 10 then d + 48 else d + 55

theorem index_dig0 (w : World) : (Instr.index 9 (.string ⟨#[48, 49, 50, 51, 52, 53, 54, 55, 56, 57, 65, 66, 67, 68, 69, 70]⟩) (.int .u8 0)).run Try.prog w = .ok (.int .u8 48) w := by kernel_rfl

theorem index_dig1 (w : World) : (Instr.index 9 (.string ⟨#[48, 49, 50, 51, 52, 53, 54, 55, 56, 57, 65, 66, 67, 68, 69, 70]⟩) (.int .u8 1)).run Try.prog w = .ok (.int .u8 49) w := by kernel_rfl

theorem index_dig2 (w : World) : (Instr.index 9 (.string ⟨#[48, 49, 50, 51, 52, 53, 54, 55, 56, 57, 65, 66, 67, 68, 69, 70]⟩) (.int .u8 2)).run Try.prog w = .ok (.int .u8 50) w := by kernel_rfl

theorem index_dig3 (w : World) : (Instr.index 9 (.string ⟨#[48, 49, 50, 51, 52, 53, 54, 55, 56, 57, 65, 66, 67, 68, 69, 70]⟩) (.int .u8 3)).run Try.prog w = .ok (.int .u8 51) w := by kernel_rfl

theorem index_dig4 (w : World) : (Instr.index 9 (.string ⟨#[48, 49, 50, 51, 52, 53, 54, 55, 56, 57, 65, 66, 67, 68, 69, 70]⟩) (.int .u8 4)).run Try.prog w = .ok (.int .u8 52) w := by kernel_rfl

theorem index_dig5 (w : World) : (Instr.index 9 (.string ⟨#[48, 49, 50, 51, 52, 53, 54, 55, 56, 57, 65, 66, 67, 68, 69, 70]⟩) (.int .u8 5)).run Try.prog w = .ok (.int .u8 53) w := by kernel_rfl

theorem index_dig6 (w : World) : (Instr.index 9 (.string ⟨#[48, 49, 50, 51, 52, 53, 54, 55, 56, 57, 65, 66, 67, 68, 69, 70]⟩) (.int .u8 6)).run Try.prog w = .ok (.int .u8 54) w := by kernel_rfl

theorem index_dig7 (w : World) : (Instr.index 9 (.string ⟨#[48, 49, 50, 51, 52, 53, 54, 55, 56, 57, 65, 66, 67, 68, 69, 70]⟩) (.int .u8 7)).run Try.prog w = .ok (.int .u8 55) w := by kernel_rfl

theorem index_dig8 (w : World) : (Instr.index 9 (.string ⟨#[48, 49, 50, 51, 52, 53, 54, 55, 56, 57, 65, 66, 67, 68, 69, 70]⟩) (.int .u8 8)).run Try.prog w = .ok (.int .u8 56) w := by kernel_rfl

theorem index_dig9 (w : World) : (Instr.index 9 (.string ⟨#[48, 49, 50, 51, 52, 53, 54, 55, 56, 57, 65, 66, 67, 68, 69, 70]⟩) (.int .u8 9)).run Try.prog w = .ok (.int .u8 57) w := by kernel_rfl

theorem index_dig10 (w : World) : (Instr.index 9 (.string ⟨#[48, 49, 50, 51, 52, 53, 54, 55, 56, 57, 65, 66, 67, 68, 69, 70]⟩) (.int .u8 10)).run Try.prog w = .ok (.int .u8 65) w := by kernel_rfl

theorem index_dig11 (w : World) : (Instr.index 9 (.string ⟨#[48, 49, 50, 51, 52, 53, 54, 55, 56, 57, 65, 66, 67, 68, 69, 70]⟩) (.int .u8 11)).run Try.prog w = .ok (.int .u8 66) w := by kernel_rfl

theorem index_dig12 (w : World) : (Instr.index 9 (.string ⟨#[48, 49, 50, 51, 52, 53, 54, 55, 56, 57, 65, 66, 67, 68, 69, 70]⟩) (.int .u8 12)).run Try.prog w = .ok (.int .u8 67) w := by kernel_rfl

theorem index_dig13 (w : World) : (Instr.index 9 (.string ⟨#[48, 49, 50, 51, 52, 53, 54, 55, 56, 57, 65, 66, 67, 68, 69, 70]⟩) (.int .u8 13)).run Try.prog w = .ok (.int .u8 68) w := by kernel_rfl

theorem index_dig14 (w : World) : (Instr.index 9 (.string ⟨#[48, 49, 50, 51, 52, 53, 54, 55, 56, 57, 65, 66, 67, 68, 69, 70]⟩) (.int .u8 14)).run Try.prog w = .ok (.int .u8 69) w := by kernel_rfl

theorem index_dig15 (w : World) : (Instr.index 9 (.string ⟨#[48, 49, 50, 51, 52, 53, 54, 55, 56, 57, 65, 66, 67, 68, 69, 70]⟩) (.int .u8 15)).run Try.prog w = .ok (.int .u8 70) w := by kernel_rfl

theorem index_digs (d : Int) (h0 : 0 ≤ d) (h1 : d < 16) (w : World) : (Instr.index 9 (.string ⟨#[48, 49, 50, 51, 52, 53, 54, 55, 56, 57, 65, 66, 67, 68, 69, 70]⟩) (.int .u8 d)).run Try.prog w = .ok (.int .u8 (hexd d)) w := by
  have h : d = 0 ∨ d = 1 ∨ d = 2 ∨ d = 3 ∨ d = 4 ∨ d = 5 ∨ d = 6 ∨ d = 7 ∨ d = 8 ∨ d = 9 ∨ d = 10 ∨ d = 11 ∨ d = 12 ∨ d = 13 ∨ d = 14 ∨ d = 15 := by omega
  rcases h with rfl | rfl | rfl | rfl | rfl | rfl | rfl | rfl | rfl | rfl | rfl | rfl | rfl | rfl | rfl | rfl
  · exact index_dig0 w
  · exact index_dig1 w
  · exact index_dig2 w
  · exact index_dig3 w
  · exact index_dig4 w
  · exact index_dig5 w
  · exact index_dig6 w
  · exact index_dig7 w
  · exact index_dig8 w
  · exact index_dig9 w
  · exact index_dig10 w
  · exact index_dig11 w
  · exact index_dig12 w
  · exact index_dig13 w
  · exact index_dig14 w
  · exact index_dig15 w

/-- The digits of the first k bytes. -/
def hexs (zs : List Int) (k : Nat) : List Int := (zs.take k).flatMap (fun z => [hexd (z / 16), hexd (z % 16)])

theorem hexs_succ (zs : List Int) (k : Nat) (h : k < zs.length) : hexs zs (k + 1) = hexs zs k ++ [hexd (zs.getD k 0 / 16), hexd (zs.getD k 0 % 16)] := by
  unfold hexs
  rw [List.take_succ_eq_append_getElem h, List.flatMap_append, List.getD_eq_getElem?_getD, List.getElem?_eq_getElem h]
  simp

theorem hexs_length (zs : List Int) : ∀ k, k ≤ zs.length → (hexs zs k).length = 2 * k
  | 0, _ => by simp [hexs]
  | k + 1, h => by rw [hexs_succ zs k (by omega), List.length_append, hexs_length zs k (by omega)]; simp; omega

theorem hexs_le (zs : List Int) (k : Nat) : (hexs zs k).length ≤ 2 * zs.length := by
  by_cases h : k ≤ zs.length
  · rw [hexs_length zs k h]; omega
  · have e : hexs zs k = hexs zs zs.length := by unfold hexs; rw [List.take_of_length_le (by omega), List.take_length]
    rw [e, hexs_length zs _ (Nat.le_refl _)]; omega

theorem two_cells' {w1 : World} {x y : Int} : ∀ j u, ([Value.int .u8 x, Value.int .u8 y])[j]? = some u → (w1.alloc (.cells #[.int .u8 x, .int .u8 y] 5)).drew.cell? ((⟨w1.heap.size, 0, none⟩ : Addr).add j) = some u :=
  two_cells

theorem hex_step {W wr w1 : World} {o1 : Obj} {v v' : Value} {hs hs' : List Int} {x y : Int} (e : Hid (hs' = hs ++ [x, y])) (ho : Own wr W.heap.size v hs) (hb : Below W.heap.size W wr)
    (h1 : w1.ownsRow W.heap.size 5 1 v' (hs.length + 2) (hs.map (Value.int .u8) ++ [Value.int .u8 x, Value.int .u8 y])) (g1 : (wr.alloc o1).drew.grownBy w1 v.ownBlock) : Own w1 W.heap.size v' hs' ∧ Below W.heap.size W w1 := by
  rw [e.out]
  refine ⟨by simpa [Own] using h1, ?_⟩
  exact ((hb.alloc hb.size o1).drew).grown g1 (by have := hb.size; simp; omega) (fun k hk => (World.ownsRow.lt ho k hk).1)

theorem conv_own {w : World} {base : Nat} {v : Value} {zs : List Int} (h : Own w base v zs) : (convert 22 9 v).run Try.prog w = .ok (.string (strOfNums zs)) w := by
  have hsl : ∀ a n cap, v = .slice a n cap → n = zs.length ∧ Sl w a zs := fun a n cap e => by subst e; exact h.sl
  obtain ⟨_, h2⟩ := h
  rcases h2 with ⟨hv, h3⟩ | ⟨g, cap, cur, hv, _, hh, hle, _, hs, ht⟩
  · obtain rfl : zs = [] := List.eq_nil_of_length_eq_zero h3
    rw [hv]
    exact run_convert_bytes_nil w 22 5 Try.underlying22 Try.underlying5 0 0 9 Try.underlying9
  · have hS := (hsl _ _ _ hv).2
    rw [hv]
    refine run_convert_bytes_arg w 22 5 Try.underlying22 Try.underlying5 g 0 zs.length cap zs rfl (fun i hi => ?_) 9 Try.underlying9
    rcases hS with hS | ⟨b, off, hab, _, hc⟩
    · rw [hS] at hi; simp at hi
    · simp only [Option.some.injEq, Addr.mk.injEq] at hab
      obtain ⟨rfl, rfl, _⟩ := hab
      exact hc i hi

set_option maxHeartbeats 1000000 in
theorem implHex_any (a : Option Addr) (n cap : Nat) (zs : List Int) (w : World) (hn : n = zs.length) (hs : Sl w a zs) (hr : ∀ z ∈ zs, 0 ≤ z ∧ z ≤ 255) (hl : zs.length ≤ 2000000) :
    Calls Try.prog 41 #[.slice a n cap] w fun e w' => e = .returned (.string (strOfNums (hexs zs zs.length))) ∧ Below w.heap.size w w' := by
  subst hn
  obtain ⟨i0, hi, hz0, hz1, hz2⟩ := info_parts Try.info5
  have hml : 2 * zs.length + 2 ≤ maxLen := by unfold maxLen; omega
  go_enter Try.func41, Try.ntmps41
  go_wp2_with (at_make; refine wpList_make_own _ rfl (.const (.int .i64 0)) (.tmp 8) 22 rfl w.heap.size 5 i0 (.int .u8 0) 1 Try.underlying22 hi hz0 hz1 .i64 .i64 (2 * (zs.length : Int)) (2 * zs.length) rfl rfl (by omega) (by rw [hz2]; omega) (by omega) (Nat.le_refl _) ?_; intro w0 o0 g0)
  have hb0 : Below w.heap.size w w0 := (Below.refl _ w).grown g0 (Nat.le_refl _) (fun k hk => by cases hk)
  go_loopw [3, 12] (fun v i wr => ∃ k : Nat, k ≤ zs.length ∧ i = .int .i64 k ∧ Own wr w.heap.size v (hexs zs k) ∧ Below w.heap.size w wr) (fun _ i _ => zs.length - (intOf i).toNat)
  case atStart => exact ⟨0, Nat.zero_le _, rfl, o0, hb0⟩
  case round =>
    obtain ⟨k, hk, rfl, ho, hb⟩ := hrel
    by_cases hlt : k < zs.length
    · obtain ⟨b, off, rfl, hbl, hc0⟩ := cell_at hs hlt
      have hc : wr.cell? ⟨b, off + k, none⟩ = some (.int .u8 (zs.getD k 0)) := by rw [hb.cell (p := ⟨b, off + k, none⟩) hbl]; exact hc0
      have rg := get_range hr k
      have HS : Hid (hexs zs (k + 1) = hexs zs k ++ [hexd (zs.getD k 0 / 16), hexd (zs.getD k 0 % 16)]) := hexs_succ zs k hlt
      generalize zs.getD k 0 = z at *
      have hi' : (k : Int) < (zs.length : Int) := by omega
      clear hc0 hs hr hb0 g0 o0
      have e15 : bits BinOp.and IntKind.u8 z 15 = z % 16 := u8_and15 z rg.1 (by omega)
      have j1 := index_digs (z / 16) (by omega) (by omega)
      have j2 := index_digs (z % 16) (by omega) (by omega)
      have hm1 : (hexs zs k).length + 2 ≤ maxLen := by have := hexs_le zs k; omega
      have hm2 : ((hexs zs k).length + 2) * 1 ≤ 140737488355328 := by have := hexs_le zs k; omega
      go_wp2
      go_region_law ((refine step_append_own rfl (.tmp 16) (.tmp 23) 22 rfl w.heap.size 5 i0 (.int .u8 0) 1 1 Try.underlying22 hi hz0 hz1 hz2 rfl (by decide) u3 (hexs zs k).length ((hexs zs k).map (Value.int .u8)) rfl (ho.alloc _).drew ⟨wr.heap.size, 0, none⟩ 2 2 [.int .u8 (hexd (z / 16)), .int .u8 (hexd (z % 16))] rfl (by simp) two_cells' (two_ones _ _) hm1 hm2 (by have := hb.size; simp; omega) ?_); intro v' w1 o1 g1)
      all_goals
        have R : Own w1 w.heap.size v' (hexs zs (k + 1)) ∧ Below w.heap.size w w1 := hex_step HS ho hb o1 g1
        clear ho hb o1 g1 j1 j2 e15
        go_wp2
        go_roundw
        case rel => exact ⟨k + 1, by omega, by go_num, R.1, R.2⟩
        case measure => simp [intOf]; omega
    · obtain rfl : k = zs.length := by omega
      have hcv := conv_own ho
      clear hs hr hb0 g0 o0 ho
      go_wp2
      go_ret
      exact ⟨rfl, hb⟩

end Go.Proofs.Ytmcednhinafpeaa
