/- PutWord of the program; marking and looking at marks. -/
import Derived.Test.YtghmbonbdfchgaaPutWord1
namespace Go.Proofs.Ytghmbonbdfchgaa
open Go.RowKit

set_option maxHeartbeats 1000000 in
theorem implPutWord_any (ad : Addr) (n cap : Nat) (zs : List Int) (x : Int) (w : World) (hn : n = zs.length) (hs : Sl w (some ad) zs) (hl : zs.length ≤ 2000000) :
    Calls Try.prog 9 #[.slice (some ad) n cap, .int .i64 x] w fun e w' => ∃ v, e = .returned v ∧ Own w' w.heap.size v (zs ++ [x / 256 % 256, x % 256]) ∧ Below w.heap.size w w' := by
  subst hn
  obtain ⟨i0, hi, hz0, hz1, hz2⟩ := info_parts Try.info5
  have hml : zs.length + 2 ≤ maxLen := by unfold maxLen; omega
  have hx : Hid (Sl w (some ad) zs) := hs
  clear hs
  go_enter Try.func9, Try.ntmps9
  go_wp2_with (first | (at_make; (refine wpList_make_own _ rfl (.const (.int .i64 0)) (.tmp 8) 22 rfl w.heap.size 5 i0 (.int .u8 0) 1 Try.underlying22 hi hz0 hz1 .i64 .i64 ((zs.length : Int) + 2) (zs.length + 2) rfl rfl (by omega) (by rw [hz2]; omega) (by omega) (Nat.le_refl _) ?_); intro w0 o0 g0; have hb0 : Below w.heap.size w w0 := (Below.refl _ w).grown g0 (Nat.le_refl _) (fun k hk => by cases hk); have c0 := (hx.out.below hb0).cellsAt) | (at_builtin; (refine wpList_append_own _ rfl (.tmp 10) (.tmp 11) 22 rfl w.heap.size 5 i0 (.int .u8 0) 1 1 Try.underlying22 hi hz0 hz1 hz2 rfl (by decide) (.slice (some ⟨w.heap.size, 0, none⟩) 0 (zs.length + 2)) 0 [] rfl o0 ad zs.length cap (zs.map (Value.int .u8)) rfl (by simp) c0 (ones zs) (by omega) (by omega) hb0.size ?_); intro v1 w1 o1 g1 _; simp only [Nat.zero_add, List.nil_append] at o1; have hb1 : Below w.heap.size w w1 := hb0.grown g1 hb0.size (fun k hk => by simp [Value.ownBlock] at hk; omega)) | (at_builtin; (refine wpList_append_own _ rfl (.tmp 13) (.tmp 19) 22 rfl w.heap.size 5 i0 (.int .u8 0) 1 1 Try.underlying22 hi hz0 hz1 hz2 rfl (by decide) v1 zs.length (zs.map (Value.int .u8)) rfl (o1.alloc _) ⟨w1.heap.size, 0, none⟩ 2 2 [.int .u8 (x / 256 % 256), .int .u8 (x % 256)] rfl (by simp) two_cells (two_ones _ _) (by omega) (by omega) (by have := hb1.size; simp; omega) ?_); intro v2 w2 o2 g2 _))
  go_ret
  exact ⟨_, rfl, own_end hb1 (fun k hk => (o1.lt k hk).1) o2 g2 rfl rfl⟩

end Go.Proofs.Ytghmbonbdfchgaa
