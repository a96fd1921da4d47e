/- PutWord, of the program and of its model: the same bytes. -/
import Derived.Test.YtimgohnnapaafaaBys
import Derived.Test.YtimgohnnapaafaaBits
namespace Go.Proofs.Ytimgohnnapaafaa
open Go.RowKit

theorem Sl.cellsAt {w : World} {ad : Addr} {zs : List Int} (h : Sl w (some ad) zs) : ∀ j u, (zs.map (Value.int .u8))[j]? = some u → w.cell? (ad.add j) = some u := by
  intro j u hu
  rcases h with h | ⟨b, off, ha, _, hc⟩
  · subst h; simp at hu
  · obtain rfl : ad = ⟨b, off, none⟩ := by simpa using ha
    have hj : j < zs.length := by
      have := (List.getElem?_eq_some_iff.1 hu).1
      simpa using this
    have e : Addr.add ⟨b, off, none⟩ j = ⟨b, off + j, none⟩ := by
      by_cases h0 : j = 0
      · subst h0; simp [Addr.add]
      · simp [Addr.add, h0]
    rw [e, hc j hj]
    rw [← hu]
    simp [hj]

theorem ones (zs : List Int) : ∀ u ∈ zs.map (Value.int .u8), u.oneCell' = true := ints_oneCell _ _

theorem two_cells {w1 : World} {x y : Int} : ∀ j u, ([Value.int .u8 x, Value.int .u8 y])[j]? = some u → (w1.alloc (.cells #[.int .u8 x, .int .u8 y] 5)).cell? ((⟨w1.heap.size, 0, none⟩ : Addr).add j) = some u := by
  intro j u hu
  match j, hu with
  | 0, hu => simp at hu; subst hu; simp [Addr.add]
  | 1, hu => simp at hu; subst hu; simp [Addr.add]
  | k + 2, hu => simp at hu

theorem two_ones (x y : Int) : ∀ u ∈ [Value.int .u8 x, Value.int .u8 y], u.oneCell' = true := by
  intro u hu; simp at hu; rcases hu with rfl | rfl <;> rfl

theorem own_end {W w1 w2 : World} {o1 : Obj} {v1 v2 : Value} {zs : List Int} {x y x' y' : Int} (hb : Below W.heap.size W w1) (hv1 : ∀ k, v1.ownBlock = some k → W.heap.size ≤ k)
    (h2 : w2.ownsRow W.heap.size 5 1 v2 (zs.length + 2) (zs.map (Value.int .u8) ++ [Value.int .u8 x, Value.int .u8 y])) (g2 : (w1.alloc o1).grownBy w2 v1.ownBlock) (ex : x = x') (ey : y = y') :
    Own w2 W.heap.size v2 (zs ++ [x', y']) ∧ Below W.heap.size W w2 := by
  subst ex ey
  refine ⟨by simpa [Own] using h2, ?_⟩
  exact (hb.alloc hb.size o1).grown g2 (by have := hb.size; simp; omega) hv1

set_option maxHeartbeats 1000000 in
theorem specPutWord_any (ad : Addr) (n cap : Nat) (zs : List Int) (x : Int) (w : World) (hn : n = zs.length) (hs : Sl w (some ad) zs) (hl : zs.length ≤ 2000000) :
    Calls Try.prog 64 #[.slice (some ad) n cap, .int .i64 x] w fun e w' => ∃ v, e = .returned v ∧ Own w' w.heap.size v (zs ++ [x / 256 % 256, x % 256]) ∧ Below w.heap.size w w' := by
  subst hn
  obtain ⟨i0, hi, hz0, hz1, hz2⟩ := info_parts Try.info5
  have hml : zs.length + 2 ≤ maxLen := by unfold maxLen; omega
  have o0 := World.ownsRow_lit (base := w.heap.size) (e := 5) (size := 1) w #[] 0 (Nat.le_refl _) (by omega) rfl
  have c0 := (hs.below ((Below.refl _ w).alloc (Nat.le_refl _) (.cells #[] 5))).cellsAt
  have ex : Hid (bits BinOp.and IntKind.i64 x 65535 / 256 % 256 = x / 256 % 256) := by rw [and16]; exact (by omega : x % 65536 / 256 % 256 = x / 256 % 256)
  have ey : Hid (bits BinOp.and IntKind.i64 x 65535 % 256 = x % 256) := by rw [and16]; exact (by omega : x % 65536 % 256 = x % 256)
  clear hs
  go_enter Try.func64, Try.ntmps64
  go_wp2_with (first | (at_builtin; refine wpList_append_own _ rfl (.tmp 7) (.tmp 8) 22 rfl w.heap.size 5 i0 (.int .u8 0) 1 1 Try.underlying22 hi hz0 hz1 hz2 rfl (by decide) (.slice (some ⟨w.heap.size, 0, none⟩) 0 0) 0 [] rfl o0 ad zs.length cap (zs.map (Value.int .u8)) rfl (by simp) c0 (ones zs) (by omega) (by omega) (by simp) ?_; intro v1 w1 o1 g1 _; simp only [Nat.zero_add, List.nil_append] at o1; have hb1 : Below w.heap.size w w1 := ((Below.refl _ w).alloc (Nat.le_refl _) (.cells #[] 5)).grown g1 (by simp) (fun k hk => by simp [Value.ownBlock] at hk; omega)) | (at_builtin; refine wpList_append_own _ rfl (.tmp 9) (.tmp 15) 22 rfl w.heap.size 5 i0 (.int .u8 0) 1 1 Try.underlying22 hi hz0 hz1 hz2 rfl (by decide) v1 zs.length (zs.map (Value.int .u8)) rfl (o1.alloc _) ⟨w1.heap.size, 0, none⟩ 2 2 [.int .u8 (bits BinOp.and IntKind.i64 x 65535 / 256 % 256), .int .u8 (bits BinOp.and IntKind.i64 x 65535 % 256)] rfl (by simp) two_cells (two_ones _ _) (by omega) (by omega) (by have := hb1.size; simp; omega) ?_; intro v2 w2 o2 g2 _))
  go_ret
  exact ⟨_, rfl, own_end hb1 (fun k hk => (o1.lt k hk).1) o2 g2 ex.out ey.out⟩

end Go.Proofs.Ytimgohnnapaafaa
