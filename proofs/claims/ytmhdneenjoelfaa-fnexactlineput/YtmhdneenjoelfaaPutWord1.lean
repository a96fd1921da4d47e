/- PutWord, of the program and of its model: the same bytes. -/
import Derived.Test.YtmhdneenjoelfaaBys
import Derived.Test.YtmhdneenjoelfaaBits
namespace Go.Proofs.Ytmhdneenjoelfaa
open Go.RowKit

theorem Sl.cellsAt {w : World} {ad : Addr} {zs : List Int} (h : Sl w (some ad) zs) : ∀ j u, (zs.map (Value.int .u8))[j]? = some u → w.cell? (ad.add j) = some u := by
  intro j u hu
  rcases h with h | ⟨b, off, ha, _, hc⟩
  · subst h; simp at hu
  · obtain rfl : ad = ⟨b, off, none⟩ := by simpa using ha
    have hj : j < zs.length := by
      have := (List.getElem?_eq_some_iff.1 hu).1
      simpa using this
    have e : Addr.add ⟨b, off, none⟩ j = ⟨b, off + j, none⟩ := by
      by_cases h0 : j = 0
      · subst h0; simp [Addr.add]
      · simp [Addr.add, h0]
    rw [e, hc j hj]
    rw [← hu]
    simp [hj]

theorem ones (zs : List Int) : ∀ u ∈ zs.map (Value.int .u8), u.oneCell' = true := ints_oneCell _ _

theorem two_cells {w1 : World} {x y : Int} : ∀ j u, ([Value.int .u8 x, Value.int .u8 y])[j]? = some u → (w1.alloc (.cells #[.int .u8 x, .int .u8 y] 5)).cell? ((⟨w1.heap.size, 0, none⟩ : Addr).add j) = some u := by
  intro j u hu
  match j, hu with
  | 0, hu => simp at hu; subst hu; simp [Addr.add]
  | 1, hu => simp at hu; subst hu; simp [Addr.add]
  | k + 2, hu => simp at hu

theorem two_ones (x y : Int) : ∀ u ∈ [Value.int .u8 x, Value.int .u8 y], u.oneCell' = true := by
  intro u hu; simp at hu; rcases hu with rfl | rfl <;> rfl

theorem own_end {W w1 w2 : World} {o1 : Obj} {v1 v2 : Value} {zs : List Int} {x y x' y' : Int} (hb : Below W.heap.size W w1) (hv1 : ∀ k, v1.ownBlock = some k → W.heap.size ≤ k)
    (h2 : w2.ownsRow W.heap.size 5 1 v2 (zs.length + 2) (zs.map (Value.int .u8) ++ [Value.int .u8 x, Value.int .u8 y])) (g2 : (w1.alloc o1).grownBy w2 v1.ownBlock) (ex : x = x') (ey : y = y') :
    Own w2 W.heap.size v2 (zs ++ [x', y']) ∧ Below W.heap.size W w2 := by
  subst ex ey
  refine ⟨by simpa [Own] using h2, ?_⟩
  exact (hb.alloc hb.size o1).grown g2 (by have := hb.size; simp; omega) hv1

end Go.Proofs.Ytmhdneenjoelfaa
