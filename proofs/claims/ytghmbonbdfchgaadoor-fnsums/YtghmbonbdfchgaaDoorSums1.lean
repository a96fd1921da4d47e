/- The law of sums: what it draws and looks at. -/
import Derived.Test.YtghmbonbdfchgaaDoorDraw1
import Derived.Test.YtghmbonbdfchgaaDoorCrc1
import Derived.Test.YtghmbonbdfchgaaDoorSumsN
import Derived.Test.YtghmbonbdfchgaaDoorPutWord1
import Derived.Test.YtghmbonbdfchgaaDoorSteps
namespace Go.Proofs.YtghmbonbdfchgaaDoor
open Go.RowKit

set_option maxHeartbeats 1000000 in
theorem drawCrc_any (w : World) (a : Option Addr) (n cap : Nat) (zs : List Int) (hn : n = zs.length) (hs : Sl w a zs) (hr : ∀ z ∈ zs, 0 ≤ z ∧ z ≤ 255) (hl : zs.length ≤ 1048576) :
    Calls Tryd.prog 5 #[.slice a n cap] w fun e w' => ∃ (ad : Addr) (n c : Nat) (bs : List Int), e = .returned (.slice (some ad) n c) ∧ n = bs.length ∧ n ≤ 20 ∧ Own w' w.heap.size (.slice (some ad) n c) bs ∧ (∀ z ∈ bs, 0 ≤ z ∧ z ≤ 255) ∧ Below w.heap.size w w' := by
  subst hn
  go_enter Tryd.func5, Tryd.ntmps5
  go_wp2_with fail
  refine (l1New_any w a _ cap zs rfl hs hr hl).mono ?_
  rintro e w1 ⟨rfl, C1, _⟩
  clear hs hr
  have h1 : w.heap.size < w1.heap.size := C1.hi
  go_wp2_with fail
  refine (l1Some_any w a cap zs _ _ C1).mono ?_
  rintro e w2 ⟨ad, m, c, bs, rfl, hm, hm20, o2, hr2, C2, _⟩
  have R : Hid (m = bs.length ∧ m ≤ 20 ∧ Own w2 w.heap.size (.slice (some ad) m c) bs ∧ (∀ z ∈ bs, 0 ≤ z ∧ z ≤ 255) ∧ Below w.heap.size w w2) := ⟨hm, hm20, o2.mono (by omega), hr2, C2.bel⟩
  clear hm o2 C1 C2
  go_wp2
  go_ret
  exact ⟨ad, m, c, bs, rfl, R.out⟩

set_option maxHeartbeats 1000000 in
theorem at_any (w : World) (a : Option Addr) (n cap : Nat) (zs : List Int) (j : Int) (hj0 : 0 ≤ j) (hj : j ≤ 100) (hn : n = zs.length) (hs : Sl w a zs) (hr : ∀ z ∈ zs, 0 ≤ z ∧ z ≤ 255) (hl : zs.length ≤ 1048576) :
    Calls Tryd.prog 8 #[.slice a n cap, .int .i64 j] w fun e w' => ∃ x : Int, e = .returned (.int .i64 x) ∧ 0 ≤ x ∧ x ≤ 255 ∧ w' = w := by
  subst hn
  obtain ⟨k, rfl⟩ := Int.eq_ofNat_of_zero_le hj0
  by_cases hlt : k < zs.length
  · obtain ⟨b, off, rfl, _, hc⟩ := cell_at hs hlt
    have rg := get_range hr k
    generalize zs.getD k 0 = z at *
    have hi' : (k : Int) < (zs.length : Int) := by omega
    clear hs hr
    go_enter Tryd.func8, Tryd.ntmps8
    go_wp2
    go_ret
    exact ⟨z, rfl, rg.1, rg.2, rfl⟩
  · have hi' : ¬ (k : Int) < (zs.length : Int) := by omega
    clear hs hr
    go_enter Tryd.func8, Tryd.ntmps8
    go_wp2
    go_ret
    exact ⟨_, rfl, by omega, by omega, rfl⟩

theorem own_row {w : World} {base : Nat} {v : Value} {zs : List Int} (h : Own w base v zs) (h0 : 0 < zs.length) : ∃ g c, v = .slice (some ⟨g, 0, none⟩) zs.length c ∧ base ≤ g ∧ zs.length ≤ c := by
  obtain ⟨_, h2⟩ := h
  rcases h2 with ⟨h2, h3⟩ | ⟨g, cap', cur, hv, hg, _, hle, _⟩
  · omega
  · exact ⟨g, cap', hv, hg, hle⟩

theorem range_two {bs : List Int} {x y : Int} (hr : ∀ z ∈ bs, 0 ≤ z ∧ z ≤ 255) (hx : 0 ≤ x ∧ x ≤ 255) (hy : 0 ≤ y ∧ y ≤ 255) : ∀ z ∈ bs ++ [x, y], 0 ≤ z ∧ z ≤ 255 := by
  intro z hz
  rcases List.mem_append.1 hz with h | h
  · exact hr z h
  · simp at h
    rcases h with rfl | rfl
    · exact hx
    · exact hy

theorem one_end {W w1 w2 : World} {o1 : Obj} {v1 v2 : Value} {zs : List Int} {x : Int} (hb : Below W.heap.size W w1) (hv1 : ∀ k, v1.ownBlock = some k → W.heap.size ≤ k)
    (h2 : w2.ownsRow W.heap.size 5 1 v2 (zs.length + 1) (zs.map (Value.int .u8) ++ [Value.int .u8 x])) (g2 : (w1.alloc o1).grownBy w2 v1.ownBlock) :
    Own w2 W.heap.size v2 (zs ++ [x]) ∧ Below W.heap.size W w2 := by
  refine ⟨by simpa [Own] using h2, ?_⟩
  exact (hb.alloc hb.size o1).grown g2 (by have := hb.size; simp; omega) hv1

/-- The row that is turned: a cell of it, as the walk wants it. -/
theorem own_at {w : World} {base g c i : Nat} {zs : List Int} (h : Own w base (.slice (some ⟨g, 0, none⟩) zs.length c) zs) (hi : i < zs.length) :
    w.cell? ⟨g, i, none⟩ = some (.int .u8 (zs.getD i 0)) ∧ w.frozen? ⟨g, i, none⟩ = false ∧
    (∀ y : Int, Own (w.setCell ⟨g, i, none⟩ (.int .u8 y)) base (.slice (some ⟨g, 0, none⟩) zs.length c) (zs.set i y) ∧ w.grownBy (w.setCell ⟨g, i, none⟩ (.int .u8 y)) (some g)) := by
  refine ⟨?_, World.ownsRow.frozenAt h i, fun y => ?_⟩
  · rw [World.ownsRow.cellAt h i (by omega), List.getElem?_map, List.getElem?_eq_getElem hi, List.getD_eq_getElem?_getD, List.getElem?_eq_getElem hi]
    rfl
  · have s := World.ownsRow.stored h i (.int .u8 y)
    refine ⟨?_, s.2⟩
    have e : (zs.map (Value.int .u8)).set i (.int .u8 y) = (zs.set i y).map (Value.int .u8) := by rw [List.map_set]
    rw [e] at s
    simpa [Own] using s.1

theorem nat_below {y K : Int} {n : Nat} (hK : y % (8 * (n : Int)) = K) (hn : 0 < n) : ∃ kk : Nat, K = (kk : Int) ∧ kk / 8 < n := by
  have h1 : 0 ≤ K := by rw [← hK]; exact Int.emod_nonneg _ (by omega)
  have h2 : K < 8 * (n : Int) := by rw [← hK]; exact Int.emod_lt_of_pos _ (by omega)
  obtain ⟨kk, rfl⟩ := Int.eq_ofNat_of_zero_le h1
  exact ⟨kk, rfl, by omega⟩

theorem bit_nat (k : Nat) : ∃ b : Nat, 0 < b ∧ b < 256 ∧ (2 : Int) ^ (k % 8) % 256 = (b : Int) := by
  have h : k % 8 = 0 ∨ k % 8 = 1 ∨ k % 8 = 2 ∨ k % 8 = 3 ∨ k % 8 = 4 ∨ k % 8 = 5 ∨ k % 8 = 6 ∨ k % 8 = 7 := by omega
  rcases h with h | h | h | h | h | h | h | h <;> rw [h]
  · exact ⟨1, by decide, by decide, by decide⟩
  · exact ⟨2, by decide, by decide, by decide⟩
  · exact ⟨4, by decide, by decide, by decide⟩
  · exact ⟨8, by decide, by decide, by decide⟩
  · exact ⟨16, by decide, by decide, by decide⟩
  · exact ⟨32, by decide, by decide, by decide⟩
  · exact ⟨64, by decide, by decide, by decide⟩
  · exact ⟨128, by decide, by decide, by decide⟩

/-- A byte with one bit turned is another byte. -/
theorem flip_bd (z : Int) (k : Nat) (h0 : 0 ≤ z) (h1 : z ≤ 255) : (0 ≤ bits BinOp.xor IntKind.u8 z (2 ^ (k % 8) % 256) ∧ bits BinOp.xor IntKind.u8 z (2 ^ (k % 8) % 256) ≤ 255) ∧ z ≠ bits BinOp.xor IntKind.u8 z (2 ^ (k % 8) % 256) := by
  obtain ⟨b, hb0, hb1, e⟩ := bit_nat k
  rw [e]
  obtain ⟨n, rfl⟩ := Int.eq_ofNat_of_zero_le h0
  rw [u8_xor_nat n b (by omega) hb1]
  have hx : n ^^^ b < 2 ^ 8 := Nat.xor_lt_two_pow (by omega) hb1
  refine ⟨by omega, fun he => ?_⟩
  have he' : n ^^^ 0 = n ^^^ b := by rw [Nat.xor_zero]; omega
  have := xor_cl he'
  omega

theorem getD_set (zs : List Int) (i j : Nat) (y : Int) (hi : i < zs.length) : (zs.set i y).getD j 0 = if j = i then y else zs.getD j 0 := by
  rw [List.getD_eq_getElem?_getD, List.getD_eq_getElem?_getD, List.getElem?_set]
  by_cases e : i = j
  · subst e
    rw [if_pos rfl, if_pos hi, if_pos rfl]
    rfl
  · rw [if_neg e, if_neg (fun h => e h.symm)]

/-- One byte turned: both sums tell it. -/
theorem turned_told (bs : List Int) (hr : ∀ z ∈ bs, 0 ≤ z ∧ z ≤ 255) (i : Nat) (y : Int) (hi : i < bs.length) (hy : 0 ≤ y ∧ y ≤ 255) (hne : bs.getD i 0 ≠ y) :
    (∀ z ∈ bs.set i y, 0 ≤ z ∧ z ≤ 255) ∧ crcTo (bs.set i y) (bs.set i y).length ≠ crcTo bs bs.length ∧ lres (bs.set i y) ≠ lres bs := by
  have hr' : ∀ z ∈ bs.set i y, 0 ≤ z ∧ z ≤ 255 := fun z hz => by
    rcases List.mem_or_eq_of_mem_set hz with h | h
    · exact hr z h
    · rw [h]; exact hy
  refine ⟨hr', ?_, lres_ne bs i y hi (get_range hr i) hy hne⟩
  rw [List.length_set]
  refine fun e => crcTo_ne bs (bs.set i y) (get_range hr) (get_range hr') i ?_ (fun j hj => ?_) bs.length hi e.symm
  · rw [getD_set bs i i y hi, if_pos rfl]; exact hne
  · rw [getD_set bs i j y hi, if_neg hj]

theorem lres_bd (zs : List Int) : 0 ≤ lres zs ∧ lres zs ≤ 255 := by unfold lres; omega

end Go.Proofs.YtghmbonbdfchgaaDoor
