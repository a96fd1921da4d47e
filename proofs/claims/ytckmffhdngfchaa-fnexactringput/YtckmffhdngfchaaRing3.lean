/- RingPut of the program. -/
import Derived.Test.YtckmffhdngfchaaRing2
import Derived.Deep.Cut
import Derived.Deep.CutRange
import Derived.Deep.DeepCutAuto
import Derived.Deep.RegionWith
namespace Go.Proofs.Ytckmffhdngfchaa
open Go.RowKit

/-- What a ring holds when bs is put to zs, and how many are lost. -/
def putR (zs bs : List Int) : List Int := zs ++ bs.take (300 - zs.length)

def putK (zs bs : List Int) : Nat := min bs.length (300 - zs.length)

theorem putR_length (zs bs : List Int) : (putR zs bs).length = zs.length + putK zs bs := by simp [putR, putK, Nat.min_comm]

/-- What RingPut ends with. -/
def PutEnds (zs bs : List Int) (w : World) (e : Ending) (w' : World) : Prop :=
  ∃ a c, e = .returned (.tuple #[.agg #[.slice a (zs.length + putK zs bs) c], .int .i64 ((bs.length : Int) - (putK zs bs : Nat))]) ∧
    Own w' w.heap.size (.slice a (zs.length + putK zs bs) c) (putR zs bs) ∧ Below w.heap.size w w'

/-- What RingPut of the program ends with. -/
def PutEndsI (zs bs : List Int) (w : World) (e : Ending) (w' : World) : Prop :=
  ∃ g, e = .returned (.tuple #[.agg #[.slice (some ⟨g, 0, none⟩) (zs.length + putK zs bs) (zs.length + putK zs bs)], .int .i64 ((bs.length : Int) - (putK zs bs : Nat))]) ∧
    Own w' w.heap.size (.slice (some ⟨g, 0, none⟩) (zs.length + putK zs bs) (zs.length + putK zs bs)) (putR zs bs) ∧ Below w.heap.size w w'

theorem PutEndsI.weak {zs bs : List Int} {w w' : World} {e : Ending} (h : PutEndsI zs bs w e w') : PutEnds zs bs w e w' := by
  obtain ⟨g, h1, h2, h3⟩ := h
  exact ⟨_, _, h1, h2, h3⟩

theorem splice2 {α : Type} (Z X Y : List α) (n : Nat) (hx : X.length = n) (hz : Z.length = n + Y.length) : splice (splice Z 0 X) n Y = X ++ Y := by
  subst hx
  simp [splice, List.drop_append, hz]

theorem src_of {w : World} {a : Option Addr} {zs : List Int} {X : List Value} (hs : Sl w a zs) (hX : X = zs.map (Value.int .u8)) (h : 0 < X.length) : ∃ ad, a = some ad ∧ ∀ j v, X[j]? = some v → w.cell? (ad.add j) = some v := by
  subst hX
  rcases hs with h0 | ⟨b, off, ha, hb, hc⟩
  · rw [h0] at h; simp at h
  · exact ⟨⟨b, off, none⟩, ha, Sl.cellsAt (.inr ⟨b, off, rfl, hb, hc⟩)⟩

theorem Sl.take {w : World} {a : Option Addr} {zs : List Int} (h : Sl w a zs) (k : Nat) : Sl w a (zs.take k) := by
  rcases h with h0 | ⟨b, off, ha, hb, hc⟩
  · subst h0; exact .inl (by simp)
  · refine .inr ⟨b, off, ha, hb, fun i hi => ?_⟩
    simp only [List.length_take] at hi
    rw [hc i (by omega), List.getD_eq_getElem?_getD, List.getD_eq_getElem?_getD, List.getElem?_take, if_pos (by omega)]

theorem putK_big {zs bs : List Int} (h : ¬ zs.length ≤ 300) : putK zs bs = 0 ∧ putR zs bs = zs := by
  have e : 300 - zs.length = 0 := by omega
  simp [putK, putR, e]

set_option maxHeartbeats 2000000 in
theorem implRingPut_big (a : Option Addr) (ad : Option Addr) (n m cap cap' : Nat) (zs bs : List Int) (w : World) (hn : n = zs.length) (hm : m = bs.length) (hs : Sl w a zs) (hl : zs.length ≤ 2000000) (h : ¬ zs.length ≤ 300) :
    Calls Try.prog 8 #[.agg #[.slice a n cap], .slice ad m cap'] w fun e w' => PutEndsI zs bs w e w' := by
  have H3 : Hid (¬ n ≤ 300) := by show ¬ n ≤ 300; omega
  have HN : Hid (n = zs.length) := hn
  have HM : Hid (m = bs.length) := hm
  have HK : Hid (putK zs bs = 0 ∧ putR zs bs = zs) := putK_big h
  clear h
  have B0 : Below w.heap.size w ((w.alloc (.cells #[.slice a n cap] 25)).alloc (.cells #[.slice none 0 0] 25)) := ((Below.refl _ w).alloc (Nat.le_refl _) _).alloc (by simp) _
  have c0 : ((w.alloc (.cells #[.slice a n cap] 25)).alloc (.cells #[.slice none 0 0] 25)).cell? ⟨w.heap.size, 0, none⟩ = some (.slice a n cap) := by simp [go_sem]
  have d0 : ((w.alloc (.cells #[.slice a n cap] 25)).alloc (.cells #[.slice none 0 0] 25)).cell? ⟨w.heap.size + 1, 0, none⟩ = some (.slice none 0 0) := by simp [go_sem]
  have f0 : ((w.alloc (.cells #[.slice a n cap] 25)).alloc (.cells #[.slice none 0 0] 25)).frozen? ⟨w.heap.size + 1, 0, none⟩ = false := by simp [go_sem]
  have Hs : Hid (Sl w a zs) := hs
  clear hs hn hm
  go_enter Try.func8, Try.ntmps8
  go_wp2_with fail
  refine (implRingOk_no _ _ _ _ H3.out).mono ?_
  rintro e w1 ⟨rfl, b1'⟩
  have b1 := bel_next B0 b1'
  have c1 := keepc b1' c0
  have d1 := keepc b1' d0
  have f1 := keepf b1' d0 f0
  clear b1' B0 c0 d0 f0
  go_wp2_with fail
  refine (copyOf_any a n cap zs _ HN.out (Hs.out.below b1) hl).mono ?_
  rintro e w2 ⟨g2, rfl, o2, b2'⟩
  have b2 := bel_next b1 b2'
  have d2 := keepc b2' d1
  have f2 := keepf b2' d1 f1
  have hne : g2 ≠ w.heap.size + 1 := by
    have l1 := (o2.lt g2 rfl).1
    have l2 := World.block_lt_of_cell? _ _ d1
    intro e; subst e
    simp at l2
    omega
  have HO : Hid (Own w2 w1.heap.size (.slice (some ⟨g2, 0, none⟩) n n) zs) := o2
  have hsz : w.heap.size ≤ w1.heap.size := b1.size
  clear b2' b1 c1 d1 f1 o2
  go_wp2_with fail
  refine bodyPost_ret (v := .tuple #[.agg #[.slice (some ⟨g2, 0, none⟩) n n], .int .i64 (m : Nat)]) (by simp [results, Try.results8, go_sem, d2]) rfl ?_
  unfold PutEndsI
  rw [HK.out.1, HK.out.2, ← HN.out, ← HM.out]
  refine ⟨g2, by simp, ?_, ?_⟩
  · exact (HO.out.setc hne).mono' hsz
  · exact b2.setCell (by show w.heap.size ≤ w.heap.size + 1; omega) _

set_option maxHeartbeats 2000000 in
theorem implRingPut_ok (a ad : Option Addr) (n m cap cap' : Nat) (zs bs : List Int) (w : World) (hn : n = zs.length) (hm : m = bs.length) (hs : Sl w a zs) (ht : Sl w ad bs) (hl : bs.length ≤ 2000000) (h : n ≤ 300) :
    Calls Try.prog 8 #[.agg #[.slice a n cap], .slice ad m cap'] w fun e w' => PutEndsI zs bs w e w' := by
  have HN : Hid (n = zs.length) := hn
  have HM : Hid (m = bs.length) := hm
  obtain ⟨k, hk⟩ : ∃ k, k = putK zs bs := ⟨_, rfl⟩
  have HK : Hid (k = putK zs bs) := hk
  have hkm : min (m : Int) (300 - (n : Int)) = (k : Int) := by rw [hk]; unfold putK; rw [← hn, ← hm]; omega
  have hkb : k ≤ 300 - n ∧ k ≤ m := by rw [hk]; unfold putK; rw [← hn, ← hm]; omega
  have B0 : Below w.heap.size w ((w.alloc (.cells #[.slice a n cap] 25)).alloc (.cells #[.slice none 0 0] 25)) := ((Below.refl _ w).alloc (Nat.le_refl _) _).alloc (by simp) _
  have c0 : ((w.alloc (.cells #[.slice a n cap] 25)).alloc (.cells #[.slice none 0 0] 25)).cell? ⟨w.heap.size, 0, none⟩ = some (.slice a n cap) := by simp [go_sem]
  have d0 : ((w.alloc (.cells #[.slice a n cap] 25)).alloc (.cells #[.slice none 0 0] 25)).cell? ⟨w.heap.size + 1, 0, none⟩ = some (.slice none 0 0) := by simp [go_sem]
  have f0 : ((w.alloc (.cells #[.slice a n cap] 25)).alloc (.cells #[.slice none 0 0] 25)).frozen? ⟨w.heap.size + 1, 0, none⟩ = false := by simp [go_sem]
  have Hs : Hid (Sl w a zs) := hs
  have Ht : Hid (Sl w ad bs) := ht
  have hml : m ≤ 2000000 := by omega
  clear hs ht hn hm hk
  go_enter Try.func8, Try.ntmps8
  go_wp2_with fail
  refine (implRingOk_yes _ _ _ _ h).mono ?_
  rintro e w1 ⟨rfl, b1'⟩
  have b1 := bel_next B0 b1'
  have c1 := keepc b1' c0
  have d1 := keepc b1' d0
  have f1 := keepf b1' d0 f0
  clear b1' B0 c0 d0 f0
  have hmk := run_make_row' (P := Try.prog) 22 5 (.int .u8 0) 1 Try.underlying22 Try.info5 rfl .i64 .i64 (n + k) (by omega) (by omega)
  simp only [Int.natCast_add] at hmk
  obtain ⟨Z, hZ, hZh⟩ := made_row w1 (n + k)
  have HZ : Hid (Z.length = n + k) := hZ
  have HZh : Hid ((w1.alloc (.cells (madeCells #[.int .u8 0] (n + k)) 5)).heap[w1.heap.size]? = some (.cells Z.toArray 5 (0, 0))) := hZh
  have b2' := bel_alloc w1 (.cells (madeCells #[.int .u8 0] (n + k)) 5)
  have b2 := bel_next b1 b2'
  have s2 : (Hid (Sl _ a zs)) := Hs.out.below b2
  obtain ⟨X, hX⟩ : ∃ X, X = zs.map (Value.int .u8) := ⟨_, rfl⟩
  have HX : Hid (X = zs.map (Value.int .u8)) := hX
  have hXl : Hid (X.length = n) := by show X.length = n; rw [hX, HN.out]; simp
  have X1 : ∀ v ∈ X, v.oneCell' = true := by rw [hX]; exact ones zs
  obtain ⟨Y, hY⟩ : ∃ Y, Y = (bs.take k).map (Value.int .u8) := ⟨_, rfl⟩
  have HY : Hid (Y = (bs.take k).map (Value.int .u8)) := hY
  have hYl : Hid (Y.length = k) := by show Y.length = k; rw [hY]; have := HM.out; simp; omega
  have Y1 : ∀ v ∈ Y, v.oneCell' = true := by rw [hY]; exact ones _
  have l1 : w.heap.size + 1 < w1.heap.size := World.block_lt_of_cell? _ _ d1
  have c2 := keepc b2' c1
  have HB1 : Hid (Below w.heap.size w w1) := b1
  clear hZ hZh hX hY b1
  go_wp2_with (first
    | ((refine wpList_copy_splice rfl (.tmp 30) (.tmp 32) 22 22 rfl 5 Try.underlying22 sz5 _ _ _ _ _ _ rfl rfl w1.heap.size 0 Z 5 HZh.out X (by rw [hXl.out]; simp) (fun h => ⟨rfl, src_of s2.out HX.out h⟩) (by rw [hXl.out, HZ.out]; omega) X1 w1.heap.size _ b2' (Nat.le_refl _) ?_); intro w3 H3 b3; have c3 := keepc b3 c1; have d3 := keepc b3 d1; have f3 := keepf b3 d1 f1; have t3 : Hid (Sl w3 ad bs) := Ht.out.below (bel_next HB1.out b3))
    | ((refine wpList_copy_splice rfl (.tmp 38) (.tmp 39) 22 22 rfl 5 Try.underlying22 sz5 (if k = 0 then some ⟨w1.heap.size, 0, none⟩ else some ⟨w1.heap.size, n, none⟩) ad k k m cap' rfl rfl w1.heap.size n _ 5 H3.out Y (by rw [hYl.out]; show k = min _ _; omega) (fun h => ⟨by rw [if_neg (by have := hYl.out; omega)], src_of (t3.out.take k) HY.out h⟩) (by rw [length_splice _ _ _ (by rw [hXl.out, HZ.out]; omega), HZ.out, hYl.out]; omega) Y1 w1.heap.size _ b3 (Nat.le_refl _) ?_); generalize (if k = 0 then some (⟨w1.heap.size, 0, none⟩ : Addr) else some ⟨w1.heap.size, n, none⟩) = zz; intro w4 H4 b4; have d4 := keepc b4 d1; have f4 := keepf b4 d1 f1))
  have G4 : Hid (w4.heap[w1.heap.size]? = some (.cells (X ++ Y).toArray 5 (0, 0))) := by have := H4.out; rw [splice2 Z X Y n hXl.out (by rw [HZ.out, hYl.out])] at this; exact this
  have O4 : Hid (Own w4 w.heap.size (.slice (some ⟨w1.heap.size, 0, none⟩) (n + k) (n + k)) (putR zs bs)) := by
    refine Own.ofHeap ?_ (by rw [putR_length, ← HN.out, ← HK.out]) (by omega) (by unfold maxLen; omega)
    have e : (putR zs bs).map (Value.int .u8) = X ++ Y := by
      rw [HX.out, HY.out, ← List.map_append]
      unfold putR
      have e2 : bs.take (300 - zs.length) = bs.take k := by
        rw [HK.out]; unfold putK
        rcases Nat.le_total bs.length (300 - zs.length) with hh | hh
        · rw [Nat.min_eq_left hh, List.take_of_length_le hh, List.take_of_length_le (Nat.le_refl _)]
        · rw [Nat.min_eq_right hh]
      rw [e2]
    rw [e]; exact G4.out
  have B4 : Hid (Below w.heap.size w w4) := bel_next HB1.out b4
  clear H4 b4 G4
  refine bodyPost_ret (v := .tuple #[.agg #[.slice (some ⟨w1.heap.size, 0, none⟩) (n + k) (n + k)], .int .i64 ((m : Int) - (k : Int))]) (by simp [results, Try.results8, go_sem, d4]) rfl ?_
  unfold PutEndsI
  rw [← HN.out, ← HM.out, ← HK.out]
  refine ⟨w1.heap.size, rfl, ?_, ?_⟩
  · exact O4.out.setc (by omega)
  · exact B4.out.setCell (by show w.heap.size ≤ w.heap.size + 1; omega) _

theorem implRingPut_str (a ad : Option Addr) (n m cap cap' : Nat) (zs bs : List Int) (w : World) (hn : n = zs.length) (hm : m = bs.length) (hs : Sl w a zs) (ht : Sl w ad bs) (hz : zs.length ≤ 2000000) (hl : bs.length ≤ 2000000) :
    Calls Try.prog 8 #[.agg #[.slice a n cap], .slice ad m cap'] w fun e w' => PutEndsI zs bs w e w' := by
  by_cases h : zs.length ≤ 300
  · exact implRingPut_ok a ad n m cap cap' zs bs w hn hm hs ht hl (by omega)
  · exact implRingPut_big a ad n m cap cap' zs bs w hn hm hs hz h

theorem implRingPut_any (a ad : Option Addr) (n m cap cap' : Nat) (zs bs : List Int) (w : World) (hn : n = zs.length) (hm : m = bs.length) (hs : Sl w a zs) (ht : Sl w ad bs) (hz : zs.length ≤ 2000000) (hl : bs.length ≤ 2000000) :
    Calls Try.prog 8 #[.agg #[.slice a n cap], .slice ad m cap'] w fun e w' => PutEnds zs bs w e w' := by
  refine (implRingPut_str a ad n m cap cap' zs bs w hn hm hs ht hz hl).mono ?_
  exact fun e w' h => h.weak

end Go.Proofs.Ytckmffhdngfchaa
