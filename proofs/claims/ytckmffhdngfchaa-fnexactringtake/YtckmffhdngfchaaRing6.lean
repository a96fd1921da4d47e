/- RingTake of the program. -/
import Derived.Test.YtckmffhdngfchaaRing3
namespace Go.Proofs.Ytckmffhdngfchaa
open Go.RowKit

/-- How many bytes are taken. -/
def takeK (zs : List Int) (x : Int) : Nat := if zs.length ≤ 300 then (max 0 (min x zs.length)).toNat else 0

theorem takeK_le (zs : List Int) (x : Int) : takeK zs x ≤ zs.length := by unfold takeK; split <;> omega

/-- Two rows that lie apart. -/
def Apart (v1 v2 : Value) : Prop := (v1.ownBlock = none ∨ v1.ownBlock ≠ v2.ownBlock) ∧ (v2.ownBlock = none ∨ v2.ownBlock ≠ v1.ownBlock)

/-- What RingTake ends with. -/
def TakeEnds (zs : List Int) (x : Int) (w : World) (e : Ending) (w' : World) : Prop :=
  ∃ a g, e = .returned (.tuple #[.slice a (takeK zs x) (takeK zs x), .agg #[.slice (some ⟨g, 0, none⟩) (zs.length - takeK zs x) (zs.length - takeK zs x)]]) ∧
    Own w' w.heap.size (.slice a (takeK zs x) (takeK zs x)) (zs.take (takeK zs x)) ∧ Own w' w.heap.size (.slice (some ⟨g, 0, none⟩) (zs.length - takeK zs x) (zs.length - takeK zs x)) (zs.drop (takeK zs x)) ∧
    Apart (.slice a (takeK zs x) (takeK zs x)) (.slice (some ⟨g, 0, none⟩) (zs.length - takeK zs x) (zs.length - takeK zs x)) ∧ Below w.heap.size w w'

/-- The same, where the ring is right: what is taken has a place. -/
def TakeEndsI (zs : List Int) (x : Int) (w : World) (e : Ending) (w' : World) : Prop :=
  ∃ g1 g, e = .returned (.tuple #[.slice (some ⟨g1, 0, none⟩) (takeK zs x) (takeK zs x), .agg #[.slice (some ⟨g, 0, none⟩) (zs.length - takeK zs x) (zs.length - takeK zs x)]]) ∧
    Own w' w.heap.size (.slice (some ⟨g1, 0, none⟩) (takeK zs x) (takeK zs x)) (zs.take (takeK zs x)) ∧ Own w' w.heap.size (.slice (some ⟨g, 0, none⟩) (zs.length - takeK zs x) (zs.length - takeK zs x)) (zs.drop (takeK zs x)) ∧
    Apart (.slice (some ⟨g1, 0, none⟩) (takeK zs x) (takeK zs x)) (.slice (some ⟨g, 0, none⟩) (zs.length - takeK zs x) (zs.length - takeK zs x)) ∧ Below w.heap.size w w'

theorem TakeEndsI.weak {zs : List Int} {x : Int} {w w' : World} {e : Ending} (h : TakeEndsI zs x w e w') : TakeEnds zs x w e w' := by
  obtain ⟨g1, g, h⟩ := h
  exact ⟨_, g, h⟩

theorem own_nil (w : World) (base : Nat) : Own w base (.slice none 0 0) [] := ⟨rfl, .inl ⟨rfl, rfl⟩⟩

theorem Sl.drop {w : World} {g : Nat} {zs : List Int} (h : Sl w (some ⟨g, 0, none⟩) zs) (k : Nat) : Sl w (some ⟨g, k, none⟩) (zs.drop k) := by
  rcases h with h0 | ⟨b, off, ha, hb, hc⟩
  · subst h0; exact .inl (by simp)
  · simp only [Option.some.injEq, Addr.mk.injEq] at ha
    obtain ⟨rfl, rfl, _⟩ := ha
    refine .inr ⟨g, k, rfl, hb, fun i hi => ?_⟩
    simp only [List.length_drop] at hi
    have := hc (k + i) (by omega)
    rw [Nat.zero_add] at this
    rw [this, List.getD_eq_getElem?_getD, List.getD_eq_getElem?_getD, List.getElem?_drop]

theorem sl_cut {w : World} {g n k : Nat} {zs : List Int} (h : Sl w (some ⟨g, 0, none⟩) zs) (hn : n = zs.length) : Sl w (if n - k = 0 then some ⟨g, 0, none⟩ else some ⟨g, k, none⟩) (zs.drop k) := by
  by_cases e : n - k = 0
  · rw [if_pos e]; exact .inl (List.drop_eq_nil_of_le (by omega))
  · rw [if_neg e]; exact h.drop k

set_option maxHeartbeats 2000000 in
theorem implRingTake_big (a : Option Addr) (n cap : Nat) (zs : List Int) (x : Int) (w : World) (hn : n = zs.length) (hs : Sl w a zs) (hl : zs.length ≤ 2000000) (h : ¬ n ≤ 300) :
    Calls Try.prog 12 #[.agg #[.slice a n cap], .int .i64 x] w fun e w' => TakeEnds zs x w e w' := by
  have H3 : Hid (¬ n ≤ 300) := h
  have HN : Hid (n = zs.length) := hn
  have HK : Hid (takeK zs x = 0) := by show takeK zs x = 0; unfold takeK; rw [if_neg (by omega)]
  have B0 : Below w.heap.size w ((w.alloc (.cells #[.slice a n cap] 25)).alloc (.cells #[.slice none 0 0] 25)) := ((Below.refl _ w).alloc (Nat.le_refl _) _).alloc (by simp) _
  have x0 : Box ((w.alloc (.cells #[.slice a n cap] 25)).alloc (.cells #[.slice none 0 0] 25)) w.heap.size 25 (.slice a n cap) := (Box.new w _ _).below (bel_alloc _ _)
  have r0 : Box ((w.alloc (.cells #[.slice a n cap] 25)).alloc (.cells #[.slice none 0 0] 25)) (w.heap.size + 1) 25 (.slice none 0 0) := by
    have := Box.new (w.alloc (.cells #[.slice a n cap] 25)) (.slice none 0 0) 25; simpa using this
  have Hs : Hid (Sl w a zs) := hs
  clear hs hn h
  go_enter Try.func12, Try.ntmps12
  go_wp2_with fail
  refine (implRingOk_no _ _ _ _ H3.out).mono ?_
  rintro e w1 ⟨rfl, b1'⟩
  have b1 := bel_next B0 b1'
  have x1 := (x0.below b1').cell
  have r1 := r0.below b1'
  clear b1' B0 x0 r0
  go_wp2_with fail
  refine (copyOf_any a n cap zs _ HN.out (Hs.out.below b1) hl).mono ?_
  rintro e w2 ⟨g2, rfl, o2, b2'⟩
  have b2 := bel_next b1 b2'
  have r2 := r1.below b2'
  have cr := r2.cell
  have fr := r2.fro
  have HO : Hid (Own w2 w1.heap.size (.slice (some ⟨g2, 0, none⟩) n n) zs ∧ Box w2 (w.heap.size + 1) 25 (.slice none 0 0)) := ⟨o2, r2⟩
  have hsz : w.heap.size ≤ w1.heap.size := b1.size
  clear b2' b1 x1 r1 o2 r2
  go_wp2_with fail
  refine bodyPost_ret (v := .tuple #[.slice none 0 0, .agg #[.slice (some ⟨g2, 0, none⟩) n n]]) (by simp [results, Try.results12, go_sem, cr]) rfl ?_
  unfold TakeEnds
  rw [HK.out, Nat.sub_zero, ← HN.out, List.take_zero, List.drop_zero]
  refine ⟨none, g2, rfl, own_nil _ _, ?_, ⟨.inl rfl, .inr (by simp [Value.ownBlock])⟩, ?_⟩
  · exact (HO.out.1.setb HO.out.2 (by decide)).mono' hsz
  · exact b2.setCell (by show w.heap.size ≤ w.heap.size + 1; omega) _

set_option maxHeartbeats 4000000 in
theorem implRingTake_ok (g n k : Nat) (zs : List Int) (x : Int) (w : World) (hn : n = zs.length) (hs : Sl w (some ⟨g, 0, none⟩) zs) (h : n ≤ 300) (hk : k = takeK zs x) :
    Calls Try.prog 12 #[.agg #[.slice (some ⟨g, 0, none⟩) n n], .int .i64 x] w fun e w' => TakeEndsI zs x w e w' := by
  have HN : Hid (n = zs.length) := hn
  have HK : Hid (k = takeK zs x) := hk
  have hk2 : max (0 : Int) (min x (n : Int)) = (k : Int) := by rw [hk]; unfold takeK; rw [if_pos (by omega), ← hn]; omega
  have hkn : k ≤ n := by rw [hk, hn]; exact takeK_le zs x
  have B0 : Below w.heap.size w ((w.alloc (.cells #[.slice (some ⟨g, 0, none⟩) n n] 25)).alloc (.cells #[.slice none 0 0] 25)) := ((Below.refl _ w).alloc (Nat.le_refl _) _).alloc (by simp) _
  have x0 : Box ((w.alloc (.cells #[.slice (some ⟨g, 0, none⟩) n n] 25)).alloc (.cells #[.slice none 0 0] 25)) w.heap.size 25 (.slice (some ⟨g, 0, none⟩) n n) := (Box.new w _ _).below (bel_alloc _ _)
  have r0 : Box ((w.alloc (.cells #[.slice (some ⟨g, 0, none⟩) n n] 25)).alloc (.cells #[.slice none 0 0] 25)) (w.heap.size + 1) 25 (.slice none 0 0) := by
    have := Box.new (w.alloc (.cells #[.slice (some ⟨g, 0, none⟩) n n] 25)) (.slice none 0 0) 25; simpa using this
  have Hs : Hid (Sl w (some ⟨g, 0, none⟩) zs) := hs
  clear hs hn hk
  go_enter Try.func12, Try.ntmps12
  go_wp2_with fail
  refine (implRingOk_yes _ _ _ _ h).mono ?_
  rintro e w1 ⟨rfl, b1'⟩
  have b1 := bel_next B0 b1'
  have x1 := x0.below b1'
  have r1 := r0.below b1'
  have cx1 := x1.cell
  clear b1' B0 x0 r0
  have hmk := run_make_row' (P := Try.prog) 22 5 (.int .u8 0) 1 Try.underlying22 Try.info5 rfl .i64 .i64 k (by omega) (by omega)
  obtain ⟨Z, hZ, hZh⟩ := made_row w1 k
  have HZ : Hid (Z.length = k) := hZ
  have HZh : Hid ((w1.alloc (.cells (madeCells #[.int .u8 0] k) 5)).heap[w1.heap.size]? = some (.cells Z.toArray 5 (0, 0))) := hZh
  have b2' := bel_alloc w1 (.cells (madeCells #[.int .u8 0] k) 5)
  have cx2 := (x1.below b2').cell
  have s2 : Hid (Sl _ (some ⟨g, 0, none⟩) (zs.take k)) := (Hs.out.below (bel_next b1 b2')).take k
  obtain ⟨X, hX⟩ : ∃ X, X = (zs.take k).map (Value.int .u8) := ⟨_, rfl⟩
  have HX : Hid (X = (zs.take k).map (Value.int .u8)) := hX
  have hXl : X.length = k := by rw [hX]; have := HN.out; simp; omega
  have X1 : ∀ v ∈ X, v.oneCell' = true := by rw [hX]; exact ones _
  have HB1 : Hid (Below w.heap.size w w1) := b1
  have Hx1 : Hid (Box w1 w.heap.size 25 (.slice (some ⟨g, 0, none⟩) n n) ∧ Box w1 (w.heap.size + 1) 25 (.slice none 0 0)) := ⟨x1, r1⟩
  clear hZ hZh hX b1 x1 r1
  go_wp2_with ((refine wpList_copy_splice rfl (.tmp 22) (.tmp 24) 22 22 rfl 5 Try.underlying22 sz5 _ _ _ _ _ _ rfl rfl w1.heap.size 0 Z 5 HZh.out X (by rw [hXl]; exact (Nat.min_eq_right hkn).symm) (fun h => ⟨rfl, src_of s2.out HX.out h⟩) (by rw [hXl, HZ.out]; omega) X1 w1.heap.size _ b2' (Nat.le_refl _) ?_); intro w3 H3 b3; have cx3 := (Hx1.out.1.below b3).cell)
  case inl =>
    have hm : k ≤ maxLen := by unfold maxLen; omega
    have O3 : Own w3 w.heap.size (.slice (some ⟨w1.heap.size, 0, none⟩) k k) (zs.take k) := Own.ofHeap (by rw [← HX.out, ← splice_all Z X (by rw [hXl, HZ.out])]; exact H3.out) (by have := HN.out; simp; omega) (by have := HB1.out.size; omega) hm
    have r3 := Hx1.out.2.below b3
    have B3 := bel_next HB1.out b3
    have s3 : Sl w3 (some ⟨g, 0, none⟩) (zs.drop k) := .inl (List.drop_eq_nil_of_le (by have := HN.out; omega))
    refine (copyOf_any _ _ _ (zs.drop k) _ (by have := HN.out; simp; omega) s3 (by have := HN.out; simp; omega)).mono ?_
    rintro e w4 ⟨g4, rfl, o4, b4'⟩
    have B4 := bel_next B3 b4'
    have ap := own_ne O3 o4 (Nat.le_refl _)
    have O4 := O3.below b4'
    have r4 := r3.below b4'
    have cr := r4.cell
    have fr := r4.fro
    have hB3 := B3.size
    have HO : Hid (Own w4 w.heap.size (.slice (some ⟨w1.heap.size, 0, none⟩) k k) (zs.take k) ∧ Own w4 w.heap.size (.slice (some ⟨g4, 0, none⟩) 0 0) (zs.drop k) ∧ Box w4 (w.heap.size + 1) 25 (.slice none 0 0) ∧ Apart (.slice (some ⟨w1.heap.size, 0, none⟩) k k) (.slice (some ⟨g4, 0, none⟩) 0 0) ∧ Below w.heap.size w w4) := ⟨O4, o4.mono' hB3, r4, ap, B4⟩
    clear O3 O4 o4 r3 r4 B3 B4 b4' ap s3 hB3 b3 H3
    go_wp2_with fail
    refine bodyPost_ret (v := .tuple #[.slice (some ⟨w1.heap.size, 0, none⟩) k k, .agg #[.slice (some ⟨g4, 0, none⟩) 0 0]]) (by simp [results, Try.results12, go_sem, cr]) rfl ?_
    unfold TakeEndsI
    have eL : zs.length - k = 0 := by have := HN.out; omega
    rw [← HK.out, eL]
    refine ⟨_, g4, rfl, ?_, ?_, HO.out.2.2.2.1, ?_⟩
    · exact HO.out.1.setb HO.out.2.2.1 (by decide)
    · exact HO.out.2.1.setb HO.out.2.2.1 (by decide)
    · exact HO.out.2.2.2.2.setCell (by show w.heap.size ≤ w.heap.size + 1; omega) _
  case inr =>
    have hm : k ≤ maxLen := by unfold maxLen; omega
    have O3 : Own w3 w.heap.size (.slice (some ⟨w1.heap.size, 0, none⟩) k k) (zs.take k) := Own.ofHeap (by rw [← HX.out, ← splice_all Z X (by rw [hXl, HZ.out])]; exact H3.out) (by have := HN.out; simp; omega) (by have := HB1.out.size; omega) hm
    have r3 := Hx1.out.2.below b3
    have B3 := bel_next HB1.out b3
    have s3 : Sl w3 (some ⟨g, k, none⟩) (zs.drop k) := (Hs.out.below B3).drop k
    refine (copyOf_any _ _ _ (zs.drop k) _ (by have := HN.out; simp; omega) s3 (by have := HN.out; simp; omega)).mono ?_
    rintro e w4 ⟨g4, rfl, o4, b4'⟩
    have B4 := bel_next B3 b4'
    have ap := own_ne O3 o4 (Nat.le_refl _)
    have O4 := O3.below b4'
    have r4 := r3.below b4'
    have cr := r4.cell
    have fr := r4.fro
    have hB3 := B3.size
    have HO : Hid (Own w4 w.heap.size (.slice (some ⟨w1.heap.size, 0, none⟩) k k) (zs.take k) ∧ Own w4 w.heap.size (.slice (some ⟨g4, 0, none⟩) (n - k) (n - k)) (zs.drop k) ∧ Box w4 (w.heap.size + 1) 25 (.slice none 0 0) ∧ Apart (.slice (some ⟨w1.heap.size, 0, none⟩) k k) (.slice (some ⟨g4, 0, none⟩) (n - k) (n - k)) ∧ Below w.heap.size w w4) := ⟨O4, o4.mono' hB3, r4, ap, B4⟩
    clear O3 O4 o4 r3 r4 B3 B4 b4' ap s3 hB3 b3 H3
    go_wp2_with fail
    refine bodyPost_ret (v := .tuple #[.slice (some ⟨w1.heap.size, 0, none⟩) k k, .agg #[.slice (some ⟨g4, 0, none⟩) (n - k) (n - k)]]) (by simp [results, Try.results12, go_sem, cr]) rfl ?_
    unfold TakeEndsI
    have eL : zs.length - k = (n - k) := by have := HN.out; omega
    rw [← HK.out, eL]
    refine ⟨_, g4, rfl, ?_, ?_, HO.out.2.2.2.1, ?_⟩
    · exact HO.out.1.setb HO.out.2.2.1 (by decide)
    · exact HO.out.2.1.setb HO.out.2.2.1 (by decide)
    · exact HO.out.2.2.2.2.setCell (by show w.heap.size ≤ w.heap.size + 1; omega) _

theorem implRingTake_any (g n : Nat) (zs : List Int) (x : Int) (w : World) (hn : n = zs.length) (hs : Sl w (some ⟨g, 0, none⟩) zs) (hl : zs.length ≤ 2000000) :
    Calls Try.prog 12 #[.agg #[.slice (some ⟨g, 0, none⟩) n n], .int .i64 x] w fun e w' => TakeEnds zs x w e w' := by
  by_cases h : n ≤ 300
  · exact (implRingTake_ok g n _ zs x w hn hs h rfl).mono fun e w' h => h.weak
  · exact implRingTake_big _ n _ zs x w hn hs hl h

end Go.Proofs.Ytckmffhdngfchaa
