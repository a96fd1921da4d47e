/- RingPut of the model. -/
import Derived.Test.YtckmffhdngfchaaRing3
namespace Go.Proofs.Ytckmffhdngfchaa
open Go.RowKit

theorem putR_take {zs bs : List Int} {k : Nat} (hk : k = putK zs bs) : putR zs bs = zs ++ bs.take k := by
  unfold putR
  subst hk; unfold putK
  rcases Nat.le_total bs.length (300 - zs.length) with hh | hh
  · rw [Nat.min_eq_left hh, List.take_of_length_le hh, List.take_of_length_le (Nat.le_refl _)]
  · rw [Nat.min_eq_right hh]

set_option maxHeartbeats 2000000 in
theorem specRingPut_big (ad ad' : Addr) (n m cap cap' : Nat) (zs bs : List Int) (w : World) (hn : n = zs.length) (hm : m = bs.length) (hs : Sl w (some ad) zs) (hz : n ≤ 2000000) (h : ¬ n ≤ 300) :
    Calls Try.prog 15 #[.agg #[.slice (some ad) n cap], .slice (some ad') m cap'] w fun e w' => PutEnds zs bs w e w' := by
  obtain ⟨i0, hi, hz0, hz1, hz2⟩ := info_parts Try.info5
  have hml : n + 2 ≤ maxLen := by unfold maxLen; omega
  have HN : Hid (n = zs.length) := hn
  have HM : Hid (m = bs.length) := hm
  have HK : Hid (putK zs bs = 0 ∧ putR zs bs = zs) := putK_big (by omega)
  have H3 : Hid (¬ n ≤ 300) := h
  clear h
  obtain ⟨W0, hW0'⟩ : ∃ W0, W0 = (w.alloc (.cells #[.slice (some ad) n cap] 25)).alloc (.cells #[.slice none 0 0] 25) := ⟨_, rfl⟩
  have hW0 : Hid (W0 = _) := hW0'
  have hsz : Hid (W0.heap.size = w.heap.size + 1 + 1) := by show W0.heap.size = _; rw [hW0']; simp
  have B0 : Below w.heap.size w W0 := by rw [hW0']; exact ((Below.refl _ w).alloc (Nat.le_refl _) _).alloc (by simp) _
  have x0 : Box W0 w.heap.size 25 (.slice (some ad) n cap) := by rw [hW0']; exact (Box.new w _ _).below (bel_alloc _ _)
  have r0 : Box W0 (w.heap.size + 1) 25 (.slice none 0 0) := by
    rw [hW0']; have := Box.new (w.alloc (.cells #[.slice (some ad) n cap] 25)) (.slice none 0 0) 25; simpa using this
  have B1 := bel_next B0 (bel_alloc W0 (.cells #[] 5))
  have x1 := (x0.below (bel_alloc W0 (.cells #[] 5))).cell
  have o0 := World.ownsRow_lit (base := W0.heap.size) (e := 5) (size := 1) W0 #[] 0 (Nat.le_refl _) (by omega) rfl
  have s1 := (hs.below B1).cellsAt
  clear hs hn hm hW0' B1
  go_enter Try.func15, Try.ntmps15
  go_upto_region 1 with fail
  rw [← hW0.out]
  go_wp2_with (at_builtin; (refine wpList_append_own _ rfl (.tmp 8) (.tmp 10) 22 rfl W0.heap.size 5 i0 (.int .u8 0) 1 1 Try.underlying22 hi hz0 hz1 hz2 rfl (by decide) (.slice (some ⟨W0.heap.size, 0, none⟩) 0 0) 0 [] rfl o0 ad n cap (zs.map (Value.int .u8)) rfl (by rw [HN.out]; simp) s1 (ones zs) (by omega) (by omega) (by simp) ?_); intro v1 w1 o1 g1 _; have b2 : Below W0.heap.size W0 w1 := (bel_alloc W0 (.cells #[] 5)).grown g1 (by simp) (fun k hk => by simp [Value.ownBlock] at hk; omega); have O1 : Own w1 W0.heap.size v1 zs := Own.ofRows (n := 0) (m := n) (xs := []) o1 (by simp) (by rw [Nat.zero_add]; exact HN.out); obtain ⟨a1, c1, hv1⟩ := O1.shape'; rw [← HN.out] at hv1; subst hv1; have x2 := ((x0.below b2).below (bel_alloc w1 (.cells #[.slice a1 n c1] 25))).cell; clear o1 g1)
  have b3 := bel_next b2 (bel_alloc w1 (.cells #[.slice a1 n c1] 25))
  have u3 := Box.new w1 (.slice a1 n c1) 25
  have O3 := O1.below (bel_alloc w1 (.cells #[.slice a1 n c1] 25))
  refine (specRingOk_no _ _ _ _ H3.out).mono ?_
  rintro e w2 ⟨rfl, b4'⟩
  have b4 := bel_next b3 b4'
  have u4 := u3.below b4'
  have O4 := O3.below b4'
  have r4 := r0.below b4
  have x4 := (x0.below b4).cell
  have hbs0 : W0.heap.size ≤ w2.heap.size := b4.size
  have hl1 : w.heap.size + 1 < w1.heap.size := by have := b2.size; have := hsz.out; omega
  have HB : Hid (Below w.heap.size w w2) := bel_next B0 b4
  have cu := u4.cell
  have cr := r4.cell
  have fr := r4.fro
  clear b4' b3 u3 O3 O1 b2 x0 x1 x2 r0 B0 o0 s1 b4
  have HO : Hid (Own w2 W0.heap.size (.slice a1 n c1) zs ∧ Box w2 (w.heap.size + 1) 25 (.slice none 0 0)) := ⟨O4, r4⟩
  clear O4 r4 u4
  go_wp2_with fail
  refine bodyPost_ret (v := .tuple #[.agg #[.slice a1 n c1], .int .i64 (m : Nat)]) (by simp [results, Try.results15, go_sem, cr]) rfl ?_
  unfold PutEnds
  rw [HK.out.1, HK.out.2, ← HN.out, ← HM.out]
  refine ⟨a1, c1, by simp, ?_, ?_⟩
  · exact (HO.out.1.setb HO.out.2 (by decide)).mono' (by have := hsz.out; omega)
  · exact HB.out.setCell (by show w.heap.size ≤ w.heap.size + 1; omega) _

set_option maxHeartbeats 4000000 in
theorem specRingPut_ok (ad ad' : Addr) (n m cap cap' k : Nat) (zs bs : List Int) (w : World) (hn : n = zs.length) (hm : m = bs.length) (hs : Sl w (some ad) zs) (ht : Sl w (some ad') bs) (hl : m ≤ 2000000) (hc : m ≤ cap') (h : n ≤ 300) (hk : k = putK zs bs) :
    Calls Try.prog 15 #[.agg #[.slice (some ad) n cap], .slice (some ad') m cap'] w fun e w' => PutEnds zs bs w e w' := by
  obtain ⟨i0, hi, hz0, hz1, hz2⟩ := info_parts Try.info5
  have hml : n + 2 ≤ maxLen := by unfold maxLen; omega
  have HN : Hid (n = zs.length) := hn
  have HM : Hid (m = bs.length) := hm
  have HK : Hid (k = putK zs bs) := hk
  have H3 : Hid (n ≤ 300) := h
  have hkm : k ≤ 300 - n ∧ k ≤ m ∧ (k = 300 - n ∨ k = m) := by rw [hk]; unfold putK; rw [← hn, ← hm]; omega
  have Ht : Hid (Sl w (some ad') bs) := ht
  clear hk ht
  obtain ⟨W0, hW0'⟩ : ∃ W0, W0 = (w.alloc (.cells #[.slice (some ad) n cap] 25)).alloc (.cells #[.slice none 0 0] 25) := ⟨_, rfl⟩
  have hW0 : Hid (W0 = _) := hW0'
  have hsz : Hid (W0.heap.size = w.heap.size + 1 + 1) := by show W0.heap.size = _; rw [hW0']; simp
  have B0 : Below w.heap.size w W0 := by rw [hW0']; exact ((Below.refl _ w).alloc (Nat.le_refl _) _).alloc (by simp) _
  have x0 : Box W0 w.heap.size 25 (.slice (some ad) n cap) := by rw [hW0']; exact (Box.new w _ _).below (bel_alloc _ _)
  have r0 : Box W0 (w.heap.size + 1) 25 (.slice none 0 0) := by
    rw [hW0']; have := Box.new (w.alloc (.cells #[.slice (some ad) n cap] 25)) (.slice none 0 0) 25; simpa using this
  have B1 := bel_next B0 (bel_alloc W0 (.cells #[] 5))
  have x1 := (x0.below (bel_alloc W0 (.cells #[] 5))).cell
  have o0 := World.ownsRow_lit (base := W0.heap.size) (e := 5) (size := 1) W0 #[] 0 (Nat.le_refl _) (by omega) rfl
  have s1 := (hs.below B1).cellsAt
  clear hs hn hm hW0' B1
  go_enter Try.func15, Try.ntmps15
  go_upto_region 1 with fail
  rw [← hW0.out]
  go_wp2_with (at_builtin; (refine wpList_append_own _ rfl (.tmp 8) (.tmp 10) 22 rfl W0.heap.size 5 i0 (.int .u8 0) 1 1 Try.underlying22 hi hz0 hz1 hz2 rfl (by decide) (.slice (some ⟨W0.heap.size, 0, none⟩) 0 0) 0 [] rfl o0 ad n cap (zs.map (Value.int .u8)) rfl (by rw [HN.out]; simp) s1 (ones zs) (by omega) (by omega) (by simp) ?_); intro v1 w1 o1 g1 _; have b2 : Below W0.heap.size W0 w1 := (bel_alloc W0 (.cells #[] 5)).grown g1 (by simp) (fun k hk => by simp [Value.ownBlock] at hk; omega); have O1 : Own w1 W0.heap.size v1 zs := Own.ofRows (n := 0) (m := n) (xs := []) o1 (by simp) (by rw [Nat.zero_add]; exact HN.out); obtain ⟨a1, c1, hv1⟩ := O1.shape'; rw [← HN.out] at hv1; subst hv1; have x2 := ((x0.below b2).below (bel_alloc w1 (.cells #[.slice a1 n c1] 25))).cell; clear o1 g1)
  have b3 := bel_next b2 (bel_alloc w1 (.cells #[.slice a1 n c1] 25))
  have u3 := Box.new w1 (.slice a1 n c1) 25
  have O3 := O1.below (bel_alloc w1 (.cells #[.slice a1 n c1] 25))
  refine (specRingOk_yes _ _ _ _ H3.out).mono ?_
  rintro e w2 ⟨rfl, b4'⟩
  have b4 := bel_next b3 b4'
  have u4 := u3.below b4'
  have O4 := O3.below b4'
  have r4 := r0.below b4
  have x4 := (x0.below b4).cell
  have hbs0 : W0.heap.size ≤ w2.heap.size := b4.size
  have hl1 : w.heap.size + 1 < w1.heap.size := by have := b2.size; have := hsz.out; omega
  have HB : Hid (Below w.heap.size w w2) := bel_next B0 b4
  have cu := u4.cell
  have cr := r4.cell
  have fr := r4.fro
  clear b4' b3 u3 O3 O1 b2 x0 x1 x2 r0 B0 o0 s1 b4
  have T2 : Hid (∀ j u, ((bs.take k).map (Value.int .u8))[j]? = some u → w2.drew.cell? (ad'.add j) = some u) := ((Ht.out.below HB.out).take k).cellsAt
  have hxl : Hid (((bs.take k).map (Value.int .u8)).length = k * 1) := by show _ = _; simp; have := HM.out; omega
  have fu := u4.fro
  have Hu : Hid (Box w2 w1.heap.size 25 (.slice a1 n c1)) := u4
  have Hr : Hid (Box w2 (w.heap.size + 1) 25 (.slice none 0 0)) := r4
  have HO : Hid (Own w2 W0.heap.size (.slice a1 n c1) zs) := O4
  have HO' : Hid (w2.drew.ownsRow W0.heap.size 5 1 (.slice a1 n c1) n (zs.map (Value.int .u8))) := by
    have h := O4; unfold Own at h; rw [← HN.out] at h; exact h.drew
  have hbs : W0.heap.size ≤ w2.drew.heap.size := hbs0
  have hbw : w.heap.size ≤ w2.drew.heap.size := HB.out.size
  have hsz' : w.heap.size ≤ W0.heap.size := by have := hsz.out; omega
  have hkc : k ≤ cap' := by omega
  have hml2 : n + k ≤ maxLen := by unfold maxLen; have := H3.out; omega
  have hml3 : (n + k) * 1 ≤ 140737488355328 := by have := H3.out; omega
  clear u4 r4 O4
  by_cases hgt : m < 300 - n
  · obtain rfl : k = m := by omega
    have hgt' : (k : Int) < 300 - (n : Int) := by omega
    go_upto_region 7 with fail
    go_region_law ((refine step_append_own rfl (.tmp 30) (.tmp 33) 22 rfl W0.heap.size 5 i0 (.int .u8 0) 1 1 Try.underlying22 hi hz0 hz1 hz2 rfl (by decide) (.slice a1 n c1) n (zs.map (Value.int .u8)) rfl HO'.out ad' k cap' ((bs.take k).map (Value.int .u8)) rfl hxl.out T2.out (ones _) hml2 hml3 hbs ?_); intro v5 w5 o5 g5; have O5 : Own w5 W0.heap.size v5 (putR zs bs) := Own.ofRows o5 (putR_take HK.out) (by rw [putR_length, ← HN.out, ← HK.out]); obtain ⟨a5, c5, hv5⟩ := O5.shape'; rw [putR_length, ← HN.out, ← HK.out] at hv5; subst hv5; have u5 := Hu.out.drew.grown g5 (HO.out.noBox Hu.out (by decide)); have r5 := Hr.out.drew.grown g5 (HO.out.noBox Hr.out (by decide)); have cu5 := u5.cell; have fu5 := u5.fro; have cr5 := r5.cell; have fr5 := r5.fro; have B5 : Hid (Below w.heap.size w w5) := HB.out.drew.grown g5 hbw (fun kk hk => by have := (HO.out.lt kk hk).1; omega); have H5 : Hid (Own w5 W0.heap.size (.slice a5 (n + k) c5) (putR zs bs) ∧ Box w5 w1.heap.size 25 (.slice a1 n c1) ∧ Box w5 (w.heap.size + 1) 25 (.slice none 0 0)) := ⟨O5, u5, r5⟩; clear o5 g5 O5 u5 r5)
    all_goals (go_wp2_with fail)
    all_goals (refine bodyPost_ret (v := .tuple #[.agg #[.slice a5 (n + k) c5], .int .i64 ((k : Int) - (k : Int))]) (by simp [results, Try.results15, go_sem, cr5]) rfl ?_)
    all_goals (unfold PutEnds)
    all_goals (rw [← HN.out, ← HK.out, ← HM.out])
    all_goals (refine ⟨a5, c5, rfl, ?_, ?_⟩)
    all_goals first
      | exact ((H5.out.1.setb H5.out.2.1 (by decide)).setb (H5.out.2.2.setNe (by omega)) (by decide)).mono' (by have := hsz.out; omega)
      | exact (B5.out.setCell (by show w.heap.size ≤ w1.heap.size; omega) _).setCell (by show w.heap.size ≤ w.heap.size + 1; omega) _
  · have hsub : (300 : Int) - (n : Int) = (k : Int) := by omega
    have hgt' : ¬ ((m : Int) < (k : Int)) := by omega
    go_upto_region 7 with fail
    go_region_law ((refine step_append_own rfl (.tmp 30) (.tmp 33) 22 rfl W0.heap.size 5 i0 (.int .u8 0) 1 1 Try.underlying22 hi hz0 hz1 hz2 rfl (by decide) (.slice a1 n c1) n (zs.map (Value.int .u8)) rfl HO'.out ad' k cap' ((bs.take k).map (Value.int .u8)) rfl hxl.out T2.out (ones _) hml2 hml3 hbs ?_); intro v5 w5 o5 g5; have O5 : Own w5 W0.heap.size v5 (putR zs bs) := Own.ofRows o5 (putR_take HK.out) (by rw [putR_length, ← HN.out, ← HK.out]); obtain ⟨a5, c5, hv5⟩ := O5.shape'; rw [putR_length, ← HN.out, ← HK.out] at hv5; subst hv5; have u5 := Hu.out.drew.grown g5 (HO.out.noBox Hu.out (by decide)); have r5 := Hr.out.drew.grown g5 (HO.out.noBox Hr.out (by decide)); have cu5 := u5.cell; have fu5 := u5.fro; have cr5 := r5.cell; have fr5 := r5.fro; have B5 : Hid (Below w.heap.size w w5) := HB.out.drew.grown g5 hbw (fun kk hk => by have := (HO.out.lt kk hk).1; omega); have H5 : Hid (Own w5 W0.heap.size (.slice a5 (n + k) c5) (putR zs bs) ∧ Box w5 w1.heap.size 25 (.slice a1 n c1) ∧ Box w5 (w.heap.size + 1) 25 (.slice none 0 0)) := ⟨O5, u5, r5⟩; clear o5 g5 O5 u5 r5)
    all_goals (go_wp2_with fail)
    all_goals (refine bodyPost_ret (v := .tuple #[.agg #[.slice a5 (n + k) c5], .int .i64 ((m : Int) - (k : Int))]) (by simp [results, Try.results15, go_sem, cr5]) rfl ?_)
    all_goals (unfold PutEnds)
    all_goals (rw [← HN.out, ← HK.out, ← HM.out])
    all_goals (refine ⟨a5, c5, rfl, ?_, ?_⟩)
    all_goals first
      | exact ((H5.out.1.setb H5.out.2.1 (by decide)).setb (H5.out.2.2.setNe (by omega)) (by decide)).mono' (by have := hsz.out; omega)
      | exact (B5.out.setCell (by show w.heap.size ≤ w1.heap.size; omega) _).setCell (by show w.heap.size ≤ w.heap.size + 1; omega) _

theorem specRingPut_any (ad ad' : Addr) (n m cap cap' : Nat) (zs bs : List Int) (w : World) (hn : n = zs.length) (hm : m = bs.length) (hs : Sl w (some ad) zs) (ht : Sl w (some ad') bs) (hz : n ≤ 2000000) (hl : m ≤ 2000000) (hc : m ≤ cap') :
    Calls Try.prog 15 #[.agg #[.slice (some ad) n cap], .slice (some ad') m cap'] w fun e w' => PutEnds zs bs w e w' := by
  by_cases h : n ≤ 300
  · exact specRingPut_ok ad ad' n m cap cap' _ zs bs w hn hm hs ht hl hc h rfl
  · exact specRingPut_big ad ad' n m cap cap' zs bs w hn hm hs hz h

end Go.Proofs.Ytckmffhdngfchaa
