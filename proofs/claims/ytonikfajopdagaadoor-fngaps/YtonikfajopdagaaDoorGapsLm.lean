/- The law of gaps, walked. -/
import Derived.Test.YtonikfajopdagaaDoorRtu12m
import Derived.Test.YtonikfajopdagaaDoorAt1
namespace Go.Proofs.YtonikfajopdagaaDoor
open Go.RowKit

set_option linter.unusedVariables false

set_option linter.unusedSimpArgs false

theorem range_twoG {bs : List Int} {x y : Int} (hr : ∀ z ∈ bs, 0 ≤ z ∧ z ≤ 255) (hx : 0 ≤ x ∧ x ≤ 255) (hy : 0 ≤ y ∧ y ≤ 255) : ∀ z ∈ bs ++ [x, y], 0 ≤ z ∧ z ≤ 255 := by
  intro z hz
  rcases List.mem_append.1 hz with h | h
  · exact hr z h
  · simp at h; rcases h with rfl | rfl <;> assumption

set_option maxRecDepth 20000 in
set_option maxHeartbeats 1600000 in
theorem gaps_law (a : Option Addr) (cap : Nat) (zs : List Int) (w : World) (hs : Sl w a zs) (hr : ∀ z ∈ zs, 0 ≤ z ∧ z ≤ 255) (hl : zs.length ≤ 1048576) (hh : 0 < w.heap.size) (hT : Tab w) :
    Calls Tryd.prog 4 #[.slice a zs.length cap] w fun e w' => e = .returned (.bool true) ∧ Below w.heap.size w w' := by
  have hl' : ¬ (1048576 : Int) < (zs.length : Int) := by omega
  have HT : Hid (Tab w ∧ 0 < w.heap.size) := ⟨hT, hh⟩
  have H : Hid (Sl w a zs ∧ (∀ z ∈ zs, 0 ≤ z ∧ z ≤ 255) ∧ zs.length ≤ 1048576) := ⟨hs, hr, hl⟩
  clear hT hs hr hh
  go_enter Tryd.func4, Tryd.ntmps4
  go_wp2_with (first | (go_at_call 9; go_in) | fail)
  refine (drawFrame_any w a _ cap zs rfl H.out.1 H.out.2.1 H.out.2.2).mono ?_
  rintro e w1 ⟨un, ad, m, c, bs, rfl, hu0, hu1, hm, h1, h2, o1, hrb, b1⟩
  have HB : Hid (m = bs.length ∧ 1 ≤ m ∧ m ≤ 253 ∧ (∀ z ∈ bs, 0 ≤ z ∧ z ≤ 255) ∧ 0 ≤ un ∧ un ≤ 255) := ⟨hm, h1, h2, hrb, hu0, hu1⟩
  clear hu0 hu1 hm h1 h2 hrb
  go_wp2_with fail
  refine (specPutRtu_any un ad m c bs _ HB.out.1 o1.sl.2 HB.out.2.2.2.1 (by have := HB.out; omega)).mono ?_
  rintro e w2 ⟨aB, cB, nB, rfl, hnB, oB, b'⟩
  have b2 := bel_next b1 b'
  have hP : puT un bs = smL (un :: bs) := puT_yes (by have := HB.out; omega)
  rw [hP] at hnB oB
  obtain ⟨B, hB⟩ : ∃ B, B = smL (un :: bs) := ⟨_, rfl⟩
  rw [← hB] at hnB oB
  have hlenB : B.length = bs.length + 3 := by rw [hB, smL_len]; simp
  have hrB : ∀ z ∈ B, 0 ≤ z ∧ z ≤ 255 := by
    have hru : ∀ z ∈ un :: bs, 0 ≤ z ∧ z ≤ 255 := fun z hz => by
      rcases List.mem_cons.1 hz with rfl | h
      · exact ⟨HB.out.2.2.2.2.1, HB.out.2.2.2.2.2⟩
      · exact HB.out.2.2.2.1 z h
    have hc := crcTo_lt (un :: bs) (get_range hru) (un :: bs).length
    rw [hB]
    unfold smL
    exact range_twoG hru (by omega) (by omega)
  have hn4 : 4 ≤ nB ∧ nB ≤ 256 := by have := HB.out; omega
  have HN : Hid (nB = B.length ∧ (∀ z ∈ B, 0 ≤ z ∧ z ≤ 255)) := ⟨hnB, hrB⟩
  clear hnB hrB hlenB hB hP b' b1 o1 HB
  go_wp2_with fail
  refine (at_any _ a _ cap zs _ (by decide) (by decide) rfl (H.out.1.below b2) H.out.2.1 H.out.2.2).mono ?_
  rintro e w3 ⟨x, rfl, hx0, hx1, e3⟩
  have e3 := e3.symm
  subst e3
  have hd1 : ¬ (nB : Int) - 1 = 0 := by omega
  have hx2 := Int.emod_nonneg x (show (nB : Int) - 1 ≠ 0 by omega)
  have hx3 := Int.emod_lt_of_pos x (show (0 : Int) < (nB : Int) - 1 by omega)
  obtain ⟨K, hK, hK1, hK2⟩ : ∃ K : Nat, wrap64 (1 + x % ((nB : Int) - 1)) = (K : Int) ∧ 1 ≤ K ∧ K < nB := by
    refine ⟨(1 + x % ((nB : Int) - 1)).toNat, ?_, ?_, ?_⟩
    · rw [IntWalk.wrap64_in _ (by omega)]; omega
    · omega
    · omega
  have HK : Hid (wrap64 (1 + x % ((nB : Int) - 1)) = (K : Int)) := hK
  clear hK hx2 hx3
  go_wp2_with fail
  rw [HK.out]
  refine (implRtuNew_ok 2 5 _ (by decide)).mono ?_
  rintro e w3 ⟨rfl, b'⟩
  have b3 := bel_next b2 b'
  have oB3 := oB.below b'
  have q := bel_alloc w3 (.cells #[.slice none 0 0, .int .i64 0, .bool false, .int .i64 2, .int .i64 5] 33)
  have R4 := Blk.new w3 #[.slice none 0 0, .int .i64 0, .bool false, .int .i64 2, .int .i64 5] 33
  obtain ⟨w4, hw4⟩ : ∃ x, x = w3.alloc (.cells #[.slice none 0 0, .int .i64 0, .bool false, .int .i64 2, .int .i64 5] 33) := ⟨_, rfl⟩
  obtain ⟨gR, hgR⟩ : ∃ x, x = w3.heap.size := ⟨_, rfl⟩
  have HW4 : Hid (w4 = _) := hw4
  have HGR : Hid (gR = w3.heap.size) := hgR
  rw [← hw4] at q R4
  rw [← hgR] at R4
  have b4 := bel_next b3 q
  have hR3 : w3.heap.size ≤ gR := by omega
  have hw3 : w.heap.size ≤ w3.heap.size := b3.size
  have SB : Hid (Sl w3 aB B) := oB3.sl.2
  have q4 : Below w3.heap.size w3 w4 := q
  have HB3 : Hid (Below w.heap.size w w3) := b3
  clear hw4 hgR q b' b2 oB b3 oB3 hx0 hx1 hd1 b4
  go_wp2_with fail
  rw [← HW4.out]
  simp only [← HGR.out]
  go_loopw [8, 9] (fun tk i wr => ∃ (j : Nat) (t ls : Int) (aR : Option Addr) (lR cR : Nat), j ≤ nB ∧ i = .int .i64 j ∧ tk = .int .i64 t ∧ lR = j ∧ lR ≤ cR ∧ ((j ≤ K → t = 7) ∧ (K < j → 9 ≤ t ∧ t ≤ 11) ∧ (0 < j → ls = t) ∧ (j = 0 → ls = 0)) ∧ Blk wr gR 33 #[.slice aR lR cR, .int .i64 ls, .bool (decide (K < j)), .int .i64 2, .int .i64 5] ∧ Own wr w3.heap.size (.slice aR lR cR) (B.take j) ∧ Below w3.heap.size w3 wr) (fun _ i _ => nB - (intOf i).toNat)
  case atStart => exact ⟨0, 7, 0, none, 0, 0, Nat.zero_le _, rfl, rfl, rfl, Nat.le_refl _, ⟨fun _ => rfl, fun h => by omega, fun h => by omega, fun _ => rfl⟩, by rw [decide_eq_false (by omega)]; exact R4, by simp; exact ⟨rfl, .inl ⟨rfl, rfl⟩⟩, q4⟩
  case round =>
    obtain ⟨j, t, ls, aR, lR, cR, hj, rfl, rfl, hlR, hcR, ⟨c1, c2, c3, c4⟩, Rr, oR, bw⟩ := hrel
    have bwr : Below w.heap.size w wr := bel_next HB3.out bw
    have hTr : Tab wr := HT.out.1.below bwr HT.out.2
    have hpos : 0 < wr.heap.size := by have := bwr.size; have := HT.out.2; omega
    obtain ⟨r0, r1, r2, r3, r4⟩ := Rr.five
    by_cases hlt : j < nB
    · obtain ⟨bB, oB, eB, hbB, hcB⟩ := cell_at (SB.out.below bw) (k := j) (by have := HN.out; omega)
      have hji : (j : Int) < (nB : Int) := by omega
      have hrg := get_range HN.out.2 j
      have HJ : Hid (lR = (B.take j).length ∧ lR ≤ cR ∧ Sl wr aR (B.take j) ∧ (∀ z ∈ B.take j, 0 ≤ z ∧ z ≤ 255) ∧ lR ≤ 256 ∧ Tab wr ∧ 0 < wr.heap.size ∧ lR = j) := ⟨by have := HN.out; simp; omega, hcR, oR.sl.2, fun z hz => HN.out.2 z (List.mem_of_mem_take hz), by omega, hTr, hpos, hlR⟩
      subst eB
      by_cases hjk : j = K
      · have hjb : ((j : Int) == (K : Int)) = true := by simp; omega
        have ht7 : t = 7 := c1 (by omega)
        have HC : Hid (j = K ∧ t = 7 ∧ ls = 7) := ⟨hjk, ht7, by have := c3 (by omega); omega⟩
        subst ht7
        clear hjk c1 c2 c3 c4 R4 q4 oR hlR hcR hTr hpos
        go_wp2_with fail
        refine (at_any _ a _ cap zs _ (by decide) (by decide) rfl (H.out.1.below bwr) H.out.2.1 H.out.2.2).mono ?_
        rintro e w8 ⟨y, rfl, hy0, hy1, e8⟩
        have e8 := e8.symm
        subst e8
        have hy2 : 0 ≤ y % 3 ∧ y % 3 < 3 := by omega
        have HK2 : Hid (okT lR ls (decide (K < j)) 2 5 = true ∧ tkB (9 + y % 3) = true ∧ (0 < lR → gap ls (9 + y % 3) < 5) ∧ decide (K < j + 1) = (decide (K < j) || (decide (0 < lR) && decide (2 ≤ gap ls (9 + y % 3))))) := by
          have h := HC.out
          have h8 := HJ.out.2.2.2.2.2.2.2
          have hg : gap ls (9 + y % 3) = 2 + y % 3 := by unfold gap; omega
          refine ⟨?_, ?_, ?_, ?_⟩
          · unfold okT; rw [decide_eq_true (by omega), decide_eq_true (show 0 < lR by omega)]; simp
          · unfold tkB; exact decide_eq_true (by omega)
          · intro _; rw [hg]; omega
          · rw [hg, decide_eq_true (show K < j + 1 by omega), decide_eq_true (show 0 < lR by omega), decide_eq_true (show 2 ≤ 2 + y % 3 by omega)]; simp
        go_wp2_with fail
        go_region_with (go_at_call 16; refine (hear_step aR lR cR ls (decide (K < j)) 2 5 (9 + y % 3) (B.getD j 0) (B.take j) _ HJ.out.1 HJ.out.2.1 (HJ.out.2.2.1.below ?_) HJ.out.2.2.2.1 HJ.out.2.2.2.2.1 (HJ.out.2.2.2.2.2.1.below ?_ HJ.out.2.2.2.2.2.2.1) HK2.out.1 HK2.out.2.1 HK2.out.2.2.1 (decide (K < j + 1)) HK2.out.2.2.2).mono ?_; (first | exact Below.refl _ _ | exact (Below.refl _ _).drew | exact (Below.refl _ _).drew.drew | exact (Below.refl _ _).drew.drew.drew); (first | exact Below.refl _ _ | exact (Below.refl _ _).drew | exact (Below.refl _ _).drew.drew | exact (Below.refl _ _).drew.drew.drew); rintro e w5 ⟨a', c', n', ga, gc, rfl, hn', hc', o5, b5'⟩; have Hn' : Hid (n' = lR + 1) := hn'; clear hn'; have b5 : Below wr.heap.size wr w5 := bel_next (by first | exact Below.refl _ _ | exact (Below.refl _ _).drew | exact (Below.refl _ _).drew.drew | exact (Below.refl _ _).drew.drew.drew) b5'; have R5 := Rr.below b5; obtain ⟨y0, y1, y2, y3, y4⟩ := R5.five; have fy := R5.fro; clear b5')
        all_goals (
          have HR5 : Hid (n' = lR + 1 ∧ n' ≤ c' ∧ Own w5 wr.heap.size (.slice a' n' c') (B.take j ++ [B.getD j 0]) ∧ Below wr.heap.size wr w5 ∧ Blk w5 gR 33 #[.slice aR lR cR, .int .i64 ls, .bool (decide (K < j)), .int .i64 2, .int .i64 5]) := ⟨Hn'.out, hc', o5, b5, R5⟩
          clear hc' o5 b5 R5
          go_wp2
          go_roundw
          case rel =>
            obtain ⟨hn', hc', o5, b5, R5⟩ := HR5.out
            have hgR' : w3.heap.size ≤ gR := hR3
            have hsz5 : w3.heap.size ≤ wr.heap.size := bw.size
            have hZ : B.take (j + 1) = B.take j ++ [B.getD j 0] := take_snoc (by have := HN.out; omega)
            refine ⟨j + 1, 9 + y % 3, 9 + y % 3, a', n', c', by omega, by go_num, rfl, by have := HJ.out; omega, hc', ⟨fun h => by have := HC.out; omega, fun _ => by omega, fun _ => rfl, fun h => by omega⟩, ?_, ?_, ?_⟩
            · exact st5_self R5 _ _ _ _ _
            · rw [hZ]; exact st5_own (o5.monoT hsz5) ⟨_, R5⟩
            · exact st5_bel (bw.trans (b5.mono hsz5)) hgR'
          case measure => simp [intOf]; omega)
      · have hjb : ((j : Int) == (K : Int)) = false := by simp; omega
        have ht : 7 ≤ t ∧ t ≤ 11 := by
          by_cases hh : j ≤ K
          · have := c1 hh; omega
          · have := c2 (by omega); omega
        have HC : Hid (¬ j = K ∧ (j ≤ K → t = 7) ∧ (K < j → 9 ≤ t ∧ t ≤ 11) ∧ (0 < j → ls = t) ∧ (j = 0 → ls = 0) ∧ 7 ≤ t ∧ t ≤ 11) := ⟨hjk, c1, c2, c3, c4, ht⟩
        have HK2 : Hid (okT lR ls (decide (K < j)) 2 5 = true ∧ tkB t = true ∧ (0 < lR → gap ls t < 5) ∧ decide (K < j + 1) = (decide (K < j) || (decide (0 < lR) && decide (2 ≤ gap ls t)))) := by
          have h := HC.out
          have h8 := HJ.out.2.2.2.2.2.2.2
          have hls : 0 ≤ ls ∧ ls ≤ 11 := by
            by_cases hh : 0 < j
            · have := c3 hh; omega
            · have := c4 (by omega); omega
          have hg : 0 < lR → gap ls t = 0 := fun h0 => by have := c3 (by omega); unfold gap; omega
          refine ⟨?_, ?_, ?_, ?_⟩
          · unfold okT
            rw [decide_eq_true (by omega)]
            by_cases hh : K < j
            · rw [decide_eq_true (show 0 < lR by omega)]; simp
            · rw [decide_eq_false hh]; simp
          · unfold tkB; exact decide_eq_true (by omega)
          · intro h0; rw [hg h0]; omega
          · by_cases hh : K < j
            · rw [decide_eq_true (show K < j + 1 by omega), decide_eq_true hh]; rfl
            · rw [decide_eq_false (show ¬ K < j + 1 by omega), decide_eq_false hh]
              by_cases h0 : 0 < lR
              · rw [hg h0]; simp
              · rw [decide_eq_false h0]; rfl
        clear hjk c1 c2 c3 c4 R4 q4 oR hlR hcR hTr hpos
        go_wp2_with fail
        go_region_with (go_at_call 16; refine (hear_step aR lR cR ls (decide (K < j)) 2 5 (t) (B.getD j 0) (B.take j) _ HJ.out.1 HJ.out.2.1 (HJ.out.2.2.1.below ?_) HJ.out.2.2.2.1 HJ.out.2.2.2.2.1 (HJ.out.2.2.2.2.2.1.below ?_ HJ.out.2.2.2.2.2.2.1) HK2.out.1 HK2.out.2.1 HK2.out.2.2.1 (decide (K < j + 1)) HK2.out.2.2.2).mono ?_; (first | exact Below.refl _ _ | exact (Below.refl _ _).drew | exact (Below.refl _ _).drew.drew | exact (Below.refl _ _).drew.drew.drew); (first | exact Below.refl _ _ | exact (Below.refl _ _).drew | exact (Below.refl _ _).drew.drew | exact (Below.refl _ _).drew.drew.drew); rintro e w5 ⟨a', c', n', ga, gc, rfl, hn', hc', o5, b5'⟩; have Hn' : Hid (n' = lR + 1) := hn'; clear hn'; have b5 : Below wr.heap.size wr w5 := bel_next (by first | exact Below.refl _ _ | exact (Below.refl _ _).drew | exact (Below.refl _ _).drew.drew | exact (Below.refl _ _).drew.drew.drew) b5'; have R5 := Rr.below b5; obtain ⟨y0, y1, y2, y3, y4⟩ := R5.five; have fy := R5.fro; clear b5')
        all_goals (
          have HR5 : Hid (n' = lR + 1 ∧ n' ≤ c' ∧ Own w5 wr.heap.size (.slice a' n' c') (B.take j ++ [B.getD j 0]) ∧ Below wr.heap.size wr w5 ∧ Blk w5 gR 33 #[.slice aR lR cR, .int .i64 ls, .bool (decide (K < j)), .int .i64 2, .int .i64 5]) := ⟨Hn'.out, hc', o5, b5, R5⟩
          clear hc' o5 b5 R5
          go_wp2
          go_roundw
          case rel =>
            obtain ⟨hn', hc', o5, b5, R5⟩ := HR5.out
            have hgR' : w3.heap.size ≤ gR := hR3
            have hsz5 : w3.heap.size ≤ wr.heap.size := bw.size
            have hZ : B.take (j + 1) = B.take j ++ [B.getD j 0] := take_snoc (by have := HN.out; omega)
            refine ⟨j + 1, t, t, a', n', c', by omega, by go_num, rfl, by have := HJ.out; omega, hc', ⟨fun h => by have := HC.out; omega, fun h => by have := HC.out; omega, fun _ => rfl, fun h => by omega⟩, ?_, ?_, ?_⟩
            · exact st5_self R5 _ _ _ _ _
            · rw [hZ]; exact st5_own (o5.monoT hsz5) ⟨_, R5⟩
            · exact st5_bel (bw.trans (b5.mono hsz5)) hgR'
          case measure => simp [intOf]; omega)
    · obtain rfl : j = nB := by omega
      have HJ : Hid (lR = B.length ∧ lR ≤ cR ∧ Sl wr aR B ∧ lR ≤ 256 ∧ Tab wr ∧ lR = j ∧ ls = t ∧ 9 ≤ t ∧ t ≤ 11) := by
        have hT' : B.take j = B := List.take_of_length_le (by have := HN.out; omega)
        rw [hT'] at oR
        have h3 := c3 (by omega)
        have h2 := c2 (by omega)
        exact ⟨by have := HN.out; omega, hcR, oR.sl.2, by omega, hTr, hlR, h3, h2.1, h2.2⟩
      have hdK : decide (K < j) = true := decide_eq_true (by omega)
      have HE : Hid (wtE lR ls true 2 5 (t + 5) = true) := by
        have h := HJ.out
        have hg : gap ls (t + 5) = 5 := by unfold gap; omega
        show _ = _
        unfold wtE okT tkB
        rw [hg, decide_eq_true (by omega), decide_eq_true (show 0 < lR by omega), decide_eq_true (show 0 ≤ t + 5 ∧ t + 5 ≤ 4294967295 by omega)]
        rfl
      have ht9 : 9 ≤ t ∧ t ≤ 11 := by have := HJ.out; omega
      rw [hdK] at r2 Rr
      clear c1 c2 c3 c4 R4 q4 oR hlR hcR hTr hpos hdK
      go_wp2_with fail
      refine (wait_gap aR lR cR ls 2 5 (t + 5) B _ HJ.out.1 HJ.out.2.1 HJ.out.2.2.1 HN.out.2 HJ.out.2.2.2.1 HJ.out.2.2.2.2.1 HE.out).mono ?_
      rintro e w6 ⟨a', c', n', g, gc, pa, pc, rfl, G6, b'⟩
      have q6 := bel_alloc w6 (.cells #[.slice a' n' c', .int .i64 ls, .bool false, .int .i64 2, .int .i64 5] 33)
      have b6 := bel_next (bel_next bwr b') q6
      obtain ⟨g0, g1, g2⟩ := (G6.below q6).three
      clear b' r0 r1 r2 r3 r4 Rr bw bwr G6 q6
      go_wp2
      go_ret
      exact ⟨rfl, b6⟩

end Go.Proofs.YtonikfajopdagaaDoor
