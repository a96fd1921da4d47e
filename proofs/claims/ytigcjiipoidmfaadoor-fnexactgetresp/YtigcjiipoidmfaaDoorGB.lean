/- Answers out of bytes: the model. -/
import Derived.Test.YtigcjiipoidmfaaDoorGA
import Derived.Test.YtigcjiipoidmfaaDoorG4
namespace Go.Proofs.YtigcjiipoidmfaaDoor
open Go.RowKit

set_option linter.unusedVariables false

set_option linter.unusedSimpArgs false

theorem putAV_le (kd fl pl nn : Int) (ws : List Int) (bs : List Bool) (l1 l2 : Nat) (h1 : l1 = ws.length) (h2 : l2 = bs.length) : (putAV (okA kd fl pl nn ws l1 l2) kd fl pl nn ws bs).length ≤ 300 := by
  cases hb : okA kd fl pl nn ws l1 l2
  · simp [putAV]
  · have hk : kindB kd = true := by unfold okA at hb; simp only [Bool.and_eq_true] at hb; exact hb.1
    by_cases h0 : fl = 0
    · subst h0
      obtain rfl | rfl | rfl | rfl | rfl | rfl | rfl | rfl | rfl | rfl := of_decide_eq_true hk
      all_goals (simp [okA, okAK, kindB, inB, zr4] at hb; simp [putAV, putA, wbs, wbs_length, packL_length]; try omega)
    · simp [putAV, putA, h0]

theorem outU_le8 (zs : List Int) (x : Int) (hx : x ≤ 16777216) : (outU zs x).length ≤ 20000000 := by
  unfold outU
  split
  · rw [ubs_length]; omega
  · simp

set_option maxRecDepth 20000 in
set_option maxHeartbeats 8000000 in
theorem specGetA_1b (a : Option Addr) (n cap : Nat) (zs : List Int) (w : World) (hn : n = zs.length) (hs : Sl w a zs) (hr : ∀ z ∈ zs, 0 ≤ z ∧ z ≤ 255) (hl : n ≤ 1048576) (hp : 0 < zs.length) (hcap : n ≤ cap) (hk : zs.getD 0 0 = 1) (h2 : 2 < n) :
    Calls Tryd.prog 13 #[.slice a n cap] w fun e w' => EndA 1 0 0 0 [] (outU (zs.drop 2) (8 * ((n : Int) - 2))) zs w w' e := by
  have hand : bits .and .u8 1 127 = 1 := by decide +kernel
  obtain ⟨W0, hW0⟩ : ∃ W0, W0 = w.alloc (.cells #[.int .i64 0, .int .i64 0, .int .i64 0, .int .i64 0, .slice none 0 0, .slice none 0 0] 27) := ⟨_, rfl⟩
  obtain ⟨W1, hW1⟩ : ∃ W1, W1 = W0.alloc (.cells #[.int .i64 1, .int .i64 0, .int .i64 0, .int .i64 0, .slice none 0 0, .slice none 0 0] 27) := ⟨_, rfl⟩
  have HW : Hid (W0 = _) := hW0
  have HW1 : Hid (W1 = W0.alloc (.cells #[.int .i64 1, .int .i64 0, .int .i64 0, .int .i64 0, .slice none 0 0, .slice none 0 0] 27)) := hW1
  have b0 : Below w.heap.size w W0 := by rw [hW0]; exact bel_alloc _ _
  have b1 : Below W0.heap.size W0 W1 := by rw [hW1]; exact bel_alloc _ _
  have R0 : Blk W0 w.heap.size 27 #[.int .i64 0, .int .i64 0, .int .i64 0, .int .i64 0, .slice none 0 0, .slice none 0 0] := by rw [hW0]; exact Blk.new _ _ _
  have hg : W0.heap.size = w.heap.size + 1 := by rw [hW0]; simp
  obtain ⟨G, hG⟩ : ∃ G, G = W0.heap.size := ⟨_, rfl⟩
  have HG : Hid (w.heap.size < G) := by show w.heap.size < G; omega
  have HGe : Hid (G = W0.heap.size) := hG
  have Q1 : Blk W1 G 27 #[.int .i64 1, .int .i64 0, .int .i64 0, .int .i64 0, .slice none 0 0, .slice none 0 0] := by rw [hW1, hG]; exact Blk.new _ _ _
  have R1 := R0.below b1
  have B1 := bel_next b0 b1
  obtain ⟨bk, off, ea, hbk, hc⟩ := cell_at hs hp
  rw [hk] at hc
  have hc0 : W0.cell? ⟨bk, off, none⟩ = some (.int .u8 1) := (b0.cell (p := ⟨bk, off, none⟩) hbk).trans (by simpa using hc)
  have hc1 : W1.cell? ⟨bk, off, none⟩ = some (.int .u8 1) := (B1.cell (p := ⟨bk, off, none⟩) hbk).trans (by simpa using hc)
  have hz : ¬ (n : Int) = 0 := by omega
  have hz0 : (0 : Int) < (n : Int) := by omega
  have HS : Hid (n = zs.length ∧ Sl w a zs ∧ (∀ z ∈ zs, 0 ≤ z ∧ z ≤ 255)) := ⟨hn, hs, hr⟩
  have HP : Hid (0 < zs.length) := hp
  have hl2 : n ≤ 2000000 := by omega
  subst ea
  clear hn hs hr hc hW0 hW1 hg hG R0 hk hp
  go_enter Tryd.func13, Tryd.ntmps13
  go_upto_region 1 with fail
  rw [← HW.out]
  go_wp2_with fail
  refine (l3Kind_any _ _ true rfl).mono ?_
  rintro e wx ⟨rfl, rfl⟩
  go_upto_region 13 with fail
  rw [← HW1.out]
  simp only [← HGe.out]
  clear hc0 b0 b1
  have k0 := Q1.cell 0 rfl
  have g2 : (2 : Int) < (n : Int) := by omega
  have HD : Hid ((zs.drop 2).length = n - 2) := by show (zs.drop 2).length = n - 2; have := HS.out.1; simp; omega
  obtain ⟨X, hX⟩ : ∃ X : Int, X = 8 * ((n : Int) - 2) := ⟨_, rfl⟩
  go_upto_region 18 with fail
  go_wp2_with fail
  refine (specUnpack_any _ _ _ (zs.drop 2) (8 * ((n : Int) - 2)) _ (by rw [HD.out]) ((sl_drop HS.out.2.1 2).below B1) (drop_rg HS.out.2.2 2) (by omega)).mono ?_
  rintro e w2 ⟨a', c', rfl, oj, b'⟩
  have J := OwnB.mono oj B1.size
  obtain ⟨n', hn'⟩ : ∃ n', n' = (outU (zs.drop 2) (8 * ((n : Int) - 2))).length := ⟨_, rfl⟩
  rw [← hn'] at J ⊢
  have HN' : Hid (n' = _) := hn'
  clear hn' oj hX
  have B2 := bel_next B1 b'
  have Q2 := Q1.below b'
  have R2 := R1.below b'
  clear B1 Q1 R1  b'
  have J2 := J
  clear J
  have qc := Q2.cell 5 rfl
  have qf := Q2.fro 5
  have Q3 := Q2.set 5 (.slice a' n' c')
  have R3 := R2.setNe (g' := G) (j := 5) (y := .slice a' n' c') (by have := HG.out; omega)
  have B3 := B2.setCell (p := ⟨G, 5, none⟩) (by show w.heap.size ≤ G; have := HG.out; omega) (.slice a' n' c')
  have J3 : OwnB _ _ _ _ := row_setE (j := 5) (y := .slice a' n' c') J2 ⟨_, Q2⟩ (by decide)
  go_upto_region 21 with fail
  obtain ⟨w3, hw3⟩ : ∃ w3, w3 = w2.setCell ⟨G, 5, none⟩ (.slice a' n' c') := ⟨_, rfl⟩
  rw [← hw3] at Q3 R3 B3 J3 ⊢
  clear hw3 qc qf Q2 R2 B2 J2
  have OI : OwnI w3 w.heap.size (.slice none 0 0) [] := (ownI_nil _ _)
  have OB : OwnB w3 w.heap.size (.slice a' n' c') (outU (zs.drop 2) (8 * ((n : Int) - 2))) := J3
  have HE : Hid (0 = ([] : List Int).length ∧ n' = ((outU (zs.drop 2) (8 * ((n : Int) - 2))) : List Bool).length) := ⟨rfl, HN'.out⟩
  have HLs : Hid (([] : List Int).length ≤ 2000000 ∧ ((outU (zs.drop 2) (8 * ((n : Int) - 2))) : List Bool).length ≤ 20000000) := by show _ ∧ _; have := HS.out.1; exact ⟨by simp, by have h := outU_le8 (zs.drop 2) (8 * ((n : Int) - 2)) (by omega); omega⟩
  obtain ⟨q0, q1, q2, q3, q4, q5⟩ := Q3.six
  obtain ⟨ok, hok⟩ : ∃ ok, ok = okA (1) (0) (0) (0) [] ([] : List Int).length ((outU (zs.drop 2) (8 * ((n : Int) - 2))) : List Bool).length := ⟨_, rfl⟩
  have HOK : Hid (ok = okA (1) (0) (0) (0) [] ([] : List Int).length ((outU (zs.drop 2) (8 * ((n : Int) - 2))) : List Bool).length) := hok
  go_wp2_with fail
  refine (specRespOk_any (1) (0) (0) (0) none a' 0 n' 0 c' [] _ HE.out.1 OI.sl.2 HLs.out.1 (by have := HLs.out; have := HE.out; omega) ok (by first | exact hok.symm | (rw [hok, ← HE.out.1]; rfl) | (rw [hok, ← HE.out.2]; rfl) | (rw [hok, ← HE.out.1]; done) | (rw [hok, ← HE.out.2]; done))).mono ?_
  rintro e v1 ⟨rfl, b'⟩
  have C1 := bel_next B3 b'
  have D1 := Q3.below b'
  have E1 := R3.below b'
  have I1 := OI.below b'
  have J1 := OB.below b'
  clear b' B3 Q3 R3 OI OB q0 q1 q2 q3 q4 q5 hok J3
  obtain ⟨q0, q1, q2, q3, q4, q5⟩ := D1.six
  cases ok
  · obtain ⟨y0, y1, y2, y3, y4, y5⟩ := E1.six
    have fy := E1.fro
    go_wp2
    refine bodyPost_ret (v := .tuple #[rp 0 0 0 0 none none 0 0 0 0, .int .i64 3]) (by simp [results, Tryd.results13, go_sem, y0, y1, y2, y3, y4, y5]) rfl ?_
    exact enda_no1 HOK.out.symm (gpa_zero (belp_set6 C1 (Nat.le_refl _)))
  · have HSM : Hid (((outU (zs.drop 2) (8 * ((n : Int) - 2))) : List Bool).length ≤ 2000000) := by show _ ≤ _; have := (isA_small (zs := putA (1) (0) (0) (0) [] (outU (zs.drop 2) (8 * ((n : Int) - 2)))) (by unfold isA; rw [← HOK.out]; simp)).2; omega
    go_wp2_with fail
    refine (specPutA_q (1) (0) (0) (0) none a' 0 n' 0 c' [] (outU (zs.drop 2) (8 * ((n : Int) - 2))) _ HE.out.1 HE.out.2 I1.sl.2 J1.sl.2 HLs.out.1 HSM.out).mono ?_
    rintro e v2 ⟨pa, pc, np, rfl, hnp, op, b'⟩
    have eo : okA (1) (0) (0) (0) [] 0 n' = true := by first | exact HOK.out.symm | (have h := HOK.out; rw [← HE.out.1] at h; exact h.symm) | (have h := HOK.out; rw [← HE.out.2] at h; exact h.symm)
    rw [eo] at hnp op
    have C2 := bel_next C1 b'
    have D2 := D1.below b'
    have E2 := E1.below b'
    have I2 := I1.below b'
    have J2 := J1.below b'
    have HNP : Hid _ := hnp
    clear b' hnp C1 D1 E1 I1 J1 q0 q1 q2 q3 q4 q5
    have hpl : (putAV true (1) (0) (0) (0) [] (outU (zs.drop 2) (8 * ((n : Int) - 2)))).length ≤ 300 := by have h := putAV_le (1) (0) (0) (0) [] (outU (zs.drop 2) (8 * ((n : Int) - 2))) _ _ rfl rfl; rw [← HOK.out] at h; exact h
    obtain ⟨q0, q1, q2, q3, q4, q5⟩ := D2.six
    obtain ⟨y0, y1, y2, y3, y4, y5⟩ := E2.six
    have fy := E2.fro
    cases hZ : decide (putAV true (1) (0) (0) (0) [] (outU (zs.drop 2) (8 * ((n : Int) - 2))) = zs)
    · go_wp2_with fail
      refine (l3Same_any _ _ _ _ _ _ _ zs _ HNP.out HS.out.1 op.sl.2 (HS.out.2.1.below C2) (by omega) (by have := HS.out.1; omega) _ hZ).mono ?_
      rintro e v3 ⟨rfl, b'⟩
      have C3 := bel_next C2 b'
      have D3 := D2.below b'
      have E3 := E2.below b'
      have I3 := I2.below b'
      have J3 := J2.below b'
      clear b' C2 D2 E2 I2 J2 q0 q1 q2 q3 q4 q5 y0 y1 y2 y3 y4 y5 fy
      obtain ⟨q0, q1, q2, q3, q4, q5⟩ := D3.six
      obtain ⟨y0, y1, y2, y3, y4, y5⟩ := E3.six
      have fy := E3.fro
      go_wp2
      refine bodyPost_ret (v := .tuple #[rp 0 0 0 0 none none 0 0 0 0, .int .i64 3]) (by simp [results, Tryd.results13, go_sem, y0, y1, y2, y3, y4, y5]) rfl ?_
      exact enda_no2 (of_decide_eq_false hZ) (gpa_zero (belp_set6 C3 (Nat.le_refl _)))
    · go_wp2_with fail
      refine (l3Same_any _ _ _ _ _ _ _ zs _ HNP.out HS.out.1 op.sl.2 (HS.out.2.1.below C2) (by omega) (by have := HS.out.1; omega) _ hZ).mono ?_
      rintro e v3 ⟨rfl, b'⟩
      have C3 := bel_next C2 b'
      have D3 := D2.below b'
      have E3 := E2.below b'
      have I3 := I2.below b'
      have J3 := J2.below b'
      clear b' C2 D2 E2 I2 J2 q0 q1 q2 q3 q4 q5 y0 y1 y2 y3 y4 y5 fy
      obtain ⟨q0, q1, q2, q3, q4, q5⟩ := D3.six
      obtain ⟨y0, y1, y2, y3, y4, y5⟩ := E3.six
      have fy := E3.fro
      go_wp2
      refine bodyPost_ret (v := .tuple #[rp (1) (0) (0) (0) none a' 0 n' 0 c', .int .i64 0]) (by simp [results, Tryd.results13, go_sem, y0, y1, y2, y3, y4, y5]) rfl ?_
      exact enda_yes HOK.out.symm (of_decide_eq_true hZ) ⟨_, _, _, _, _, _, rfl, HE.out.1, HE.out.2, rowp_set6 I3 ⟨_, E3⟩ (by decide), rowp_set6 J3 ⟨_, E3⟩ (by decide), belp_set6 C3 (Nat.le_refl _)⟩

set_option maxRecDepth 20000 in
set_option maxHeartbeats 8000000 in
theorem specGetA_1n (a : Option Addr) (n cap : Nat) (zs : List Int) (w : World) (hn : n = zs.length) (hs : Sl w a zs) (hr : ∀ z ∈ zs, 0 ≤ z ∧ z ≤ 255) (hl : n ≤ 1048576) (hp : 0 < zs.length) (hcap : n ≤ cap) (hk : zs.getD 0 0 = 1) (h2 : ¬ 2 < n) :
    Calls Tryd.prog 13 #[.slice a n cap] w fun e w' => EndA 1 0 0 0 [] [] zs w w' e := by
  have hand : bits .and .u8 1 127 = 1 := by decide +kernel
  obtain ⟨W0, hW0⟩ : ∃ W0, W0 = w.alloc (.cells #[.int .i64 0, .int .i64 0, .int .i64 0, .int .i64 0, .slice none 0 0, .slice none 0 0] 27) := ⟨_, rfl⟩
  obtain ⟨W1, hW1⟩ : ∃ W1, W1 = W0.alloc (.cells #[.int .i64 1, .int .i64 0, .int .i64 0, .int .i64 0, .slice none 0 0, .slice none 0 0] 27) := ⟨_, rfl⟩
  have HW : Hid (W0 = _) := hW0
  have HW1 : Hid (W1 = W0.alloc (.cells #[.int .i64 1, .int .i64 0, .int .i64 0, .int .i64 0, .slice none 0 0, .slice none 0 0] 27)) := hW1
  have b0 : Below w.heap.size w W0 := by rw [hW0]; exact bel_alloc _ _
  have b1 : Below W0.heap.size W0 W1 := by rw [hW1]; exact bel_alloc _ _
  have R0 : Blk W0 w.heap.size 27 #[.int .i64 0, .int .i64 0, .int .i64 0, .int .i64 0, .slice none 0 0, .slice none 0 0] := by rw [hW0]; exact Blk.new _ _ _
  have hg : W0.heap.size = w.heap.size + 1 := by rw [hW0]; simp
  obtain ⟨G, hG⟩ : ∃ G, G = W0.heap.size := ⟨_, rfl⟩
  have HG : Hid (w.heap.size < G) := by show w.heap.size < G; omega
  have HGe : Hid (G = W0.heap.size) := hG
  have Q1 : Blk W1 G 27 #[.int .i64 1, .int .i64 0, .int .i64 0, .int .i64 0, .slice none 0 0, .slice none 0 0] := by rw [hW1, hG]; exact Blk.new _ _ _
  have R1 := R0.below b1
  have B1 := bel_next b0 b1
  obtain ⟨bk, off, ea, hbk, hc⟩ := cell_at hs hp
  rw [hk] at hc
  have hc0 : W0.cell? ⟨bk, off, none⟩ = some (.int .u8 1) := (b0.cell (p := ⟨bk, off, none⟩) hbk).trans (by simpa using hc)
  have hc1 : W1.cell? ⟨bk, off, none⟩ = some (.int .u8 1) := (B1.cell (p := ⟨bk, off, none⟩) hbk).trans (by simpa using hc)
  have hz : ¬ (n : Int) = 0 := by omega
  have hz0 : (0 : Int) < (n : Int) := by omega
  have HS : Hid (n = zs.length ∧ Sl w a zs ∧ (∀ z ∈ zs, 0 ≤ z ∧ z ≤ 255)) := ⟨hn, hs, hr⟩
  have HP : Hid (0 < zs.length) := hp
  have hl2 : n ≤ 2000000 := by omega
  subst ea
  clear hn hs hr hc hW0 hW1 hg hG R0 hk hp
  go_enter Tryd.func13, Tryd.ntmps13
  go_upto_region 1 with fail
  rw [← HW.out]
  go_wp2_with fail
  refine (l3Kind_any _ _ true rfl).mono ?_
  rintro e wx ⟨rfl, rfl⟩
  go_upto_region 13 with fail
  rw [← HW1.out]
  simp only [← HGe.out]
  clear hc0 b0 b1
  have k0 := Q1.cell 0 rfl
  have g2 : ¬ (2 : Int) < (n : Int) := by omega
  go_upto_region 21 with fail
  have OI : OwnI W1 w.heap.size (.slice none 0 0) [] := (ownI_nil _ _)
  have OB : OwnB W1 w.heap.size (.slice none 0 0) [] := (ownB_nil _ _)
  have HE : Hid (0 = ([] : List Int).length ∧ 0 = ([] : List Bool).length) := ⟨rfl, rfl⟩
  have HLs : Hid (([] : List Int).length ≤ 2000000 ∧ ([] : List Bool).length ≤ 20000000) := by show _ ∧ _; have := HS.out.1; exact ⟨by simp, by simp⟩
  obtain ⟨q0, q1, q2, q3, q4, q5⟩ := Q1.six
  obtain ⟨ok, hok⟩ : ∃ ok, ok = okA (1) (0) (0) (0) [] ([] : List Int).length ([] : List Bool).length := ⟨_, rfl⟩
  have HOK : Hid (ok = okA (1) (0) (0) (0) [] ([] : List Int).length ([] : List Bool).length) := hok
  go_wp2_with fail
  refine (specRespOk_any (1) (0) (0) (0) none none 0 0 0 0 [] _ HE.out.1 OI.sl.2 HLs.out.1 (by have := HLs.out; have := HE.out; omega) ok (by first | exact hok.symm | (rw [hok, ← HE.out.1]; rfl) | (rw [hok, ← HE.out.2]; rfl) | (rw [hok, ← HE.out.1]; done) | (rw [hok, ← HE.out.2]; done))).mono ?_
  rintro e v1 ⟨rfl, b'⟩
  have C1 := bel_next B1 b'
  have D1 := Q1.below b'
  have E1 := R1.below b'
  have I1 := OI.below b'
  have J1 := OB.below b'
  clear b' B1 Q1 R1 OI OB q0 q1 q2 q3 q4 q5 hok 
  obtain ⟨q0, q1, q2, q3, q4, q5⟩ := D1.six
  cases ok
  · obtain ⟨y0, y1, y2, y3, y4, y5⟩ := E1.six
    have fy := E1.fro
    go_wp2
    refine bodyPost_ret (v := .tuple #[rp 0 0 0 0 none none 0 0 0 0, .int .i64 3]) (by simp [results, Tryd.results13, go_sem, y0, y1, y2, y3, y4, y5]) rfl ?_
    exact enda_no1 HOK.out.symm (gpa_zero (belp_set6 C1 (Nat.le_refl _)))
  · have HSM : Hid (([] : List Bool).length ≤ 2000000) := by show _ ≤ _; have := (isA_small (zs := putA (1) (0) (0) (0) [] []) (by unfold isA; rw [← HOK.out]; simp)).2; omega
    go_wp2_with fail
    refine (specPutA_q (1) (0) (0) (0) none none 0 0 0 0 [] [] _ HE.out.1 HE.out.2 I1.sl.2 J1.sl.2 HLs.out.1 HSM.out).mono ?_
    rintro e v2 ⟨pa, pc, np, rfl, hnp, op, b'⟩
    have eo : okA (1) (0) (0) (0) [] 0 0 = true := by first | exact HOK.out.symm | (have h := HOK.out; rw [← HE.out.1] at h; exact h.symm) | (have h := HOK.out; rw [← HE.out.2] at h; exact h.symm)
    rw [eo] at hnp op
    have C2 := bel_next C1 b'
    have D2 := D1.below b'
    have E2 := E1.below b'
    have I2 := I1.below b'
    have J2 := J1.below b'
    have HNP : Hid _ := hnp
    clear b' hnp C1 D1 E1 I1 J1 q0 q1 q2 q3 q4 q5
    have hpl : (putAV true (1) (0) (0) (0) [] []).length ≤ 300 := by have h := putAV_le (1) (0) (0) (0) [] [] _ _ rfl rfl; rw [← HOK.out] at h; exact h
    obtain ⟨q0, q1, q2, q3, q4, q5⟩ := D2.six
    obtain ⟨y0, y1, y2, y3, y4, y5⟩ := E2.six
    have fy := E2.fro
    cases hZ : decide (putAV true (1) (0) (0) (0) [] [] = zs)
    · go_wp2_with fail
      refine (l3Same_any _ _ _ _ _ _ _ zs _ HNP.out HS.out.1 op.sl.2 (HS.out.2.1.below C2) (by omega) (by have := HS.out.1; omega) _ hZ).mono ?_
      rintro e v3 ⟨rfl, b'⟩
      have C3 := bel_next C2 b'
      have D3 := D2.below b'
      have E3 := E2.below b'
      have I3 := I2.below b'
      have J3 := J2.below b'
      clear b' C2 D2 E2 I2 J2 q0 q1 q2 q3 q4 q5 y0 y1 y2 y3 y4 y5 fy
      obtain ⟨q0, q1, q2, q3, q4, q5⟩ := D3.six
      obtain ⟨y0, y1, y2, y3, y4, y5⟩ := E3.six
      have fy := E3.fro
      go_wp2
      refine bodyPost_ret (v := .tuple #[rp 0 0 0 0 none none 0 0 0 0, .int .i64 3]) (by simp [results, Tryd.results13, go_sem, y0, y1, y2, y3, y4, y5]) rfl ?_
      exact enda_no2 (of_decide_eq_false hZ) (gpa_zero (belp_set6 C3 (Nat.le_refl _)))
    · go_wp2_with fail
      refine (l3Same_any _ _ _ _ _ _ _ zs _ HNP.out HS.out.1 op.sl.2 (HS.out.2.1.below C2) (by omega) (by have := HS.out.1; omega) _ hZ).mono ?_
      rintro e v3 ⟨rfl, b'⟩
      have C3 := bel_next C2 b'
      have D3 := D2.below b'
      have E3 := E2.below b'
      have I3 := I2.below b'
      have J3 := J2.below b'
      clear b' C2 D2 E2 I2 J2 q0 q1 q2 q3 q4 q5 y0 y1 y2 y3 y4 y5 fy
      obtain ⟨q0, q1, q2, q3, q4, q5⟩ := D3.six
      obtain ⟨y0, y1, y2, y3, y4, y5⟩ := E3.six
      have fy := E3.fro
      go_wp2
      refine bodyPost_ret (v := .tuple #[rp (1) (0) (0) (0) none none 0 0 0 0, .int .i64 0]) (by simp [results, Tryd.results13, go_sem, y0, y1, y2, y3, y4, y5]) rfl ?_
      exact enda_yes HOK.out.symm (of_decide_eq_true hZ) ⟨_, _, _, _, _, _, rfl, HE.out.1, HE.out.2, rowp_set6 I3 ⟨_, E3⟩ (by decide), rowp_set6 J3 ⟨_, E3⟩ (by decide), belp_set6 C3 (Nat.le_refl _)⟩

set_option maxRecDepth 20000 in
set_option maxHeartbeats 8000000 in
theorem specGetA_2b (a : Option Addr) (n cap : Nat) (zs : List Int) (w : World) (hn : n = zs.length) (hs : Sl w a zs) (hr : ∀ z ∈ zs, 0 ≤ z ∧ z ≤ 255) (hl : n ≤ 1048576) (hp : 0 < zs.length) (hcap : n ≤ cap) (hk : zs.getD 0 0 = 2) (h2 : 2 < n) :
    Calls Tryd.prog 13 #[.slice a n cap] w fun e w' => EndA 2 0 0 0 [] (outU (zs.drop 2) (8 * ((n : Int) - 2))) zs w w' e := by
  have hand : bits .and .u8 2 127 = 2 := by decide +kernel
  obtain ⟨W0, hW0⟩ : ∃ W0, W0 = w.alloc (.cells #[.int .i64 0, .int .i64 0, .int .i64 0, .int .i64 0, .slice none 0 0, .slice none 0 0] 27) := ⟨_, rfl⟩
  obtain ⟨W1, hW1⟩ : ∃ W1, W1 = W0.alloc (.cells #[.int .i64 2, .int .i64 0, .int .i64 0, .int .i64 0, .slice none 0 0, .slice none 0 0] 27) := ⟨_, rfl⟩
  have HW : Hid (W0 = _) := hW0
  have HW1 : Hid (W1 = W0.alloc (.cells #[.int .i64 2, .int .i64 0, .int .i64 0, .int .i64 0, .slice none 0 0, .slice none 0 0] 27)) := hW1
  have b0 : Below w.heap.size w W0 := by rw [hW0]; exact bel_alloc _ _
  have b1 : Below W0.heap.size W0 W1 := by rw [hW1]; exact bel_alloc _ _
  have R0 : Blk W0 w.heap.size 27 #[.int .i64 0, .int .i64 0, .int .i64 0, .int .i64 0, .slice none 0 0, .slice none 0 0] := by rw [hW0]; exact Blk.new _ _ _
  have hg : W0.heap.size = w.heap.size + 1 := by rw [hW0]; simp
  obtain ⟨G, hG⟩ : ∃ G, G = W0.heap.size := ⟨_, rfl⟩
  have HG : Hid (w.heap.size < G) := by show w.heap.size < G; omega
  have HGe : Hid (G = W0.heap.size) := hG
  have Q1 : Blk W1 G 27 #[.int .i64 2, .int .i64 0, .int .i64 0, .int .i64 0, .slice none 0 0, .slice none 0 0] := by rw [hW1, hG]; exact Blk.new _ _ _
  have R1 := R0.below b1
  have B1 := bel_next b0 b1
  obtain ⟨bk, off, ea, hbk, hc⟩ := cell_at hs hp
  rw [hk] at hc
  have hc0 : W0.cell? ⟨bk, off, none⟩ = some (.int .u8 2) := (b0.cell (p := ⟨bk, off, none⟩) hbk).trans (by simpa using hc)
  have hc1 : W1.cell? ⟨bk, off, none⟩ = some (.int .u8 2) := (B1.cell (p := ⟨bk, off, none⟩) hbk).trans (by simpa using hc)
  have hz : ¬ (n : Int) = 0 := by omega
  have hz0 : (0 : Int) < (n : Int) := by omega
  have HS : Hid (n = zs.length ∧ Sl w a zs ∧ (∀ z ∈ zs, 0 ≤ z ∧ z ≤ 255)) := ⟨hn, hs, hr⟩
  have HP : Hid (0 < zs.length) := hp
  have hl2 : n ≤ 2000000 := by omega
  subst ea
  clear hn hs hr hc hW0 hW1 hg hG R0 hk hp
  go_enter Tryd.func13, Tryd.ntmps13
  go_upto_region 1 with fail
  rw [← HW.out]
  go_wp2_with fail
  refine (l3Kind_any _ _ true rfl).mono ?_
  rintro e wx ⟨rfl, rfl⟩
  go_upto_region 13 with fail
  rw [← HW1.out]
  simp only [← HGe.out]
  clear hc0 b0 b1
  have k0 := Q1.cell 0 rfl
  have g2 : (2 : Int) < (n : Int) := by omega
  have HD : Hid ((zs.drop 2).length = n - 2) := by show (zs.drop 2).length = n - 2; have := HS.out.1; simp; omega
  obtain ⟨X, hX⟩ : ∃ X : Int, X = 8 * ((n : Int) - 2) := ⟨_, rfl⟩
  go_upto_region 18 with fail
  go_wp2_with fail
  refine (specUnpack_any _ _ _ (zs.drop 2) (8 * ((n : Int) - 2)) _ (by rw [HD.out]) ((sl_drop HS.out.2.1 2).below B1) (drop_rg HS.out.2.2 2) (by omega)).mono ?_
  rintro e w2 ⟨a', c', rfl, oj, b'⟩
  have J := OwnB.mono oj B1.size
  obtain ⟨n', hn'⟩ : ∃ n', n' = (outU (zs.drop 2) (8 * ((n : Int) - 2))).length := ⟨_, rfl⟩
  rw [← hn'] at J ⊢
  have HN' : Hid (n' = _) := hn'
  clear hn' oj hX
  have B2 := bel_next B1 b'
  have Q2 := Q1.below b'
  have R2 := R1.below b'
  clear B1 Q1 R1  b'
  have J2 := J
  clear J
  have qc := Q2.cell 5 rfl
  have qf := Q2.fro 5
  have Q3 := Q2.set 5 (.slice a' n' c')
  have R3 := R2.setNe (g' := G) (j := 5) (y := .slice a' n' c') (by have := HG.out; omega)
  have B3 := B2.setCell (p := ⟨G, 5, none⟩) (by show w.heap.size ≤ G; have := HG.out; omega) (.slice a' n' c')
  have J3 : OwnB _ _ _ _ := row_setE (j := 5) (y := .slice a' n' c') J2 ⟨_, Q2⟩ (by decide)
  go_upto_region 21 with fail
  obtain ⟨w3, hw3⟩ : ∃ w3, w3 = w2.setCell ⟨G, 5, none⟩ (.slice a' n' c') := ⟨_, rfl⟩
  rw [← hw3] at Q3 R3 B3 J3 ⊢
  clear hw3 qc qf Q2 R2 B2 J2
  have OI : OwnI w3 w.heap.size (.slice none 0 0) [] := (ownI_nil _ _)
  have OB : OwnB w3 w.heap.size (.slice a' n' c') (outU (zs.drop 2) (8 * ((n : Int) - 2))) := J3
  have HE : Hid (0 = ([] : List Int).length ∧ n' = ((outU (zs.drop 2) (8 * ((n : Int) - 2))) : List Bool).length) := ⟨rfl, HN'.out⟩
  have HLs : Hid (([] : List Int).length ≤ 2000000 ∧ ((outU (zs.drop 2) (8 * ((n : Int) - 2))) : List Bool).length ≤ 20000000) := by show _ ∧ _; have := HS.out.1; exact ⟨by simp, by have h := outU_le8 (zs.drop 2) (8 * ((n : Int) - 2)) (by omega); omega⟩
  obtain ⟨q0, q1, q2, q3, q4, q5⟩ := Q3.six
  obtain ⟨ok, hok⟩ : ∃ ok, ok = okA (2) (0) (0) (0) [] ([] : List Int).length ((outU (zs.drop 2) (8 * ((n : Int) - 2))) : List Bool).length := ⟨_, rfl⟩
  have HOK : Hid (ok = okA (2) (0) (0) (0) [] ([] : List Int).length ((outU (zs.drop 2) (8 * ((n : Int) - 2))) : List Bool).length) := hok
  go_wp2_with fail
  refine (specRespOk_any (2) (0) (0) (0) none a' 0 n' 0 c' [] _ HE.out.1 OI.sl.2 HLs.out.1 (by have := HLs.out; have := HE.out; omega) ok (by first | exact hok.symm | (rw [hok, ← HE.out.1]; rfl) | (rw [hok, ← HE.out.2]; rfl) | (rw [hok, ← HE.out.1]; done) | (rw [hok, ← HE.out.2]; done))).mono ?_
  rintro e v1 ⟨rfl, b'⟩
  have C1 := bel_next B3 b'
  have D1 := Q3.below b'
  have E1 := R3.below b'
  have I1 := OI.below b'
  have J1 := OB.below b'
  clear b' B3 Q3 R3 OI OB q0 q1 q2 q3 q4 q5 hok J3
  obtain ⟨q0, q1, q2, q3, q4, q5⟩ := D1.six
  cases ok
  · obtain ⟨y0, y1, y2, y3, y4, y5⟩ := E1.six
    have fy := E1.fro
    go_wp2
    refine bodyPost_ret (v := .tuple #[rp 0 0 0 0 none none 0 0 0 0, .int .i64 3]) (by simp [results, Tryd.results13, go_sem, y0, y1, y2, y3, y4, y5]) rfl ?_
    exact enda_no1 HOK.out.symm (gpa_zero (belp_set6 C1 (Nat.le_refl _)))
  · have HSM : Hid (((outU (zs.drop 2) (8 * ((n : Int) - 2))) : List Bool).length ≤ 2000000) := by show _ ≤ _; have := (isA_small (zs := putA (2) (0) (0) (0) [] (outU (zs.drop 2) (8 * ((n : Int) - 2)))) (by unfold isA; rw [← HOK.out]; simp)).2; omega
    go_wp2_with fail
    refine (specPutA_q (2) (0) (0) (0) none a' 0 n' 0 c' [] (outU (zs.drop 2) (8 * ((n : Int) - 2))) _ HE.out.1 HE.out.2 I1.sl.2 J1.sl.2 HLs.out.1 HSM.out).mono ?_
    rintro e v2 ⟨pa, pc, np, rfl, hnp, op, b'⟩
    have eo : okA (2) (0) (0) (0) [] 0 n' = true := by first | exact HOK.out.symm | (have h := HOK.out; rw [← HE.out.1] at h; exact h.symm) | (have h := HOK.out; rw [← HE.out.2] at h; exact h.symm)
    rw [eo] at hnp op
    have C2 := bel_next C1 b'
    have D2 := D1.below b'
    have E2 := E1.below b'
    have I2 := I1.below b'
    have J2 := J1.below b'
    have HNP : Hid _ := hnp
    clear b' hnp C1 D1 E1 I1 J1 q0 q1 q2 q3 q4 q5
    have hpl : (putAV true (2) (0) (0) (0) [] (outU (zs.drop 2) (8 * ((n : Int) - 2)))).length ≤ 300 := by have h := putAV_le (2) (0) (0) (0) [] (outU (zs.drop 2) (8 * ((n : Int) - 2))) _ _ rfl rfl; rw [← HOK.out] at h; exact h
    obtain ⟨q0, q1, q2, q3, q4, q5⟩ := D2.six
    obtain ⟨y0, y1, y2, y3, y4, y5⟩ := E2.six
    have fy := E2.fro
    cases hZ : decide (putAV true (2) (0) (0) (0) [] (outU (zs.drop 2) (8 * ((n : Int) - 2))) = zs)
    · go_wp2_with fail
      refine (l3Same_any _ _ _ _ _ _ _ zs _ HNP.out HS.out.1 op.sl.2 (HS.out.2.1.below C2) (by omega) (by have := HS.out.1; omega) _ hZ).mono ?_
      rintro e v3 ⟨rfl, b'⟩
      have C3 := bel_next C2 b'
      have D3 := D2.below b'
      have E3 := E2.below b'
      have I3 := I2.below b'
      have J3 := J2.below b'
      clear b' C2 D2 E2 I2 J2 q0 q1 q2 q3 q4 q5 y0 y1 y2 y3 y4 y5 fy
      obtain ⟨q0, q1, q2, q3, q4, q5⟩ := D3.six
      obtain ⟨y0, y1, y2, y3, y4, y5⟩ := E3.six
      have fy := E3.fro
      go_wp2
      refine bodyPost_ret (v := .tuple #[rp 0 0 0 0 none none 0 0 0 0, .int .i64 3]) (by simp [results, Tryd.results13, go_sem, y0, y1, y2, y3, y4, y5]) rfl ?_
      exact enda_no2 (of_decide_eq_false hZ) (gpa_zero (belp_set6 C3 (Nat.le_refl _)))
    · go_wp2_with fail
      refine (l3Same_any _ _ _ _ _ _ _ zs _ HNP.out HS.out.1 op.sl.2 (HS.out.2.1.below C2) (by omega) (by have := HS.out.1; omega) _ hZ).mono ?_
      rintro e v3 ⟨rfl, b'⟩
      have C3 := bel_next C2 b'
      have D3 := D2.below b'
      have E3 := E2.below b'
      have I3 := I2.below b'
      have J3 := J2.below b'
      clear b' C2 D2 E2 I2 J2 q0 q1 q2 q3 q4 q5 y0 y1 y2 y3 y4 y5 fy
      obtain ⟨q0, q1, q2, q3, q4, q5⟩ := D3.six
      obtain ⟨y0, y1, y2, y3, y4, y5⟩ := E3.six
      have fy := E3.fro
      go_wp2
      refine bodyPost_ret (v := .tuple #[rp (2) (0) (0) (0) none a' 0 n' 0 c', .int .i64 0]) (by simp [results, Tryd.results13, go_sem, y0, y1, y2, y3, y4, y5]) rfl ?_
      exact enda_yes HOK.out.symm (of_decide_eq_true hZ) ⟨_, _, _, _, _, _, rfl, HE.out.1, HE.out.2, rowp_set6 I3 ⟨_, E3⟩ (by decide), rowp_set6 J3 ⟨_, E3⟩ (by decide), belp_set6 C3 (Nat.le_refl _)⟩

set_option maxRecDepth 20000 in
set_option maxHeartbeats 8000000 in
theorem specGetA_2n (a : Option Addr) (n cap : Nat) (zs : List Int) (w : World) (hn : n = zs.length) (hs : Sl w a zs) (hr : ∀ z ∈ zs, 0 ≤ z ∧ z ≤ 255) (hl : n ≤ 1048576) (hp : 0 < zs.length) (hcap : n ≤ cap) (hk : zs.getD 0 0 = 2) (h2 : ¬ 2 < n) :
    Calls Tryd.prog 13 #[.slice a n cap] w fun e w' => EndA 2 0 0 0 [] [] zs w w' e := by
  have hand : bits .and .u8 2 127 = 2 := by decide +kernel
  obtain ⟨W0, hW0⟩ : ∃ W0, W0 = w.alloc (.cells #[.int .i64 0, .int .i64 0, .int .i64 0, .int .i64 0, .slice none 0 0, .slice none 0 0] 27) := ⟨_, rfl⟩
  obtain ⟨W1, hW1⟩ : ∃ W1, W1 = W0.alloc (.cells #[.int .i64 2, .int .i64 0, .int .i64 0, .int .i64 0, .slice none 0 0, .slice none 0 0] 27) := ⟨_, rfl⟩
  have HW : Hid (W0 = _) := hW0
  have HW1 : Hid (W1 = W0.alloc (.cells #[.int .i64 2, .int .i64 0, .int .i64 0, .int .i64 0, .slice none 0 0, .slice none 0 0] 27)) := hW1
  have b0 : Below w.heap.size w W0 := by rw [hW0]; exact bel_alloc _ _
  have b1 : Below W0.heap.size W0 W1 := by rw [hW1]; exact bel_alloc _ _
  have R0 : Blk W0 w.heap.size 27 #[.int .i64 0, .int .i64 0, .int .i64 0, .int .i64 0, .slice none 0 0, .slice none 0 0] := by rw [hW0]; exact Blk.new _ _ _
  have hg : W0.heap.size = w.heap.size + 1 := by rw [hW0]; simp
  obtain ⟨G, hG⟩ : ∃ G, G = W0.heap.size := ⟨_, rfl⟩
  have HG : Hid (w.heap.size < G) := by show w.heap.size < G; omega
  have HGe : Hid (G = W0.heap.size) := hG
  have Q1 : Blk W1 G 27 #[.int .i64 2, .int .i64 0, .int .i64 0, .int .i64 0, .slice none 0 0, .slice none 0 0] := by rw [hW1, hG]; exact Blk.new _ _ _
  have R1 := R0.below b1
  have B1 := bel_next b0 b1
  obtain ⟨bk, off, ea, hbk, hc⟩ := cell_at hs hp
  rw [hk] at hc
  have hc0 : W0.cell? ⟨bk, off, none⟩ = some (.int .u8 2) := (b0.cell (p := ⟨bk, off, none⟩) hbk).trans (by simpa using hc)
  have hc1 : W1.cell? ⟨bk, off, none⟩ = some (.int .u8 2) := (B1.cell (p := ⟨bk, off, none⟩) hbk).trans (by simpa using hc)
  have hz : ¬ (n : Int) = 0 := by omega
  have hz0 : (0 : Int) < (n : Int) := by omega
  have HS : Hid (n = zs.length ∧ Sl w a zs ∧ (∀ z ∈ zs, 0 ≤ z ∧ z ≤ 255)) := ⟨hn, hs, hr⟩
  have HP : Hid (0 < zs.length) := hp
  have hl2 : n ≤ 2000000 := by omega
  subst ea
  clear hn hs hr hc hW0 hW1 hg hG R0 hk hp
  go_enter Tryd.func13, Tryd.ntmps13
  go_upto_region 1 with fail
  rw [← HW.out]
  go_wp2_with fail
  refine (l3Kind_any _ _ true rfl).mono ?_
  rintro e wx ⟨rfl, rfl⟩
  go_upto_region 13 with fail
  rw [← HW1.out]
  simp only [← HGe.out]
  clear hc0 b0 b1
  have k0 := Q1.cell 0 rfl
  have g2 : ¬ (2 : Int) < (n : Int) := by omega
  go_upto_region 21 with fail
  have OI : OwnI W1 w.heap.size (.slice none 0 0) [] := (ownI_nil _ _)
  have OB : OwnB W1 w.heap.size (.slice none 0 0) [] := (ownB_nil _ _)
  have HE : Hid (0 = ([] : List Int).length ∧ 0 = ([] : List Bool).length) := ⟨rfl, rfl⟩
  have HLs : Hid (([] : List Int).length ≤ 2000000 ∧ ([] : List Bool).length ≤ 20000000) := by show _ ∧ _; have := HS.out.1; exact ⟨by simp, by simp⟩
  obtain ⟨q0, q1, q2, q3, q4, q5⟩ := Q1.six
  obtain ⟨ok, hok⟩ : ∃ ok, ok = okA (2) (0) (0) (0) [] ([] : List Int).length ([] : List Bool).length := ⟨_, rfl⟩
  have HOK : Hid (ok = okA (2) (0) (0) (0) [] ([] : List Int).length ([] : List Bool).length) := hok
  go_wp2_with fail
  refine (specRespOk_any (2) (0) (0) (0) none none 0 0 0 0 [] _ HE.out.1 OI.sl.2 HLs.out.1 (by have := HLs.out; have := HE.out; omega) ok (by first | exact hok.symm | (rw [hok, ← HE.out.1]; rfl) | (rw [hok, ← HE.out.2]; rfl) | (rw [hok, ← HE.out.1]; done) | (rw [hok, ← HE.out.2]; done))).mono ?_
  rintro e v1 ⟨rfl, b'⟩
  have C1 := bel_next B1 b'
  have D1 := Q1.below b'
  have E1 := R1.below b'
  have I1 := OI.below b'
  have J1 := OB.below b'
  clear b' B1 Q1 R1 OI OB q0 q1 q2 q3 q4 q5 hok 
  obtain ⟨q0, q1, q2, q3, q4, q5⟩ := D1.six
  cases ok
  · obtain ⟨y0, y1, y2, y3, y4, y5⟩ := E1.six
    have fy := E1.fro
    go_wp2
    refine bodyPost_ret (v := .tuple #[rp 0 0 0 0 none none 0 0 0 0, .int .i64 3]) (by simp [results, Tryd.results13, go_sem, y0, y1, y2, y3, y4, y5]) rfl ?_
    exact enda_no1 HOK.out.symm (gpa_zero (belp_set6 C1 (Nat.le_refl _)))
  · have HSM : Hid (([] : List Bool).length ≤ 2000000) := by show _ ≤ _; have := (isA_small (zs := putA (2) (0) (0) (0) [] []) (by unfold isA; rw [← HOK.out]; simp)).2; omega
    go_wp2_with fail
    refine (specPutA_q (2) (0) (0) (0) none none 0 0 0 0 [] [] _ HE.out.1 HE.out.2 I1.sl.2 J1.sl.2 HLs.out.1 HSM.out).mono ?_
    rintro e v2 ⟨pa, pc, np, rfl, hnp, op, b'⟩
    have eo : okA (2) (0) (0) (0) [] 0 0 = true := by first | exact HOK.out.symm | (have h := HOK.out; rw [← HE.out.1] at h; exact h.symm) | (have h := HOK.out; rw [← HE.out.2] at h; exact h.symm)
    rw [eo] at hnp op
    have C2 := bel_next C1 b'
    have D2 := D1.below b'
    have E2 := E1.below b'
    have I2 := I1.below b'
    have J2 := J1.below b'
    have HNP : Hid _ := hnp
    clear b' hnp C1 D1 E1 I1 J1 q0 q1 q2 q3 q4 q5
    have hpl : (putAV true (2) (0) (0) (0) [] []).length ≤ 300 := by have h := putAV_le (2) (0) (0) (0) [] [] _ _ rfl rfl; rw [← HOK.out] at h; exact h
    obtain ⟨q0, q1, q2, q3, q4, q5⟩ := D2.six
    obtain ⟨y0, y1, y2, y3, y4, y5⟩ := E2.six
    have fy := E2.fro
    cases hZ : decide (putAV true (2) (0) (0) (0) [] [] = zs)
    · go_wp2_with fail
      refine (l3Same_any _ _ _ _ _ _ _ zs _ HNP.out HS.out.1 op.sl.2 (HS.out.2.1.below C2) (by omega) (by have := HS.out.1; omega) _ hZ).mono ?_
      rintro e v3 ⟨rfl, b'⟩
      have C3 := bel_next C2 b'
      have D3 := D2.below b'
      have E3 := E2.below b'
      have I3 := I2.below b'
      have J3 := J2.below b'
      clear b' C2 D2 E2 I2 J2 q0 q1 q2 q3 q4 q5 y0 y1 y2 y3 y4 y5 fy
      obtain ⟨q0, q1, q2, q3, q4, q5⟩ := D3.six
      obtain ⟨y0, y1, y2, y3, y4, y5⟩ := E3.six
      have fy := E3.fro
      go_wp2
      refine bodyPost_ret (v := .tuple #[rp 0 0 0 0 none none 0 0 0 0, .int .i64 3]) (by simp [results, Tryd.results13, go_sem, y0, y1, y2, y3, y4, y5]) rfl ?_
      exact enda_no2 (of_decide_eq_false hZ) (gpa_zero (belp_set6 C3 (Nat.le_refl _)))
    · go_wp2_with fail
      refine (l3Same_any _ _ _ _ _ _ _ zs _ HNP.out HS.out.1 op.sl.2 (HS.out.2.1.below C2) (by omega) (by have := HS.out.1; omega) _ hZ).mono ?_
      rintro e v3 ⟨rfl, b'⟩
      have C3 := bel_next C2 b'
      have D3 := D2.below b'
      have E3 := E2.below b'
      have I3 := I2.below b'
      have J3 := J2.below b'
      clear b' C2 D2 E2 I2 J2 q0 q1 q2 q3 q4 q5 y0 y1 y2 y3 y4 y5 fy
      obtain ⟨q0, q1, q2, q3, q4, q5⟩ := D3.six
      obtain ⟨y0, y1, y2, y3, y4, y5⟩ := E3.six
      have fy := E3.fro
      go_wp2
      refine bodyPost_ret (v := .tuple #[rp (2) (0) (0) (0) none none 0 0 0 0, .int .i64 0]) (by simp [results, Tryd.results13, go_sem, y0, y1, y2, y3, y4, y5]) rfl ?_
      exact enda_yes HOK.out.symm (of_decide_eq_true hZ) ⟨_, _, _, _, _, _, rfl, HE.out.1, HE.out.2, rowp_set6 I3 ⟨_, E3⟩ (by decide), rowp_set6 J3 ⟨_, E3⟩ (by decide), belp_set6 C3 (Nat.le_refl _)⟩

set_option maxRecDepth 20000 in
set_option maxHeartbeats 8000000 in
theorem specGetA_3 (a : Option Addr) (n cap : Nat) (zs : List Int) (w : World) (hn : n = zs.length) (hs : Sl w a zs) (hr : ∀ z ∈ zs, 0 ≤ z ∧ z ≤ 255) (hl : n ≤ 1048576) (hp : 0 < zs.length) (hcap : n ≤ cap) (hk : zs.getD 0 0 = 3) :
    Calls Tryd.prog 13 #[.slice a n cap] w fun e w' => EndA 3 0 0 0 (wsF zs 2) [] zs w w' e := by
  have hand : bits .and .u8 3 127 = 3 := by decide +kernel
  obtain ⟨W0, hW0⟩ : ∃ W0, W0 = w.alloc (.cells #[.int .i64 0, .int .i64 0, .int .i64 0, .int .i64 0, .slice none 0 0, .slice none 0 0] 27) := ⟨_, rfl⟩
  obtain ⟨W1, hW1⟩ : ∃ W1, W1 = W0.alloc (.cells #[.int .i64 3, .int .i64 0, .int .i64 0, .int .i64 0, .slice none 0 0, .slice none 0 0] 27) := ⟨_, rfl⟩
  have HW : Hid (W0 = _) := hW0
  have HW1 : Hid (W1 = W0.alloc (.cells #[.int .i64 3, .int .i64 0, .int .i64 0, .int .i64 0, .slice none 0 0, .slice none 0 0] 27)) := hW1
  have b0 : Below w.heap.size w W0 := by rw [hW0]; exact bel_alloc _ _
  have b1 : Below W0.heap.size W0 W1 := by rw [hW1]; exact bel_alloc _ _
  have R0 : Blk W0 w.heap.size 27 #[.int .i64 0, .int .i64 0, .int .i64 0, .int .i64 0, .slice none 0 0, .slice none 0 0] := by rw [hW0]; exact Blk.new _ _ _
  have hg : W0.heap.size = w.heap.size + 1 := by rw [hW0]; simp
  obtain ⟨G, hG⟩ : ∃ G, G = W0.heap.size := ⟨_, rfl⟩
  have HG : Hid (w.heap.size < G) := by show w.heap.size < G; omega
  have HGe : Hid (G = W0.heap.size) := hG
  have Q1 : Blk W1 G 27 #[.int .i64 3, .int .i64 0, .int .i64 0, .int .i64 0, .slice none 0 0, .slice none 0 0] := by rw [hW1, hG]; exact Blk.new _ _ _
  have R1 := R0.below b1
  have B1 := bel_next b0 b1
  obtain ⟨bk, off, ea, hbk, hc⟩ := cell_at hs hp
  rw [hk] at hc
  have hc0 : W0.cell? ⟨bk, off, none⟩ = some (.int .u8 3) := (b0.cell (p := ⟨bk, off, none⟩) hbk).trans (by simpa using hc)
  have hc1 : W1.cell? ⟨bk, off, none⟩ = some (.int .u8 3) := (B1.cell (p := ⟨bk, off, none⟩) hbk).trans (by simpa using hc)
  have hz : ¬ (n : Int) = 0 := by omega
  have hz0 : (0 : Int) < (n : Int) := by omega
  have HS : Hid (n = zs.length ∧ Sl w a zs ∧ (∀ z ∈ zs, 0 ≤ z ∧ z ≤ 255)) := ⟨hn, hs, hr⟩
  have HP : Hid (0 < zs.length) := hp
  have hl2 : n ≤ 2000000 := by omega
  subst ea
  clear hn hs hr hc hW0 hW1 hg hG R0 hk hp
  go_enter Tryd.func13, Tryd.ntmps13
  go_upto_region 1 with fail
  rw [← HW.out]
  go_wp2_with fail
  refine (l3Kind_any _ _ true rfl).mono ?_
  rintro e wx ⟨rfl, rfl⟩
  go_upto_region 13 with fail
  rw [← HW1.out]
  simp only [← HGe.out]
  clear hc0 b0 b1
  have k0 := Q1.cell 0 rfl
  go_upto_region 20 with fail
  go_wp2_with fail
  refine (l3GetWords_any _ n cap zs _ 2 _ rfl HS.out.1 (HS.out.2.1.below B1) HS.out.2.2 hl2 (by omega)).mono ?_
  rintro e w2 ⟨a', c', n', rfl, hn', oi, b'⟩
  have I := OwnI.mono oi B1.size
  have HN' : Hid (n' = _) := hn'
  clear hn' oi
  have B2 := bel_next B1 b'
  have Q2 := Q1.below b'
  have R2 := R1.below b'
  clear B1 Q1 R1  b'
  have I2 := I
  clear I
  have qc := Q2.cell 4 rfl
  have qf := Q2.fro 4
  have Q3 := Q2.set 4 (.slice a' n' c')
  have R3 := R2.setNe (g' := G) (j := 4) (y := .slice a' n' c') (by have := HG.out; omega)
  have B3 := B2.setCell (p := ⟨G, 4, none⟩) (by show w.heap.size ≤ G; have := HG.out; omega) (.slice a' n' c')
  have I3 : OwnI _ _ _ _ := row_setE (j := 4) (y := .slice a' n' c') I2 ⟨_, Q2⟩ (by decide)
  go_upto_region 21 with fail
  obtain ⟨w3, hw3⟩ : ∃ w3, w3 = w2.setCell ⟨G, 4, none⟩ (.slice a' n' c') := ⟨_, rfl⟩
  rw [← hw3] at Q3 R3 B3 I3 ⊢
  clear hw3 qc qf Q2 R2 B2 I2
  have OI : OwnI w3 w.heap.size (.slice a' n' c') (wsF zs 2) := I3
  have OB : OwnB w3 w.heap.size (.slice none 0 0) [] := (ownB_nil _ _)
  have HE : Hid (n' = ((wsF zs 2) : List Int).length ∧ 0 = ([] : List Bool).length) := ⟨HN'.out, rfl⟩
  have HLs : Hid (((wsF zs 2) : List Int).length ≤ 2000000 ∧ ([] : List Bool).length ≤ 20000000) := by show _ ∧ _; have := HS.out.1; exact ⟨by rw [wsF_length]; omega, by simp⟩
  obtain ⟨q0, q1, q2, q3, q4, q5⟩ := Q3.six
  obtain ⟨ok, hok⟩ : ∃ ok, ok = okA (3) (0) (0) (0) (wsF zs 2) ((wsF zs 2) : List Int).length ([] : List Bool).length := ⟨_, rfl⟩
  have HOK : Hid (ok = okA (3) (0) (0) (0) (wsF zs 2) ((wsF zs 2) : List Int).length ([] : List Bool).length) := hok
  go_wp2_with fail
  refine (specRespOk_any (3) (0) (0) (0) a' none n' 0 c' 0 (wsF zs 2) _ HE.out.1 OI.sl.2 HLs.out.1 (by have := HLs.out; have := HE.out; omega) ok (by first | exact hok.symm | (rw [hok, ← HE.out.1]; rfl) | (rw [hok, ← HE.out.2]; rfl) | (rw [hok, ← HE.out.1]; done) | (rw [hok, ← HE.out.2]; done))).mono ?_
  rintro e v1 ⟨rfl, b'⟩
  have C1 := bel_next B3 b'
  have D1 := Q3.below b'
  have E1 := R3.below b'
  have I1 := OI.below b'
  have J1 := OB.below b'
  clear b' B3 Q3 R3 OI OB q0 q1 q2 q3 q4 q5 hok I3
  obtain ⟨q0, q1, q2, q3, q4, q5⟩ := D1.six
  cases ok
  · obtain ⟨y0, y1, y2, y3, y4, y5⟩ := E1.six
    have fy := E1.fro
    go_wp2
    refine bodyPost_ret (v := .tuple #[rp 0 0 0 0 none none 0 0 0 0, .int .i64 3]) (by simp [results, Tryd.results13, go_sem, y0, y1, y2, y3, y4, y5]) rfl ?_
    exact enda_no1 HOK.out.symm (gpa_zero (belp_set6 C1 (Nat.le_refl _)))
  · have HSM : Hid (([] : List Bool).length ≤ 2000000) := by show _ ≤ _; have := (isA_small (zs := putA (3) (0) (0) (0) (wsF zs 2) []) (by unfold isA; rw [← HOK.out]; simp)).2; omega
    go_wp2_with fail
    refine (specPutA_q (3) (0) (0) (0) a' none n' 0 c' 0 (wsF zs 2) [] _ HE.out.1 HE.out.2 I1.sl.2 J1.sl.2 HLs.out.1 HSM.out).mono ?_
    rintro e v2 ⟨pa, pc, np, rfl, hnp, op, b'⟩
    have eo : okA (3) (0) (0) (0) (wsF zs 2) n' 0 = true := by first | exact HOK.out.symm | (have h := HOK.out; rw [← HE.out.1] at h; exact h.symm) | (have h := HOK.out; rw [← HE.out.2] at h; exact h.symm)
    rw [eo] at hnp op
    have C2 := bel_next C1 b'
    have D2 := D1.below b'
    have E2 := E1.below b'
    have I2 := I1.below b'
    have J2 := J1.below b'
    have HNP : Hid _ := hnp
    clear b' hnp C1 D1 E1 I1 J1 q0 q1 q2 q3 q4 q5
    have hpl : (putAV true (3) (0) (0) (0) (wsF zs 2) []).length ≤ 300 := by have h := putAV_le (3) (0) (0) (0) (wsF zs 2) [] _ _ rfl rfl; rw [← HOK.out] at h; exact h
    obtain ⟨q0, q1, q2, q3, q4, q5⟩ := D2.six
    obtain ⟨y0, y1, y2, y3, y4, y5⟩ := E2.six
    have fy := E2.fro
    cases hZ : decide (putAV true (3) (0) (0) (0) (wsF zs 2) [] = zs)
    · go_wp2_with fail
      refine (l3Same_any _ _ _ _ _ _ _ zs _ HNP.out HS.out.1 op.sl.2 (HS.out.2.1.below C2) (by omega) (by have := HS.out.1; omega) _ hZ).mono ?_
      rintro e v3 ⟨rfl, b'⟩
      have C3 := bel_next C2 b'
      have D3 := D2.below b'
      have E3 := E2.below b'
      have I3 := I2.below b'
      have J3 := J2.below b'
      clear b' C2 D2 E2 I2 J2 q0 q1 q2 q3 q4 q5 y0 y1 y2 y3 y4 y5 fy
      obtain ⟨q0, q1, q2, q3, q4, q5⟩ := D3.six
      obtain ⟨y0, y1, y2, y3, y4, y5⟩ := E3.six
      have fy := E3.fro
      go_wp2
      refine bodyPost_ret (v := .tuple #[rp 0 0 0 0 none none 0 0 0 0, .int .i64 3]) (by simp [results, Tryd.results13, go_sem, y0, y1, y2, y3, y4, y5]) rfl ?_
      exact enda_no2 (of_decide_eq_false hZ) (gpa_zero (belp_set6 C3 (Nat.le_refl _)))
    · go_wp2_with fail
      refine (l3Same_any _ _ _ _ _ _ _ zs _ HNP.out HS.out.1 op.sl.2 (HS.out.2.1.below C2) (by omega) (by have := HS.out.1; omega) _ hZ).mono ?_
      rintro e v3 ⟨rfl, b'⟩
      have C3 := bel_next C2 b'
      have D3 := D2.below b'
      have E3 := E2.below b'
      have I3 := I2.below b'
      have J3 := J2.below b'
      clear b' C2 D2 E2 I2 J2 q0 q1 q2 q3 q4 q5 y0 y1 y2 y3 y4 y5 fy
      obtain ⟨q0, q1, q2, q3, q4, q5⟩ := D3.six
      obtain ⟨y0, y1, y2, y3, y4, y5⟩ := E3.six
      have fy := E3.fro
      go_wp2
      refine bodyPost_ret (v := .tuple #[rp (3) (0) (0) (0) a' none n' 0 c' 0, .int .i64 0]) (by simp [results, Tryd.results13, go_sem, y0, y1, y2, y3, y4, y5]) rfl ?_
      exact enda_yes HOK.out.symm (of_decide_eq_true hZ) ⟨_, _, _, _, _, _, rfl, HE.out.1, HE.out.2, rowp_set6 I3 ⟨_, E3⟩ (by decide), rowp_set6 J3 ⟨_, E3⟩ (by decide), belp_set6 C3 (Nat.le_refl _)⟩

set_option maxRecDepth 20000 in
set_option maxHeartbeats 8000000 in
theorem specGetA_4 (a : Option Addr) (n cap : Nat) (zs : List Int) (w : World) (hn : n = zs.length) (hs : Sl w a zs) (hr : ∀ z ∈ zs, 0 ≤ z ∧ z ≤ 255) (hl : n ≤ 1048576) (hp : 0 < zs.length) (hcap : n ≤ cap) (hk : zs.getD 0 0 = 4) :
    Calls Tryd.prog 13 #[.slice a n cap] w fun e w' => EndA 4 0 0 0 (wsF zs 2) [] zs w w' e := by
  have hand : bits .and .u8 4 127 = 4 := by decide +kernel
  obtain ⟨W0, hW0⟩ : ∃ W0, W0 = w.alloc (.cells #[.int .i64 0, .int .i64 0, .int .i64 0, .int .i64 0, .slice none 0 0, .slice none 0 0] 27) := ⟨_, rfl⟩
  obtain ⟨W1, hW1⟩ : ∃ W1, W1 = W0.alloc (.cells #[.int .i64 4, .int .i64 0, .int .i64 0, .int .i64 0, .slice none 0 0, .slice none 0 0] 27) := ⟨_, rfl⟩
  have HW : Hid (W0 = _) := hW0
  have HW1 : Hid (W1 = W0.alloc (.cells #[.int .i64 4, .int .i64 0, .int .i64 0, .int .i64 0, .slice none 0 0, .slice none 0 0] 27)) := hW1
  have b0 : Below w.heap.size w W0 := by rw [hW0]; exact bel_alloc _ _
  have b1 : Below W0.heap.size W0 W1 := by rw [hW1]; exact bel_alloc _ _
  have R0 : Blk W0 w.heap.size 27 #[.int .i64 0, .int .i64 0, .int .i64 0, .int .i64 0, .slice none 0 0, .slice none 0 0] := by rw [hW0]; exact Blk.new _ _ _
  have hg : W0.heap.size = w.heap.size + 1 := by rw [hW0]; simp
  obtain ⟨G, hG⟩ : ∃ G, G = W0.heap.size := ⟨_, rfl⟩
  have HG : Hid (w.heap.size < G) := by show w.heap.size < G; omega
  have HGe : Hid (G = W0.heap.size) := hG
  have Q1 : Blk W1 G 27 #[.int .i64 4, .int .i64 0, .int .i64 0, .int .i64 0, .slice none 0 0, .slice none 0 0] := by rw [hW1, hG]; exact Blk.new _ _ _
  have R1 := R0.below b1
  have B1 := bel_next b0 b1
  obtain ⟨bk, off, ea, hbk, hc⟩ := cell_at hs hp
  rw [hk] at hc
  have hc0 : W0.cell? ⟨bk, off, none⟩ = some (.int .u8 4) := (b0.cell (p := ⟨bk, off, none⟩) hbk).trans (by simpa using hc)
  have hc1 : W1.cell? ⟨bk, off, none⟩ = some (.int .u8 4) := (B1.cell (p := ⟨bk, off, none⟩) hbk).trans (by simpa using hc)
  have hz : ¬ (n : Int) = 0 := by omega
  have hz0 : (0 : Int) < (n : Int) := by omega
  have HS : Hid (n = zs.length ∧ Sl w a zs ∧ (∀ z ∈ zs, 0 ≤ z ∧ z ≤ 255)) := ⟨hn, hs, hr⟩
  have HP : Hid (0 < zs.length) := hp
  have hl2 : n ≤ 2000000 := by omega
  subst ea
  clear hn hs hr hc hW0 hW1 hg hG R0 hk hp
  go_enter Tryd.func13, Tryd.ntmps13
  go_upto_region 1 with fail
  rw [← HW.out]
  go_wp2_with fail
  refine (l3Kind_any _ _ true rfl).mono ?_
  rintro e wx ⟨rfl, rfl⟩
  go_upto_region 13 with fail
  rw [← HW1.out]
  simp only [← HGe.out]
  clear hc0 b0 b1
  have k0 := Q1.cell 0 rfl
  go_upto_region 20 with fail
  go_wp2_with fail
  refine (l3GetWords_any _ n cap zs _ 2 _ rfl HS.out.1 (HS.out.2.1.below B1) HS.out.2.2 hl2 (by omega)).mono ?_
  rintro e w2 ⟨a', c', n', rfl, hn', oi, b'⟩
  have I := OwnI.mono oi B1.size
  have HN' : Hid (n' = _) := hn'
  clear hn' oi
  have B2 := bel_next B1 b'
  have Q2 := Q1.below b'
  have R2 := R1.below b'
  clear B1 Q1 R1  b'
  have I2 := I
  clear I
  have qc := Q2.cell 4 rfl
  have qf := Q2.fro 4
  have Q3 := Q2.set 4 (.slice a' n' c')
  have R3 := R2.setNe (g' := G) (j := 4) (y := .slice a' n' c') (by have := HG.out; omega)
  have B3 := B2.setCell (p := ⟨G, 4, none⟩) (by show w.heap.size ≤ G; have := HG.out; omega) (.slice a' n' c')
  have I3 : OwnI _ _ _ _ := row_setE (j := 4) (y := .slice a' n' c') I2 ⟨_, Q2⟩ (by decide)
  go_upto_region 21 with fail
  obtain ⟨w3, hw3⟩ : ∃ w3, w3 = w2.setCell ⟨G, 4, none⟩ (.slice a' n' c') := ⟨_, rfl⟩
  rw [← hw3] at Q3 R3 B3 I3 ⊢
  clear hw3 qc qf Q2 R2 B2 I2
  have OI : OwnI w3 w.heap.size (.slice a' n' c') (wsF zs 2) := I3
  have OB : OwnB w3 w.heap.size (.slice none 0 0) [] := (ownB_nil _ _)
  have HE : Hid (n' = ((wsF zs 2) : List Int).length ∧ 0 = ([] : List Bool).length) := ⟨HN'.out, rfl⟩
  have HLs : Hid (((wsF zs 2) : List Int).length ≤ 2000000 ∧ ([] : List Bool).length ≤ 20000000) := by show _ ∧ _; have := HS.out.1; exact ⟨by rw [wsF_length]; omega, by simp⟩
  obtain ⟨q0, q1, q2, q3, q4, q5⟩ := Q3.six
  obtain ⟨ok, hok⟩ : ∃ ok, ok = okA (4) (0) (0) (0) (wsF zs 2) ((wsF zs 2) : List Int).length ([] : List Bool).length := ⟨_, rfl⟩
  have HOK : Hid (ok = okA (4) (0) (0) (0) (wsF zs 2) ((wsF zs 2) : List Int).length ([] : List Bool).length) := hok
  go_wp2_with fail
  refine (specRespOk_any (4) (0) (0) (0) a' none n' 0 c' 0 (wsF zs 2) _ HE.out.1 OI.sl.2 HLs.out.1 (by have := HLs.out; have := HE.out; omega) ok (by first | exact hok.symm | (rw [hok, ← HE.out.1]; rfl) | (rw [hok, ← HE.out.2]; rfl) | (rw [hok, ← HE.out.1]; done) | (rw [hok, ← HE.out.2]; done))).mono ?_
  rintro e v1 ⟨rfl, b'⟩
  have C1 := bel_next B3 b'
  have D1 := Q3.below b'
  have E1 := R3.below b'
  have I1 := OI.below b'
  have J1 := OB.below b'
  clear b' B3 Q3 R3 OI OB q0 q1 q2 q3 q4 q5 hok I3
  obtain ⟨q0, q1, q2, q3, q4, q5⟩ := D1.six
  cases ok
  · obtain ⟨y0, y1, y2, y3, y4, y5⟩ := E1.six
    have fy := E1.fro
    go_wp2
    refine bodyPost_ret (v := .tuple #[rp 0 0 0 0 none none 0 0 0 0, .int .i64 3]) (by simp [results, Tryd.results13, go_sem, y0, y1, y2, y3, y4, y5]) rfl ?_
    exact enda_no1 HOK.out.symm (gpa_zero (belp_set6 C1 (Nat.le_refl _)))
  · have HSM : Hid (([] : List Bool).length ≤ 2000000) := by show _ ≤ _; have := (isA_small (zs := putA (4) (0) (0) (0) (wsF zs 2) []) (by unfold isA; rw [← HOK.out]; simp)).2; omega
    go_wp2_with fail
    refine (specPutA_q (4) (0) (0) (0) a' none n' 0 c' 0 (wsF zs 2) [] _ HE.out.1 HE.out.2 I1.sl.2 J1.sl.2 HLs.out.1 HSM.out).mono ?_
    rintro e v2 ⟨pa, pc, np, rfl, hnp, op, b'⟩
    have eo : okA (4) (0) (0) (0) (wsF zs 2) n' 0 = true := by first | exact HOK.out.symm | (have h := HOK.out; rw [← HE.out.1] at h; exact h.symm) | (have h := HOK.out; rw [← HE.out.2] at h; exact h.symm)
    rw [eo] at hnp op
    have C2 := bel_next C1 b'
    have D2 := D1.below b'
    have E2 := E1.below b'
    have I2 := I1.below b'
    have J2 := J1.below b'
    have HNP : Hid _ := hnp
    clear b' hnp C1 D1 E1 I1 J1 q0 q1 q2 q3 q4 q5
    have hpl : (putAV true (4) (0) (0) (0) (wsF zs 2) []).length ≤ 300 := by have h := putAV_le (4) (0) (0) (0) (wsF zs 2) [] _ _ rfl rfl; rw [← HOK.out] at h; exact h
    obtain ⟨q0, q1, q2, q3, q4, q5⟩ := D2.six
    obtain ⟨y0, y1, y2, y3, y4, y5⟩ := E2.six
    have fy := E2.fro
    cases hZ : decide (putAV true (4) (0) (0) (0) (wsF zs 2) [] = zs)
    · go_wp2_with fail
      refine (l3Same_any _ _ _ _ _ _ _ zs _ HNP.out HS.out.1 op.sl.2 (HS.out.2.1.below C2) (by omega) (by have := HS.out.1; omega) _ hZ).mono ?_
      rintro e v3 ⟨rfl, b'⟩
      have C3 := bel_next C2 b'
      have D3 := D2.below b'
      have E3 := E2.below b'
      have I3 := I2.below b'
      have J3 := J2.below b'
      clear b' C2 D2 E2 I2 J2 q0 q1 q2 q3 q4 q5 y0 y1 y2 y3 y4 y5 fy
      obtain ⟨q0, q1, q2, q3, q4, q5⟩ := D3.six
      obtain ⟨y0, y1, y2, y3, y4, y5⟩ := E3.six
      have fy := E3.fro
      go_wp2
      refine bodyPost_ret (v := .tuple #[rp 0 0 0 0 none none 0 0 0 0, .int .i64 3]) (by simp [results, Tryd.results13, go_sem, y0, y1, y2, y3, y4, y5]) rfl ?_
      exact enda_no2 (of_decide_eq_false hZ) (gpa_zero (belp_set6 C3 (Nat.le_refl _)))
    · go_wp2_with fail
      refine (l3Same_any _ _ _ _ _ _ _ zs _ HNP.out HS.out.1 op.sl.2 (HS.out.2.1.below C2) (by omega) (by have := HS.out.1; omega) _ hZ).mono ?_
      rintro e v3 ⟨rfl, b'⟩
      have C3 := bel_next C2 b'
      have D3 := D2.below b'
      have E3 := E2.below b'
      have I3 := I2.below b'
      have J3 := J2.below b'
      clear b' C2 D2 E2 I2 J2 q0 q1 q2 q3 q4 q5 y0 y1 y2 y3 y4 y5 fy
      obtain ⟨q0, q1, q2, q3, q4, q5⟩ := D3.six
      obtain ⟨y0, y1, y2, y3, y4, y5⟩ := E3.six
      have fy := E3.fro
      go_wp2
      refine bodyPost_ret (v := .tuple #[rp (4) (0) (0) (0) a' none n' 0 c' 0, .int .i64 0]) (by simp [results, Tryd.results13, go_sem, y0, y1, y2, y3, y4, y5]) rfl ?_
      exact enda_yes HOK.out.symm (of_decide_eq_true hZ) ⟨_, _, _, _, _, _, rfl, HE.out.1, HE.out.2, rowp_set6 I3 ⟨_, E3⟩ (by decide), rowp_set6 J3 ⟨_, E3⟩ (by decide), belp_set6 C3 (Nat.le_refl _)⟩

set_option maxRecDepth 20000 in
set_option maxHeartbeats 8000000 in
theorem specGetA_23 (a : Option Addr) (n cap : Nat) (zs : List Int) (w : World) (hn : n = zs.length) (hs : Sl w a zs) (hr : ∀ z ∈ zs, 0 ≤ z ∧ z ≤ 255) (hl : n ≤ 1048576) (hp : 0 < zs.length) (hcap : n ≤ cap) (hk : zs.getD 0 0 = 23) :
    Calls Tryd.prog 13 #[.slice a n cap] w fun e w' => EndA 23 0 0 0 (wsF zs 2) [] zs w w' e := by
  have hand : bits .and .u8 23 127 = 23 := by decide +kernel
  obtain ⟨W0, hW0⟩ : ∃ W0, W0 = w.alloc (.cells #[.int .i64 0, .int .i64 0, .int .i64 0, .int .i64 0, .slice none 0 0, .slice none 0 0] 27) := ⟨_, rfl⟩
  obtain ⟨W1, hW1⟩ : ∃ W1, W1 = W0.alloc (.cells #[.int .i64 23, .int .i64 0, .int .i64 0, .int .i64 0, .slice none 0 0, .slice none 0 0] 27) := ⟨_, rfl⟩
  have HW : Hid (W0 = _) := hW0
  have HW1 : Hid (W1 = W0.alloc (.cells #[.int .i64 23, .int .i64 0, .int .i64 0, .int .i64 0, .slice none 0 0, .slice none 0 0] 27)) := hW1
  have b0 : Below w.heap.size w W0 := by rw [hW0]; exact bel_alloc _ _
  have b1 : Below W0.heap.size W0 W1 := by rw [hW1]; exact bel_alloc _ _
  have R0 : Blk W0 w.heap.size 27 #[.int .i64 0, .int .i64 0, .int .i64 0, .int .i64 0, .slice none 0 0, .slice none 0 0] := by rw [hW0]; exact Blk.new _ _ _
  have hg : W0.heap.size = w.heap.size + 1 := by rw [hW0]; simp
  obtain ⟨G, hG⟩ : ∃ G, G = W0.heap.size := ⟨_, rfl⟩
  have HG : Hid (w.heap.size < G) := by show w.heap.size < G; omega
  have HGe : Hid (G = W0.heap.size) := hG
  have Q1 : Blk W1 G 27 #[.int .i64 23, .int .i64 0, .int .i64 0, .int .i64 0, .slice none 0 0, .slice none 0 0] := by rw [hW1, hG]; exact Blk.new _ _ _
  have R1 := R0.below b1
  have B1 := bel_next b0 b1
  obtain ⟨bk, off, ea, hbk, hc⟩ := cell_at hs hp
  rw [hk] at hc
  have hc0 : W0.cell? ⟨bk, off, none⟩ = some (.int .u8 23) := (b0.cell (p := ⟨bk, off, none⟩) hbk).trans (by simpa using hc)
  have hc1 : W1.cell? ⟨bk, off, none⟩ = some (.int .u8 23) := (B1.cell (p := ⟨bk, off, none⟩) hbk).trans (by simpa using hc)
  have hz : ¬ (n : Int) = 0 := by omega
  have hz0 : (0 : Int) < (n : Int) := by omega
  have HS : Hid (n = zs.length ∧ Sl w a zs ∧ (∀ z ∈ zs, 0 ≤ z ∧ z ≤ 255)) := ⟨hn, hs, hr⟩
  have HP : Hid (0 < zs.length) := hp
  have hl2 : n ≤ 2000000 := by omega
  subst ea
  clear hn hs hr hc hW0 hW1 hg hG R0 hk hp
  go_enter Tryd.func13, Tryd.ntmps13
  go_upto_region 1 with fail
  rw [← HW.out]
  go_wp2_with fail
  refine (l3Kind_any _ _ true rfl).mono ?_
  rintro e wx ⟨rfl, rfl⟩
  go_upto_region 13 with fail
  rw [← HW1.out]
  simp only [← HGe.out]
  clear hc0 b0 b1
  have k0 := Q1.cell 0 rfl
  go_upto_region 20 with fail
  go_wp2_with fail
  refine (l3GetWords_any _ n cap zs _ 2 _ rfl HS.out.1 (HS.out.2.1.below B1) HS.out.2.2 hl2 (by omega)).mono ?_
  rintro e w2 ⟨a', c', n', rfl, hn', oi, b'⟩
  have I := OwnI.mono oi B1.size
  have HN' : Hid (n' = _) := hn'
  clear hn' oi
  have B2 := bel_next B1 b'
  have Q2 := Q1.below b'
  have R2 := R1.below b'
  clear B1 Q1 R1  b'
  have I2 := I
  clear I
  have qc := Q2.cell 4 rfl
  have qf := Q2.fro 4
  have Q3 := Q2.set 4 (.slice a' n' c')
  have R3 := R2.setNe (g' := G) (j := 4) (y := .slice a' n' c') (by have := HG.out; omega)
  have B3 := B2.setCell (p := ⟨G, 4, none⟩) (by show w.heap.size ≤ G; have := HG.out; omega) (.slice a' n' c')
  have I3 : OwnI _ _ _ _ := row_setE (j := 4) (y := .slice a' n' c') I2 ⟨_, Q2⟩ (by decide)
  go_upto_region 21 with fail
  obtain ⟨w3, hw3⟩ : ∃ w3, w3 = w2.setCell ⟨G, 4, none⟩ (.slice a' n' c') := ⟨_, rfl⟩
  rw [← hw3] at Q3 R3 B3 I3 ⊢
  clear hw3 qc qf Q2 R2 B2 I2
  have OI : OwnI w3 w.heap.size (.slice a' n' c') (wsF zs 2) := I3
  have OB : OwnB w3 w.heap.size (.slice none 0 0) [] := (ownB_nil _ _)
  have HE : Hid (n' = ((wsF zs 2) : List Int).length ∧ 0 = ([] : List Bool).length) := ⟨HN'.out, rfl⟩
  have HLs : Hid (((wsF zs 2) : List Int).length ≤ 2000000 ∧ ([] : List Bool).length ≤ 20000000) := by show _ ∧ _; have := HS.out.1; exact ⟨by rw [wsF_length]; omega, by simp⟩
  obtain ⟨q0, q1, q2, q3, q4, q5⟩ := Q3.six
  obtain ⟨ok, hok⟩ : ∃ ok, ok = okA (23) (0) (0) (0) (wsF zs 2) ((wsF zs 2) : List Int).length ([] : List Bool).length := ⟨_, rfl⟩
  have HOK : Hid (ok = okA (23) (0) (0) (0) (wsF zs 2) ((wsF zs 2) : List Int).length ([] : List Bool).length) := hok
  go_wp2_with fail
  refine (specRespOk_any (23) (0) (0) (0) a' none n' 0 c' 0 (wsF zs 2) _ HE.out.1 OI.sl.2 HLs.out.1 (by have := HLs.out; have := HE.out; omega) ok (by first | exact hok.symm | (rw [hok, ← HE.out.1]; rfl) | (rw [hok, ← HE.out.2]; rfl) | (rw [hok, ← HE.out.1]; done) | (rw [hok, ← HE.out.2]; done))).mono ?_
  rintro e v1 ⟨rfl, b'⟩
  have C1 := bel_next B3 b'
  have D1 := Q3.below b'
  have E1 := R3.below b'
  have I1 := OI.below b'
  have J1 := OB.below b'
  clear b' B3 Q3 R3 OI OB q0 q1 q2 q3 q4 q5 hok I3
  obtain ⟨q0, q1, q2, q3, q4, q5⟩ := D1.six
  cases ok
  · obtain ⟨y0, y1, y2, y3, y4, y5⟩ := E1.six
    have fy := E1.fro
    go_wp2
    refine bodyPost_ret (v := .tuple #[rp 0 0 0 0 none none 0 0 0 0, .int .i64 3]) (by simp [results, Tryd.results13, go_sem, y0, y1, y2, y3, y4, y5]) rfl ?_
    exact enda_no1 HOK.out.symm (gpa_zero (belp_set6 C1 (Nat.le_refl _)))
  · have HSM : Hid (([] : List Bool).length ≤ 2000000) := by show _ ≤ _; have := (isA_small (zs := putA (23) (0) (0) (0) (wsF zs 2) []) (by unfold isA; rw [← HOK.out]; simp)).2; omega
    go_wp2_with fail
    refine (specPutA_q (23) (0) (0) (0) a' none n' 0 c' 0 (wsF zs 2) [] _ HE.out.1 HE.out.2 I1.sl.2 J1.sl.2 HLs.out.1 HSM.out).mono ?_
    rintro e v2 ⟨pa, pc, np, rfl, hnp, op, b'⟩
    have eo : okA (23) (0) (0) (0) (wsF zs 2) n' 0 = true := by first | exact HOK.out.symm | (have h := HOK.out; rw [← HE.out.1] at h; exact h.symm) | (have h := HOK.out; rw [← HE.out.2] at h; exact h.symm)
    rw [eo] at hnp op
    have C2 := bel_next C1 b'
    have D2 := D1.below b'
    have E2 := E1.below b'
    have I2 := I1.below b'
    have J2 := J1.below b'
    have HNP : Hid _ := hnp
    clear b' hnp C1 D1 E1 I1 J1 q0 q1 q2 q3 q4 q5
    have hpl : (putAV true (23) (0) (0) (0) (wsF zs 2) []).length ≤ 300 := by have h := putAV_le (23) (0) (0) (0) (wsF zs 2) [] _ _ rfl rfl; rw [← HOK.out] at h; exact h
    obtain ⟨q0, q1, q2, q3, q4, q5⟩ := D2.six
    obtain ⟨y0, y1, y2, y3, y4, y5⟩ := E2.six
    have fy := E2.fro
    cases hZ : decide (putAV true (23) (0) (0) (0) (wsF zs 2) [] = zs)
    · go_wp2_with fail
      refine (l3Same_any _ _ _ _ _ _ _ zs _ HNP.out HS.out.1 op.sl.2 (HS.out.2.1.below C2) (by omega) (by have := HS.out.1; omega) _ hZ).mono ?_
      rintro e v3 ⟨rfl, b'⟩
      have C3 := bel_next C2 b'
      have D3 := D2.below b'
      have E3 := E2.below b'
      have I3 := I2.below b'
      have J3 := J2.below b'
      clear b' C2 D2 E2 I2 J2 q0 q1 q2 q3 q4 q5 y0 y1 y2 y3 y4 y5 fy
      obtain ⟨q0, q1, q2, q3, q4, q5⟩ := D3.six
      obtain ⟨y0, y1, y2, y3, y4, y5⟩ := E3.six
      have fy := E3.fro
      go_wp2
      refine bodyPost_ret (v := .tuple #[rp 0 0 0 0 none none 0 0 0 0, .int .i64 3]) (by simp [results, Tryd.results13, go_sem, y0, y1, y2, y3, y4, y5]) rfl ?_
      exact enda_no2 (of_decide_eq_false hZ) (gpa_zero (belp_set6 C3 (Nat.le_refl _)))
    · go_wp2_with fail
      refine (l3Same_any _ _ _ _ _ _ _ zs _ HNP.out HS.out.1 op.sl.2 (HS.out.2.1.below C2) (by omega) (by have := HS.out.1; omega) _ hZ).mono ?_
      rintro e v3 ⟨rfl, b'⟩
      have C3 := bel_next C2 b'
      have D3 := D2.below b'
      have E3 := E2.below b'
      have I3 := I2.below b'
      have J3 := J2.below b'
      clear b' C2 D2 E2 I2 J2 q0 q1 q2 q3 q4 q5 y0 y1 y2 y3 y4 y5 fy
      obtain ⟨q0, q1, q2, q3, q4, q5⟩ := D3.six
      obtain ⟨y0, y1, y2, y3, y4, y5⟩ := E3.six
      have fy := E3.fro
      go_wp2
      refine bodyPost_ret (v := .tuple #[rp (23) (0) (0) (0) a' none n' 0 c' 0, .int .i64 0]) (by simp [results, Tryd.results13, go_sem, y0, y1, y2, y3, y4, y5]) rfl ?_
      exact enda_yes HOK.out.symm (of_decide_eq_true hZ) ⟨_, _, _, _, _, _, rfl, HE.out.1, HE.out.2, rowp_set6 I3 ⟨_, E3⟩ (by decide), rowp_set6 J3 ⟨_, E3⟩ (by decide), belp_set6 C3 (Nat.le_refl _)⟩

set_option maxRecDepth 20000 in
set_option maxHeartbeats 8000000 in
theorem specGetA_5 (a : Option Addr) (n cap : Nat) (zs : List Int) (w : World) (hn : n = zs.length) (hs : Sl w a zs) (hr : ∀ z ∈ zs, 0 ≤ z ∧ z ≤ 255) (hl : n ≤ 1048576) (hp : 0 < zs.length) (hcap : n ≤ cap) (hk : zs.getD 0 0 = 5) :
    Calls Tryd.prog 13 #[.slice a n cap] w fun e w' => EndA 5 0 (wAt zs 1) 0 [] [wAt zs 3 != 0] zs w w' e := by
  have hand : bits .and .u8 5 127 = 5 := by decide +kernel
  obtain ⟨W0, hW0⟩ : ∃ W0, W0 = w.alloc (.cells #[.int .i64 0, .int .i64 0, .int .i64 0, .int .i64 0, .slice none 0 0, .slice none 0 0] 27) := ⟨_, rfl⟩
  obtain ⟨W1, hW1⟩ : ∃ W1, W1 = W0.alloc (.cells #[.int .i64 5, .int .i64 0, .int .i64 0, .int .i64 0, .slice none 0 0, .slice none 0 0] 27) := ⟨_, rfl⟩
  have HW : Hid (W0 = _) := hW0
  have HW1 : Hid (W1 = W0.alloc (.cells #[.int .i64 5, .int .i64 0, .int .i64 0, .int .i64 0, .slice none 0 0, .slice none 0 0] 27)) := hW1
  have b0 : Below w.heap.size w W0 := by rw [hW0]; exact bel_alloc _ _
  have b1 : Below W0.heap.size W0 W1 := by rw [hW1]; exact bel_alloc _ _
  have R0 : Blk W0 w.heap.size 27 #[.int .i64 0, .int .i64 0, .int .i64 0, .int .i64 0, .slice none 0 0, .slice none 0 0] := by rw [hW0]; exact Blk.new _ _ _
  have hg : W0.heap.size = w.heap.size + 1 := by rw [hW0]; simp
  obtain ⟨G, hG⟩ : ∃ G, G = W0.heap.size := ⟨_, rfl⟩
  have HG : Hid (w.heap.size < G) := by show w.heap.size < G; omega
  have HGe : Hid (G = W0.heap.size) := hG
  have Q1 : Blk W1 G 27 #[.int .i64 5, .int .i64 0, .int .i64 0, .int .i64 0, .slice none 0 0, .slice none 0 0] := by rw [hW1, hG]; exact Blk.new _ _ _
  have R1 := R0.below b1
  have B1 := bel_next b0 b1
  obtain ⟨bk, off, ea, hbk, hc⟩ := cell_at hs hp
  rw [hk] at hc
  have hc0 : W0.cell? ⟨bk, off, none⟩ = some (.int .u8 5) := (b0.cell (p := ⟨bk, off, none⟩) hbk).trans (by simpa using hc)
  have hc1 : W1.cell? ⟨bk, off, none⟩ = some (.int .u8 5) := (B1.cell (p := ⟨bk, off, none⟩) hbk).trans (by simpa using hc)
  have hz : ¬ (n : Int) = 0 := by omega
  have hz0 : (0 : Int) < (n : Int) := by omega
  have HS : Hid (n = zs.length ∧ Sl w a zs ∧ (∀ z ∈ zs, 0 ≤ z ∧ z ≤ 255)) := ⟨hn, hs, hr⟩
  have HP : Hid (0 < zs.length) := hp
  have hl2 : n ≤ 2000000 := by omega
  subst ea
  clear hn hs hr hc hW0 hW1 hg hG R0 hk hp
  go_enter Tryd.func13, Tryd.ntmps13
  go_upto_region 1 with fail
  rw [← HW.out]
  go_wp2_with fail
  refine (l3Kind_any _ _ true rfl).mono ?_
  rintro e wx ⟨rfl, rfl⟩
  go_upto_region 13 with fail
  rw [← HW1.out]
  simp only [← HGe.out]
  clear hc0 b0 b1
  have k0 := Q1.cell 0 rfl
  go_upto_region 4 with fail
  go_wp2_with fail
  refine (specWordAt_q _ n cap zs _ 1 _ rfl HS.out.1 (HS.out.2.1.below B1) HS.out.2.2 hl2).mono ?_
  rintro e w2 ⟨rfl, b'⟩
  have B2 := bel_next B1 b'
  have Q2 := Q1.below b'
  have R2 := R1.below b'
  clear B1 Q1 R1  b'
  have k0 := Q2.cell 0 rfl
  have qc := Q2.cell 2 rfl
  have qf := Q2.fro 2
  have Q3 := Q2.set 2 (.int .i64 (wAt zs 1))
  have R3 := R2.setNe (g' := G) (j := 2) (y := .int .i64 (wAt zs 1)) (by have := HG.out; omega)
  have B3 := B2.setCell (p := ⟨G, 2, none⟩) (by show w.heap.size ≤ G; have := HG.out; omega) (.int .i64 (wAt zs 1))
  go_upto_region 5 with fail
  obtain ⟨w3, hw3⟩ : ∃ w3, w3 = w2.setCell ⟨G, 2, none⟩ (.int .i64 (wAt zs 1)) := ⟨_, rfl⟩
  rw [← hw3] at Q3 R3 B3 ⊢
  clear hw3 qc qf Q2 R2 B2 
  go_wp2_with fail
  refine (specWordAt_q _ n cap zs _ 3 _ rfl HS.out.1 (HS.out.2.1.below B3) HS.out.2.2 hl2).mono ?_
  rintro e w4 ⟨rfl, b'⟩
  have B4 := bel_next B3 b'
  have Q4 := Q3.below b'
  have R4 := R3.below b'
  clear B3 Q3 R3  b'
  have k0 := Q4.cell 0 rfl
  have HB3 : Hid (0 ≤ wAt zs 3 ∧ wAt zs 3 ≤ 65535) := wAt_bd HS.out.2.2 3
  go_upto_region 9 with fail
  have b' := bel_alloc w4 (.cells #[.bool (wAt zs 3 != 0)] 4)
  have J := ownB_lit1 w4 (wAt zs 3 != 0) w.heap.size w4.heap.size B4.size rfl
  have B5 := bel_next B4 b'
  have Q5 := Q4.below b'
  have R5 := R4.below b'
  clear B4 Q4 R4  b'
  have J5 := J
  clear J
  have qc := Q5.cell 5 rfl
  have qf := Q5.fro 5
  have Q6 := Q5.set 5 (.slice (some ⟨w4.heap.size, 0, none⟩) 1 1)
  have R6 := R5.setNe (g' := G) (j := 5) (y := .slice (some ⟨w4.heap.size, 0, none⟩) 1 1) (by have := HG.out; omega)
  have B6 := B5.setCell (p := ⟨G, 5, none⟩) (by show w.heap.size ≤ G; have := HG.out; omega) (.slice (some ⟨w4.heap.size, 0, none⟩) 1 1)
  have J6 : OwnB _ _ _ _ := row_setE (j := 5) (y := .slice (some ⟨w4.heap.size, 0, none⟩) 1 1) J5 ⟨_, Q5⟩ (by decide)
  go_upto_region 21 with fail
  obtain ⟨w6, hw6⟩ : ∃ w6, w6 = (w4.alloc (.cells #[.bool (wAt zs 3 != 0)] 4)).setCell ⟨G, 5, none⟩ (.slice (some ⟨w4.heap.size, 0, none⟩) 1 1) := ⟨_, rfl⟩
  rw [← hw6] at Q6 R6 B6 J6 ⊢
  clear hw6 qc qf Q5 R5 B5 J5
  have OI : OwnI w6 w.heap.size (.slice none 0 0) [] := (ownI_nil _ _)
  have OB : OwnB w6 w.heap.size (.slice (some ⟨w4.heap.size, 0, none⟩) 1 1) [wAt zs 3 != 0] := J6
  have HE : Hid (0 = ([] : List Int).length ∧ 1 = ([wAt zs 3 != 0] : List Bool).length) := ⟨rfl, rfl⟩
  have HLs : Hid (([] : List Int).length ≤ 2000000 ∧ ([wAt zs 3 != 0] : List Bool).length ≤ 20000000) := by show _ ∧ _; have := HS.out.1; exact ⟨by simp, by simp⟩
  obtain ⟨q0, q1, q2, q3, q4, q5⟩ := Q6.six
  obtain ⟨ok, hok⟩ : ∃ ok, ok = okA (5) (0) ((wAt zs 1)) (0) [] ([] : List Int).length ([wAt zs 3 != 0] : List Bool).length := ⟨_, rfl⟩
  have HOK : Hid (ok = okA (5) (0) ((wAt zs 1)) (0) [] ([] : List Int).length ([wAt zs 3 != 0] : List Bool).length) := hok
  go_wp2_with fail
  refine (specRespOk_any (5) (0) ((wAt zs 1)) (0) none (some ⟨w4.heap.size, 0, none⟩) 0 1 0 1 [] _ HE.out.1 OI.sl.2 HLs.out.1 (by have := HLs.out; have := HE.out; omega) ok (by first | exact hok.symm | (rw [hok, ← HE.out.1]; rfl) | (rw [hok, ← HE.out.2]; rfl) | (rw [hok, ← HE.out.1]; done) | (rw [hok, ← HE.out.2]; done))).mono ?_
  rintro e v1 ⟨rfl, b'⟩
  have C1 := bel_next B6 b'
  have D1 := Q6.below b'
  have E1 := R6.below b'
  have I1 := OI.below b'
  have J1 := OB.below b'
  clear b' B6 Q6 R6 OI OB q0 q1 q2 q3 q4 q5 hok J6
  obtain ⟨q0, q1, q2, q3, q4, q5⟩ := D1.six
  cases ok
  · obtain ⟨y0, y1, y2, y3, y4, y5⟩ := E1.six
    have fy := E1.fro
    go_wp2
    refine bodyPost_ret (v := .tuple #[rp 0 0 0 0 none none 0 0 0 0, .int .i64 3]) (by simp [results, Tryd.results13, go_sem, y0, y1, y2, y3, y4, y5]) rfl ?_
    exact enda_no1 HOK.out.symm (gpa_zero (belp_set6 C1 (Nat.le_refl _)))
  · have HSM : Hid (([wAt zs 3 != 0] : List Bool).length ≤ 2000000) := by show _ ≤ _; have := (isA_small (zs := putA (5) (0) ((wAt zs 1)) (0) [] [wAt zs 3 != 0]) (by unfold isA; rw [← HOK.out]; simp)).2; omega
    go_wp2_with fail
    refine (specPutA_q (5) (0) ((wAt zs 1)) (0) none (some ⟨w4.heap.size, 0, none⟩) 0 1 0 1 [] [wAt zs 3 != 0] _ HE.out.1 HE.out.2 I1.sl.2 J1.sl.2 HLs.out.1 HSM.out).mono ?_
    rintro e v2 ⟨pa, pc, np, rfl, hnp, op, b'⟩
    have eo : okA (5) (0) ((wAt zs 1)) (0) [] 0 1 = true := by first | exact HOK.out.symm | (have h := HOK.out; rw [← HE.out.1] at h; exact h.symm) | (have h := HOK.out; rw [← HE.out.2] at h; exact h.symm)
    rw [eo] at hnp op
    have C2 := bel_next C1 b'
    have D2 := D1.below b'
    have E2 := E1.below b'
    have I2 := I1.below b'
    have J2 := J1.below b'
    have HNP : Hid _ := hnp
    clear b' hnp C1 D1 E1 I1 J1 q0 q1 q2 q3 q4 q5
    have hpl : (putAV true (5) (0) ((wAt zs 1)) (0) [] [wAt zs 3 != 0]).length ≤ 300 := by have h := putAV_le (5) (0) ((wAt zs 1)) (0) [] [wAt zs 3 != 0] _ _ rfl rfl; rw [← HOK.out] at h; exact h
    obtain ⟨q0, q1, q2, q3, q4, q5⟩ := D2.six
    obtain ⟨y0, y1, y2, y3, y4, y5⟩ := E2.six
    have fy := E2.fro
    cases hZ : decide (putAV true (5) (0) ((wAt zs 1)) (0) [] [wAt zs 3 != 0] = zs)
    · go_wp2_with fail
      refine (l3Same_any _ _ _ _ _ _ _ zs _ HNP.out HS.out.1 op.sl.2 (HS.out.2.1.below C2) (by omega) (by have := HS.out.1; omega) _ hZ).mono ?_
      rintro e v3 ⟨rfl, b'⟩
      have C3 := bel_next C2 b'
      have D3 := D2.below b'
      have E3 := E2.below b'
      have I3 := I2.below b'
      have J3 := J2.below b'
      clear b' C2 D2 E2 I2 J2 q0 q1 q2 q3 q4 q5 y0 y1 y2 y3 y4 y5 fy
      obtain ⟨q0, q1, q2, q3, q4, q5⟩ := D3.six
      obtain ⟨y0, y1, y2, y3, y4, y5⟩ := E3.six
      have fy := E3.fro
      go_wp2
      refine bodyPost_ret (v := .tuple #[rp 0 0 0 0 none none 0 0 0 0, .int .i64 3]) (by simp [results, Tryd.results13, go_sem, y0, y1, y2, y3, y4, y5]) rfl ?_
      exact enda_no2 (of_decide_eq_false hZ) (gpa_zero (belp_set6 C3 (Nat.le_refl _)))
    · go_wp2_with fail
      refine (l3Same_any _ _ _ _ _ _ _ zs _ HNP.out HS.out.1 op.sl.2 (HS.out.2.1.below C2) (by omega) (by have := HS.out.1; omega) _ hZ).mono ?_
      rintro e v3 ⟨rfl, b'⟩
      have C3 := bel_next C2 b'
      have D3 := D2.below b'
      have E3 := E2.below b'
      have I3 := I2.below b'
      have J3 := J2.below b'
      clear b' C2 D2 E2 I2 J2 q0 q1 q2 q3 q4 q5 y0 y1 y2 y3 y4 y5 fy
      obtain ⟨q0, q1, q2, q3, q4, q5⟩ := D3.six
      obtain ⟨y0, y1, y2, y3, y4, y5⟩ := E3.six
      have fy := E3.fro
      go_wp2
      refine bodyPost_ret (v := .tuple #[rp (5) (0) ((wAt zs 1)) (0) none (some ⟨w4.heap.size, 0, none⟩) 0 1 0 1, .int .i64 0]) (by simp [results, Tryd.results13, go_sem, y0, y1, y2, y3, y4, y5]) rfl ?_
      exact enda_yes HOK.out.symm (of_decide_eq_true hZ) ⟨_, _, _, _, _, _, rfl, HE.out.1, HE.out.2, rowp_set6 I3 ⟨_, E3⟩ (by decide), rowp_set6 J3 ⟨_, E3⟩ (by decide), belp_set6 C3 (Nat.le_refl _)⟩

set_option maxRecDepth 20000 in
set_option maxHeartbeats 8000000 in
theorem specGetA_6 (a : Option Addr) (n cap : Nat) (zs : List Int) (w : World) (hn : n = zs.length) (hs : Sl w a zs) (hr : ∀ z ∈ zs, 0 ≤ z ∧ z ≤ 255) (hl : n ≤ 1048576) (hp : 0 < zs.length) (hcap : n ≤ cap) (hk : zs.getD 0 0 = 6) :
    Calls Tryd.prog 13 #[.slice a n cap] w fun e w' => EndA 6 0 (wAt zs 1) 0 (wsF zs 3) [] zs w w' e := by
  have hand : bits .and .u8 6 127 = 6 := by decide +kernel
  obtain ⟨W0, hW0⟩ : ∃ W0, W0 = w.alloc (.cells #[.int .i64 0, .int .i64 0, .int .i64 0, .int .i64 0, .slice none 0 0, .slice none 0 0] 27) := ⟨_, rfl⟩
  obtain ⟨W1, hW1⟩ : ∃ W1, W1 = W0.alloc (.cells #[.int .i64 6, .int .i64 0, .int .i64 0, .int .i64 0, .slice none 0 0, .slice none 0 0] 27) := ⟨_, rfl⟩
  have HW : Hid (W0 = _) := hW0
  have HW1 : Hid (W1 = W0.alloc (.cells #[.int .i64 6, .int .i64 0, .int .i64 0, .int .i64 0, .slice none 0 0, .slice none 0 0] 27)) := hW1
  have b0 : Below w.heap.size w W0 := by rw [hW0]; exact bel_alloc _ _
  have b1 : Below W0.heap.size W0 W1 := by rw [hW1]; exact bel_alloc _ _
  have R0 : Blk W0 w.heap.size 27 #[.int .i64 0, .int .i64 0, .int .i64 0, .int .i64 0, .slice none 0 0, .slice none 0 0] := by rw [hW0]; exact Blk.new _ _ _
  have hg : W0.heap.size = w.heap.size + 1 := by rw [hW0]; simp
  obtain ⟨G, hG⟩ : ∃ G, G = W0.heap.size := ⟨_, rfl⟩
  have HG : Hid (w.heap.size < G) := by show w.heap.size < G; omega
  have HGe : Hid (G = W0.heap.size) := hG
  have Q1 : Blk W1 G 27 #[.int .i64 6, .int .i64 0, .int .i64 0, .int .i64 0, .slice none 0 0, .slice none 0 0] := by rw [hW1, hG]; exact Blk.new _ _ _
  have R1 := R0.below b1
  have B1 := bel_next b0 b1
  obtain ⟨bk, off, ea, hbk, hc⟩ := cell_at hs hp
  rw [hk] at hc
  have hc0 : W0.cell? ⟨bk, off, none⟩ = some (.int .u8 6) := (b0.cell (p := ⟨bk, off, none⟩) hbk).trans (by simpa using hc)
  have hc1 : W1.cell? ⟨bk, off, none⟩ = some (.int .u8 6) := (B1.cell (p := ⟨bk, off, none⟩) hbk).trans (by simpa using hc)
  have hz : ¬ (n : Int) = 0 := by omega
  have hz0 : (0 : Int) < (n : Int) := by omega
  have HS : Hid (n = zs.length ∧ Sl w a zs ∧ (∀ z ∈ zs, 0 ≤ z ∧ z ≤ 255)) := ⟨hn, hs, hr⟩
  have HP : Hid (0 < zs.length) := hp
  have hl2 : n ≤ 2000000 := by omega
  subst ea
  clear hn hs hr hc hW0 hW1 hg hG R0 hk hp
  go_enter Tryd.func13, Tryd.ntmps13
  go_upto_region 1 with fail
  rw [← HW.out]
  go_wp2_with fail
  refine (l3Kind_any _ _ true rfl).mono ?_
  rintro e wx ⟨rfl, rfl⟩
  go_upto_region 13 with fail
  rw [← HW1.out]
  simp only [← HGe.out]
  clear hc0 b0 b1
  have k0 := Q1.cell 0 rfl
  go_upto_region 4 with fail
  go_wp2_with fail
  refine (specWordAt_q _ n cap zs _ 1 _ rfl HS.out.1 (HS.out.2.1.below B1) HS.out.2.2 hl2).mono ?_
  rintro e w2 ⟨rfl, b'⟩
  have B2 := bel_next B1 b'
  have Q2 := Q1.below b'
  have R2 := R1.below b'
  clear B1 Q1 R1  b'
  have k0 := Q2.cell 0 rfl
  have qc := Q2.cell 2 rfl
  have qf := Q2.fro 2
  have Q3 := Q2.set 2 (.int .i64 (wAt zs 1))
  have R3 := R2.setNe (g' := G) (j := 2) (y := .int .i64 (wAt zs 1)) (by have := HG.out; omega)
  have B3 := B2.setCell (p := ⟨G, 2, none⟩) (by show w.heap.size ≤ G; have := HG.out; omega) (.int .i64 (wAt zs 1))
  go_upto_region 5 with fail
  obtain ⟨w3, hw3⟩ : ∃ w3, w3 = w2.setCell ⟨G, 2, none⟩ (.int .i64 (wAt zs 1)) := ⟨_, rfl⟩
  rw [← hw3] at Q3 R3 B3 ⊢
  clear hw3 qc qf Q2 R2 B2 
  go_wp2_with fail
  refine (specWordAt_q _ n cap zs _ 3 _ rfl HS.out.1 (HS.out.2.1.below B3) HS.out.2.2 hl2).mono ?_
  rintro e w4 ⟨rfl, b'⟩
  have B4 := bel_next B3 b'
  have Q4 := Q3.below b'
  have R4 := R3.below b'
  clear B3 Q3 R3  b'
  have k0 := Q4.cell 0 rfl
  go_upto_region 12 with fail
  go_wp2_with fail
  refine (l3GetWords_any _ n cap zs _ 3 _ rfl HS.out.1 (HS.out.2.1.below B4) HS.out.2.2 hl2 (by omega)).mono ?_
  rintro e w5 ⟨a', c', n', rfl, hn', oi, b'⟩
  have I := OwnI.mono oi B4.size
  have HN' : Hid (n' = _) := hn'
  clear hn' oi
  have B5 := bel_next B4 b'
  have Q5 := Q4.below b'
  have R5 := R4.below b'
  clear B4 Q4 R4  b'
  have I5 := I
  clear I
  have qc := Q5.cell 4 rfl
  have qf := Q5.fro 4
  have Q6 := Q5.set 4 (.slice a' n' c')
  have R6 := R5.setNe (g' := G) (j := 4) (y := .slice a' n' c') (by have := HG.out; omega)
  have B6 := B5.setCell (p := ⟨G, 4, none⟩) (by show w.heap.size ≤ G; have := HG.out; omega) (.slice a' n' c')
  have I6 : OwnI _ _ _ _ := row_setE (j := 4) (y := .slice a' n' c') I5 ⟨_, Q5⟩ (by decide)
  go_upto_region 21 with fail
  obtain ⟨w6, hw6⟩ : ∃ w6, w6 = w5.setCell ⟨G, 4, none⟩ (.slice a' n' c') := ⟨_, rfl⟩
  rw [← hw6] at Q6 R6 B6 I6 ⊢
  clear hw6 qc qf Q5 R5 B5 I5
  have OI : OwnI w6 w.heap.size (.slice a' n' c') (wsF zs 3) := I6
  have OB : OwnB w6 w.heap.size (.slice none 0 0) [] := (ownB_nil _ _)
  have HE : Hid (n' = ((wsF zs 3) : List Int).length ∧ 0 = ([] : List Bool).length) := ⟨HN'.out, rfl⟩
  have HLs : Hid (((wsF zs 3) : List Int).length ≤ 2000000 ∧ ([] : List Bool).length ≤ 20000000) := by show _ ∧ _; have := HS.out.1; exact ⟨by rw [wsF_length]; omega, by simp⟩
  obtain ⟨q0, q1, q2, q3, q4, q5⟩ := Q6.six
  obtain ⟨ok, hok⟩ : ∃ ok, ok = okA (6) (0) ((wAt zs 1)) (0) (wsF zs 3) ((wsF zs 3) : List Int).length ([] : List Bool).length := ⟨_, rfl⟩
  have HOK : Hid (ok = okA (6) (0) ((wAt zs 1)) (0) (wsF zs 3) ((wsF zs 3) : List Int).length ([] : List Bool).length) := hok
  go_wp2_with fail
  refine (specRespOk_any (6) (0) ((wAt zs 1)) (0) a' none n' 0 c' 0 (wsF zs 3) _ HE.out.1 OI.sl.2 HLs.out.1 (by have := HLs.out; have := HE.out; omega) ok (by first | exact hok.symm | (rw [hok, ← HE.out.1]; rfl) | (rw [hok, ← HE.out.2]; rfl) | (rw [hok, ← HE.out.1]; done) | (rw [hok, ← HE.out.2]; done))).mono ?_
  rintro e v1 ⟨rfl, b'⟩
  have C1 := bel_next B6 b'
  have D1 := Q6.below b'
  have E1 := R6.below b'
  have I1 := OI.below b'
  have J1 := OB.below b'
  clear b' B6 Q6 R6 OI OB q0 q1 q2 q3 q4 q5 hok I6
  obtain ⟨q0, q1, q2, q3, q4, q5⟩ := D1.six
  cases ok
  · obtain ⟨y0, y1, y2, y3, y4, y5⟩ := E1.six
    have fy := E1.fro
    go_wp2
    refine bodyPost_ret (v := .tuple #[rp 0 0 0 0 none none 0 0 0 0, .int .i64 3]) (by simp [results, Tryd.results13, go_sem, y0, y1, y2, y3, y4, y5]) rfl ?_
    exact enda_no1 HOK.out.symm (gpa_zero (belp_set6 C1 (Nat.le_refl _)))
  · have HSM : Hid (([] : List Bool).length ≤ 2000000) := by show _ ≤ _; have := (isA_small (zs := putA (6) (0) ((wAt zs 1)) (0) (wsF zs 3) []) (by unfold isA; rw [← HOK.out]; simp)).2; omega
    go_wp2_with fail
    refine (specPutA_q (6) (0) ((wAt zs 1)) (0) a' none n' 0 c' 0 (wsF zs 3) [] _ HE.out.1 HE.out.2 I1.sl.2 J1.sl.2 HLs.out.1 HSM.out).mono ?_
    rintro e v2 ⟨pa, pc, np, rfl, hnp, op, b'⟩
    have eo : okA (6) (0) ((wAt zs 1)) (0) (wsF zs 3) n' 0 = true := by first | exact HOK.out.symm | (have h := HOK.out; rw [← HE.out.1] at h; exact h.symm) | (have h := HOK.out; rw [← HE.out.2] at h; exact h.symm)
    rw [eo] at hnp op
    have C2 := bel_next C1 b'
    have D2 := D1.below b'
    have E2 := E1.below b'
    have I2 := I1.below b'
    have J2 := J1.below b'
    have HNP : Hid _ := hnp
    clear b' hnp C1 D1 E1 I1 J1 q0 q1 q2 q3 q4 q5
    have hpl : (putAV true (6) (0) ((wAt zs 1)) (0) (wsF zs 3) []).length ≤ 300 := by have h := putAV_le (6) (0) ((wAt zs 1)) (0) (wsF zs 3) [] _ _ rfl rfl; rw [← HOK.out] at h; exact h
    obtain ⟨q0, q1, q2, q3, q4, q5⟩ := D2.six
    obtain ⟨y0, y1, y2, y3, y4, y5⟩ := E2.six
    have fy := E2.fro
    cases hZ : decide (putAV true (6) (0) ((wAt zs 1)) (0) (wsF zs 3) [] = zs)
    · go_wp2_with fail
      refine (l3Same_any _ _ _ _ _ _ _ zs _ HNP.out HS.out.1 op.sl.2 (HS.out.2.1.below C2) (by omega) (by have := HS.out.1; omega) _ hZ).mono ?_
      rintro e v3 ⟨rfl, b'⟩
      have C3 := bel_next C2 b'
      have D3 := D2.below b'
      have E3 := E2.below b'
      have I3 := I2.below b'
      have J3 := J2.below b'
      clear b' C2 D2 E2 I2 J2 q0 q1 q2 q3 q4 q5 y0 y1 y2 y3 y4 y5 fy
      obtain ⟨q0, q1, q2, q3, q4, q5⟩ := D3.six
      obtain ⟨y0, y1, y2, y3, y4, y5⟩ := E3.six
      have fy := E3.fro
      go_wp2
      refine bodyPost_ret (v := .tuple #[rp 0 0 0 0 none none 0 0 0 0, .int .i64 3]) (by simp [results, Tryd.results13, go_sem, y0, y1, y2, y3, y4, y5]) rfl ?_
      exact enda_no2 (of_decide_eq_false hZ) (gpa_zero (belp_set6 C3 (Nat.le_refl _)))
    · go_wp2_with fail
      refine (l3Same_any _ _ _ _ _ _ _ zs _ HNP.out HS.out.1 op.sl.2 (HS.out.2.1.below C2) (by omega) (by have := HS.out.1; omega) _ hZ).mono ?_
      rintro e v3 ⟨rfl, b'⟩
      have C3 := bel_next C2 b'
      have D3 := D2.below b'
      have E3 := E2.below b'
      have I3 := I2.below b'
      have J3 := J2.below b'
      clear b' C2 D2 E2 I2 J2 q0 q1 q2 q3 q4 q5 y0 y1 y2 y3 y4 y5 fy
      obtain ⟨q0, q1, q2, q3, q4, q5⟩ := D3.six
      obtain ⟨y0, y1, y2, y3, y4, y5⟩ := E3.six
      have fy := E3.fro
      go_wp2
      refine bodyPost_ret (v := .tuple #[rp (6) (0) ((wAt zs 1)) (0) a' none n' 0 c' 0, .int .i64 0]) (by simp [results, Tryd.results13, go_sem, y0, y1, y2, y3, y4, y5]) rfl ?_
      exact enda_yes HOK.out.symm (of_decide_eq_true hZ) ⟨_, _, _, _, _, _, rfl, HE.out.1, HE.out.2, rowp_set6 I3 ⟨_, E3⟩ (by decide), rowp_set6 J3 ⟨_, E3⟩ (by decide), belp_set6 C3 (Nat.le_refl _)⟩

set_option maxRecDepth 20000 in
set_option maxHeartbeats 8000000 in
theorem specGetA_22 (a : Option Addr) (n cap : Nat) (zs : List Int) (w : World) (hn : n = zs.length) (hs : Sl w a zs) (hr : ∀ z ∈ zs, 0 ≤ z ∧ z ≤ 255) (hl : n ≤ 1048576) (hp : 0 < zs.length) (hcap : n ≤ cap) (hk : zs.getD 0 0 = 22) :
    Calls Tryd.prog 13 #[.slice a n cap] w fun e w' => EndA 22 0 (wAt zs 1) 0 (wsF zs 3) [] zs w w' e := by
  have hand : bits .and .u8 22 127 = 22 := by decide +kernel
  obtain ⟨W0, hW0⟩ : ∃ W0, W0 = w.alloc (.cells #[.int .i64 0, .int .i64 0, .int .i64 0, .int .i64 0, .slice none 0 0, .slice none 0 0] 27) := ⟨_, rfl⟩
  obtain ⟨W1, hW1⟩ : ∃ W1, W1 = W0.alloc (.cells #[.int .i64 22, .int .i64 0, .int .i64 0, .int .i64 0, .slice none 0 0, .slice none 0 0] 27) := ⟨_, rfl⟩
  have HW : Hid (W0 = _) := hW0
  have HW1 : Hid (W1 = W0.alloc (.cells #[.int .i64 22, .int .i64 0, .int .i64 0, .int .i64 0, .slice none 0 0, .slice none 0 0] 27)) := hW1
  have b0 : Below w.heap.size w W0 := by rw [hW0]; exact bel_alloc _ _
  have b1 : Below W0.heap.size W0 W1 := by rw [hW1]; exact bel_alloc _ _
  have R0 : Blk W0 w.heap.size 27 #[.int .i64 0, .int .i64 0, .int .i64 0, .int .i64 0, .slice none 0 0, .slice none 0 0] := by rw [hW0]; exact Blk.new _ _ _
  have hg : W0.heap.size = w.heap.size + 1 := by rw [hW0]; simp
  obtain ⟨G, hG⟩ : ∃ G, G = W0.heap.size := ⟨_, rfl⟩
  have HG : Hid (w.heap.size < G) := by show w.heap.size < G; omega
  have HGe : Hid (G = W0.heap.size) := hG
  have Q1 : Blk W1 G 27 #[.int .i64 22, .int .i64 0, .int .i64 0, .int .i64 0, .slice none 0 0, .slice none 0 0] := by rw [hW1, hG]; exact Blk.new _ _ _
  have R1 := R0.below b1
  have B1 := bel_next b0 b1
  obtain ⟨bk, off, ea, hbk, hc⟩ := cell_at hs hp
  rw [hk] at hc
  have hc0 : W0.cell? ⟨bk, off, none⟩ = some (.int .u8 22) := (b0.cell (p := ⟨bk, off, none⟩) hbk).trans (by simpa using hc)
  have hc1 : W1.cell? ⟨bk, off, none⟩ = some (.int .u8 22) := (B1.cell (p := ⟨bk, off, none⟩) hbk).trans (by simpa using hc)
  have hz : ¬ (n : Int) = 0 := by omega
  have hz0 : (0 : Int) < (n : Int) := by omega
  have HS : Hid (n = zs.length ∧ Sl w a zs ∧ (∀ z ∈ zs, 0 ≤ z ∧ z ≤ 255)) := ⟨hn, hs, hr⟩
  have HP : Hid (0 < zs.length) := hp
  have hl2 : n ≤ 2000000 := by omega
  subst ea
  clear hn hs hr hc hW0 hW1 hg hG R0 hk hp
  go_enter Tryd.func13, Tryd.ntmps13
  go_upto_region 1 with fail
  rw [← HW.out]
  go_wp2_with fail
  refine (l3Kind_any _ _ true rfl).mono ?_
  rintro e wx ⟨rfl, rfl⟩
  go_upto_region 13 with fail
  rw [← HW1.out]
  simp only [← HGe.out]
  clear hc0 b0 b1
  have k0 := Q1.cell 0 rfl
  go_upto_region 4 with fail
  go_wp2_with fail
  refine (specWordAt_q _ n cap zs _ 1 _ rfl HS.out.1 (HS.out.2.1.below B1) HS.out.2.2 hl2).mono ?_
  rintro e w2 ⟨rfl, b'⟩
  have B2 := bel_next B1 b'
  have Q2 := Q1.below b'
  have R2 := R1.below b'
  clear B1 Q1 R1  b'
  have k0 := Q2.cell 0 rfl
  have qc := Q2.cell 2 rfl
  have qf := Q2.fro 2
  have Q3 := Q2.set 2 (.int .i64 (wAt zs 1))
  have R3 := R2.setNe (g' := G) (j := 2) (y := .int .i64 (wAt zs 1)) (by have := HG.out; omega)
  have B3 := B2.setCell (p := ⟨G, 2, none⟩) (by show w.heap.size ≤ G; have := HG.out; omega) (.int .i64 (wAt zs 1))
  go_upto_region 5 with fail
  obtain ⟨w3, hw3⟩ : ∃ w3, w3 = w2.setCell ⟨G, 2, none⟩ (.int .i64 (wAt zs 1)) := ⟨_, rfl⟩
  rw [← hw3] at Q3 R3 B3 ⊢
  clear hw3 qc qf Q2 R2 B2 
  go_wp2_with fail
  refine (specWordAt_q _ n cap zs _ 3 _ rfl HS.out.1 (HS.out.2.1.below B3) HS.out.2.2 hl2).mono ?_
  rintro e w4 ⟨rfl, b'⟩
  have B4 := bel_next B3 b'
  have Q4 := Q3.below b'
  have R4 := R3.below b'
  clear B3 Q3 R3  b'
  have k0 := Q4.cell 0 rfl
  go_upto_region 12 with fail
  go_wp2_with fail
  refine (l3GetWords_any _ n cap zs _ 3 _ rfl HS.out.1 (HS.out.2.1.below B4) HS.out.2.2 hl2 (by omega)).mono ?_
  rintro e w5 ⟨a', c', n', rfl, hn', oi, b'⟩
  have I := OwnI.mono oi B4.size
  have HN' : Hid (n' = _) := hn'
  clear hn' oi
  have B5 := bel_next B4 b'
  have Q5 := Q4.below b'
  have R5 := R4.below b'
  clear B4 Q4 R4  b'
  have I5 := I
  clear I
  have qc := Q5.cell 4 rfl
  have qf := Q5.fro 4
  have Q6 := Q5.set 4 (.slice a' n' c')
  have R6 := R5.setNe (g' := G) (j := 4) (y := .slice a' n' c') (by have := HG.out; omega)
  have B6 := B5.setCell (p := ⟨G, 4, none⟩) (by show w.heap.size ≤ G; have := HG.out; omega) (.slice a' n' c')
  have I6 : OwnI _ _ _ _ := row_setE (j := 4) (y := .slice a' n' c') I5 ⟨_, Q5⟩ (by decide)
  go_upto_region 21 with fail
  obtain ⟨w6, hw6⟩ : ∃ w6, w6 = w5.setCell ⟨G, 4, none⟩ (.slice a' n' c') := ⟨_, rfl⟩
  rw [← hw6] at Q6 R6 B6 I6 ⊢
  clear hw6 qc qf Q5 R5 B5 I5
  have OI : OwnI w6 w.heap.size (.slice a' n' c') (wsF zs 3) := I6
  have OB : OwnB w6 w.heap.size (.slice none 0 0) [] := (ownB_nil _ _)
  have HE : Hid (n' = ((wsF zs 3) : List Int).length ∧ 0 = ([] : List Bool).length) := ⟨HN'.out, rfl⟩
  have HLs : Hid (((wsF zs 3) : List Int).length ≤ 2000000 ∧ ([] : List Bool).length ≤ 20000000) := by show _ ∧ _; have := HS.out.1; exact ⟨by rw [wsF_length]; omega, by simp⟩
  obtain ⟨q0, q1, q2, q3, q4, q5⟩ := Q6.six
  obtain ⟨ok, hok⟩ : ∃ ok, ok = okA (22) (0) ((wAt zs 1)) (0) (wsF zs 3) ((wsF zs 3) : List Int).length ([] : List Bool).length := ⟨_, rfl⟩
  have HOK : Hid (ok = okA (22) (0) ((wAt zs 1)) (0) (wsF zs 3) ((wsF zs 3) : List Int).length ([] : List Bool).length) := hok
  go_wp2_with fail
  refine (specRespOk_any (22) (0) ((wAt zs 1)) (0) a' none n' 0 c' 0 (wsF zs 3) _ HE.out.1 OI.sl.2 HLs.out.1 (by have := HLs.out; have := HE.out; omega) ok (by first | exact hok.symm | (rw [hok, ← HE.out.1]; rfl) | (rw [hok, ← HE.out.2]; rfl) | (rw [hok, ← HE.out.1]; done) | (rw [hok, ← HE.out.2]; done))).mono ?_
  rintro e v1 ⟨rfl, b'⟩
  have C1 := bel_next B6 b'
  have D1 := Q6.below b'
  have E1 := R6.below b'
  have I1 := OI.below b'
  have J1 := OB.below b'
  clear b' B6 Q6 R6 OI OB q0 q1 q2 q3 q4 q5 hok I6
  obtain ⟨q0, q1, q2, q3, q4, q5⟩ := D1.six
  cases ok
  · obtain ⟨y0, y1, y2, y3, y4, y5⟩ := E1.six
    have fy := E1.fro
    go_wp2
    refine bodyPost_ret (v := .tuple #[rp 0 0 0 0 none none 0 0 0 0, .int .i64 3]) (by simp [results, Tryd.results13, go_sem, y0, y1, y2, y3, y4, y5]) rfl ?_
    exact enda_no1 HOK.out.symm (gpa_zero (belp_set6 C1 (Nat.le_refl _)))
  · have HSM : Hid (([] : List Bool).length ≤ 2000000) := by show _ ≤ _; have := (isA_small (zs := putA (22) (0) ((wAt zs 1)) (0) (wsF zs 3) []) (by unfold isA; rw [← HOK.out]; simp)).2; omega
    go_wp2_with fail
    refine (specPutA_q (22) (0) ((wAt zs 1)) (0) a' none n' 0 c' 0 (wsF zs 3) [] _ HE.out.1 HE.out.2 I1.sl.2 J1.sl.2 HLs.out.1 HSM.out).mono ?_
    rintro e v2 ⟨pa, pc, np, rfl, hnp, op, b'⟩
    have eo : okA (22) (0) ((wAt zs 1)) (0) (wsF zs 3) n' 0 = true := by first | exact HOK.out.symm | (have h := HOK.out; rw [← HE.out.1] at h; exact h.symm) | (have h := HOK.out; rw [← HE.out.2] at h; exact h.symm)
    rw [eo] at hnp op
    have C2 := bel_next C1 b'
    have D2 := D1.below b'
    have E2 := E1.below b'
    have I2 := I1.below b'
    have J2 := J1.below b'
    have HNP : Hid _ := hnp
    clear b' hnp C1 D1 E1 I1 J1 q0 q1 q2 q3 q4 q5
    have hpl : (putAV true (22) (0) ((wAt zs 1)) (0) (wsF zs 3) []).length ≤ 300 := by have h := putAV_le (22) (0) ((wAt zs 1)) (0) (wsF zs 3) [] _ _ rfl rfl; rw [← HOK.out] at h; exact h
    obtain ⟨q0, q1, q2, q3, q4, q5⟩ := D2.six
    obtain ⟨y0, y1, y2, y3, y4, y5⟩ := E2.six
    have fy := E2.fro
    cases hZ : decide (putAV true (22) (0) ((wAt zs 1)) (0) (wsF zs 3) [] = zs)
    · go_wp2_with fail
      refine (l3Same_any _ _ _ _ _ _ _ zs _ HNP.out HS.out.1 op.sl.2 (HS.out.2.1.below C2) (by omega) (by have := HS.out.1; omega) _ hZ).mono ?_
      rintro e v3 ⟨rfl, b'⟩
      have C3 := bel_next C2 b'
      have D3 := D2.below b'
      have E3 := E2.below b'
      have I3 := I2.below b'
      have J3 := J2.below b'
      clear b' C2 D2 E2 I2 J2 q0 q1 q2 q3 q4 q5 y0 y1 y2 y3 y4 y5 fy
      obtain ⟨q0, q1, q2, q3, q4, q5⟩ := D3.six
      obtain ⟨y0, y1, y2, y3, y4, y5⟩ := E3.six
      have fy := E3.fro
      go_wp2
      refine bodyPost_ret (v := .tuple #[rp 0 0 0 0 none none 0 0 0 0, .int .i64 3]) (by simp [results, Tryd.results13, go_sem, y0, y1, y2, y3, y4, y5]) rfl ?_
      exact enda_no2 (of_decide_eq_false hZ) (gpa_zero (belp_set6 C3 (Nat.le_refl _)))
    · go_wp2_with fail
      refine (l3Same_any _ _ _ _ _ _ _ zs _ HNP.out HS.out.1 op.sl.2 (HS.out.2.1.below C2) (by omega) (by have := HS.out.1; omega) _ hZ).mono ?_
      rintro e v3 ⟨rfl, b'⟩
      have C3 := bel_next C2 b'
      have D3 := D2.below b'
      have E3 := E2.below b'
      have I3 := I2.below b'
      have J3 := J2.below b'
      clear b' C2 D2 E2 I2 J2 q0 q1 q2 q3 q4 q5 y0 y1 y2 y3 y4 y5 fy
      obtain ⟨q0, q1, q2, q3, q4, q5⟩ := D3.six
      obtain ⟨y0, y1, y2, y3, y4, y5⟩ := E3.six
      have fy := E3.fro
      go_wp2
      refine bodyPost_ret (v := .tuple #[rp (22) (0) ((wAt zs 1)) (0) a' none n' 0 c' 0, .int .i64 0]) (by simp [results, Tryd.results13, go_sem, y0, y1, y2, y3, y4, y5]) rfl ?_
      exact enda_yes HOK.out.symm (of_decide_eq_true hZ) ⟨_, _, _, _, _, _, rfl, HE.out.1, HE.out.2, rowp_set6 I3 ⟨_, E3⟩ (by decide), rowp_set6 J3 ⟨_, E3⟩ (by decide), belp_set6 C3 (Nat.le_refl _)⟩

set_option maxRecDepth 20000 in
set_option maxHeartbeats 8000000 in
theorem specGetA_15 (a : Option Addr) (n cap : Nat) (zs : List Int) (w : World) (hn : n = zs.length) (hs : Sl w a zs) (hr : ∀ z ∈ zs, 0 ≤ z ∧ z ≤ 255) (hl : n ≤ 1048576) (hp : 0 < zs.length) (hcap : n ≤ cap) (hk : zs.getD 0 0 = 15) :
    Calls Tryd.prog 13 #[.slice a n cap] w fun e w' => EndA 15 0 (wAt zs 1) (wAt zs 3) [] [] zs w w' e := by
  have hand : bits .and .u8 15 127 = 15 := by decide +kernel
  obtain ⟨W0, hW0⟩ : ∃ W0, W0 = w.alloc (.cells #[.int .i64 0, .int .i64 0, .int .i64 0, .int .i64 0, .slice none 0 0, .slice none 0 0] 27) := ⟨_, rfl⟩
  obtain ⟨W1, hW1⟩ : ∃ W1, W1 = W0.alloc (.cells #[.int .i64 15, .int .i64 0, .int .i64 0, .int .i64 0, .slice none 0 0, .slice none 0 0] 27) := ⟨_, rfl⟩
  have HW : Hid (W0 = _) := hW0
  have HW1 : Hid (W1 = W0.alloc (.cells #[.int .i64 15, .int .i64 0, .int .i64 0, .int .i64 0, .slice none 0 0, .slice none 0 0] 27)) := hW1
  have b0 : Below w.heap.size w W0 := by rw [hW0]; exact bel_alloc _ _
  have b1 : Below W0.heap.size W0 W1 := by rw [hW1]; exact bel_alloc _ _
  have R0 : Blk W0 w.heap.size 27 #[.int .i64 0, .int .i64 0, .int .i64 0, .int .i64 0, .slice none 0 0, .slice none 0 0] := by rw [hW0]; exact Blk.new _ _ _
  have hg : W0.heap.size = w.heap.size + 1 := by rw [hW0]; simp
  obtain ⟨G, hG⟩ : ∃ G, G = W0.heap.size := ⟨_, rfl⟩
  have HG : Hid (w.heap.size < G) := by show w.heap.size < G; omega
  have HGe : Hid (G = W0.heap.size) := hG
  have Q1 : Blk W1 G 27 #[.int .i64 15, .int .i64 0, .int .i64 0, .int .i64 0, .slice none 0 0, .slice none 0 0] := by rw [hW1, hG]; exact Blk.new _ _ _
  have R1 := R0.below b1
  have B1 := bel_next b0 b1
  obtain ⟨bk, off, ea, hbk, hc⟩ := cell_at hs hp
  rw [hk] at hc
  have hc0 : W0.cell? ⟨bk, off, none⟩ = some (.int .u8 15) := (b0.cell (p := ⟨bk, off, none⟩) hbk).trans (by simpa using hc)
  have hc1 : W1.cell? ⟨bk, off, none⟩ = some (.int .u8 15) := (B1.cell (p := ⟨bk, off, none⟩) hbk).trans (by simpa using hc)
  have hz : ¬ (n : Int) = 0 := by omega
  have hz0 : (0 : Int) < (n : Int) := by omega
  have HS : Hid (n = zs.length ∧ Sl w a zs ∧ (∀ z ∈ zs, 0 ≤ z ∧ z ≤ 255)) := ⟨hn, hs, hr⟩
  have HP : Hid (0 < zs.length) := hp
  have hl2 : n ≤ 2000000 := by omega
  subst ea
  clear hn hs hr hc hW0 hW1 hg hG R0 hk hp
  go_enter Tryd.func13, Tryd.ntmps13
  go_upto_region 1 with fail
  rw [← HW.out]
  go_wp2_with fail
  refine (l3Kind_any _ _ true rfl).mono ?_
  rintro e wx ⟨rfl, rfl⟩
  go_upto_region 13 with fail
  rw [← HW1.out]
  simp only [← HGe.out]
  clear hc0 b0 b1
  have k0 := Q1.cell 0 rfl
  go_upto_region 4 with fail
  go_wp2_with fail
  refine (specWordAt_q _ n cap zs _ 1 _ rfl HS.out.1 (HS.out.2.1.below B1) HS.out.2.2 hl2).mono ?_
  rintro e w2 ⟨rfl, b'⟩
  have B2 := bel_next B1 b'
  have Q2 := Q1.below b'
  have R2 := R1.below b'
  clear B1 Q1 R1  b'
  have k0 := Q2.cell 0 rfl
  have qc := Q2.cell 2 rfl
  have qf := Q2.fro 2
  have Q3 := Q2.set 2 (.int .i64 (wAt zs 1))
  have R3 := R2.setNe (g' := G) (j := 2) (y := .int .i64 (wAt zs 1)) (by have := HG.out; omega)
  have B3 := B2.setCell (p := ⟨G, 2, none⟩) (by show w.heap.size ≤ G; have := HG.out; omega) (.int .i64 (wAt zs 1))
  go_upto_region 5 with fail
  obtain ⟨w3, hw3⟩ : ∃ w3, w3 = w2.setCell ⟨G, 2, none⟩ (.int .i64 (wAt zs 1)) := ⟨_, rfl⟩
  rw [← hw3] at Q3 R3 B3 ⊢
  clear hw3 qc qf Q2 R2 B2 
  go_wp2_with fail
  refine (specWordAt_q _ n cap zs _ 3 _ rfl HS.out.1 (HS.out.2.1.below B3) HS.out.2.2 hl2).mono ?_
  rintro e w4 ⟨rfl, b'⟩
  have B4 := bel_next B3 b'
  have Q4 := Q3.below b'
  have R4 := R3.below b'
  clear B3 Q3 R3  b'
  have k0 := Q4.cell 0 rfl
  go_upto_region 7 with fail
  have qc := Q4.cell 3 rfl
  have qf := Q4.fro 3
  have Q5 := Q4.set 3 (.int .i64 (wAt zs 3))
  have R5 := R4.setNe (g' := G) (j := 3) (y := .int .i64 (wAt zs 3)) (by have := HG.out; omega)
  have B5 := B4.setCell (p := ⟨G, 3, none⟩) (by show w.heap.size ≤ G; have := HG.out; omega) (.int .i64 (wAt zs 3))
  go_upto_region 21 with fail
  obtain ⟨w5, hw5⟩ : ∃ w5, w5 = w4.setCell ⟨G, 3, none⟩ (.int .i64 (wAt zs 3)) := ⟨_, rfl⟩
  rw [← hw5] at Q5 R5 B5 ⊢
  clear hw5 qc qf Q4 R4 B4 
  have OI : OwnI w5 w.heap.size (.slice none 0 0) [] := (ownI_nil _ _)
  have OB : OwnB w5 w.heap.size (.slice none 0 0) [] := (ownB_nil _ _)
  have HE : Hid (0 = ([] : List Int).length ∧ 0 = ([] : List Bool).length) := ⟨rfl, rfl⟩
  have HLs : Hid (([] : List Int).length ≤ 2000000 ∧ ([] : List Bool).length ≤ 20000000) := by show _ ∧ _; have := HS.out.1; exact ⟨by simp, by simp⟩
  obtain ⟨q0, q1, q2, q3, q4, q5⟩ := Q5.six
  obtain ⟨ok, hok⟩ : ∃ ok, ok = okA (15) (0) ((wAt zs 1)) ((wAt zs 3)) [] ([] : List Int).length ([] : List Bool).length := ⟨_, rfl⟩
  have HOK : Hid (ok = okA (15) (0) ((wAt zs 1)) ((wAt zs 3)) [] ([] : List Int).length ([] : List Bool).length) := hok
  go_wp2_with fail
  refine (specRespOk_any (15) (0) ((wAt zs 1)) ((wAt zs 3)) none none 0 0 0 0 [] _ HE.out.1 OI.sl.2 HLs.out.1 (by have := HLs.out; have := HE.out; omega) ok (by first | exact hok.symm | (rw [hok, ← HE.out.1]; rfl) | (rw [hok, ← HE.out.2]; rfl) | (rw [hok, ← HE.out.1]; done) | (rw [hok, ← HE.out.2]; done))).mono ?_
  rintro e v1 ⟨rfl, b'⟩
  have C1 := bel_next B5 b'
  have D1 := Q5.below b'
  have E1 := R5.below b'
  have I1 := OI.below b'
  have J1 := OB.below b'
  clear b' B5 Q5 R5 OI OB q0 q1 q2 q3 q4 q5 hok 
  obtain ⟨q0, q1, q2, q3, q4, q5⟩ := D1.six
  cases ok
  · obtain ⟨y0, y1, y2, y3, y4, y5⟩ := E1.six
    have fy := E1.fro
    go_wp2
    refine bodyPost_ret (v := .tuple #[rp 0 0 0 0 none none 0 0 0 0, .int .i64 3]) (by simp [results, Tryd.results13, go_sem, y0, y1, y2, y3, y4, y5]) rfl ?_
    exact enda_no1 HOK.out.symm (gpa_zero (belp_set6 C1 (Nat.le_refl _)))
  · have HSM : Hid (([] : List Bool).length ≤ 2000000) := by show _ ≤ _; have := (isA_small (zs := putA (15) (0) ((wAt zs 1)) ((wAt zs 3)) [] []) (by unfold isA; rw [← HOK.out]; simp)).2; omega
    go_wp2_with fail
    refine (specPutA_q (15) (0) ((wAt zs 1)) ((wAt zs 3)) none none 0 0 0 0 [] [] _ HE.out.1 HE.out.2 I1.sl.2 J1.sl.2 HLs.out.1 HSM.out).mono ?_
    rintro e v2 ⟨pa, pc, np, rfl, hnp, op, b'⟩
    have eo : okA (15) (0) ((wAt zs 1)) ((wAt zs 3)) [] 0 0 = true := by first | exact HOK.out.symm | (have h := HOK.out; rw [← HE.out.1] at h; exact h.symm) | (have h := HOK.out; rw [← HE.out.2] at h; exact h.symm)
    rw [eo] at hnp op
    have C2 := bel_next C1 b'
    have D2 := D1.below b'
    have E2 := E1.below b'
    have I2 := I1.below b'
    have J2 := J1.below b'
    have HNP : Hid _ := hnp
    clear b' hnp C1 D1 E1 I1 J1 q0 q1 q2 q3 q4 q5
    have hpl : (putAV true (15) (0) ((wAt zs 1)) ((wAt zs 3)) [] []).length ≤ 300 := by have h := putAV_le (15) (0) ((wAt zs 1)) ((wAt zs 3)) [] [] _ _ rfl rfl; rw [← HOK.out] at h; exact h
    obtain ⟨q0, q1, q2, q3, q4, q5⟩ := D2.six
    obtain ⟨y0, y1, y2, y3, y4, y5⟩ := E2.six
    have fy := E2.fro
    cases hZ : decide (putAV true (15) (0) ((wAt zs 1)) ((wAt zs 3)) [] [] = zs)
    · go_wp2_with fail
      refine (l3Same_any _ _ _ _ _ _ _ zs _ HNP.out HS.out.1 op.sl.2 (HS.out.2.1.below C2) (by omega) (by have := HS.out.1; omega) _ hZ).mono ?_
      rintro e v3 ⟨rfl, b'⟩
      have C3 := bel_next C2 b'
      have D3 := D2.below b'
      have E3 := E2.below b'
      have I3 := I2.below b'
      have J3 := J2.below b'
      clear b' C2 D2 E2 I2 J2 q0 q1 q2 q3 q4 q5 y0 y1 y2 y3 y4 y5 fy
      obtain ⟨q0, q1, q2, q3, q4, q5⟩ := D3.six
      obtain ⟨y0, y1, y2, y3, y4, y5⟩ := E3.six
      have fy := E3.fro
      go_wp2
      refine bodyPost_ret (v := .tuple #[rp 0 0 0 0 none none 0 0 0 0, .int .i64 3]) (by simp [results, Tryd.results13, go_sem, y0, y1, y2, y3, y4, y5]) rfl ?_
      exact enda_no2 (of_decide_eq_false hZ) (gpa_zero (belp_set6 C3 (Nat.le_refl _)))
    · go_wp2_with fail
      refine (l3Same_any _ _ _ _ _ _ _ zs _ HNP.out HS.out.1 op.sl.2 (HS.out.2.1.below C2) (by omega) (by have := HS.out.1; omega) _ hZ).mono ?_
      rintro e v3 ⟨rfl, b'⟩
      have C3 := bel_next C2 b'
      have D3 := D2.below b'
      have E3 := E2.below b'
      have I3 := I2.below b'
      have J3 := J2.below b'
      clear b' C2 D2 E2 I2 J2 q0 q1 q2 q3 q4 q5 y0 y1 y2 y3 y4 y5 fy
      obtain ⟨q0, q1, q2, q3, q4, q5⟩ := D3.six
      obtain ⟨y0, y1, y2, y3, y4, y5⟩ := E3.six
      have fy := E3.fro
      go_wp2
      refine bodyPost_ret (v := .tuple #[rp (15) (0) ((wAt zs 1)) ((wAt zs 3)) none none 0 0 0 0, .int .i64 0]) (by simp [results, Tryd.results13, go_sem, y0, y1, y2, y3, y4, y5]) rfl ?_
      exact enda_yes HOK.out.symm (of_decide_eq_true hZ) ⟨_, _, _, _, _, _, rfl, HE.out.1, HE.out.2, rowp_set6 I3 ⟨_, E3⟩ (by decide), rowp_set6 J3 ⟨_, E3⟩ (by decide), belp_set6 C3 (Nat.le_refl _)⟩

set_option maxRecDepth 20000 in
set_option maxHeartbeats 8000000 in
theorem specGetA_16 (a : Option Addr) (n cap : Nat) (zs : List Int) (w : World) (hn : n = zs.length) (hs : Sl w a zs) (hr : ∀ z ∈ zs, 0 ≤ z ∧ z ≤ 255) (hl : n ≤ 1048576) (hp : 0 < zs.length) (hcap : n ≤ cap) (hk : zs.getD 0 0 = 16) :
    Calls Tryd.prog 13 #[.slice a n cap] w fun e w' => EndA 16 0 (wAt zs 1) (wAt zs 3) [] [] zs w w' e := by
  have hand : bits .and .u8 16 127 = 16 := by decide +kernel
  obtain ⟨W0, hW0⟩ : ∃ W0, W0 = w.alloc (.cells #[.int .i64 0, .int .i64 0, .int .i64 0, .int .i64 0, .slice none 0 0, .slice none 0 0] 27) := ⟨_, rfl⟩
  obtain ⟨W1, hW1⟩ : ∃ W1, W1 = W0.alloc (.cells #[.int .i64 16, .int .i64 0, .int .i64 0, .int .i64 0, .slice none 0 0, .slice none 0 0] 27) := ⟨_, rfl⟩
  have HW : Hid (W0 = _) := hW0
  have HW1 : Hid (W1 = W0.alloc (.cells #[.int .i64 16, .int .i64 0, .int .i64 0, .int .i64 0, .slice none 0 0, .slice none 0 0] 27)) := hW1
  have b0 : Below w.heap.size w W0 := by rw [hW0]; exact bel_alloc _ _
  have b1 : Below W0.heap.size W0 W1 := by rw [hW1]; exact bel_alloc _ _
  have R0 : Blk W0 w.heap.size 27 #[.int .i64 0, .int .i64 0, .int .i64 0, .int .i64 0, .slice none 0 0, .slice none 0 0] := by rw [hW0]; exact Blk.new _ _ _
  have hg : W0.heap.size = w.heap.size + 1 := by rw [hW0]; simp
  obtain ⟨G, hG⟩ : ∃ G, G = W0.heap.size := ⟨_, rfl⟩
  have HG : Hid (w.heap.size < G) := by show w.heap.size < G; omega
  have HGe : Hid (G = W0.heap.size) := hG
  have Q1 : Blk W1 G 27 #[.int .i64 16, .int .i64 0, .int .i64 0, .int .i64 0, .slice none 0 0, .slice none 0 0] := by rw [hW1, hG]; exact Blk.new _ _ _
  have R1 := R0.below b1
  have B1 := bel_next b0 b1
  obtain ⟨bk, off, ea, hbk, hc⟩ := cell_at hs hp
  rw [hk] at hc
  have hc0 : W0.cell? ⟨bk, off, none⟩ = some (.int .u8 16) := (b0.cell (p := ⟨bk, off, none⟩) hbk).trans (by simpa using hc)
  have hc1 : W1.cell? ⟨bk, off, none⟩ = some (.int .u8 16) := (B1.cell (p := ⟨bk, off, none⟩) hbk).trans (by simpa using hc)
  have hz : ¬ (n : Int) = 0 := by omega
  have hz0 : (0 : Int) < (n : Int) := by omega
  have HS : Hid (n = zs.length ∧ Sl w a zs ∧ (∀ z ∈ zs, 0 ≤ z ∧ z ≤ 255)) := ⟨hn, hs, hr⟩
  have HP : Hid (0 < zs.length) := hp
  have hl2 : n ≤ 2000000 := by omega
  subst ea
  clear hn hs hr hc hW0 hW1 hg hG R0 hk hp
  go_enter Tryd.func13, Tryd.ntmps13
  go_upto_region 1 with fail
  rw [← HW.out]
  go_wp2_with fail
  refine (l3Kind_any _ _ true rfl).mono ?_
  rintro e wx ⟨rfl, rfl⟩
  go_upto_region 13 with fail
  rw [← HW1.out]
  simp only [← HGe.out]
  clear hc0 b0 b1
  have k0 := Q1.cell 0 rfl
  go_upto_region 4 with fail
  go_wp2_with fail
  refine (specWordAt_q _ n cap zs _ 1 _ rfl HS.out.1 (HS.out.2.1.below B1) HS.out.2.2 hl2).mono ?_
  rintro e w2 ⟨rfl, b'⟩
  have B2 := bel_next B1 b'
  have Q2 := Q1.below b'
  have R2 := R1.below b'
  clear B1 Q1 R1  b'
  have k0 := Q2.cell 0 rfl
  have qc := Q2.cell 2 rfl
  have qf := Q2.fro 2
  have Q3 := Q2.set 2 (.int .i64 (wAt zs 1))
  have R3 := R2.setNe (g' := G) (j := 2) (y := .int .i64 (wAt zs 1)) (by have := HG.out; omega)
  have B3 := B2.setCell (p := ⟨G, 2, none⟩) (by show w.heap.size ≤ G; have := HG.out; omega) (.int .i64 (wAt zs 1))
  go_upto_region 5 with fail
  obtain ⟨w3, hw3⟩ : ∃ w3, w3 = w2.setCell ⟨G, 2, none⟩ (.int .i64 (wAt zs 1)) := ⟨_, rfl⟩
  rw [← hw3] at Q3 R3 B3 ⊢
  clear hw3 qc qf Q2 R2 B2 
  go_wp2_with fail
  refine (specWordAt_q _ n cap zs _ 3 _ rfl HS.out.1 (HS.out.2.1.below B3) HS.out.2.2 hl2).mono ?_
  rintro e w4 ⟨rfl, b'⟩
  have B4 := bel_next B3 b'
  have Q4 := Q3.below b'
  have R4 := R3.below b'
  clear B3 Q3 R3  b'
  have k0 := Q4.cell 0 rfl
  go_upto_region 7 with fail
  have qc := Q4.cell 3 rfl
  have qf := Q4.fro 3
  have Q5 := Q4.set 3 (.int .i64 (wAt zs 3))
  have R5 := R4.setNe (g' := G) (j := 3) (y := .int .i64 (wAt zs 3)) (by have := HG.out; omega)
  have B5 := B4.setCell (p := ⟨G, 3, none⟩) (by show w.heap.size ≤ G; have := HG.out; omega) (.int .i64 (wAt zs 3))
  go_upto_region 21 with fail
  obtain ⟨w5, hw5⟩ : ∃ w5, w5 = w4.setCell ⟨G, 3, none⟩ (.int .i64 (wAt zs 3)) := ⟨_, rfl⟩
  rw [← hw5] at Q5 R5 B5 ⊢
  clear hw5 qc qf Q4 R4 B4 
  have OI : OwnI w5 w.heap.size (.slice none 0 0) [] := (ownI_nil _ _)
  have OB : OwnB w5 w.heap.size (.slice none 0 0) [] := (ownB_nil _ _)
  have HE : Hid (0 = ([] : List Int).length ∧ 0 = ([] : List Bool).length) := ⟨rfl, rfl⟩
  have HLs : Hid (([] : List Int).length ≤ 2000000 ∧ ([] : List Bool).length ≤ 20000000) := by show _ ∧ _; have := HS.out.1; exact ⟨by simp, by simp⟩
  obtain ⟨q0, q1, q2, q3, q4, q5⟩ := Q5.six
  obtain ⟨ok, hok⟩ : ∃ ok, ok = okA (16) (0) ((wAt zs 1)) ((wAt zs 3)) [] ([] : List Int).length ([] : List Bool).length := ⟨_, rfl⟩
  have HOK : Hid (ok = okA (16) (0) ((wAt zs 1)) ((wAt zs 3)) [] ([] : List Int).length ([] : List Bool).length) := hok
  go_wp2_with fail
  refine (specRespOk_any (16) (0) ((wAt zs 1)) ((wAt zs 3)) none none 0 0 0 0 [] _ HE.out.1 OI.sl.2 HLs.out.1 (by have := HLs.out; have := HE.out; omega) ok (by first | exact hok.symm | (rw [hok, ← HE.out.1]; rfl) | (rw [hok, ← HE.out.2]; rfl) | (rw [hok, ← HE.out.1]; done) | (rw [hok, ← HE.out.2]; done))).mono ?_
  rintro e v1 ⟨rfl, b'⟩
  have C1 := bel_next B5 b'
  have D1 := Q5.below b'
  have E1 := R5.below b'
  have I1 := OI.below b'
  have J1 := OB.below b'
  clear b' B5 Q5 R5 OI OB q0 q1 q2 q3 q4 q5 hok 
  obtain ⟨q0, q1, q2, q3, q4, q5⟩ := D1.six
  cases ok
  · obtain ⟨y0, y1, y2, y3, y4, y5⟩ := E1.six
    have fy := E1.fro
    go_wp2
    refine bodyPost_ret (v := .tuple #[rp 0 0 0 0 none none 0 0 0 0, .int .i64 3]) (by simp [results, Tryd.results13, go_sem, y0, y1, y2, y3, y4, y5]) rfl ?_
    exact enda_no1 HOK.out.symm (gpa_zero (belp_set6 C1 (Nat.le_refl _)))
  · have HSM : Hid (([] : List Bool).length ≤ 2000000) := by show _ ≤ _; have := (isA_small (zs := putA (16) (0) ((wAt zs 1)) ((wAt zs 3)) [] []) (by unfold isA; rw [← HOK.out]; simp)).2; omega
    go_wp2_with fail
    refine (specPutA_q (16) (0) ((wAt zs 1)) ((wAt zs 3)) none none 0 0 0 0 [] [] _ HE.out.1 HE.out.2 I1.sl.2 J1.sl.2 HLs.out.1 HSM.out).mono ?_
    rintro e v2 ⟨pa, pc, np, rfl, hnp, op, b'⟩
    have eo : okA (16) (0) ((wAt zs 1)) ((wAt zs 3)) [] 0 0 = true := by first | exact HOK.out.symm | (have h := HOK.out; rw [← HE.out.1] at h; exact h.symm) | (have h := HOK.out; rw [← HE.out.2] at h; exact h.symm)
    rw [eo] at hnp op
    have C2 := bel_next C1 b'
    have D2 := D1.below b'
    have E2 := E1.below b'
    have I2 := I1.below b'
    have J2 := J1.below b'
    have HNP : Hid _ := hnp
    clear b' hnp C1 D1 E1 I1 J1 q0 q1 q2 q3 q4 q5
    have hpl : (putAV true (16) (0) ((wAt zs 1)) ((wAt zs 3)) [] []).length ≤ 300 := by have h := putAV_le (16) (0) ((wAt zs 1)) ((wAt zs 3)) [] [] _ _ rfl rfl; rw [← HOK.out] at h; exact h
    obtain ⟨q0, q1, q2, q3, q4, q5⟩ := D2.six
    obtain ⟨y0, y1, y2, y3, y4, y5⟩ := E2.six
    have fy := E2.fro
    cases hZ : decide (putAV true (16) (0) ((wAt zs 1)) ((wAt zs 3)) [] [] = zs)
    · go_wp2_with fail
      refine (l3Same_any _ _ _ _ _ _ _ zs _ HNP.out HS.out.1 op.sl.2 (HS.out.2.1.below C2) (by omega) (by have := HS.out.1; omega) _ hZ).mono ?_
      rintro e v3 ⟨rfl, b'⟩
      have C3 := bel_next C2 b'
      have D3 := D2.below b'
      have E3 := E2.below b'
      have I3 := I2.below b'
      have J3 := J2.below b'
      clear b' C2 D2 E2 I2 J2 q0 q1 q2 q3 q4 q5 y0 y1 y2 y3 y4 y5 fy
      obtain ⟨q0, q1, q2, q3, q4, q5⟩ := D3.six
      obtain ⟨y0, y1, y2, y3, y4, y5⟩ := E3.six
      have fy := E3.fro
      go_wp2
      refine bodyPost_ret (v := .tuple #[rp 0 0 0 0 none none 0 0 0 0, .int .i64 3]) (by simp [results, Tryd.results13, go_sem, y0, y1, y2, y3, y4, y5]) rfl ?_
      exact enda_no2 (of_decide_eq_false hZ) (gpa_zero (belp_set6 C3 (Nat.le_refl _)))
    · go_wp2_with fail
      refine (l3Same_any _ _ _ _ _ _ _ zs _ HNP.out HS.out.1 op.sl.2 (HS.out.2.1.below C2) (by omega) (by have := HS.out.1; omega) _ hZ).mono ?_
      rintro e v3 ⟨rfl, b'⟩
      have C3 := bel_next C2 b'
      have D3 := D2.below b'
      have E3 := E2.below b'
      have I3 := I2.below b'
      have J3 := J2.below b'
      clear b' C2 D2 E2 I2 J2 q0 q1 q2 q3 q4 q5 y0 y1 y2 y3 y4 y5 fy
      obtain ⟨q0, q1, q2, q3, q4, q5⟩ := D3.six
      obtain ⟨y0, y1, y2, y3, y4, y5⟩ := E3.six
      have fy := E3.fro
      go_wp2
      refine bodyPost_ret (v := .tuple #[rp (16) (0) ((wAt zs 1)) ((wAt zs 3)) none none 0 0 0 0, .int .i64 0]) (by simp [results, Tryd.results13, go_sem, y0, y1, y2, y3, y4, y5]) rfl ?_
      exact enda_yes HOK.out.symm (of_decide_eq_true hZ) ⟨_, _, _, _, _, _, rfl, HE.out.1, HE.out.2, rowp_set6 I3 ⟨_, E3⟩ (by decide), rowp_set6 J3 ⟨_, E3⟩ (by decide), belp_set6 C3 (Nat.le_refl _)⟩

set_option maxRecDepth 20000 in
set_option maxHeartbeats 8000000 in
theorem specGetA_f1 (a : Option Addr) (n cap : Nat) (zs : List Int) (w : World) (hn : n = zs.length) (hs : Sl w a zs) (hr : ∀ z ∈ zs, 0 ≤ z ∧ z ≤ 255) (hl : n ≤ 1048576) (hp : 0 < zs.length) (hcap : n ≤ cap) (k y : Int) (hkk : kindB k = true) (hk : zs.getD 0 0 = k + 128) (h1 : 1 < n) (hy : zs.getD 1 0 = y) :
    Calls Tryd.prog 13 #[.slice a n cap] w fun e w' => EndA k y 0 0 [] [] zs w w' e := by
  have hkb : 1 ≤ k ∧ k ≤ 23 := by have := of_decide_eq_true hkk; omega
  have hand : bits .and .u8 (k + 128) 127 = k := by have h := and127 (k + 128).toNat (by omega); rw [show (((k + 128).toNat : Nat) : Int) = k + 128 by omega] at h; omega
  have h127 : k + 128 > 127 := by omega
  obtain ⟨W0, hW0⟩ : ∃ W0, W0 = w.alloc (.cells #[.int .i64 0, .int .i64 0, .int .i64 0, .int .i64 0, .slice none 0 0, .slice none 0 0] 27) := ⟨_, rfl⟩
  obtain ⟨W1, hW1⟩ : ∃ W1, W1 = W0.alloc (.cells #[.int .i64 k, .int .i64 0, .int .i64 0, .int .i64 0, .slice none 0 0, .slice none 0 0] 27) := ⟨_, rfl⟩
  have HW : Hid (W0 = _) := hW0
  have HW1 : Hid (W1 = W0.alloc (.cells #[.int .i64 k, .int .i64 0, .int .i64 0, .int .i64 0, .slice none 0 0, .slice none 0 0] 27)) := hW1
  have b0 : Below w.heap.size w W0 := by rw [hW0]; exact bel_alloc _ _
  have b1 : Below W0.heap.size W0 W1 := by rw [hW1]; exact bel_alloc _ _
  have R0 : Blk W0 w.heap.size 27 #[.int .i64 0, .int .i64 0, .int .i64 0, .int .i64 0, .slice none 0 0, .slice none 0 0] := by rw [hW0]; exact Blk.new _ _ _
  have hg : W0.heap.size = w.heap.size + 1 := by rw [hW0]; simp
  obtain ⟨G, hG⟩ : ∃ G, G = W0.heap.size := ⟨_, rfl⟩
  have HG : Hid (w.heap.size < G) := by show w.heap.size < G; omega
  have HGe : Hid (G = W0.heap.size) := hG
  have Q1 : Blk W1 G 27 #[.int .i64 k, .int .i64 0, .int .i64 0, .int .i64 0, .slice none 0 0, .slice none 0 0] := by rw [hW1, hG]; exact Blk.new _ _ _
  have R1 := R0.below b1
  have B1 := bel_next b0 b1
  obtain ⟨bk, off, ea, hbk, hc⟩ := cell_at hs hp
  rw [hk] at hc
  have hc0 : W0.cell? ⟨bk, off, none⟩ = some (.int .u8 (k + 128)) := (b0.cell (p := ⟨bk, off, none⟩) hbk).trans (by simpa using hc)
  have hc1 : W1.cell? ⟨bk, off, none⟩ = some (.int .u8 (k + 128)) := (B1.cell (p := ⟨bk, off, none⟩) hbk).trans (by simpa using hc)
  have hz : ¬ (n : Int) = 0 := by omega
  have hz0 : (0 : Int) < (n : Int) := by omega
  have HS : Hid (n = zs.length ∧ Sl w a zs ∧ (∀ z ∈ zs, 0 ≤ z ∧ z ≤ 255)) := ⟨hn, hs, hr⟩
  have HP : Hid (0 < zs.length) := hp
  have hl2 : n ≤ 2000000 := by omega
  subst ea
  clear hn hs hr hc hW0 hW1 hg hG R0 hk hp
  go_enter Tryd.func13, Tryd.ntmps13
  go_upto_region 1 with fail
  rw [← HW.out]
  go_wp2_with fail
  refine (l3Kind_any _ _ true hkk).mono ?_
  rintro e wx ⟨rfl, rfl⟩
  go_upto_region 13 with fail
  rw [← HW1.out]
  simp only [← HGe.out]
  clear hc0 b0 b1
  have k0 := Q1.cell 0 rfl
  obtain ⟨_, _, e2, hbk2, hc2⟩ := cell_at HS.out.2.1 (show 1 < zs.length by have := HS.out; omega)
  simp at e2
  obtain ⟨rfl, rfl⟩ := e2
  have hc3 : W1.cell? ⟨bk, off + 1, none⟩ = some (.int .u8 (zs.getD 1 0)) := (B1.cell (p := ⟨bk, off + 1, none⟩) hbk2).trans hc2
  have hrg := get_range HS.out.2.2 1
  rw [hy] at hc3 hrg
  clear hy hc2 hbk2
  have g1 : (1 : Int) < (n : Int) := by omega
  go_upto_region 15 with fail
  have qc := Q1.cell 1 rfl
  have qf := Q1.fro 1
  have Q2 := Q1.set 1 (.int .i64 y)
  have R2 := R1.setNe (g' := G) (j := 1) (y := .int .i64 y) (by have := HG.out; omega)
  have B2 := B1.setCell (p := ⟨G, 1, none⟩) (by show w.heap.size ≤ G; have := HG.out; omega) (.int .i64 y)
  go_upto_region 21 with fail
  obtain ⟨w2, hw2⟩ : ∃ w2, w2 = W1.setCell ⟨G, 1, none⟩ (.int .i64 y) := ⟨_, rfl⟩
  rw [← hw2] at Q2 R2 B2 ⊢
  clear hw2 qc qf Q1 R1 B1 
  have OI : OwnI w2 w.heap.size (.slice none 0 0) [] := (ownI_nil _ _)
  have OB : OwnB w2 w.heap.size (.slice none 0 0) [] := (ownB_nil _ _)
  have HE : Hid (0 = ([] : List Int).length ∧ 0 = ([] : List Bool).length) := ⟨rfl, rfl⟩
  have HLs : Hid (([] : List Int).length ≤ 2000000 ∧ ([] : List Bool).length ≤ 20000000) := by show _ ∧ _; have := HS.out.1; exact ⟨by simp, by simp⟩
  obtain ⟨q0, q1, q2, q3, q4, q5⟩ := Q2.six
  obtain ⟨ok, hok⟩ : ∃ ok, ok = okA (k) (y) (0) (0) [] ([] : List Int).length ([] : List Bool).length := ⟨_, rfl⟩
  have HOK : Hid (ok = okA (k) (y) (0) (0) [] ([] : List Int).length ([] : List Bool).length) := hok
  go_wp2_with fail
  refine (specRespOk_any (k) (y) (0) (0) none none 0 0 0 0 [] _ HE.out.1 OI.sl.2 HLs.out.1 (by have := HLs.out; have := HE.out; omega) ok (by first | exact hok.symm | (rw [hok, ← HE.out.1]; rfl) | (rw [hok, ← HE.out.2]; rfl) | (rw [hok, ← HE.out.1]; done) | (rw [hok, ← HE.out.2]; done))).mono ?_
  rintro e v1 ⟨rfl, b'⟩
  have C1 := bel_next B2 b'
  have D1 := Q2.below b'
  have E1 := R2.below b'
  have I1 := OI.below b'
  have J1 := OB.below b'
  clear b' B2 Q2 R2 OI OB q0 q1 q2 q3 q4 q5 hok 
  obtain ⟨q0, q1, q2, q3, q4, q5⟩ := D1.six
  cases ok
  · obtain ⟨y0, y1, y2, y3, y4, y5⟩ := E1.six
    have fy := E1.fro
    go_wp2
    refine bodyPost_ret (v := .tuple #[rp 0 0 0 0 none none 0 0 0 0, .int .i64 3]) (by simp [results, Tryd.results13, go_sem, y0, y1, y2, y3, y4, y5]) rfl ?_
    exact enda_no1 HOK.out.symm (gpa_zero (belp_set6 C1 (Nat.le_refl _)))
  · have HSM : Hid (([] : List Bool).length ≤ 2000000) := by show _ ≤ _; have := (isA_small (zs := putA (k) (y) (0) (0) [] []) (by unfold isA; rw [← HOK.out]; simp)).2; omega
    go_wp2_with fail
    refine (specPutA_q (k) (y) (0) (0) none none 0 0 0 0 [] [] _ HE.out.1 HE.out.2 I1.sl.2 J1.sl.2 HLs.out.1 HSM.out).mono ?_
    rintro e v2 ⟨pa, pc, np, rfl, hnp, op, b'⟩
    have eo : okA (k) (y) (0) (0) [] 0 0 = true := by first | exact HOK.out.symm | (have h := HOK.out; rw [← HE.out.1] at h; exact h.symm) | (have h := HOK.out; rw [← HE.out.2] at h; exact h.symm)
    rw [eo] at hnp op
    have C2 := bel_next C1 b'
    have D2 := D1.below b'
    have E2 := E1.below b'
    have I2 := I1.below b'
    have J2 := J1.below b'
    have HNP : Hid _ := hnp
    clear b' hnp C1 D1 E1 I1 J1 q0 q1 q2 q3 q4 q5
    have hpl : (putAV true (k) (y) (0) (0) [] []).length ≤ 300 := by have h := putAV_le (k) (y) (0) (0) [] [] _ _ rfl rfl; rw [← HOK.out] at h; exact h
    obtain ⟨q0, q1, q2, q3, q4, q5⟩ := D2.six
    obtain ⟨y0, y1, y2, y3, y4, y5⟩ := E2.six
    have fy := E2.fro
    cases hZ : decide (putAV true (k) (y) (0) (0) [] [] = zs)
    · go_wp2_with fail
      refine (l3Same_any _ _ _ _ _ _ _ zs _ HNP.out HS.out.1 op.sl.2 (HS.out.2.1.below C2) (by omega) (by have := HS.out.1; omega) _ hZ).mono ?_
      rintro e v3 ⟨rfl, b'⟩
      have C3 := bel_next C2 b'
      have D3 := D2.below b'
      have E3 := E2.below b'
      have I3 := I2.below b'
      have J3 := J2.below b'
      clear b' C2 D2 E2 I2 J2 q0 q1 q2 q3 q4 q5 y0 y1 y2 y3 y4 y5 fy
      obtain ⟨q0, q1, q2, q3, q4, q5⟩ := D3.six
      obtain ⟨y0, y1, y2, y3, y4, y5⟩ := E3.six
      have fy := E3.fro
      go_wp2
      refine bodyPost_ret (v := .tuple #[rp 0 0 0 0 none none 0 0 0 0, .int .i64 3]) (by simp [results, Tryd.results13, go_sem, y0, y1, y2, y3, y4, y5]) rfl ?_
      exact enda_no2 (of_decide_eq_false hZ) (gpa_zero (belp_set6 C3 (Nat.le_refl _)))
    · go_wp2_with fail
      refine (l3Same_any _ _ _ _ _ _ _ zs _ HNP.out HS.out.1 op.sl.2 (HS.out.2.1.below C2) (by omega) (by have := HS.out.1; omega) _ hZ).mono ?_
      rintro e v3 ⟨rfl, b'⟩
      have C3 := bel_next C2 b'
      have D3 := D2.below b'
      have E3 := E2.below b'
      have I3 := I2.below b'
      have J3 := J2.below b'
      clear b' C2 D2 E2 I2 J2 q0 q1 q2 q3 q4 q5 y0 y1 y2 y3 y4 y5 fy
      obtain ⟨q0, q1, q2, q3, q4, q5⟩ := D3.six
      obtain ⟨y0, y1, y2, y3, y4, y5⟩ := E3.six
      have fy := E3.fro
      go_wp2
      refine bodyPost_ret (v := .tuple #[rp (k) (y) (0) (0) none none 0 0 0 0, .int .i64 0]) (by simp [results, Tryd.results13, go_sem, y0, y1, y2, y3, y4, y5]) rfl ?_
      exact enda_yes HOK.out.symm (of_decide_eq_true hZ) ⟨_, _, _, _, _, _, rfl, HE.out.1, HE.out.2, rowp_set6 I3 ⟨_, E3⟩ (by decide), rowp_set6 J3 ⟨_, E3⟩ (by decide), belp_set6 C3 (Nat.le_refl _)⟩

set_option maxRecDepth 20000 in
set_option maxHeartbeats 8000000 in
theorem specGetA_f0 (a : Option Addr) (n cap : Nat) (zs : List Int) (w : World) (hn : n = zs.length) (hs : Sl w a zs) (hr : ∀ z ∈ zs, 0 ≤ z ∧ z ≤ 255) (hl : n ≤ 1048576) (hp : 0 < zs.length) (hcap : n ≤ cap) (k : Int) (hkk : kindB k = true) (hk : zs.getD 0 0 = k + 128) (h1 : ¬ 1 < n) :
    Calls Tryd.prog 13 #[.slice a n cap] w fun e w' => EndA k 0 0 0 [] [] zs w w' e := by
  have hkb : 1 ≤ k ∧ k ≤ 23 := by have := of_decide_eq_true hkk; omega
  have hand : bits .and .u8 (k + 128) 127 = k := by have h := and127 (k + 128).toNat (by omega); rw [show (((k + 128).toNat : Nat) : Int) = k + 128 by omega] at h; omega
  have h127 : k + 128 > 127 := by omega
  obtain ⟨W0, hW0⟩ : ∃ W0, W0 = w.alloc (.cells #[.int .i64 0, .int .i64 0, .int .i64 0, .int .i64 0, .slice none 0 0, .slice none 0 0] 27) := ⟨_, rfl⟩
  obtain ⟨W1, hW1⟩ : ∃ W1, W1 = W0.alloc (.cells #[.int .i64 k, .int .i64 0, .int .i64 0, .int .i64 0, .slice none 0 0, .slice none 0 0] 27) := ⟨_, rfl⟩
  have HW : Hid (W0 = _) := hW0
  have HW1 : Hid (W1 = W0.alloc (.cells #[.int .i64 k, .int .i64 0, .int .i64 0, .int .i64 0, .slice none 0 0, .slice none 0 0] 27)) := hW1
  have b0 : Below w.heap.size w W0 := by rw [hW0]; exact bel_alloc _ _
  have b1 : Below W0.heap.size W0 W1 := by rw [hW1]; exact bel_alloc _ _
  have R0 : Blk W0 w.heap.size 27 #[.int .i64 0, .int .i64 0, .int .i64 0, .int .i64 0, .slice none 0 0, .slice none 0 0] := by rw [hW0]; exact Blk.new _ _ _
  have hg : W0.heap.size = w.heap.size + 1 := by rw [hW0]; simp
  obtain ⟨G, hG⟩ : ∃ G, G = W0.heap.size := ⟨_, rfl⟩
  have HG : Hid (w.heap.size < G) := by show w.heap.size < G; omega
  have HGe : Hid (G = W0.heap.size) := hG
  have Q1 : Blk W1 G 27 #[.int .i64 k, .int .i64 0, .int .i64 0, .int .i64 0, .slice none 0 0, .slice none 0 0] := by rw [hW1, hG]; exact Blk.new _ _ _
  have R1 := R0.below b1
  have B1 := bel_next b0 b1
  obtain ⟨bk, off, ea, hbk, hc⟩ := cell_at hs hp
  rw [hk] at hc
  have hc0 : W0.cell? ⟨bk, off, none⟩ = some (.int .u8 (k + 128)) := (b0.cell (p := ⟨bk, off, none⟩) hbk).trans (by simpa using hc)
  have hc1 : W1.cell? ⟨bk, off, none⟩ = some (.int .u8 (k + 128)) := (B1.cell (p := ⟨bk, off, none⟩) hbk).trans (by simpa using hc)
  have hz : ¬ (n : Int) = 0 := by omega
  have hz0 : (0 : Int) < (n : Int) := by omega
  have HS : Hid (n = zs.length ∧ Sl w a zs ∧ (∀ z ∈ zs, 0 ≤ z ∧ z ≤ 255)) := ⟨hn, hs, hr⟩
  have HP : Hid (0 < zs.length) := hp
  have hl2 : n ≤ 2000000 := by omega
  subst ea
  clear hn hs hr hc hW0 hW1 hg hG R0 hk hp
  go_enter Tryd.func13, Tryd.ntmps13
  go_upto_region 1 with fail
  rw [← HW.out]
  go_wp2_with fail
  refine (l3Kind_any _ _ true hkk).mono ?_
  rintro e wx ⟨rfl, rfl⟩
  go_upto_region 13 with fail
  rw [← HW1.out]
  simp only [← HGe.out]
  clear hc0 b0 b1
  have k0 := Q1.cell 0 rfl
  have g1 : ¬ (1 : Int) < (n : Int) := by omega
  go_upto_region 21 with fail
  have OI : OwnI W1 w.heap.size (.slice none 0 0) [] := (ownI_nil _ _)
  have OB : OwnB W1 w.heap.size (.slice none 0 0) [] := (ownB_nil _ _)
  have HE : Hid (0 = ([] : List Int).length ∧ 0 = ([] : List Bool).length) := ⟨rfl, rfl⟩
  have HLs : Hid (([] : List Int).length ≤ 2000000 ∧ ([] : List Bool).length ≤ 20000000) := by show _ ∧ _; have := HS.out.1; exact ⟨by simp, by simp⟩
  obtain ⟨q0, q1, q2, q3, q4, q5⟩ := Q1.six
  obtain ⟨ok, hok⟩ : ∃ ok, ok = okA (k) (0) (0) (0) [] ([] : List Int).length ([] : List Bool).length := ⟨_, rfl⟩
  have HOK : Hid (ok = okA (k) (0) (0) (0) [] ([] : List Int).length ([] : List Bool).length) := hok
  go_wp2_with fail
  refine (specRespOk_any (k) (0) (0) (0) none none 0 0 0 0 [] _ HE.out.1 OI.sl.2 HLs.out.1 (by have := HLs.out; have := HE.out; omega) ok (by first | exact hok.symm | (rw [hok, ← HE.out.1]; rfl) | (rw [hok, ← HE.out.2]; rfl) | (rw [hok, ← HE.out.1]; done) | (rw [hok, ← HE.out.2]; done))).mono ?_
  rintro e v1 ⟨rfl, b'⟩
  have C1 := bel_next B1 b'
  have D1 := Q1.below b'
  have E1 := R1.below b'
  have I1 := OI.below b'
  have J1 := OB.below b'
  clear b' B1 Q1 R1 OI OB q0 q1 q2 q3 q4 q5 hok 
  obtain ⟨q0, q1, q2, q3, q4, q5⟩ := D1.six
  cases ok
  · obtain ⟨y0, y1, y2, y3, y4, y5⟩ := E1.six
    have fy := E1.fro
    go_wp2
    refine bodyPost_ret (v := .tuple #[rp 0 0 0 0 none none 0 0 0 0, .int .i64 3]) (by simp [results, Tryd.results13, go_sem, y0, y1, y2, y3, y4, y5]) rfl ?_
    exact enda_no1 HOK.out.symm (gpa_zero (belp_set6 C1 (Nat.le_refl _)))
  · have HSM : Hid (([] : List Bool).length ≤ 2000000) := by show _ ≤ _; have := (isA_small (zs := putA (k) (0) (0) (0) [] []) (by unfold isA; rw [← HOK.out]; simp)).2; omega
    go_wp2_with fail
    refine (specPutA_q (k) (0) (0) (0) none none 0 0 0 0 [] [] _ HE.out.1 HE.out.2 I1.sl.2 J1.sl.2 HLs.out.1 HSM.out).mono ?_
    rintro e v2 ⟨pa, pc, np, rfl, hnp, op, b'⟩
    have eo : okA (k) (0) (0) (0) [] 0 0 = true := by first | exact HOK.out.symm | (have h := HOK.out; rw [← HE.out.1] at h; exact h.symm) | (have h := HOK.out; rw [← HE.out.2] at h; exact h.symm)
    rw [eo] at hnp op
    have C2 := bel_next C1 b'
    have D2 := D1.below b'
    have E2 := E1.below b'
    have I2 := I1.below b'
    have J2 := J1.below b'
    have HNP : Hid _ := hnp
    clear b' hnp C1 D1 E1 I1 J1 q0 q1 q2 q3 q4 q5
    have hpl : (putAV true (k) (0) (0) (0) [] []).length ≤ 300 := by have h := putAV_le (k) (0) (0) (0) [] [] _ _ rfl rfl; rw [← HOK.out] at h; exact h
    obtain ⟨q0, q1, q2, q3, q4, q5⟩ := D2.six
    obtain ⟨y0, y1, y2, y3, y4, y5⟩ := E2.six
    have fy := E2.fro
    cases hZ : decide (putAV true (k) (0) (0) (0) [] [] = zs)
    · go_wp2_with fail
      refine (l3Same_any _ _ _ _ _ _ _ zs _ HNP.out HS.out.1 op.sl.2 (HS.out.2.1.below C2) (by omega) (by have := HS.out.1; omega) _ hZ).mono ?_
      rintro e v3 ⟨rfl, b'⟩
      have C3 := bel_next C2 b'
      have D3 := D2.below b'
      have E3 := E2.below b'
      have I3 := I2.below b'
      have J3 := J2.below b'
      clear b' C2 D2 E2 I2 J2 q0 q1 q2 q3 q4 q5 y0 y1 y2 y3 y4 y5 fy
      obtain ⟨q0, q1, q2, q3, q4, q5⟩ := D3.six
      obtain ⟨y0, y1, y2, y3, y4, y5⟩ := E3.six
      have fy := E3.fro
      go_wp2
      refine bodyPost_ret (v := .tuple #[rp 0 0 0 0 none none 0 0 0 0, .int .i64 3]) (by simp [results, Tryd.results13, go_sem, y0, y1, y2, y3, y4, y5]) rfl ?_
      exact enda_no2 (of_decide_eq_false hZ) (gpa_zero (belp_set6 C3 (Nat.le_refl _)))
    · go_wp2_with fail
      refine (l3Same_any _ _ _ _ _ _ _ zs _ HNP.out HS.out.1 op.sl.2 (HS.out.2.1.below C2) (by omega) (by have := HS.out.1; omega) _ hZ).mono ?_
      rintro e v3 ⟨rfl, b'⟩
      have C3 := bel_next C2 b'
      have D3 := D2.below b'
      have E3 := E2.below b'
      have I3 := I2.below b'
      have J3 := J2.below b'
      clear b' C2 D2 E2 I2 J2 q0 q1 q2 q3 q4 q5 y0 y1 y2 y3 y4 y5 fy
      obtain ⟨q0, q1, q2, q3, q4, q5⟩ := D3.six
      obtain ⟨y0, y1, y2, y3, y4, y5⟩ := E3.six
      have fy := E3.fro
      go_wp2
      refine bodyPost_ret (v := .tuple #[rp (k) (0) (0) (0) none none 0 0 0 0, .int .i64 0]) (by simp [results, Tryd.results13, go_sem, y0, y1, y2, y3, y4, y5]) rfl ?_
      exact enda_yes HOK.out.symm (of_decide_eq_true hZ) ⟨_, _, _, _, _, _, rfl, HE.out.1, HE.out.2, rowp_set6 I3 ⟨_, E3⟩ (by decide), rowp_set6 J3 ⟨_, E3⟩ (by decide), belp_set6 C3 (Nat.le_refl _)⟩

end Go.Proofs.YtigcjiipoidmfaaDoor
