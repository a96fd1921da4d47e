/- Texts that the proof needs, joined: G5. -/
import Derived.Test.YtohikbpolofklaaGreatDoorV9
namespace Go.Proofs.YtohikbpolofklaaGreatDoor
open Go.RowKit
set_option linter.unusedVariables false
set_option linter.unusedSimpArgs false
set_option maxRecDepth 20000 in
set_option maxHeartbeats 8000000 in
theorem specGet_15 (a : Option Addr) (n cap : Nat) (zs : List Int) (w : World) (hn : n = zs.length) (hs : Sl w a zs) (hr : ∀ z ∈ zs, 0 ≤ z ∧ z ≤ 255) (hl : n ≤ 2000000) (hp : 0 < zs.length) (hcap : n ≤ cap) (hk : zs.getD 0 0 = 15) (h6 : 6 < n) :
    Calls Tryz.prog 7 #[.slice a n cap] w fun e w' => SPz 15 zs w w' e := by
  obtain ⟨W0, hW0⟩ : ∃ W0, W0 = w.alloc (.cells #[.int .i64 0, .int .i64 0, .int .i64 0, .slice none 0 0, .slice none 0 0, .int .i64 0] 30) := ⟨_, rfl⟩
  obtain ⟨W1, hW1⟩ : ∃ W1, W1 = W0.alloc (.cells #[.int .i64 15, .int .i64 0, .int .i64 0, .slice none 0 0, .slice none 0 0, .int .i64 0] 30) := ⟨_, rfl⟩
  have HW : Hid (W0 = _) := hW0
  have HW1 : Hid (W1 = W0.alloc (.cells #[.int .i64 15, .int .i64 0, .int .i64 0, .slice none 0 0, .slice none 0 0, .int .i64 0] 30)) := hW1
  have b0 : Below w.heap.size w W0 := by rw [hW0]; exact bel_alloc _ _
  have b1 : Below W0.heap.size W0 W1 := by rw [hW1]; exact bel_alloc _ _
  have R0 : Blk W0 w.heap.size 30 #[.int .i64 0, .int .i64 0, .int .i64 0, .slice none 0 0, .slice none 0 0, .int .i64 0] := by rw [hW0]; exact Blk.new _ _ _
  have hg : W0.heap.size = w.heap.size + 1 := by rw [hW0]; simp
  obtain ⟨G, hG⟩ : ∃ G, G = W0.heap.size := ⟨_, rfl⟩
  have HG : Hid (w.heap.size < G) := by show w.heap.size < G; omega
  have HGe : Hid (G = W0.heap.size) := hG
  have Q1 : Blk W1 G 30 #[.int .i64 15, .int .i64 0, .int .i64 0, .slice none 0 0, .slice none 0 0, .int .i64 0] := by rw [hW1, hG]; exact Blk.new _ _ _
  have R1 := R0.below b1
  have B1 := bel_next b0 b1
  obtain ⟨bk, off, ea, hbk, hc⟩ := cell_at hs hp
  rw [hk] at hc
  have hc0 : W0.cell? ⟨bk, off, none⟩ = some (.int .u8 15) := (b0.cell (p := ⟨bk, off, none⟩) hbk).trans (by simpa using hc)
  have hz : ¬ (n : Int) = 0 := by omega
  have hz0 : (0 : Int) < (n : Int) := by omega
  have HS : Hid (n = zs.length ∧ Sl w a zs ∧ (∀ z ∈ zs, 0 ≤ z ∧ z ≤ 255)) := ⟨hn, hs, hr⟩
  have HP : Hid (0 < zs.length) := hp
  subst ea
  clear hn hs hr hc hW0 hW1 hg hG R0 hk hp
  go_enter Tryz.func7, Tryz.ntmps7
  go_upto_region 1 with fail
  rw [← HW.out]
  go_wp2_with fail
  refine (l3Kind_any _ _ true rfl).mono ?_
  rintro e wx ⟨rfl, rfl⟩
  go_upto_region 4 with fail
  rw [← HW1.out]
  simp only [← HGe.out]
  clear hc0 b0 b1
  go_wp2_with fail
  refine (specWordAt_q _ n cap zs _ 1 _ rfl HS.out.1 (HS.out.2.1.below B1) HS.out.2.2 hl).mono ?_
  rintro e w2 ⟨rfl, b'⟩
  have B2 := bel_next B1 b'
  have Q2 := Q1.below b'
  have R2 := R1.below b'
  clear B1 Q1 R1  b'
  have qc := Q2.cell 1 rfl
  have qf := Q2.fro 1
  have Q3 := Q2.set 1 (.int .i64 (wAt zs 1))
  have R3 := R2.setNe (g' := G) (j := 1) (y := .int .i64 (wAt zs 1)) (by have := HG.out; omega)
  have B3 := B2.setCell (p := ⟨G, 1, none⟩) (by show w.heap.size ≤ G; have := HG.out; omega) (.int .i64 (wAt zs 1))
  go_upto_region 5 with fail
  obtain ⟨w3, hw3⟩ : ∃ w3, w3 = w2.setCell ⟨G, 1, none⟩ (.int .i64 (wAt zs 1)) := ⟨_, rfl⟩
  rw [← hw3] at Q3 R3 B3 ⊢
  clear hw3 qc qf Q2 R2 B2
  go_wp2_with fail
  refine (specWordAt_q _ n cap zs _ 3 _ rfl HS.out.1 (HS.out.2.1.below B3) HS.out.2.2 hl).mono ?_
  rintro e w4 ⟨rfl, b'⟩
  have B4 := bel_next B3 b'
  have Q4 := Q3.below b'
  have R4 := R3.below b'
  clear B3 Q3 R3  b'
  have k0 := Q4.cell 0 rfl
  have HB3 : Hid (0 ≤ wAt zs 3 ∧ wAt zs 3 ≤ 65535) := wAt_bd HS.out.2.2 3
  have g6 : (6 : Int) < (n : Int) := by omega
  have HD : Hid ((zs.drop 6).length = n - 6) := by show (zs.drop 6).length = n - 6; have := HS.out.1; simp; omega
  go_upto_region 15 with fail
  go_wp2_with fail
  refine (specUnpack_any _ _ _ (zs.drop 6) (wAt zs 3) _ (by rw [HD.out]) ((sl_drop HS.out.2.1 6).below B4) (drop_rg HS.out.2.2 6) (by omega)).mono ?_
  rintro e w5 ⟨a', c', rfl, oj, b'⟩
  have J := OwnB.mono oj B4.size
  obtain ⟨n', hn'⟩ : ∃ n', n' = (outU (zs.drop 6) (wAt zs 3)).length := ⟨_, rfl⟩
  rw [← hn'] at J ⊢
  have HN' : Hid (n' = _) := hn'
  clear hn' oj
  have B5 := bel_next B4 b'
  have Q5 := Q4.below b'
  have R5 := R4.below b'
  clear B4 Q4 R4  b'
  have J5 := J
  clear J
  have qc := Q5.cell 4 rfl
  have qf := Q5.fro 4
  have Q6 := Q5.set 4 (.slice a' n' c')
  have R6 := R5.setNe (g' := G) (j := 4) (y := .slice a' n' c') (by have := HG.out; omega)
  have B6 := B5.setCell (p := ⟨G, 4, none⟩) (by show w.heap.size ≤ G; have := HG.out; omega) (.slice a' n' c')
  have J6 := row_setE (j := 4) (y := .slice a' n' c') J5 ⟨_, Q5⟩ (by decide)
  go_upto_region 22 with fail
  obtain ⟨w6, hw6⟩ : ∃ w6, w6 = w5.setCell ⟨G, 4, none⟩ (.slice a' n' c') := ⟨_, rfl⟩
  rw [← hw6] at Q6 R6 B6 J6 ⊢
  clear hw6 qc qf Q5 R5 B5 J5
  have OI : OwnI w6 w.heap.size (.slice none 0 0) (sW 15 zs) := (ownI_nil _ _)
  have OB : OwnB w6 w.heap.size (.slice a' n' c') (sB 15 zs) := J6
  have HE : Hid (0 = (sW 15 zs).length ∧ n' = (sB 15 zs).length) := ⟨rfl, HN'.out⟩
  have HLs : Hid ((sW 15 zs).length ≤ 2000000 ∧ (sB 15 zs).length ≤ 2000000) := by
    have := HS.out.1
    show _ ∧ _
    have h := outU_le (zs.drop 6) (wAt zs 3) (by have := HB3.out; omega)
    simp [sW, sB]; omega
  obtain ⟨q0, q1, q2, q3, q4, q5⟩ := Q6.six
  go_wp2_with fail
  refine (specReqOk_q 15 ((wAt zs 1)) (0) (0) none a' 0 n' 0 c' (sW 15 zs) (sB 15 zs) _ HE.out.1 HE.out.2 OI.sl.2 OB.sl.2 HLs.out.1 HLs.out.2).mono ?_
  rintro e v1 ⟨rfl, b'⟩
  have C1 := bel_next B6 b'
  have D1 := Q6.below b'
  have E1 := R6.below b'
  have I1 := OI.below b'
  have J1 := OB.below b'
  clear b' B6 Q6 R6 OI OB q0 q1 q2 q3 q4 q5 J6
  have eo : okR 15 ((wAt zs 1)) (0) (0) (sW 15 zs) 0 n' = okR 15 (wAt zs 1) (gN 15 zs) (gA 15 zs) (sW 15 zs) (sW 15 zs).length (sB 15 zs).length := by have h1 := HE.out.1; have h2 := HE.out.2; rw [← h1, ← h2]; rfl
  rw [eo]
  obtain ⟨q0, q1, q2, q3, q4, q5⟩ := D1.six
  cases hok : okR 15 (wAt zs 1) (gN 15 zs) (gA 15 zs) (sW 15 zs) (sW 15 zs).length (sB 15 zs).length
  · have hno : ¬ sOk 15 zs = true := by unfold sOk; rw [hok]; simp
    obtain ⟨y0, y1, y2, y3, y4, y5⟩ := E1.six
    have fy := E1.fro
    go_wp2
    refine bodyPost_ret (v := .tuple #[rq 0 0 0 0 none none 0 0 0 0, .int .i64 3]) (by simp [results, Tryz.results7, go_sem, y0, y1, y2, y3, y4, y5]) rfl ?_
    exact spz_no hno (gp_zero (bel_set6 C1 (Nat.le_refl _)))
  · go_wp2_with fail
    refine (specPut_q 15 ((wAt zs 1)) (0) (0) none a' 0 n' 0 c' (sW 15 zs) (sB 15 zs) _ HE.out.1 HE.out.2 I1.sl.2 J1.sl.2 HLs.out.1 HLs.out.2).mono ?_
    rintro e v2 ⟨ap, cp, np, rfl, hnp, op, b'⟩
    rw [eo, hok] at hnp op
    have C2 := bel_next C1 b'
    have D2 := D1.below b'
    have E2 := E1.below b'
    have I2 := I1.below b'
    have J2 := J1.below b'
    have HNP : Hid _ := hnp
    clear b' hnp C1 D1 E1 I1 J1 q0 q1 q2 q3 q4 q5
    have hpl := putV_len 15 ((wAt zs 1)) (0) (0) (sW 15 zs) (sB 15 zs) 0 n' HE.out.1 HE.out.2
    rw [eo, hok] at hpl
    obtain ⟨q0, q1, q2, q3, q4, q5⟩ := D2.six
    obtain ⟨y0, y1, y2, y3, y4, y5⟩ := E2.six
    have fy := E2.fro
    cases hZ : decide (putV true 15 ((wAt zs 1)) (0) (0) (sW 15 zs) (sB 15 zs) = zs)
    · go_wp2_with fail
      refine (l3Same_any _ _ _ _ _ _ _ zs _ HNP.out HS.out.1 op.sl.2 (HS.out.2.1.below C2) (by omega) (by have := HS.out.1; omega) _ hZ).mono ?_
      rintro e v3 ⟨rfl, b'⟩
      have C3 := bel_next C2 b'
      have D3 := D2.below b'
      have E3 := E2.below b'
      have I3 := I2.below b'
      have J3 := J2.below b'
      clear b' C2 D2 E2 I2 J2 q0 q1 q2 q3 q4 q5 y0 y1 y2 y3 y4 y5 fy
      obtain ⟨q0, q1, q2, q3, q4, q5⟩ := D3.six
      obtain ⟨y0, y1, y2, y3, y4, y5⟩ := E3.six
      have fy := E3.fro
      have hno : ¬ sOk 15 zs = true := by unfold sOk; rw [hok]; have := of_decide_eq_false hZ; simp; exact this
      go_wp2
      refine bodyPost_ret (v := .tuple #[rq 0 0 0 0 none none 0 0 0 0, .int .i64 3]) (by simp [results, Tryz.results7, go_sem, y0, y1, y2, y3, y4, y5]) rfl ?_
      exact spz_no hno (gp_zero (bel_set6 C3 (Nat.le_refl _)))
    · go_wp2_with fail
      refine (l3Same_any _ _ _ _ _ _ _ zs _ HNP.out HS.out.1 op.sl.2 (HS.out.2.1.below C2) (by omega) (by have := HS.out.1; omega) _ hZ).mono ?_
      rintro e v3 ⟨rfl, b'⟩
      have C3 := bel_next C2 b'
      have D3 := D2.below b'
      have E3 := E2.below b'
      have I3 := I2.below b'
      have J3 := J2.below b'
      clear b' C2 D2 E2 I2 J2 q0 q1 q2 q3 q4 q5 y0 y1 y2 y3 y4 y5 fy
      obtain ⟨q0, q1, q2, q3, q4, q5⟩ := D3.six
      obtain ⟨y0, y1, y2, y3, y4, y5⟩ := E3.six
      have fy := E3.fro
      have hyes : sOk 15 zs = true := by unfold sOk; rw [hok]; have := of_decide_eq_true hZ; simp; exact this
      go_wp2
      refine bodyPost_ret (v := .tuple #[rq 15 ((wAt zs 1)) (0) (0) none a' 0 n' 0 c', .int .i64 0]) (by simp [results, Tryz.results7, go_sem, y0, y1, y2, y3, y4, y5]) rfl ?_
      exact spz_yes hyes ⟨_, _, _, _, _, _, rfl, HE.out.1, HE.out.2, row_set6 I3 ⟨_, E3⟩ (by decide), row_set6 J3 ⟨_, E3⟩ (by decide), bel_set6 C3 (Nat.le_refl _)⟩
set_option maxRecDepth 20000 in
set_option maxHeartbeats 8000000 in
theorem specGet_15s (a : Option Addr) (n cap : Nat) (zs : List Int) (w : World) (hn : n = zs.length) (hs : Sl w a zs) (hr : ∀ z ∈ zs, 0 ≤ z ∧ z ≤ 255) (hl : n ≤ 2000000) (hp : 0 < zs.length) (hcap : n ≤ cap) (hk : zs.getD 0 0 = 15) (h6 : ¬ 6 < n) :
    Calls Tryz.prog 7 #[.slice a n cap] w fun e w' => SPz 15 zs w w' e := by
  obtain ⟨W0, hW0⟩ : ∃ W0, W0 = w.alloc (.cells #[.int .i64 0, .int .i64 0, .int .i64 0, .slice none 0 0, .slice none 0 0, .int .i64 0] 30) := ⟨_, rfl⟩
  obtain ⟨W1, hW1⟩ : ∃ W1, W1 = W0.alloc (.cells #[.int .i64 15, .int .i64 0, .int .i64 0, .slice none 0 0, .slice none 0 0, .int .i64 0] 30) := ⟨_, rfl⟩
  have HW : Hid (W0 = _) := hW0
  have HW1 : Hid (W1 = W0.alloc (.cells #[.int .i64 15, .int .i64 0, .int .i64 0, .slice none 0 0, .slice none 0 0, .int .i64 0] 30)) := hW1
  have b0 : Below w.heap.size w W0 := by rw [hW0]; exact bel_alloc _ _
  have b1 : Below W0.heap.size W0 W1 := by rw [hW1]; exact bel_alloc _ _
  have R0 : Blk W0 w.heap.size 30 #[.int .i64 0, .int .i64 0, .int .i64 0, .slice none 0 0, .slice none 0 0, .int .i64 0] := by rw [hW0]; exact Blk.new _ _ _
  have hg : W0.heap.size = w.heap.size + 1 := by rw [hW0]; simp
  obtain ⟨G, hG⟩ : ∃ G, G = W0.heap.size := ⟨_, rfl⟩
  have HG : Hid (w.heap.size < G) := by show w.heap.size < G; omega
  have HGe : Hid (G = W0.heap.size) := hG
  have Q1 : Blk W1 G 30 #[.int .i64 15, .int .i64 0, .int .i64 0, .slice none 0 0, .slice none 0 0, .int .i64 0] := by rw [hW1, hG]; exact Blk.new _ _ _
  have R1 := R0.below b1
  have B1 := bel_next b0 b1
  obtain ⟨bk, off, ea, hbk, hc⟩ := cell_at hs hp
  rw [hk] at hc
  have hc0 : W0.cell? ⟨bk, off, none⟩ = some (.int .u8 15) := (b0.cell (p := ⟨bk, off, none⟩) hbk).trans (by simpa using hc)
  have hz : ¬ (n : Int) = 0 := by omega
  have hz0 : (0 : Int) < (n : Int) := by omega
  have HS : Hid (n = zs.length ∧ Sl w a zs ∧ (∀ z ∈ zs, 0 ≤ z ∧ z ≤ 255)) := ⟨hn, hs, hr⟩
  have HP : Hid (0 < zs.length) := hp
  subst ea
  clear hn hs hr hc hW0 hW1 hg hG R0 hk hp
  go_enter Tryz.func7, Tryz.ntmps7
  go_upto_region 1 with fail
  rw [← HW.out]
  go_wp2_with fail
  refine (l3Kind_any _ _ true rfl).mono ?_
  rintro e wx ⟨rfl, rfl⟩
  go_upto_region 4 with fail
  rw [← HW1.out]
  simp only [← HGe.out]
  clear hc0 b0 b1
  go_wp2_with fail
  refine (specWordAt_q _ n cap zs _ 1 _ rfl HS.out.1 (HS.out.2.1.below B1) HS.out.2.2 hl).mono ?_
  rintro e w2 ⟨rfl, b'⟩
  have B2 := bel_next B1 b'
  have Q2 := Q1.below b'
  have R2 := R1.below b'
  clear B1 Q1 R1  b'
  have qc := Q2.cell 1 rfl
  have qf := Q2.fro 1
  have Q3 := Q2.set 1 (.int .i64 (wAt zs 1))
  have R3 := R2.setNe (g' := G) (j := 1) (y := .int .i64 (wAt zs 1)) (by have := HG.out; omega)
  have B3 := B2.setCell (p := ⟨G, 1, none⟩) (by show w.heap.size ≤ G; have := HG.out; omega) (.int .i64 (wAt zs 1))
  go_upto_region 5 with fail
  obtain ⟨w3, hw3⟩ : ∃ w3, w3 = w2.setCell ⟨G, 1, none⟩ (.int .i64 (wAt zs 1)) := ⟨_, rfl⟩
  rw [← hw3] at Q3 R3 B3 ⊢
  clear hw3 qc qf Q2 R2 B2
  go_wp2_with fail
  refine (specWordAt_q _ n cap zs _ 3 _ rfl HS.out.1 (HS.out.2.1.below B3) HS.out.2.2 hl).mono ?_
  rintro e w4 ⟨rfl, b'⟩
  have B4 := bel_next B3 b'
  have Q4 := Q3.below b'
  have R4 := R3.below b'
  clear B3 Q3 R3  b'
  have k0 := Q4.cell 0 rfl
  have HB3 : Hid (0 ≤ wAt zs 3 ∧ wAt zs 3 ≤ 65535) := wAt_bd HS.out.2.2 3
  have g6 : ¬ (6 : Int) < (n : Int) := by omega
  have HD : Hid (outU (zs.drop 6) (wAt zs 3) = []) := by show _ = _; rw [List.drop_eq_nil_of_le (by have := HS.out.1; omega)]; exact outU_nil _
  go_upto_region 22 with fail
  have OI : OwnI w4 w.heap.size (.slice none 0 0) (sW 15 zs) := (ownI_nil _ _)
  have OB : OwnB w4 w.heap.size (.slice none 0 0) (sB 15 zs) := (show OwnB w4 w.heap.size (.slice none 0 0) (outU (zs.drop 6) (wAt zs 3)) from by rw [HD.out]; exact ownB_nil _ _)
  have HE : Hid (0 = (sW 15 zs).length ∧ 0 = (sB 15 zs).length) := ⟨rfl, (show 0 = (outU (zs.drop 6) (wAt zs 3)).length from by rw [HD.out]; rfl)⟩
  have HLs : Hid ((sW 15 zs).length ≤ 2000000 ∧ (sB 15 zs).length ≤ 2000000) := by
    have := HS.out.1
    show _ ∧ _
    have h := outU_le (zs.drop 6) (wAt zs 3) (by have := HB3.out; omega)
    simp [sW, sB]; omega
  obtain ⟨q0, q1, q2, q3, q4, q5⟩ := Q4.six
  go_wp2_with fail
  refine (specReqOk_q 15 ((wAt zs 1)) (0) (0) none none 0 0 0 0 (sW 15 zs) (sB 15 zs) _ HE.out.1 HE.out.2 OI.sl.2 OB.sl.2 HLs.out.1 HLs.out.2).mono ?_
  rintro e v1 ⟨rfl, b'⟩
  have C1 := bel_next B4 b'
  have D1 := Q4.below b'
  have E1 := R4.below b'
  have I1 := OI.below b'
  have J1 := OB.below b'
  clear b' B4 Q4 R4 OI OB q0 q1 q2 q3 q4 q5
  have eo : okR 15 ((wAt zs 1)) (0) (0) (sW 15 zs) 0 0 = okR 15 (wAt zs 1) (gN 15 zs) (gA 15 zs) (sW 15 zs) (sW 15 zs).length (sB 15 zs).length := by have h1 := HE.out.1; have h2 := HE.out.2; rw [← h1, ← h2]; rfl
  rw [eo]
  obtain ⟨q0, q1, q2, q3, q4, q5⟩ := D1.six
  cases hok : okR 15 (wAt zs 1) (gN 15 zs) (gA 15 zs) (sW 15 zs) (sW 15 zs).length (sB 15 zs).length
  · have hno : ¬ sOk 15 zs = true := by unfold sOk; rw [hok]; simp
    obtain ⟨y0, y1, y2, y3, y4, y5⟩ := E1.six
    have fy := E1.fro
    go_wp2
    refine bodyPost_ret (v := .tuple #[rq 0 0 0 0 none none 0 0 0 0, .int .i64 3]) (by simp [results, Tryz.results7, go_sem, y0, y1, y2, y3, y4, y5]) rfl ?_
    exact spz_no hno (gp_zero (bel_set6 C1 (Nat.le_refl _)))
  · go_wp2_with fail
    refine (specPut_q 15 ((wAt zs 1)) (0) (0) none none 0 0 0 0 (sW 15 zs) (sB 15 zs) _ HE.out.1 HE.out.2 I1.sl.2 J1.sl.2 HLs.out.1 HLs.out.2).mono ?_
    rintro e v2 ⟨ap, cp, np, rfl, hnp, op, b'⟩
    rw [eo, hok] at hnp op
    have C2 := bel_next C1 b'
    have D2 := D1.below b'
    have E2 := E1.below b'
    have I2 := I1.below b'
    have J2 := J1.below b'
    have HNP : Hid _ := hnp
    clear b' hnp C1 D1 E1 I1 J1 q0 q1 q2 q3 q4 q5
    have hpl := putV_len 15 ((wAt zs 1)) (0) (0) (sW 15 zs) (sB 15 zs) 0 0 HE.out.1 HE.out.2
    rw [eo, hok] at hpl
    obtain ⟨q0, q1, q2, q3, q4, q5⟩ := D2.six
    obtain ⟨y0, y1, y2, y3, y4, y5⟩ := E2.six
    have fy := E2.fro
    cases hZ : decide (putV true 15 ((wAt zs 1)) (0) (0) (sW 15 zs) (sB 15 zs) = zs)
    · go_wp2_with fail
      refine (l3Same_any _ _ _ _ _ _ _ zs _ HNP.out HS.out.1 op.sl.2 (HS.out.2.1.below C2) (by omega) (by have := HS.out.1; omega) _ hZ).mono ?_
      rintro e v3 ⟨rfl, b'⟩
      have C3 := bel_next C2 b'
      have D3 := D2.below b'
      have E3 := E2.below b'
      have I3 := I2.below b'
      have J3 := J2.below b'
      clear b' C2 D2 E2 I2 J2 q0 q1 q2 q3 q4 q5 y0 y1 y2 y3 y4 y5 fy
      obtain ⟨q0, q1, q2, q3, q4, q5⟩ := D3.six
      obtain ⟨y0, y1, y2, y3, y4, y5⟩ := E3.six
      have fy := E3.fro
      have hno : ¬ sOk 15 zs = true := by unfold sOk; rw [hok]; have := of_decide_eq_false hZ; simp; exact this
      go_wp2
      refine bodyPost_ret (v := .tuple #[rq 0 0 0 0 none none 0 0 0 0, .int .i64 3]) (by simp [results, Tryz.results7, go_sem, y0, y1, y2, y3, y4, y5]) rfl ?_
      exact spz_no hno (gp_zero (bel_set6 C3 (Nat.le_refl _)))
    · go_wp2_with fail
      refine (l3Same_any _ _ _ _ _ _ _ zs _ HNP.out HS.out.1 op.sl.2 (HS.out.2.1.below C2) (by omega) (by have := HS.out.1; omega) _ hZ).mono ?_
      rintro e v3 ⟨rfl, b'⟩
      have C3 := bel_next C2 b'
      have D3 := D2.below b'
      have E3 := E2.below b'
      have I3 := I2.below b'
      have J3 := J2.below b'
      clear b' C2 D2 E2 I2 J2 q0 q1 q2 q3 q4 q5 y0 y1 y2 y3 y4 y5 fy
      obtain ⟨q0, q1, q2, q3, q4, q5⟩ := D3.six
      obtain ⟨y0, y1, y2, y3, y4, y5⟩ := E3.six
      have fy := E3.fro
      have hyes : sOk 15 zs = true := by unfold sOk; rw [hok]; have := of_decide_eq_true hZ; simp; exact this
      go_wp2
      refine bodyPost_ret (v := .tuple #[rq 15 ((wAt zs 1)) (0) (0) none none 0 0 0 0, .int .i64 0]) (by simp [results, Tryz.results7, go_sem, y0, y1, y2, y3, y4, y5]) rfl ?_
      exact spz_yes hyes ⟨_, _, _, _, _, _, rfl, HE.out.1, HE.out.2, row_set6 I3 ⟨_, E3⟩ (by decide), row_set6 J3 ⟨_, E3⟩ (by decide), bel_set6 C3 (Nat.le_refl _)⟩
set_option maxRecDepth 20000 in
set_option maxHeartbeats 8000000 in
theorem specGet_16 (a : Option Addr) (n cap : Nat) (zs : List Int) (w : World) (hn : n = zs.length) (hs : Sl w a zs) (hr : ∀ z ∈ zs, 0 ≤ z ∧ z ≤ 255) (hl : n ≤ 2000000) (hp : 0 < zs.length) (hcap : n ≤ cap) (hk : zs.getD 0 0 = 16) :
    Calls Tryz.prog 7 #[.slice a n cap] w fun e w' => SPz 16 zs w w' e := by
  obtain ⟨W0, hW0⟩ : ∃ W0, W0 = w.alloc (.cells #[.int .i64 0, .int .i64 0, .int .i64 0, .slice none 0 0, .slice none 0 0, .int .i64 0] 30) := ⟨_, rfl⟩
  obtain ⟨W1, hW1⟩ : ∃ W1, W1 = W0.alloc (.cells #[.int .i64 16, .int .i64 0, .int .i64 0, .slice none 0 0, .slice none 0 0, .int .i64 0] 30) := ⟨_, rfl⟩
  have HW : Hid (W0 = _) := hW0
  have HW1 : Hid (W1 = W0.alloc (.cells #[.int .i64 16, .int .i64 0, .int .i64 0, .slice none 0 0, .slice none 0 0, .int .i64 0] 30)) := hW1
  have b0 : Below w.heap.size w W0 := by rw [hW0]; exact bel_alloc _ _
  have b1 : Below W0.heap.size W0 W1 := by rw [hW1]; exact bel_alloc _ _
  have R0 : Blk W0 w.heap.size 30 #[.int .i64 0, .int .i64 0, .int .i64 0, .slice none 0 0, .slice none 0 0, .int .i64 0] := by rw [hW0]; exact Blk.new _ _ _
  have hg : W0.heap.size = w.heap.size + 1 := by rw [hW0]; simp
  obtain ⟨G, hG⟩ : ∃ G, G = W0.heap.size := ⟨_, rfl⟩
  have HG : Hid (w.heap.size < G) := by show w.heap.size < G; omega
  have HGe : Hid (G = W0.heap.size) := hG
  have Q1 : Blk W1 G 30 #[.int .i64 16, .int .i64 0, .int .i64 0, .slice none 0 0, .slice none 0 0, .int .i64 0] := by rw [hW1, hG]; exact Blk.new _ _ _
  have R1 := R0.below b1
  have B1 := bel_next b0 b1
  obtain ⟨bk, off, ea, hbk, hc⟩ := cell_at hs hp
  rw [hk] at hc
  have hc0 : W0.cell? ⟨bk, off, none⟩ = some (.int .u8 16) := (b0.cell (p := ⟨bk, off, none⟩) hbk).trans (by simpa using hc)
  have hz : ¬ (n : Int) = 0 := by omega
  have hz0 : (0 : Int) < (n : Int) := by omega
  have HS : Hid (n = zs.length ∧ Sl w a zs ∧ (∀ z ∈ zs, 0 ≤ z ∧ z ≤ 255)) := ⟨hn, hs, hr⟩
  have HP : Hid (0 < zs.length) := hp
  subst ea
  clear hn hs hr hc hW0 hW1 hg hG R0 hk hp
  go_enter Tryz.func7, Tryz.ntmps7
  go_upto_region 1 with fail
  rw [← HW.out]
  go_wp2_with fail
  refine (l3Kind_any _ _ true rfl).mono ?_
  rintro e wx ⟨rfl, rfl⟩
  go_upto_region 4 with fail
  rw [← HW1.out]
  simp only [← HGe.out]
  clear hc0 b0 b1
  go_wp2_with fail
  refine (specWordAt_q _ n cap zs _ 1 _ rfl HS.out.1 (HS.out.2.1.below B1) HS.out.2.2 hl).mono ?_
  rintro e w2 ⟨rfl, b'⟩
  have B2 := bel_next B1 b'
  have Q2 := Q1.below b'
  have R2 := R1.below b'
  clear B1 Q1 R1  b'
  have qc := Q2.cell 1 rfl
  have qf := Q2.fro 1
  have Q3 := Q2.set 1 (.int .i64 (wAt zs 1))
  have R3 := R2.setNe (g' := G) (j := 1) (y := .int .i64 (wAt zs 1)) (by have := HG.out; omega)
  have B3 := B2.setCell (p := ⟨G, 1, none⟩) (by show w.heap.size ≤ G; have := HG.out; omega) (.int .i64 (wAt zs 1))
  go_upto_region 5 with fail
  obtain ⟨w3, hw3⟩ : ∃ w3, w3 = w2.setCell ⟨G, 1, none⟩ (.int .i64 (wAt zs 1)) := ⟨_, rfl⟩
  rw [← hw3] at Q3 R3 B3 ⊢
  clear hw3 qc qf Q2 R2 B2
  go_wp2_with fail
  refine (specWordAt_q _ n cap zs _ 3 _ rfl HS.out.1 (HS.out.2.1.below B3) HS.out.2.2 hl).mono ?_
  rintro e w4 ⟨rfl, b'⟩
  have B4 := bel_next B3 b'
  have Q4 := Q3.below b'
  have R4 := R3.below b'
  clear B3 Q3 R3  b'
  have k0 := Q4.cell 0 rfl
  have HB3 : Hid (0 ≤ wAt zs 3 ∧ wAt zs 3 ≤ 65535) := wAt_bd HS.out.2.2 3
  go_upto_region 17 with fail
  go_wp2_with fail
  refine (l3GetWords_any _ n cap zs _ 6 _ rfl HS.out.1 (HS.out.2.1.below B4) HS.out.2.2 hl (by omega)).mono ?_
  rintro e w5 ⟨a', c', n', rfl, hn', oi, b'⟩
  have I := OwnI.mono oi B4.size
  have HN' : Hid (n' = _) := hn'
  clear hn' oi
  have B5 := bel_next B4 b'
  have Q5 := Q4.below b'
  have R5 := R4.below b'
  clear B4 Q4 R4  b'
  have I5 := I
  clear I
  have qc := Q5.cell 3 rfl
  have qf := Q5.fro 3
  have Q6 := Q5.set 3 (.slice a' n' c')
  have R6 := R5.setNe (g' := G) (j := 3) (y := .slice a' n' c') (by have := HG.out; omega)
  have B6 := B5.setCell (p := ⟨G, 3, none⟩) (by show w.heap.size ≤ G; have := HG.out; omega) (.slice a' n' c')
  have I6 := row_setE (j := 3) (y := .slice a' n' c') I5 ⟨_, Q5⟩ (by decide)
  go_upto_region 22 with fail
  obtain ⟨w6, hw6⟩ : ∃ w6, w6 = w5.setCell ⟨G, 3, none⟩ (.slice a' n' c') := ⟨_, rfl⟩
  rw [← hw6] at Q6 R6 B6 I6 ⊢
  clear hw6 qc qf Q5 R5 B5 I5
  have OI : OwnI w6 w.heap.size (.slice a' n' c') (sW 16 zs) := I6
  have OB : OwnB w6 w.heap.size (.slice none 0 0) (sB 16 zs) := (ownB_nil _ _)
  have HE : Hid (n' = (sW 16 zs).length ∧ 0 = (sB 16 zs).length) := ⟨HN'.out, rfl⟩
  have HLs : Hid ((sW 16 zs).length ≤ 2000000 ∧ (sB 16 zs).length ≤ 2000000) := by
    have := HS.out.1
    show _ ∧ _
    simp [sW, sB, wsF_length]; omega
  obtain ⟨q0, q1, q2, q3, q4, q5⟩ := Q6.six
  go_wp2_with fail
  refine (specReqOk_q 16 ((wAt zs 1)) (0) (0) a' none n' 0 c' 0 (sW 16 zs) (sB 16 zs) _ HE.out.1 HE.out.2 OI.sl.2 OB.sl.2 HLs.out.1 HLs.out.2).mono ?_
  rintro e v1 ⟨rfl, b'⟩
  have C1 := bel_next B6 b'
  have D1 := Q6.below b'
  have E1 := R6.below b'
  have I1 := OI.below b'
  have J1 := OB.below b'
  clear b' B6 Q6 R6 OI OB q0 q1 q2 q3 q4 q5 I6
  have eo : okR 16 ((wAt zs 1)) (0) (0) (sW 16 zs) n' 0 = okR 16 (wAt zs 1) (gN 16 zs) (gA 16 zs) (sW 16 zs) (sW 16 zs).length (sB 16 zs).length := by have h1 := HE.out.1; have h2 := HE.out.2; rw [← h1, ← h2]; rfl
  rw [eo]
  obtain ⟨q0, q1, q2, q3, q4, q5⟩ := D1.six
  cases hok : okR 16 (wAt zs 1) (gN 16 zs) (gA 16 zs) (sW 16 zs) (sW 16 zs).length (sB 16 zs).length
  · have hno : ¬ sOk 16 zs = true := by unfold sOk; rw [hok]; simp
    obtain ⟨y0, y1, y2, y3, y4, y5⟩ := E1.six
    have fy := E1.fro
    go_wp2
    refine bodyPost_ret (v := .tuple #[rq 0 0 0 0 none none 0 0 0 0, .int .i64 3]) (by simp [results, Tryz.results7, go_sem, y0, y1, y2, y3, y4, y5]) rfl ?_
    exact spz_no hno (gp_zero (bel_set6 C1 (Nat.le_refl _)))
  · go_wp2_with fail
    refine (specPut_q 16 ((wAt zs 1)) (0) (0) a' none n' 0 c' 0 (sW 16 zs) (sB 16 zs) _ HE.out.1 HE.out.2 I1.sl.2 J1.sl.2 HLs.out.1 HLs.out.2).mono ?_
    rintro e v2 ⟨ap, cp, np, rfl, hnp, op, b'⟩
    rw [eo, hok] at hnp op
    have C2 := bel_next C1 b'
    have D2 := D1.below b'
    have E2 := E1.below b'
    have I2 := I1.below b'
    have J2 := J1.below b'
    have HNP : Hid _ := hnp
    clear b' hnp C1 D1 E1 I1 J1 q0 q1 q2 q3 q4 q5
    have hpl := putV_len 16 ((wAt zs 1)) (0) (0) (sW 16 zs) (sB 16 zs) n' 0 HE.out.1 HE.out.2
    rw [eo, hok] at hpl
    obtain ⟨q0, q1, q2, q3, q4, q5⟩ := D2.six
    obtain ⟨y0, y1, y2, y3, y4, y5⟩ := E2.six
    have fy := E2.fro
    cases hZ : decide (putV true 16 ((wAt zs 1)) (0) (0) (sW 16 zs) (sB 16 zs) = zs)
    · go_wp2_with fail
      refine (l3Same_any _ _ _ _ _ _ _ zs _ HNP.out HS.out.1 op.sl.2 (HS.out.2.1.below C2) (by omega) (by have := HS.out.1; omega) _ hZ).mono ?_
      rintro e v3 ⟨rfl, b'⟩
      have C3 := bel_next C2 b'
      have D3 := D2.below b'
      have E3 := E2.below b'
      have I3 := I2.below b'
      have J3 := J2.below b'
      clear b' C2 D2 E2 I2 J2 q0 q1 q2 q3 q4 q5 y0 y1 y2 y3 y4 y5 fy
      obtain ⟨q0, q1, q2, q3, q4, q5⟩ := D3.six
      obtain ⟨y0, y1, y2, y3, y4, y5⟩ := E3.six
      have fy := E3.fro
      have hno : ¬ sOk 16 zs = true := by unfold sOk; rw [hok]; have := of_decide_eq_false hZ; simp; exact this
      go_wp2
      refine bodyPost_ret (v := .tuple #[rq 0 0 0 0 none none 0 0 0 0, .int .i64 3]) (by simp [results, Tryz.results7, go_sem, y0, y1, y2, y3, y4, y5]) rfl ?_
      exact spz_no hno (gp_zero (bel_set6 C3 (Nat.le_refl _)))
    · go_wp2_with fail
      refine (l3Same_any _ _ _ _ _ _ _ zs _ HNP.out HS.out.1 op.sl.2 (HS.out.2.1.below C2) (by omega) (by have := HS.out.1; omega) _ hZ).mono ?_
      rintro e v3 ⟨rfl, b'⟩
      have C3 := bel_next C2 b'
      have D3 := D2.below b'
      have E3 := E2.below b'
      have I3 := I2.below b'
      have J3 := J2.below b'
      clear b' C2 D2 E2 I2 J2 q0 q1 q2 q3 q4 q5 y0 y1 y2 y3 y4 y5 fy
      obtain ⟨q0, q1, q2, q3, q4, q5⟩ := D3.six
      obtain ⟨y0, y1, y2, y3, y4, y5⟩ := E3.six
      have fy := E3.fro
      have hyes : sOk 16 zs = true := by unfold sOk; rw [hok]; have := of_decide_eq_true hZ; simp; exact this
      go_wp2
      refine bodyPost_ret (v := .tuple #[rq 16 ((wAt zs 1)) (0) (0) a' none n' 0 c' 0, .int .i64 0]) (by simp [results, Tryz.results7, go_sem, y0, y1, y2, y3, y4, y5]) rfl ?_
      exact spz_yes hyes ⟨_, _, _, _, _, _, rfl, HE.out.1, HE.out.2, row_set6 I3 ⟨_, E3⟩ (by decide), row_set6 J3 ⟨_, E3⟩ (by decide), bel_set6 C3 (Nat.le_refl _)⟩
set_option maxRecDepth 20000 in
set_option maxHeartbeats 8000000 in
theorem specGet_22 (a : Option Addr) (n cap : Nat) (zs : List Int) (w : World) (hn : n = zs.length) (hs : Sl w a zs) (hr : ∀ z ∈ zs, 0 ≤ z ∧ z ≤ 255) (hl : n ≤ 2000000) (hp : 0 < zs.length) (hcap : n ≤ cap) (hk : zs.getD 0 0 = 22) :
    Calls Tryz.prog 7 #[.slice a n cap] w fun e w' => SPz 22 zs w w' e := by
  obtain ⟨W0, hW0⟩ : ∃ W0, W0 = w.alloc (.cells #[.int .i64 0, .int .i64 0, .int .i64 0, .slice none 0 0, .slice none 0 0, .int .i64 0] 30) := ⟨_, rfl⟩
  obtain ⟨W1, hW1⟩ : ∃ W1, W1 = W0.alloc (.cells #[.int .i64 22, .int .i64 0, .int .i64 0, .slice none 0 0, .slice none 0 0, .int .i64 0] 30) := ⟨_, rfl⟩
  have HW : Hid (W0 = _) := hW0
  have HW1 : Hid (W1 = W0.alloc (.cells #[.int .i64 22, .int .i64 0, .int .i64 0, .slice none 0 0, .slice none 0 0, .int .i64 0] 30)) := hW1
  have b0 : Below w.heap.size w W0 := by rw [hW0]; exact bel_alloc _ _
  have b1 : Below W0.heap.size W0 W1 := by rw [hW1]; exact bel_alloc _ _
  have R0 : Blk W0 w.heap.size 30 #[.int .i64 0, .int .i64 0, .int .i64 0, .slice none 0 0, .slice none 0 0, .int .i64 0] := by rw [hW0]; exact Blk.new _ _ _
  have hg : W0.heap.size = w.heap.size + 1 := by rw [hW0]; simp
  obtain ⟨G, hG⟩ : ∃ G, G = W0.heap.size := ⟨_, rfl⟩
  have HG : Hid (w.heap.size < G) := by show w.heap.size < G; omega
  have HGe : Hid (G = W0.heap.size) := hG
  have Q1 : Blk W1 G 30 #[.int .i64 22, .int .i64 0, .int .i64 0, .slice none 0 0, .slice none 0 0, .int .i64 0] := by rw [hW1, hG]; exact Blk.new _ _ _
  have R1 := R0.below b1
  have B1 := bel_next b0 b1
  obtain ⟨bk, off, ea, hbk, hc⟩ := cell_at hs hp
  rw [hk] at hc
  have hc0 : W0.cell? ⟨bk, off, none⟩ = some (.int .u8 22) := (b0.cell (p := ⟨bk, off, none⟩) hbk).trans (by simpa using hc)
  have hz : ¬ (n : Int) = 0 := by omega
  have hz0 : (0 : Int) < (n : Int) := by omega
  have HS : Hid (n = zs.length ∧ Sl w a zs ∧ (∀ z ∈ zs, 0 ≤ z ∧ z ≤ 255)) := ⟨hn, hs, hr⟩
  have HP : Hid (0 < zs.length) := hp
  subst ea
  clear hn hs hr hc hW0 hW1 hg hG R0 hk hp
  go_enter Tryz.func7, Tryz.ntmps7
  go_upto_region 1 with fail
  rw [← HW.out]
  go_wp2_with fail
  refine (l3Kind_any _ _ true rfl).mono ?_
  rintro e wx ⟨rfl, rfl⟩
  go_upto_region 4 with fail
  rw [← HW1.out]
  simp only [← HGe.out]
  clear hc0 b0 b1
  go_wp2_with fail
  refine (specWordAt_q _ n cap zs _ 1 _ rfl HS.out.1 (HS.out.2.1.below B1) HS.out.2.2 hl).mono ?_
  rintro e w2 ⟨rfl, b'⟩
  have B2 := bel_next B1 b'
  have Q2 := Q1.below b'
  have R2 := R1.below b'
  clear B1 Q1 R1  b'
  have qc := Q2.cell 1 rfl
  have qf := Q2.fro 1
  have Q3 := Q2.set 1 (.int .i64 (wAt zs 1))
  have R3 := R2.setNe (g' := G) (j := 1) (y := .int .i64 (wAt zs 1)) (by have := HG.out; omega)
  have B3 := B2.setCell (p := ⟨G, 1, none⟩) (by show w.heap.size ≤ G; have := HG.out; omega) (.int .i64 (wAt zs 1))
  go_upto_region 5 with fail
  obtain ⟨w3, hw3⟩ : ∃ w3, w3 = w2.setCell ⟨G, 1, none⟩ (.int .i64 (wAt zs 1)) := ⟨_, rfl⟩
  rw [← hw3] at Q3 R3 B3 ⊢
  clear hw3 qc qf Q2 R2 B2
  go_wp2_with fail
  refine (specWordAt_q _ n cap zs _ 3 _ rfl HS.out.1 (HS.out.2.1.below B3) HS.out.2.2 hl).mono ?_
  rintro e w4 ⟨rfl, b'⟩
  have B4 := bel_next B3 b'
  have Q4 := Q3.below b'
  have R4 := R3.below b'
  clear B3 Q3 R3  b'
  have k0 := Q4.cell 0 rfl
  have HB3 : Hid (0 ≤ wAt zs 3 ∧ wAt zs 3 ≤ 65535) := wAt_bd HS.out.2.2 3
  go_upto_region 12 with fail
  go_wp2_with fail
  refine (l3GetWords_any _ n cap zs _ 3 _ rfl HS.out.1 (HS.out.2.1.below B4) HS.out.2.2 hl (by omega)).mono ?_
  rintro e w5 ⟨a', c', n', rfl, hn', oi, b'⟩
  have I := OwnI.mono oi B4.size
  have HN' : Hid (n' = _) := hn'
  clear hn' oi
  have B5 := bel_next B4 b'
  have Q5 := Q4.below b'
  have R5 := R4.below b'
  clear B4 Q4 R4  b'
  have I5 := I
  clear I
  have qc := Q5.cell 3 rfl
  have qf := Q5.fro 3
  have Q6 := Q5.set 3 (.slice a' n' c')
  have R6 := R5.setNe (g' := G) (j := 3) (y := .slice a' n' c') (by have := HG.out; omega)
  have B6 := B5.setCell (p := ⟨G, 3, none⟩) (by show w.heap.size ≤ G; have := HG.out; omega) (.slice a' n' c')
  have I6 := row_setE (j := 3) (y := .slice a' n' c') I5 ⟨_, Q5⟩ (by decide)
  go_upto_region 22 with fail
  obtain ⟨w6, hw6⟩ : ∃ w6, w6 = w5.setCell ⟨G, 3, none⟩ (.slice a' n' c') := ⟨_, rfl⟩
  rw [← hw6] at Q6 R6 B6 I6 ⊢
  clear hw6 qc qf Q5 R5 B5 I5
  have OI : OwnI w6 w.heap.size (.slice a' n' c') (sW 22 zs) := I6
  have OB : OwnB w6 w.heap.size (.slice none 0 0) (sB 22 zs) := (ownB_nil _ _)
  have HE : Hid (n' = (sW 22 zs).length ∧ 0 = (sB 22 zs).length) := ⟨HN'.out, rfl⟩
  have HLs : Hid ((sW 22 zs).length ≤ 2000000 ∧ (sB 22 zs).length ≤ 2000000) := by
    have := HS.out.1
    show _ ∧ _
    simp [sW, sB, wsF_length]; omega
  obtain ⟨q0, q1, q2, q3, q4, q5⟩ := Q6.six
  go_wp2_with fail
  refine (specReqOk_q 22 ((wAt zs 1)) (0) (0) a' none n' 0 c' 0 (sW 22 zs) (sB 22 zs) _ HE.out.1 HE.out.2 OI.sl.2 OB.sl.2 HLs.out.1 HLs.out.2).mono ?_
  rintro e v1 ⟨rfl, b'⟩
  have C1 := bel_next B6 b'
  have D1 := Q6.below b'
  have E1 := R6.below b'
  have I1 := OI.below b'
  have J1 := OB.below b'
  clear b' B6 Q6 R6 OI OB q0 q1 q2 q3 q4 q5 I6
  have eo : okR 22 ((wAt zs 1)) (0) (0) (sW 22 zs) n' 0 = okR 22 (wAt zs 1) (gN 22 zs) (gA 22 zs) (sW 22 zs) (sW 22 zs).length (sB 22 zs).length := by have h1 := HE.out.1; have h2 := HE.out.2; rw [← h1, ← h2]; rfl
  rw [eo]
  obtain ⟨q0, q1, q2, q3, q4, q5⟩ := D1.six
  cases hok : okR 22 (wAt zs 1) (gN 22 zs) (gA 22 zs) (sW 22 zs) (sW 22 zs).length (sB 22 zs).length
  · have hno : ¬ sOk 22 zs = true := by unfold sOk; rw [hok]; simp
    obtain ⟨y0, y1, y2, y3, y4, y5⟩ := E1.six
    have fy := E1.fro
    go_wp2
    refine bodyPost_ret (v := .tuple #[rq 0 0 0 0 none none 0 0 0 0, .int .i64 3]) (by simp [results, Tryz.results7, go_sem, y0, y1, y2, y3, y4, y5]) rfl ?_
    exact spz_no hno (gp_zero (bel_set6 C1 (Nat.le_refl _)))
  · go_wp2_with fail
    refine (specPut_q 22 ((wAt zs 1)) (0) (0) a' none n' 0 c' 0 (sW 22 zs) (sB 22 zs) _ HE.out.1 HE.out.2 I1.sl.2 J1.sl.2 HLs.out.1 HLs.out.2).mono ?_
    rintro e v2 ⟨ap, cp, np, rfl, hnp, op, b'⟩
    rw [eo, hok] at hnp op
    have C2 := bel_next C1 b'
    have D2 := D1.below b'
    have E2 := E1.below b'
    have I2 := I1.below b'
    have J2 := J1.below b'
    have HNP : Hid _ := hnp
    clear b' hnp C1 D1 E1 I1 J1 q0 q1 q2 q3 q4 q5
    have hpl := putV_len 22 ((wAt zs 1)) (0) (0) (sW 22 zs) (sB 22 zs) n' 0 HE.out.1 HE.out.2
    rw [eo, hok] at hpl
    obtain ⟨q0, q1, q2, q3, q4, q5⟩ := D2.six
    obtain ⟨y0, y1, y2, y3, y4, y5⟩ := E2.six
    have fy := E2.fro
    cases hZ : decide (putV true 22 ((wAt zs 1)) (0) (0) (sW 22 zs) (sB 22 zs) = zs)
    · go_wp2_with fail
      refine (l3Same_any _ _ _ _ _ _ _ zs _ HNP.out HS.out.1 op.sl.2 (HS.out.2.1.below C2) (by omega) (by have := HS.out.1; omega) _ hZ).mono ?_
      rintro e v3 ⟨rfl, b'⟩
      have C3 := bel_next C2 b'
      have D3 := D2.below b'
      have E3 := E2.below b'
      have I3 := I2.below b'
      have J3 := J2.below b'
      clear b' C2 D2 E2 I2 J2 q0 q1 q2 q3 q4 q5 y0 y1 y2 y3 y4 y5 fy
      obtain ⟨q0, q1, q2, q3, q4, q5⟩ := D3.six
      obtain ⟨y0, y1, y2, y3, y4, y5⟩ := E3.six
      have fy := E3.fro
      have hno : ¬ sOk 22 zs = true := by unfold sOk; rw [hok]; have := of_decide_eq_false hZ; simp; exact this
      go_wp2
      refine bodyPost_ret (v := .tuple #[rq 0 0 0 0 none none 0 0 0 0, .int .i64 3]) (by simp [results, Tryz.results7, go_sem, y0, y1, y2, y3, y4, y5]) rfl ?_
      exact spz_no hno (gp_zero (bel_set6 C3 (Nat.le_refl _)))
    · go_wp2_with fail
      refine (l3Same_any _ _ _ _ _ _ _ zs _ HNP.out HS.out.1 op.sl.2 (HS.out.2.1.below C2) (by omega) (by have := HS.out.1; omega) _ hZ).mono ?_
      rintro e v3 ⟨rfl, b'⟩
      have C3 := bel_next C2 b'
      have D3 := D2.below b'
      have E3 := E2.below b'
      have I3 := I2.below b'
      have J3 := J2.below b'
      clear b' C2 D2 E2 I2 J2 q0 q1 q2 q3 q4 q5 y0 y1 y2 y3 y4 y5 fy
      obtain ⟨q0, q1, q2, q3, q4, q5⟩ := D3.six
      obtain ⟨y0, y1, y2, y3, y4, y5⟩ := E3.six
      have fy := E3.fro
      have hyes : sOk 22 zs = true := by unfold sOk; rw [hok]; have := of_decide_eq_true hZ; simp; exact this
      go_wp2
      refine bodyPost_ret (v := .tuple #[rq 22 ((wAt zs 1)) (0) (0) a' none n' 0 c' 0, .int .i64 0]) (by simp [results, Tryz.results7, go_sem, y0, y1, y2, y3, y4, y5]) rfl ?_
      exact spz_yes hyes ⟨_, _, _, _, _, _, rfl, HE.out.1, HE.out.2, row_set6 I3 ⟨_, E3⟩ (by decide), row_set6 J3 ⟨_, E3⟩ (by decide), bel_set6 C3 (Nat.le_refl _)⟩
set_option maxRecDepth 20000 in
set_option maxHeartbeats 8000000 in
theorem specGet_23 (a : Option Addr) (n cap : Nat) (zs : List Int) (w : World) (hn : n = zs.length) (hs : Sl w a zs) (hr : ∀ z ∈ zs, 0 ≤ z ∧ z ≤ 255) (hl : n ≤ 2000000) (hp : 0 < zs.length) (hcap : n ≤ cap) (hk : zs.getD 0 0 = 23) :
    Calls Tryz.prog 7 #[.slice a n cap] w fun e w' => SPz 23 zs w w' e := by
  obtain ⟨W0, hW0⟩ : ∃ W0, W0 = w.alloc (.cells #[.int .i64 0, .int .i64 0, .int .i64 0, .slice none 0 0, .slice none 0 0, .int .i64 0] 30) := ⟨_, rfl⟩
  obtain ⟨W1, hW1⟩ : ∃ W1, W1 = W0.alloc (.cells #[.int .i64 23, .int .i64 0, .int .i64 0, .slice none 0 0, .slice none 0 0, .int .i64 0] 30) := ⟨_, rfl⟩
  have HW : Hid (W0 = _) := hW0
  have HW1 : Hid (W1 = W0.alloc (.cells #[.int .i64 23, .int .i64 0, .int .i64 0, .slice none 0 0, .slice none 0 0, .int .i64 0] 30)) := hW1
  have b0 : Below w.heap.size w W0 := by rw [hW0]; exact bel_alloc _ _
  have b1 : Below W0.heap.size W0 W1 := by rw [hW1]; exact bel_alloc _ _
  have R0 : Blk W0 w.heap.size 30 #[.int .i64 0, .int .i64 0, .int .i64 0, .slice none 0 0, .slice none 0 0, .int .i64 0] := by rw [hW0]; exact Blk.new _ _ _
  have hg : W0.heap.size = w.heap.size + 1 := by rw [hW0]; simp
  obtain ⟨G, hG⟩ : ∃ G, G = W0.heap.size := ⟨_, rfl⟩
  have HG : Hid (w.heap.size < G) := by show w.heap.size < G; omega
  have HGe : Hid (G = W0.heap.size) := hG
  have Q1 : Blk W1 G 30 #[.int .i64 23, .int .i64 0, .int .i64 0, .slice none 0 0, .slice none 0 0, .int .i64 0] := by rw [hW1, hG]; exact Blk.new _ _ _
  have R1 := R0.below b1
  have B1 := bel_next b0 b1
  obtain ⟨bk, off, ea, hbk, hc⟩ := cell_at hs hp
  rw [hk] at hc
  have hc0 : W0.cell? ⟨bk, off, none⟩ = some (.int .u8 23) := (b0.cell (p := ⟨bk, off, none⟩) hbk).trans (by simpa using hc)
  have hz : ¬ (n : Int) = 0 := by omega
  have hz0 : (0 : Int) < (n : Int) := by omega
  have HS : Hid (n = zs.length ∧ Sl w a zs ∧ (∀ z ∈ zs, 0 ≤ z ∧ z ≤ 255)) := ⟨hn, hs, hr⟩
  have HP : Hid (0 < zs.length) := hp
  subst ea
  clear hn hs hr hc hW0 hW1 hg hG R0 hk hp
  go_enter Tryz.func7, Tryz.ntmps7
  go_upto_region 1 with fail
  rw [← HW.out]
  go_wp2_with fail
  refine (l3Kind_any _ _ true rfl).mono ?_
  rintro e wx ⟨rfl, rfl⟩
  go_upto_region 4 with fail
  rw [← HW1.out]
  simp only [← HGe.out]
  clear hc0 b0 b1
  go_wp2_with fail
  refine (specWordAt_q _ n cap zs _ 1 _ rfl HS.out.1 (HS.out.2.1.below B1) HS.out.2.2 hl).mono ?_
  rintro e w2 ⟨rfl, b'⟩
  have B2 := bel_next B1 b'
  have Q2 := Q1.below b'
  have R2 := R1.below b'
  clear B1 Q1 R1  b'
  have qc := Q2.cell 1 rfl
  have qf := Q2.fro 1
  have Q3 := Q2.set 1 (.int .i64 (wAt zs 1))
  have R3 := R2.setNe (g' := G) (j := 1) (y := .int .i64 (wAt zs 1)) (by have := HG.out; omega)
  have B3 := B2.setCell (p := ⟨G, 1, none⟩) (by show w.heap.size ≤ G; have := HG.out; omega) (.int .i64 (wAt zs 1))
  go_upto_region 5 with fail
  obtain ⟨w3, hw3⟩ : ∃ w3, w3 = w2.setCell ⟨G, 1, none⟩ (.int .i64 (wAt zs 1)) := ⟨_, rfl⟩
  rw [← hw3] at Q3 R3 B3 ⊢
  clear hw3 qc qf Q2 R2 B2
  go_wp2_with fail
  refine (specWordAt_q _ n cap zs _ 3 _ rfl HS.out.1 (HS.out.2.1.below B3) HS.out.2.2 hl).mono ?_
  rintro e w4 ⟨rfl, b'⟩
  have B4 := bel_next B3 b'
  have Q4 := Q3.below b'
  have R4 := R3.below b'
  clear B3 Q3 R3  b'
  have k0 := Q4.cell 0 rfl
  have HB3 : Hid (0 ≤ wAt zs 3 ∧ wAt zs 3 ≤ 65535) := wAt_bd HS.out.2.2 3
  go_upto_region 19 with fail
  have qc := Q4.cell 2 rfl
  have qf := Q4.fro 2
  have Q5 := Q4.set 2 (.int .i64 (wAt zs 3))
  have R5 := R4.setNe (g' := G) (j := 2) (y := .int .i64 (wAt zs 3)) (by have := HG.out; omega)
  have B5 := B4.setCell (p := ⟨G, 2, none⟩) (by show w.heap.size ≤ G; have := HG.out; omega) (.int .i64 (wAt zs 3))
  go_upto_region 20 with fail
  obtain ⟨w5, hw5⟩ : ∃ w5, w5 = w4.setCell ⟨G, 2, none⟩ (.int .i64 (wAt zs 3)) := ⟨_, rfl⟩
  rw [← hw5] at Q5 R5 B5 ⊢
  clear hw5 qc qf Q4 R4 B4
  go_wp2_with fail
  refine (specWordAt_q _ n cap zs _ 5 _ rfl HS.out.1 (HS.out.2.1.below B5) HS.out.2.2 hl).mono ?_
  rintro e w6 ⟨rfl, b'⟩
  have B6 := bel_next B5 b'
  have Q6 := Q5.below b'
  have R6 := R5.below b'
  clear B5 Q5 R5  b'
  have qc := Q6.cell 5 rfl
  have qf := Q6.fro 5
  have Q7 := Q6.set 5 (.int .i64 (wAt zs 5))
  have R7 := R6.setNe (g' := G) (j := 5) (y := .int .i64 (wAt zs 5)) (by have := HG.out; omega)
  have B7 := B6.setCell (p := ⟨G, 5, none⟩) (by show w.heap.size ≤ G; have := HG.out; omega) (.int .i64 (wAt zs 5))
  go_upto_region 21 with fail
  obtain ⟨w7, hw7⟩ : ∃ w7, w7 = w6.setCell ⟨G, 5, none⟩ (.int .i64 (wAt zs 5)) := ⟨_, rfl⟩
  rw [← hw7] at Q7 R7 B7 ⊢
  clear hw7 qc qf Q6 R6 B6
  go_wp2_with fail
  refine (l3GetWords_any _ n cap zs _ 10 _ rfl HS.out.1 (HS.out.2.1.below B7) HS.out.2.2 hl (by omega)).mono ?_
  rintro e w8 ⟨a', c', n', rfl, hn', oi, b'⟩
  have I := OwnI.mono oi B7.size
  have HN' : Hid (n' = _) := hn'
  clear hn' oi
  have B8 := bel_next B7 b'
  have Q8 := Q7.below b'
  have R8 := R7.below b'
  clear B7 Q7 R7  b'
  have I8 := I
  clear I
  have qc := Q8.cell 3 rfl
  have qf := Q8.fro 3
  have Q9 := Q8.set 3 (.slice a' n' c')
  have R9 := R8.setNe (g' := G) (j := 3) (y := .slice a' n' c') (by have := HG.out; omega)
  have B9 := B8.setCell (p := ⟨G, 3, none⟩) (by show w.heap.size ≤ G; have := HG.out; omega) (.slice a' n' c')
  have I9 := row_setE (j := 3) (y := .slice a' n' c') I8 ⟨_, Q8⟩ (by decide)
  go_upto_region 22 with fail
  obtain ⟨w9, hw9⟩ : ∃ w9, w9 = w8.setCell ⟨G, 3, none⟩ (.slice a' n' c') := ⟨_, rfl⟩
  rw [← hw9] at Q9 R9 B9 I9 ⊢
  clear hw9 qc qf Q8 R8 B8 I8
  have OI : OwnI w9 w.heap.size (.slice a' n' c') (sW 23 zs) := I9
  have OB : OwnB w9 w.heap.size (.slice none 0 0) (sB 23 zs) := (ownB_nil _ _)
  have HE : Hid (n' = (sW 23 zs).length ∧ 0 = (sB 23 zs).length) := ⟨HN'.out, rfl⟩
  have HLs : Hid ((sW 23 zs).length ≤ 2000000 ∧ (sB 23 zs).length ≤ 2000000) := by
    have := HS.out.1
    show _ ∧ _
    simp [sW, sB, wsF_length]; omega
  obtain ⟨q0, q1, q2, q3, q4, q5⟩ := Q9.six
  go_wp2_with fail
  refine (specReqOk_q 23 ((wAt zs 1)) ((wAt zs 3)) ((wAt zs 5)) a' none n' 0 c' 0 (sW 23 zs) (sB 23 zs) _ HE.out.1 HE.out.2 OI.sl.2 OB.sl.2 HLs.out.1 HLs.out.2).mono ?_
  rintro e v1 ⟨rfl, b'⟩
  have C1 := bel_next B9 b'
  have D1 := Q9.below b'
  have E1 := R9.below b'
  have I1 := OI.below b'
  have J1 := OB.below b'
  clear b' B9 Q9 R9 OI OB q0 q1 q2 q3 q4 q5 I9
  have eo : okR 23 ((wAt zs 1)) ((wAt zs 3)) ((wAt zs 5)) (sW 23 zs) n' 0 = okR 23 (wAt zs 1) (gN 23 zs) (gA 23 zs) (sW 23 zs) (sW 23 zs).length (sB 23 zs).length := by have h1 := HE.out.1; have h2 := HE.out.2; rw [← h1, ← h2]; rfl
  rw [eo]
  obtain ⟨q0, q1, q2, q3, q4, q5⟩ := D1.six
  cases hok : okR 23 (wAt zs 1) (gN 23 zs) (gA 23 zs) (sW 23 zs) (sW 23 zs).length (sB 23 zs).length
  · have hno : ¬ sOk 23 zs = true := by unfold sOk; rw [hok]; simp
    obtain ⟨y0, y1, y2, y3, y4, y5⟩ := E1.six
    have fy := E1.fro
    go_wp2
    refine bodyPost_ret (v := .tuple #[rq 0 0 0 0 none none 0 0 0 0, .int .i64 3]) (by simp [results, Tryz.results7, go_sem, y0, y1, y2, y3, y4, y5]) rfl ?_
    exact spz_no hno (gp_zero (bel_set6 C1 (Nat.le_refl _)))
  · go_wp2_with fail
    refine (specPut_q 23 ((wAt zs 1)) ((wAt zs 3)) ((wAt zs 5)) a' none n' 0 c' 0 (sW 23 zs) (sB 23 zs) _ HE.out.1 HE.out.2 I1.sl.2 J1.sl.2 HLs.out.1 HLs.out.2).mono ?_
    rintro e v2 ⟨ap, cp, np, rfl, hnp, op, b'⟩
    rw [eo, hok] at hnp op
    have C2 := bel_next C1 b'
    have D2 := D1.below b'
    have E2 := E1.below b'
    have I2 := I1.below b'
    have J2 := J1.below b'
    have HNP : Hid _ := hnp
    clear b' hnp C1 D1 E1 I1 J1 q0 q1 q2 q3 q4 q5
    have hpl := putV_len 23 ((wAt zs 1)) ((wAt zs 3)) ((wAt zs 5)) (sW 23 zs) (sB 23 zs) n' 0 HE.out.1 HE.out.2
    rw [eo, hok] at hpl
    obtain ⟨q0, q1, q2, q3, q4, q5⟩ := D2.six
    obtain ⟨y0, y1, y2, y3, y4, y5⟩ := E2.six
    have fy := E2.fro
    cases hZ : decide (putV true 23 ((wAt zs 1)) ((wAt zs 3)) ((wAt zs 5)) (sW 23 zs) (sB 23 zs) = zs)
    · go_wp2_with fail
      refine (l3Same_any _ _ _ _ _ _ _ zs _ HNP.out HS.out.1 op.sl.2 (HS.out.2.1.below C2) (by omega) (by have := HS.out.1; omega) _ hZ).mono ?_
      rintro e v3 ⟨rfl, b'⟩
      have C3 := bel_next C2 b'
      have D3 := D2.below b'
      have E3 := E2.below b'
      have I3 := I2.below b'
      have J3 := J2.below b'
      clear b' C2 D2 E2 I2 J2 q0 q1 q2 q3 q4 q5 y0 y1 y2 y3 y4 y5 fy
      obtain ⟨q0, q1, q2, q3, q4, q5⟩ := D3.six
      obtain ⟨y0, y1, y2, y3, y4, y5⟩ := E3.six
      have fy := E3.fro
      have hno : ¬ sOk 23 zs = true := by unfold sOk; rw [hok]; have := of_decide_eq_false hZ; simp; exact this
      go_wp2
      refine bodyPost_ret (v := .tuple #[rq 0 0 0 0 none none 0 0 0 0, .int .i64 3]) (by simp [results, Tryz.results7, go_sem, y0, y1, y2, y3, y4, y5]) rfl ?_
      exact spz_no hno (gp_zero (bel_set6 C3 (Nat.le_refl _)))
    · go_wp2_with fail
      refine (l3Same_any _ _ _ _ _ _ _ zs _ HNP.out HS.out.1 op.sl.2 (HS.out.2.1.below C2) (by omega) (by have := HS.out.1; omega) _ hZ).mono ?_
      rintro e v3 ⟨rfl, b'⟩
      have C3 := bel_next C2 b'
      have D3 := D2.below b'
      have E3 := E2.below b'
      have I3 := I2.below b'
      have J3 := J2.below b'
      clear b' C2 D2 E2 I2 J2 q0 q1 q2 q3 q4 q5 y0 y1 y2 y3 y4 y5 fy
      obtain ⟨q0, q1, q2, q3, q4, q5⟩ := D3.six
      obtain ⟨y0, y1, y2, y3, y4, y5⟩ := E3.six
      have fy := E3.fro
      have hyes : sOk 23 zs = true := by unfold sOk; rw [hok]; have := of_decide_eq_true hZ; simp; exact this
      go_wp2
      refine bodyPost_ret (v := .tuple #[rq 23 ((wAt zs 1)) ((wAt zs 3)) ((wAt zs 5)) a' none n' 0 c' 0, .int .i64 0]) (by simp [results, Tryz.results7, go_sem, y0, y1, y2, y3, y4, y5]) rfl ?_
      exact spz_yes hyes ⟨_, _, _, _, _, _, rfl, HE.out.1, HE.out.2, row_set6 I3 ⟨_, E3⟩ (by decide), row_set6 J3 ⟨_, E3⟩ (by decide), bel_set6 C3 (Nat.le_refl _)⟩
end Go.Proofs.YtohikbpolofklaaGreatDoor
