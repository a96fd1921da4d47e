/- Texts that the proof needs, joined: G4. -/
import Derived.Test.YtohikbpolofklaaGreatDoorV8
namespace Go.Proofs.YtohikbpolofklaaGreatDoor
open Go.RowKit
set_option linter.unusedVariables false
set_option linter.unusedSimpArgs false
def sW (k : Int) (zs : List Int) : List Int := if k = 6 ∨ k = 22 then wsF zs 3 else if k = 16 then wsF zs 6 else if k = 23 then wsF zs 10 else []
def sB (k : Int) (zs : List Int) : List Bool := if k = 5 then [wAt zs 3 != 0] else if k = 15 then outU (zs.drop 6) (wAt zs 3) else []
def sOk (k : Int) (zs : List Int) : Bool := okR k (wAt zs 1) (gN k zs) (gA k zs) (sW k zs) (sW k zs).length (sB k zs).length && decide (putL k (wAt zs 1) (gN k zs) (gA k zs) (sW k zs) (sB k zs) = zs)
def SPz (k : Int) (zs : List Int) (w w' : World) (e : Ending) : Prop :=
  if sOk k zs = true then GP w w' e k (wAt zs 1) (gN k zs) (gA k zs) (sW k zs) (sB k zs) 0 else GP w w' e 0 0 0 0 [] [] 3
theorem spz_yes {zs : List Int} {w w' : World} {e : Ending} {k : Int} (hy : sOk k zs = true) (h : GP w w' e k (wAt zs 1) (gN k zs) (gA k zs) (sW k zs) (sB k zs) 0) : SPz k zs w w' e := by
  unfold SPz; rw [if_pos hy]; exact h
theorem spz_no {zs : List Int} {w w' : World} {e : Ending} {k : Int} (hy : ¬ sOk k zs = true) (h : GP w w' e 0 0 0 0 [] [] 3) : SPz k zs w w' e := by
  unfold SPz; rw [if_neg hy]; exact h
theorem outU_le (ys : List Int) (x : Int) (h : x ≤ 65535) : (outU ys x).length ≤ 65535 := by
  unfold outU
  split
  · rw [ubs_length]; omega
  · simp
theorem outU_nil (x : Int) : outU [] x = [] := by
  unfold outU
  by_cases h : okU [] x = true
  · rw [if_pos h]
    unfold okU at h
    obtain ⟨h0, h1, _⟩ := of_decide_eq_true h
    have : x.toNat = 0 := by simp at h1; omega
    rw [this]; rfl
  · rw [if_neg h]
set_option maxRecDepth 20000 in
set_option maxHeartbeats 8000000 in
theorem specGet_1 (a : Option Addr) (n cap : Nat) (zs : List Int) (w : World) (hn : n = zs.length) (hs : Sl w a zs) (hr : ∀ z ∈ zs, 0 ≤ z ∧ z ≤ 255) (hl : n ≤ 2000000) (hp : 0 < zs.length) (hcap : n ≤ cap) (hk : zs.getD 0 0 = 1) :
    Calls Tryz.prog 7 #[.slice a n cap] w fun e w' => SPz 1 zs w w' e := by
  obtain ⟨W0, hW0⟩ : ∃ W0, W0 = w.alloc (.cells #[.int .i64 0, .int .i64 0, .int .i64 0, .slice none 0 0, .slice none 0 0, .int .i64 0] 30) := ⟨_, rfl⟩
  obtain ⟨W1, hW1⟩ : ∃ W1, W1 = W0.alloc (.cells #[.int .i64 1, .int .i64 0, .int .i64 0, .slice none 0 0, .slice none 0 0, .int .i64 0] 30) := ⟨_, rfl⟩
  have HW : Hid (W0 = _) := hW0
  have HW1 : Hid (W1 = W0.alloc (.cells #[.int .i64 1, .int .i64 0, .int .i64 0, .slice none 0 0, .slice none 0 0, .int .i64 0] 30)) := hW1
  have b0 : Below w.heap.size w W0 := by rw [hW0]; exact bel_alloc _ _
  have b1 : Below W0.heap.size W0 W1 := by rw [hW1]; exact bel_alloc _ _
  have R0 : Blk W0 w.heap.size 30 #[.int .i64 0, .int .i64 0, .int .i64 0, .slice none 0 0, .slice none 0 0, .int .i64 0] := by rw [hW0]; exact Blk.new _ _ _
  have hg : W0.heap.size = w.heap.size + 1 := by rw [hW0]; simp
  obtain ⟨G, hG⟩ : ∃ G, G = W0.heap.size := ⟨_, rfl⟩
  have HG : Hid (w.heap.size < G) := by show w.heap.size < G; omega
  have HGe : Hid (G = W0.heap.size) := hG
  have Q1 : Blk W1 G 30 #[.int .i64 1, .int .i64 0, .int .i64 0, .slice none 0 0, .slice none 0 0, .int .i64 0] := by rw [hW1, hG]; exact Blk.new _ _ _
  have R1 := R0.below b1
  have B1 := bel_next b0 b1
  obtain ⟨bk, off, ea, hbk, hc⟩ := cell_at hs hp
  rw [hk] at hc
  have hc0 : W0.cell? ⟨bk, off, none⟩ = some (.int .u8 1) := (b0.cell (p := ⟨bk, off, none⟩) hbk).trans (by simpa using hc)
  have hz : ¬ (n : Int) = 0 := by omega
  have hz0 : (0 : Int) < (n : Int) := by omega
  have HS : Hid (n = zs.length ∧ Sl w a zs ∧ (∀ z ∈ zs, 0 ≤ z ∧ z ≤ 255)) := ⟨hn, hs, hr⟩
  have HP : Hid (0 < zs.length) := hp
  subst ea
  clear hn hs hr hc hW0 hW1 hg hG R0 hk hp
  go_enter Tryz.func7, Tryz.ntmps7
  go_upto_region 1 with fail
  rw [← HW.out]
  go_wp2_with fail
  refine (l3Kind_any _ _ true rfl).mono ?_
  rintro e wx ⟨rfl, rfl⟩
  go_upto_region 4 with fail
  rw [← HW1.out]
  simp only [← HGe.out]
  clear hc0 b0 b1
  go_wp2_with fail
  refine (specWordAt_q _ n cap zs _ 1 _ rfl HS.out.1 (HS.out.2.1.below B1) HS.out.2.2 hl).mono ?_
  rintro e w2 ⟨rfl, b'⟩
  have B2 := bel_next B1 b'
  have Q2 := Q1.below b'
  have R2 := R1.below b'
  clear B1 Q1 R1  b'
  have qc := Q2.cell 1 rfl
  have qf := Q2.fro 1
  have Q3 := Q2.set 1 (.int .i64 (wAt zs 1))
  have R3 := R2.setNe (g' := G) (j := 1) (y := .int .i64 (wAt zs 1)) (by have := HG.out; omega)
  have B3 := B2.setCell (p := ⟨G, 1, none⟩) (by show w.heap.size ≤ G; have := HG.out; omega) (.int .i64 (wAt zs 1))
  go_upto_region 5 with fail
  obtain ⟨w3, hw3⟩ : ∃ w3, w3 = w2.setCell ⟨G, 1, none⟩ (.int .i64 (wAt zs 1)) := ⟨_, rfl⟩
  rw [← hw3] at Q3 R3 B3 ⊢
  clear hw3 qc qf Q2 R2 B2
  go_wp2_with fail
  refine (specWordAt_q _ n cap zs _ 3 _ rfl HS.out.1 (HS.out.2.1.below B3) HS.out.2.2 hl).mono ?_
  rintro e w4 ⟨rfl, b'⟩
  have B4 := bel_next B3 b'
  have Q4 := Q3.below b'
  have R4 := R3.below b'
  clear B3 Q3 R3  b'
  have k0 := Q4.cell 0 rfl
  have HB3 : Hid (0 ≤ wAt zs 3 ∧ wAt zs 3 ≤ 65535) := wAt_bd HS.out.2.2 3
  go_upto_region 7 with fail
  have qc := Q4.cell 2 rfl
  have qf := Q4.fro 2
  have Q5 := Q4.set 2 (.int .i64 (wAt zs 3))
  have R5 := R4.setNe (g' := G) (j := 2) (y := .int .i64 (wAt zs 3)) (by have := HG.out; omega)
  have B5 := B4.setCell (p := ⟨G, 2, none⟩) (by show w.heap.size ≤ G; have := HG.out; omega) (.int .i64 (wAt zs 3))
  go_upto_region 22 with fail
  obtain ⟨w5, hw5⟩ : ∃ w5, w5 = w4.setCell ⟨G, 2, none⟩ (.int .i64 (wAt zs 3)) := ⟨_, rfl⟩
  rw [← hw5] at Q5 R5 B5 ⊢
  clear hw5 qc qf Q4 R4 B4
  have OI : OwnI w5 w.heap.size (.slice none 0 0) (sW 1 zs) := (ownI_nil _ _)
  have OB : OwnB w5 w.heap.size (.slice none 0 0) (sB 1 zs) := (ownB_nil _ _)
  have HE : Hid (0 = (sW 1 zs).length ∧ 0 = (sB 1 zs).length) := ⟨rfl, rfl⟩
  have HLs : Hid ((sW 1 zs).length ≤ 2000000 ∧ (sB 1 zs).length ≤ 2000000) := by
    have := HS.out.1
    show _ ∧ _
    simp [sW, sB]
  obtain ⟨q0, q1, q2, q3, q4, q5⟩ := Q5.six
  go_wp2_with fail
  refine (specReqOk_q 1 ((wAt zs 1)) ((wAt zs 3)) (0) none none 0 0 0 0 (sW 1 zs) (sB 1 zs) _ HE.out.1 HE.out.2 OI.sl.2 OB.sl.2 HLs.out.1 HLs.out.2).mono ?_
  rintro e v1 ⟨rfl, b'⟩
  have C1 := bel_next B5 b'
  have D1 := Q5.below b'
  have E1 := R5.below b'
  have I1 := OI.below b'
  have J1 := OB.below b'
  clear b' B5 Q5 R5 OI OB q0 q1 q2 q3 q4 q5
  have eo : okR 1 ((wAt zs 1)) ((wAt zs 3)) (0) (sW 1 zs) 0 0 = okR 1 (wAt zs 1) (gN 1 zs) (gA 1 zs) (sW 1 zs) (sW 1 zs).length (sB 1 zs).length := by have h1 := HE.out.1; have h2 := HE.out.2; rw [← h1, ← h2]; rfl
  rw [eo]
  obtain ⟨q0, q1, q2, q3, q4, q5⟩ := D1.six
  cases hok : okR 1 (wAt zs 1) (gN 1 zs) (gA 1 zs) (sW 1 zs) (sW 1 zs).length (sB 1 zs).length
  · have hno : ¬ sOk 1 zs = true := by unfold sOk; rw [hok]; simp
    obtain ⟨y0, y1, y2, y3, y4, y5⟩ := E1.six
    have fy := E1.fro
    go_wp2
    refine bodyPost_ret (v := .tuple #[rq 0 0 0 0 none none 0 0 0 0, .int .i64 3]) (by simp [results, Tryz.results7, go_sem, y0, y1, y2, y3, y4, y5]) rfl ?_
    exact spz_no hno (gp_zero (bel_set6 C1 (Nat.le_refl _)))
  · go_wp2_with fail
    refine (specPut_q 1 ((wAt zs 1)) ((wAt zs 3)) (0) none none 0 0 0 0 (sW 1 zs) (sB 1 zs) _ HE.out.1 HE.out.2 I1.sl.2 J1.sl.2 HLs.out.1 HLs.out.2).mono ?_
    rintro e v2 ⟨ap, cp, np, rfl, hnp, op, b'⟩
    rw [eo, hok] at hnp op
    have C2 := bel_next C1 b'
    have D2 := D1.below b'
    have E2 := E1.below b'
    have I2 := I1.below b'
    have J2 := J1.below b'
    have HNP : Hid _ := hnp
    clear b' hnp C1 D1 E1 I1 J1 q0 q1 q2 q3 q4 q5
    have hpl := putV_len 1 ((wAt zs 1)) ((wAt zs 3)) (0) (sW 1 zs) (sB 1 zs) 0 0 HE.out.1 HE.out.2
    rw [eo, hok] at hpl
    obtain ⟨q0, q1, q2, q3, q4, q5⟩ := D2.six
    obtain ⟨y0, y1, y2, y3, y4, y5⟩ := E2.six
    have fy := E2.fro
    cases hZ : decide (putV true 1 ((wAt zs 1)) ((wAt zs 3)) (0) (sW 1 zs) (sB 1 zs) = zs)
    · go_wp2_with fail
      refine (l3Same_any _ _ _ _ _ _ _ zs _ HNP.out HS.out.1 op.sl.2 (HS.out.2.1.below C2) (by omega) (by have := HS.out.1; omega) _ hZ).mono ?_
      rintro e v3 ⟨rfl, b'⟩
      have C3 := bel_next C2 b'
      have D3 := D2.below b'
      have E3 := E2.below b'
      have I3 := I2.below b'
      have J3 := J2.below b'
      clear b' C2 D2 E2 I2 J2 q0 q1 q2 q3 q4 q5 y0 y1 y2 y3 y4 y5 fy
      obtain ⟨q0, q1, q2, q3, q4, q5⟩ := D3.six
      obtain ⟨y0, y1, y2, y3, y4, y5⟩ := E3.six
      have fy := E3.fro
      have hno : ¬ sOk 1 zs = true := by unfold sOk; rw [hok]; have := of_decide_eq_false hZ; simp; exact this
      go_wp2
      refine bodyPost_ret (v := .tuple #[rq 0 0 0 0 none none 0 0 0 0, .int .i64 3]) (by simp [results, Tryz.results7, go_sem, y0, y1, y2, y3, y4, y5]) rfl ?_
      exact spz_no hno (gp_zero (bel_set6 C3 (Nat.le_refl _)))
    · go_wp2_with fail
      refine (l3Same_any _ _ _ _ _ _ _ zs _ HNP.out HS.out.1 op.sl.2 (HS.out.2.1.below C2) (by omega) (by have := HS.out.1; omega) _ hZ).mono ?_
      rintro e v3 ⟨rfl, b'⟩
      have C3 := bel_next C2 b'
      have D3 := D2.below b'
      have E3 := E2.below b'
      have I3 := I2.below b'
      have J3 := J2.below b'
      clear b' C2 D2 E2 I2 J2 q0 q1 q2 q3 q4 q5 y0 y1 y2 y3 y4 y5 fy
      obtain ⟨q0, q1, q2, q3, q4, q5⟩ := D3.six
      obtain ⟨y0, y1, y2, y3, y4, y5⟩ := E3.six
      have fy := E3.fro
      have hyes : sOk 1 zs = true := by unfold sOk; rw [hok]; have := of_decide_eq_true hZ; simp; exact this
      go_wp2
      refine bodyPost_ret (v := .tuple #[rq 1 ((wAt zs 1)) ((wAt zs 3)) (0) none none 0 0 0 0, .int .i64 0]) (by simp [results, Tryz.results7, go_sem, y0, y1, y2, y3, y4, y5]) rfl ?_
      exact spz_yes hyes ⟨_, _, _, _, _, _, rfl, HE.out.1, HE.out.2, row_set6 I3 ⟨_, E3⟩ (by decide), row_set6 J3 ⟨_, E3⟩ (by decide), bel_set6 C3 (Nat.le_refl _)⟩
set_option maxRecDepth 20000 in
set_option maxHeartbeats 8000000 in
theorem specGet_2 (a : Option Addr) (n cap : Nat) (zs : List Int) (w : World) (hn : n = zs.length) (hs : Sl w a zs) (hr : ∀ z ∈ zs, 0 ≤ z ∧ z ≤ 255) (hl : n ≤ 2000000) (hp : 0 < zs.length) (hcap : n ≤ cap) (hk : zs.getD 0 0 = 2) :
    Calls Tryz.prog 7 #[.slice a n cap] w fun e w' => SPz 2 zs w w' e := by
  obtain ⟨W0, hW0⟩ : ∃ W0, W0 = w.alloc (.cells #[.int .i64 0, .int .i64 0, .int .i64 0, .slice none 0 0, .slice none 0 0, .int .i64 0] 30) := ⟨_, rfl⟩
  obtain ⟨W1, hW1⟩ : ∃ W1, W1 = W0.alloc (.cells #[.int .i64 2, .int .i64 0, .int .i64 0, .slice none 0 0, .slice none 0 0, .int .i64 0] 30) := ⟨_, rfl⟩
  have HW : Hid (W0 = _) := hW0
  have HW1 : Hid (W1 = W0.alloc (.cells #[.int .i64 2, .int .i64 0, .int .i64 0, .slice none 0 0, .slice none 0 0, .int .i64 0] 30)) := hW1
  have b0 : Below w.heap.size w W0 := by rw [hW0]; exact bel_alloc _ _
  have b1 : Below W0.heap.size W0 W1 := by rw [hW1]; exact bel_alloc _ _
  have R0 : Blk W0 w.heap.size 30 #[.int .i64 0, .int .i64 0, .int .i64 0, .slice none 0 0, .slice none 0 0, .int .i64 0] := by rw [hW0]; exact Blk.new _ _ _
  have hg : W0.heap.size = w.heap.size + 1 := by rw [hW0]; simp
  obtain ⟨G, hG⟩ : ∃ G, G = W0.heap.size := ⟨_, rfl⟩
  have HG : Hid (w.heap.size < G) := by show w.heap.size < G; omega
  have HGe : Hid (G = W0.heap.size) := hG
  have Q1 : Blk W1 G 30 #[.int .i64 2, .int .i64 0, .int .i64 0, .slice none 0 0, .slice none 0 0, .int .i64 0] := by rw [hW1, hG]; exact Blk.new _ _ _
  have R1 := R0.below b1
  have B1 := bel_next b0 b1
  obtain ⟨bk, off, ea, hbk, hc⟩ := cell_at hs hp
  rw [hk] at hc
  have hc0 : W0.cell? ⟨bk, off, none⟩ = some (.int .u8 2) := (b0.cell (p := ⟨bk, off, none⟩) hbk).trans (by simpa using hc)
  have hz : ¬ (n : Int) = 0 := by omega
  have hz0 : (0 : Int) < (n : Int) := by omega
  have HS : Hid (n = zs.length ∧ Sl w a zs ∧ (∀ z ∈ zs, 0 ≤ z ∧ z ≤ 255)) := ⟨hn, hs, hr⟩
  have HP : Hid (0 < zs.length) := hp
  subst ea
  clear hn hs hr hc hW0 hW1 hg hG R0 hk hp
  go_enter Tryz.func7, Tryz.ntmps7
  go_upto_region 1 with fail
  rw [← HW.out]
  go_wp2_with fail
  refine (l3Kind_any _ _ true rfl).mono ?_
  rintro e wx ⟨rfl, rfl⟩
  go_upto_region 4 with fail
  rw [← HW1.out]
  simp only [← HGe.out]
  clear hc0 b0 b1
  go_wp2_with fail
  refine (specWordAt_q _ n cap zs _ 1 _ rfl HS.out.1 (HS.out.2.1.below B1) HS.out.2.2 hl).mono ?_
  rintro e w2 ⟨rfl, b'⟩
  have B2 := bel_next B1 b'
  have Q2 := Q1.below b'
  have R2 := R1.below b'
  clear B1 Q1 R1  b'
  have qc := Q2.cell 1 rfl
  have qf := Q2.fro 1
  have Q3 := Q2.set 1 (.int .i64 (wAt zs 1))
  have R3 := R2.setNe (g' := G) (j := 1) (y := .int .i64 (wAt zs 1)) (by have := HG.out; omega)
  have B3 := B2.setCell (p := ⟨G, 1, none⟩) (by show w.heap.size ≤ G; have := HG.out; omega) (.int .i64 (wAt zs 1))
  go_upto_region 5 with fail
  obtain ⟨w3, hw3⟩ : ∃ w3, w3 = w2.setCell ⟨G, 1, none⟩ (.int .i64 (wAt zs 1)) := ⟨_, rfl⟩
  rw [← hw3] at Q3 R3 B3 ⊢
  clear hw3 qc qf Q2 R2 B2
  go_wp2_with fail
  refine (specWordAt_q _ n cap zs _ 3 _ rfl HS.out.1 (HS.out.2.1.below B3) HS.out.2.2 hl).mono ?_
  rintro e w4 ⟨rfl, b'⟩
  have B4 := bel_next B3 b'
  have Q4 := Q3.below b'
  have R4 := R3.below b'
  clear B3 Q3 R3  b'
  have k0 := Q4.cell 0 rfl
  have HB3 : Hid (0 ≤ wAt zs 3 ∧ wAt zs 3 ≤ 65535) := wAt_bd HS.out.2.2 3
  go_upto_region 7 with fail
  have qc := Q4.cell 2 rfl
  have qf := Q4.fro 2
  have Q5 := Q4.set 2 (.int .i64 (wAt zs 3))
  have R5 := R4.setNe (g' := G) (j := 2) (y := .int .i64 (wAt zs 3)) (by have := HG.out; omega)
  have B5 := B4.setCell (p := ⟨G, 2, none⟩) (by show w.heap.size ≤ G; have := HG.out; omega) (.int .i64 (wAt zs 3))
  go_upto_region 22 with fail
  obtain ⟨w5, hw5⟩ : ∃ w5, w5 = w4.setCell ⟨G, 2, none⟩ (.int .i64 (wAt zs 3)) := ⟨_, rfl⟩
  rw [← hw5] at Q5 R5 B5 ⊢
  clear hw5 qc qf Q4 R4 B4
  have OI : OwnI w5 w.heap.size (.slice none 0 0) (sW 2 zs) := (ownI_nil _ _)
  have OB : OwnB w5 w.heap.size (.slice none 0 0) (sB 2 zs) := (ownB_nil _ _)
  have HE : Hid (0 = (sW 2 zs).length ∧ 0 = (sB 2 zs).length) := ⟨rfl, rfl⟩
  have HLs : Hid ((sW 2 zs).length ≤ 2000000 ∧ (sB 2 zs).length ≤ 2000000) := by
    have := HS.out.1
    show _ ∧ _
    simp [sW, sB]
  obtain ⟨q0, q1, q2, q3, q4, q5⟩ := Q5.six
  go_wp2_with fail
  refine (specReqOk_q 2 ((wAt zs 1)) ((wAt zs 3)) (0) none none 0 0 0 0 (sW 2 zs) (sB 2 zs) _ HE.out.1 HE.out.2 OI.sl.2 OB.sl.2 HLs.out.1 HLs.out.2).mono ?_
  rintro e v1 ⟨rfl, b'⟩
  have C1 := bel_next B5 b'
  have D1 := Q5.below b'
  have E1 := R5.below b'
  have I1 := OI.below b'
  have J1 := OB.below b'
  clear b' B5 Q5 R5 OI OB q0 q1 q2 q3 q4 q5
  have eo : okR 2 ((wAt zs 1)) ((wAt zs 3)) (0) (sW 2 zs) 0 0 = okR 2 (wAt zs 1) (gN 2 zs) (gA 2 zs) (sW 2 zs) (sW 2 zs).length (sB 2 zs).length := by have h1 := HE.out.1; have h2 := HE.out.2; rw [← h1, ← h2]; rfl
  rw [eo]
  obtain ⟨q0, q1, q2, q3, q4, q5⟩ := D1.six
  cases hok : okR 2 (wAt zs 1) (gN 2 zs) (gA 2 zs) (sW 2 zs) (sW 2 zs).length (sB 2 zs).length
  · have hno : ¬ sOk 2 zs = true := by unfold sOk; rw [hok]; simp
    obtain ⟨y0, y1, y2, y3, y4, y5⟩ := E1.six
    have fy := E1.fro
    go_wp2
    refine bodyPost_ret (v := .tuple #[rq 0 0 0 0 none none 0 0 0 0, .int .i64 3]) (by simp [results, Tryz.results7, go_sem, y0, y1, y2, y3, y4, y5]) rfl ?_
    exact spz_no hno (gp_zero (bel_set6 C1 (Nat.le_refl _)))
  · go_wp2_with fail
    refine (specPut_q 2 ((wAt zs 1)) ((wAt zs 3)) (0) none none 0 0 0 0 (sW 2 zs) (sB 2 zs) _ HE.out.1 HE.out.2 I1.sl.2 J1.sl.2 HLs.out.1 HLs.out.2).mono ?_
    rintro e v2 ⟨ap, cp, np, rfl, hnp, op, b'⟩
    rw [eo, hok] at hnp op
    have C2 := bel_next C1 b'
    have D2 := D1.below b'
    have E2 := E1.below b'
    have I2 := I1.below b'
    have J2 := J1.below b'
    have HNP : Hid _ := hnp
    clear b' hnp C1 D1 E1 I1 J1 q0 q1 q2 q3 q4 q5
    have hpl := putV_len 2 ((wAt zs 1)) ((wAt zs 3)) (0) (sW 2 zs) (sB 2 zs) 0 0 HE.out.1 HE.out.2
    rw [eo, hok] at hpl
    obtain ⟨q0, q1, q2, q3, q4, q5⟩ := D2.six
    obtain ⟨y0, y1, y2, y3, y4, y5⟩ := E2.six
    have fy := E2.fro
    cases hZ : decide (putV true 2 ((wAt zs 1)) ((wAt zs 3)) (0) (sW 2 zs) (sB 2 zs) = zs)
    · go_wp2_with fail
      refine (l3Same_any _ _ _ _ _ _ _ zs _ HNP.out HS.out.1 op.sl.2 (HS.out.2.1.below C2) (by omega) (by have := HS.out.1; omega) _ hZ).mono ?_
      rintro e v3 ⟨rfl, b'⟩
      have C3 := bel_next C2 b'
      have D3 := D2.below b'
      have E3 := E2.below b'
      have I3 := I2.below b'
      have J3 := J2.below b'
      clear b' C2 D2 E2 I2 J2 q0 q1 q2 q3 q4 q5 y0 y1 y2 y3 y4 y5 fy
      obtain ⟨q0, q1, q2, q3, q4, q5⟩ := D3.six
      obtain ⟨y0, y1, y2, y3, y4, y5⟩ := E3.six
      have fy := E3.fro
      have hno : ¬ sOk 2 zs = true := by unfold sOk; rw [hok]; have := of_decide_eq_false hZ; simp; exact this
      go_wp2
      refine bodyPost_ret (v := .tuple #[rq 0 0 0 0 none none 0 0 0 0, .int .i64 3]) (by simp [results, Tryz.results7, go_sem, y0, y1, y2, y3, y4, y5]) rfl ?_
      exact spz_no hno (gp_zero (bel_set6 C3 (Nat.le_refl _)))
    · go_wp2_with fail
      refine (l3Same_any _ _ _ _ _ _ _ zs _ HNP.out HS.out.1 op.sl.2 (HS.out.2.1.below C2) (by omega) (by have := HS.out.1; omega) _ hZ).mono ?_
      rintro e v3 ⟨rfl, b'⟩
      have C3 := bel_next C2 b'
      have D3 := D2.below b'
      have E3 := E2.below b'
      have I3 := I2.below b'
      have J3 := J2.below b'
      clear b' C2 D2 E2 I2 J2 q0 q1 q2 q3 q4 q5 y0 y1 y2 y3 y4 y5 fy
      obtain ⟨q0, q1, q2, q3, q4, q5⟩ := D3.six
      obtain ⟨y0, y1, y2, y3, y4, y5⟩ := E3.six
      have fy := E3.fro
      have hyes : sOk 2 zs = true := by unfold sOk; rw [hok]; have := of_decide_eq_true hZ; simp; exact this
      go_wp2
      refine bodyPost_ret (v := .tuple #[rq 2 ((wAt zs 1)) ((wAt zs 3)) (0) none none 0 0 0 0, .int .i64 0]) (by simp [results, Tryz.results7, go_sem, y0, y1, y2, y3, y4, y5]) rfl ?_
      exact spz_yes hyes ⟨_, _, _, _, _, _, rfl, HE.out.1, HE.out.2, row_set6 I3 ⟨_, E3⟩ (by decide), row_set6 J3 ⟨_, E3⟩ (by decide), bel_set6 C3 (Nat.le_refl _)⟩
set_option maxRecDepth 20000 in
set_option maxHeartbeats 8000000 in
theorem specGet_3 (a : Option Addr) (n cap : Nat) (zs : List Int) (w : World) (hn : n = zs.length) (hs : Sl w a zs) (hr : ∀ z ∈ zs, 0 ≤ z ∧ z ≤ 255) (hl : n ≤ 2000000) (hp : 0 < zs.length) (hcap : n ≤ cap) (hk : zs.getD 0 0 = 3) :
    Calls Tryz.prog 7 #[.slice a n cap] w fun e w' => SPz 3 zs w w' e := by
  obtain ⟨W0, hW0⟩ : ∃ W0, W0 = w.alloc (.cells #[.int .i64 0, .int .i64 0, .int .i64 0, .slice none 0 0, .slice none 0 0, .int .i64 0] 30) := ⟨_, rfl⟩
  obtain ⟨W1, hW1⟩ : ∃ W1, W1 = W0.alloc (.cells #[.int .i64 3, .int .i64 0, .int .i64 0, .slice none 0 0, .slice none 0 0, .int .i64 0] 30) := ⟨_, rfl⟩
  have HW : Hid (W0 = _) := hW0
  have HW1 : Hid (W1 = W0.alloc (.cells #[.int .i64 3, .int .i64 0, .int .i64 0, .slice none 0 0, .slice none 0 0, .int .i64 0] 30)) := hW1
  have b0 : Below w.heap.size w W0 := by rw [hW0]; exact bel_alloc _ _
  have b1 : Below W0.heap.size W0 W1 := by rw [hW1]; exact bel_alloc _ _
  have R0 : Blk W0 w.heap.size 30 #[.int .i64 0, .int .i64 0, .int .i64 0, .slice none 0 0, .slice none 0 0, .int .i64 0] := by rw [hW0]; exact Blk.new _ _ _
  have hg : W0.heap.size = w.heap.size + 1 := by rw [hW0]; simp
  obtain ⟨G, hG⟩ : ∃ G, G = W0.heap.size := ⟨_, rfl⟩
  have HG : Hid (w.heap.size < G) := by show w.heap.size < G; omega
  have HGe : Hid (G = W0.heap.size) := hG
  have Q1 : Blk W1 G 30 #[.int .i64 3, .int .i64 0, .int .i64 0, .slice none 0 0, .slice none 0 0, .int .i64 0] := by rw [hW1, hG]; exact Blk.new _ _ _
  have R1 := R0.below b1
  have B1 := bel_next b0 b1
  obtain ⟨bk, off, ea, hbk, hc⟩ := cell_at hs hp
  rw [hk] at hc
  have hc0 : W0.cell? ⟨bk, off, none⟩ = some (.int .u8 3) := (b0.cell (p := ⟨bk, off, none⟩) hbk).trans (by simpa using hc)
  have hz : ¬ (n : Int) = 0 := by omega
  have hz0 : (0 : Int) < (n : Int) := by omega
  have HS : Hid (n = zs.length ∧ Sl w a zs ∧ (∀ z ∈ zs, 0 ≤ z ∧ z ≤ 255)) := ⟨hn, hs, hr⟩
  have HP : Hid (0 < zs.length) := hp
  subst ea
  clear hn hs hr hc hW0 hW1 hg hG R0 hk hp
  go_enter Tryz.func7, Tryz.ntmps7
  go_upto_region 1 with fail
  rw [← HW.out]
  go_wp2_with fail
  refine (l3Kind_any _ _ true rfl).mono ?_
  rintro e wx ⟨rfl, rfl⟩
  go_upto_region 4 with fail
  rw [← HW1.out]
  simp only [← HGe.out]
  clear hc0 b0 b1
  go_wp2_with fail
  refine (specWordAt_q _ n cap zs _ 1 _ rfl HS.out.1 (HS.out.2.1.below B1) HS.out.2.2 hl).mono ?_
  rintro e w2 ⟨rfl, b'⟩
  have B2 := bel_next B1 b'
  have Q2 := Q1.below b'
  have R2 := R1.below b'
  clear B1 Q1 R1  b'
  have qc := Q2.cell 1 rfl
  have qf := Q2.fro 1
  have Q3 := Q2.set 1 (.int .i64 (wAt zs 1))
  have R3 := R2.setNe (g' := G) (j := 1) (y := .int .i64 (wAt zs 1)) (by have := HG.out; omega)
  have B3 := B2.setCell (p := ⟨G, 1, none⟩) (by show w.heap.size ≤ G; have := HG.out; omega) (.int .i64 (wAt zs 1))
  go_upto_region 5 with fail
  obtain ⟨w3, hw3⟩ : ∃ w3, w3 = w2.setCell ⟨G, 1, none⟩ (.int .i64 (wAt zs 1)) := ⟨_, rfl⟩
  rw [← hw3] at Q3 R3 B3 ⊢
  clear hw3 qc qf Q2 R2 B2
  go_wp2_with fail
  refine (specWordAt_q _ n cap zs _ 3 _ rfl HS.out.1 (HS.out.2.1.below B3) HS.out.2.2 hl).mono ?_
  rintro e w4 ⟨rfl, b'⟩
  have B4 := bel_next B3 b'
  have Q4 := Q3.below b'
  have R4 := R3.below b'
  clear B3 Q3 R3  b'
  have k0 := Q4.cell 0 rfl
  have HB3 : Hid (0 ≤ wAt zs 3 ∧ wAt zs 3 ≤ 65535) := wAt_bd HS.out.2.2 3
  go_upto_region 7 with fail
  have qc := Q4.cell 2 rfl
  have qf := Q4.fro 2
  have Q5 := Q4.set 2 (.int .i64 (wAt zs 3))
  have R5 := R4.setNe (g' := G) (j := 2) (y := .int .i64 (wAt zs 3)) (by have := HG.out; omega)
  have B5 := B4.setCell (p := ⟨G, 2, none⟩) (by show w.heap.size ≤ G; have := HG.out; omega) (.int .i64 (wAt zs 3))
  go_upto_region 22 with fail
  obtain ⟨w5, hw5⟩ : ∃ w5, w5 = w4.setCell ⟨G, 2, none⟩ (.int .i64 (wAt zs 3)) := ⟨_, rfl⟩
  rw [← hw5] at Q5 R5 B5 ⊢
  clear hw5 qc qf Q4 R4 B4
  have OI : OwnI w5 w.heap.size (.slice none 0 0) (sW 3 zs) := (ownI_nil _ _)
  have OB : OwnB w5 w.heap.size (.slice none 0 0) (sB 3 zs) := (ownB_nil _ _)
  have HE : Hid (0 = (sW 3 zs).length ∧ 0 = (sB 3 zs).length) := ⟨rfl, rfl⟩
  have HLs : Hid ((sW 3 zs).length ≤ 2000000 ∧ (sB 3 zs).length ≤ 2000000) := by
    have := HS.out.1
    show _ ∧ _
    simp [sW, sB]
  obtain ⟨q0, q1, q2, q3, q4, q5⟩ := Q5.six
  go_wp2_with fail
  refine (specReqOk_q 3 ((wAt zs 1)) ((wAt zs 3)) (0) none none 0 0 0 0 (sW 3 zs) (sB 3 zs) _ HE.out.1 HE.out.2 OI.sl.2 OB.sl.2 HLs.out.1 HLs.out.2).mono ?_
  rintro e v1 ⟨rfl, b'⟩
  have C1 := bel_next B5 b'
  have D1 := Q5.below b'
  have E1 := R5.below b'
  have I1 := OI.below b'
  have J1 := OB.below b'
  clear b' B5 Q5 R5 OI OB q0 q1 q2 q3 q4 q5
  have eo : okR 3 ((wAt zs 1)) ((wAt zs 3)) (0) (sW 3 zs) 0 0 = okR 3 (wAt zs 1) (gN 3 zs) (gA 3 zs) (sW 3 zs) (sW 3 zs).length (sB 3 zs).length := by have h1 := HE.out.1; have h2 := HE.out.2; rw [← h1, ← h2]; rfl
  rw [eo]
  obtain ⟨q0, q1, q2, q3, q4, q5⟩ := D1.six
  cases hok : okR 3 (wAt zs 1) (gN 3 zs) (gA 3 zs) (sW 3 zs) (sW 3 zs).length (sB 3 zs).length
  · have hno : ¬ sOk 3 zs = true := by unfold sOk; rw [hok]; simp
    obtain ⟨y0, y1, y2, y3, y4, y5⟩ := E1.six
    have fy := E1.fro
    go_wp2
    refine bodyPost_ret (v := .tuple #[rq 0 0 0 0 none none 0 0 0 0, .int .i64 3]) (by simp [results, Tryz.results7, go_sem, y0, y1, y2, y3, y4, y5]) rfl ?_
    exact spz_no hno (gp_zero (bel_set6 C1 (Nat.le_refl _)))
  · go_wp2_with fail
    refine (specPut_q 3 ((wAt zs 1)) ((wAt zs 3)) (0) none none 0 0 0 0 (sW 3 zs) (sB 3 zs) _ HE.out.1 HE.out.2 I1.sl.2 J1.sl.2 HLs.out.1 HLs.out.2).mono ?_
    rintro e v2 ⟨ap, cp, np, rfl, hnp, op, b'⟩
    rw [eo, hok] at hnp op
    have C2 := bel_next C1 b'
    have D2 := D1.below b'
    have E2 := E1.below b'
    have I2 := I1.below b'
    have J2 := J1.below b'
    have HNP : Hid _ := hnp
    clear b' hnp C1 D1 E1 I1 J1 q0 q1 q2 q3 q4 q5
    have hpl := putV_len 3 ((wAt zs 1)) ((wAt zs 3)) (0) (sW 3 zs) (sB 3 zs) 0 0 HE.out.1 HE.out.2
    rw [eo, hok] at hpl
    obtain ⟨q0, q1, q2, q3, q4, q5⟩ := D2.six
    obtain ⟨y0, y1, y2, y3, y4, y5⟩ := E2.six
    have fy := E2.fro
    cases hZ : decide (putV true 3 ((wAt zs 1)) ((wAt zs 3)) (0) (sW 3 zs) (sB 3 zs) = zs)
    · go_wp2_with fail
      refine (l3Same_any _ _ _ _ _ _ _ zs _ HNP.out HS.out.1 op.sl.2 (HS.out.2.1.below C2) (by omega) (by have := HS.out.1; omega) _ hZ).mono ?_
      rintro e v3 ⟨rfl, b'⟩
      have C3 := bel_next C2 b'
      have D3 := D2.below b'
      have E3 := E2.below b'
      have I3 := I2.below b'
      have J3 := J2.below b'
      clear b' C2 D2 E2 I2 J2 q0 q1 q2 q3 q4 q5 y0 y1 y2 y3 y4 y5 fy
      obtain ⟨q0, q1, q2, q3, q4, q5⟩ := D3.six
      obtain ⟨y0, y1, y2, y3, y4, y5⟩ := E3.six
      have fy := E3.fro
      have hno : ¬ sOk 3 zs = true := by unfold sOk; rw [hok]; have := of_decide_eq_false hZ; simp; exact this
      go_wp2
      refine bodyPost_ret (v := .tuple #[rq 0 0 0 0 none none 0 0 0 0, .int .i64 3]) (by simp [results, Tryz.results7, go_sem, y0, y1, y2, y3, y4, y5]) rfl ?_
      exact spz_no hno (gp_zero (bel_set6 C3 (Nat.le_refl _)))
    · go_wp2_with fail
      refine (l3Same_any _ _ _ _ _ _ _ zs _ HNP.out HS.out.1 op.sl.2 (HS.out.2.1.below C2) (by omega) (by have := HS.out.1; omega) _ hZ).mono ?_
      rintro e v3 ⟨rfl, b'⟩
      have C3 := bel_next C2 b'
      have D3 := D2.below b'
      have E3 := E2.below b'
      have I3 := I2.below b'
      have J3 := J2.below b'
      clear b' C2 D2 E2 I2 J2 q0 q1 q2 q3 q4 q5 y0 y1 y2 y3 y4 y5 fy
      obtain ⟨q0, q1, q2, q3, q4, q5⟩ := D3.six
      obtain ⟨y0, y1, y2, y3, y4, y5⟩ := E3.six
      have fy := E3.fro
      have hyes : sOk 3 zs = true := by unfold sOk; rw [hok]; have := of_decide_eq_true hZ; simp; exact this
      go_wp2
      refine bodyPost_ret (v := .tuple #[rq 3 ((wAt zs 1)) ((wAt zs 3)) (0) none none 0 0 0 0, .int .i64 0]) (by simp [results, Tryz.results7, go_sem, y0, y1, y2, y3, y4, y5]) rfl ?_
      exact spz_yes hyes ⟨_, _, _, _, _, _, rfl, HE.out.1, HE.out.2, row_set6 I3 ⟨_, E3⟩ (by decide), row_set6 J3 ⟨_, E3⟩ (by decide), bel_set6 C3 (Nat.le_refl _)⟩
set_option maxRecDepth 20000 in
set_option maxHeartbeats 8000000 in
theorem specGet_4 (a : Option Addr) (n cap : Nat) (zs : List Int) (w : World) (hn : n = zs.length) (hs : Sl w a zs) (hr : ∀ z ∈ zs, 0 ≤ z ∧ z ≤ 255) (hl : n ≤ 2000000) (hp : 0 < zs.length) (hcap : n ≤ cap) (hk : zs.getD 0 0 = 4) :
    Calls Tryz.prog 7 #[.slice a n cap] w fun e w' => SPz 4 zs w w' e := by
  obtain ⟨W0, hW0⟩ : ∃ W0, W0 = w.alloc (.cells #[.int .i64 0, .int .i64 0, .int .i64 0, .slice none 0 0, .slice none 0 0, .int .i64 0] 30) := ⟨_, rfl⟩
  obtain ⟨W1, hW1⟩ : ∃ W1, W1 = W0.alloc (.cells #[.int .i64 4, .int .i64 0, .int .i64 0, .slice none 0 0, .slice none 0 0, .int .i64 0] 30) := ⟨_, rfl⟩
  have HW : Hid (W0 = _) := hW0
  have HW1 : Hid (W1 = W0.alloc (.cells #[.int .i64 4, .int .i64 0, .int .i64 0, .slice none 0 0, .slice none 0 0, .int .i64 0] 30)) := hW1
  have b0 : Below w.heap.size w W0 := by rw [hW0]; exact bel_alloc _ _
  have b1 : Below W0.heap.size W0 W1 := by rw [hW1]; exact bel_alloc _ _
  have R0 : Blk W0 w.heap.size 30 #[.int .i64 0, .int .i64 0, .int .i64 0, .slice none 0 0, .slice none 0 0, .int .i64 0] := by rw [hW0]; exact Blk.new _ _ _
  have hg : W0.heap.size = w.heap.size + 1 := by rw [hW0]; simp
  obtain ⟨G, hG⟩ : ∃ G, G = W0.heap.size := ⟨_, rfl⟩
  have HG : Hid (w.heap.size < G) := by show w.heap.size < G; omega
  have HGe : Hid (G = W0.heap.size) := hG
  have Q1 : Blk W1 G 30 #[.int .i64 4, .int .i64 0, .int .i64 0, .slice none 0 0, .slice none 0 0, .int .i64 0] := by rw [hW1, hG]; exact Blk.new _ _ _
  have R1 := R0.below b1
  have B1 := bel_next b0 b1
  obtain ⟨bk, off, ea, hbk, hc⟩ := cell_at hs hp
  rw [hk] at hc
  have hc0 : W0.cell? ⟨bk, off, none⟩ = some (.int .u8 4) := (b0.cell (p := ⟨bk, off, none⟩) hbk).trans (by simpa using hc)
  have hz : ¬ (n : Int) = 0 := by omega
  have hz0 : (0 : Int) < (n : Int) := by omega
  have HS : Hid (n = zs.length ∧ Sl w a zs ∧ (∀ z ∈ zs, 0 ≤ z ∧ z ≤ 255)) := ⟨hn, hs, hr⟩
  have HP : Hid (0 < zs.length) := hp
  subst ea
  clear hn hs hr hc hW0 hW1 hg hG R0 hk hp
  go_enter Tryz.func7, Tryz.ntmps7
  go_upto_region 1 with fail
  rw [← HW.out]
  go_wp2_with fail
  refine (l3Kind_any _ _ true rfl).mono ?_
  rintro e wx ⟨rfl, rfl⟩
  go_upto_region 4 with fail
  rw [← HW1.out]
  simp only [← HGe.out]
  clear hc0 b0 b1
  go_wp2_with fail
  refine (specWordAt_q _ n cap zs _ 1 _ rfl HS.out.1 (HS.out.2.1.below B1) HS.out.2.2 hl).mono ?_
  rintro e w2 ⟨rfl, b'⟩
  have B2 := bel_next B1 b'
  have Q2 := Q1.below b'
  have R2 := R1.below b'
  clear B1 Q1 R1  b'
  have qc := Q2.cell 1 rfl
  have qf := Q2.fro 1
  have Q3 := Q2.set 1 (.int .i64 (wAt zs 1))
  have R3 := R2.setNe (g' := G) (j := 1) (y := .int .i64 (wAt zs 1)) (by have := HG.out; omega)
  have B3 := B2.setCell (p := ⟨G, 1, none⟩) (by show w.heap.size ≤ G; have := HG.out; omega) (.int .i64 (wAt zs 1))
  go_upto_region 5 with fail
  obtain ⟨w3, hw3⟩ : ∃ w3, w3 = w2.setCell ⟨G, 1, none⟩ (.int .i64 (wAt zs 1)) := ⟨_, rfl⟩
  rw [← hw3] at Q3 R3 B3 ⊢
  clear hw3 qc qf Q2 R2 B2
  go_wp2_with fail
  refine (specWordAt_q _ n cap zs _ 3 _ rfl HS.out.1 (HS.out.2.1.below B3) HS.out.2.2 hl).mono ?_
  rintro e w4 ⟨rfl, b'⟩
  have B4 := bel_next B3 b'
  have Q4 := Q3.below b'
  have R4 := R3.below b'
  clear B3 Q3 R3  b'
  have k0 := Q4.cell 0 rfl
  have HB3 : Hid (0 ≤ wAt zs 3 ∧ wAt zs 3 ≤ 65535) := wAt_bd HS.out.2.2 3
  go_upto_region 7 with fail
  have qc := Q4.cell 2 rfl
  have qf := Q4.fro 2
  have Q5 := Q4.set 2 (.int .i64 (wAt zs 3))
  have R5 := R4.setNe (g' := G) (j := 2) (y := .int .i64 (wAt zs 3)) (by have := HG.out; omega)
  have B5 := B4.setCell (p := ⟨G, 2, none⟩) (by show w.heap.size ≤ G; have := HG.out; omega) (.int .i64 (wAt zs 3))
  go_upto_region 22 with fail
  obtain ⟨w5, hw5⟩ : ∃ w5, w5 = w4.setCell ⟨G, 2, none⟩ (.int .i64 (wAt zs 3)) := ⟨_, rfl⟩
  rw [← hw5] at Q5 R5 B5 ⊢
  clear hw5 qc qf Q4 R4 B4
  have OI : OwnI w5 w.heap.size (.slice none 0 0) (sW 4 zs) := (ownI_nil _ _)
  have OB : OwnB w5 w.heap.size (.slice none 0 0) (sB 4 zs) := (ownB_nil _ _)
  have HE : Hid (0 = (sW 4 zs).length ∧ 0 = (sB 4 zs).length) := ⟨rfl, rfl⟩
  have HLs : Hid ((sW 4 zs).length ≤ 2000000 ∧ (sB 4 zs).length ≤ 2000000) := by
    have := HS.out.1
    show _ ∧ _
    simp [sW, sB]
  obtain ⟨q0, q1, q2, q3, q4, q5⟩ := Q5.six
  go_wp2_with fail
  refine (specReqOk_q 4 ((wAt zs 1)) ((wAt zs 3)) (0) none none 0 0 0 0 (sW 4 zs) (sB 4 zs) _ HE.out.1 HE.out.2 OI.sl.2 OB.sl.2 HLs.out.1 HLs.out.2).mono ?_
  rintro e v1 ⟨rfl, b'⟩
  have C1 := bel_next B5 b'
  have D1 := Q5.below b'
  have E1 := R5.below b'
  have I1 := OI.below b'
  have J1 := OB.below b'
  clear b' B5 Q5 R5 OI OB q0 q1 q2 q3 q4 q5
  have eo : okR 4 ((wAt zs 1)) ((wAt zs 3)) (0) (sW 4 zs) 0 0 = okR 4 (wAt zs 1) (gN 4 zs) (gA 4 zs) (sW 4 zs) (sW 4 zs).length (sB 4 zs).length := by have h1 := HE.out.1; have h2 := HE.out.2; rw [← h1, ← h2]; rfl
  rw [eo]
  obtain ⟨q0, q1, q2, q3, q4, q5⟩ := D1.six
  cases hok : okR 4 (wAt zs 1) (gN 4 zs) (gA 4 zs) (sW 4 zs) (sW 4 zs).length (sB 4 zs).length
  · have hno : ¬ sOk 4 zs = true := by unfold sOk; rw [hok]; simp
    obtain ⟨y0, y1, y2, y3, y4, y5⟩ := E1.six
    have fy := E1.fro
    go_wp2
    refine bodyPost_ret (v := .tuple #[rq 0 0 0 0 none none 0 0 0 0, .int .i64 3]) (by simp [results, Tryz.results7, go_sem, y0, y1, y2, y3, y4, y5]) rfl ?_
    exact spz_no hno (gp_zero (bel_set6 C1 (Nat.le_refl _)))
  · go_wp2_with fail
    refine (specPut_q 4 ((wAt zs 1)) ((wAt zs 3)) (0) none none 0 0 0 0 (sW 4 zs) (sB 4 zs) _ HE.out.1 HE.out.2 I1.sl.2 J1.sl.2 HLs.out.1 HLs.out.2).mono ?_
    rintro e v2 ⟨ap, cp, np, rfl, hnp, op, b'⟩
    rw [eo, hok] at hnp op
    have C2 := bel_next C1 b'
    have D2 := D1.below b'
    have E2 := E1.below b'
    have I2 := I1.below b'
    have J2 := J1.below b'
    have HNP : Hid _ := hnp
    clear b' hnp C1 D1 E1 I1 J1 q0 q1 q2 q3 q4 q5
    have hpl := putV_len 4 ((wAt zs 1)) ((wAt zs 3)) (0) (sW 4 zs) (sB 4 zs) 0 0 HE.out.1 HE.out.2
    rw [eo, hok] at hpl
    obtain ⟨q0, q1, q2, q3, q4, q5⟩ := D2.six
    obtain ⟨y0, y1, y2, y3, y4, y5⟩ := E2.six
    have fy := E2.fro
    cases hZ : decide (putV true 4 ((wAt zs 1)) ((wAt zs 3)) (0) (sW 4 zs) (sB 4 zs) = zs)
    · go_wp2_with fail
      refine (l3Same_any _ _ _ _ _ _ _ zs _ HNP.out HS.out.1 op.sl.2 (HS.out.2.1.below C2) (by omega) (by have := HS.out.1; omega) _ hZ).mono ?_
      rintro e v3 ⟨rfl, b'⟩
      have C3 := bel_next C2 b'
      have D3 := D2.below b'
      have E3 := E2.below b'
      have I3 := I2.below b'
      have J3 := J2.below b'
      clear b' C2 D2 E2 I2 J2 q0 q1 q2 q3 q4 q5 y0 y1 y2 y3 y4 y5 fy
      obtain ⟨q0, q1, q2, q3, q4, q5⟩ := D3.six
      obtain ⟨y0, y1, y2, y3, y4, y5⟩ := E3.six
      have fy := E3.fro
      have hno : ¬ sOk 4 zs = true := by unfold sOk; rw [hok]; have := of_decide_eq_false hZ; simp; exact this
      go_wp2
      refine bodyPost_ret (v := .tuple #[rq 0 0 0 0 none none 0 0 0 0, .int .i64 3]) (by simp [results, Tryz.results7, go_sem, y0, y1, y2, y3, y4, y5]) rfl ?_
      exact spz_no hno (gp_zero (bel_set6 C3 (Nat.le_refl _)))
    · go_wp2_with fail
      refine (l3Same_any _ _ _ _ _ _ _ zs _ HNP.out HS.out.1 op.sl.2 (HS.out.2.1.below C2) (by omega) (by have := HS.out.1; omega) _ hZ).mono ?_
      rintro e v3 ⟨rfl, b'⟩
      have C3 := bel_next C2 b'
      have D3 := D2.below b'
      have E3 := E2.below b'
      have I3 := I2.below b'
      have J3 := J2.below b'
      clear b' C2 D2 E2 I2 J2 q0 q1 q2 q3 q4 q5 y0 y1 y2 y3 y4 y5 fy
      obtain ⟨q0, q1, q2, q3, q4, q5⟩ := D3.six
      obtain ⟨y0, y1, y2, y3, y4, y5⟩ := E3.six
      have fy := E3.fro
      have hyes : sOk 4 zs = true := by unfold sOk; rw [hok]; have := of_decide_eq_true hZ; simp; exact this
      go_wp2
      refine bodyPost_ret (v := .tuple #[rq 4 ((wAt zs 1)) ((wAt zs 3)) (0) none none 0 0 0 0, .int .i64 0]) (by simp [results, Tryz.results7, go_sem, y0, y1, y2, y3, y4, y5]) rfl ?_
      exact spz_yes hyes ⟨_, _, _, _, _, _, rfl, HE.out.1, HE.out.2, row_set6 I3 ⟨_, E3⟩ (by decide), row_set6 J3 ⟨_, E3⟩ (by decide), bel_set6 C3 (Nat.le_refl _)⟩
set_option maxRecDepth 20000 in
set_option maxHeartbeats 8000000 in
theorem specGet_5 (a : Option Addr) (n cap : Nat) (zs : List Int) (w : World) (hn : n = zs.length) (hs : Sl w a zs) (hr : ∀ z ∈ zs, 0 ≤ z ∧ z ≤ 255) (hl : n ≤ 2000000) (hp : 0 < zs.length) (hcap : n ≤ cap) (hk : zs.getD 0 0 = 5) :
    Calls Tryz.prog 7 #[.slice a n cap] w fun e w' => SPz 5 zs w w' e := by
  obtain ⟨W0, hW0⟩ : ∃ W0, W0 = w.alloc (.cells #[.int .i64 0, .int .i64 0, .int .i64 0, .slice none 0 0, .slice none 0 0, .int .i64 0] 30) := ⟨_, rfl⟩
  obtain ⟨W1, hW1⟩ : ∃ W1, W1 = W0.alloc (.cells #[.int .i64 5, .int .i64 0, .int .i64 0, .slice none 0 0, .slice none 0 0, .int .i64 0] 30) := ⟨_, rfl⟩
  have HW : Hid (W0 = _) := hW0
  have HW1 : Hid (W1 = W0.alloc (.cells #[.int .i64 5, .int .i64 0, .int .i64 0, .slice none 0 0, .slice none 0 0, .int .i64 0] 30)) := hW1
  have b0 : Below w.heap.size w W0 := by rw [hW0]; exact bel_alloc _ _
  have b1 : Below W0.heap.size W0 W1 := by rw [hW1]; exact bel_alloc _ _
  have R0 : Blk W0 w.heap.size 30 #[.int .i64 0, .int .i64 0, .int .i64 0, .slice none 0 0, .slice none 0 0, .int .i64 0] := by rw [hW0]; exact Blk.new _ _ _
  have hg : W0.heap.size = w.heap.size + 1 := by rw [hW0]; simp
  obtain ⟨G, hG⟩ : ∃ G, G = W0.heap.size := ⟨_, rfl⟩
  have HG : Hid (w.heap.size < G) := by show w.heap.size < G; omega
  have HGe : Hid (G = W0.heap.size) := hG
  have Q1 : Blk W1 G 30 #[.int .i64 5, .int .i64 0, .int .i64 0, .slice none 0 0, .slice none 0 0, .int .i64 0] := by rw [hW1, hG]; exact Blk.new _ _ _
  have R1 := R0.below b1
  have B1 := bel_next b0 b1
  obtain ⟨bk, off, ea, hbk, hc⟩ := cell_at hs hp
  rw [hk] at hc
  have hc0 : W0.cell? ⟨bk, off, none⟩ = some (.int .u8 5) := (b0.cell (p := ⟨bk, off, none⟩) hbk).trans (by simpa using hc)
  have hz : ¬ (n : Int) = 0 := by omega
  have hz0 : (0 : Int) < (n : Int) := by omega
  have HS : Hid (n = zs.length ∧ Sl w a zs ∧ (∀ z ∈ zs, 0 ≤ z ∧ z ≤ 255)) := ⟨hn, hs, hr⟩
  have HP : Hid (0 < zs.length) := hp
  subst ea
  clear hn hs hr hc hW0 hW1 hg hG R0 hk hp
  go_enter Tryz.func7, Tryz.ntmps7
  go_upto_region 1 with fail
  rw [← HW.out]
  go_wp2_with fail
  refine (l3Kind_any _ _ true rfl).mono ?_
  rintro e wx ⟨rfl, rfl⟩
  go_upto_region 4 with fail
  rw [← HW1.out]
  simp only [← HGe.out]
  clear hc0 b0 b1
  go_wp2_with fail
  refine (specWordAt_q _ n cap zs _ 1 _ rfl HS.out.1 (HS.out.2.1.below B1) HS.out.2.2 hl).mono ?_
  rintro e w2 ⟨rfl, b'⟩
  have B2 := bel_next B1 b'
  have Q2 := Q1.below b'
  have R2 := R1.below b'
  clear B1 Q1 R1  b'
  have qc := Q2.cell 1 rfl
  have qf := Q2.fro 1
  have Q3 := Q2.set 1 (.int .i64 (wAt zs 1))
  have R3 := R2.setNe (g' := G) (j := 1) (y := .int .i64 (wAt zs 1)) (by have := HG.out; omega)
  have B3 := B2.setCell (p := ⟨G, 1, none⟩) (by show w.heap.size ≤ G; have := HG.out; omega) (.int .i64 (wAt zs 1))
  go_upto_region 5 with fail
  obtain ⟨w3, hw3⟩ : ∃ w3, w3 = w2.setCell ⟨G, 1, none⟩ (.int .i64 (wAt zs 1)) := ⟨_, rfl⟩
  rw [← hw3] at Q3 R3 B3 ⊢
  clear hw3 qc qf Q2 R2 B2
  go_wp2_with fail
  refine (specWordAt_q _ n cap zs _ 3 _ rfl HS.out.1 (HS.out.2.1.below B3) HS.out.2.2 hl).mono ?_
  rintro e w4 ⟨rfl, b'⟩
  have B4 := bel_next B3 b'
  have Q4 := Q3.below b'
  have R4 := R3.below b'
  clear B3 Q3 R3  b'
  have k0 := Q4.cell 0 rfl
  have HB3 : Hid (0 ≤ wAt zs 3 ∧ wAt zs 3 ≤ 65535) := wAt_bd HS.out.2.2 3
  go_upto_region 9 with fail
  have b' := bel_alloc w4 (.cells #[.bool (wAt zs 3 != 0)] 4)
  have J := ownB_lit1 w4 (wAt zs 3 != 0) w.heap.size w4.heap.size B4.size rfl
  have B5 := bel_next B4 b'
  have Q5 := Q4.below b'
  have R5 := R4.below b'
  clear B4 Q4 R4  b'
  have J5 := J
  clear J
  have qc := Q5.cell 4 rfl
  have qf := Q5.fro 4
  have Q6 := Q5.set 4 (.slice (some ⟨w4.heap.size, 0, none⟩) 1 1)
  have R6 := R5.setNe (g' := G) (j := 4) (y := .slice (some ⟨w4.heap.size, 0, none⟩) 1 1) (by have := HG.out; omega)
  have B6 := B5.setCell (p := ⟨G, 4, none⟩) (by show w.heap.size ≤ G; have := HG.out; omega) (.slice (some ⟨w4.heap.size, 0, none⟩) 1 1)
  have J6 := row_setE (j := 4) (y := .slice (some ⟨w4.heap.size, 0, none⟩) 1 1) J5 ⟨_, Q5⟩ (by decide)
  go_upto_region 22 with fail
  obtain ⟨w6, hw6⟩ : ∃ w6, w6 = (w4.alloc (.cells #[.bool (wAt zs 3 != 0)] 4)).setCell ⟨G, 4, none⟩ (.slice (some ⟨w4.heap.size, 0, none⟩) 1 1) := ⟨_, rfl⟩
  rw [← hw6] at Q6 R6 B6 J6 ⊢
  clear hw6 qc qf Q5 R5 B5 J5
  have OI : OwnI w6 w.heap.size (.slice none 0 0) (sW 5 zs) := (ownI_nil _ _)
  have OB : OwnB w6 w.heap.size (.slice (some ⟨w4.heap.size, 0, none⟩) 1 1) (sB 5 zs) := J6
  have HE : Hid (0 = (sW 5 zs).length ∧ 1 = (sB 5 zs).length) := ⟨rfl, rfl⟩
  have HLs : Hid ((sW 5 zs).length ≤ 2000000 ∧ (sB 5 zs).length ≤ 2000000) := by
    have := HS.out.1
    show _ ∧ _
    simp [sW, sB]
  obtain ⟨q0, q1, q2, q3, q4, q5⟩ := Q6.six
  go_wp2_with fail
  refine (specReqOk_q 5 ((wAt zs 1)) (0) (0) none ((some ⟨w4.heap.size, 0, none⟩)) 0 1 0 1 (sW 5 zs) (sB 5 zs) _ HE.out.1 HE.out.2 OI.sl.2 OB.sl.2 HLs.out.1 HLs.out.2).mono ?_
  rintro e v1 ⟨rfl, b'⟩
  have C1 := bel_next B6 b'
  have D1 := Q6.below b'
  have E1 := R6.below b'
  have I1 := OI.below b'
  have J1 := OB.below b'
  clear b' B6 Q6 R6 OI OB q0 q1 q2 q3 q4 q5 J6
  have eo : okR 5 ((wAt zs 1)) (0) (0) (sW 5 zs) 0 1 = okR 5 (wAt zs 1) (gN 5 zs) (gA 5 zs) (sW 5 zs) (sW 5 zs).length (sB 5 zs).length := by have h1 := HE.out.1; have h2 := HE.out.2; rw [← h1, ← h2]; rfl
  rw [eo]
  obtain ⟨q0, q1, q2, q3, q4, q5⟩ := D1.six
  cases hok : okR 5 (wAt zs 1) (gN 5 zs) (gA 5 zs) (sW 5 zs) (sW 5 zs).length (sB 5 zs).length
  · have hno : ¬ sOk 5 zs = true := by unfold sOk; rw [hok]; simp
    obtain ⟨y0, y1, y2, y3, y4, y5⟩ := E1.six
    have fy := E1.fro
    go_wp2
    refine bodyPost_ret (v := .tuple #[rq 0 0 0 0 none none 0 0 0 0, .int .i64 3]) (by simp [results, Tryz.results7, go_sem, y0, y1, y2, y3, y4, y5]) rfl ?_
    exact spz_no hno (gp_zero (bel_set6 C1 (Nat.le_refl _)))
  · go_wp2_with fail
    refine (specPut_q 5 ((wAt zs 1)) (0) (0) none ((some ⟨w4.heap.size, 0, none⟩)) 0 1 0 1 (sW 5 zs) (sB 5 zs) _ HE.out.1 HE.out.2 I1.sl.2 J1.sl.2 HLs.out.1 HLs.out.2).mono ?_
    rintro e v2 ⟨ap, cp, np, rfl, hnp, op, b'⟩
    rw [eo, hok] at hnp op
    have C2 := bel_next C1 b'
    have D2 := D1.below b'
    have E2 := E1.below b'
    have I2 := I1.below b'
    have J2 := J1.below b'
    have HNP : Hid _ := hnp
    clear b' hnp C1 D1 E1 I1 J1 q0 q1 q2 q3 q4 q5
    have hpl := putV_len 5 ((wAt zs 1)) (0) (0) (sW 5 zs) (sB 5 zs) 0 1 HE.out.1 HE.out.2
    rw [eo, hok] at hpl
    obtain ⟨q0, q1, q2, q3, q4, q5⟩ := D2.six
    obtain ⟨y0, y1, y2, y3, y4, y5⟩ := E2.six
    have fy := E2.fro
    cases hZ : decide (putV true 5 ((wAt zs 1)) (0) (0) (sW 5 zs) (sB 5 zs) = zs)
    · go_wp2_with fail
      refine (l3Same_any _ _ _ _ _ _ _ zs _ HNP.out HS.out.1 op.sl.2 (HS.out.2.1.below C2) (by omega) (by have := HS.out.1; omega) _ hZ).mono ?_
      rintro e v3 ⟨rfl, b'⟩
      have C3 := bel_next C2 b'
      have D3 := D2.below b'
      have E3 := E2.below b'
      have I3 := I2.below b'
      have J3 := J2.below b'
      clear b' C2 D2 E2 I2 J2 q0 q1 q2 q3 q4 q5 y0 y1 y2 y3 y4 y5 fy
      obtain ⟨q0, q1, q2, q3, q4, q5⟩ := D3.six
      obtain ⟨y0, y1, y2, y3, y4, y5⟩ := E3.six
      have fy := E3.fro
      have hno : ¬ sOk 5 zs = true := by unfold sOk; rw [hok]; have := of_decide_eq_false hZ; simp; exact this
      go_wp2
      refine bodyPost_ret (v := .tuple #[rq 0 0 0 0 none none 0 0 0 0, .int .i64 3]) (by simp [results, Tryz.results7, go_sem, y0, y1, y2, y3, y4, y5]) rfl ?_
      exact spz_no hno (gp_zero (bel_set6 C3 (Nat.le_refl _)))
    · go_wp2_with fail
      refine (l3Same_any _ _ _ _ _ _ _ zs _ HNP.out HS.out.1 op.sl.2 (HS.out.2.1.below C2) (by omega) (by have := HS.out.1; omega) _ hZ).mono ?_
      rintro e v3 ⟨rfl, b'⟩
      have C3 := bel_next C2 b'
      have D3 := D2.below b'
      have E3 := E2.below b'
      have I3 := I2.below b'
      have J3 := J2.below b'
      clear b' C2 D2 E2 I2 J2 q0 q1 q2 q3 q4 q5 y0 y1 y2 y3 y4 y5 fy
      obtain ⟨q0, q1, q2, q3, q4, q5⟩ := D3.six
      obtain ⟨y0, y1, y2, y3, y4, y5⟩ := E3.six
      have fy := E3.fro
      have hyes : sOk 5 zs = true := by unfold sOk; rw [hok]; have := of_decide_eq_true hZ; simp; exact this
      go_wp2
      refine bodyPost_ret (v := .tuple #[rq 5 ((wAt zs 1)) (0) (0) none ((some ⟨w4.heap.size, 0, none⟩)) 0 1 0 1, .int .i64 0]) (by simp [results, Tryz.results7, go_sem, y0, y1, y2, y3, y4, y5]) rfl ?_
      exact spz_yes hyes ⟨_, _, _, _, _, _, rfl, HE.out.1, HE.out.2, row_set6 I3 ⟨_, E3⟩ (by decide), row_set6 J3 ⟨_, E3⟩ (by decide), bel_set6 C3 (Nat.le_refl _)⟩
set_option maxRecDepth 20000 in
set_option maxHeartbeats 8000000 in
theorem specGet_6 (a : Option Addr) (n cap : Nat) (zs : List Int) (w : World) (hn : n = zs.length) (hs : Sl w a zs) (hr : ∀ z ∈ zs, 0 ≤ z ∧ z ≤ 255) (hl : n ≤ 2000000) (hp : 0 < zs.length) (hcap : n ≤ cap) (hk : zs.getD 0 0 = 6) :
    Calls Tryz.prog 7 #[.slice a n cap] w fun e w' => SPz 6 zs w w' e := by
  obtain ⟨W0, hW0⟩ : ∃ W0, W0 = w.alloc (.cells #[.int .i64 0, .int .i64 0, .int .i64 0, .slice none 0 0, .slice none 0 0, .int .i64 0] 30) := ⟨_, rfl⟩
  obtain ⟨W1, hW1⟩ : ∃ W1, W1 = W0.alloc (.cells #[.int .i64 6, .int .i64 0, .int .i64 0, .slice none 0 0, .slice none 0 0, .int .i64 0] 30) := ⟨_, rfl⟩
  have HW : Hid (W0 = _) := hW0
  have HW1 : Hid (W1 = W0.alloc (.cells #[.int .i64 6, .int .i64 0, .int .i64 0, .slice none 0 0, .slice none 0 0, .int .i64 0] 30)) := hW1
  have b0 : Below w.heap.size w W0 := by rw [hW0]; exact bel_alloc _ _
  have b1 : Below W0.heap.size W0 W1 := by rw [hW1]; exact bel_alloc _ _
  have R0 : Blk W0 w.heap.size 30 #[.int .i64 0, .int .i64 0, .int .i64 0, .slice none 0 0, .slice none 0 0, .int .i64 0] := by rw [hW0]; exact Blk.new _ _ _
  have hg : W0.heap.size = w.heap.size + 1 := by rw [hW0]; simp
  obtain ⟨G, hG⟩ : ∃ G, G = W0.heap.size := ⟨_, rfl⟩
  have HG : Hid (w.heap.size < G) := by show w.heap.size < G; omega
  have HGe : Hid (G = W0.heap.size) := hG
  have Q1 : Blk W1 G 30 #[.int .i64 6, .int .i64 0, .int .i64 0, .slice none 0 0, .slice none 0 0, .int .i64 0] := by rw [hW1, hG]; exact Blk.new _ _ _
  have R1 := R0.below b1
  have B1 := bel_next b0 b1
  obtain ⟨bk, off, ea, hbk, hc⟩ := cell_at hs hp
  rw [hk] at hc
  have hc0 : W0.cell? ⟨bk, off, none⟩ = some (.int .u8 6) := (b0.cell (p := ⟨bk, off, none⟩) hbk).trans (by simpa using hc)
  have hz : ¬ (n : Int) = 0 := by omega
  have hz0 : (0 : Int) < (n : Int) := by omega
  have HS : Hid (n = zs.length ∧ Sl w a zs ∧ (∀ z ∈ zs, 0 ≤ z ∧ z ≤ 255)) := ⟨hn, hs, hr⟩
  have HP : Hid (0 < zs.length) := hp
  subst ea
  clear hn hs hr hc hW0 hW1 hg hG R0 hk hp
  go_enter Tryz.func7, Tryz.ntmps7
  go_upto_region 1 with fail
  rw [← HW.out]
  go_wp2_with fail
  refine (l3Kind_any _ _ true rfl).mono ?_
  rintro e wx ⟨rfl, rfl⟩
  go_upto_region 4 with fail
  rw [← HW1.out]
  simp only [← HGe.out]
  clear hc0 b0 b1
  go_wp2_with fail
  refine (specWordAt_q _ n cap zs _ 1 _ rfl HS.out.1 (HS.out.2.1.below B1) HS.out.2.2 hl).mono ?_
  rintro e w2 ⟨rfl, b'⟩
  have B2 := bel_next B1 b'
  have Q2 := Q1.below b'
  have R2 := R1.below b'
  clear B1 Q1 R1  b'
  have qc := Q2.cell 1 rfl
  have qf := Q2.fro 1
  have Q3 := Q2.set 1 (.int .i64 (wAt zs 1))
  have R3 := R2.setNe (g' := G) (j := 1) (y := .int .i64 (wAt zs 1)) (by have := HG.out; omega)
  have B3 := B2.setCell (p := ⟨G, 1, none⟩) (by show w.heap.size ≤ G; have := HG.out; omega) (.int .i64 (wAt zs 1))
  go_upto_region 5 with fail
  obtain ⟨w3, hw3⟩ : ∃ w3, w3 = w2.setCell ⟨G, 1, none⟩ (.int .i64 (wAt zs 1)) := ⟨_, rfl⟩
  rw [← hw3] at Q3 R3 B3 ⊢
  clear hw3 qc qf Q2 R2 B2
  go_wp2_with fail
  refine (specWordAt_q _ n cap zs _ 3 _ rfl HS.out.1 (HS.out.2.1.below B3) HS.out.2.2 hl).mono ?_
  rintro e w4 ⟨rfl, b'⟩
  have B4 := bel_next B3 b'
  have Q4 := Q3.below b'
  have R4 := R3.below b'
  clear B3 Q3 R3  b'
  have k0 := Q4.cell 0 rfl
  have HB3 : Hid (0 ≤ wAt zs 3 ∧ wAt zs 3 ≤ 65535) := wAt_bd HS.out.2.2 3
  go_upto_region 12 with fail
  go_wp2_with fail
  refine (l3GetWords_any _ n cap zs _ 3 _ rfl HS.out.1 (HS.out.2.1.below B4) HS.out.2.2 hl (by omega)).mono ?_
  rintro e w5 ⟨a', c', n', rfl, hn', oi, b'⟩
  have I := OwnI.mono oi B4.size
  have HN' : Hid (n' = _) := hn'
  clear hn' oi
  have B5 := bel_next B4 b'
  have Q5 := Q4.below b'
  have R5 := R4.below b'
  clear B4 Q4 R4  b'
  have I5 := I
  clear I
  have qc := Q5.cell 3 rfl
  have qf := Q5.fro 3
  have Q6 := Q5.set 3 (.slice a' n' c')
  have R6 := R5.setNe (g' := G) (j := 3) (y := .slice a' n' c') (by have := HG.out; omega)
  have B6 := B5.setCell (p := ⟨G, 3, none⟩) (by show w.heap.size ≤ G; have := HG.out; omega) (.slice a' n' c')
  have I6 := row_setE (j := 3) (y := .slice a' n' c') I5 ⟨_, Q5⟩ (by decide)
  go_upto_region 22 with fail
  obtain ⟨w6, hw6⟩ : ∃ w6, w6 = w5.setCell ⟨G, 3, none⟩ (.slice a' n' c') := ⟨_, rfl⟩
  rw [← hw6] at Q6 R6 B6 I6 ⊢
  clear hw6 qc qf Q5 R5 B5 I5
  have OI : OwnI w6 w.heap.size (.slice a' n' c') (sW 6 zs) := I6
  have OB : OwnB w6 w.heap.size (.slice none 0 0) (sB 6 zs) := (ownB_nil _ _)
  have HE : Hid (n' = (sW 6 zs).length ∧ 0 = (sB 6 zs).length) := ⟨HN'.out, rfl⟩
  have HLs : Hid ((sW 6 zs).length ≤ 2000000 ∧ (sB 6 zs).length ≤ 2000000) := by
    have := HS.out.1
    show _ ∧ _
    simp [sW, sB, wsF_length]; omega
  obtain ⟨q0, q1, q2, q3, q4, q5⟩ := Q6.six
  go_wp2_with fail
  refine (specReqOk_q 6 ((wAt zs 1)) (0) (0) a' none n' 0 c' 0 (sW 6 zs) (sB 6 zs) _ HE.out.1 HE.out.2 OI.sl.2 OB.sl.2 HLs.out.1 HLs.out.2).mono ?_
  rintro e v1 ⟨rfl, b'⟩
  have C1 := bel_next B6 b'
  have D1 := Q6.below b'
  have E1 := R6.below b'
  have I1 := OI.below b'
  have J1 := OB.below b'
  clear b' B6 Q6 R6 OI OB q0 q1 q2 q3 q4 q5 I6
  have eo : okR 6 ((wAt zs 1)) (0) (0) (sW 6 zs) n' 0 = okR 6 (wAt zs 1) (gN 6 zs) (gA 6 zs) (sW 6 zs) (sW 6 zs).length (sB 6 zs).length := by have h1 := HE.out.1; have h2 := HE.out.2; rw [← h1, ← h2]; rfl
  rw [eo]
  obtain ⟨q0, q1, q2, q3, q4, q5⟩ := D1.six
  cases hok : okR 6 (wAt zs 1) (gN 6 zs) (gA 6 zs) (sW 6 zs) (sW 6 zs).length (sB 6 zs).length
  · have hno : ¬ sOk 6 zs = true := by unfold sOk; rw [hok]; simp
    obtain ⟨y0, y1, y2, y3, y4, y5⟩ := E1.six
    have fy := E1.fro
    go_wp2
    refine bodyPost_ret (v := .tuple #[rq 0 0 0 0 none none 0 0 0 0, .int .i64 3]) (by simp [results, Tryz.results7, go_sem, y0, y1, y2, y3, y4, y5]) rfl ?_
    exact spz_no hno (gp_zero (bel_set6 C1 (Nat.le_refl _)))
  · go_wp2_with fail
    refine (specPut_q 6 ((wAt zs 1)) (0) (0) a' none n' 0 c' 0 (sW 6 zs) (sB 6 zs) _ HE.out.1 HE.out.2 I1.sl.2 J1.sl.2 HLs.out.1 HLs.out.2).mono ?_
    rintro e v2 ⟨ap, cp, np, rfl, hnp, op, b'⟩
    rw [eo, hok] at hnp op
    have C2 := bel_next C1 b'
    have D2 := D1.below b'
    have E2 := E1.below b'
    have I2 := I1.below b'
    have J2 := J1.below b'
    have HNP : Hid _ := hnp
    clear b' hnp C1 D1 E1 I1 J1 q0 q1 q2 q3 q4 q5
    have hpl := putV_len 6 ((wAt zs 1)) (0) (0) (sW 6 zs) (sB 6 zs) n' 0 HE.out.1 HE.out.2
    rw [eo, hok] at hpl
    obtain ⟨q0, q1, q2, q3, q4, q5⟩ := D2.six
    obtain ⟨y0, y1, y2, y3, y4, y5⟩ := E2.six
    have fy := E2.fro
    cases hZ : decide (putV true 6 ((wAt zs 1)) (0) (0) (sW 6 zs) (sB 6 zs) = zs)
    · go_wp2_with fail
      refine (l3Same_any _ _ _ _ _ _ _ zs _ HNP.out HS.out.1 op.sl.2 (HS.out.2.1.below C2) (by omega) (by have := HS.out.1; omega) _ hZ).mono ?_
      rintro e v3 ⟨rfl, b'⟩
      have C3 := bel_next C2 b'
      have D3 := D2.below b'
      have E3 := E2.below b'
      have I3 := I2.below b'
      have J3 := J2.below b'
      clear b' C2 D2 E2 I2 J2 q0 q1 q2 q3 q4 q5 y0 y1 y2 y3 y4 y5 fy
      obtain ⟨q0, q1, q2, q3, q4, q5⟩ := D3.six
      obtain ⟨y0, y1, y2, y3, y4, y5⟩ := E3.six
      have fy := E3.fro
      have hno : ¬ sOk 6 zs = true := by unfold sOk; rw [hok]; have := of_decide_eq_false hZ; simp; exact this
      go_wp2
      refine bodyPost_ret (v := .tuple #[rq 0 0 0 0 none none 0 0 0 0, .int .i64 3]) (by simp [results, Tryz.results7, go_sem, y0, y1, y2, y3, y4, y5]) rfl ?_
      exact spz_no hno (gp_zero (bel_set6 C3 (Nat.le_refl _)))
    · go_wp2_with fail
      refine (l3Same_any _ _ _ _ _ _ _ zs _ HNP.out HS.out.1 op.sl.2 (HS.out.2.1.below C2) (by omega) (by have := HS.out.1; omega) _ hZ).mono ?_
      rintro e v3 ⟨rfl, b'⟩
      have C3 := bel_next C2 b'
      have D3 := D2.below b'
      have E3 := E2.below b'
      have I3 := I2.below b'
      have J3 := J2.below b'
      clear b' C2 D2 E2 I2 J2 q0 q1 q2 q3 q4 q5 y0 y1 y2 y3 y4 y5 fy
      obtain ⟨q0, q1, q2, q3, q4, q5⟩ := D3.six
      obtain ⟨y0, y1, y2, y3, y4, y5⟩ := E3.six
      have fy := E3.fro
      have hyes : sOk 6 zs = true := by unfold sOk; rw [hok]; have := of_decide_eq_true hZ; simp; exact this
      go_wp2
      refine bodyPost_ret (v := .tuple #[rq 6 ((wAt zs 1)) (0) (0) a' none n' 0 c' 0, .int .i64 0]) (by simp [results, Tryz.results7, go_sem, y0, y1, y2, y3, y4, y5]) rfl ?_
      exact spz_yes hyes ⟨_, _, _, _, _, _, rfl, HE.out.1, HE.out.2, row_set6 I3 ⟨_, E3⟩ (by decide), row_set6 J3 ⟨_, E3⟩ (by decide), bel_set6 C3 (Nat.le_refl _)⟩
end Go.Proofs.YtohikbpolofklaaGreatDoor
