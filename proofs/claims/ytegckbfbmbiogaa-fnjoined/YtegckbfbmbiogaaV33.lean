/- Texts that the proof needs, joined: TemB. -/
import Derived.Test.YtegckbfbmbiogaaV32
namespace Go.Proofs.Ytegckbfbmbiogaa
open Go.RowKit
set_option linter.unusedVariables false
set_option linter.unusedSimpArgs false
set_option maxRecDepth 20000 in
set_option maxHeartbeats 16000000 in
theorem l4Bend_any (w0 : World) (a : Option Addr) (cap : Nat) (zs : List Int) (w : World) (g : Nat) (kd fl pl nn : Int) (a1 a2 : Option Addr) (l1 l2 c1 c2 : Nat) (ws : List Int) (bs : List Bool) (base : Nat) (h1 : l1 = ws.length) (h2 : l2 = bs.length) (hl1 : l1 ≤ 1000) (hl2 : l2 ≤ 10000) (hpn : 0 ≤ pl ∧ pl ≤ 65535 ∧ 0 ≤ nn ∧ nn ≤ 1900) (hgb : g < base) (hbw : base ≤ w.heap.size) (o1 : OwnI w base (.slice a1 l1 c1) ws) (o2 : OwnB w base (.slice a2 l2 c2) bs) (hC : Cur w0 a cap zs w g) :
    Calls Try.prog 52 #[.pointer (some ⟨g, 0, none⟩), rp kd fl pl nn a1 a2 l1 l2 c1 c2] w fun e w' => RespAt w0 a cap zs base (l1 + 1) (l2 + 1) w g e w' := by
  obtain ⟨W0, hW0⟩ : ∃ W0, W0 = (w.alloc (.cells #[.int .i64 kd, .int .i64 fl, .int .i64 pl, .int .i64 nn, .slice a1 l1 c1, .slice a2 l2 c2] 49)).alloc (.cells #[.int .i64 0, .int .i64 0, .int .i64 0, .int .i64 0, .slice none 0 0, .slice none 0 0] 49) := ⟨_, rfl⟩
  have HW : Hid (W0 = _) := hW0
  have bw : Below w.heap.size w W0 := by rw [hW0]; exact bel_next (bel_alloc w _) (bel_alloc _ _)
  have C0 : Cur w0 a cap zs W0 g := by rw [hW0]; exact (hC.alloc _).alloc _
  have G0 : w.grownBy W0 (some g) := grown_below bw _
  have Q0 : Blk W0 w.heap.size 49 #[.int .i64 kd, .int .i64 fl, .int .i64 pl, .int .i64 nn, .slice a1 l1 c1, .slice a2 l2 c2] := by rw [hW0]; exact (Blk.new w _ _).below (bel_alloc _ _)
  have R0 : Blk W0 (w.heap.size + 1) 49 #[.int .i64 0, .int .i64 0, .int .i64 0, .int .i64 0, .slice none 0 0, .slice none 0 0] := by
    rw [hW0]; have := Blk.new (w.alloc (.cells #[.int .i64 kd, .int .i64 fl, .int .i64 pl, .int .i64 nn, .slice a1 l1 c1, .slice a2 l2 c2] 49)) #[.int .i64 0, .int .i64 0, .int .i64 0, .int .i64 0, .slice none 0 0, .slice none 0 0] 49; simpa using this
  have I0 := o1.below bw
  have J0 := o2.below bw
  have HX : Hid (g < base ∧ base ≤ w.heap.size ∧ w0.heap.size ≤ g ∧ g < w.heap.size ∧ l1 ≤ 1000 ∧ l2 ≤ 10000) := ⟨hgb, hbw, hC.lo, hC.hi, hl1, hl2⟩
  have HL : Hid (l1 = ws.length ∧ l2 = bs.length) := ⟨h1, h2⟩
  clear hC hW0 bw o1 o2 h1 h2 hl1 hl2 hgb hbw
  go_enter Try.func52, Try.ntmps52
  go_upto_region 1 with fail
  rw [← HW.out]
  go_wp2_with fail
  refine (l1Below_any w0 a cap zs _ g _ (by decide) C0).mono ?_
  rintro e u1 ⟨x, rfl, hx, C1, gg⟩
  have G1 := grown_trans G0 gg
  have R1 := R0.grown gg (by have := HX.out; simp; omega)
  have Q1 := Q0.grown gg (by have := HX.out; simp; omega)
  have I1 := OwnI.kept I0 gg (row_ne_g I0 HX.out.1)
  have J1 := OwnB.kept J0 gg (row_ne_g J0 HX.out.1)
  clear C0 G0 R0 Q0 I0 J0 gg
  obtain rfl | rfl | rfl | rfl | rfl | rfl | rfl : x = 0 ∨ x = 1 ∨ x = 2 ∨ x = 3 ∨ x = 4 ∨ x = 5 ∨ x = 6 := by omega
  · clear hx
    go_upto_region 3 with fail
    go_wp2_with fail
    refine (l1Below_any w0 a cap zs _ g _ (by decide) C1).mono ?_
    rintro e t2 ⟨y, rfl, _, C2, gg⟩
    have G2 := grown_trans G1 gg
    have R2 := R1.grown gg (by have := HX.out; simp; omega)
    have Q2 := Q1.grown gg (by have := HX.out; simp; omega)
    have I2 := OwnI.kept I1 gg (row_ne_g I1 HX.out.1)
    have J2 := OwnB.kept J1 gg (row_ne_g J1 HX.out.1)
    clear gg C1 G1 R1 Q1 I1 J1
    have qc := Q2.cell 0 rfl
    have qf := Q2.fro 0
    have Q3 := Q2.set 0 (.int .i64 y)
    have R3 := R2.setNe (g' := w.heap.size) (j := 0) (y := .int .i64 y) (by omega)
    have C3 := C2.setHi (G := w.heap.size) (j := 0) (y := .int .i64 y) (by have := HX.out; omega) (by have := HX.out; omega)
    have G3 := grown_setHi (G := w.heap.size) (j := 0) (y := .int .i64 y) G2 (Nat.le_refl _)
    have I3 : OwnI _ _ _ _ := row_setE (j := 0) (y := .int .i64 y) I2 ⟨_, Q2⟩ (by decide)
    have J3 : OwnB _ _ _ _ := row_setE (j := 0) (y := .int .i64 y) J2 ⟨_, Q2⟩ (by decide)
    go_upto_region 14 with fail
    obtain ⟨v3, hv3⟩ : ∃ v3, v3 = t2.setCell ⟨w.heap.size, 0, none⟩ (.int .i64 y) := ⟨_, rfl⟩
    rw [← hv3] at Q3 R3 C3 G3 I3 J3 ⊢
    clear hv3 qc qf C2 G2 R2 Q2 I2 J2
    obtain ⟨q0, q1, q2, q3, q4, q5⟩ := Q3.six
    obtain ⟨y0, y1, y2, y3, y4, y5⟩ := R3.six
    have fy := R3.fro
    have HH : Hid (OwnI v3 base (.slice a1 l1 c1) ws ∧ OwnB v3 base (.slice a2 l2 c2) bs ∧ Cur w0 a cap zs v3 g ∧ w.grownBy v3 (some g) ∧ Blk v3 (w.heap.size + 1) 49 #[.int .i64 0, .int .i64 0, .int .i64 0, .int .i64 0, .slice none 0 0, .slice none 0 0]) := ⟨I3, J3, C3, G3, R3⟩
    clear C3 G3 R3 Q3 I3 J3
    go_wp2
    refine bodyPost_ret (v := rp (y) (fl) (pl) (nn) a1 a2 l1 l2 c1 c2) (by simp [results, Try.results52, go_sem, y0, y1, y2, y3, y4, y5]) rfl ?_
    obtain ⟨OI, OB, CE, GE, RE⟩ := HH.out
    have hgR : g ≠ w.heap.size + 1 := by have := HX.out; omega
    have hwR : w0.heap.size ≤ w.heap.size + 1 := by have := HX.out; omega
    have hn1 : l1 ≤ l1 + 1 := by omega
    have hn2 : l2 ≤ l2 + 1 := by omega
    exact ⟨_, _, _, _, _, _, _, _, _, _, ws, bs, rfl, HL.out.1, HL.out.2, hn1, hn2, rowp_set6 OI ⟨_, RE⟩ (by decide), rowp_set6 OB ⟨_, RE⟩ (by decide), (((((CE.setHi hgR hwR).setHi hgR hwR).setHi hgR hwR).setHi hgR hwR).setHi hgR hwR).setHi hgR hwR, grown_setHi (grown_setHi (grown_setHi (grown_setHi (grown_setHi (grown_setHi GE (Nat.le_succ _)) (Nat.le_succ _)) (Nat.le_succ _)) (Nat.le_succ _)) (Nat.le_succ _)) (Nat.le_succ _)⟩
  · clear hx
    go_upto_region 5 with fail
    have IL := ints_lit u1 [0, 1, 255, 256, -1] 3
    have hne : u1.heap.size ≠ g := by have := C1.hi; omega
    have b' := bel_alloc u1 (.cells ([0, 1, 255, 256, -1].map (Value.int .i64)).toArray 3)
    have C2 := C1.alloc (.cells ([0, 1, 255, 256, -1].map (Value.int .i64)).toArray 3)
    have G2 := grown_trans G1 (grown_below b' (some g))
    have R2 := R1.below b'
    have Q2 := Q1.below b'
    have I2 := OwnI.below I1 b'
    have J2 := OwnB.below J1 b'
    clear b' C1 G1 R1 Q1 I1 J1
    go_wp2_with fail
    refine (l1Int_any w0 a cap zs _ g ⟨u1.heap.size, 0, none⟩ 5 5 [0, 1, 255, 256, -1] rfl (by omega) (by omega) IL hne C2).mono ?_
    rintro e t3 ⟨y, rfl, _, C3, gg⟩
    have G3 := grown_trans G2 gg
    have R3 := R2.grown gg (by have := HX.out; simp; omega)
    have Q3 := Q2.grown gg (by have := HX.out; simp; omega)
    have I3 := OwnI.kept I2 gg (row_ne_g I2 HX.out.1)
    have J3 := OwnB.kept J2 gg (row_ne_g J2 HX.out.1)
    clear gg C2 G2 R2 Q2 I2 J2
    clear IL hne
    have qc := Q3.cell 1 rfl
    have qf := Q3.fro 1
    have Q4 := Q3.set 1 (.int .i64 y)
    have R4 := R3.setNe (g' := w.heap.size) (j := 1) (y := .int .i64 y) (by omega)
    have C4 := C3.setHi (G := w.heap.size) (j := 1) (y := .int .i64 y) (by have := HX.out; omega) (by have := HX.out; omega)
    have G4 := grown_setHi (G := w.heap.size) (j := 1) (y := .int .i64 y) G3 (Nat.le_refl _)
    have I4 : OwnI _ _ _ _ := row_setE (j := 1) (y := .int .i64 y) I3 ⟨_, Q3⟩ (by decide)
    have J4 : OwnB _ _ _ _ := row_setE (j := 1) (y := .int .i64 y) J3 ⟨_, Q3⟩ (by decide)
    go_upto_region 14 with fail
    obtain ⟨v4, hv4⟩ : ∃ v4, v4 = t3.setCell ⟨w.heap.size, 1, none⟩ (.int .i64 y) := ⟨_, rfl⟩
    rw [← hv4] at Q4 R4 C4 G4 I4 J4 ⊢
    clear hv4 qc qf C3 G3 R3 Q3 I3 J3
    obtain ⟨q0, q1, q2, q3, q4, q5⟩ := Q4.six
    obtain ⟨y0, y1, y2, y3, y4, y5⟩ := R4.six
    have fy := R4.fro
    have HH : Hid (OwnI v4 base (.slice a1 l1 c1) ws ∧ OwnB v4 base (.slice a2 l2 c2) bs ∧ Cur w0 a cap zs v4 g ∧ w.grownBy v4 (some g) ∧ Blk v4 (w.heap.size + 1) 49 #[.int .i64 0, .int .i64 0, .int .i64 0, .int .i64 0, .slice none 0 0, .slice none 0 0]) := ⟨I4, J4, C4, G4, R4⟩
    clear C4 G4 R4 Q4 I4 J4
    go_wp2
    refine bodyPost_ret (v := rp (kd) (y) (pl) (nn) a1 a2 l1 l2 c1 c2) (by simp [results, Try.results52, go_sem, y0, y1, y2, y3, y4, y5]) rfl ?_
    obtain ⟨OI, OB, CE, GE, RE⟩ := HH.out
    have hgR : g ≠ w.heap.size + 1 := by have := HX.out; omega
    have hwR : w0.heap.size ≤ w.heap.size + 1 := by have := HX.out; omega
    have hn1 : l1 ≤ l1 + 1 := by omega
    have hn2 : l2 ≤ l2 + 1 := by omega
    exact ⟨_, _, _, _, _, _, _, _, _, _, ws, bs, rfl, HL.out.1, HL.out.2, hn1, hn2, rowp_set6 OI ⟨_, RE⟩ (by decide), rowp_set6 OB ⟨_, RE⟩ (by decide), (((((CE.setHi hgR hwR).setHi hgR hwR).setHi hgR hwR).setHi hgR hwR).setHi hgR hwR).setHi hgR hwR, grown_setHi (grown_setHi (grown_setHi (grown_setHi (grown_setHi (grown_setHi GE (Nat.le_succ _)) (Nat.le_succ _)) (Nat.le_succ _)) (Nat.le_succ _)) (Nat.le_succ _)) (Nat.le_succ _)⟩
  · clear hx
    go_upto_region 7 with fail
    have d1 : Below u1.heap.size u1 (u1.drew.alloc (.cells ([1, -1, 65536].map (Value.int .i64)).toArray 3)) := bel_next (Below.refl _ _).drew (bel_alloc _ _)
    have IL := ints_lit u1.drew [1, -1, 65536] 3
    have hne : u1.heap.size ≠ g := by have := C1.hi; omega
    have Cd := C1.belowU d1
    have Gd := grown_trans G1 (grown_below d1 (some g))
    have Rd := R1.below d1
    have Qd := Q1.below d1
    have Id := OwnI.below I1 d1
    have Jd := OwnB.below J1 d1
    obtain ⟨q0, q1, q2, q3, q4, q5⟩ := Q1.six
    obtain ⟨k0, k1, k2, k3, k4, k5⟩ := Qd.six
    have hnq : ¬ w.heap.size = u1.heap.size := by have := Q1.lt; omega
    have kk : (u1.drew.alloc (.cells #[.int .i64 1, .int .i64 (-1), .int .i64 65536] 3)).cell? ⟨w.heap.size, 2, none⟩ = some (.int .i64 pl) := k2
    have kl : (u1.alloc (.cells #[.int .i64 1, .int .i64 (-1), .int .i64 65536] 3)).cell? ⟨w.heap.size, 2, none⟩ = some (.int .i64 pl) := (Q1.below (bel_alloc u1 (.cells #[.int .i64 1, .int .i64 (-1), .int .i64 65536] 3))).cell 2 rfl
    refine wp_region_any (by kernel_rfl) ?_
    (try (change wpAny _ _ _ _ _ _ _ (World.drew _)))
    refine wpAny_take (i := 0) (v := ?v0) rfl (by kernel_rfl) (by kernel_rfl) (by kernel_rfl) (fun _ _ _ h => h) (Or.inl ⟨by rfl, ?h0⟩) ?_
    case h0 => intro w; go_simp; try (with_reducible rfl)
    refine wpAny_take (i := 2) (v := ?v2) rfl (by kernel_rfl) (by kernel_rfl) (by kernel_rfl) (fun _ _ _ h => h) (Or.inl ⟨by rfl, ?h2⟩) ?_
    case h2 => intro w; go_simp; try (with_reducible rfl)
    refine wpAny_ready (rs := [1, 3]) (by kernel_rfl) (by simp) ?_
    refine AllReady.cons rfl (fun K hK => ?_) ?_
    · skip
      go_simp
      refine hK _ _ ?_
      clear hK K
      refine wpAny_ready (rs := [3]) (by kernel_rfl) (by simp) ?_
      refine AllReady.cons rfl (fun K hK => ?_) AllReady.nil
      go_simp
      refine hK _ _ ?_
      clear hK K
      refine wpAny_ready (rs := [4]) (by kernel_rfl) (by simp) ?_
      refine AllReady.cons rfl (fun K hK => ?_) AllReady.nil
      go_simp
      go_wp2_with (go_at_call 81; refine (l1Int_any w0 a cap zs _ g ⟨u1.heap.size, 0, none⟩ 3 3 [1, -1, 65536] rfl (by omega) (by omega) IL hne Cd).mono ?_; rintro e t2 ⟨y, rfl, hy, C2, gg⟩; have hyb : -1 ≤ y ∧ y ≤ 65536 := (by simp at hy; omega); have hwz : IntKind.i64.wrap (pl + y) = pl + y := (by rw [IntKind.wrap_i64]; omega); have G2 := grown_trans Gd gg; have R2 := Rd.grown gg (by have := HX.out; simp; omega); have Q2 := Qd.grown gg (by have := HX.out; simp; omega); have I2 := OwnI.kept Id gg (row_ne_g Id HX.out.1); have J2 := OwnB.kept Jd gg (row_ne_g Jd HX.out.1); clear gg hy; obtain ⟨z0, z1, z2, z3, z4, z5⟩ := Q2.six; have fz := Q2.fro; clear k0 k1 k2 k3 k4 k5 hnq d1 IL hne Cd Gd Rd Qd Id Jd C1 G1 R1 Q1 I1 J1)
      try (refine hK _ _ ?_; clear hK K)
      refine wpAny_ready (rs := [5]) (by kernel_rfl) (by simp) ?_
      refine AllReady.cons rfl (fun K hK => ?_) AllReady.nil
      go_simp
      refine hK _ _ ?_
      clear hK K
      refine wpAny_ready (rs := [6]) (by kernel_rfl) (by simp) ?_
      refine AllReady.cons rfl (fun K hK => ?_) AllReady.nil
      go_simp
      refine hK _ _ ?_
      clear hK K
      refine wpAny_ready (rs := [7]) (by kernel_rfl) (by simp) ?_
      refine AllReady.cons rfl (fun K hK => ?_) AllReady.nil
      go_simp
      refine hK _ _ ?_
      clear hK K
      refine wpAny_done (by kernel_rfl) ?_ _
      go_upto_region 14 with fail
      have qc := True.intro
      have qf := True.intro
      have Q3 := Q2.set 2 (.int .i64 (pl + y))
      have R3 := R2.setNe (g' := w.heap.size) (j := 2) (y := .int .i64 (pl + y)) (by omega)
      have C3 := C2.setHi (G := w.heap.size) (j := 2) (y := .int .i64 (pl + y)) (by have := HX.out; omega) (by have := HX.out; omega)
      have G3 := grown_setHi (G := w.heap.size) (j := 2) (y := .int .i64 (pl + y)) G2 (Nat.le_refl _)
      have I3 : OwnI _ _ _ _ := row_setE (j := 2) (y := .int .i64 (pl + y)) I2 ⟨_, Q2⟩ (by decide)
      have J3 : OwnB _ _ _ _ := row_setE (j := 2) (y := .int .i64 (pl + y)) J2 ⟨_, Q2⟩ (by decide)
      obtain ⟨v3, hv3⟩ : ∃ v3, v3 = t2.setCell ⟨w.heap.size, 2, none⟩ (.int .i64 (pl + y)) := ⟨_, rfl⟩
      rw [← hv3] at Q3 R3 C3 G3 I3 J3 ⊢
      clear hv3 qc qf C2 G2 R2 Q2 I2 J2
      clear z0 z1 z2 z3 z4 z5 fz
      obtain ⟨q0, q1, q2, q3, q4, q5⟩ := Q3.six
      obtain ⟨y0, y1, y2, y3, y4, y5⟩ := R3.six
      have fy := R3.fro
      have HH : Hid (OwnI v3 base (.slice a1 l1 c1) ws ∧ OwnB v3 base (.slice a2 l2 c2) bs ∧ Cur w0 a cap zs v3 g ∧ w.grownBy v3 (some g) ∧ Blk v3 (w.heap.size + 1) 49 #[.int .i64 0, .int .i64 0, .int .i64 0, .int .i64 0, .slice none 0 0, .slice none 0 0]) := ⟨I3, J3, C3, G3, R3⟩
      clear C3 G3 R3 Q3 I3 J3
      go_wp2
      refine bodyPost_ret (v := rp (kd) (fl) ((pl + y)) (nn) a1 a2 l1 l2 c1 c2) (by simp [results, Try.results52, go_sem, y0, y1, y2, y3, y4, y5]) rfl ?_
      obtain ⟨OI, OB, CE, GE, RE⟩ := HH.out
      have hgR : g ≠ w.heap.size + 1 := by have := HX.out; omega
      have hwR : w0.heap.size ≤ w.heap.size + 1 := by have := HX.out; omega
      have hn1 : l1 ≤ l1 + 1 := by omega
      have hn2 : l2 ≤ l2 + 1 := by omega
      exact ⟨_, _, _, _, _, _, _, _, _, _, ws, bs, rfl, HL.out.1, HL.out.2, hn1, hn2, rowp_set6 OI ⟨_, RE⟩ (by decide), rowp_set6 OB ⟨_, RE⟩ (by decide), (((((CE.setHi hgR hwR).setHi hgR hwR).setHi hgR hwR).setHi hgR hwR).setHi hgR hwR).setHi hgR hwR, grown_setHi (grown_setHi (grown_setHi (grown_setHi (grown_setHi (grown_setHi GE (Nat.le_succ _)) (Nat.le_succ _)) (Nat.le_succ _)) (Nat.le_succ _)) (Nat.le_succ _)) (Nat.le_succ _)⟩
    refine AllReady.cons rfl (fun K hK => ?_) AllReady.nil
    go_simp
    refine hK _ _ ?_
    clear hK K
    refine wpAny_ready (rs := [1, 4]) (by kernel_rfl) (by simp) ?_
    refine AllReady.cons rfl (fun K hK => ?_) ?_
    · skip
      go_simp
      refine hK _ _ ?_
      clear hK K
      refine wpAny_ready (rs := [4]) (by kernel_rfl) (by simp) ?_
      refine AllReady.cons rfl (fun K hK => ?_) AllReady.nil
      go_simp
      go_wp2_with (go_at_call 81; refine (l1Int_any w0 a cap zs _ g ⟨u1.heap.size, 0, none⟩ 3 3 [1, -1, 65536] rfl (by omega) (by omega) IL hne Cd).mono ?_; rintro e t2 ⟨y, rfl, hy, C2, gg⟩; have hyb : -1 ≤ y ∧ y ≤ 65536 := (by simp at hy; omega); have hwz : IntKind.i64.wrap (pl + y) = pl + y := (by rw [IntKind.wrap_i64]; omega); have G2 := grown_trans Gd gg; have R2 := Rd.grown gg (by have := HX.out; simp; omega); have Q2 := Qd.grown gg (by have := HX.out; simp; omega); have I2 := OwnI.kept Id gg (row_ne_g Id HX.out.1); have J2 := OwnB.kept Jd gg (row_ne_g Jd HX.out.1); clear gg hy; obtain ⟨z0, z1, z2, z3, z4, z5⟩ := Q2.six; have fz := Q2.fro; clear k0 k1 k2 k3 k4 k5 hnq d1 IL hne Cd Gd Rd Qd Id Jd C1 G1 R1 Q1 I1 J1)
      try (refine hK _ _ ?_; clear hK K)
      refine wpAny_ready (rs := [5]) (by kernel_rfl) (by simp) ?_
      refine AllReady.cons rfl (fun K hK => ?_) AllReady.nil
      go_simp
      refine hK _ _ ?_
      clear hK K
      refine wpAny_ready (rs := [6]) (by kernel_rfl) (by simp) ?_
      refine AllReady.cons rfl (fun K hK => ?_) AllReady.nil
      go_simp
      refine hK _ _ ?_
      clear hK K
      refine wpAny_ready (rs := [7]) (by kernel_rfl) (by simp) ?_
      refine AllReady.cons rfl (fun K hK => ?_) AllReady.nil
      go_simp
      refine hK _ _ ?_
      clear hK K
      refine wpAny_done (by kernel_rfl) ?_ _
      go_upto_region 14 with fail
      have qc := True.intro
      have qf := True.intro
      have Q3 := Q2.set 2 (.int .i64 (pl + y))
      have R3 := R2.setNe (g' := w.heap.size) (j := 2) (y := .int .i64 (pl + y)) (by omega)
      have C3 := C2.setHi (G := w.heap.size) (j := 2) (y := .int .i64 (pl + y)) (by have := HX.out; omega) (by have := HX.out; omega)
      have G3 := grown_setHi (G := w.heap.size) (j := 2) (y := .int .i64 (pl + y)) G2 (Nat.le_refl _)
      have I3 : OwnI _ _ _ _ := row_setE (j := 2) (y := .int .i64 (pl + y)) I2 ⟨_, Q2⟩ (by decide)
      have J3 : OwnB _ _ _ _ := row_setE (j := 2) (y := .int .i64 (pl + y)) J2 ⟨_, Q2⟩ (by decide)
      obtain ⟨v3, hv3⟩ : ∃ v3, v3 = t2.setCell ⟨w.heap.size, 2, none⟩ (.int .i64 (pl + y)) := ⟨_, rfl⟩
      rw [← hv3] at Q3 R3 C3 G3 I3 J3 ⊢
      clear hv3 qc qf C2 G2 R2 Q2 I2 J2
      clear z0 z1 z2 z3 z4 z5 fz
      obtain ⟨q0, q1, q2, q3, q4, q5⟩ := Q3.six
      obtain ⟨y0, y1, y2, y3, y4, y5⟩ := R3.six
      have fy := R3.fro
      have HH : Hid (OwnI v3 base (.slice a1 l1 c1) ws ∧ OwnB v3 base (.slice a2 l2 c2) bs ∧ Cur w0 a cap zs v3 g ∧ w.grownBy v3 (some g) ∧ Blk v3 (w.heap.size + 1) 49 #[.int .i64 0, .int .i64 0, .int .i64 0, .int .i64 0, .slice none 0 0, .slice none 0 0]) := ⟨I3, J3, C3, G3, R3⟩
      clear C3 G3 R3 Q3 I3 J3
      go_wp2
      refine bodyPost_ret (v := rp (kd) (fl) ((pl + y)) (nn) a1 a2 l1 l2 c1 c2) (by simp [results, Try.results52, go_sem, y0, y1, y2, y3, y4, y5]) rfl ?_
      obtain ⟨OI, OB, CE, GE, RE⟩ := HH.out
      have hgR : g ≠ w.heap.size + 1 := by have := HX.out; omega
      have hwR : w0.heap.size ≤ w.heap.size + 1 := by have := HX.out; omega
      have hn1 : l1 ≤ l1 + 1 := by omega
      have hn2 : l2 ≤ l2 + 1 := by omega
      exact ⟨_, _, _, _, _, _, _, _, _, _, ws, bs, rfl, HL.out.1, HL.out.2, hn1, hn2, rowp_set6 OI ⟨_, RE⟩ (by decide), rowp_set6 OB ⟨_, RE⟩ (by decide), (((((CE.setHi hgR hwR).setHi hgR hwR).setHi hgR hwR).setHi hgR hwR).setHi hgR hwR).setHi hgR hwR, grown_setHi (grown_setHi (grown_setHi (grown_setHi (grown_setHi (grown_setHi GE (Nat.le_succ _)) (Nat.le_succ _)) (Nat.le_succ _)) (Nat.le_succ _)) (Nat.le_succ _)) (Nat.le_succ _)⟩
    refine AllReady.cons rfl (fun K hK => ?_) AllReady.nil
    go_simp
    go_wp2_with (go_at_call 81; refine (l1Int_any w0 a cap zs _ g ⟨u1.heap.size, 0, none⟩ 3 3 [1, -1, 65536] rfl (by omega) (by omega) IL hne Cd).mono ?_; rintro e t2 ⟨y, rfl, hy, C2, gg⟩; have hyb : -1 ≤ y ∧ y ≤ 65536 := (by simp at hy; omega); have hwz : IntKind.i64.wrap (pl + y) = pl + y := (by rw [IntKind.wrap_i64]; omega); have G2 := grown_trans Gd gg; have R2 := Rd.grown gg (by have := HX.out; simp; omega); have Q2 := Qd.grown gg (by have := HX.out; simp; omega); have I2 := OwnI.kept Id gg (row_ne_g Id HX.out.1); have J2 := OwnB.kept Jd gg (row_ne_g Jd HX.out.1); clear gg hy; obtain ⟨z0, z1, z2, z3, z4, z5⟩ := Q2.six; have fz := Q2.fro; clear k0 k1 k2 k3 k4 k5 hnq d1 IL hne Cd Gd Rd Qd Id Jd C1 G1 R1 Q1 I1 J1)
    try (refine hK _ _ ?_; clear hK K)
    refine wpAny_ready (rs := [1]) (by kernel_rfl) (by simp) ?_
    refine AllReady.cons rfl (fun K hK => ?_) AllReady.nil
    go_simp
    refine hK _ _ ?_
    clear hK K
    refine wpAny_ready (rs := [5]) (by kernel_rfl) (by simp) ?_
    refine AllReady.cons rfl (fun K hK => ?_) AllReady.nil
    go_simp
    refine hK _ _ ?_
    clear hK K
    refine wpAny_ready (rs := [6]) (by kernel_rfl) (by simp) ?_
    refine AllReady.cons rfl (fun K hK => ?_) AllReady.nil
    go_simp
    refine hK _ _ ?_
    clear hK K
    refine wpAny_ready (rs := [7]) (by kernel_rfl) (by simp) ?_
    refine AllReady.cons rfl (fun K hK => ?_) AllReady.nil
    go_simp
    refine hK _ _ ?_
    clear hK K
    refine wpAny_done (by kernel_rfl) ?_ _
    go_upto_region 14 with fail
    have qc := True.intro
    have qf := True.intro
    have Q3 := Q2.set 2 (.int .i64 (pl + y))
    have R3 := R2.setNe (g' := w.heap.size) (j := 2) (y := .int .i64 (pl + y)) (by omega)
    have C3 := C2.setHi (G := w.heap.size) (j := 2) (y := .int .i64 (pl + y)) (by have := HX.out; omega) (by have := HX.out; omega)
    have G3 := grown_setHi (G := w.heap.size) (j := 2) (y := .int .i64 (pl + y)) G2 (Nat.le_refl _)
    have I3 : OwnI _ _ _ _ := row_setE (j := 2) (y := .int .i64 (pl + y)) I2 ⟨_, Q2⟩ (by decide)
    have J3 : OwnB _ _ _ _ := row_setE (j := 2) (y := .int .i64 (pl + y)) J2 ⟨_, Q2⟩ (by decide)
    obtain ⟨v3, hv3⟩ : ∃ v3, v3 = t2.setCell ⟨w.heap.size, 2, none⟩ (.int .i64 (pl + y)) := ⟨_, rfl⟩
    rw [← hv3] at Q3 R3 C3 G3 I3 J3 ⊢
    clear hv3 qc qf C2 G2 R2 Q2 I2 J2
    clear z0 z1 z2 z3 z4 z5 fz
    obtain ⟨q0, q1, q2, q3, q4, q5⟩ := Q3.six
    obtain ⟨y0, y1, y2, y3, y4, y5⟩ := R3.six
    have fy := R3.fro
    have HH : Hid (OwnI v3 base (.slice a1 l1 c1) ws ∧ OwnB v3 base (.slice a2 l2 c2) bs ∧ Cur w0 a cap zs v3 g ∧ w.grownBy v3 (some g) ∧ Blk v3 (w.heap.size + 1) 49 #[.int .i64 0, .int .i64 0, .int .i64 0, .int .i64 0, .slice none 0 0, .slice none 0 0]) := ⟨I3, J3, C3, G3, R3⟩
    clear C3 G3 R3 Q3 I3 J3
    go_wp2
    refine bodyPost_ret (v := rp (kd) (fl) ((pl + y)) (nn) a1 a2 l1 l2 c1 c2) (by simp [results, Try.results52, go_sem, y0, y1, y2, y3, y4, y5]) rfl ?_
    obtain ⟨OI, OB, CE, GE, RE⟩ := HH.out
    have hgR : g ≠ w.heap.size + 1 := by have := HX.out; omega
    have hwR : w0.heap.size ≤ w.heap.size + 1 := by have := HX.out; omega
    have hn1 : l1 ≤ l1 + 1 := by omega
    have hn2 : l2 ≤ l2 + 1 := by omega
    exact ⟨_, _, _, _, _, _, _, _, _, _, ws, bs, rfl, HL.out.1, HL.out.2, hn1, hn2, rowp_set6 OI ⟨_, RE⟩ (by decide), rowp_set6 OB ⟨_, RE⟩ (by decide), (((((CE.setHi hgR hwR).setHi hgR hwR).setHi hgR hwR).setHi hgR hwR).setHi hgR hwR).setHi hgR hwR, grown_setHi (grown_setHi (grown_setHi (grown_setHi (grown_setHi (grown_setHi GE (Nat.le_succ _)) (Nat.le_succ _)) (Nat.le_succ _)) (Nat.le_succ _)) (Nat.le_succ _)) (Nat.le_succ _)⟩
  · clear hx
    go_upto_region 9 with fail
    have hwz : IntKind.i64.wrap (nn + 1) = nn + 1 := by rw [IntKind.wrap_i64]; omega
    have k3 := Q1.cell 3 rfl
    have qc := Q1.cell 3 rfl
    have qf := Q1.fro 3
    have Q2 := Q1.set 3 (.int .i64 (nn + 1))
    have R2 := R1.setNe (g' := w.heap.size) (j := 3) (y := .int .i64 (nn + 1)) (by omega)
    have C2 := C1.setHi (G := w.heap.size) (j := 3) (y := .int .i64 (nn + 1)) (by have := HX.out; omega) (by have := HX.out; omega)
    have G2 := grown_setHi (G := w.heap.size) (j := 3) (y := .int .i64 (nn + 1)) G1 (Nat.le_refl _)
    have I2 : OwnI _ _ _ _ := row_setE (j := 3) (y := .int .i64 (nn + 1)) I1 ⟨_, Q1⟩ (by decide)
    have J2 : OwnB _ _ _ _ := row_setE (j := 3) (y := .int .i64 (nn + 1)) J1 ⟨_, Q1⟩ (by decide)
    go_upto_region 14 with fail
    obtain ⟨v2, hv2⟩ : ∃ v2, v2 = u1.setCell ⟨w.heap.size, 3, none⟩ (.int .i64 (nn + 1)) := ⟨_, rfl⟩
    rw [← hv2] at Q2 R2 C2 G2 I2 J2 ⊢
    clear hv2 qc qf C1 G1 R1 Q1 I1 J1
    clear k3 hwz
    obtain ⟨q0, q1, q2, q3, q4, q5⟩ := Q2.six
    obtain ⟨y0, y1, y2, y3, y4, y5⟩ := R2.six
    have fy := R2.fro
    have HH : Hid (OwnI v2 base (.slice a1 l1 c1) ws ∧ OwnB v2 base (.slice a2 l2 c2) bs ∧ Cur w0 a cap zs v2 g ∧ w.grownBy v2 (some g) ∧ Blk v2 (w.heap.size + 1) 49 #[.int .i64 0, .int .i64 0, .int .i64 0, .int .i64 0, .slice none 0 0, .slice none 0 0]) := ⟨I2, J2, C2, G2, R2⟩
    clear C2 G2 R2 Q2 I2 J2
    go_wp2
    refine bodyPost_ret (v := rp (kd) (fl) (pl) ((nn + 1)) a1 a2 l1 l2 c1 c2) (by simp [results, Try.results52, go_sem, y0, y1, y2, y3, y4, y5]) rfl ?_
    obtain ⟨OI, OB, CE, GE, RE⟩ := HH.out
    have hgR : g ≠ w.heap.size + 1 := by have := HX.out; omega
    have hwR : w0.heap.size ≤ w.heap.size + 1 := by have := HX.out; omega
    have hn1 : l1 ≤ l1 + 1 := by omega
    have hn2 : l2 ≤ l2 + 1 := by omega
    exact ⟨_, _, _, _, _, _, _, _, _, _, ws, bs, rfl, HL.out.1, HL.out.2, hn1, hn2, rowp_set6 OI ⟨_, RE⟩ (by decide), rowp_set6 OB ⟨_, RE⟩ (by decide), (((((CE.setHi hgR hwR).setHi hgR hwR).setHi hgR hwR).setHi hgR hwR).setHi hgR hwR).setHi hgR hwR, grown_setHi (grown_setHi (grown_setHi (grown_setHi (grown_setHi (grown_setHi GE (Nat.le_succ _)) (Nat.le_succ _)) (Nat.le_succ _)) (Nat.le_succ _)) (Nat.le_succ _)) (Nat.le_succ _)⟩
  · clear hx
    go_upto_region 11 with fail
    have N2 := newI u1 w.heap.size G1.size
    have b' := bel_alloc u1 (.cells #[] 3)
    have C2 := C1.alloc (.cells #[] 3)
    have G2 := grown_trans G1 (grown_below b' (some g))
    have R2 := R1.below b'
    have Q2 := Q1.below b'
    have I2 := OwnI.below I1 b'
    have J2 := OwnB.below J1 b'
    clear b' C1 G1 R1 Q1 I1 J1
    have q3 := Q2.cell 4 rfl
    have hsz : w.heap.size ≤ (u1.alloc (.cells #[] 3)).heap.size := G2.size
    go_wp2_with (at_builtin; refine wpList_appIO rfl (.tmp 35) (.tmp 37) rfl w.heap.size (.slice (some ⟨u1.heap.size, 0, none⟩) 0 0) [] rfl N2 a1 l1 c1 ws rfl HL.out.1 I2.sl.2 (by have := HL.out; have := HX.out; simp; omega) hsz ?_; intro v' t3 N3 gg; obtain ⟨n1, n2, n3, rfl, hn3⟩ := ownI_shape N3; have HN3 : Hid (n3 = ([] ++ ws).length) := hn3; clear hn3)
    have C3 := C2.rowG N2 gg HX.out.2.2.2.1
    have G3 := grown_rowG G2 N2 gg
    have R3 := R2.row N2 gg (by decide)
    have Q3 := Q2.row N2 gg (by decide)
    have J3 := OwnB.kept J2 gg (ne_types J2 N2 (by decide))
    clear gg q3 hsz C2 G2 R2 Q2 I2 J2 N2
    have IL := ints_lit t3 [0, 65536] 3
    have hne : t3.heap.size ≠ g := by have := C3.hi; omega
    have b' := bel_alloc t3 (.cells ([0, 65536].map (Value.int .i64)).toArray 3)
    have C4 := C3.alloc (.cells ([0, 65536].map (Value.int .i64)).toArray 3)
    have G4 := grown_trans G3 (grown_below b' (some g))
    have R4 := R3.below b'
    have Q4 := Q3.below b'
    have J4 := OwnB.below J3 b'
    have N4 := OwnI.below N3 b'
    clear b' C3 G3 R3 Q3 J3 N3
    go_wp2_with fail
    refine (l1Int_any w0 a cap zs _ g ⟨t3.heap.size, 0, none⟩ 2 2 [0, 65536] rfl (by omega) (by omega) IL hne C4).mono ?_
    rintro e t5 ⟨y, rfl, _, C5, gg⟩
    have G5 := grown_trans G4 gg
    have R5 := R4.grown gg (by have := HX.out; simp; omega)
    have Q5 := Q4.grown gg (by have := HX.out; simp; omega)
    have J5 := OwnB.kept J4 gg (row_ne_g J4 HX.out.1)
    have N5 := OwnI.kept N4 gg (row_ne_g N4 HX.out.2.2.2.1)
    clear gg C4 G4 R4 Q4 J4 N4
    clear IL hne
    have b' := bel_alloc t5 (.cells #[.int .i64 y] 3)
    have C6 := C5.alloc (.cells #[.int .i64 y] 3)
    have G6 := grown_trans G5 (grown_below b' (some g))
    have R6 := R5.below b'
    have Q6 := Q5.below b'
    have J6 := OwnB.below J5 b'
    have N6 := OwnI.below N5 b'
    clear b' C5 G5 R5 Q5 J5 N5
    have hsz : w.heap.size ≤ (t5.alloc (.cells #[.int .i64 y] 3)).heap.size := G6.size
    go_upto_region 14 with (at_builtin; refine wpList_appI rfl (.tmp 38) (.tmp 42) rfl w.heap.size (.slice n1 n3 n2) ([] ++ ws) rfl N6 ⟨t5.heap.size, 0, none⟩ 1 1 [y] rfl rfl (lit_slI1' _ _ rfl) (by have := HL.out; have := HX.out; simp; omega) hsz ?_; intro v' t7 I7 gg; obtain ⟨m1, m2, m3, rfl, hm3⟩ := ownI_shape I7; have HM3 : Hid (m3 = ([] ++ ws ++ [y]).length) := hm3; have Q' := Q6.row N6 gg (by decide); have qc := Q'.cell 4 rfl; have qf := Q'.fro 4; clear hm3 Q')
    have C7 := C6.rowG N6 gg HX.out.2.2.2.1
    have G7 := grown_rowG G6 N6 gg
    have R7 := R6.row N6 gg (by decide)
    have Q7 := Q6.row N6 gg (by decide)
    have J7 := OwnB.kept J6 gg (ne_types J6 N6 (by decide))
    clear gg hsz C6 G6 R6 Q6 J6 N6
    have I7 := OwnI.mono I7 HX.out.2.1
    have Q8 := Q7.set 4 (.slice m1 m3 m2)
    have R8 := R7.setNe (g' := w.heap.size) (j := 4) (y := .slice m1 m3 m2) (by omega)
    have C8 := C7.setHi (G := w.heap.size) (j := 4) (y := .slice m1 m3 m2) (by have := HX.out; omega) (by have := HX.out; omega)
    have G8 := grown_setHi (G := w.heap.size) (j := 4) (y := .slice m1 m3 m2) G7 (Nat.le_refl _)
    have I8 : OwnI _ _ _ _ := row_setE (j := 4) (y := .slice m1 m3 m2) I7 ⟨_, Q7⟩ (by decide)
    have J8 : OwnB _ _ _ _ := row_setE (j := 4) (y := .slice m1 m3 m2) J7 ⟨_, Q7⟩ (by decide)
    obtain ⟨v8, hv8⟩ : ∃ v8, v8 = t7.setCell ⟨w.heap.size, 4, none⟩ (.slice m1 m3 m2) := ⟨_, rfl⟩
    rw [← hv8] at Q8 R8 C8 G8 I8 J8 ⊢
    clear hv8 qc qf C7 G7 R7 Q7 I7 J7
    obtain ⟨q0, q1, q2, q3, q4, q5⟩ := Q8.six
    obtain ⟨y0, y1, y2, y3, y4, y5⟩ := R8.six
    have fy := R8.fro
    have HH : Hid (OwnI v8 base (.slice m1 m3 m2) ([] ++ ws ++ [y]) ∧ OwnB v8 base (.slice a2 l2 c2) bs ∧ Cur w0 a cap zs v8 g ∧ w.grownBy v8 (some g) ∧ Blk v8 (w.heap.size + 1) 49 #[.int .i64 0, .int .i64 0, .int .i64 0, .int .i64 0, .slice none 0 0, .slice none 0 0]) := ⟨I8, J8, C8, G8, R8⟩
    clear C8 G8 R8 Q8 I8 J8
    go_wp2
    refine bodyPost_ret (v := rp (kd) (fl) (pl) (nn) m1 a2 m3 l2 m2 c2) (by simp [results, Try.results52, go_sem, y0, y1, y2, y3, y4, y5]) rfl ?_
    obtain ⟨OI, OB, CE, GE, RE⟩ := HH.out
    have hgR : g ≠ w.heap.size + 1 := by have := HX.out; omega
    have hwR : w0.heap.size ≤ w.heap.size + 1 := by have := HX.out; omega
    have hn1 : m3 ≤ l1 + 1 := by have h := HM3.out; have := HL.out; simp at h; omega
    have hn2 : l2 ≤ l2 + 1 := by omega
    exact ⟨_, _, _, _, _, _, _, _, _, _, ([] ++ ws ++ [y]), bs, rfl, HM3.out, HL.out.2, hn1, hn2, rowp_set6 OI ⟨_, RE⟩ (by decide), rowp_set6 OB ⟨_, RE⟩ (by decide), (((((CE.setHi hgR hwR).setHi hgR hwR).setHi hgR hwR).setHi hgR hwR).setHi hgR hwR).setHi hgR hwR, grown_setHi (grown_setHi (grown_setHi (grown_setHi (grown_setHi (grown_setHi GE (Nat.le_succ _)) (Nat.le_succ _)) (Nat.le_succ _)) (Nat.le_succ _)) (Nat.le_succ _)) (Nat.le_succ _)⟩
  · clear hx
    go_upto_region 13 with fail
    have N2 := newB u1 w.heap.size G1.size
    have b' := bel_alloc u1 (.cells #[] 4)
    have C2 := C1.alloc (.cells #[] 4)
    have G2 := grown_trans G1 (grown_below b' (some g))
    have R2 := R1.below b'
    have Q2 := Q1.below b'
    have I2 := OwnI.below I1 b'
    have J2 := OwnB.below J1 b'
    clear b' C1 G1 R1 Q1 I1 J1
    have q4 := Q2.cell 5 rfl
    have hsz : w.heap.size ≤ (u1.alloc (.cells #[] 4)).heap.size := G2.size
    go_upto_region 14 with (first | (at_builtin; refine wpList_appBO rfl (.tmp 47) (.tmp 49) rfl w.heap.size (.slice (some ⟨u1.heap.size, 0, none⟩) 0 0) [] rfl N2 a2 l2 c2 bs rfl HL.out.2 J2.sl.2 (by have := HL.out; have := HX.out; simp; omega) hsz ?_; intro v' t3 N3 gg; obtain ⟨n1, n2, n3, rfl, hn3⟩ := ownB_shape N3; have HN3 : Hid (n3 = ([] ++ bs).length) := hn3; have G3 := grown_rowG G2 N2 gg; have hsz2 := Nat.le_trans G3.size (bel_alloc t3 (.cells #[.bool true] 4)).size; clear hn3) | (at_builtin; refine wpList_appBO rfl (.tmp 50) (.tmp 51) rfl w.heap.size (.slice n1 n3 n2) ([] ++ bs) rfl (OwnB.below N3 (bel_alloc _ _)) (some ⟨t3.heap.size, 0, none⟩) 1 1 [true] rfl rfl (lit_slB1 _ _ rfl) (by have := HL.out; have := HX.out; simp; omega) hsz2 ?_; intro v' t4 J4 gg2; obtain ⟨m1, m2, m3, rfl, hm3⟩ := ownB_shape J4; have HM3 : Hid (m3 = ([] ++ bs ++ [true]).length) := hm3; have Q' := ((Q2.row N2 gg (by decide)).below (bel_alloc t3 (.cells #[.bool true] 4))).row (OwnB.below N3 (bel_alloc _ _)) gg2 (by decide); have qc := Q'.cell 5 rfl; have qf := Q'.fro 5; clear hm3 Q'))
    have b' := bel_alloc t3 (.cells #[.bool true] 4)
    have N' := OwnB.below N3 b'
    have C4 := ((C2.rowG N2 gg HX.out.2.2.2.1).alloc (.cells #[.bool true] 4)).rowG N' gg2 HX.out.2.2.2.1
    have G4 := grown_rowG (grown_trans G3 (grown_below b' (some g))) N' gg2
    have R4 := ((R2.row N2 gg (by decide)).below b').row N' gg2 (by decide)
    have Q4 := ((Q2.row N2 gg (by decide)).below b').row N' gg2 (by decide)
    have I4' := OwnI.below (OwnI.kept I2 gg (ne_types I2 N2 (by decide))) b'
    have I4 := OwnI.kept I4' gg2 (ne_types I4' N' (by decide))
    clear gg gg2 q4 hsz hsz2 b' N' I4' N3 G3 C2 G2 R2 Q2 I2 J2 N2
    have J4 := OwnB.mono J4 HX.out.2.1
    have Q5 := Q4.set 5 (.slice m1 m3 m2)
    have R5 := R4.setNe (g' := w.heap.size) (j := 5) (y := .slice m1 m3 m2) (by omega)
    have C5 := C4.setHi (G := w.heap.size) (j := 5) (y := .slice m1 m3 m2) (by have := HX.out; omega) (by have := HX.out; omega)
    have G5 := grown_setHi (G := w.heap.size) (j := 5) (y := .slice m1 m3 m2) G4 (Nat.le_refl _)
    have I5 : OwnI _ _ _ _ := row_setE (j := 5) (y := .slice m1 m3 m2) I4 ⟨_, Q4⟩ (by decide)
    have J5 : OwnB _ _ _ _ := row_setE (j := 5) (y := .slice m1 m3 m2) J4 ⟨_, Q4⟩ (by decide)
    obtain ⟨v5, hv5⟩ : ∃ v5, v5 = t4.setCell ⟨w.heap.size, 5, none⟩ (.slice m1 m3 m2) := ⟨_, rfl⟩
    rw [← hv5] at Q5 R5 C5 G5 I5 J5 ⊢
    clear hv5 qc qf C4 G4 R4 Q4 I4 J4
    obtain ⟨q0, q1, q2, q3, q4, q5⟩ := Q5.six
    obtain ⟨y0, y1, y2, y3, y4, y5⟩ := R5.six
    have fy := R5.fro
    have HH : Hid (OwnI v5 base (.slice a1 l1 c1) ws ∧ OwnB v5 base (.slice m1 m3 m2) ([] ++ bs ++ [true]) ∧ Cur w0 a cap zs v5 g ∧ w.grownBy v5 (some g) ∧ Blk v5 (w.heap.size + 1) 49 #[.int .i64 0, .int .i64 0, .int .i64 0, .int .i64 0, .slice none 0 0, .slice none 0 0]) := ⟨I5, J5, C5, G5, R5⟩
    clear C5 G5 R5 Q5 I5 J5
    go_wp2
    refine bodyPost_ret (v := rp (kd) (fl) (pl) (nn) a1 m1 l1 m3 c1 m2) (by simp [results, Try.results52, go_sem, y0, y1, y2, y3, y4, y5]) rfl ?_
    obtain ⟨OI, OB, CE, GE, RE⟩ := HH.out
    have hgR : g ≠ w.heap.size + 1 := by have := HX.out; omega
    have hwR : w0.heap.size ≤ w.heap.size + 1 := by have := HX.out; omega
    have hn1 : l1 ≤ l1 + 1 := by omega
    have hn2 : m3 ≤ l2 + 1 := by have h := HM3.out; have := HL.out; simp at h; omega
    exact ⟨_, _, _, _, _, _, _, _, _, _, ws, ([] ++ bs ++ [true]), rfl, HL.out.1, HM3.out, hn1, hn2, rowp_set6 OI ⟨_, RE⟩ (by decide), rowp_set6 OB ⟨_, RE⟩ (by decide), (((((CE.setHi hgR hwR).setHi hgR hwR).setHi hgR hwR).setHi hgR hwR).setHi hgR hwR).setHi hgR hwR, grown_setHi (grown_setHi (grown_setHi (grown_setHi (grown_setHi (grown_setHi GE (Nat.le_succ _)) (Nat.le_succ _)) (Nat.le_succ _)) (Nat.le_succ _)) (Nat.le_succ _)) (Nat.le_succ _)⟩
  · clear hx
    obtain ⟨q0, q1, q2, q3, q4, q5⟩ := Q1.six
    obtain ⟨y0, y1, y2, y3, y4, y5⟩ := R1.six
    have fy := R1.fro
    have HH : Hid (OwnI u1 base (.slice a1 l1 c1) ws ∧ OwnB u1 base (.slice a2 l2 c2) bs ∧ Cur w0 a cap zs u1 g ∧ w.grownBy u1 (some g) ∧ Blk u1 (w.heap.size + 1) 49 #[.int .i64 0, .int .i64 0, .int .i64 0, .int .i64 0, .slice none 0 0, .slice none 0 0]) := ⟨I1, J1, C1, G1, R1⟩
    clear C1 G1 R1 Q1 I1 J1
    go_wp2
    refine bodyPost_ret (v := rp (kd) (fl) (pl) (nn) a1 a2 l1 l2 c1 c2) (by simp [results, Try.results52, go_sem, y0, y1, y2, y3, y4, y5]) rfl ?_
    obtain ⟨OI, OB, CE, GE, RE⟩ := HH.out
    have hgR : g ≠ w.heap.size + 1 := by have := HX.out; omega
    have hwR : w0.heap.size ≤ w.heap.size + 1 := by have := HX.out; omega
    have hn1 : l1 ≤ l1 + 1 := by omega
    have hn2 : l2 ≤ l2 + 1 := by omega
    exact ⟨_, _, _, _, _, _, _, _, _, _, ws, bs, rfl, HL.out.1, HL.out.2, hn1, hn2, rowp_set6 OI ⟨_, RE⟩ (by decide), rowp_set6 OB ⟨_, RE⟩ (by decide), (((((CE.setHi hgR hwR).setHi hgR hwR).setHi hgR hwR).setHi hgR hwR).setHi hgR hwR).setHi hgR hwR, grown_setHi (grown_setHi (grown_setHi (grown_setHi (grown_setHi (grown_setHi GE (Nat.le_succ _)) (Nat.le_succ _)) (Nat.le_succ _)) (Nat.le_succ _)) (Nat.le_succ _)) (Nat.le_succ _)⟩
end Go.Proofs.Ytegckbfbmbiogaa
