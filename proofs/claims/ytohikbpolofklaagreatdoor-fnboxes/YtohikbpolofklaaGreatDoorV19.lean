/- Texts that the proof needs, joined: Tel2 Tel3 CurY AskM AskE Bd1 Bd2 Nog Sf. -/
import Derived.Test.YtohikbpolofklaaGreatDoorV18
import Derived.Test.YtohikbpolofklaaGreatDoorV17
import Derived.Test.YtohikbpolofklaaGreatDoorV3
import Derived.Test.YtohikbpolofklaaGreatDoorV11
import Derived.Test.YtohikbpolofklaaGreatDoorV12
namespace Go.Proofs.YtohikbpolofklaaGreatDoor
open Go.RowKit
set_option linter.unusedVariables false
set_option linter.unusedSimpArgs false
set_option maxRecDepth 20000 in
set_option maxHeartbeats 16000000 in
theorem l4Bend_any (w0 : World) (a : Option Addr) (cap : Nat) (zs : List Int) (w : World) (g : Nat) (kd fl pl nn : Int) (a1 a2 : Option Addr) (l1 l2 c1 c2 : Nat) (ws : List Int) (bs : List Bool) (base : Nat) (h1 : l1 = ws.length) (h2 : l2 = bs.length) (hl1 : l1 ≤ 1000) (hl2 : l2 ≤ 10000) (hpn : 0 ≤ pl ∧ pl ≤ 65535 ∧ 0 ≤ nn ∧ nn ≤ 2900) (hgb : g < base) (hbw : base ≤ w.heap.size) (o1 : OwnI w base (.slice a1 l1 c1) ws) (o2 : OwnB w base (.slice a2 l2 c2) bs) (hC : Cur w0 a cap zs w g) :
    Calls Tryz.prog 45 #[.pointer (some ⟨g, 0, none⟩), rp kd fl pl nn a1 a2 l1 l2 c1 c2] w fun e w' => RespAt w0 a cap zs base (l1 + 1) (l2 + 1) w g e w' := by
  obtain ⟨W0, hW0⟩ : ∃ W0, W0 = (w.alloc (.cells #[.int .i64 kd, .int .i64 fl, .int .i64 pl, .int .i64 nn, .slice a1 l1 c1, .slice a2 l2 c2] 36)).alloc (.cells #[.int .i64 0, .int .i64 0, .int .i64 0, .int .i64 0, .slice none 0 0, .slice none 0 0] 36) := ⟨_, rfl⟩
  have HW : Hid (W0 = _) := hW0
  have bw : Below w.heap.size w W0 := by rw [hW0]; exact bel_next (bel_alloc w _) (bel_alloc _ _)
  have C0 : Cur w0 a cap zs W0 g := by rw [hW0]; exact (hC.alloc _).alloc _
  have G0 : w.grownBy W0 (some g) := grown_below bw _
  have Q0 : Blk W0 w.heap.size 36 #[.int .i64 kd, .int .i64 fl, .int .i64 pl, .int .i64 nn, .slice a1 l1 c1, .slice a2 l2 c2] := by rw [hW0]; exact (Blk.new w _ _).below (bel_alloc _ _)
  have R0 : Blk W0 (w.heap.size + 1) 36 #[.int .i64 0, .int .i64 0, .int .i64 0, .int .i64 0, .slice none 0 0, .slice none 0 0] := by
    rw [hW0]; have := Blk.new (w.alloc (.cells #[.int .i64 kd, .int .i64 fl, .int .i64 pl, .int .i64 nn, .slice a1 l1 c1, .slice a2 l2 c2] 36)) #[.int .i64 0, .int .i64 0, .int .i64 0, .int .i64 0, .slice none 0 0, .slice none 0 0] 36; simpa using this
  have I0 := o1.below bw
  have J0 := o2.below bw
  have HX : Hid (g < base ∧ base ≤ w.heap.size ∧ w0.heap.size ≤ g ∧ g < w.heap.size ∧ l1 ≤ 1000 ∧ l2 ≤ 10000) := ⟨hgb, hbw, hC.lo, hC.hi, hl1, hl2⟩
  have HL : Hid (l1 = ws.length ∧ l2 = bs.length) := ⟨h1, h2⟩
  clear hC hW0 bw o1 o2 h1 h2 hl1 hl2 hgb hbw
  go_enter Tryz.func45, Tryz.ntmps45
  go_upto_region 1 with fail
  rw [← HW.out]
  go_wp2_with fail
  refine (l1Below_any w0 a cap zs _ g _ (by decide) C0).mono ?_
  rintro e u1 ⟨x, rfl, hx, C1, gg⟩
  have G1 := grown_trans G0 gg
  have R1 := R0.grown gg (by have := HX.out; simp; omega)
  have Q1 := Q0.grown gg (by have := HX.out; simp; omega)
  have I1 := OwnI.kept I0 gg (row_ne_g I0 HX.out.1)
  have J1 := OwnB.kept J0 gg (row_ne_g J0 HX.out.1)
  clear C0 G0 R0 Q0 I0 J0 gg
  obtain rfl | rfl | rfl | rfl | rfl | rfl | rfl : x = 0 ∨ x = 1 ∨ x = 2 ∨ x = 3 ∨ x = 4 ∨ x = 5 ∨ x = 6 := by omega
  · clear hx
    go_upto_region 3 with fail
    go_wp2_with fail
    refine (l1Below_any w0 a cap zs _ g _ (by decide) C1).mono ?_
    rintro e t2 ⟨y, rfl, _, C2, gg⟩
    have G2 := grown_trans G1 gg
    have R2 := R1.grown gg (by have := HX.out; simp; omega)
    have Q2 := Q1.grown gg (by have := HX.out; simp; omega)
    have I2 := OwnI.kept I1 gg (row_ne_g I1 HX.out.1)
    have J2 := OwnB.kept J1 gg (row_ne_g J1 HX.out.1)
    clear gg C1 G1 R1 Q1 I1 J1
    have qc := Q2.cell 0 rfl
    have qf := Q2.fro 0
    have Q3 := Q2.set 0 (.int .i64 y)
    have R3 := R2.setNe (g' := w.heap.size) (j := 0) (y := .int .i64 y) (by omega)
    have C3 := C2.setHi (G := w.heap.size) (j := 0) (y := .int .i64 y) (by have := HX.out; omega) (by have := HX.out; omega)
    have G3 := grown_setHi (G := w.heap.size) (j := 0) (y := .int .i64 y) G2 (Nat.le_refl _)
    have I3 : OwnI _ _ _ _ := row_setE (j := 0) (y := .int .i64 y) I2 ⟨_, Q2⟩ (by decide)
    have J3 : OwnB _ _ _ _ := row_setE (j := 0) (y := .int .i64 y) J2 ⟨_, Q2⟩ (by decide)
    go_upto_region 14 with fail
    obtain ⟨v3, hv3⟩ : ∃ v3, v3 = t2.setCell ⟨w.heap.size, 0, none⟩ (.int .i64 y) := ⟨_, rfl⟩
    rw [← hv3] at Q3 R3 C3 G3 I3 J3 ⊢
    clear hv3 qc qf C2 G2 R2 Q2 I2 J2
    obtain ⟨q0, q1, q2, q3, q4, q5⟩ := Q3.six
    obtain ⟨y0, y1, y2, y3, y4, y5⟩ := R3.six
    have fy := R3.fro
    have HH : Hid (OwnI v3 base (.slice a1 l1 c1) ws ∧ OwnB v3 base (.slice a2 l2 c2) bs ∧ Cur w0 a cap zs v3 g ∧ w.grownBy v3 (some g) ∧ Blk v3 (w.heap.size + 1) 36 #[.int .i64 0, .int .i64 0, .int .i64 0, .int .i64 0, .slice none 0 0, .slice none 0 0]) := ⟨I3, J3, C3, G3, R3⟩
    clear C3 G3 R3 Q3 I3 J3
    go_wp2
    refine bodyPost_ret (v := rp (y) (fl) (pl) (nn) a1 a2 l1 l2 c1 c2) (by simp [results, Tryz.results45, go_sem, y0, y1, y2, y3, y4, y5]) rfl ?_
    obtain ⟨OI, OB, CE, GE, RE⟩ := HH.out
    have hgR : g ≠ w.heap.size + 1 := by have := HX.out; omega
    have hwR : w0.heap.size ≤ w.heap.size + 1 := by have := HX.out; omega
    have hn1 : l1 ≤ l1 + 1 := by omega
    have hn2 : l2 ≤ l2 + 1 := by omega
    exact ⟨_, _, _, _, _, _, _, _, _, _, ws, bs, rfl, HL.out.1, HL.out.2, hn1, hn2, rowp_set6 OI ⟨_, RE⟩ (by decide), rowp_set6 OB ⟨_, RE⟩ (by decide), (((((CE.setHi hgR hwR).setHi hgR hwR).setHi hgR hwR).setHi hgR hwR).setHi hgR hwR).setHi hgR hwR, grown_setHi (grown_setHi (grown_setHi (grown_setHi (grown_setHi (grown_setHi GE (Nat.le_succ _)) (Nat.le_succ _)) (Nat.le_succ _)) (Nat.le_succ _)) (Nat.le_succ _)) (Nat.le_succ _)⟩
  · clear hx
    go_upto_region 5 with fail
    have IL := ints_lit u1 [0, 1, 255, 256, -1] 3
    have hne : u1.heap.size ≠ g := by have := C1.hi; omega
    have b' := bel_alloc u1 (.cells ([0, 1, 255, 256, -1].map (Value.int .i64)).toArray 3)
    have C2 := C1.alloc (.cells ([0, 1, 255, 256, -1].map (Value.int .i64)).toArray 3)
    have G2 := grown_trans G1 (grown_below b' (some g))
    have R2 := R1.below b'
    have Q2 := Q1.below b'
    have I2 := OwnI.below I1 b'
    have J2 := OwnB.below J1 b'
    clear b' C1 G1 R1 Q1 I1 J1
    go_wp2_with fail
    refine (l1Int_any w0 a cap zs _ g ⟨u1.heap.size, 0, none⟩ 5 5 [0, 1, 255, 256, -1] rfl (by omega) (by omega) IL hne C2).mono ?_
    rintro e t3 ⟨y, rfl, _, C3, gg⟩
    have G3 := grown_trans G2 gg
    have R3 := R2.grown gg (by have := HX.out; simp; omega)
    have Q3 := Q2.grown gg (by have := HX.out; simp; omega)
    have I3 := OwnI.kept I2 gg (row_ne_g I2 HX.out.1)
    have J3 := OwnB.kept J2 gg (row_ne_g J2 HX.out.1)
    clear gg C2 G2 R2 Q2 I2 J2
    clear IL hne
    have qc := Q3.cell 1 rfl
    have qf := Q3.fro 1
    have Q4 := Q3.set 1 (.int .i64 y)
    have R4 := R3.setNe (g' := w.heap.size) (j := 1) (y := .int .i64 y) (by omega)
    have C4 := C3.setHi (G := w.heap.size) (j := 1) (y := .int .i64 y) (by have := HX.out; omega) (by have := HX.out; omega)
    have G4 := grown_setHi (G := w.heap.size) (j := 1) (y := .int .i64 y) G3 (Nat.le_refl _)
    have I4 : OwnI _ _ _ _ := row_setE (j := 1) (y := .int .i64 y) I3 ⟨_, Q3⟩ (by decide)
    have J4 : OwnB _ _ _ _ := row_setE (j := 1) (y := .int .i64 y) J3 ⟨_, Q3⟩ (by decide)
    go_upto_region 14 with fail
    obtain ⟨v4, hv4⟩ : ∃ v4, v4 = t3.setCell ⟨w.heap.size, 1, none⟩ (.int .i64 y) := ⟨_, rfl⟩
    rw [← hv4] at Q4 R4 C4 G4 I4 J4 ⊢
    clear hv4 qc qf C3 G3 R3 Q3 I3 J3
    obtain ⟨q0, q1, q2, q3, q4, q5⟩ := Q4.six
    obtain ⟨y0, y1, y2, y3, y4, y5⟩ := R4.six
    have fy := R4.fro
    have HH : Hid (OwnI v4 base (.slice a1 l1 c1) ws ∧ OwnB v4 base (.slice a2 l2 c2) bs ∧ Cur w0 a cap zs v4 g ∧ w.grownBy v4 (some g) ∧ Blk v4 (w.heap.size + 1) 36 #[.int .i64 0, .int .i64 0, .int .i64 0, .int .i64 0, .slice none 0 0, .slice none 0 0]) := ⟨I4, J4, C4, G4, R4⟩
    clear C4 G4 R4 Q4 I4 J4
    go_wp2
    refine bodyPost_ret (v := rp (kd) (y) (pl) (nn) a1 a2 l1 l2 c1 c2) (by simp [results, Tryz.results45, go_sem, y0, y1, y2, y3, y4, y5]) rfl ?_
    obtain ⟨OI, OB, CE, GE, RE⟩ := HH.out
    have hgR : g ≠ w.heap.size + 1 := by have := HX.out; omega
    have hwR : w0.heap.size ≤ w.heap.size + 1 := by have := HX.out; omega
    have hn1 : l1 ≤ l1 + 1 := by omega
    have hn2 : l2 ≤ l2 + 1 := by omega
    exact ⟨_, _, _, _, _, _, _, _, _, _, ws, bs, rfl, HL.out.1, HL.out.2, hn1, hn2, rowp_set6 OI ⟨_, RE⟩ (by decide), rowp_set6 OB ⟨_, RE⟩ (by decide), (((((CE.setHi hgR hwR).setHi hgR hwR).setHi hgR hwR).setHi hgR hwR).setHi hgR hwR).setHi hgR hwR, grown_setHi (grown_setHi (grown_setHi (grown_setHi (grown_setHi (grown_setHi GE (Nat.le_succ _)) (Nat.le_succ _)) (Nat.le_succ _)) (Nat.le_succ _)) (Nat.le_succ _)) (Nat.le_succ _)⟩
  · clear hx
    go_upto_region 7 with fail
    have d1 : Below u1.heap.size u1 (u1.drew.alloc (.cells ([1, -1, 65536].map (Value.int .i64)).toArray 3)) := bel_next (Below.refl _ _).drew (bel_alloc _ _)
    have IL := ints_lit u1.drew [1, -1, 65536] 3
    have hne : u1.heap.size ≠ g := by have := C1.hi; omega
    have Cd := C1.belowU d1
    have Gd := grown_trans G1 (grown_below d1 (some g))
    have Rd := R1.below d1
    have Qd := Q1.below d1
    have Id := OwnI.below I1 d1
    have Jd := OwnB.below J1 d1
    obtain ⟨q0, q1, q2, q3, q4, q5⟩ := Q1.six
    obtain ⟨k0, k1, k2, k3, k4, k5⟩ := Qd.six
    have hnq : ¬ w.heap.size = u1.heap.size := by have := Q1.lt; omega
    have kk : (u1.drew.alloc (.cells #[.int .i64 1, .int .i64 (-1), .int .i64 65536] 3)).cell? ⟨w.heap.size, 2, none⟩ = some (.int .i64 pl) := k2
    have kl : (u1.alloc (.cells #[.int .i64 1, .int .i64 (-1), .int .i64 65536] 3)).cell? ⟨w.heap.size, 2, none⟩ = some (.int .i64 pl) := (Q1.below (bel_alloc u1 (.cells #[.int .i64 1, .int .i64 (-1), .int .i64 65536] 3))).cell 2 rfl
    refine wp_region_any (by kernel_rfl) ?_
    (try (change wpAny _ _ _ _ _ _ _ (World.drew _)))
    refine wpAny_take (i := 0) (v := ?v0) rfl (by kernel_rfl) (by kernel_rfl) (by kernel_rfl) (fun _ _ _ h => h) (Or.inl ⟨by rfl, ?h0⟩) ?_
    case h0 => intro w; go_simp; try (with_reducible rfl)
    refine wpAny_take (i := 2) (v := ?v2) rfl (by kernel_rfl) (by kernel_rfl) (by kernel_rfl) (fun _ _ _ h => h) (Or.inl ⟨by rfl, ?h2⟩) ?_
    case h2 => intro w; go_simp; try (with_reducible rfl)
    refine wpAny_ready (rs := [1, 3]) (by kernel_rfl) (by simp) ?_
    refine AllReady.cons rfl (fun K hK => ?_) ?_
    · skip
      go_simp
      refine hK _ _ ?_
      clear hK K
      refine wpAny_ready (rs := [3]) (by kernel_rfl) (by simp) ?_
      refine AllReady.cons rfl (fun K hK => ?_) AllReady.nil
      go_simp
      refine hK _ _ ?_
      clear hK K
      refine wpAny_ready (rs := [4]) (by kernel_rfl) (by simp) ?_
      refine AllReady.cons rfl (fun K hK => ?_) AllReady.nil
      go_simp
      go_wp2_with (go_at_call 58; refine (l1Int_any w0 a cap zs _ g ⟨u1.heap.size, 0, none⟩ 3 3 [1, -1, 65536] rfl (by omega) (by omega) IL hne Cd).mono ?_; rintro e t2 ⟨y, rfl, hy, C2, gg⟩; have hyb : -1 ≤ y ∧ y ≤ 65536 := (by simp at hy; omega); have hwz : IntKind.i64.wrap (pl + y) = pl + y := (by rw [IntKind.wrap_i64]; omega); have G2 := grown_trans Gd gg; have R2 := Rd.grown gg (by have := HX.out; simp; omega); have Q2 := Qd.grown gg (by have := HX.out; simp; omega); have I2 := OwnI.kept Id gg (row_ne_g Id HX.out.1); have J2 := OwnB.kept Jd gg (row_ne_g Jd HX.out.1); clear gg hy; obtain ⟨z0, z1, z2, z3, z4, z5⟩ := Q2.six; have fz := Q2.fro; clear k0 k1 k2 k3 k4 k5 hnq d1 IL hne Cd Gd Rd Qd Id Jd C1 G1 R1 Q1 I1 J1)
      try (refine hK _ _ ?_; clear hK K)
      refine wpAny_ready (rs := [5]) (by kernel_rfl) (by simp) ?_
      refine AllReady.cons rfl (fun K hK => ?_) AllReady.nil
      go_simp
      refine hK _ _ ?_
      clear hK K
      refine wpAny_ready (rs := [6]) (by kernel_rfl) (by simp) ?_
      refine AllReady.cons rfl (fun K hK => ?_) AllReady.nil
      go_simp
      refine hK _ _ ?_
      clear hK K
      refine wpAny_ready (rs := [7]) (by kernel_rfl) (by simp) ?_
      refine AllReady.cons rfl (fun K hK => ?_) AllReady.nil
      go_simp
      refine hK _ _ ?_
      clear hK K
      refine wpAny_done (by kernel_rfl) ?_ _
      go_upto_region 14 with fail
      have qc := True.intro
      have qf := True.intro
      have Q3 := Q2.set 2 (.int .i64 (pl + y))
      have R3 := R2.setNe (g' := w.heap.size) (j := 2) (y := .int .i64 (pl + y)) (by omega)
      have C3 := C2.setHi (G := w.heap.size) (j := 2) (y := .int .i64 (pl + y)) (by have := HX.out; omega) (by have := HX.out; omega)
      have G3 := grown_setHi (G := w.heap.size) (j := 2) (y := .int .i64 (pl + y)) G2 (Nat.le_refl _)
      have I3 : OwnI _ _ _ _ := row_setE (j := 2) (y := .int .i64 (pl + y)) I2 ⟨_, Q2⟩ (by decide)
      have J3 : OwnB _ _ _ _ := row_setE (j := 2) (y := .int .i64 (pl + y)) J2 ⟨_, Q2⟩ (by decide)
      obtain ⟨v3, hv3⟩ : ∃ v3, v3 = t2.setCell ⟨w.heap.size, 2, none⟩ (.int .i64 (pl + y)) := ⟨_, rfl⟩
      rw [← hv3] at Q3 R3 C3 G3 I3 J3 ⊢
      clear hv3 qc qf C2 G2 R2 Q2 I2 J2
      clear z0 z1 z2 z3 z4 z5 fz
      obtain ⟨q0, q1, q2, q3, q4, q5⟩ := Q3.six
      obtain ⟨y0, y1, y2, y3, y4, y5⟩ := R3.six
      have fy := R3.fro
      have HH : Hid (OwnI v3 base (.slice a1 l1 c1) ws ∧ OwnB v3 base (.slice a2 l2 c2) bs ∧ Cur w0 a cap zs v3 g ∧ w.grownBy v3 (some g) ∧ Blk v3 (w.heap.size + 1) 36 #[.int .i64 0, .int .i64 0, .int .i64 0, .int .i64 0, .slice none 0 0, .slice none 0 0]) := ⟨I3, J3, C3, G3, R3⟩
      clear C3 G3 R3 Q3 I3 J3
      go_wp2
      refine bodyPost_ret (v := rp (kd) (fl) ((pl + y)) (nn) a1 a2 l1 l2 c1 c2) (by simp [results, Tryz.results45, go_sem, y0, y1, y2, y3, y4, y5]) rfl ?_
      obtain ⟨OI, OB, CE, GE, RE⟩ := HH.out
      have hgR : g ≠ w.heap.size + 1 := by have := HX.out; omega
      have hwR : w0.heap.size ≤ w.heap.size + 1 := by have := HX.out; omega
      have hn1 : l1 ≤ l1 + 1 := by omega
      have hn2 : l2 ≤ l2 + 1 := by omega
      exact ⟨_, _, _, _, _, _, _, _, _, _, ws, bs, rfl, HL.out.1, HL.out.2, hn1, hn2, rowp_set6 OI ⟨_, RE⟩ (by decide), rowp_set6 OB ⟨_, RE⟩ (by decide), (((((CE.setHi hgR hwR).setHi hgR hwR).setHi hgR hwR).setHi hgR hwR).setHi hgR hwR).setHi hgR hwR, grown_setHi (grown_setHi (grown_setHi (grown_setHi (grown_setHi (grown_setHi GE (Nat.le_succ _)) (Nat.le_succ _)) (Nat.le_succ _)) (Nat.le_succ _)) (Nat.le_succ _)) (Nat.le_succ _)⟩
    refine AllReady.cons rfl (fun K hK => ?_) AllReady.nil
    go_simp
    refine hK _ _ ?_
    clear hK K
    refine wpAny_ready (rs := [1, 4]) (by kernel_rfl) (by simp) ?_
    refine AllReady.cons rfl (fun K hK => ?_) ?_
    · skip
      go_simp
      refine hK _ _ ?_
      clear hK K
      refine wpAny_ready (rs := [4]) (by kernel_rfl) (by simp) ?_
      refine AllReady.cons rfl (fun K hK => ?_) AllReady.nil
      go_simp
      go_wp2_with (go_at_call 58; refine (l1Int_any w0 a cap zs _ g ⟨u1.heap.size, 0, none⟩ 3 3 [1, -1, 65536] rfl (by omega) (by omega) IL hne Cd).mono ?_; rintro e t2 ⟨y, rfl, hy, C2, gg⟩; have hyb : -1 ≤ y ∧ y ≤ 65536 := (by simp at hy; omega); have hwz : IntKind.i64.wrap (pl + y) = pl + y := (by rw [IntKind.wrap_i64]; omega); have G2 := grown_trans Gd gg; have R2 := Rd.grown gg (by have := HX.out; simp; omega); have Q2 := Qd.grown gg (by have := HX.out; simp; omega); have I2 := OwnI.kept Id gg (row_ne_g Id HX.out.1); have J2 := OwnB.kept Jd gg (row_ne_g Jd HX.out.1); clear gg hy; obtain ⟨z0, z1, z2, z3, z4, z5⟩ := Q2.six; have fz := Q2.fro; clear k0 k1 k2 k3 k4 k5 hnq d1 IL hne Cd Gd Rd Qd Id Jd C1 G1 R1 Q1 I1 J1)
      try (refine hK _ _ ?_; clear hK K)
      refine wpAny_ready (rs := [5]) (by kernel_rfl) (by simp) ?_
      refine AllReady.cons rfl (fun K hK => ?_) AllReady.nil
      go_simp
      refine hK _ _ ?_
      clear hK K
      refine wpAny_ready (rs := [6]) (by kernel_rfl) (by simp) ?_
      refine AllReady.cons rfl (fun K hK => ?_) AllReady.nil
      go_simp
      refine hK _ _ ?_
      clear hK K
      refine wpAny_ready (rs := [7]) (by kernel_rfl) (by simp) ?_
      refine AllReady.cons rfl (fun K hK => ?_) AllReady.nil
      go_simp
      refine hK _ _ ?_
      clear hK K
      refine wpAny_done (by kernel_rfl) ?_ _
      go_upto_region 14 with fail
      have qc := True.intro
      have qf := True.intro
      have Q3 := Q2.set 2 (.int .i64 (pl + y))
      have R3 := R2.setNe (g' := w.heap.size) (j := 2) (y := .int .i64 (pl + y)) (by omega)
      have C3 := C2.setHi (G := w.heap.size) (j := 2) (y := .int .i64 (pl + y)) (by have := HX.out; omega) (by have := HX.out; omega)
      have G3 := grown_setHi (G := w.heap.size) (j := 2) (y := .int .i64 (pl + y)) G2 (Nat.le_refl _)
      have I3 : OwnI _ _ _ _ := row_setE (j := 2) (y := .int .i64 (pl + y)) I2 ⟨_, Q2⟩ (by decide)
      have J3 : OwnB _ _ _ _ := row_setE (j := 2) (y := .int .i64 (pl + y)) J2 ⟨_, Q2⟩ (by decide)
      obtain ⟨v3, hv3⟩ : ∃ v3, v3 = t2.setCell ⟨w.heap.size, 2, none⟩ (.int .i64 (pl + y)) := ⟨_, rfl⟩
      rw [← hv3] at Q3 R3 C3 G3 I3 J3 ⊢
      clear hv3 qc qf C2 G2 R2 Q2 I2 J2
      clear z0 z1 z2 z3 z4 z5 fz
      obtain ⟨q0, q1, q2, q3, q4, q5⟩ := Q3.six
      obtain ⟨y0, y1, y2, y3, y4, y5⟩ := R3.six
      have fy := R3.fro
      have HH : Hid (OwnI v3 base (.slice a1 l1 c1) ws ∧ OwnB v3 base (.slice a2 l2 c2) bs ∧ Cur w0 a cap zs v3 g ∧ w.grownBy v3 (some g) ∧ Blk v3 (w.heap.size + 1) 36 #[.int .i64 0, .int .i64 0, .int .i64 0, .int .i64 0, .slice none 0 0, .slice none 0 0]) := ⟨I3, J3, C3, G3, R3⟩
      clear C3 G3 R3 Q3 I3 J3
      go_wp2
      refine bodyPost_ret (v := rp (kd) (fl) ((pl + y)) (nn) a1 a2 l1 l2 c1 c2) (by simp [results, Tryz.results45, go_sem, y0, y1, y2, y3, y4, y5]) rfl ?_
      obtain ⟨OI, OB, CE, GE, RE⟩ := HH.out
      have hgR : g ≠ w.heap.size + 1 := by have := HX.out; omega
      have hwR : w0.heap.size ≤ w.heap.size + 1 := by have := HX.out; omega
      have hn1 : l1 ≤ l1 + 1 := by omega
      have hn2 : l2 ≤ l2 + 1 := by omega
      exact ⟨_, _, _, _, _, _, _, _, _, _, ws, bs, rfl, HL.out.1, HL.out.2, hn1, hn2, rowp_set6 OI ⟨_, RE⟩ (by decide), rowp_set6 OB ⟨_, RE⟩ (by decide), (((((CE.setHi hgR hwR).setHi hgR hwR).setHi hgR hwR).setHi hgR hwR).setHi hgR hwR).setHi hgR hwR, grown_setHi (grown_setHi (grown_setHi (grown_setHi (grown_setHi (grown_setHi GE (Nat.le_succ _)) (Nat.le_succ _)) (Nat.le_succ _)) (Nat.le_succ _)) (Nat.le_succ _)) (Nat.le_succ _)⟩
    refine AllReady.cons rfl (fun K hK => ?_) AllReady.nil
    go_simp
    go_wp2_with (go_at_call 58; refine (l1Int_any w0 a cap zs _ g ⟨u1.heap.size, 0, none⟩ 3 3 [1, -1, 65536] rfl (by omega) (by omega) IL hne Cd).mono ?_; rintro e t2 ⟨y, rfl, hy, C2, gg⟩; have hyb : -1 ≤ y ∧ y ≤ 65536 := (by simp at hy; omega); have hwz : IntKind.i64.wrap (pl + y) = pl + y := (by rw [IntKind.wrap_i64]; omega); have G2 := grown_trans Gd gg; have R2 := Rd.grown gg (by have := HX.out; simp; omega); have Q2 := Qd.grown gg (by have := HX.out; simp; omega); have I2 := OwnI.kept Id gg (row_ne_g Id HX.out.1); have J2 := OwnB.kept Jd gg (row_ne_g Jd HX.out.1); clear gg hy; obtain ⟨z0, z1, z2, z3, z4, z5⟩ := Q2.six; have fz := Q2.fro; clear k0 k1 k2 k3 k4 k5 hnq d1 IL hne Cd Gd Rd Qd Id Jd C1 G1 R1 Q1 I1 J1)
    try (refine hK _ _ ?_; clear hK K)
    refine wpAny_ready (rs := [1]) (by kernel_rfl) (by simp) ?_
    refine AllReady.cons rfl (fun K hK => ?_) AllReady.nil
    go_simp
    refine hK _ _ ?_
    clear hK K
    refine wpAny_ready (rs := [5]) (by kernel_rfl) (by simp) ?_
    refine AllReady.cons rfl (fun K hK => ?_) AllReady.nil
    go_simp
    refine hK _ _ ?_
    clear hK K
    refine wpAny_ready (rs := [6]) (by kernel_rfl) (by simp) ?_
    refine AllReady.cons rfl (fun K hK => ?_) AllReady.nil
    go_simp
    refine hK _ _ ?_
    clear hK K
    refine wpAny_ready (rs := [7]) (by kernel_rfl) (by simp) ?_
    refine AllReady.cons rfl (fun K hK => ?_) AllReady.nil
    go_simp
    refine hK _ _ ?_
    clear hK K
    refine wpAny_done (by kernel_rfl) ?_ _
    go_upto_region 14 with fail
    have qc := True.intro
    have qf := True.intro
    have Q3 := Q2.set 2 (.int .i64 (pl + y))
    have R3 := R2.setNe (g' := w.heap.size) (j := 2) (y := .int .i64 (pl + y)) (by omega)
    have C3 := C2.setHi (G := w.heap.size) (j := 2) (y := .int .i64 (pl + y)) (by have := HX.out; omega) (by have := HX.out; omega)
    have G3 := grown_setHi (G := w.heap.size) (j := 2) (y := .int .i64 (pl + y)) G2 (Nat.le_refl _)
    have I3 : OwnI _ _ _ _ := row_setE (j := 2) (y := .int .i64 (pl + y)) I2 ⟨_, Q2⟩ (by decide)
    have J3 : OwnB _ _ _ _ := row_setE (j := 2) (y := .int .i64 (pl + y)) J2 ⟨_, Q2⟩ (by decide)
    obtain ⟨v3, hv3⟩ : ∃ v3, v3 = t2.setCell ⟨w.heap.size, 2, none⟩ (.int .i64 (pl + y)) := ⟨_, rfl⟩
    rw [← hv3] at Q3 R3 C3 G3 I3 J3 ⊢
    clear hv3 qc qf C2 G2 R2 Q2 I2 J2
    clear z0 z1 z2 z3 z4 z5 fz
    obtain ⟨q0, q1, q2, q3, q4, q5⟩ := Q3.six
    obtain ⟨y0, y1, y2, y3, y4, y5⟩ := R3.six
    have fy := R3.fro
    have HH : Hid (OwnI v3 base (.slice a1 l1 c1) ws ∧ OwnB v3 base (.slice a2 l2 c2) bs ∧ Cur w0 a cap zs v3 g ∧ w.grownBy v3 (some g) ∧ Blk v3 (w.heap.size + 1) 36 #[.int .i64 0, .int .i64 0, .int .i64 0, .int .i64 0, .slice none 0 0, .slice none 0 0]) := ⟨I3, J3, C3, G3, R3⟩
    clear C3 G3 R3 Q3 I3 J3
    go_wp2
    refine bodyPost_ret (v := rp (kd) (fl) ((pl + y)) (nn) a1 a2 l1 l2 c1 c2) (by simp [results, Tryz.results45, go_sem, y0, y1, y2, y3, y4, y5]) rfl ?_
    obtain ⟨OI, OB, CE, GE, RE⟩ := HH.out
    have hgR : g ≠ w.heap.size + 1 := by have := HX.out; omega
    have hwR : w0.heap.size ≤ w.heap.size + 1 := by have := HX.out; omega
    have hn1 : l1 ≤ l1 + 1 := by omega
    have hn2 : l2 ≤ l2 + 1 := by omega
    exact ⟨_, _, _, _, _, _, _, _, _, _, ws, bs, rfl, HL.out.1, HL.out.2, hn1, hn2, rowp_set6 OI ⟨_, RE⟩ (by decide), rowp_set6 OB ⟨_, RE⟩ (by decide), (((((CE.setHi hgR hwR).setHi hgR hwR).setHi hgR hwR).setHi hgR hwR).setHi hgR hwR).setHi hgR hwR, grown_setHi (grown_setHi (grown_setHi (grown_setHi (grown_setHi (grown_setHi GE (Nat.le_succ _)) (Nat.le_succ _)) (Nat.le_succ _)) (Nat.le_succ _)) (Nat.le_succ _)) (Nat.le_succ _)⟩
  · clear hx
    go_upto_region 9 with fail
    have hwz : IntKind.i64.wrap (nn + 1) = nn + 1 := by rw [IntKind.wrap_i64]; omega
    have k3 := Q1.cell 3 rfl
    have qc := Q1.cell 3 rfl
    have qf := Q1.fro 3
    have Q2 := Q1.set 3 (.int .i64 (nn + 1))
    have R2 := R1.setNe (g' := w.heap.size) (j := 3) (y := .int .i64 (nn + 1)) (by omega)
    have C2 := C1.setHi (G := w.heap.size) (j := 3) (y := .int .i64 (nn + 1)) (by have := HX.out; omega) (by have := HX.out; omega)
    have G2 := grown_setHi (G := w.heap.size) (j := 3) (y := .int .i64 (nn + 1)) G1 (Nat.le_refl _)
    have I2 : OwnI _ _ _ _ := row_setE (j := 3) (y := .int .i64 (nn + 1)) I1 ⟨_, Q1⟩ (by decide)
    have J2 : OwnB _ _ _ _ := row_setE (j := 3) (y := .int .i64 (nn + 1)) J1 ⟨_, Q1⟩ (by decide)
    go_upto_region 14 with fail
    obtain ⟨v2, hv2⟩ : ∃ v2, v2 = u1.setCell ⟨w.heap.size, 3, none⟩ (.int .i64 (nn + 1)) := ⟨_, rfl⟩
    rw [← hv2] at Q2 R2 C2 G2 I2 J2 ⊢
    clear hv2 qc qf C1 G1 R1 Q1 I1 J1
    clear k3 hwz
    obtain ⟨q0, q1, q2, q3, q4, q5⟩ := Q2.six
    obtain ⟨y0, y1, y2, y3, y4, y5⟩ := R2.six
    have fy := R2.fro
    have HH : Hid (OwnI v2 base (.slice a1 l1 c1) ws ∧ OwnB v2 base (.slice a2 l2 c2) bs ∧ Cur w0 a cap zs v2 g ∧ w.grownBy v2 (some g) ∧ Blk v2 (w.heap.size + 1) 36 #[.int .i64 0, .int .i64 0, .int .i64 0, .int .i64 0, .slice none 0 0, .slice none 0 0]) := ⟨I2, J2, C2, G2, R2⟩
    clear C2 G2 R2 Q2 I2 J2
    go_wp2
    refine bodyPost_ret (v := rp (kd) (fl) (pl) ((nn + 1)) a1 a2 l1 l2 c1 c2) (by simp [results, Tryz.results45, go_sem, y0, y1, y2, y3, y4, y5]) rfl ?_
    obtain ⟨OI, OB, CE, GE, RE⟩ := HH.out
    have hgR : g ≠ w.heap.size + 1 := by have := HX.out; omega
    have hwR : w0.heap.size ≤ w.heap.size + 1 := by have := HX.out; omega
    have hn1 : l1 ≤ l1 + 1 := by omega
    have hn2 : l2 ≤ l2 + 1 := by omega
    exact ⟨_, _, _, _, _, _, _, _, _, _, ws, bs, rfl, HL.out.1, HL.out.2, hn1, hn2, rowp_set6 OI ⟨_, RE⟩ (by decide), rowp_set6 OB ⟨_, RE⟩ (by decide), (((((CE.setHi hgR hwR).setHi hgR hwR).setHi hgR hwR).setHi hgR hwR).setHi hgR hwR).setHi hgR hwR, grown_setHi (grown_setHi (grown_setHi (grown_setHi (grown_setHi (grown_setHi GE (Nat.le_succ _)) (Nat.le_succ _)) (Nat.le_succ _)) (Nat.le_succ _)) (Nat.le_succ _)) (Nat.le_succ _)⟩
  · clear hx
    go_upto_region 11 with fail
    have N2 := newI u1 w.heap.size G1.size
    have b' := bel_alloc u1 (.cells #[] 3)
    have C2 := C1.alloc (.cells #[] 3)
    have G2 := grown_trans G1 (grown_below b' (some g))
    have R2 := R1.below b'
    have Q2 := Q1.below b'
    have I2 := OwnI.below I1 b'
    have J2 := OwnB.below J1 b'
    clear b' C1 G1 R1 Q1 I1 J1
    have q3 := Q2.cell 4 rfl
    have hsz : w.heap.size ≤ (u1.alloc (.cells #[] 3)).heap.size := G2.size
    go_wp2_with (at_builtin; refine wpList_appIO rfl (.tmp 35) (.tmp 37) rfl w.heap.size (.slice (some ⟨u1.heap.size, 0, none⟩) 0 0) [] rfl N2 a1 l1 c1 ws rfl HL.out.1 I2.sl.2 (by have := HL.out; have := HX.out; simp; omega) hsz ?_; intro v' t3 N3 gg; obtain ⟨n1, n2, n3, rfl, hn3⟩ := ownI_shape N3; have HN3 : Hid (n3 = ([] ++ ws).length) := hn3; clear hn3)
    have C3 := C2.rowG N2 gg HX.out.2.2.2.1
    have G3 := grown_rowG G2 N2 gg
    have R3 := R2.row N2 gg (by decide)
    have Q3 := Q2.row N2 gg (by decide)
    have J3 := OwnB.kept J2 gg (ne_types J2 N2 (by decide))
    clear gg q3 hsz C2 G2 R2 Q2 I2 J2 N2
    have IL := ints_lit t3 [0, 65536] 3
    have hne : t3.heap.size ≠ g := by have := C3.hi; omega
    have b' := bel_alloc t3 (.cells ([0, 65536].map (Value.int .i64)).toArray 3)
    have C4 := C3.alloc (.cells ([0, 65536].map (Value.int .i64)).toArray 3)
    have G4 := grown_trans G3 (grown_below b' (some g))
    have R4 := R3.below b'
    have Q4 := Q3.below b'
    have J4 := OwnB.below J3 b'
    have N4 := OwnI.below N3 b'
    clear b' C3 G3 R3 Q3 J3 N3
    go_wp2_with fail
    refine (l1Int_any w0 a cap zs _ g ⟨t3.heap.size, 0, none⟩ 2 2 [0, 65536] rfl (by omega) (by omega) IL hne C4).mono ?_
    rintro e t5 ⟨y, rfl, _, C5, gg⟩
    have G5 := grown_trans G4 gg
    have R5 := R4.grown gg (by have := HX.out; simp; omega)
    have Q5 := Q4.grown gg (by have := HX.out; simp; omega)
    have J5 := OwnB.kept J4 gg (row_ne_g J4 HX.out.1)
    have N5 := OwnI.kept N4 gg (row_ne_g N4 HX.out.2.2.2.1)
    clear gg C4 G4 R4 Q4 J4 N4
    clear IL hne
    have b' := bel_alloc t5 (.cells #[.int .i64 y] 3)
    have C6 := C5.alloc (.cells #[.int .i64 y] 3)
    have G6 := grown_trans G5 (grown_below b' (some g))
    have R6 := R5.below b'
    have Q6 := Q5.below b'
    have J6 := OwnB.below J5 b'
    have N6 := OwnI.below N5 b'
    clear b' C5 G5 R5 Q5 J5 N5
    have hsz : w.heap.size ≤ (t5.alloc (.cells #[.int .i64 y] 3)).heap.size := G6.size
    go_upto_region 14 with (at_builtin; refine wpList_appI rfl (.tmp 38) (.tmp 42) rfl w.heap.size (.slice n1 n3 n2) ([] ++ ws) rfl N6 ⟨t5.heap.size, 0, none⟩ 1 1 [y] rfl rfl (lit_slI1' _ _ rfl) (by have := HL.out; have := HX.out; simp; omega) hsz ?_; intro v' t7 I7 gg; obtain ⟨m1, m2, m3, rfl, hm3⟩ := ownI_shape I7; have HM3 : Hid (m3 = ([] ++ ws ++ [y]).length) := hm3; have Q' := Q6.row N6 gg (by decide); have qc := Q'.cell 4 rfl; have qf := Q'.fro 4; clear hm3 Q')
    have C7 := C6.rowG N6 gg HX.out.2.2.2.1
    have G7 := grown_rowG G6 N6 gg
    have R7 := R6.row N6 gg (by decide)
    have Q7 := Q6.row N6 gg (by decide)
    have J7 := OwnB.kept J6 gg (ne_types J6 N6 (by decide))
    clear gg hsz C6 G6 R6 Q6 J6 N6
    have I7 := OwnI.mono I7 HX.out.2.1
    have Q8 := Q7.set 4 (.slice m1 m3 m2)
    have R8 := R7.setNe (g' := w.heap.size) (j := 4) (y := .slice m1 m3 m2) (by omega)
    have C8 := C7.setHi (G := w.heap.size) (j := 4) (y := .slice m1 m3 m2) (by have := HX.out; omega) (by have := HX.out; omega)
    have G8 := grown_setHi (G := w.heap.size) (j := 4) (y := .slice m1 m3 m2) G7 (Nat.le_refl _)
    have I8 : OwnI _ _ _ _ := row_setE (j := 4) (y := .slice m1 m3 m2) I7 ⟨_, Q7⟩ (by decide)
    have J8 : OwnB _ _ _ _ := row_setE (j := 4) (y := .slice m1 m3 m2) J7 ⟨_, Q7⟩ (by decide)
    obtain ⟨v8, hv8⟩ : ∃ v8, v8 = t7.setCell ⟨w.heap.size, 4, none⟩ (.slice m1 m3 m2) := ⟨_, rfl⟩
    rw [← hv8] at Q8 R8 C8 G8 I8 J8 ⊢
    clear hv8 qc qf C7 G7 R7 Q7 I7 J7
    obtain ⟨q0, q1, q2, q3, q4, q5⟩ := Q8.six
    obtain ⟨y0, y1, y2, y3, y4, y5⟩ := R8.six
    have fy := R8.fro
    have HH : Hid (OwnI v8 base (.slice m1 m3 m2) ([] ++ ws ++ [y]) ∧ OwnB v8 base (.slice a2 l2 c2) bs ∧ Cur w0 a cap zs v8 g ∧ w.grownBy v8 (some g) ∧ Blk v8 (w.heap.size + 1) 36 #[.int .i64 0, .int .i64 0, .int .i64 0, .int .i64 0, .slice none 0 0, .slice none 0 0]) := ⟨I8, J8, C8, G8, R8⟩
    clear C8 G8 R8 Q8 I8 J8
    go_wp2
    refine bodyPost_ret (v := rp (kd) (fl) (pl) (nn) m1 a2 m3 l2 m2 c2) (by simp [results, Tryz.results45, go_sem, y0, y1, y2, y3, y4, y5]) rfl ?_
    obtain ⟨OI, OB, CE, GE, RE⟩ := HH.out
    have hgR : g ≠ w.heap.size + 1 := by have := HX.out; omega
    have hwR : w0.heap.size ≤ w.heap.size + 1 := by have := HX.out; omega
    have hn1 : m3 ≤ l1 + 1 := by have h := HM3.out; have := HL.out; simp at h; omega
    have hn2 : l2 ≤ l2 + 1 := by omega
    exact ⟨_, _, _, _, _, _, _, _, _, _, ([] ++ ws ++ [y]), bs, rfl, HM3.out, HL.out.2, hn1, hn2, rowp_set6 OI ⟨_, RE⟩ (by decide), rowp_set6 OB ⟨_, RE⟩ (by decide), (((((CE.setHi hgR hwR).setHi hgR hwR).setHi hgR hwR).setHi hgR hwR).setHi hgR hwR).setHi hgR hwR, grown_setHi (grown_setHi (grown_setHi (grown_setHi (grown_setHi (grown_setHi GE (Nat.le_succ _)) (Nat.le_succ _)) (Nat.le_succ _)) (Nat.le_succ _)) (Nat.le_succ _)) (Nat.le_succ _)⟩
  · clear hx
    go_upto_region 13 with fail
    have N2 := newB u1 w.heap.size G1.size
    have b' := bel_alloc u1 (.cells #[] 4)
    have C2 := C1.alloc (.cells #[] 4)
    have G2 := grown_trans G1 (grown_below b' (some g))
    have R2 := R1.below b'
    have Q2 := Q1.below b'
    have I2 := OwnI.below I1 b'
    have J2 := OwnB.below J1 b'
    clear b' C1 G1 R1 Q1 I1 J1
    have q4 := Q2.cell 5 rfl
    have hsz : w.heap.size ≤ (u1.alloc (.cells #[] 4)).heap.size := G2.size
    go_upto_region 14 with (first | (at_builtin; refine wpList_appBO rfl (.tmp 47) (.tmp 49) rfl w.heap.size (.slice (some ⟨u1.heap.size, 0, none⟩) 0 0) [] rfl N2 a2 l2 c2 bs rfl HL.out.2 J2.sl.2 (by have := HL.out; have := HX.out; simp; omega) hsz ?_; intro v' t3 N3 gg; obtain ⟨n1, n2, n3, rfl, hn3⟩ := ownB_shape N3; have HN3 : Hid (n3 = ([] ++ bs).length) := hn3; have G3 := grown_rowG G2 N2 gg; have hsz2 := Nat.le_trans G3.size (bel_alloc t3 (.cells #[.bool true] 4)).size; clear hn3) | (at_builtin; refine wpList_appBO rfl (.tmp 50) (.tmp 51) rfl w.heap.size (.slice n1 n3 n2) ([] ++ bs) rfl (OwnB.below N3 (bel_alloc _ _)) (some ⟨t3.heap.size, 0, none⟩) 1 1 [true] rfl rfl (lit_slB1 _ _ rfl) (by have := HL.out; have := HX.out; simp; omega) hsz2 ?_; intro v' t4 J4 gg2; obtain ⟨m1, m2, m3, rfl, hm3⟩ := ownB_shape J4; have HM3 : Hid (m3 = ([] ++ bs ++ [true]).length) := hm3; have Q' := ((Q2.row N2 gg (by decide)).below (bel_alloc t3 (.cells #[.bool true] 4))).row (OwnB.below N3 (bel_alloc _ _)) gg2 (by decide); have qc := Q'.cell 5 rfl; have qf := Q'.fro 5; clear hm3 Q'))
    have b' := bel_alloc t3 (.cells #[.bool true] 4)
    have N' := OwnB.below N3 b'
    have C4 := ((C2.rowG N2 gg HX.out.2.2.2.1).alloc (.cells #[.bool true] 4)).rowG N' gg2 HX.out.2.2.2.1
    have G4 := grown_rowG (grown_trans G3 (grown_below b' (some g))) N' gg2
    have R4 := ((R2.row N2 gg (by decide)).below b').row N' gg2 (by decide)
    have Q4 := ((Q2.row N2 gg (by decide)).below b').row N' gg2 (by decide)
    have I4' := OwnI.below (OwnI.kept I2 gg (ne_types I2 N2 (by decide))) b'
    have I4 := OwnI.kept I4' gg2 (ne_types I4' N' (by decide))
    clear gg gg2 q4 hsz hsz2 b' N' I4' N3 G3 C2 G2 R2 Q2 I2 J2 N2
    have J4 := OwnB.mono J4 HX.out.2.1
    have Q5 := Q4.set 5 (.slice m1 m3 m2)
    have R5 := R4.setNe (g' := w.heap.size) (j := 5) (y := .slice m1 m3 m2) (by omega)
    have C5 := C4.setHi (G := w.heap.size) (j := 5) (y := .slice m1 m3 m2) (by have := HX.out; omega) (by have := HX.out; omega)
    have G5 := grown_setHi (G := w.heap.size) (j := 5) (y := .slice m1 m3 m2) G4 (Nat.le_refl _)
    have I5 : OwnI _ _ _ _ := row_setE (j := 5) (y := .slice m1 m3 m2) I4 ⟨_, Q4⟩ (by decide)
    have J5 : OwnB _ _ _ _ := row_setE (j := 5) (y := .slice m1 m3 m2) J4 ⟨_, Q4⟩ (by decide)
    obtain ⟨v5, hv5⟩ : ∃ v5, v5 = t4.setCell ⟨w.heap.size, 5, none⟩ (.slice m1 m3 m2) := ⟨_, rfl⟩
    rw [← hv5] at Q5 R5 C5 G5 I5 J5 ⊢
    clear hv5 qc qf C4 G4 R4 Q4 I4 J4
    obtain ⟨q0, q1, q2, q3, q4, q5⟩ := Q5.six
    obtain ⟨y0, y1, y2, y3, y4, y5⟩ := R5.six
    have fy := R5.fro
    have HH : Hid (OwnI v5 base (.slice a1 l1 c1) ws ∧ OwnB v5 base (.slice m1 m3 m2) ([] ++ bs ++ [true]) ∧ Cur w0 a cap zs v5 g ∧ w.grownBy v5 (some g) ∧ Blk v5 (w.heap.size + 1) 36 #[.int .i64 0, .int .i64 0, .int .i64 0, .int .i64 0, .slice none 0 0, .slice none 0 0]) := ⟨I5, J5, C5, G5, R5⟩
    clear C5 G5 R5 Q5 I5 J5
    go_wp2
    refine bodyPost_ret (v := rp (kd) (fl) (pl) (nn) a1 m1 l1 m3 c1 m2) (by simp [results, Tryz.results45, go_sem, y0, y1, y2, y3, y4, y5]) rfl ?_
    obtain ⟨OI, OB, CE, GE, RE⟩ := HH.out
    have hgR : g ≠ w.heap.size + 1 := by have := HX.out; omega
    have hwR : w0.heap.size ≤ w.heap.size + 1 := by have := HX.out; omega
    have hn1 : l1 ≤ l1 + 1 := by omega
    have hn2 : m3 ≤ l2 + 1 := by have h := HM3.out; have := HL.out; simp at h; omega
    exact ⟨_, _, _, _, _, _, _, _, _, _, ws, ([] ++ bs ++ [true]), rfl, HL.out.1, HM3.out, hn1, hn2, rowp_set6 OI ⟨_, RE⟩ (by decide), rowp_set6 OB ⟨_, RE⟩ (by decide), (((((CE.setHi hgR hwR).setHi hgR hwR).setHi hgR hwR).setHi hgR hwR).setHi hgR hwR).setHi hgR hwR, grown_setHi (grown_setHi (grown_setHi (grown_setHi (grown_setHi (grown_setHi GE (Nat.le_succ _)) (Nat.le_succ _)) (Nat.le_succ _)) (Nat.le_succ _)) (Nat.le_succ _)) (Nat.le_succ _)⟩
  · clear hx
    obtain ⟨q0, q1, q2, q3, q4, q5⟩ := Q1.six
    obtain ⟨y0, y1, y2, y3, y4, y5⟩ := R1.six
    have fy := R1.fro
    have HH : Hid (OwnI u1 base (.slice a1 l1 c1) ws ∧ OwnB u1 base (.slice a2 l2 c2) bs ∧ Cur w0 a cap zs u1 g ∧ w.grownBy u1 (some g) ∧ Blk u1 (w.heap.size + 1) 36 #[.int .i64 0, .int .i64 0, .int .i64 0, .int .i64 0, .slice none 0 0, .slice none 0 0]) := ⟨I1, J1, C1, G1, R1⟩
    clear C1 G1 R1 Q1 I1 J1
    go_wp2
    refine bodyPost_ret (v := rp (kd) (fl) (pl) (nn) a1 a2 l1 l2 c1 c2) (by simp [results, Tryz.results45, go_sem, y0, y1, y2, y3, y4, y5]) rfl ?_
    obtain ⟨OI, OB, CE, GE, RE⟩ := HH.out
    have hgR : g ≠ w.heap.size + 1 := by have := HX.out; omega
    have hwR : w0.heap.size ≤ w.heap.size + 1 := by have := HX.out; omega
    have hn1 : l1 ≤ l1 + 1 := by omega
    have hn2 : l2 ≤ l2 + 1 := by omega
    exact ⟨_, _, _, _, _, _, _, _, _, _, ws, bs, rfl, HL.out.1, HL.out.2, hn1, hn2, rowp_set6 OI ⟨_, RE⟩ (by decide), rowp_set6 OB ⟨_, RE⟩ (by decide), (((((CE.setHi hgR hwR).setHi hgR hwR).setHi hgR hwR).setHi hgR hwR).setHi hgR hwR).setHi hgR hwR, grown_setHi (grown_setHi (grown_setHi (grown_setHi (grown_setHi (grown_setHi GE (Nat.le_succ _)) (Nat.le_succ _)) (Nat.le_succ _)) (Nat.le_succ _)) (Nat.le_succ _)) (Nat.le_succ _)⟩
end Go.Proofs.YtohikbpolofklaaGreatDoor
namespace Go.Proofs.YtohikbpolofklaaGreatDoor
open Go.RowKit
set_option linter.unusedVariables false
set_option linter.unusedSimpArgs false
theorem Blk.setNe6 {u : World} {g B : Nat} {t : TypeId} {cs : Array Value} {v0 v1 v2 v3 v4 v5 : Value} (h : Blk u g t cs) (hne : g ≠ B) : Blk ((((((u.setCell ⟨B, 0, none⟩ v0).setCell ⟨B, 1, none⟩ v1).setCell ⟨B, 2, none⟩ v2).setCell ⟨B, 3, none⟩ v3).setCell ⟨B, 4, none⟩ v4).setCell ⟨B, 5, none⟩ v5) g t cs :=
  (((((h.setNe hne).setNe hne).setNe hne).setNe hne).setNe hne).setNe hne
set_option maxRecDepth 20000 in
set_option maxHeartbeats 4000000 in
theorem l4DrawAny_any (w0 : World) (a : Option Addr) (cap : Nat) (zs : List Int) (w : World) (g : Nat) (hC : Cur w0 a cap zs w g) :
    Calls Tryz.prog 25 #[.pointer (some ⟨g, 0, none⟩)] w fun e w' => RespAt w0 a cap zs w.heap.size 1000 3000 w g e w' := by
  obtain ⟨W0, hW0⟩ : ∃ W0, W0 = w.alloc (.cells #[.int .i64 0, .int .i64 0, .int .i64 0, .int .i64 0, .slice none 0 0, .slice none 0 0] 36) := ⟨_, rfl⟩
  have HW : Hid (W0 = _) := hW0
  have C0 : Cur w0 a cap zs W0 g := by rw [hW0]; exact hC.alloc _
  have G0 : w.grownBy W0 (some g) := by rw [hW0]; exact World.grownBy_alloc _ _ _
  have R0 : Blk W0 w.heap.size 36 #[.int .i64 0, .int .i64 0, .int .i64 0, .int .i64 0, .slice none 0 0, .slice none 0 0] := by rw [hW0]; exact Blk.new _ _ _
  have HX : Hid (g < w.heap.size ∧ w0.heap.size ≤ g) := ⟨hC.hi, hC.lo⟩
  clear hC hW0
  go_enter Tryz.func25, Tryz.ntmps25
  go_wp2_with fail
  rw [← HW.out]
  refine (l3DrawN_any w0 a cap zs W0 g C0).mono ?_
  rintro e z1 ⟨kd, pl, nn, wa, a1, a2, l1, l2, c1, c2, ws, bs, rfl, e1, e2, m1, m2, _, oi, oj, C1, gg, hpn⟩
  have G1 := grown_trans G0 gg
  have R1 := R0.grown gg (by have := HX.out; simp; omega)
  have I1 := OwnI.mono oi G0.size
  have J1 := OwnB.mono oj G0.size
  have HE : Hid (l1 = ws.length ∧ l2 = bs.length ∧ l1 ≤ 6 ∧ l2 ≤ 20 ∧ 0 ≤ pl ∧ pl ≤ 100 ∧ 0 ≤ nn ∧ nn ≤ 100) := ⟨e1, e2, m1, m2, hpn⟩
  clear gg oi oj e1 e2 m1 m2 hpn C0 G0 R0
  go_wp2_with fail
  refine (l4Draw_any w0 a cap zs z1 g kd pl nn wa a1 a2 l1 l2 c1 c2 ws bs HE.out.1 HE.out.2.1 (by have := HE.out; omega) (by have := HE.out; omega) (by have := HE.out; omega) (by have := HE.out; omega) w.heap.size HX.out.1 I1 J1 C1).mono ?_
  rintro e z2 ⟨kd2, fl2, pl2, nn2, a12, a22, l12, l22, c12, c22, ws2, bs2, rfl, e1, e2, m1, m2, oi, oj, C2, gg, hpn⟩
  have G2 := grown_trans G1 gg
  have R2 := R1.grown gg (by have := HX.out; simp; omega)
  have I2 := OwnI.mono oi G1.size
  have J2 := OwnB.mono oj G1.size
  have HE2 : Hid (l12 = ws2.length ∧ l22 = bs2.length ∧ l12 ≤ 900 ∧ l22 ≤ 2900 ∧ 0 ≤ pl2 ∧ pl2 ≤ 65535 ∧ 0 ≤ nn2 ∧ nn2 ≤ 2900) := ⟨e1, e2, m1, m2, hpn⟩
  clear gg oi oj e1 e2 m1 m2 hpn C1 G1 R1 I1 J1 HE
  obtain ⟨z3, hz3⟩ : ∃ z3, z3 = z2.alloc (.cells #[.int .i64 kd2, .int .i64 fl2, .int .i64 pl2, .int .i64 nn2, .slice a12 l12 c12, .slice a22 l22 c22] 36) := ⟨_, rfl⟩
  have HU : Hid (z3 = _) := hz3
  obtain ⟨B, hB⟩ : ∃ B, B = z2.heap.size := ⟨_, rfl⟩
  have HBe : Hid (B = z2.heap.size) := hB
  have HB : Hid (w.heap.size < B) := by show w.heap.size < B; have := R2.lt; omega
  have bz : Below z2.heap.size z2 z3 := by rw [hz3]; exact bel_alloc _ _
  have C3 : Cur w0 a cap zs z3 g := by rw [hz3]; exact C2.alloc _
  have Q3 : Blk z3 B 36 #[.int .i64 kd2, .int .i64 fl2, .int .i64 pl2, .int .i64 nn2, .slice a12 l12 c12, .slice a22 l22 c22] := by rw [hz3, hB]; exact Blk.new _ _ _
  have R3 := R2.below bz
  have I3 := OwnI.below I2 bz
  have J3 := OwnB.below J2 bz
  have G3 := grown_trans G2 (grown_below bz (some g))
  clear hz3 hB bz C2 R2 I2 J2 G2
  go_wp2_with fail
  rw [← HU.out]
  simp only [← HBe.out]
  refine (l1Once_any w0 a cap zs _ g _ (by decide) C3).mono ?_
  rintro e z4 ⟨t, rfl, C4, gg⟩
  have G4 := grown_trans G3 gg
  have R4 := R3.grown gg (by have := HX.out; simp; omega)
  have Q4 := Q3.grown gg (by have := HX.out; have := HB.out; simp; omega)
  have I4 := OwnI.kept I3 gg (row_ne_g I3 HX.out.1)
  have J4 := OwnB.kept J3 gg (row_ne_g J3 HX.out.1)
  clear gg C3 G3 R3 Q3 I3 J3
  obtain ⟨q0, q1, q2, q3, q4, q5⟩ := Q4.six
  cases t
  · obtain ⟨y0, y1, y2, y3, y4, y5⟩ := R4.six
    have fy := R4.fro
    have HH := hide (show OwnI z4 w.heap.size (.slice a12 l12 c12) ws2 ∧ OwnB z4 w.heap.size (.slice a22 l22 c22) bs2 ∧ Cur w0 a cap zs z4 g ∧ w.grownBy z4 (some g) ∧ Blk z4 w.heap.size 36 #[.int .i64 0, .int .i64 0, .int .i64 0, .int .i64 0, .slice none 0 0, .slice none 0 0] from ⟨I4, J4, C4, G4, R4⟩)
    clear I4 J4 C4 G4 R4 Q4
    go_wp2
    refine bodyPost_ret (v := rp kd2 fl2 pl2 nn2 a12 a22 l12 l22 c12 c22) (by simp [results, Tryz.results25, go_sem, y0, y1, y2, y3, y4, y5]) rfl ?_
    obtain ⟨OI, OB, CE, GE, RE⟩ := HH.out
    exact ⟨_, _, _, _, _, _, _, _, _, _, ws2, bs2, rfl, HE2.out.1, HE2.out.2.1, by have := HE2.out; omega, by have := HE2.out; omega, rowp_set6 OI ⟨_, RE⟩ (by decide), rowp_set6 OB ⟨_, RE⟩ (by decide), st6_cur CE (by have := HX.out; omega) (by have := HX.out; omega), st6_grown GE (Nat.le_refl _)⟩
  · go_wp2_with fail
    refine (l4Bend_any w0 a cap zs z4 g kd2 fl2 pl2 nn2 a12 a22 l12 l22 c12 c22 ws2 bs2 w.heap.size HE2.out.1 HE2.out.2.1 (by have := HE2.out; omega) (by have := HE2.out; omega) HE2.out.2.2.2.2 HX.out.1 G4.size I4 J4 C4).mono ?_
    rintro e z5 ⟨kd5, fl5, pl5, nn5, a15, a25, l15, l25, c15, c25, ws5, bs5, rfl, e1, e2, m1, m2, I5, J5, C5, gg⟩
    have G5 := grown_trans G4 gg
    have R5 := R4.grown gg (by have := HX.out; simp; omega)
    have Q5 := Q4.grown gg (by have := HX.out; have := HB.out; simp; omega)
    have HE5 : Hid (l15 = ws5.length ∧ l25 = bs5.length ∧ l15 ≤ 1000 ∧ l25 ≤ 3000) := ⟨e1, e2, by have := HE2.out; omega, by have := HE2.out; omega⟩
    clear gg C4 G4 R4 Q4 I4 J4 e1 e2 m1 m2 q0 q1 q2 q3 q4 q5
    obtain ⟨q0, q1, q2, q3, q4, q5⟩ := Q5.six
    have fq := Q5.fro
    go_upto_region 4 with fail
    have Q6 : Blk ((((((z5.setCell ⟨B, 0, none⟩ (.int .i64 kd5)).setCell ⟨B, 1, none⟩ (.int .i64 fl5)).setCell ⟨B, 2, none⟩ (.int .i64 pl5)).setCell ⟨B, 3, none⟩ (.int .i64 nn5)).setCell ⟨B, 4, none⟩ (.slice a15 l15 c15)).setCell ⟨B, 5, none⟩ (.slice a25 l25 c25)) B 36 #[.int .i64 kd5, .int .i64 fl5, .int .i64 pl5, .int .i64 nn5, .slice a15 l15 c15, .slice a25 l25 c25] := Blk.set6 Q5
    have R6 : Blk ((((((z5.setCell ⟨B, 0, none⟩ (.int .i64 kd5)).setCell ⟨B, 1, none⟩ (.int .i64 fl5)).setCell ⟨B, 2, none⟩ (.int .i64 pl5)).setCell ⟨B, 3, none⟩ (.int .i64 nn5)).setCell ⟨B, 4, none⟩ (.slice a15 l15 c15)).setCell ⟨B, 5, none⟩ (.slice a25 l25 c25)) w.heap.size 36 #[.int .i64 0, .int .i64 0, .int .i64 0, .int .i64 0, .slice none 0 0, .slice none 0 0] := R5.setNe6 (by have := HB.out; omega)
    have I6 : OwnI ((((((z5.setCell ⟨B, 0, none⟩ (.int .i64 kd5)).setCell ⟨B, 1, none⟩ (.int .i64 fl5)).setCell ⟨B, 2, none⟩ (.int .i64 pl5)).setCell ⟨B, 3, none⟩ (.int .i64 nn5)).setCell ⟨B, 4, none⟩ (.slice a15 l15 c15)).setCell ⟨B, 5, none⟩ (.slice a25 l25 c25)) w.heap.size (.slice a15 l15 c15) ws5 := rowp_set6 I5 ⟨_, Q5⟩ (by decide)
    have J6 : OwnB ((((((z5.setCell ⟨B, 0, none⟩ (.int .i64 kd5)).setCell ⟨B, 1, none⟩ (.int .i64 fl5)).setCell ⟨B, 2, none⟩ (.int .i64 pl5)).setCell ⟨B, 3, none⟩ (.int .i64 nn5)).setCell ⟨B, 4, none⟩ (.slice a15 l15 c15)).setCell ⟨B, 5, none⟩ (.slice a25 l25 c25)) w.heap.size (.slice a25 l25 c25) bs5 := rowp_set6 J5 ⟨_, Q5⟩ (by decide)
    have C6 : Cur w0 a cap zs ((((((z5.setCell ⟨B, 0, none⟩ (.int .i64 kd5)).setCell ⟨B, 1, none⟩ (.int .i64 fl5)).setCell ⟨B, 2, none⟩ (.int .i64 pl5)).setCell ⟨B, 3, none⟩ (.int .i64 nn5)).setCell ⟨B, 4, none⟩ (.slice a15 l15 c15)).setCell ⟨B, 5, none⟩ (.slice a25 l25 c25)) g := st6_cur C5 (by have := HX.out; have := HB.out; omega) (by have := HX.out; have := HB.out; omega)
    have G6 : w.grownBy ((((((z5.setCell ⟨B, 0, none⟩ (.int .i64 kd5)).setCell ⟨B, 1, none⟩ (.int .i64 fl5)).setCell ⟨B, 2, none⟩ (.int .i64 pl5)).setCell ⟨B, 3, none⟩ (.int .i64 nn5)).setCell ⟨B, 4, none⟩ (.slice a15 l15 c15)).setCell ⟨B, 5, none⟩ (.slice a25 l25 c25)) (some g) := st6_grown G5 (by have := HB.out; omega)
    generalize ((((((z5.setCell ⟨B, 0, none⟩ (.int .i64 kd5)).setCell ⟨B, 1, none⟩ (.int .i64 fl5)).setCell ⟨B, 2, none⟩ (.int .i64 pl5)).setCell ⟨B, 3, none⟩ (.int .i64 nn5)).setCell ⟨B, 4, none⟩ (.slice a15 l15 c15)).setCell ⟨B, 5, none⟩ (.slice a25 l25 c25)) = z6 at *
    clear q0 q1 q2 q3 q4 q5 fq Q5 R5 I5 J5 C5 G5
    obtain ⟨q0, q1, q2, q3, q4, q5⟩ := Q6.six
    obtain ⟨y0, y1, y2, y3, y4, y5⟩ := R6.six
    have fy := R6.fro
    have HH := hide (show OwnI z6 w.heap.size (.slice a15 l15 c15) ws5 ∧ OwnB z6 w.heap.size (.slice a25 l25 c25) bs5 ∧ Cur w0 a cap zs z6 g ∧ w.grownBy z6 (some g) ∧ Blk z6 w.heap.size 36 #[.int .i64 0, .int .i64 0, .int .i64 0, .int .i64 0, .slice none 0 0, .slice none 0 0] from ⟨I6, J6, C6, G6, R6⟩)
    clear I6 J6 C6 G6 R6 Q6
    go_wp2
    refine bodyPost_ret (v := rp kd5 fl5 pl5 nn5 a15 a25 l15 l25 c15 c25) (by simp [results, Tryz.results25, go_sem, y0, y1, y2, y3, y4, y5]) rfl ?_
    obtain ⟨OI, OB, CE, GE, RE⟩ := HH.out
    exact ⟨_, _, _, _, _, _, _, _, _, _, ws5, bs5, rfl, HE5.out.1, HE5.out.2.1, HE5.out.2.2.1, HE5.out.2.2.2, rowp_set6 OI ⟨_, RE⟩ (by decide), rowp_set6 OB ⟨_, RE⟩ (by decide), st6_cur CE (by have := HX.out; omega) (by have := HX.out; omega), st6_grown GE (Nat.le_refl _)⟩
def NewResp (w : World) (e : Ending) (w' : World) : Prop :=
  ∃ (kd fl pl nn : Int) (a1 a2 : Option Addr) (l1 l2 c1 c2 : Nat) (ws : List Int) (bs : List Bool), e = .returned (rp kd fl pl nn a1 a2 l1 l2 c1 c2) ∧ l1 = ws.length ∧ l2 = bs.length ∧ l1 ≤ 1000 ∧ l2 ≤ 3000 ∧ OwnI w' w.heap.size (.slice a1 l1 c1) ws ∧ OwnB w' w.heap.size (.slice a2 l2 c2) bs ∧ Below w.heap.size w w'
end Go.Proofs.YtohikbpolofklaaGreatDoor
namespace Go.Proofs.YtohikbpolofklaaGreatDoor
open Go.RowKit
theorem one_cellY {w1 : World} {x : Int} : ∀ j u, ([Value.int .u8 x])[j]? = some u → (w1.alloc (.cells #[.int .u8 x] 5)).cell? ((⟨w1.heap.size, 0, none⟩ : Addr).add j) = some u := by
  intro j u hu
  match j, hu with
  | 0, hu => simp at hu; subst hu; simp [Addr.add]
  | k + 1, hu => simp at hu
theorem one_oneY (x : Int) : ∀ u ∈ [Value.int .u8 x], u.oneCell' = true := by
  intro u hu; simp at hu; subst hu; rfl
def DrawnY (w0 : World) (a : Option Addr) (cap : Nat) (zs : List Int) (w : World) (g : Nat) (P : Nat → Prop) (e : Ending) (w' : World) : Prop :=
  ∃ (ad : Addr) (n c : Nat) (bs : List Int), e = .returned (.slice (some ad) n c) ∧ n = bs.length ∧ P n ∧ Own w' w.heap.size (.slice (some ad) n c) bs ∧ (∀ z ∈ bs, 0 ≤ z ∧ z ≤ 255) ∧ Cur w0 a cap zs w' g ∧ w.grownBy w' (some g)
theorem own_someY {w : World} {base : Nat} {v : Value} {bs : List Int} (h : Own w base v bs) (h0 : 0 < bs.length) : ∃ ad c, v = .slice (some ad) bs.length c := by
  obtain ⟨_, h2⟩ := h
  rcases h2 with ⟨h2, h3⟩ | ⟨g, cap', cur, hv, _⟩
  · omega
  · exact ⟨_, _, hv⟩
theorem range_snocY {bs : List Int} {x : Int} (hr : ∀ z ∈ bs, 0 ≤ z ∧ z ≤ 255) (hx : 0 ≤ x ∧ x ≤ 255) : ∀ z ∈ bs ++ [x], 0 ≤ z ∧ z ≤ 255 := by
  intro z hz
  rcases List.mem_append.1 hz with h | h
  · exact hr z h
  · simp at h
    subst h
    exact hx
theorem bytes_stepY {w0 w wr w1 w2 : World} {a : Option Addr} {cap g : Nat} {zs bs : List Int} {v v' : Value} {o1 : Obj} {x : Int} (hg : g < w.heap.size) (gr : w.grownBy wr (some g)) (ho : Own wr w.heap.size v bs) (C1 : Cur w0 a cap zs w1 g) (g1 : wr.grownBy w1 (some g))
    (h2 : w2.ownsRow w.heap.size 5 1 v' (bs.length + 1) (bs.map (Value.int .u8) ++ [Value.int .u8 x])) (g2 : (w1.alloc o1).grownBy w2 v.ownBlock) (hlo : w0.heap.size ≤ g) :
    Own w2 w.heap.size v' (bs ++ [x]) ∧ Cur w0 a cap zs w2 g ∧ w.grownBy w2 (some g) := by
  have hv : ∀ k, v.ownBlock = some k → w.heap.size ≤ k := fun k hk => (World.ownsRow.lt ho k hk).1
  refine ⟨by simpa [Own] using h2, (C1.alloc o1).grown g2 (fun e => by have := hv g e.symm; omega) (fun k hk => by have := hv k hk; omega), ?_⟩
  have gg := grown_trans gr g1
  refine ⟨g2.os.trans gg.os, g2.tape.trans gg.tape, g2.output.trans gg.output, ?_, fun k hk hne => ?_⟩
  · have h := g2.size
    have h' := gg.size
    simp at h
    omega
  · rw [g2.block k (by have := gg.size; simp; omega) (fun e => by have := hv k e.symm; omega)]
    rw [Below.heap_alloc w1 o1 k (by have := gg.size; omega)]
    exact gg.block k hk hne
set_option maxHeartbeats 2000000 in
theorem l1BytesY_any (w0 : World) (a : Option Addr) (cap : Nat) (zs : List Int) (w : World) (g : Nat) (n : Nat) (hn : n ≤ 1000000) (hC : Cur w0 a cap zs w g) :
    Calls Tryz.prog 36 #[.pointer (some ⟨g, 0, none⟩), .int .i64 n] w fun e w' => DrawnY w0 a cap zs w g (fun m => m = n) e w' := by
  obtain ⟨i0, hi, hz0, hz1, hz2⟩ := info_parts Tryz.info5
  have hml : n + 2 ≤ maxLen := by unfold maxLen; omega
  have o0 := World.ownsRow_lit (base := w.heap.size) (e := 5) (size := 1) w #[] 0 (Nat.le_refl _) (by omega) rfl
  have hg := hC.hi
  have hlo := hC.lo
  have C0 := hC.alloc (.cells #[] 5)
  have G0 : w.grownBy (w.alloc (.cells #[] 5)) (some g) := World.grownBy_alloc _ _ _
  clear hC
  go_enter Tryz.func36, Tryz.ntmps36
  go_wp2
  go_loopw [5, 6] (fun v i wr => ∃ (k : Nat) (ad : Addr) (c : Nat) (bs : List Int), k ≤ n ∧ i = .int .i64 k ∧ v = .slice (some ad) k c ∧ bs.length = k ∧ Own wr w.heap.size v bs ∧ (∀ z ∈ bs, 0 ≤ z ∧ z ≤ 255) ∧ Cur w0 a cap zs wr g ∧ w.grownBy wr (some g)) (fun _ i _ => n - (intOf i).toNat)
  case atStart => exact ⟨0, _, _, [], Nat.zero_le _, rfl, rfl, rfl, o0, (fun z hz => by cases hz), C0, G0⟩
  case round =>
    obtain ⟨k, ad, c, bs, hk, rfl, rfl, hb, ho, hr, C, G⟩ := hrel
    by_cases hlt : k < n
    · have hi' : (k : Int) < (n : Int) := by omega
      have HB : Hid (bs.length = k) := hb
      clear o0 C0 G0 hb
      go_wp2_with fail
      refine (l1Byte_any w0 a cap zs _ g C).mono ?_
      rintro e w1 ⟨x, rfl, hx, C1, g1⟩
      have ho1 : w1.ownsRow w.heap.size 5 1 (.slice (some ad) k c) bs.length (bs.map (Value.int .u8)) := ho.kept g1 (.inr (fun e => by have := (World.ownsRow.lt ho g e).1; omega))
      have hm1 : bs.length + 1 ≤ maxLen := by rw [HB.out]; omega
      have hm2 : (bs.length + 1) * 1 ≤ 140737488355328 := by rw [HB.out]; omega
      have hsz : w.heap.size ≤ w1.heap.size := Nat.le_trans G.size g1.size
      go_wp2_with (at_builtin; refine wpList_append_own _ rfl (.tmp 13) (.tmp 17) 22 rfl w.heap.size 5 i0 (.int .u8 0) 1 1 Tryz.underlying22 hi hz0 hz1 hz2 rfl (by decide) (.slice (some ad) k c) bs.length (bs.map (Value.int .u8)) rfl (ho1.alloc _) ⟨w1.heap.size, 0, none⟩ 1 1 [.int .u8 x] rfl (by simp) one_cellY (one_oneY _) hm1 hm2 (by simp; omega) ?_; intro v' w2 o2 g2 _; have R := bytes_stepY hg G ho C1 g1 o2 g2 hlo; clear ho ho1 o2 g2)
      obtain ⟨R1, R2, R3⟩ := R
      obtain ⟨ad', c', hv⟩ := own_someY R1 (by simp)
      have hv' : Hid (v' = .slice (some ad') (k + 1) c') := by
        show v' = _
        rw [hv, List.length_append, HB.out]; rfl
      clear hv
      go_roundw
      case rel => exact ⟨k + 1, ad', c', bs ++ [x], by omega, by go_num, hv'.out, by rw [List.length_append, HB.out]; rfl, R1, range_snocY hr hx, R2, R3⟩
      case measure => simp [intOf]; omega
    · obtain rfl : k = n := by omega
      clear o0 C0 G0
      go_wp2
      go_ret
      exact ⟨ad, k, c, bs, rfl, hb.symm, rfl, ho, hr, C, G⟩
end Go.Proofs.YtohikbpolofklaaGreatDoor
namespace Go.Proofs.YtohikbpolofklaaGreatDoor
open Go.RowKit
set_option linter.unusedVariables false
set_option linter.unusedSimpArgs false
def Back (k pl nn wa : Int) (ws : List Int) (bs : List Bool) : Prop :=
  (putL k pl nn wa ws bs).getD 0 0 = k ∧ wAt (putL k pl nn wa ws bs) 1 = pl ∧ gN k (putL k pl nn wa ws bs) = nn ∧ gA k (putL k pl nn wa ws bs) = wa ∧ gW k (putL k pl nn wa ws bs) = ws ∧ gB k (putL k pl nn wa ws bs) = bs
def lenG (k : Int) (zs : List Int) : Int :=
  if k = 22 then 7 else if k = 15 then 6 + (wAt zs 3 + 7) / 8 else if k = 16 then 6 + 2 * wAt zs 3 else if k = 23 then 10 + 2 * wAt zs 7 else 5
end Go.Proofs.YtohikbpolofklaaGreatDoor
namespace Go.Proofs.YtohikbpolofklaaGreatDoor
open Go.RowKit
set_option linter.unusedVariables false
set_option linter.unusedSimpArgs false
theorem putL_rg (kd pl nn wa : Int) (ws : List Int) (bs : List Bool) (hb : okR kd pl nn wa ws ws.length bs.length = true) : ∀ z ∈ putL kd pl nn wa ws bs, 0 ≤ z ∧ z ≤ 255 := by
  have hk := okR_kind hb
  intro z hz
  unfold putL at hz
  have hw := wbs_rg
  have hp := packL_rg bs
  split at hz
  · rcases List.mem_cons.mp hz with h | h
    · omega
    · exact hw _ z h
  · split at hz
    · rcases List.mem_cons.mp hz with h | h
      · omega
      · exact hw _ z h
    · split at hz
      · rcases List.mem_append.mp hz with h | h
        · rcases List.mem_append.mp h with h | h
          · rcases List.mem_cons.mp h with h | h
            · omega
            · exact hw _ z h
          · simp at h; omega
        · exact hp z h
      · split at hz
        · rcases List.mem_append.mp hz with h | h
          · rcases List.mem_append.mp h with h | h
            · rcases List.mem_cons.mp h with h | h
              · omega
              · exact hw _ z h
            · simp at h; omega
          · exact hw _ z h
        · split at hz
          · rcases List.mem_append.mp hz with h | h
            · rcases List.mem_append.mp h with h | h
              · rcases List.mem_cons.mp h with h | h
                · omega
                · exact hw _ z h
              · simp at h; omega
            · exact hw _ z h
          · rcases List.mem_cons.mp hz with h | h
            · omega
            · exact hw _ z h
end Go.Proofs.YtohikbpolofklaaGreatDoor
namespace Go.Proofs.YtohikbpolofklaaGreatDoor
open Go.RowKit
set_option linter.unusedVariables false
set_option linter.unusedSimpArgs false
def DrawnBox (w0 : World) (a : Option Addr) (cap : Nat) (zs : List Int) (w : World) (g : Nat) (e : Ending) (w' : World) : Prop :=
  ∃ (nm un : Int) (ap : Option Addr) (lp cp : Nat) (ps : List Int), e = .returned (.agg (bxc nm un ap lp cp)) ∧ lp = ps.length ∧ ps.length ≤ 300 ∧ (∀ z ∈ ps, 0 ≤ z ∧ z ≤ 255) ∧ Own w' w.heap.size (.slice ap lp cp) ps ∧ Cur w0 a cap zs w' g ∧ w.grownBy w' (some g)
theorem gr_st {w u : World} {g B o : Nat} {vs : List Value} (h : w.grownBy u (some g)) (hB : w.heap.size ≤ B) : w.grownBy (setL u B o vs) (some g) := by
  have q := setL_gw (g := B) vs u o
  exact ⟨q.os.trans h.os, q.tape.trans h.tape, q.output.trans h.output, Nat.le_trans h.size q.size, fun k hk hne => (q.block k (Nat.lt_of_lt_of_le hk h.size) (by simp; omega)).trans (h.block k hk hne)⟩
theorem cur_st {w0 u : World} {a : Option Addr} {cap g B o : Nat} {zs : List Int} {vs : List Value} (h : Cur w0 a cap zs u g) (hne : g ≠ B) (hB : w0.heap.size ≤ B) : Cur w0 a cap zs (setL u B o vs) g :=
  h.grown (setL_gw vs u o) (by simp; omega) (fun k hk => by obtain rfl := Option.some.inj hk; exact hB)
theorem putL_pos (kd pl nn wa : Int) (ws : List Int) (bs : List Bool) : 0 < (putL kd pl nn wa ws bs).length := by
  unfold putL
  split
  · simp
  · split
    · simp
    · split
      · simp
      · split
        · simp
        · split <;> simp
theorem own_set0 {u : World} {base gb n cap : Nat} {x : Int} {qs : List Int} (h : Own u base (.slice (some ⟨gb, 0, none⟩) n cap) qs) : Own (u.setCell ⟨gb, 0, none⟩ (.int .u8 x)) base (.slice (some ⟨gb, 0, none⟩) n cap) (qs.set 0 x) := by
  obtain ⟨h1, h2⟩ := h
  rcases h2 with ⟨h2, h3⟩ | ⟨g, c, cur, hv, hb, hk, hn, hm, hs, ht⟩
  · cases h2
  · simp only [Value.slice.injEq, Option.some.injEq, Addr.mk.injEq] at hv
    obtain ⟨⟨rfl, _⟩, e1, e2⟩ := hv
    have hk' : Blk u gb 5 cur := hk
    refine ⟨by simp, .inr ⟨gb, c, cur.setIfInBounds 0 (.int .u8 x), by simp [e1, e2], hb, hk'.set 0 _, by simpa using hn, hm, by simpa using hs, ?_⟩⟩
    rw [Array.toList_setIfInBounds, List.take_set, show List.take ((qs.set 0 x).length * 1) cur.toList = List.take (qs.length * 1) cur.toList by simp, ht]
    simp [List.map_set]
theorem own_at {u : World} {base n cap : Nat} {ap : Option Addr} {qs : List Int} (h : Own u base (.slice ap n cap) qs) (hp : 0 < qs.length) : ∃ gb, ap = some ⟨gb, 0, none⟩ ∧ base ≤ gb ∧ gb < u.heap.size ∧ u.cell? ⟨gb, 0, none⟩ = some (.int .u8 (qs.getD 0 0)) ∧ u.frozen? ⟨gb, 0, none⟩ = false := by
  obtain ⟨_, hs⟩ := h.sl
  obtain ⟨h1, h2⟩ := h
  rcases h2 with ⟨h2, h3⟩ | ⟨g, c, cur, hv, hb, hk, hn, hm, hsz, ht⟩
  · omega
  · simp only [Value.slice.injEq] at hv
    obtain ⟨rfl, e1, e2⟩ := hv
    have hk' : Blk u g 5 cur := hk
    obtain ⟨b, off, e, _, hc⟩ := cell_at hs hp
    simp only [Option.some.injEq, Addr.mk.injEq] at e
    obtain ⟨rfl, rfl, _⟩ := e
    exact ⟨g, rfl, hb, hk'.lt, hc, hk'.fro 0⟩
set_option maxRecDepth 20000 in
set_option maxHeartbeats 4000000 in
theorem l18Box_any (w0 : World) (a : Option Addr) (cap : Nat) (zs : List Int) (w : World) (g : Nat) (hC : Cur w0 a cap zs w g) :
    Calls Tryz.prog 14 #[.pointer (some ⟨g, 0, none⟩)] w fun e w' => DrawnBox w0 a cap zs w g e w' := by
  obtain ⟨W0, hW0⟩ : ∃ W0, W0 = w.alloc (.cells (bxc 0 0 none 0 0) 25) := ⟨_, rfl⟩
  have HW : Hid (W0 = _) := hW0
  have C0 : Cur w0 a cap zs W0 g := by rw [hW0]; exact hC.alloc _
  have G0 : w.grownBy W0 (some g) := by rw [hW0]; exact World.grownBy_alloc _ _ _
  have R0 : Blk W0 w.heap.size 25 (bxc 0 0 none 0 0) := by rw [hW0]; exact Blk.new _ _ _
  have HX : Hid (g < w.heap.size ∧ w0.heap.size ≤ g) := ⟨hC.hi, hC.lo⟩
  clear hC hW0
  go_enter Tryz.func14, Tryz.ntmps14
  go_wp2_with fail
  rw [← HW.out]
  refine (l1Below_any w0 a cap zs W0 g 200 (by decide) C0).mono ?_
  rintro e z1 ⟨nm, rfl, _, C1, gg⟩
  have G1 := grown_trans G0 gg
  have R1 := R0.grown gg (by have := HX.out; simp; omega)
  clear gg C0 G0 R0
  go_wp2_with fail
  refine (l1Below_any w0 a cap zs z1 g 2 (by decide) C1).mono ?_
  rintro e z2 ⟨ux, rfl, hux, C2, gg⟩
  have w9 : IntKind.i64.wrap (1 + ux) = 1 + ux := by rw [IntKind.wrap_i64]; omega
  have G2 := grown_trans G1 gg
  have R2 := R1.grown gg (by have := HX.out; simp; omega)
  clear gg C1 G1 R1 hux
  go_wp2_with fail
  refine (l3DrawR_any w0 a cap zs z2 g C2).mono ?_
  rintro e z3 ⟨kd, pl, nn, wa, a1, a2, l1, l2, c1, c2, ws, bs, rfl, e1, e2, m1, m2, hok, oi, oj, C3, gg⟩
  have G3 := grown_trans G2 gg
  have R3 := R2.grown gg (by have := HX.out; simp; omega)
  have HE : Hid (l1 = ws.length ∧ l2 = bs.length ∧ SlI z3 a1 ws ∧ SlB z3 a2 bs ∧ ws.length ≤ 2000000 ∧ bs.length ≤ 2000000) := ⟨e1, e2, oi.sl.2, oj.sl.2, by omega, by omega⟩
  have hl := putV_len kd pl nn wa ws bs l1 l2 e1 e2
  have hv : putV (okR kd pl nn wa ws l1 l2) kd pl nn wa ws bs = putL kd pl nn wa ws bs := by rw [hok]; rfl
  have hrg := putL_rg kd pl nn wa ws bs (by rw [← e1, ← e2]; exact hok)
  obtain ⟨P, hP⟩ : ∃ P, P = putL kd pl nn wa ws bs := ⟨_, rfl⟩
  rw [hv, ← hP] at hl
  rw [← hP] at hrg hv
  have HP : Hid (putV (okR kd pl nn wa ws l1 l2) kd pl nn wa ws bs = P ∧ P.length ≤ 300 ∧ (∀ z ∈ P, 0 ≤ z ∧ z ≤ 255) ∧ 0 < P.length) := ⟨hv, hl, hrg, by rw [hP]; exact putL_pos _ _ _ _ _ _⟩
  clear gg oi oj e1 e2 m1 m2 hok hl hv hrg hP C2 G2 R2
  go_wp2_with fail
  refine (specPut_q kd pl nn wa a1 a2 l1 l2 c1 c2 ws bs _ HE.out.1 HE.out.2.1 HE.out.2.2.1 HE.out.2.2.2.1 HE.out.2.2.2.2.1 HE.out.2.2.2.2.2).mono ?_
  rintro e z4 ⟨ap, cp, lp, rfl, hlp, op, b'⟩
  rw [HP.out.1] at hlp op
  have C4 := C3.grown (grown_below b' none) (by simp) (fun k hk => by cases hk)
  have G4 := grown_trans G3 (grown_below b' (some g))
  have R4 := R3.below b'
  have O4 := own_mono op G3.size
  clear op b' C3 G3 R3 HE
  obtain ⟨z5, hz5⟩ : ∃ z5, z5 = z4.alloc (.cells (bxc nm (1 + ux) ap lp cp) 25) := ⟨_, rfl⟩
  have HU : Hid (z5 = _) := hz5
  obtain ⟨B, hB⟩ : ∃ B, B = z4.heap.size := ⟨_, rfl⟩
  have HBe : Hid (B = z4.heap.size) := hB
  have HB : Hid (w.heap.size < B) := by show w.heap.size < B; have := R4.lt; omega
  have bz : Below z4.heap.size z4 z5 := by rw [hz5]; exact bel_alloc _ _
  have C5 : Cur w0 a cap zs z5 g := by rw [hz5]; exact C4.alloc _
  have Q5 : Blk z5 B 25 (bxc nm (1 + ux) ap lp cp) := by rw [hz5, hB]; exact Blk.new _ _ _
  have R5 := R4.below bz
  have O5 := O4.below bz
  have G5 := grown_trans G4 (grown_below bz (some g))
  have HL : Hid (lp = P.length) := hlp
  clear hz5 hB bz C4 R4 O4 G4 hlp
  go_wp2_with fail
  rw [← HU.out]
  simp only [← HBe.out]
  refine (l1Below_any w0 a cap zs z5 g 8 (by decide) C5).mono ?_
  rintro e z6 ⟨t, rfl, _, C6, gg⟩
  have G6 := grown_trans G5 gg
  have R6 := R5.grown gg (by have := HX.out; simp; omega)
  have Q6 := Q5.grown gg (by have := HX.out; have := HB.out; simp; omega)
  have O6 := O5.kept gg (row_ne_g O5 HX.out.1)
  clear gg C5 G5 R5 Q5 O5
  by_cases t0 : t = 0
  · subst t0
    obtain ⟨q0, q1, q2⟩ := Q6.tri
    have fq := Q6.fro
    go_wp2_with fail
    refine (l1Below_any w0 a cap zs z6 g 4 (by decide) C6).mono ?_
    rintro e z7 ⟨x, rfl, hx, C7, gg⟩
    have G7 := grown_trans G6 gg
    have R7 := R6.grown gg (by have := HX.out; simp; omega)
    have Q7 := Q6.grown gg (by have := HX.out; have := HB.out; simp; omega)
    obtain ⟨m, rfl⟩ : ∃ m : Nat, x = (m : Int) := ⟨x.toNat, by omega⟩
    have hm : m ≤ 3 := by omega
    clear gg C6 G6 R6 Q6 O6 q0 q1 q2 fq hx
    obtain ⟨q0, q1, q2⟩ := Q7.tri
    have fq := Q7.fro
    go_wp2_with fail
    refine (l1BytesY_any w0 a cap zs z7 g m (by omega) C7).mono ?_
    rintro e z8 ⟨ad, lq, cq, ps, rfl, hlq, hlm, oq, hrg, C8, gg⟩
    have G8 := grown_trans G7 gg
    have R8 := R7.grown gg (by have := HX.out; simp; omega)
    have Q8 := Q7.grown gg (by have := HX.out; have := HB.out; simp; omega)
    have O8 := own_mono oq G7.size
    have HQ : Hid (lq = ps.length ∧ ps.length ≤ 300 ∧ (∀ z ∈ ps, 0 ≤ z ∧ z ≤ 255)) := ⟨hlq, by omega, hrg⟩
    clear gg C7 G7 R7 Q7 oq hrg hlq hlm hm q0 q1 q2 fq
    obtain ⟨z9, hz9⟩ : ∃ u, u = z8.setCell ⟨B, 2, none⟩ (.slice (some ad) lq cq) := ⟨_, rfl⟩
    have O9 : Own z9 w.heap.size (.slice (some ad) lq cq) ps := by rw [hz9]; exact row_setLb (o := 2) (vs := [.slice (some ad) lq cq]) O8 ⟨_, Q8⟩ (by decide)
    have C9 : Cur w0 a cap zs z9 g := by rw [hz9]; exact cur_st (o := 2) (vs := [.slice (some ad) lq cq]) C8 (by have := HX.out; have := HB.out; omega) (by have := HX.out; have := HB.out; omega)
    have G9 : w.grownBy z9 (some g) := by rw [hz9]; exact gr_st (o := 2) (vs := [.slice (some ad) lq cq]) G8 (by have := HB.out; omega)
    have Q9 : Blk z9 B 25 (bxc nm (1 + ux) (some ad) lq cq) := by rw [hz9]; have := Q8.set 2 (.slice (some ad) lq cq); simpa using this
    have R9 : Blk z9 w.heap.size 25 (bxc 0 0 none 0 0) := by rw [hz9]; exact R8.setNe (by have := HB.out; omega)
    obtain ⟨q0, q1, q2⟩ := Q8.tri
    have fq := Q8.fro
    clear O8 C8 G8 R8 Q8
    go_upto_region 7 with fail
    rw [← hz9]
    clear hz9 q0 q1 q2 fq
    obtain ⟨q0, q1, q2⟩ := Q9.tri
    obtain ⟨y0, y1, y2⟩ := R9.tri
    have fy := R9.fro
    have HH := hide (show Own z9 w.heap.size (.slice (some ad) lq cq) ps ∧ Cur w0 a cap zs z9 g ∧ w.grownBy z9 (some g) ∧ Blk z9 w.heap.size 25 (bxc 0 0 none 0 0) from ⟨O9, C9, G9, R9⟩)
    clear O9 C9 G9 R9 Q9
    go_wp2
    refine bodyPost_ret (v := .agg (bxc nm (1 + ux) (some ad) lq cq)) (by simp [results, Tryz.results14, go_sem, y0, y1, y2]) rfl ?_
    obtain ⟨OI, CE, GE, RE⟩ := HH.out
    exact ⟨nm, 1 + ux, (some ad), lq, cq, ps, rfl, HQ.out.1, HQ.out.2.1, HQ.out.2.2, (show Own _ _ _ _ from row_setLb (o := 0) (vs := [.int .i64 nm, .int .i64 (1 + ux), .slice (some ad) lq cq]) OI ⟨_, RE⟩ (by decide)), cur_st (o := 0) (vs := [.int .i64 nm, .int .i64 (1 + ux), .slice (some ad) lq cq]) CE (by have := HX.out; omega) (by have := HX.out; omega), gr_st (o := 0) (vs := [.int .i64 nm, .int .i64 (1 + ux), .slice (some ad) lq cq]) GE (Nat.le_refl _)⟩
  by_cases t1 : t = 1
  · subst t1
    obtain ⟨gb, hap, hgb, hlt, hc0, hf0⟩ := own_at O6 HP.out.2.2.2
    subst hap
    go_upto_region 6 with fail
    try go_simp
    refine wp_region_any (by kernel_rfl) ?_
    refine wpAny_valg (fun _ u => Cur w0 a cap zs u g ∧ w.grownBy u (some g) ∧ Blk u w.heap.size 25 (bxc 0 0 none 0 0) ∧ Blk u B 25 (bxc nm (1 + ux) (some ⟨gb, 0, none⟩) lp cp) ∧ ∃ qs, Own u w.heap.size (.slice (some ⟨gb, 0, none⟩) lp cp) qs ∧ qs.length = P.length ∧ ∀ z ∈ qs, 0 ≤ z ∧ z ≤ 255) (fun _ _ => True) (fun i v _ => match i with
      | 0 => v = .pointer (some ⟨B, 2, none⟩)
      | 1 => v = .slice (some ⟨gb, 0, none⟩) lp cp
      | 2 => v = .pointer (some ⟨g, 0, none⟩)
      | 3 => ∃ x : Int, v = .int .i64 x ∧ 0 ≤ x ∧ x < 30
      | 4 => ∃ x : Int, v = .int .u8 x ∧ 0 ≤ x ∧ x ≤ 255
      | 5 => v = .pointer (some ⟨gb, 0, none⟩)
      | _ => True) (by kernel_rfl) (by kernel_rfl) (fun _ _ _ _ h _ => h) (fun _ => trivial) (by first | exact ⟨C6, G6, R6, Q6, P, O6, rfl, HP.out.2.2.1⟩ | exact ⟨C6.drewN 1, grown_trans G6 (grown_below (Below.refl _ z6).drew (some g)), R6, Q6, P, O6, rfl, HP.out.2.2.1⟩) ?_ ?_ _ _ rfl (by decide) (fun i => by simp [Array.getD]; try (split <;> rfl))
    rotate_left
    · intro u i o ρ l hR ho hli hcl hρ hc hf hg hdep hv
      have hi : i < 7 := by
        have := (Array.getElem?_eq_some_iff.1 ho).1
        simpa using this
      obtain rfl | rfl | rfl | rfl | rfl | rfl | rfl : i = 0 ∨ i = 1 ∨ i = 2 ∨ i = 3 ∨ i = 4 ∨ i = 5 ∨ i = 6 := by omega
      all_goals (simp only [List.getElem?_toArray, List.getElem?_cons_zero, List.getElem?_cons_succ, Option.some.injEq] at ho; subst ho)
      · have s0 : ρ (.tmp 3) = .pointer (some ⟨B, 0, none⟩) := (hρ 3 (by kernel_rfl)).trans rfl
        exact .inl ⟨rfl, .inl ⟨_, u, run_field_op rfl s0 (by go_simp), rfl, hR, trivial⟩⟩
      · have h0 : ρ (.tmp 24) = .pointer (some ⟨B, 2, none⟩) := hv 0 24 rfl (hdep ⟨0, .data⟩ (by simp) rfl)
        have c2 := hR.2.2.2.1.cell 2 rfl
        exact .inl ⟨rfl, .inl ⟨_, u, run_load_op rfl h0 (by go_simp), rfl, hR, trivial⟩⟩
      · have s0 : ρ (.tmp 0) = .pointer (some ⟨g, 0, none⟩) := (hρ 0 (by kernel_rfl)).trans rfl
        exact .inl ⟨rfl, .inl ⟨_, u, rfl, s0, hR, trivial⟩⟩
      · have h2 : ρ (.tmp 26) = .pointer (some ⟨g, 0, none⟩) := hv 2 26 rfl (hdep ⟨2, .data⟩ (by simp) rfl)
        refine .inl ⟨rfl, .inr (.inl ⟨_, _, run_call_op rfl (hf _) (args := #[.pointer (some ⟨g, 0, none⟩), .int .i64 30]) (by simp [h2, hc]) (by kernel_rfl), ?_⟩)⟩
        obtain ⟨hC, hG, hRr, hQ, qs, hO, hlen, hrg⟩ := hR
        refine (l1Below_any w0 a cap zs u g 30 (by decide) hC).mono ?_
        rintro e u' ⟨x, he, hx, C', gg⟩
        exact ⟨_, he, ⟨x, rfl, hx⟩, ⟨C', grown_trans hG gg, hRr.grown gg (by have := HX.out; simp; omega), hQ.grown gg (by have := HX.out; have := HB.out; simp; omega), qs, hO.kept gg (row_ne_g hO HX.out.1), hlen, hrg⟩, trivial⟩
      · obtain ⟨x, h3, hx0, hx1⟩ : ∃ x : Int, ρ (.tmp 27) = .int .i64 x ∧ 0 ≤ x ∧ x < 30 := hv 3 27 rfl (hdep ⟨3, .data⟩ (by simp) rfl)
        exact .inl ⟨rfl, .inl ⟨.int .u8 (IntKind.u8.wrap x), u, by (unfold execOp; simp only [h3]; go_simp), ⟨_, rfl, by rw [IntKind.wrap_u8]; omega⟩, hR, trivial⟩⟩
      · have h1 : ρ (.tmp 25) = .slice (some ⟨gb, 0, none⟩) lp cp := hv 1 25 rfl (hdep ⟨1, .data⟩ (by simp) rfl)
        have hlp9 : ¬ lp = 0 := by have := HL.out; have := HP.out.2.2.2; omega
        have hlp8 : 0 < lp := by omega
        exact .inl ⟨rfl, .inl ⟨_, u, run_index_op rfl h1 (hc _) (by go_simp), rfl, hR, trivial⟩⟩
      · obtain ⟨x, h4, hx⟩ : ∃ x : Int, ρ (.tmp 28) = .int .u8 x ∧ 0 ≤ x ∧ x ≤ 255 := hv 4 28 rfl (hdep ⟨4, .data⟩ (by simp) rfl)
        have h5 : ρ (.tmp 29) = .pointer (some ⟨gb, 0, none⟩) := hv 5 29 rfl (hdep ⟨5, .data⟩ (by simp) rfl)
        obtain ⟨hC, hG, hRr, hQ, qs, hO, hlen, hrg⟩ := hR
        obtain ⟨gb', e9, hgb', hlt', hc', hf'⟩ := own_at hO (by have := HP.out.2.2.2; omega)
        simp only [Option.some.injEq, Addr.mk.injEq] at e9
        obtain ⟨rfl, _⟩ := e9
        have nB : ∀ {g9 : Nat} {t9 : TypeId} {cs9 : Array Value}, Blk u g9 t9 cs9 → t9 ≠ 5 → g9 ≠ gb := fun hb ht e => row_noBlk hO hb ht (by rw [e]; rfl)
        refine .inl ⟨rfl, .inr (.inr ⟨rfl, u.setCell ⟨gb, 0, none⟩ (.int .u8 x), run_store_op rfl h5 h4 (by go_simp), ⟨hC.setHi (by have := HX.out; omega) (by have := HX.out; omega), grown_setHi hG hgb', hRr.setNe (nB hRr (by decide)), hQ.setNe (nB hQ (by decide)), qs.set 0 x, own_set0 hO, by simpa using hlen, fun z hz => ?_⟩, trivial⟩)⟩
        rcases List.mem_or_eq_of_mem_set hz with h | h
        · exact hrg z h
        · rw [h]; exact hx
    intro vs u hR hvs
    obtain ⟨CZ, GZ, RZ, QZ, qs, OZ, hlen, hrg⟩ := hR
    have HQ : Hid (lp = qs.length ∧ qs.length ≤ 300 ∧ (∀ z ∈ qs, 0 ≤ z ∧ z ≤ 255)) := ⟨by rw [hlen]; exact HL.out, by rw [hlen]; exact HP.out.2.1, hrg⟩
    clear hvs C6 G6 R6 Q6 O6 hlen hrg hc0 hf0
    simp only [putsL]
    try go_simp
    obtain ⟨q0, q1, q2⟩ := QZ.tri
    obtain ⟨y0, y1, y2⟩ := RZ.tri
    have fy := RZ.fro
    have HH := hide (show Own u w.heap.size (.slice (some ⟨gb, 0, none⟩) lp cp) qs ∧ Cur w0 a cap zs u g ∧ w.grownBy u (some g) ∧ Blk u w.heap.size 25 (bxc 0 0 none 0 0) from ⟨OZ, CZ, GZ, RZ⟩)
    clear OZ CZ GZ RZ QZ
    go_wp2
    refine bodyPost_ret (v := .agg (bxc nm (1 + ux) (some ⟨gb, 0, none⟩) lp cp)) (by simp [results, Tryz.results14, go_sem, y0, y1, y2]) rfl ?_
    obtain ⟨OI, CE, GE, RE⟩ := HH.out
    exact ⟨nm, 1 + ux, (some ⟨gb, 0, none⟩), lp, cp, qs, rfl, HQ.out.1, HQ.out.2.1, HQ.out.2.2, (show Own _ _ _ _ from row_setLb (o := 0) (vs := [.int .i64 nm, .int .i64 (1 + ux), .slice (some ⟨gb, 0, none⟩) lp cp]) OI ⟨_, RE⟩ (by decide)), cur_st (o := 0) (vs := [.int .i64 nm, .int .i64 (1 + ux), .slice (some ⟨gb, 0, none⟩) lp cp]) CE (by have := HX.out; omega) (by have := HX.out; omega), gr_st (o := 0) (vs := [.int .i64 nm, .int .i64 (1 + ux), .slice (some ⟨gb, 0, none⟩) lp cp]) GE (Nat.le_refl _)⟩
  · obtain ⟨q0, q1, q2⟩ := Q6.tri
    obtain ⟨y0, y1, y2⟩ := R6.tri
    have fy := R6.fro
    have HH := hide (show Own z6 w.heap.size (.slice ap lp cp) P ∧ Cur w0 a cap zs z6 g ∧ w.grownBy z6 (some g) ∧ Blk z6 w.heap.size 25 (bxc 0 0 none 0 0) from ⟨O6, C6, G6, R6⟩)
    clear O6 C6 G6 R6 Q6
    go_wp2
    refine bodyPost_ret (v := .agg (bxc nm (1 + ux) ap lp cp)) (by simp [results, Tryz.results14, go_sem, y0, y1, y2]) rfl ?_
    obtain ⟨OI, CE, GE, RE⟩ := HH.out
    exact ⟨nm, 1 + ux, ap, lp, cp, P, rfl, HL.out, HP.out.2.1, HP.out.2.2.1, (show Own _ _ _ _ from row_setLb (o := 0) (vs := [.int .i64 nm, .int .i64 (1 + ux), .slice ap lp cp]) OI ⟨_, RE⟩ (by decide)), cur_st (o := 0) (vs := [.int .i64 nm, .int .i64 (1 + ux), .slice ap lp cp]) CE (by have := HX.out; omega) (by have := HX.out; omega), gr_st (o := 0) (vs := [.int .i64 nm, .int .i64 (1 + ux), .slice ap lp cp]) GE (Nat.le_refl _)⟩
end Go.Proofs.YtohikbpolofklaaGreatDoor
namespace Go.Proofs.YtohikbpolofklaaGreatDoor
open Go.RowKit
set_option linter.unusedVariables false
set_option linter.unusedSimpArgs false
def NewBox (w : World) (e : Ending) (w' : World) : Prop :=
  ∃ (nm un : Int) (ap : Option Addr) (lp cp : Nat) (ps : List Int), e = .returned (.agg (bxc nm un ap lp cp)) ∧ lp = ps.length ∧ ps.length ≤ 300 ∧ (∀ z ∈ ps, 0 ≤ z ∧ z ≤ 255) ∧ Own w' w.heap.size (.slice ap lp cp) ps ∧ Below w.heap.size w w'
set_option maxRecDepth 20000 in
set_option maxHeartbeats 4000000 in
theorem drawBoxAsk_any (w : World) (a : Option Addr) (n cap : Nat) (zs : List Int) (hn : n = zs.length) (hs : Sl w a zs) (hr : ∀ z ∈ zs, 0 ≤ z ∧ z ≤ 255) (hl : zs.length ≤ 1048576) :
    Calls Tryz.prog 5 #[.slice a n cap] w fun e w' => NewBox w e w' := by
  obtain ⟨W0, hW0⟩ : ∃ W0, W0 = w.alloc (.cells (bxc 0 0 none 0 0) 25) := ⟨_, rfl⟩
  have HW : Hid (W0 = _) := hW0
  have bw : Below w.heap.size w W0 := by rw [hW0]; exact bel_alloc _ _
  have hsz : W0.heap.size = w.heap.size + 1 := by rw [hW0]; simp
  have R0 : Blk W0 w.heap.size 25 (bxc 0 0 none 0 0) := by rw [hW0]; exact Blk.new _ _ _
  have HS : Hid (Sl W0 a zs ∧ n = zs.length ∧ (∀ z ∈ zs, 0 ≤ z ∧ z ≤ 255) ∧ W0.heap.size = w.heap.size + 1 ∧ Below w.heap.size w W0 ∧ Blk W0 w.heap.size 25 (bxc 0 0 none 0 0)) := ⟨hs.below bw, hn, hr, hsz, bw, R0⟩
  clear hW0 hs hn hr hsz bw R0
  go_enter Tryz.func5, Tryz.ntmps5
  go_upto_region 1 with fail
  rw [← HW.out]
  go_wp2_with fail
  refine (l1New_any W0 a n cap zs HS.out.2.1 HS.out.1 HS.out.2.2.1 hl).mono ?_
  rintro e z1 ⟨rfl, C1, _⟩
  obtain ⟨g, hg⟩ : ∃ g, g = W0.heap.size := ⟨_, rfl⟩
  rw [← hg] at C1
  simp only [← hg]
  clear hg
  go_wp2_with fail
  refine (l18Box_any W0 a cap zs z1 g C1).mono ?_
  rintro e z2 ⟨nm, un, ap, lp, cp, ps, rfl, e1, e2, e3, o, C2, gg⟩
  have R2 := HS.out.2.2.2.2.2.below C2.bel
  obtain ⟨y0, y1, y2⟩ := R2.tri
  have fy := R2.fro
  have HH : Hid (Own z2 w.heap.size (.slice ap lp cp) ps ∧ Below w.heap.size w z2 ∧ Blk z2 w.heap.size 25 (bxc 0 0 none 0 0) ∧ lp = ps.length ∧ ps.length ≤ 300 ∧ (∀ z ∈ ps, 0 ≤ z ∧ z ≤ 255)) := ⟨own_mono o (by have := C1.bel.size; have := HS.out.2.2.2.1; omega), bel_next HS.out.2.2.2.2.1 C2.bel, R2, e1, e2, e3⟩
  clear e1 e2 e3 o C1 C2 gg R2
  go_wp2
  refine bodyPost_ret (v := .agg (bxc nm un ap lp cp)) (by simp [results, Tryz.results5, go_sem, y0, y1, y2]) rfl ?_
  obtain ⟨OI, B2, RE, q1, q2, q3⟩ := HH.out
  exact ⟨nm, un, ap, lp, cp, ps, rfl, q1, q2, q3, (show Own _ _ _ _ from row_setLb (o := 0) (vs := [.int .i64 nm, .int .i64 un, .slice ap lp cp]) OI ⟨_, RE⟩ (by decide)), setL_below (Nat.le_refl _) [.int .i64 nm, .int .i64 un, .slice ap lp cp] z2 0 B2⟩
def NewBoxResp (w : World) (e : Ending) (w' : World) : Prop :=
  ∃ (x : Array Value) (kd fl pl nn : Int) (a1 a2 : Option Addr) (l1 l2 c1 c2 : Nat) (ws : List Int) (bs : List Bool) (nm un : Int) (ap : Option Addr) (lp cp : Nat), x = bxc nm un ap lp cp ∧ e = .returned (.tuple #[.agg x, rp kd fl pl nn a1 a2 l1 l2 c1 c2]) ∧ l1 = ws.length ∧ l2 = bs.length ∧ l1 ≤ 1000 ∧ l2 ≤ 3000 ∧ OwnI w' w.heap.size (.slice a1 l1 c1) ws ∧ OwnB w' w.heap.size (.slice a2 l2 c2) bs ∧ Below w.heap.size w w'
set_option maxRecDepth 20000 in
set_option maxHeartbeats 4000000 in
theorem drawBoxTell_any (w : World) (a : Option Addr) (n cap : Nat) (zs : List Int) (hn : n = zs.length) (hs : Sl w a zs) (hr : ∀ z ∈ zs, 0 ≤ z ∧ z ≤ 255) (hl : zs.length ≤ 1048576) :
    Calls Tryz.prog 8 #[.slice a n cap] w fun e w' => NewBoxResp w e w' := by
  obtain ⟨W0, hW0⟩ : ∃ W0, W0 = (w.alloc (.cells (bxc 0 0 none 0 0) 25)).alloc (.cells #[.int .i64 0, .int .i64 0, .int .i64 0, .int .i64 0, .slice none 0 0, .slice none 0 0] 36) := ⟨_, rfl⟩
  have HW : Hid (W0 = _) := hW0
  have bw : Below w.heap.size w W0 := by rw [hW0]; exact bel_next (bel_alloc w _) (bel_alloc _ _)
  have hsz : W0.heap.size = w.heap.size + 1 + 1 := by rw [hW0]; simp
  have R0 : Blk W0 w.heap.size 25 (bxc 0 0 none 0 0) := by rw [hW0]; exact (Blk.new w _ _).below (bel_alloc _ _)
  have S0 : Blk W0 (w.heap.size + 1) 36 #[.int .i64 0, .int .i64 0, .int .i64 0, .int .i64 0, .slice none 0 0, .slice none 0 0] := by
    rw [hW0]; have := Blk.new (w.alloc (.cells (bxc 0 0 none 0 0) 25)) #[.int .i64 0, .int .i64 0, .int .i64 0, .int .i64 0, .slice none 0 0, .slice none 0 0] 36; simpa using this
  have HS : Hid (Sl W0 a zs ∧ n = zs.length ∧ (∀ z ∈ zs, 0 ≤ z ∧ z ≤ 255) ∧ W0.heap.size = w.heap.size + 1 + 1 ∧ Below w.heap.size w W0 ∧ Blk W0 w.heap.size 25 (bxc 0 0 none 0 0) ∧ Blk W0 (w.heap.size + 1) 36 #[.int .i64 0, .int .i64 0, .int .i64 0, .int .i64 0, .slice none 0 0, .slice none 0 0]) := ⟨hs.below bw, hn, hr, hsz, bw, R0, S0⟩
  clear hW0 hs hn hr hsz bw R0 S0
  go_enter Tryz.func8, Tryz.ntmps8
  go_upto_region 1 with fail
  rw [← HW.out]
  go_wp2_with fail
  refine (l1New_any W0 a n cap zs HS.out.2.1 HS.out.1 HS.out.2.2.1 hl).mono ?_
  rintro e z1 ⟨rfl, C1, _⟩
  obtain ⟨g, hg⟩ : ∃ g, g = W0.heap.size := ⟨_, rfl⟩
  rw [← hg] at C1
  simp only [← hg]
  clear hg
  go_wp2_with fail
  refine (l18Box_any W0 a cap zs z1 g C1).mono ?_
  rintro e z2 ⟨nm, un, ap, lp, cp, ps, rfl, e1, e2, e3, o, C2, gg⟩
  have hz2 : w.heap.size ≤ z2.heap.size := by have := C2.bel.size; have := HS.out.2.2.2.1; omega
  clear e1 e2 e3 o gg C1
  go_wp2_with fail
  refine (l4DrawAny_any W0 a cap zs z2 g C2).mono ?_
  rintro e z3 ⟨kd, fl, pl, nn, a1, a2, l1, l2, c1, c2, ws, bs, rfl, e1, e2, m1, m2, oi, oj, C3, gg⟩
  have R3 := HS.out.2.2.2.2.2.1.below C3.bel
  have S3 := HS.out.2.2.2.2.2.2.below C3.bel
  have HH : Hid (OwnI z3 w.heap.size (.slice a1 l1 c1) ws ∧ OwnB z3 w.heap.size (.slice a2 l2 c2) bs ∧ Below w.heap.size w z3 ∧ Blk z3 w.heap.size 25 (bxc 0 0 none 0 0) ∧ Blk z3 (w.heap.size + 1) 36 #[.int .i64 0, .int .i64 0, .int .i64 0, .int .i64 0, .slice none 0 0, .slice none 0 0] ∧ l1 = ws.length ∧ l2 = bs.length ∧ l1 ≤ 1000 ∧ l2 ≤ 3000) := ⟨OwnI.mono oi hz2, OwnB.mono oj hz2, bel_next HS.out.2.2.2.2.1 C3.bel, R3, S3, e1, e2, m1, m2⟩
  obtain ⟨y0, y1, y2⟩ := R3.tri
  have fy := R3.fro
  have fs := S3.fro
  obtain ⟨s0, s1, s2, s3, s4, s5⟩ := S3.six
  clear e1 e2 m1 m2 oi oj C2 C3 gg R3 S3 hz2
  go_wp2
  refine bodyPost_ret (v := .tuple #[.agg (bxc nm un ap lp cp), rp kd fl pl nn a1 a2 l1 l2 c1 c2]) (by simp [results, Tryz.results8, go_sem, y0, y1, y2, s0, s1, s2, s3, s4, s5]) rfl ?_
  obtain ⟨OI, OB, B2, RE, SE, q1, q2, q3, q4⟩ := HH.out
  have k1 : OwnI _ _ _ _ := row_setLb (o := 0) (vs := [.int .i64 nm, .int .i64 un, .slice ap lp cp]) OI ⟨_, RE⟩ (by decide)
  have k2 : OwnB _ _ _ _ := row_setLb (o := 0) (vs := [.int .i64 nm, .int .i64 un, .slice ap lp cp]) OB ⟨_, RE⟩ (by decide)
  have k3 := setL_below (Nat.le_refl w.heap.size) [.int .i64 nm, .int .i64 un, .slice ap lp cp] z3 0 B2
  have k4 : ExB (setL z3 w.heap.size 0 [.int .i64 nm, .int .i64 un, .slice ap lp cp]) (w.heap.size + 1) 36 := ⟨_, Blk.stNe (by omega) _ _ SE⟩
  exact ⟨_, kd, fl, pl, nn, a1, a2, l1, l2, c1, c2, ws, bs, nm, un, ap, lp, cp, rfl, rfl, q1, q2, q3, q4, (show OwnI _ _ _ _ from row_setLb (o := 0) (vs := [.int .i64 kd, .int .i64 fl, .int .i64 pl, .int .i64 nn, .slice a1 l1 c1, .slice a2 l2 c2]) k1 k4 (by decide)), (show OwnB _ _ _ _ from row_setLb (o := 0) (vs := [.int .i64 kd, .int .i64 fl, .int .i64 pl, .int .i64 nn, .slice a1 l1 c1, .slice a2 l2 c2]) k2 k4 (by decide)), setL_below (Nat.le_succ _) [.int .i64 kd, .int .i64 fl, .int .i64 pl, .int .i64 nn, .slice a1 l1 c1, .slice a2 l2 c2] _ 0 k3⟩
end Go.Proofs.YtohikbpolofklaaGreatDoor
namespace Go.Proofs.YtohikbpolofklaaGreatDoor
open Go.RowKit
end Go.Proofs.YtohikbpolofklaaGreatDoor
namespace Go.Proofs.YtohikbpolofklaaGreatDoor
open Go.RowKit
theorem dq {md : Region.Mode} {ops : Array Oper} {o : Oper} {X : Edge → Tmp → Prop} (hd : ∀ e ∈ o.after, Region.binds md e = true → ∀ d, dstOf ops e.on = some d → X e d) (k : Nat) (d : Tmp) (hm : ⟨k, .data⟩ ∈ o.after := by simp) (hb : Region.binds md ⟨k, .data⟩ = true := by exact rfl) (he : dstOf ops k = some d := by exact rfl) : X ⟨k, .data⟩ d := hd _ hm hb d he
theorem gq {md : Region.Mode} {ops : Array Oper} {o : Oper} {X : Edge → Tmp → Prop} (hd : ∀ e ∈ o.after, Region.binds md e = true → ∀ d, dstOf ops e.on = some d → X e d) (k : Nat) (d : Tmp) (hm : ⟨k, .guard⟩ ∈ o.after := by simp) (hb : Region.binds md ⟨k, .guard⟩ = true := by exact rfl) (he : dstOf ops k = some d := by exact rfl) : X ⟨k, .guard⟩ d := hd _ hm hb d he
theorem yr {Run F : Value → World → Prop} {R M : World → Prop} {D E : Prop} {ops : Array Oper} {o : Oper} {ρ : Operand → Value} {v : Value} {u : World} (h : Run v u) (hF : F v u) (hR : R u) (hM : M u := by exact Below.refl _ _) (hw : wantV ops o ρ = true := by exact rfl) : (wantV ops o ρ = true ∧ ((∃ v u, Run v u ∧ F v u ∧ R u ∧ M u) ∨ D)) ∨ E := .inl ⟨hw, .inl ⟨v, u, h, hF, hR, hM⟩⟩
theorem want_of {ops : Array Oper} {o : Oper} {ρ : Operand → Value} {k : Nat} {d : Tmp} (hg : ∃ b, o.guard = some (k, b) ∧ ρ (.tmp d) = .bool b) (he : dstOf ops k = some d) : wantV ops o ρ = true := by
  obtain ⟨b, h1, h2⟩ := hg
  unfold wantV
  rw [h1]
  simp only [he, h2]
  cases b <;> rfl
theorem yq {Run F : Value → World → Prop} {R M : World → Prop} {D E : Prop} {md : Region.Mode} {ops : Array Oper} {o : Oper} {ρ : Operand → Value} {X : Edge → Tmp → Prop} {v : Value} {u : World} (hd : ∀ e ∈ o.after, Region.binds md e = true → ∀ d, dstOf ops e.on = some d → X e d) (k : Nat) (d : Tmp) (h : Run v u) (hF : F v u) (hR : R u) (hM : M u := by exact Below.refl _ _)
    (hg : ∃ b, o.guard = some (k, b) ∧ (X ⟨k, .guard⟩ d → ρ (.tmp d) = .bool b) := by exact ⟨_, rfl, id⟩) (hm : ⟨k, .guard⟩ ∈ o.after := by simp) (hb : Region.binds md ⟨k, .guard⟩ = true := by exact rfl) (he : dstOf ops k = some d := by exact rfl) : (wantV ops o ρ = true ∧ ((∃ v u, Run v u ∧ F v u ∧ R u ∧ M u) ∨ D)) ∨ E := by
  obtain ⟨b, h1, h2⟩ := hg
  exact .inl ⟨want_of ⟨b, h1, h2 (hd _ hm hb d he)⟩ he, .inl ⟨v, u, h, hF, hR, hM⟩⟩
end Go.Proofs.YtohikbpolofklaaGreatDoor
