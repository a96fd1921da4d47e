/- Texts that the proof needs, joined. -/
import Derived.Test.YtcnbbknmofonkaaWE
namespace Go.Proofs.Ytcnbbknmofonkaa
open Go.RowKit

set_option linter.unusedVariables false

set_option linter.unusedSimpArgs false

set_option maxRecDepth 20000 in
set_option maxHeartbeats 16000000 in
theorem l4Bend_any (w0 : World) (a : Option Addr) (cap : Nat) (zs : List Int) (w : World) (g : Nat) (kd fl pl nn : Int) (a1 a2 : Option Addr) (l1 l2 c1 c2 : Nat) (ws : List Int) (bs : List Bool) (base : Nat) (h1 : l1 = ws.length) (h2 : l2 = bs.length) (hl1 : l1 ≤ 1000) (hl2 : l2 ≤ 10000) (hpn : 0 ≤ pl ∧ pl ≤ 65535 ∧ 0 ≤ nn ∧ nn ≤ 2900) (hgb : g < base) (hbw : base ≤ w.heap.size) (o1 : OwnI w base (.slice a1 l1 c1) ws) (o2 : OwnB w base (.slice a2 l2 c2) bs) (hC : Cur w0 a cap zs w g) :
    Calls Try.prog 55 #[.pointer (some ⟨g, 0, none⟩), rp kd fl pl nn a1 a2 l1 l2 c1 c2] w fun e w' => RespAt w0 a cap zs base (l1 + 1) (l2 + 1) w g e w' := by
  obtain ⟨W0, hW0⟩ : ∃ W0, W0 = (w.alloc (.cells #[.int .i64 kd, .int .i64 fl, .int .i64 pl, .int .i64 nn, .slice a1 l1 c1, .slice a2 l2 c2] 48)).alloc (.cells #[.int .i64 0, .int .i64 0, .int .i64 0, .int .i64 0, .slice none 0 0, .slice none 0 0] 48) := ⟨_, rfl⟩
  have HW : Hid (W0 = _) := hW0
  have bw : Below w.heap.size w W0 := by rw [hW0]; exact bel_next (bel_alloc w _) (bel_alloc _ _)
  have C0 : Cur w0 a cap zs W0 g := by rw [hW0]; exact (hC.alloc _).alloc _
  have G0 : w.grownBy W0 (some g) := grown_below bw _
  have Q0 : Blk W0 w.heap.size 48 #[.int .i64 kd, .int .i64 fl, .int .i64 pl, .int .i64 nn, .slice a1 l1 c1, .slice a2 l2 c2] := by rw [hW0]; exact (Blk.new w _ _).below (bel_alloc _ _)
  have R0 : Blk W0 (w.heap.size + 1) 48 #[.int .i64 0, .int .i64 0, .int .i64 0, .int .i64 0, .slice none 0 0, .slice none 0 0] := by
    rw [hW0]; have := Blk.new (w.alloc (.cells #[.int .i64 kd, .int .i64 fl, .int .i64 pl, .int .i64 nn, .slice a1 l1 c1, .slice a2 l2 c2] 48)) #[.int .i64 0, .int .i64 0, .int .i64 0, .int .i64 0, .slice none 0 0, .slice none 0 0] 48; simpa using this
  have I0 := o1.below bw
  have J0 := o2.below bw
  have HX : Hid (g < base ∧ base ≤ w.heap.size ∧ w0.heap.size ≤ g ∧ g < w.heap.size ∧ l1 ≤ 1000 ∧ l2 ≤ 10000) := ⟨hgb, hbw, hC.lo, hC.hi, hl1, hl2⟩
  have HL : Hid (l1 = ws.length ∧ l2 = bs.length) := ⟨h1, h2⟩
  clear hC hW0 bw o1 o2 h1 h2 hl1 hl2 hgb hbw
  go_enter Try.func55, Try.ntmps55
  go_upto_region 1 with fail
  rw [← HW.out]
  go_wp2_with fail
  refine (l1Below_any w0 a cap zs _ g _ (by decide) C0).mono ?_
  rintro e u1 ⟨x, rfl, hx, C1, gg⟩
  have G1 := grown_trans G0 gg
  have R1 := R0.grown gg (by have := HX.out; simp; omega)
  have Q1 := Q0.grown gg (by have := HX.out; simp; omega)
  have I1 := OwnI.kept I0 gg (row_ne_g I0 HX.out.1)
  have J1 := OwnB.kept J0 gg (row_ne_g J0 HX.out.1)
  clear C0 G0 R0 Q0 I0 J0 gg
  obtain rfl | rfl | rfl | rfl | rfl | rfl | rfl : x = 0 ∨ x = 1 ∨ x = 2 ∨ x = 3 ∨ x = 4 ∨ x = 5 ∨ x = 6 := by omega
  · clear hx
    go_upto_region 3 with fail
    go_wp2_with fail
    refine (l1Below_any w0 a cap zs _ g _ (by decide) C1).mono ?_
    rintro e t2 ⟨y, rfl, _, C2, gg⟩
    have G2 := grown_trans G1 gg
    have R2 := R1.grown gg (by have := HX.out; simp; omega)
    have Q2 := Q1.grown gg (by have := HX.out; simp; omega)
    have I2 := OwnI.kept I1 gg (row_ne_g I1 HX.out.1)
    have J2 := OwnB.kept J1 gg (row_ne_g J1 HX.out.1)
    clear gg C1 G1 R1 Q1 I1 J1
    have qc := Q2.cell 0 rfl
    have qf := Q2.fro 0
    have Q3 := Q2.set 0 (.int .i64 y)
    have R3 := R2.setNe (g' := w.heap.size) (j := 0) (y := .int .i64 y) (by omega)
    have C3 := C2.setHi (G := w.heap.size) (j := 0) (y := .int .i64 y) (by have := HX.out; omega) (by have := HX.out; omega)
    have G3 := grown_setHi (G := w.heap.size) (j := 0) (y := .int .i64 y) G2 (Nat.le_refl _)
    have I3 : OwnI _ _ _ _ := row_setE (j := 0) (y := .int .i64 y) I2 ⟨_, Q2⟩ (by decide)
    have J3 : OwnB _ _ _ _ := row_setE (j := 0) (y := .int .i64 y) J2 ⟨_, Q2⟩ (by decide)
    go_upto_region 14 with fail
    obtain ⟨v3, hv3⟩ : ∃ v3, v3 = t2.setCell ⟨w.heap.size, 0, none⟩ (.int .i64 y) := ⟨_, rfl⟩
    rw [← hv3] at Q3 R3 C3 G3 I3 J3 ⊢
    clear hv3 qc qf C2 G2 R2 Q2 I2 J2
    obtain ⟨q0, q1, q2, q3, q4, q5⟩ := Q3.six
    obtain ⟨y0, y1, y2, y3, y4, y5⟩ := R3.six
    have fy := R3.fro
    have HH : Hid (OwnI v3 base (.slice a1 l1 c1) ws ∧ OwnB v3 base (.slice a2 l2 c2) bs ∧ Cur w0 a cap zs v3 g ∧ w.grownBy v3 (some g) ∧ Blk v3 (w.heap.size + 1) 48 #[.int .i64 0, .int .i64 0, .int .i64 0, .int .i64 0, .slice none 0 0, .slice none 0 0]) := ⟨I3, J3, C3, G3, R3⟩
    clear C3 G3 R3 Q3 I3 J3
    go_wp2
    refine bodyPost_ret (v := rp (y) (fl) (pl) (nn) a1 a2 l1 l2 c1 c2) (by simp [results, Try.results55, go_sem, y0, y1, y2, y3, y4, y5]) rfl ?_
    obtain ⟨OI, OB, CE, GE, RE⟩ := HH.out
    have hgR : g ≠ w.heap.size + 1 := by have := HX.out; omega
    have hwR : w0.heap.size ≤ w.heap.size + 1 := by have := HX.out; omega
    have hn1 : l1 ≤ l1 + 1 := by omega
    have hn2 : l2 ≤ l2 + 1 := by omega
    exact ⟨_, _, _, _, _, _, _, _, _, _, ws, bs, rfl, HL.out.1, HL.out.2, hn1, hn2, rowp_set6 OI ⟨_, RE⟩ (by decide), rowp_set6 OB ⟨_, RE⟩ (by decide), (((((CE.setHi hgR hwR).setHi hgR hwR).setHi hgR hwR).setHi hgR hwR).setHi hgR hwR).setHi hgR hwR, grown_setHi (grown_setHi (grown_setHi (grown_setHi (grown_setHi (grown_setHi GE (Nat.le_succ _)) (Nat.le_succ _)) (Nat.le_succ _)) (Nat.le_succ _)) (Nat.le_succ _)) (Nat.le_succ _)⟩
  · clear hx
    go_upto_region 5 with fail
    have IL := ints_lit u1 [0, 1, 255, 256, -1] 3
    have hne : u1.heap.size ≠ g := by have := C1.hi; omega
    have b' := bel_alloc u1 (.cells ([0, 1, 255, 256, -1].map (Value.int .i64)).toArray 3)
    have C2 := C1.alloc (.cells ([0, 1, 255, 256, -1].map (Value.int .i64)).toArray 3)
    have G2 := grown_trans G1 (grown_below b' (some g))
    have R2 := R1.below b'
    have Q2 := Q1.below b'
    have I2 := OwnI.below I1 b'
    have J2 := OwnB.below J1 b'
    clear b' C1 G1 R1 Q1 I1 J1
    go_wp2_with fail
    refine (l1Int_any w0 a cap zs _ g ⟨u1.heap.size, 0, none⟩ 5 5 [0, 1, 255, 256, -1] rfl (by omega) (by omega) IL hne C2).mono ?_
    rintro e t3 ⟨y, rfl, _, C3, gg⟩
    have G3 := grown_trans G2 gg
    have R3 := R2.grown gg (by have := HX.out; simp; omega)
    have Q3 := Q2.grown gg (by have := HX.out; simp; omega)
    have I3 := OwnI.kept I2 gg (row_ne_g I2 HX.out.1)
    have J3 := OwnB.kept J2 gg (row_ne_g J2 HX.out.1)
    clear gg C2 G2 R2 Q2 I2 J2
    clear IL hne
    have qc := Q3.cell 1 rfl
    have qf := Q3.fro 1
    have Q4 := Q3.set 1 (.int .i64 y)
    have R4 := R3.setNe (g' := w.heap.size) (j := 1) (y := .int .i64 y) (by omega)
    have C4 := C3.setHi (G := w.heap.size) (j := 1) (y := .int .i64 y) (by have := HX.out; omega) (by have := HX.out; omega)
    have G4 := grown_setHi (G := w.heap.size) (j := 1) (y := .int .i64 y) G3 (Nat.le_refl _)
    have I4 : OwnI _ _ _ _ := row_setE (j := 1) (y := .int .i64 y) I3 ⟨_, Q3⟩ (by decide)
    have J4 : OwnB _ _ _ _ := row_setE (j := 1) (y := .int .i64 y) J3 ⟨_, Q3⟩ (by decide)
    go_upto_region 14 with fail
    obtain ⟨v4, hv4⟩ : ∃ v4, v4 = t3.setCell ⟨w.heap.size, 1, none⟩ (.int .i64 y) := ⟨_, rfl⟩
    rw [← hv4] at Q4 R4 C4 G4 I4 J4 ⊢
    clear hv4 qc qf C3 G3 R3 Q3 I3 J3
    obtain ⟨q0, q1, q2, q3, q4, q5⟩ := Q4.six
    obtain ⟨y0, y1, y2, y3, y4, y5⟩ := R4.six
    have fy := R4.fro
    have HH : Hid (OwnI v4 base (.slice a1 l1 c1) ws ∧ OwnB v4 base (.slice a2 l2 c2) bs ∧ Cur w0 a cap zs v4 g ∧ w.grownBy v4 (some g) ∧ Blk v4 (w.heap.size + 1) 48 #[.int .i64 0, .int .i64 0, .int .i64 0, .int .i64 0, .slice none 0 0, .slice none 0 0]) := ⟨I4, J4, C4, G4, R4⟩
    clear C4 G4 R4 Q4 I4 J4
    go_wp2
    refine bodyPost_ret (v := rp (kd) (y) (pl) (nn) a1 a2 l1 l2 c1 c2) (by simp [results, Try.results55, go_sem, y0, y1, y2, y3, y4, y5]) rfl ?_
    obtain ⟨OI, OB, CE, GE, RE⟩ := HH.out
    have hgR : g ≠ w.heap.size + 1 := by have := HX.out; omega
    have hwR : w0.heap.size ≤ w.heap.size + 1 := by have := HX.out; omega
    have hn1 : l1 ≤ l1 + 1 := by omega
    have hn2 : l2 ≤ l2 + 1 := by omega
    exact ⟨_, _, _, _, _, _, _, _, _, _, ws, bs, rfl, HL.out.1, HL.out.2, hn1, hn2, rowp_set6 OI ⟨_, RE⟩ (by decide), rowp_set6 OB ⟨_, RE⟩ (by decide), (((((CE.setHi hgR hwR).setHi hgR hwR).setHi hgR hwR).setHi hgR hwR).setHi hgR hwR).setHi hgR hwR, grown_setHi (grown_setHi (grown_setHi (grown_setHi (grown_setHi (grown_setHi GE (Nat.le_succ _)) (Nat.le_succ _)) (Nat.le_succ _)) (Nat.le_succ _)) (Nat.le_succ _)) (Nat.le_succ _)⟩
  · clear hx
    go_upto_region 7 with fail
    have d1 : Below u1.heap.size u1 (u1.drew.alloc (.cells ([1, -1, 65536].map (Value.int .i64)).toArray 3)) := bel_next (Below.refl _ _).drew (bel_alloc _ _)
    have IL := ints_lit u1.drew [1, -1, 65536] 3
    have hne : u1.heap.size ≠ g := by have := C1.hi; omega
    have Cd := C1.belowU d1
    have Gd := grown_trans G1 (grown_below d1 (some g))
    have Rd := R1.below d1
    have Qd := Q1.below d1
    have Id := OwnI.below I1 d1
    have Jd := OwnB.below J1 d1
    obtain ⟨q0, q1, q2, q3, q4, q5⟩ := Q1.six
    obtain ⟨k0, k1, k2, k3, k4, k5⟩ := Qd.six
    have hnq : ¬ w.heap.size = u1.heap.size := by have := Q1.lt; omega
    have kk : (u1.drew.alloc (.cells #[.int .i64 1, .int .i64 (-1), .int .i64 65536] 3)).cell? ⟨w.heap.size, 2, none⟩ = some (.int .i64 pl) := k2
    have kl : (u1.alloc (.cells #[.int .i64 1, .int .i64 (-1), .int .i64 65536] 3)).cell? ⟨w.heap.size, 2, none⟩ = some (.int .i64 pl) := (Q1.below (bel_alloc u1 (.cells #[.int .i64 1, .int .i64 (-1), .int .i64 65536] 3))).cell 2 rfl
    refine wp_region_any (by kernel_rfl) ?_
    (try (change wpAny _ _ _ _ _ _ _ (World.drew _)))
    refine wpAny_take (i := 0) (v := ?v0) rfl (by kernel_rfl) (by kernel_rfl) (by kernel_rfl) (fun _ _ _ h => h) (Or.inl ⟨by rfl, ?h0⟩) ?_
    case h0 => intro w; go_simp; try (with_reducible rfl)
    refine wpAny_take (i := 2) (v := ?v2) rfl (by kernel_rfl) (by kernel_rfl) (by kernel_rfl) (fun _ _ _ h => h) (Or.inl ⟨by rfl, ?h2⟩) ?_
    case h2 => intro w; go_simp; try (with_reducible rfl)
    refine wpAny_ready (rs := [1, 3]) (by kernel_rfl) (by simp) ?_
    refine AllReady.cons rfl (fun K hK => ?_) ?_
    · skip
      go_simp
      refine hK _ _ ?_
      clear hK K
      refine wpAny_ready (rs := [3]) (by kernel_rfl) (by simp) ?_
      refine AllReady.cons rfl (fun K hK => ?_) AllReady.nil
      go_simp
      refine hK _ _ ?_
      clear hK K
      refine wpAny_ready (rs := [4]) (by kernel_rfl) (by simp) ?_
      refine AllReady.cons rfl (fun K hK => ?_) AllReady.nil
      go_simp
      go_wp2_with (go_at_call 85; refine (l1Int_any w0 a cap zs _ g ⟨u1.heap.size, 0, none⟩ 3 3 [1, -1, 65536] rfl (by omega) (by omega) IL hne Cd).mono ?_; rintro e t2 ⟨y, rfl, hy, C2, gg⟩; have hyb : -1 ≤ y ∧ y ≤ 65536 := (by simp at hy; omega); have hwz : IntKind.i64.wrap (pl + y) = pl + y := (by rw [IntKind.wrap_i64]; omega); have G2 := grown_trans Gd gg; have R2 := Rd.grown gg (by have := HX.out; simp; omega); have Q2 := Qd.grown gg (by have := HX.out; simp; omega); have I2 := OwnI.kept Id gg (row_ne_g Id HX.out.1); have J2 := OwnB.kept Jd gg (row_ne_g Jd HX.out.1); clear gg hy; obtain ⟨z0, z1, z2, z3, z4, z5⟩ := Q2.six; have fz := Q2.fro; clear k0 k1 k2 k3 k4 k5 hnq d1 IL hne Cd Gd Rd Qd Id Jd C1 G1 R1 Q1 I1 J1)
      try (refine hK _ _ ?_; clear hK K)
      refine wpAny_ready (rs := [5]) (by kernel_rfl) (by simp) ?_
      refine AllReady.cons rfl (fun K hK => ?_) AllReady.nil
      go_simp
      refine hK _ _ ?_
      clear hK K
      refine wpAny_ready (rs := [6]) (by kernel_rfl) (by simp) ?_
      refine AllReady.cons rfl (fun K hK => ?_) AllReady.nil
      go_simp
      refine hK _ _ ?_
      clear hK K
      refine wpAny_ready (rs := [7]) (by kernel_rfl) (by simp) ?_
      refine AllReady.cons rfl (fun K hK => ?_) AllReady.nil
      go_simp
      refine hK _ _ ?_
      clear hK K
      refine wpAny_done (by kernel_rfl) ?_ _
      go_upto_region 14 with fail
      have qc := True.intro
      have qf := True.intro
      have Q3 := Q2.set 2 (.int .i64 (pl + y))
      have R3 := R2.setNe (g' := w.heap.size) (j := 2) (y := .int .i64 (pl + y)) (by omega)
      have C3 := C2.setHi (G := w.heap.size) (j := 2) (y := .int .i64 (pl + y)) (by have := HX.out; omega) (by have := HX.out; omega)
      have G3 := grown_setHi (G := w.heap.size) (j := 2) (y := .int .i64 (pl + y)) G2 (Nat.le_refl _)
      have I3 : OwnI _ _ _ _ := row_setE (j := 2) (y := .int .i64 (pl + y)) I2 ⟨_, Q2⟩ (by decide)
      have J3 : OwnB _ _ _ _ := row_setE (j := 2) (y := .int .i64 (pl + y)) J2 ⟨_, Q2⟩ (by decide)
      obtain ⟨v3, hv3⟩ : ∃ v3, v3 = t2.setCell ⟨w.heap.size, 2, none⟩ (.int .i64 (pl + y)) := ⟨_, rfl⟩
      rw [← hv3] at Q3 R3 C3 G3 I3 J3 ⊢
      clear hv3 qc qf C2 G2 R2 Q2 I2 J2
      clear z0 z1 z2 z3 z4 z5 fz
      obtain ⟨q0, q1, q2, q3, q4, q5⟩ := Q3.six
      obtain ⟨y0, y1, y2, y3, y4, y5⟩ := R3.six
      have fy := R3.fro
      have HH : Hid (OwnI v3 base (.slice a1 l1 c1) ws ∧ OwnB v3 base (.slice a2 l2 c2) bs ∧ Cur w0 a cap zs v3 g ∧ w.grownBy v3 (some g) ∧ Blk v3 (w.heap.size + 1) 48 #[.int .i64 0, .int .i64 0, .int .i64 0, .int .i64 0, .slice none 0 0, .slice none 0 0]) := ⟨I3, J3, C3, G3, R3⟩
      clear C3 G3 R3 Q3 I3 J3
      go_wp2
      refine bodyPost_ret (v := rp (kd) (fl) ((pl + y)) (nn) a1 a2 l1 l2 c1 c2) (by simp [results, Try.results55, go_sem, y0, y1, y2, y3, y4, y5]) rfl ?_
      obtain ⟨OI, OB, CE, GE, RE⟩ := HH.out
      have hgR : g ≠ w.heap.size + 1 := by have := HX.out; omega
      have hwR : w0.heap.size ≤ w.heap.size + 1 := by have := HX.out; omega
      have hn1 : l1 ≤ l1 + 1 := by omega
      have hn2 : l2 ≤ l2 + 1 := by omega
      exact ⟨_, _, _, _, _, _, _, _, _, _, ws, bs, rfl, HL.out.1, HL.out.2, hn1, hn2, rowp_set6 OI ⟨_, RE⟩ (by decide), rowp_set6 OB ⟨_, RE⟩ (by decide), (((((CE.setHi hgR hwR).setHi hgR hwR).setHi hgR hwR).setHi hgR hwR).setHi hgR hwR).setHi hgR hwR, grown_setHi (grown_setHi (grown_setHi (grown_setHi (grown_setHi (grown_setHi GE (Nat.le_succ _)) (Nat.le_succ _)) (Nat.le_succ _)) (Nat.le_succ _)) (Nat.le_succ _)) (Nat.le_succ _)⟩
    refine AllReady.cons rfl (fun K hK => ?_) AllReady.nil
    go_simp
    refine hK _ _ ?_
    clear hK K
    refine wpAny_ready (rs := [1, 4]) (by kernel_rfl) (by simp) ?_
    refine AllReady.cons rfl (fun K hK => ?_) ?_
    · skip
      go_simp
      refine hK _ _ ?_
      clear hK K
      refine wpAny_ready (rs := [4]) (by kernel_rfl) (by simp) ?_
      refine AllReady.cons rfl (fun K hK => ?_) AllReady.nil
      go_simp
      go_wp2_with (go_at_call 85; refine (l1Int_any w0 a cap zs _ g ⟨u1.heap.size, 0, none⟩ 3 3 [1, -1, 65536] rfl (by omega) (by omega) IL hne Cd).mono ?_; rintro e t2 ⟨y, rfl, hy, C2, gg⟩; have hyb : -1 ≤ y ∧ y ≤ 65536 := (by simp at hy; omega); have hwz : IntKind.i64.wrap (pl + y) = pl + y := (by rw [IntKind.wrap_i64]; omega); have G2 := grown_trans Gd gg; have R2 := Rd.grown gg (by have := HX.out; simp; omega); have Q2 := Qd.grown gg (by have := HX.out; simp; omega); have I2 := OwnI.kept Id gg (row_ne_g Id HX.out.1); have J2 := OwnB.kept Jd gg (row_ne_g Jd HX.out.1); clear gg hy; obtain ⟨z0, z1, z2, z3, z4, z5⟩ := Q2.six; have fz := Q2.fro; clear k0 k1 k2 k3 k4 k5 hnq d1 IL hne Cd Gd Rd Qd Id Jd C1 G1 R1 Q1 I1 J1)
      try (refine hK _ _ ?_; clear hK K)
      refine wpAny_ready (rs := [5]) (by kernel_rfl) (by simp) ?_
      refine AllReady.cons rfl (fun K hK => ?_) AllReady.nil
      go_simp
      refine hK _ _ ?_
      clear hK K
      refine wpAny_ready (rs := [6]) (by kernel_rfl) (by simp) ?_
      refine AllReady.cons rfl (fun K hK => ?_) AllReady.nil
      go_simp
      refine hK _ _ ?_
      clear hK K
      refine wpAny_ready (rs := [7]) (by kernel_rfl) (by simp) ?_
      refine AllReady.cons rfl (fun K hK => ?_) AllReady.nil
      go_simp
      refine hK _ _ ?_
      clear hK K
      refine wpAny_done (by kernel_rfl) ?_ _
      go_upto_region 14 with fail
      have qc := True.intro
      have qf := True.intro
      have Q3 := Q2.set 2 (.int .i64 (pl + y))
      have R3 := R2.setNe (g' := w.heap.size) (j := 2) (y := .int .i64 (pl + y)) (by omega)
      have C3 := C2.setHi (G := w.heap.size) (j := 2) (y := .int .i64 (pl + y)) (by have := HX.out; omega) (by have := HX.out; omega)
      have G3 := grown_setHi (G := w.heap.size) (j := 2) (y := .int .i64 (pl + y)) G2 (Nat.le_refl _)
      have I3 : OwnI _ _ _ _ := row_setE (j := 2) (y := .int .i64 (pl + y)) I2 ⟨_, Q2⟩ (by decide)
      have J3 : OwnB _ _ _ _ := row_setE (j := 2) (y := .int .i64 (pl + y)) J2 ⟨_, Q2⟩ (by decide)
      obtain ⟨v3, hv3⟩ : ∃ v3, v3 = t2.setCell ⟨w.heap.size, 2, none⟩ (.int .i64 (pl + y)) := ⟨_, rfl⟩
      rw [← hv3] at Q3 R3 C3 G3 I3 J3 ⊢
      clear hv3 qc qf C2 G2 R2 Q2 I2 J2
      clear z0 z1 z2 z3 z4 z5 fz
      obtain ⟨q0, q1, q2, q3, q4, q5⟩ := Q3.six
      obtain ⟨y0, y1, y2, y3, y4, y5⟩ := R3.six
      have fy := R3.fro
      have HH : Hid (OwnI v3 base (.slice a1 l1 c1) ws ∧ OwnB v3 base (.slice a2 l2 c2) bs ∧ Cur w0 a cap zs v3 g ∧ w.grownBy v3 (some g) ∧ Blk v3 (w.heap.size + 1) 48 #[.int .i64 0, .int .i64 0, .int .i64 0, .int .i64 0, .slice none 0 0, .slice none 0 0]) := ⟨I3, J3, C3, G3, R3⟩
      clear C3 G3 R3 Q3 I3 J3
      go_wp2
      refine bodyPost_ret (v := rp (kd) (fl) ((pl + y)) (nn) a1 a2 l1 l2 c1 c2) (by simp [results, Try.results55, go_sem, y0, y1, y2, y3, y4, y5]) rfl ?_
      obtain ⟨OI, OB, CE, GE, RE⟩ := HH.out
      have hgR : g ≠ w.heap.size + 1 := by have := HX.out; omega
      have hwR : w0.heap.size ≤ w.heap.size + 1 := by have := HX.out; omega
      have hn1 : l1 ≤ l1 + 1 := by omega
      have hn2 : l2 ≤ l2 + 1 := by omega
      exact ⟨_, _, _, _, _, _, _, _, _, _, ws, bs, rfl, HL.out.1, HL.out.2, hn1, hn2, rowp_set6 OI ⟨_, RE⟩ (by decide), rowp_set6 OB ⟨_, RE⟩ (by decide), (((((CE.setHi hgR hwR).setHi hgR hwR).setHi hgR hwR).setHi hgR hwR).setHi hgR hwR).setHi hgR hwR, grown_setHi (grown_setHi (grown_setHi (grown_setHi (grown_setHi (grown_setHi GE (Nat.le_succ _)) (Nat.le_succ _)) (Nat.le_succ _)) (Nat.le_succ _)) (Nat.le_succ _)) (Nat.le_succ _)⟩
    refine AllReady.cons rfl (fun K hK => ?_) AllReady.nil
    go_simp
    go_wp2_with (go_at_call 85; refine (l1Int_any w0 a cap zs _ g ⟨u1.heap.size, 0, none⟩ 3 3 [1, -1, 65536] rfl (by omega) (by omega) IL hne Cd).mono ?_; rintro e t2 ⟨y, rfl, hy, C2, gg⟩; have hyb : -1 ≤ y ∧ y ≤ 65536 := (by simp at hy; omega); have hwz : IntKind.i64.wrap (pl + y) = pl + y := (by rw [IntKind.wrap_i64]; omega); have G2 := grown_trans Gd gg; have R2 := Rd.grown gg (by have := HX.out; simp; omega); have Q2 := Qd.grown gg (by have := HX.out; simp; omega); have I2 := OwnI.kept Id gg (row_ne_g Id HX.out.1); have J2 := OwnB.kept Jd gg (row_ne_g Jd HX.out.1); clear gg hy; obtain ⟨z0, z1, z2, z3, z4, z5⟩ := Q2.six; have fz := Q2.fro; clear k0 k1 k2 k3 k4 k5 hnq d1 IL hne Cd Gd Rd Qd Id Jd C1 G1 R1 Q1 I1 J1)
    try (refine hK _ _ ?_; clear hK K)
    refine wpAny_ready (rs := [1]) (by kernel_rfl) (by simp) ?_
    refine AllReady.cons rfl (fun K hK => ?_) AllReady.nil
    go_simp
    refine hK _ _ ?_
    clear hK K
    refine wpAny_ready (rs := [5]) (by kernel_rfl) (by simp) ?_
    refine AllReady.cons rfl (fun K hK => ?_) AllReady.nil
    go_simp
    refine hK _ _ ?_
    clear hK K
    refine wpAny_ready (rs := [6]) (by kernel_rfl) (by simp) ?_
    refine AllReady.cons rfl (fun K hK => ?_) AllReady.nil
    go_simp
    refine hK _ _ ?_
    clear hK K
    refine wpAny_ready (rs := [7]) (by kernel_rfl) (by simp) ?_
    refine AllReady.cons rfl (fun K hK => ?_) AllReady.nil
    go_simp
    refine hK _ _ ?_
    clear hK K
    refine wpAny_done (by kernel_rfl) ?_ _
    go_upto_region 14 with fail
    have qc := True.intro
    have qf := True.intro
    have Q3 := Q2.set 2 (.int .i64 (pl + y))
    have R3 := R2.setNe (g' := w.heap.size) (j := 2) (y := .int .i64 (pl + y)) (by omega)
    have C3 := C2.setHi (G := w.heap.size) (j := 2) (y := .int .i64 (pl + y)) (by have := HX.out; omega) (by have := HX.out; omega)
    have G3 := grown_setHi (G := w.heap.size) (j := 2) (y := .int .i64 (pl + y)) G2 (Nat.le_refl _)
    have I3 : OwnI _ _ _ _ := row_setE (j := 2) (y := .int .i64 (pl + y)) I2 ⟨_, Q2⟩ (by decide)
    have J3 : OwnB _ _ _ _ := row_setE (j := 2) (y := .int .i64 (pl + y)) J2 ⟨_, Q2⟩ (by decide)
    obtain ⟨v3, hv3⟩ : ∃ v3, v3 = t2.setCell ⟨w.heap.size, 2, none⟩ (.int .i64 (pl + y)) := ⟨_, rfl⟩
    rw [← hv3] at Q3 R3 C3 G3 I3 J3 ⊢
    clear hv3 qc qf C2 G2 R2 Q2 I2 J2
    clear z0 z1 z2 z3 z4 z5 fz
    obtain ⟨q0, q1, q2, q3, q4, q5⟩ := Q3.six
    obtain ⟨y0, y1, y2, y3, y4, y5⟩ := R3.six
    have fy := R3.fro
    have HH : Hid (OwnI v3 base (.slice a1 l1 c1) ws ∧ OwnB v3 base (.slice a2 l2 c2) bs ∧ Cur w0 a cap zs v3 g ∧ w.grownBy v3 (some g) ∧ Blk v3 (w.heap.size + 1) 48 #[.int .i64 0, .int .i64 0, .int .i64 0, .int .i64 0, .slice none 0 0, .slice none 0 0]) := ⟨I3, J3, C3, G3, R3⟩
    clear C3 G3 R3 Q3 I3 J3
    go_wp2
    refine bodyPost_ret (v := rp (kd) (fl) ((pl + y)) (nn) a1 a2 l1 l2 c1 c2) (by simp [results, Try.results55, go_sem, y0, y1, y2, y3, y4, y5]) rfl ?_
    obtain ⟨OI, OB, CE, GE, RE⟩ := HH.out
    have hgR : g ≠ w.heap.size + 1 := by have := HX.out; omega
    have hwR : w0.heap.size ≤ w.heap.size + 1 := by have := HX.out; omega
    have hn1 : l1 ≤ l1 + 1 := by omega
    have hn2 : l2 ≤ l2 + 1 := by omega
    exact ⟨_, _, _, _, _, _, _, _, _, _, ws, bs, rfl, HL.out.1, HL.out.2, hn1, hn2, rowp_set6 OI ⟨_, RE⟩ (by decide), rowp_set6 OB ⟨_, RE⟩ (by decide), (((((CE.setHi hgR hwR).setHi hgR hwR).setHi hgR hwR).setHi hgR hwR).setHi hgR hwR).setHi hgR hwR, grown_setHi (grown_setHi (grown_setHi (grown_setHi (grown_setHi (grown_setHi GE (Nat.le_succ _)) (Nat.le_succ _)) (Nat.le_succ _)) (Nat.le_succ _)) (Nat.le_succ _)) (Nat.le_succ _)⟩
  · clear hx
    go_upto_region 9 with fail
    have hwz : IntKind.i64.wrap (nn + 1) = nn + 1 := by rw [IntKind.wrap_i64]; omega
    have k3 := Q1.cell 3 rfl
    have qc := Q1.cell 3 rfl
    have qf := Q1.fro 3
    have Q2 := Q1.set 3 (.int .i64 (nn + 1))
    have R2 := R1.setNe (g' := w.heap.size) (j := 3) (y := .int .i64 (nn + 1)) (by omega)
    have C2 := C1.setHi (G := w.heap.size) (j := 3) (y := .int .i64 (nn + 1)) (by have := HX.out; omega) (by have := HX.out; omega)
    have G2 := grown_setHi (G := w.heap.size) (j := 3) (y := .int .i64 (nn + 1)) G1 (Nat.le_refl _)
    have I2 : OwnI _ _ _ _ := row_setE (j := 3) (y := .int .i64 (nn + 1)) I1 ⟨_, Q1⟩ (by decide)
    have J2 : OwnB _ _ _ _ := row_setE (j := 3) (y := .int .i64 (nn + 1)) J1 ⟨_, Q1⟩ (by decide)
    go_upto_region 14 with fail
    obtain ⟨v2, hv2⟩ : ∃ v2, v2 = u1.setCell ⟨w.heap.size, 3, none⟩ (.int .i64 (nn + 1)) := ⟨_, rfl⟩
    rw [← hv2] at Q2 R2 C2 G2 I2 J2 ⊢
    clear hv2 qc qf C1 G1 R1 Q1 I1 J1
    clear k3 hwz
    obtain ⟨q0, q1, q2, q3, q4, q5⟩ := Q2.six
    obtain ⟨y0, y1, y2, y3, y4, y5⟩ := R2.six
    have fy := R2.fro
    have HH : Hid (OwnI v2 base (.slice a1 l1 c1) ws ∧ OwnB v2 base (.slice a2 l2 c2) bs ∧ Cur w0 a cap zs v2 g ∧ w.grownBy v2 (some g) ∧ Blk v2 (w.heap.size + 1) 48 #[.int .i64 0, .int .i64 0, .int .i64 0, .int .i64 0, .slice none 0 0, .slice none 0 0]) := ⟨I2, J2, C2, G2, R2⟩
    clear C2 G2 R2 Q2 I2 J2
    go_wp2
    refine bodyPost_ret (v := rp (kd) (fl) (pl) ((nn + 1)) a1 a2 l1 l2 c1 c2) (by simp [results, Try.results55, go_sem, y0, y1, y2, y3, y4, y5]) rfl ?_
    obtain ⟨OI, OB, CE, GE, RE⟩ := HH.out
    have hgR : g ≠ w.heap.size + 1 := by have := HX.out; omega
    have hwR : w0.heap.size ≤ w.heap.size + 1 := by have := HX.out; omega
    have hn1 : l1 ≤ l1 + 1 := by omega
    have hn2 : l2 ≤ l2 + 1 := by omega
    exact ⟨_, _, _, _, _, _, _, _, _, _, ws, bs, rfl, HL.out.1, HL.out.2, hn1, hn2, rowp_set6 OI ⟨_, RE⟩ (by decide), rowp_set6 OB ⟨_, RE⟩ (by decide), (((((CE.setHi hgR hwR).setHi hgR hwR).setHi hgR hwR).setHi hgR hwR).setHi hgR hwR).setHi hgR hwR, grown_setHi (grown_setHi (grown_setHi (grown_setHi (grown_setHi (grown_setHi GE (Nat.le_succ _)) (Nat.le_succ _)) (Nat.le_succ _)) (Nat.le_succ _)) (Nat.le_succ _)) (Nat.le_succ _)⟩
  · clear hx
    go_upto_region 11 with fail
    have N2 := newI u1 w.heap.size G1.size
    have b' := bel_alloc u1 (.cells #[] 3)
    have C2 := C1.alloc (.cells #[] 3)
    have G2 := grown_trans G1 (grown_below b' (some g))
    have R2 := R1.below b'
    have Q2 := Q1.below b'
    have I2 := OwnI.below I1 b'
    have J2 := OwnB.below J1 b'
    clear b' C1 G1 R1 Q1 I1 J1
    have q3 := Q2.cell 4 rfl
    have hsz : w.heap.size ≤ (u1.alloc (.cells #[] 3)).heap.size := G2.size
    go_wp2_with (at_builtin; refine wpList_appIO rfl (.tmp 35) (.tmp 37) rfl w.heap.size (.slice (some ⟨u1.heap.size, 0, none⟩) 0 0) [] rfl N2 a1 l1 c1 ws rfl HL.out.1 I2.sl.2 (by have := HL.out; have := HX.out; simp; omega) hsz ?_; intro v' t3 N3 gg; obtain ⟨n1, n2, n3, rfl, hn3⟩ := ownI_shape N3; have HN3 : Hid (n3 = ([] ++ ws).length) := hn3; clear hn3)
    have C3 := C2.rowG N2 gg HX.out.2.2.2.1
    have G3 := grown_rowG G2 N2 gg
    have R3 := R2.row N2 gg (by decide)
    have Q3 := Q2.row N2 gg (by decide)
    have J3 := OwnB.kept J2 gg (ne_types J2 N2 (by decide))
    clear gg q3 hsz C2 G2 R2 Q2 I2 J2 N2
    have IL := ints_lit t3 [0, 65536] 3
    have hne : t3.heap.size ≠ g := by have := C3.hi; omega
    have b' := bel_alloc t3 (.cells ([0, 65536].map (Value.int .i64)).toArray 3)
    have C4 := C3.alloc (.cells ([0, 65536].map (Value.int .i64)).toArray 3)
    have G4 := grown_trans G3 (grown_below b' (some g))
    have R4 := R3.below b'
    have Q4 := Q3.below b'
    have J4 := OwnB.below J3 b'
    have N4 := OwnI.below N3 b'
    clear b' C3 G3 R3 Q3 J3 N3
    go_wp2_with fail
    refine (l1Int_any w0 a cap zs _ g ⟨t3.heap.size, 0, none⟩ 2 2 [0, 65536] rfl (by omega) (by omega) IL hne C4).mono ?_
    rintro e t5 ⟨y, rfl, _, C5, gg⟩
    have G5 := grown_trans G4 gg
    have R5 := R4.grown gg (by have := HX.out; simp; omega)
    have Q5 := Q4.grown gg (by have := HX.out; simp; omega)
    have J5 := OwnB.kept J4 gg (row_ne_g J4 HX.out.1)
    have N5 := OwnI.kept N4 gg (row_ne_g N4 HX.out.2.2.2.1)
    clear gg C4 G4 R4 Q4 J4 N4
    clear IL hne
    have b' := bel_alloc t5 (.cells #[.int .i64 y] 3)
    have C6 := C5.alloc (.cells #[.int .i64 y] 3)
    have G6 := grown_trans G5 (grown_below b' (some g))
    have R6 := R5.below b'
    have Q6 := Q5.below b'
    have J6 := OwnB.below J5 b'
    have N6 := OwnI.below N5 b'
    clear b' C5 G5 R5 Q5 J5 N5
    have hsz : w.heap.size ≤ (t5.alloc (.cells #[.int .i64 y] 3)).heap.size := G6.size
    go_upto_region 14 with (at_builtin; refine wpList_appI rfl (.tmp 38) (.tmp 42) rfl w.heap.size (.slice n1 n3 n2) ([] ++ ws) rfl N6 ⟨t5.heap.size, 0, none⟩ 1 1 [y] rfl rfl (lit_slI1' _ _ rfl) (by have := HL.out; have := HX.out; simp; omega) hsz ?_; intro v' t7 I7 gg; obtain ⟨m1, m2, m3, rfl, hm3⟩ := ownI_shape I7; have HM3 : Hid (m3 = ([] ++ ws ++ [y]).length) := hm3; have Q' := Q6.row N6 gg (by decide); have qc := Q'.cell 4 rfl; have qf := Q'.fro 4; clear hm3 Q')
    have C7 := C6.rowG N6 gg HX.out.2.2.2.1
    have G7 := grown_rowG G6 N6 gg
    have R7 := R6.row N6 gg (by decide)
    have Q7 := Q6.row N6 gg (by decide)
    have J7 := OwnB.kept J6 gg (ne_types J6 N6 (by decide))
    clear gg hsz C6 G6 R6 Q6 J6 N6
    have I7 := OwnI.mono I7 HX.out.2.1
    have Q8 := Q7.set 4 (.slice m1 m3 m2)
    have R8 := R7.setNe (g' := w.heap.size) (j := 4) (y := .slice m1 m3 m2) (by omega)
    have C8 := C7.setHi (G := w.heap.size) (j := 4) (y := .slice m1 m3 m2) (by have := HX.out; omega) (by have := HX.out; omega)
    have G8 := grown_setHi (G := w.heap.size) (j := 4) (y := .slice m1 m3 m2) G7 (Nat.le_refl _)
    have I8 : OwnI _ _ _ _ := row_setE (j := 4) (y := .slice m1 m3 m2) I7 ⟨_, Q7⟩ (by decide)
    have J8 : OwnB _ _ _ _ := row_setE (j := 4) (y := .slice m1 m3 m2) J7 ⟨_, Q7⟩ (by decide)
    obtain ⟨v8, hv8⟩ : ∃ v8, v8 = t7.setCell ⟨w.heap.size, 4, none⟩ (.slice m1 m3 m2) := ⟨_, rfl⟩
    rw [← hv8] at Q8 R8 C8 G8 I8 J8 ⊢
    clear hv8 qc qf C7 G7 R7 Q7 I7 J7
    obtain ⟨q0, q1, q2, q3, q4, q5⟩ := Q8.six
    obtain ⟨y0, y1, y2, y3, y4, y5⟩ := R8.six
    have fy := R8.fro
    have HH : Hid (OwnI v8 base (.slice m1 m3 m2) ([] ++ ws ++ [y]) ∧ OwnB v8 base (.slice a2 l2 c2) bs ∧ Cur w0 a cap zs v8 g ∧ w.grownBy v8 (some g) ∧ Blk v8 (w.heap.size + 1) 48 #[.int .i64 0, .int .i64 0, .int .i64 0, .int .i64 0, .slice none 0 0, .slice none 0 0]) := ⟨I8, J8, C8, G8, R8⟩
    clear C8 G8 R8 Q8 I8 J8
    go_wp2
    refine bodyPost_ret (v := rp (kd) (fl) (pl) (nn) m1 a2 m3 l2 m2 c2) (by simp [results, Try.results55, go_sem, y0, y1, y2, y3, y4, y5]) rfl ?_
    obtain ⟨OI, OB, CE, GE, RE⟩ := HH.out
    have hgR : g ≠ w.heap.size + 1 := by have := HX.out; omega
    have hwR : w0.heap.size ≤ w.heap.size + 1 := by have := HX.out; omega
    have hn1 : m3 ≤ l1 + 1 := by have h := HM3.out; have := HL.out; simp at h; omega
    have hn2 : l2 ≤ l2 + 1 := by omega
    exact ⟨_, _, _, _, _, _, _, _, _, _, ([] ++ ws ++ [y]), bs, rfl, HM3.out, HL.out.2, hn1, hn2, rowp_set6 OI ⟨_, RE⟩ (by decide), rowp_set6 OB ⟨_, RE⟩ (by decide), (((((CE.setHi hgR hwR).setHi hgR hwR).setHi hgR hwR).setHi hgR hwR).setHi hgR hwR).setHi hgR hwR, grown_setHi (grown_setHi (grown_setHi (grown_setHi (grown_setHi (grown_setHi GE (Nat.le_succ _)) (Nat.le_succ _)) (Nat.le_succ _)) (Nat.le_succ _)) (Nat.le_succ _)) (Nat.le_succ _)⟩
  · clear hx
    go_upto_region 13 with fail
    have N2 := newB u1 w.heap.size G1.size
    have b' := bel_alloc u1 (.cells #[] 4)
    have C2 := C1.alloc (.cells #[] 4)
    have G2 := grown_trans G1 (grown_below b' (some g))
    have R2 := R1.below b'
    have Q2 := Q1.below b'
    have I2 := OwnI.below I1 b'
    have J2 := OwnB.below J1 b'
    clear b' C1 G1 R1 Q1 I1 J1
    have q4 := Q2.cell 5 rfl
    have hsz : w.heap.size ≤ (u1.alloc (.cells #[] 4)).heap.size := G2.size
    go_upto_region 14 with (first | (at_builtin; refine wpList_appBO rfl (.tmp 47) (.tmp 49) rfl w.heap.size (.slice (some ⟨u1.heap.size, 0, none⟩) 0 0) [] rfl N2 a2 l2 c2 bs rfl HL.out.2 J2.sl.2 (by have := HL.out; have := HX.out; simp; omega) hsz ?_; intro v' t3 N3 gg; obtain ⟨n1, n2, n3, rfl, hn3⟩ := ownB_shape N3; have HN3 : Hid (n3 = ([] ++ bs).length) := hn3; have G3 := grown_rowG G2 N2 gg; have hsz2 := Nat.le_trans G3.size (bel_alloc t3 (.cells #[.bool true] 4)).size; clear hn3) | (at_builtin; refine wpList_appBO rfl (.tmp 50) (.tmp 51) rfl w.heap.size (.slice n1 n3 n2) ([] ++ bs) rfl (OwnB.below N3 (bel_alloc _ _)) (some ⟨t3.heap.size, 0, none⟩) 1 1 [true] rfl rfl (lit_slB1 _ _ rfl) (by have := HL.out; have := HX.out; simp; omega) hsz2 ?_; intro v' t4 J4 gg2; obtain ⟨m1, m2, m3, rfl, hm3⟩ := ownB_shape J4; have HM3 : Hid (m3 = ([] ++ bs ++ [true]).length) := hm3; have Q' := ((Q2.row N2 gg (by decide)).below (bel_alloc t3 (.cells #[.bool true] 4))).row (OwnB.below N3 (bel_alloc _ _)) gg2 (by decide); have qc := Q'.cell 5 rfl; have qf := Q'.fro 5; clear hm3 Q'))
    have b' := bel_alloc t3 (.cells #[.bool true] 4)
    have N' := OwnB.below N3 b'
    have C4 := ((C2.rowG N2 gg HX.out.2.2.2.1).alloc (.cells #[.bool true] 4)).rowG N' gg2 HX.out.2.2.2.1
    have G4 := grown_rowG (grown_trans G3 (grown_below b' (some g))) N' gg2
    have R4 := ((R2.row N2 gg (by decide)).below b').row N' gg2 (by decide)
    have Q4 := ((Q2.row N2 gg (by decide)).below b').row N' gg2 (by decide)
    have I4' := OwnI.below (OwnI.kept I2 gg (ne_types I2 N2 (by decide))) b'
    have I4 := OwnI.kept I4' gg2 (ne_types I4' N' (by decide))
    clear gg gg2 q4 hsz hsz2 b' N' I4' N3 G3 C2 G2 R2 Q2 I2 J2 N2
    have J4 := OwnB.mono J4 HX.out.2.1
    have Q5 := Q4.set 5 (.slice m1 m3 m2)
    have R5 := R4.setNe (g' := w.heap.size) (j := 5) (y := .slice m1 m3 m2) (by omega)
    have C5 := C4.setHi (G := w.heap.size) (j := 5) (y := .slice m1 m3 m2) (by have := HX.out; omega) (by have := HX.out; omega)
    have G5 := grown_setHi (G := w.heap.size) (j := 5) (y := .slice m1 m3 m2) G4 (Nat.le_refl _)
    have I5 : OwnI _ _ _ _ := row_setE (j := 5) (y := .slice m1 m3 m2) I4 ⟨_, Q4⟩ (by decide)
    have J5 : OwnB _ _ _ _ := row_setE (j := 5) (y := .slice m1 m3 m2) J4 ⟨_, Q4⟩ (by decide)
    obtain ⟨v5, hv5⟩ : ∃ v5, v5 = t4.setCell ⟨w.heap.size, 5, none⟩ (.slice m1 m3 m2) := ⟨_, rfl⟩
    rw [← hv5] at Q5 R5 C5 G5 I5 J5 ⊢
    clear hv5 qc qf C4 G4 R4 Q4 I4 J4
    obtain ⟨q0, q1, q2, q3, q4, q5⟩ := Q5.six
    obtain ⟨y0, y1, y2, y3, y4, y5⟩ := R5.six
    have fy := R5.fro
    have HH : Hid (OwnI v5 base (.slice a1 l1 c1) ws ∧ OwnB v5 base (.slice m1 m3 m2) ([] ++ bs ++ [true]) ∧ Cur w0 a cap zs v5 g ∧ w.grownBy v5 (some g) ∧ Blk v5 (w.heap.size + 1) 48 #[.int .i64 0, .int .i64 0, .int .i64 0, .int .i64 0, .slice none 0 0, .slice none 0 0]) := ⟨I5, J5, C5, G5, R5⟩
    clear C5 G5 R5 Q5 I5 J5
    go_wp2
    refine bodyPost_ret (v := rp (kd) (fl) (pl) (nn) a1 m1 l1 m3 c1 m2) (by simp [results, Try.results55, go_sem, y0, y1, y2, y3, y4, y5]) rfl ?_
    obtain ⟨OI, OB, CE, GE, RE⟩ := HH.out
    have hgR : g ≠ w.heap.size + 1 := by have := HX.out; omega
    have hwR : w0.heap.size ≤ w.heap.size + 1 := by have := HX.out; omega
    have hn1 : l1 ≤ l1 + 1 := by omega
    have hn2 : m3 ≤ l2 + 1 := by have h := HM3.out; have := HL.out; simp at h; omega
    exact ⟨_, _, _, _, _, _, _, _, _, _, ws, ([] ++ bs ++ [true]), rfl, HL.out.1, HM3.out, hn1, hn2, rowp_set6 OI ⟨_, RE⟩ (by decide), rowp_set6 OB ⟨_, RE⟩ (by decide), (((((CE.setHi hgR hwR).setHi hgR hwR).setHi hgR hwR).setHi hgR hwR).setHi hgR hwR).setHi hgR hwR, grown_setHi (grown_setHi (grown_setHi (grown_setHi (grown_setHi (grown_setHi GE (Nat.le_succ _)) (Nat.le_succ _)) (Nat.le_succ _)) (Nat.le_succ _)) (Nat.le_succ _)) (Nat.le_succ _)⟩
  · clear hx
    obtain ⟨q0, q1, q2, q3, q4, q5⟩ := Q1.six
    obtain ⟨y0, y1, y2, y3, y4, y5⟩ := R1.six
    have fy := R1.fro
    have HH : Hid (OwnI u1 base (.slice a1 l1 c1) ws ∧ OwnB u1 base (.slice a2 l2 c2) bs ∧ Cur w0 a cap zs u1 g ∧ w.grownBy u1 (some g) ∧ Blk u1 (w.heap.size + 1) 48 #[.int .i64 0, .int .i64 0, .int .i64 0, .int .i64 0, .slice none 0 0, .slice none 0 0]) := ⟨I1, J1, C1, G1, R1⟩
    clear C1 G1 R1 Q1 I1 J1
    go_wp2
    refine bodyPost_ret (v := rp (kd) (fl) (pl) (nn) a1 a2 l1 l2 c1 c2) (by simp [results, Try.results55, go_sem, y0, y1, y2, y3, y4, y5]) rfl ?_
    obtain ⟨OI, OB, CE, GE, RE⟩ := HH.out
    have hgR : g ≠ w.heap.size + 1 := by have := HX.out; omega
    have hwR : w0.heap.size ≤ w.heap.size + 1 := by have := HX.out; omega
    have hn1 : l1 ≤ l1 + 1 := by omega
    have hn2 : l2 ≤ l2 + 1 := by omega
    exact ⟨_, _, _, _, _, _, _, _, _, _, ws, bs, rfl, HL.out.1, HL.out.2, hn1, hn2, rowp_set6 OI ⟨_, RE⟩ (by decide), rowp_set6 OB ⟨_, RE⟩ (by decide), (((((CE.setHi hgR hwR).setHi hgR hwR).setHi hgR hwR).setHi hgR hwR).setHi hgR hwR).setHi hgR hwR, grown_setHi (grown_setHi (grown_setHi (grown_setHi (grown_setHi (grown_setHi GE (Nat.le_succ _)) (Nat.le_succ _)) (Nat.le_succ _)) (Nat.le_succ _)) (Nat.le_succ _)) (Nat.le_succ _)⟩

end Go.Proofs.Ytcnbbknmofonkaa

namespace Go.Proofs.Ytcnbbknmofonkaa
open Go.RowKit

set_option linter.unusedVariables false

set_option linter.unusedSimpArgs false

theorem Blk.setNe6 {u : World} {g B : Nat} {t : TypeId} {cs : Array Value} {v0 v1 v2 v3 v4 v5 : Value} (h : Blk u g t cs) (hne : g ≠ B) : Blk ((((((u.setCell ⟨B, 0, none⟩ v0).setCell ⟨B, 1, none⟩ v1).setCell ⟨B, 2, none⟩ v2).setCell ⟨B, 3, none⟩ v3).setCell ⟨B, 4, none⟩ v4).setCell ⟨B, 5, none⟩ v5) g t cs :=
  (((((h.setNe hne).setNe hne).setNe hne).setNe hne).setNe hne).setNe hne

set_option maxRecDepth 20000 in
set_option maxHeartbeats 4000000 in
theorem l4DrawAny_any (w0 : World) (a : Option Addr) (cap : Nat) (zs : List Int) (w : World) (g : Nat) (hC : Cur w0 a cap zs w g) :
    Calls Try.prog 57 #[.pointer (some ⟨g, 0, none⟩)] w fun e w' => RespAt w0 a cap zs w.heap.size 1000 3000 w g e w' := by
  obtain ⟨W0, hW0⟩ : ∃ W0, W0 = w.alloc (.cells #[.int .i64 0, .int .i64 0, .int .i64 0, .int .i64 0, .slice none 0 0, .slice none 0 0] 48) := ⟨_, rfl⟩
  have HW : Hid (W0 = _) := hW0
  have C0 : Cur w0 a cap zs W0 g := by rw [hW0]; exact hC.alloc _
  have G0 : w.grownBy W0 (some g) := by rw [hW0]; exact World.grownBy_alloc _ _ _
  have R0 : Blk W0 w.heap.size 48 #[.int .i64 0, .int .i64 0, .int .i64 0, .int .i64 0, .slice none 0 0, .slice none 0 0] := by rw [hW0]; exact Blk.new _ _ _
  have HX : Hid (g < w.heap.size ∧ w0.heap.size ≤ g) := ⟨hC.hi, hC.lo⟩
  clear hC hW0
  go_enter Try.func57, Try.ntmps57
  go_wp2_with fail
  rw [← HW.out]
  refine (l3DrawN_any w0 a cap zs W0 g C0).mono ?_
  rintro e z1 ⟨kd, pl, nn, wa, a1, a2, l1, l2, c1, c2, ws, bs, rfl, e1, e2, m1, m2, _, oi, oj, C1, gg, hpn⟩
  have G1 := grown_trans G0 gg
  have R1 := R0.grown gg (by have := HX.out; simp; omega)
  have I1 := OwnI.mono oi G0.size
  have J1 := OwnB.mono oj G0.size
  have HE : Hid (l1 = ws.length ∧ l2 = bs.length ∧ l1 ≤ 6 ∧ l2 ≤ 20 ∧ 0 ≤ pl ∧ pl ≤ 100 ∧ 0 ≤ nn ∧ nn ≤ 100) := ⟨e1, e2, m1, m2, hpn⟩
  clear gg oi oj e1 e2 m1 m2 hpn C0 G0 R0
  go_wp2_with fail
  refine (l4Draw_any w0 a cap zs z1 g kd pl nn wa a1 a2 l1 l2 c1 c2 ws bs HE.out.1 HE.out.2.1 (by have := HE.out; omega) (by have := HE.out; omega) (by have := HE.out; omega) (by have := HE.out; omega) w.heap.size HX.out.1 I1 J1 C1).mono ?_
  rintro e z2 ⟨kd2, fl2, pl2, nn2, a12, a22, l12, l22, c12, c22, ws2, bs2, rfl, e1, e2, m1, m2, oi, oj, C2, gg, hpn⟩
  have G2 := grown_trans G1 gg
  have R2 := R1.grown gg (by have := HX.out; simp; omega)
  have I2 := OwnI.mono oi G1.size
  have J2 := OwnB.mono oj G1.size
  have HE2 : Hid (l12 = ws2.length ∧ l22 = bs2.length ∧ l12 ≤ 900 ∧ l22 ≤ 2900 ∧ 0 ≤ pl2 ∧ pl2 ≤ 65535 ∧ 0 ≤ nn2 ∧ nn2 ≤ 2900) := ⟨e1, e2, m1, m2, hpn⟩
  clear gg oi oj e1 e2 m1 m2 hpn C1 G1 R1 I1 J1 HE
  obtain ⟨z3, hz3⟩ : ∃ z3, z3 = z2.alloc (.cells #[.int .i64 kd2, .int .i64 fl2, .int .i64 pl2, .int .i64 nn2, .slice a12 l12 c12, .slice a22 l22 c22] 48) := ⟨_, rfl⟩
  have HU : Hid (z3 = _) := hz3
  obtain ⟨B, hB⟩ : ∃ B, B = z2.heap.size := ⟨_, rfl⟩
  have HBe : Hid (B = z2.heap.size) := hB
  have HB : Hid (w.heap.size < B) := by show w.heap.size < B; have := R2.lt; omega
  have bz : Below z2.heap.size z2 z3 := by rw [hz3]; exact bel_alloc _ _
  have C3 : Cur w0 a cap zs z3 g := by rw [hz3]; exact C2.alloc _
  have Q3 : Blk z3 B 48 #[.int .i64 kd2, .int .i64 fl2, .int .i64 pl2, .int .i64 nn2, .slice a12 l12 c12, .slice a22 l22 c22] := by rw [hz3, hB]; exact Blk.new _ _ _
  have R3 := R2.below bz
  have I3 := OwnI.below I2 bz
  have J3 := OwnB.below J2 bz
  have G3 := grown_trans G2 (grown_below bz (some g))
  clear hz3 hB bz C2 R2 I2 J2 G2
  go_wp2_with fail
  rw [← HU.out]
  simp only [← HBe.out]
  refine (l1Once_any w0 a cap zs _ g _ (by decide) C3).mono ?_
  rintro e z4 ⟨t, rfl, C4, gg⟩
  have G4 := grown_trans G3 gg
  have R4 := R3.grown gg (by have := HX.out; simp; omega)
  have Q4 := Q3.grown gg (by have := HX.out; have := HB.out; simp; omega)
  have I4 := OwnI.kept I3 gg (row_ne_g I3 HX.out.1)
  have J4 := OwnB.kept J3 gg (row_ne_g J3 HX.out.1)
  clear gg C3 G3 R3 Q3 I3 J3
  obtain ⟨q0, q1, q2, q3, q4, q5⟩ := Q4.six
  cases t
  · obtain ⟨y0, y1, y2, y3, y4, y5⟩ := R4.six
    have fy := R4.fro
    have HH := hide (show OwnI z4 w.heap.size (.slice a12 l12 c12) ws2 ∧ OwnB z4 w.heap.size (.slice a22 l22 c22) bs2 ∧ Cur w0 a cap zs z4 g ∧ w.grownBy z4 (some g) ∧ Blk z4 w.heap.size 48 #[.int .i64 0, .int .i64 0, .int .i64 0, .int .i64 0, .slice none 0 0, .slice none 0 0] from ⟨I4, J4, C4, G4, R4⟩)
    clear I4 J4 C4 G4 R4 Q4
    go_wp2
    refine bodyPost_ret (v := rp kd2 fl2 pl2 nn2 a12 a22 l12 l22 c12 c22) (by simp [results, Try.results57, go_sem, y0, y1, y2, y3, y4, y5]) rfl ?_
    obtain ⟨OI, OB, CE, GE, RE⟩ := HH.out
    exact ⟨_, _, _, _, _, _, _, _, _, _, ws2, bs2, rfl, HE2.out.1, HE2.out.2.1, by have := HE2.out; omega, by have := HE2.out; omega, rowp_set6 OI ⟨_, RE⟩ (by decide), rowp_set6 OB ⟨_, RE⟩ (by decide), st6_cur CE (by have := HX.out; omega) (by have := HX.out; omega), st6_grown GE (Nat.le_refl _)⟩
  · go_wp2_with fail
    refine (l4Bend_any w0 a cap zs z4 g kd2 fl2 pl2 nn2 a12 a22 l12 l22 c12 c22 ws2 bs2 w.heap.size HE2.out.1 HE2.out.2.1 (by have := HE2.out; omega) (by have := HE2.out; omega) HE2.out.2.2.2.2 HX.out.1 G4.size I4 J4 C4).mono ?_
    rintro e z5 ⟨kd5, fl5, pl5, nn5, a15, a25, l15, l25, c15, c25, ws5, bs5, rfl, e1, e2, m1, m2, I5, J5, C5, gg⟩
    have G5 := grown_trans G4 gg
    have R5 := R4.grown gg (by have := HX.out; simp; omega)
    have Q5 := Q4.grown gg (by have := HX.out; have := HB.out; simp; omega)
    have HE5 : Hid (l15 = ws5.length ∧ l25 = bs5.length ∧ l15 ≤ 1000 ∧ l25 ≤ 3000) := ⟨e1, e2, by have := HE2.out; omega, by have := HE2.out; omega⟩
    clear gg C4 G4 R4 Q4 I4 J4 e1 e2 m1 m2 q0 q1 q2 q3 q4 q5
    obtain ⟨q0, q1, q2, q3, q4, q5⟩ := Q5.six
    have fq := Q5.fro
    go_upto_region 4 with fail
    have Q6 : Blk ((((((z5.setCell ⟨B, 0, none⟩ (.int .i64 kd5)).setCell ⟨B, 1, none⟩ (.int .i64 fl5)).setCell ⟨B, 2, none⟩ (.int .i64 pl5)).setCell ⟨B, 3, none⟩ (.int .i64 nn5)).setCell ⟨B, 4, none⟩ (.slice a15 l15 c15)).setCell ⟨B, 5, none⟩ (.slice a25 l25 c25)) B 48 #[.int .i64 kd5, .int .i64 fl5, .int .i64 pl5, .int .i64 nn5, .slice a15 l15 c15, .slice a25 l25 c25] := Blk.set6 Q5
    have R6 : Blk ((((((z5.setCell ⟨B, 0, none⟩ (.int .i64 kd5)).setCell ⟨B, 1, none⟩ (.int .i64 fl5)).setCell ⟨B, 2, none⟩ (.int .i64 pl5)).setCell ⟨B, 3, none⟩ (.int .i64 nn5)).setCell ⟨B, 4, none⟩ (.slice a15 l15 c15)).setCell ⟨B, 5, none⟩ (.slice a25 l25 c25)) w.heap.size 48 #[.int .i64 0, .int .i64 0, .int .i64 0, .int .i64 0, .slice none 0 0, .slice none 0 0] := R5.setNe6 (by have := HB.out; omega)
    have I6 : OwnI ((((((z5.setCell ⟨B, 0, none⟩ (.int .i64 kd5)).setCell ⟨B, 1, none⟩ (.int .i64 fl5)).setCell ⟨B, 2, none⟩ (.int .i64 pl5)).setCell ⟨B, 3, none⟩ (.int .i64 nn5)).setCell ⟨B, 4, none⟩ (.slice a15 l15 c15)).setCell ⟨B, 5, none⟩ (.slice a25 l25 c25)) w.heap.size (.slice a15 l15 c15) ws5 := rowp_set6 I5 ⟨_, Q5⟩ (by decide)
    have J6 : OwnB ((((((z5.setCell ⟨B, 0, none⟩ (.int .i64 kd5)).setCell ⟨B, 1, none⟩ (.int .i64 fl5)).setCell ⟨B, 2, none⟩ (.int .i64 pl5)).setCell ⟨B, 3, none⟩ (.int .i64 nn5)).setCell ⟨B, 4, none⟩ (.slice a15 l15 c15)).setCell ⟨B, 5, none⟩ (.slice a25 l25 c25)) w.heap.size (.slice a25 l25 c25) bs5 := rowp_set6 J5 ⟨_, Q5⟩ (by decide)
    have C6 : Cur w0 a cap zs ((((((z5.setCell ⟨B, 0, none⟩ (.int .i64 kd5)).setCell ⟨B, 1, none⟩ (.int .i64 fl5)).setCell ⟨B, 2, none⟩ (.int .i64 pl5)).setCell ⟨B, 3, none⟩ (.int .i64 nn5)).setCell ⟨B, 4, none⟩ (.slice a15 l15 c15)).setCell ⟨B, 5, none⟩ (.slice a25 l25 c25)) g := st6_cur C5 (by have := HX.out; have := HB.out; omega) (by have := HX.out; have := HB.out; omega)
    have G6 : w.grownBy ((((((z5.setCell ⟨B, 0, none⟩ (.int .i64 kd5)).setCell ⟨B, 1, none⟩ (.int .i64 fl5)).setCell ⟨B, 2, none⟩ (.int .i64 pl5)).setCell ⟨B, 3, none⟩ (.int .i64 nn5)).setCell ⟨B, 4, none⟩ (.slice a15 l15 c15)).setCell ⟨B, 5, none⟩ (.slice a25 l25 c25)) (some g) := st6_grown G5 (by have := HB.out; omega)
    generalize ((((((z5.setCell ⟨B, 0, none⟩ (.int .i64 kd5)).setCell ⟨B, 1, none⟩ (.int .i64 fl5)).setCell ⟨B, 2, none⟩ (.int .i64 pl5)).setCell ⟨B, 3, none⟩ (.int .i64 nn5)).setCell ⟨B, 4, none⟩ (.slice a15 l15 c15)).setCell ⟨B, 5, none⟩ (.slice a25 l25 c25)) = z6 at *
    clear q0 q1 q2 q3 q4 q5 fq Q5 R5 I5 J5 C5 G5
    obtain ⟨q0, q1, q2, q3, q4, q5⟩ := Q6.six
    obtain ⟨y0, y1, y2, y3, y4, y5⟩ := R6.six
    have fy := R6.fro
    have HH := hide (show OwnI z6 w.heap.size (.slice a15 l15 c15) ws5 ∧ OwnB z6 w.heap.size (.slice a25 l25 c25) bs5 ∧ Cur w0 a cap zs z6 g ∧ w.grownBy z6 (some g) ∧ Blk z6 w.heap.size 48 #[.int .i64 0, .int .i64 0, .int .i64 0, .int .i64 0, .slice none 0 0, .slice none 0 0] from ⟨I6, J6, C6, G6, R6⟩)
    clear I6 J6 C6 G6 R6 Q6
    go_wp2
    refine bodyPost_ret (v := rp kd5 fl5 pl5 nn5 a15 a25 l15 l25 c15 c25) (by simp [results, Try.results57, go_sem, y0, y1, y2, y3, y4, y5]) rfl ?_
    obtain ⟨OI, OB, CE, GE, RE⟩ := HH.out
    exact ⟨_, _, _, _, _, _, _, _, _, _, ws5, bs5, rfl, HE5.out.1, HE5.out.2.1, HE5.out.2.2.1, HE5.out.2.2.2, rowp_set6 OI ⟨_, RE⟩ (by decide), rowp_set6 OB ⟨_, RE⟩ (by decide), st6_cur CE (by have := HX.out; omega) (by have := HX.out; omega), st6_grown GE (Nat.le_refl _)⟩

/-- A new answer. -/
def NewResp (w : World) (e : Ending) (w' : World) : Prop :=
  ∃ (kd fl pl nn : Int) (a1 a2 : Option Addr) (l1 l2 c1 c2 : Nat) (ws : List Int) (bs : List Bool), e = .returned (rp kd fl pl nn a1 a2 l1 l2 c1 c2) ∧ l1 = ws.length ∧ l2 = bs.length ∧ l1 ≤ 1000 ∧ l2 ≤ 3000 ∧ OwnI w' w.heap.size (.slice a1 l1 c1) ws ∧ OwnB w' w.heap.size (.slice a2 l2 c2) bs ∧ Below w.heap.size w w'

end Go.Proofs.Ytcnbbknmofonkaa

namespace Go.Proofs.Ytcnbbknmofonkaa
open Go.RowKit

set_option linter.unusedVariables false

set_option linter.unusedSimpArgs false

/-- What drawing a question and an answer ends with. -/
def DrawnQA (w : World) (e : Ending) (w' : World) : Prop :=
  ∃ (kd pl nn wa : Int) (q1 q2 : Option Addr) (m1 m2 k1 k2 : Nat) (qs : List Int) (qb : List Bool) (kd' fl ap an : Int) (a1 a2 : Option Addr) (l1 l2 c1 c2 : Nat) (ws : List Int) (bs : List Bool),
    e = .returned (.tuple #[rq kd pl nn wa q1 q2 m1 m2 k1 k2, rp kd' fl ap an a1 a2 l1 l2 c1 c2]) ∧ m1 ≤ 5000 ∧ m2 ≤ 5000 ∧ l1 ≤ 5000 ∧ l2 ≤ 5000 ∧ OwnI w' w.heap.size (.slice q1 m1 k1) qs ∧ OwnB w' w.heap.size (.slice q2 m2 k2) qb ∧ OwnI w' w.heap.size (.slice a1 l1 c1) ws ∧ OwnB w' w.heap.size (.slice a2 l2 c2) bs ∧ Below w.heap.size w w'

/-- What is known while they are drawn. -/
structure QA (W0 : World) (a : Option Addr) (cap : Nat) (zs : List Int) (z1 : World) (g Q R : Nat) (u : World) (kd pl nn wa : Int) (q1 q2 : Option Addr) (m1 m2 k1 k2 : Nat) (qs : List Int) (qb : List Bool) (kd' fl ap an : Int) (a1 a2 : Option Addr) (l1 l2 c1 c2 : Nat) (ws : List Int) (bs : List Bool) : Prop where
  y : Blk u Q 46 #[.int .i64 kd, .int .i64 pl, .int .i64 nn, .slice q1 m1 k1, .slice q2 m2 k2, .int .i64 wa]
  x : Blk u R 48 #[.int .i64 kd', .int .i64 fl, .int .i64 ap, .int .i64 an, .slice a1 l1 c1, .slice a2 l2 c2]
  i : OwnI u z1.heap.size (.slice q1 m1 k1) qs
  j : OwnB u z1.heap.size (.slice q2 m2 k2) qb
  i2 : OwnI u z1.heap.size (.slice a1 l1 c1) ws
  j2 : OwnB u z1.heap.size (.slice a2 l2 c2) bs
  c : Cur W0 a cap zs u g
  bd : g < z1.heap.size ∧ W0.heap.size ≤ g ∧ z1.heap.size ≤ Q ∧ Q < R ∧ m1 ≤ 5000 ∧ m2 ≤ 5000 ∧ l1 ≤ 5000 ∧ l2 ≤ 5000

theorem QA.call {W0 : World} {a : Option Addr} {cap : Nat} {zs : List Int} {z1 : World} {g Q R : Nat} {u t : World} {kd pl nn wa : Int} {q1 q2 : Option Addr} {m1 m2 k1 k2 : Nat} {qs : List Int} {qb : List Bool} {kd' fl ap an : Int} {a1 a2 : Option Addr} {l1 l2 c1 c2 : Nat} {ws : List Int} {bs : List Bool} (h : QA W0 a cap zs z1 g Q R u kd pl nn wa q1 q2 m1 m2 k1 k2 qs qb kd' fl ap an a1 a2 l1 l2 c1 c2 ws bs) (hC : Cur W0 a cap zs t g) (gg : u.grownBy t (some g)) : QA W0 a cap zs z1 g Q R t kd pl nn wa q1 q2 m1 m2 k1 k2 qs qb kd' fl ap an a1 a2 l1 l2 c1 c2 ws bs :=
  ⟨h.y.grown gg (by have := h.bd; simp; omega), h.x.grown gg (by have := h.bd; simp; omega), OwnI.kept h.i gg (row_ne_g h.i h.bd.1), OwnB.kept h.j gg (row_ne_g h.j h.bd.1), OwnI.kept h.i2 gg (row_ne_g h.i2 h.bd.1), OwnB.kept h.j2 gg (row_ne_g h.j2 h.bd.1), hC, h.bd⟩

set_option maxRecDepth 20000 in
set_option maxHeartbeats 1000000 in
theorem DrawSuits_any (w : World) (a : Option Addr) (n cap : Nat) (zs : List Int) (hn : n = zs.length) (hs : Sl w a zs) (hr : ∀ z ∈ zs, 0 ≤ z ∧ z ≤ 255) (hl : zs.length ≤ 1048576) :
    Calls Try.prog 21 #[.slice a n cap] w fun e w' => DrawnQA w e w' := by
  obtain ⟨W0, hW0⟩ : ∃ W0, W0 = (w.alloc (.cells #[.int .i64 0, .int .i64 0, .int .i64 0, .slice none 0 0, .slice none 0 0, .int .i64 0] 46)).alloc (.cells #[.int .i64 0, .int .i64 0, .int .i64 0, .int .i64 0, .slice none 0 0, .slice none 0 0] 48) := ⟨_, rfl⟩
  have HW : Hid (W0 = _) := hW0
  have bw : Below w.heap.size w W0 := by rw [hW0]; exact bel_next (bel_alloc _ _) (bel_alloc _ _)
  have R1 : Blk W0 w.heap.size 46 #[.int .i64 0, .int .i64 0, .int .i64 0, .slice none 0 0, .slice none 0 0, .int .i64 0] := by rw [hW0]; exact (Blk.new _ _ _).below (bel_alloc _ _)
  have R2 : Blk W0 (w.heap.size + 1) 48 #[.int .i64 0, .int .i64 0, .int .i64 0, .int .i64 0, .slice none 0 0, .slice none 0 0] := by rw [hW0]; have := Blk.new (w.alloc (.cells #[.int .i64 0, .int .i64 0, .int .i64 0, .slice none 0 0, .slice none 0 0, .int .i64 0] 46)) #[.int .i64 0, .int .i64 0, .int .i64 0, .int .i64 0, .slice none 0 0, .slice none 0 0] 48; simpa using this
  have HS : Hid (Sl W0 a zs) := hs.below bw
  have HN : Hid (n = zs.length) := hn
  have HR : Hid (∀ z ∈ zs, 0 ≤ z ∧ z ≤ 255) := hr
  have HB : Hid (Below w.heap.size w W0) := bw
  have HR0 : Hid (Blk W0 w.heap.size 46 #[.int .i64 0, .int .i64 0, .int .i64 0, .slice none 0 0, .slice none 0 0, .int .i64 0] ∧ Blk W0 (w.heap.size + 1) 48 #[.int .i64 0, .int .i64 0, .int .i64 0, .int .i64 0, .slice none 0 0, .slice none 0 0]) := ⟨R1, R2⟩
  clear hW0 hs hn hr bw R1 R2
  go_enter Try.func21, Try.ntmps21
  go_upto_region 1 with fail
  rw [← HW.out]
  go_wp2_with fail
  refine (l1New_any W0 a n cap zs HN.out HS.out HR.out hl).mono ?_
  rintro e z1 ⟨rfl, C1, _⟩
  obtain ⟨g, hg⟩ : ∃ g, g = W0.heap.size := ⟨_, rfl⟩
  rw [← hg] at C1
  simp only [← hg]
  have HG : Hid (g = W0.heap.size) := hg
  have hgz : g < z1.heap.size := C1.hi
  clear hg
  go_wp2_with fail
  refine (l3DrawN_any W0 a cap zs z1 g C1).mono ?_
  rintro e z2 ⟨kd, pl, nn, wa, q1, q2, m1, m2, k1, k2, qs, qb, rfl, e1, e2, hm1, hm2, _, i2, j2, C2, g2, hpn⟩
  have hz2 : z1.heap.size ≤ z2.heap.size := g2.size
  have b' := bel_alloc z2 (.cells #[.int .i64 kd, .int .i64 pl, .int .i64 nn, .slice q1 m1 k1, .slice q2 m2 k2, .int .i64 wa] 46)
  have Y3 := Blk.new z2 #[.int .i64 kd, .int .i64 pl, .int .i64 nn, .slice q1 m1 k1, .slice q2 m2 k2, .int .i64 wa] 46
  have i3 := OwnI.below i2 b'
  have j3 := OwnB.below j2 b'
  have C3 := C2.alloc (.cells #[.int .i64 kd, .int .i64 pl, .int .i64 nn, .slice q1 m1 k1, .slice q2 m2 k2, .int .i64 wa] 46)
  obtain ⟨z3, hz3⟩ : ∃ z3, z3 = z2.alloc (.cells #[.int .i64 kd, .int .i64 pl, .int .i64 nn, .slice q1 m1 k1, .slice q2 m2 k2, .int .i64 wa] 46) := ⟨_, rfl⟩
  rw [← hz3] at Y3 i3 j3 C3
  obtain ⟨Q, hQ⟩ : ∃ Q, Q = z2.heap.size := ⟨_, rfl⟩
  rw [← hQ] at Y3
  have HZ3 : Hid (z3 = _) := hz3
  have HQ : Hid (Q = z2.heap.size) := hQ
  have hQz : z1.heap.size ≤ Q := by omega
  have HE : Hid (m1 = qs.length ∧ m2 = qb.length ∧ m1 ≤ 6 ∧ m2 ≤ 20) := ⟨e1, e2, hm1, hm2⟩
  clear C1 C2 g2 i2 j2 b' hz3 hQ e1 e2 hm1 hm2
  obtain ⟨y0, y1, y2, y3, y4, y5⟩ := Y3.six
  go_upto_region 3 with fail
  simp only [← HQ.out]
  rw [← HZ3.out]
  go_wp2_with fail
  refine (l4Draw_any W0 a cap zs _ g kd pl nn wa q1 q2 m1 m2 k1 k2 qs qb HE.out.1 HE.out.2.1 (by have := HE.out; omega) (by have := HE.out; omega) (by omega) (by omega) z1.heap.size hgz i3 j3 C3).mono ?_
  rintro e z4 ⟨kd', fl, ap, an, a1, a2, l1, l2, c1, c2, ws, bs, rfl, e1, e2, hl1, hl2, i4, j4, C4, gg, hpn2⟩
  have hz4 := gg.size
  have hz34 : z1.heap.size ≤ z3.heap.size := by have := Y3.lt; omega
  have i5 := OwnI.mono i4 hz34
  have j5 := OwnB.mono j4 hz34
  have Y4 := Y3.grown gg (by simp; omega)
  have I4 := OwnI.kept (OwnI.mono i3 (show z1.heap.size ≤ z1.heap.size by omega)) gg (row_ne_g i3 hgz)
  have J4 := OwnB.kept (OwnB.mono j3 (show z1.heap.size ≤ z1.heap.size by omega)) gg (row_ne_g j3 hgz)
  have hQ4 := Y4.lt
  have HP2 : Hid (0 ≤ ap ∧ ap ≤ 65535 ∧ 0 ≤ an ∧ an ≤ 2900) := hpn2
  have HE2 : Hid (l1 = ws.length ∧ l2 = bs.length ∧ l1 ≤ 900 ∧ l2 ≤ 2900) := ⟨e1, e2, hl1, hl2⟩
  have b' := bel_alloc z4 (.cells #[.int .i64 kd', .int .i64 fl, .int .i64 ap, .int .i64 an, .slice a1 l1 c1, .slice a2 l2 c2] 48)
  have X5 := Blk.new z4 #[.int .i64 kd', .int .i64 fl, .int .i64 ap, .int .i64 an, .slice a1 l1 c1, .slice a2 l2 c2] 48
  have C5 := C4.alloc (.cells #[.int .i64 kd', .int .i64 fl, .int .i64 ap, .int .i64 an, .slice a1 l1 c1, .slice a2 l2 c2] 48)
  obtain ⟨z5, hz5⟩ : ∃ z5, z5 = z4.alloc (.cells #[.int .i64 kd', .int .i64 fl, .int .i64 ap, .int .i64 an, .slice a1 l1 c1, .slice a2 l2 c2] 48) := ⟨_, rfl⟩
  obtain ⟨R, hR⟩ : ∃ R, R = z4.heap.size := ⟨_, rfl⟩
  rw [← hz5] at X5 C5 b'
  rw [← hR] at X5
  have L5 : QA W0 a cap zs z1 g Q R z5 kd pl nn wa q1 q2 m1 m2 k1 k2 qs qb kd' fl ap an a1 a2 l1 l2 c1 c2 ws bs := ⟨Y4.below b', X5, OwnI.below I4 b', OwnB.below J4 b', OwnI.below i5 b', OwnB.below j5 b', C5, ⟨hgz, by have := HG.out; omega, hQz, by omega, by have := HE.out; omega, by have := HE.out; omega, by omega, by omega⟩⟩
  have HZ5 : Hid (z5 = _) := hz5
  have HRR : Hid (R = z4.heap.size) := hR
  clear hz5 hR X5 C5 b' I4 J4 i5 j5 Y4 Y3 i3 j3 C3 C4 i4 j4 gg hpn2 e1 e2 hl1 hl2 hpn y0 y1 y2 y3 y4 y5 hz4 hz34 hQ4
  go_upto_region 4 with fail
  simp only [← HRR.out]
  rw [← HZ5.out]
  go_wp2_with fail
  refine (l1Below_any W0 a cap zs _ g _ (by decide) L5.c).mono ?_
  rintro e z6 ⟨x, rfl, hx, C6, gg⟩
  have L6 := L5.call C6 gg
  have hz16 : z1.heap.size ≤ z6.heap.size := by have := L6.x.lt; have := L6.bd; omega
  clear L5 C6 gg
  by_cases e0 : x = 0
  · subst e0
    obtain ⟨x0, x1, x2, x3, x4, x5⟩ := L6.x.six
    go_wp2_with fail
    refine (l4Bend_any W0 a cap zs _ g kd' fl ap an a1 a2 l1 l2 c1 c2 ws bs z1.heap.size HE2.out.1 HE2.out.2.1 (by have := HE2.out; omega) (by have := HE2.out; omega) HP2.out hgz hz16 L6.i2 L6.j2 L6.c).mono ?_
    rintro e z7 ⟨kx9, fl9, ap9, an9, a19, a29, l19, l29, c19, c29, ws9, bs9, rfl, e1, e2, hl1, hl2, i9, j9, C9, gg⟩
    have L7 := L6.call C9 gg
    have f7 := L7.x.fro
    have LZ : QA W0 a cap zs z1 g Q R ((((((z7.setCell ⟨R, 0, none⟩ (.int .i64 kx9)).setCell ⟨R, 1, none⟩ (.int .i64 fl9)).setCell ⟨R, 2, none⟩ (.int .i64 ap9)).setCell ⟨R, 3, none⟩ (.int .i64 an9)).setCell ⟨R, 4, none⟩ (.slice a19 l19 c19)).setCell ⟨R, 5, none⟩ (.slice a29 l29 c29)) kd pl nn wa q1 q2 m1 m2 k1 k2 qs qb kx9 fl9 ap9 an9 a19 a29 l19 l29 c19 c29 ws9 bs9 :=
      ⟨((((((L7.y.setNe (by have := L6.bd; omega)).setNe (by have := L6.bd; omega)).setNe (by have := L6.bd; omega)).setNe (by have := L6.bd; omega)).setNe (by have := L6.bd; omega)).setNe (by have := L6.bd; omega)), ((((((L7.x.set 0 (.int .i64 kx9)).set 1 (.int .i64 fl9)).set 2 (.int .i64 ap9)).set 3 (.int .i64 an9)).set 4 (.slice a19 l19 c19)).set 5 (.slice a29 l29 c29)), rowp_set6 L7.i ⟨_, L7.x⟩ (by decide), rowp_set6 L7.j ⟨_, L7.x⟩ (by decide), rowp_set6 i9 ⟨_, L7.x⟩ (by decide), rowp_set6 j9 ⟨_, L7.x⟩ (by decide), ((((((C9.setHi (by have := L6.bd; omega) (by have := L6.bd; omega)).setHi (by have := L6.bd; omega) (by have := L6.bd; omega)).setHi (by have := L6.bd; omega) (by have := L6.bd; omega)).setHi (by have := L6.bd; omega) (by have := L6.bd; omega)).setHi (by have := L6.bd; omega) (by have := L6.bd; omega)).setHi (by have := L6.bd; omega) (by have := L6.bd; omega)), ⟨L6.bd.1, L6.bd.2.1, L6.bd.2.2.1, L6.bd.2.2.2.1, L6.bd.2.2.2.2.1, L6.bd.2.2.2.2.2.1, by have := HE2.out; omega, by have := HE2.out; omega⟩⟩
    obtain ⟨zz, hzz⟩ : ∃ zz, zz = ((((((z7.setCell ⟨R, 0, none⟩ (.int .i64 kx9)).setCell ⟨R, 1, none⟩ (.int .i64 fl9)).setCell ⟨R, 2, none⟩ (.int .i64 ap9)).setCell ⟨R, 3, none⟩ (.int .i64 an9)).setCell ⟨R, 4, none⟩ (.slice a19 l19 c19)).setCell ⟨R, 5, none⟩ (.slice a29 l29 c29)) := ⟨_, rfl⟩
    rw [← hzz] at LZ
    have HZZ : Hid (zz = _) := hzz
    clear x0 x1 x2 x3 x4 x5 hzz i9 j9 C9 gg e1 e2 hl1 hl2 L6
    obtain ⟨x0, x1, x2, x3, x4, x5⟩ := L7.x.six
    clear L7
    go_upto_region 8 with fail
    rw [← HZZ.out]
    clear x0 x1 x2 x3 x4 x5 f7
    have bz : Below zz.heap.size zz zz.drew := (Below.refl _ _).drew
    obtain ⟨z, hz⟩ : ∃ z, z = zz.drew := ⟨_, rfl⟩
    rw [← hz] at bz
    have X10 := LZ.x.below bz
    have Y10 := LZ.y.below bz
    have C10 := LZ.c.grown (grown_below bz none) (by simp) (by simp)
    have R1 := HR0.out.1.below C10.bel
    have R2 := HR0.out.2.below C10.bel
    have B10 := bel_next HB.out C10.bel
    have hzw : w.heap.size ≤ z1.heap.size := by have := HB.out.size; have := HG.out; have := LZ.bd; omega
    have i10 := OwnI.mono (OwnI.below LZ.i bz) hzw
    have j10 := OwnB.mono (OwnB.below LZ.j bz) hzw
    have i11 := OwnI.mono (OwnI.below LZ.i2 bz) hzw
    have j11 := OwnB.mono (OwnB.below LZ.j2 bz) hzw
    have hgw : w.heap.size + 2 ≤ g := by have h1 := HG.out; have h2 := HR0.out.2.lt; omega
    have hq1 : Q ≠ w.heap.size := by have := LZ.bd; omega
    have hv1 : R ≠ w.heap.size := by have := LZ.bd; omega
    have hv2 : R ≠ w.heap.size + 1 := by have := LZ.bd; omega
    have hq2 : Q ≠ w.heap.size + 1 := by have := LZ.bd; omega
    have X14 := ((((((X10.setNe (g' := w.heap.size) (j := 0) (y := .int .i64 kd) hv1).setNe (g' := w.heap.size) (j := 1) (y := .int .i64 pl) hv1).setNe (g' := w.heap.size) (j := 2) (y := .int .i64 nn) hv1).setNe (g' := w.heap.size) (j := 3) (y := .slice q1 m1 k1) hv1).setNe (g' := w.heap.size) (j := 4) (y := .slice q2 m2 k2) hv1).setNe (g' := w.heap.size) (j := 5) (y := .int .i64 wa) hv1)
    have R14 := ((((((R2.setNe (g' := w.heap.size) (j := 0) (y := .int .i64 kd) (by omega)).setNe (g' := w.heap.size) (j := 1) (y := .int .i64 pl) (by omega)).setNe (g' := w.heap.size) (j := 2) (y := .int .i64 nn) (by omega)).setNe (g' := w.heap.size) (j := 3) (y := .slice q1 m1 k1) (by omega)).setNe (g' := w.heap.size) (j := 4) (y := .slice q2 m2 k2) (by omega)).setNe (g' := w.heap.size) (j := 5) (y := .int .i64 wa) (by omega))
    have P14 : Blk _ w.heap.size 46 #[.int .i64 kd, .int .i64 pl, .int .i64 nn, .slice q1 m1 k1, .slice q2 m2 k2, .int .i64 wa] := ((((((R1.set 0 (.int .i64 kd)).set 1 (.int .i64 pl)).set 2 (.int .i64 nn)).set 3 (.slice q1 m1 k1)).set 4 (.slice q2 m2 k2)).set 5 (.int .i64 wa))
    have P20 := ((((((P14.setNe (g' := w.heap.size + 1) (j := 0) (y := .int .i64 kx9) (by omega)).setNe (g' := w.heap.size + 1) (j := 1) (y := .int .i64 fl9) (by omega)).setNe (g' := w.heap.size + 1) (j := 2) (y := .int .i64 ap9) (by omega)).setNe (g' := w.heap.size + 1) (j := 3) (y := .int .i64 an9) (by omega)).setNe (g' := w.heap.size + 1) (j := 4) (y := .slice a19 l19 c19) (by omega)).setNe (g' := w.heap.size + 1) (j := 5) (y := .slice a29 l29 c29) (by omega))
    have R20 : Blk _ (w.heap.size + 1) 48 #[.int .i64 kx9, .int .i64 fl9, .int .i64 ap9, .int .i64 an9, .slice a19 l19 c19, .slice a29 l29 c29] := ((((((R14.set 0 (.int .i64 kx9)).set 1 (.int .i64 fl9)).set 2 (.int .i64 ap9)).set 3 (.int .i64 an9)).set 4 (.slice a19 l19 c19)).set 5 (.slice a29 l29 c29))
    have HF : Hid (DrawnQA w (.returned (.tuple #[rq kd pl nn wa q1 q2 m1 m2 k1 k2, rp kx9 fl9 ap9 an9 a19 a29 l19 l29 c19 c29])) ((((((((((((z.setCell ⟨w.heap.size, 0, none⟩ (.int .i64 kd)).setCell ⟨w.heap.size, 1, none⟩ (.int .i64 pl)).setCell ⟨w.heap.size, 2, none⟩ (.int .i64 nn)).setCell ⟨w.heap.size, 3, none⟩ (.slice q1 m1 k1)).setCell ⟨w.heap.size, 4, none⟩ (.slice q2 m2 k2)).setCell ⟨w.heap.size, 5, none⟩ (.int .i64 wa)).setCell ⟨w.heap.size + 1, 0, none⟩ (.int .i64 kx9)).setCell ⟨w.heap.size + 1, 1, none⟩ (.int .i64 fl9)).setCell ⟨w.heap.size + 1, 2, none⟩ (.int .i64 ap9)).setCell ⟨w.heap.size + 1, 3, none⟩ (.int .i64 an9)).setCell ⟨w.heap.size + 1, 4, none⟩ (.slice a19 l19 c19)).setCell ⟨w.heap.size + 1, 5, none⟩ (.slice a29 l29 c29))) :=
      ⟨_, _, _, _, _, _, _, _, _, _, _, _, _, _, _, _, _, _, _, _, _, _, _, _, rfl, LZ.bd.2.2.2.2.1, LZ.bd.2.2.2.2.2.1, LZ.bd.2.2.2.2.2.2.1, LZ.bd.2.2.2.2.2.2.2, rowp_set6 (rowp_set6 i10 ⟨_, R1⟩ (by decide)) ⟨_, R14⟩ (by decide), rowp_set6 (rowp_set6 j10 ⟨_, R1⟩ (by decide)) ⟨_, R14⟩ (by decide), rowp_set6 (rowp_set6 i11 ⟨_, R1⟩ (by decide)) ⟨_, R14⟩ (by decide), rowp_set6 (rowp_set6 j11 ⟨_, R1⟩ (by decide)) ⟨_, R14⟩ (by decide), belp_set6 (belp_set6 B10 (Nat.le_refl _)) (Nat.le_succ _)⟩
    obtain ⟨x0, x1, x2, x3, x4, x5⟩ := X10.six
    obtain ⟨y0, y1, y2, y3, y4, y5⟩ := Y10.six
    obtain ⟨t0, t1, t2, t3, t4, t5⟩ := X14.six
    obtain ⟨r0, r1, r2, r3, r4, r5⟩ := R1.six
    obtain ⟨s0, s1, s2, s3, s4, s5⟩ := R14.six
    obtain ⟨u0, u1, u2, u3, u4, u5⟩ := P20.six
    obtain ⟨v0, v1, v2, v3, v4, v5⟩ := R20.six
    have f1 := R1.fro
    have f2 := R14.fro
    have HZ : Hid (z = zz.drew) := hz
    clear LZ R1 R2 B10 hzw bz hz X10 Y10 C10 i10 j10 i11 j11 X14 R14 P14 P20 R20 hgw
    go_upto_region 8 with fail
    refine wp_region_any (by kernel_rfl) ?_
    (try (change wpAny _ _ _ _ _ _ _ (World.drew _)))
    rw [← HZ.out]
    refine wpAny_ready (rs := [0, 1]) (by kernel_rfl) (by simp) ?_
    refine AllReady.cons rfl (fun K hK => ?_) ?_
    · skip
      go_simp
      refine hK _ _ ?_
      clear hK K
      refine wpAny_ready (rs := [1, 2]) (by kernel_rfl) (by simp) ?_
      refine AllReady.cons rfl (fun K hK => ?_) ?_
      · skip
        go_simp
        refine hK _ _ ?_
        clear hK K
        refine wpAny_ready (rs := [2]) (by kernel_rfl) (by simp) ?_
        refine AllReady.cons rfl (fun K hK => ?_) AllReady.nil
        go_simp
        refine hK _ _ ?_
        clear hK K
        refine wpAny_ready (rs := [3]) (by kernel_rfl) (by simp) ?_
        refine AllReady.cons rfl (fun K hK => ?_) AllReady.nil
        go_simp
        refine hK _ _ ?_
        clear hK K
        refine wpAny_done (by kernel_rfl) ?_ _
        go_wp2
        refine bodyPost_ret (v := .tuple #[rq kd pl nn wa q1 q2 m1 m2 k1 k2, rp kx9 fl9 ap9 an9 a19 a29 l19 l29 c19 c29]) (by simp [results, Try.results21, go_sem, u0, u1, u2, u3, u4, u5, v0, v1, v2, v3, v4, v5]) rfl ?_
        exact HF.out
      refine AllReady.cons rfl (fun K hK => ?_) AllReady.nil
      go_simp
      refine hK _ _ ?_
      clear hK K
      refine wpAny_ready (rs := [1]) (by kernel_rfl) (by simp) ?_
      refine AllReady.cons rfl (fun K hK => ?_) AllReady.nil
      go_simp
      refine hK _ _ ?_
      clear hK K
      refine wpAny_ready (rs := [3]) (by kernel_rfl) (by simp) ?_
      refine AllReady.cons rfl (fun K hK => ?_) AllReady.nil
      go_simp
      refine hK _ _ ?_
      clear hK K
      refine wpAny_done (by kernel_rfl) ?_ _
      go_wp2
      refine bodyPost_ret (v := .tuple #[rq kd pl nn wa q1 q2 m1 m2 k1 k2, rp kx9 fl9 ap9 an9 a19 a29 l19 l29 c19 c29]) (by simp [results, Try.results21, go_sem, u0, u1, u2, u3, u4, u5, v0, v1, v2, v3, v4, v5]) rfl ?_
      exact HF.out
    refine AllReady.cons rfl (fun K hK => ?_) AllReady.nil
    go_simp
    refine hK _ _ ?_
    clear hK K
    refine wpAny_ready (rs := [0]) (by kernel_rfl) (by simp) ?_
    refine AllReady.cons rfl (fun K hK => ?_) AllReady.nil
    go_simp
    refine hK _ _ ?_
    clear hK K
    refine wpAny_ready (rs := [2]) (by kernel_rfl) (by simp) ?_
    refine AllReady.cons rfl (fun K hK => ?_) AllReady.nil
    go_simp
    refine hK _ _ ?_
    clear hK K
    refine wpAny_ready (rs := [3]) (by kernel_rfl) (by simp) ?_
    refine AllReady.cons rfl (fun K hK => ?_) AllReady.nil
    go_simp
    refine hK _ _ ?_
    clear hK K
    refine wpAny_done (by kernel_rfl) ?_ _
    go_wp2
    refine bodyPost_ret (v := .tuple #[rq kd pl nn wa q1 q2 m1 m2 k1 k2, rp kx9 fl9 ap9 an9 a19 a29 l19 l29 c19 c29]) (by simp [results, Try.results21, go_sem, u0, u1, u2, u3, u4, u5, v0, v1, v2, v3, v4, v5]) rfl ?_
    exact HF.out
  by_cases e1 : x = 1
  · subst e1
    obtain ⟨y0, y1, y2, y3, y4, y5⟩ := L6.y.six
    go_wp2_with fail
    refine (l3Bend_any W0 a cap zs _ g kd pl nn wa q1 q2 m1 m2 k1 k2 qs qb z1.heap.size HE.out.1 HE.out.2.1 (by have := HE.out; omega) (by have := HE.out; omega) hgz hz16 L6.i L6.j L6.c).mono ?_
    rintro e z7 ⟨kd9, pl9, nn9, wa9, q19, q29, m19, m29, k19, k29, qs9, qb9, rfl, e1, e2, hl1, hl2, i9, j9, C9, gg⟩
    have L7 := L6.call C9 gg
    have f7 := L7.y.fro
    have LZ : QA W0 a cap zs z1 g Q R ((((((z7.setCell ⟨Q, 0, none⟩ (.int .i64 kd9)).setCell ⟨Q, 1, none⟩ (.int .i64 pl9)).setCell ⟨Q, 2, none⟩ (.int .i64 nn9)).setCell ⟨Q, 3, none⟩ (.slice q19 m19 k19)).setCell ⟨Q, 4, none⟩ (.slice q29 m29 k29)).setCell ⟨Q, 5, none⟩ (.int .i64 wa9)) kd9 pl9 nn9 wa9 q19 q29 m19 m29 k19 k29 qs9 qb9 kd' fl ap an a1 a2 l1 l2 c1 c2 ws bs :=
      ⟨((((((L7.y.set 0 (.int .i64 kd9)).set 1 (.int .i64 pl9)).set 2 (.int .i64 nn9)).set 3 (.slice q19 m19 k19)).set 4 (.slice q29 m29 k29)).set 5 (.int .i64 wa9)), ((((((L7.x.setNe (by have := L6.bd; omega)).setNe (by have := L6.bd; omega)).setNe (by have := L6.bd; omega)).setNe (by have := L6.bd; omega)).setNe (by have := L6.bd; omega)).setNe (by have := L6.bd; omega)), rowp_set6 i9 ⟨_, L7.y⟩ (by decide), rowp_set6 j9 ⟨_, L7.y⟩ (by decide), rowp_set6 L7.i2 ⟨_, L7.y⟩ (by decide), rowp_set6 L7.j2 ⟨_, L7.y⟩ (by decide), ((((((C9.setHi (by have := L6.bd; omega) (by have := L6.bd; omega)).setHi (by have := L6.bd; omega) (by have := L6.bd; omega)).setHi (by have := L6.bd; omega) (by have := L6.bd; omega)).setHi (by have := L6.bd; omega) (by have := L6.bd; omega)).setHi (by have := L6.bd; omega) (by have := L6.bd; omega)).setHi (by have := L6.bd; omega) (by have := L6.bd; omega)), ⟨L6.bd.1, L6.bd.2.1, L6.bd.2.2.1, L6.bd.2.2.2.1, by have := HE.out; omega, by have := HE.out; omega, L6.bd.2.2.2.2.2.2.1, L6.bd.2.2.2.2.2.2.2⟩⟩
    obtain ⟨zz, hzz⟩ : ∃ zz, zz = ((((((z7.setCell ⟨Q, 0, none⟩ (.int .i64 kd9)).setCell ⟨Q, 1, none⟩ (.int .i64 pl9)).setCell ⟨Q, 2, none⟩ (.int .i64 nn9)).setCell ⟨Q, 3, none⟩ (.slice q19 m19 k19)).setCell ⟨Q, 4, none⟩ (.slice q29 m29 k29)).setCell ⟨Q, 5, none⟩ (.int .i64 wa9)) := ⟨_, rfl⟩
    rw [← hzz] at LZ
    have HZZ : Hid (zz = _) := hzz
    clear y0 y1 y2 y3 y4 y5 hzz i9 j9 C9 gg e1 e2 hl1 hl2 L6
    obtain ⟨y0, y1, y2, y3, y4, y5⟩ := L7.y.six
    clear L7
    go_upto_region 8 with fail
    rw [← HZZ.out]
    clear y0 y1 y2 y3 y4 y5 f7
    have bz : Below zz.heap.size zz zz.drew := (Below.refl _ _).drew
    obtain ⟨z, hz⟩ : ∃ z, z = zz.drew := ⟨_, rfl⟩
    rw [← hz] at bz
    have X10 := LZ.x.below bz
    have Y10 := LZ.y.below bz
    have C10 := LZ.c.grown (grown_below bz none) (by simp) (by simp)
    have R1 := HR0.out.1.below C10.bel
    have R2 := HR0.out.2.below C10.bel
    have B10 := bel_next HB.out C10.bel
    have hzw : w.heap.size ≤ z1.heap.size := by have := HB.out.size; have := HG.out; have := LZ.bd; omega
    have i10 := OwnI.mono (OwnI.below LZ.i bz) hzw
    have j10 := OwnB.mono (OwnB.below LZ.j bz) hzw
    have i11 := OwnI.mono (OwnI.below LZ.i2 bz) hzw
    have j11 := OwnB.mono (OwnB.below LZ.j2 bz) hzw
    have hgw : w.heap.size + 2 ≤ g := by have h1 := HG.out; have h2 := HR0.out.2.lt; omega
    have hq1 : Q ≠ w.heap.size := by have := LZ.bd; omega
    have hv1 : R ≠ w.heap.size := by have := LZ.bd; omega
    have hv2 : R ≠ w.heap.size + 1 := by have := LZ.bd; omega
    have hq2 : Q ≠ w.heap.size + 1 := by have := LZ.bd; omega
    have X14 := ((((((X10.setNe (g' := w.heap.size) (j := 0) (y := .int .i64 kd9) hv1).setNe (g' := w.heap.size) (j := 1) (y := .int .i64 pl9) hv1).setNe (g' := w.heap.size) (j := 2) (y := .int .i64 nn9) hv1).setNe (g' := w.heap.size) (j := 3) (y := .slice q19 m19 k19) hv1).setNe (g' := w.heap.size) (j := 4) (y := .slice q29 m29 k29) hv1).setNe (g' := w.heap.size) (j := 5) (y := .int .i64 wa9) hv1)
    have R14 := ((((((R2.setNe (g' := w.heap.size) (j := 0) (y := .int .i64 kd9) (by omega)).setNe (g' := w.heap.size) (j := 1) (y := .int .i64 pl9) (by omega)).setNe (g' := w.heap.size) (j := 2) (y := .int .i64 nn9) (by omega)).setNe (g' := w.heap.size) (j := 3) (y := .slice q19 m19 k19) (by omega)).setNe (g' := w.heap.size) (j := 4) (y := .slice q29 m29 k29) (by omega)).setNe (g' := w.heap.size) (j := 5) (y := .int .i64 wa9) (by omega))
    have P14 : Blk _ w.heap.size 46 #[.int .i64 kd9, .int .i64 pl9, .int .i64 nn9, .slice q19 m19 k19, .slice q29 m29 k29, .int .i64 wa9] := ((((((R1.set 0 (.int .i64 kd9)).set 1 (.int .i64 pl9)).set 2 (.int .i64 nn9)).set 3 (.slice q19 m19 k19)).set 4 (.slice q29 m29 k29)).set 5 (.int .i64 wa9))
    have P20 := ((((((P14.setNe (g' := w.heap.size + 1) (j := 0) (y := .int .i64 kd') (by omega)).setNe (g' := w.heap.size + 1) (j := 1) (y := .int .i64 fl) (by omega)).setNe (g' := w.heap.size + 1) (j := 2) (y := .int .i64 ap) (by omega)).setNe (g' := w.heap.size + 1) (j := 3) (y := .int .i64 an) (by omega)).setNe (g' := w.heap.size + 1) (j := 4) (y := .slice a1 l1 c1) (by omega)).setNe (g' := w.heap.size + 1) (j := 5) (y := .slice a2 l2 c2) (by omega))
    have R20 : Blk _ (w.heap.size + 1) 48 #[.int .i64 kd', .int .i64 fl, .int .i64 ap, .int .i64 an, .slice a1 l1 c1, .slice a2 l2 c2] := ((((((R14.set 0 (.int .i64 kd')).set 1 (.int .i64 fl)).set 2 (.int .i64 ap)).set 3 (.int .i64 an)).set 4 (.slice a1 l1 c1)).set 5 (.slice a2 l2 c2))
    have HF : Hid (DrawnQA w (.returned (.tuple #[rq kd9 pl9 nn9 wa9 q19 q29 m19 m29 k19 k29, rp kd' fl ap an a1 a2 l1 l2 c1 c2])) ((((((((((((z.setCell ⟨w.heap.size, 0, none⟩ (.int .i64 kd9)).setCell ⟨w.heap.size, 1, none⟩ (.int .i64 pl9)).setCell ⟨w.heap.size, 2, none⟩ (.int .i64 nn9)).setCell ⟨w.heap.size, 3, none⟩ (.slice q19 m19 k19)).setCell ⟨w.heap.size, 4, none⟩ (.slice q29 m29 k29)).setCell ⟨w.heap.size, 5, none⟩ (.int .i64 wa9)).setCell ⟨w.heap.size + 1, 0, none⟩ (.int .i64 kd')).setCell ⟨w.heap.size + 1, 1, none⟩ (.int .i64 fl)).setCell ⟨w.heap.size + 1, 2, none⟩ (.int .i64 ap)).setCell ⟨w.heap.size + 1, 3, none⟩ (.int .i64 an)).setCell ⟨w.heap.size + 1, 4, none⟩ (.slice a1 l1 c1)).setCell ⟨w.heap.size + 1, 5, none⟩ (.slice a2 l2 c2))) :=
      ⟨_, _, _, _, _, _, _, _, _, _, _, _, _, _, _, _, _, _, _, _, _, _, _, _, rfl, LZ.bd.2.2.2.2.1, LZ.bd.2.2.2.2.2.1, LZ.bd.2.2.2.2.2.2.1, LZ.bd.2.2.2.2.2.2.2, rowp_set6 (rowp_set6 i10 ⟨_, R1⟩ (by decide)) ⟨_, R14⟩ (by decide), rowp_set6 (rowp_set6 j10 ⟨_, R1⟩ (by decide)) ⟨_, R14⟩ (by decide), rowp_set6 (rowp_set6 i11 ⟨_, R1⟩ (by decide)) ⟨_, R14⟩ (by decide), rowp_set6 (rowp_set6 j11 ⟨_, R1⟩ (by decide)) ⟨_, R14⟩ (by decide), belp_set6 (belp_set6 B10 (Nat.le_refl _)) (Nat.le_succ _)⟩
    obtain ⟨x0, x1, x2, x3, x4, x5⟩ := X10.six
    obtain ⟨y0, y1, y2, y3, y4, y5⟩ := Y10.six
    obtain ⟨t0, t1, t2, t3, t4, t5⟩ := X14.six
    obtain ⟨r0, r1, r2, r3, r4, r5⟩ := R1.six
    obtain ⟨s0, s1, s2, s3, s4, s5⟩ := R14.six
    obtain ⟨u0, u1, u2, u3, u4, u5⟩ := P20.six
    obtain ⟨v0, v1, v2, v3, v4, v5⟩ := R20.six
    have f1 := R1.fro
    have f2 := R14.fro
    have HZ : Hid (z = zz.drew) := hz
    clear LZ R1 R2 B10 hzw bz hz X10 Y10 C10 i10 j10 i11 j11 X14 R14 P14 P20 R20 hgw
    go_upto_region 8 with fail
    refine wp_region_any (by kernel_rfl) ?_
    (try (change wpAny _ _ _ _ _ _ _ (World.drew _)))
    rw [← HZ.out]
    refine wpAny_ready (rs := [0, 1]) (by kernel_rfl) (by simp) ?_
    refine AllReady.cons rfl (fun K hK => ?_) ?_
    · skip
      go_simp
      refine hK _ _ ?_
      clear hK K
      refine wpAny_ready (rs := [1, 2]) (by kernel_rfl) (by simp) ?_
      refine AllReady.cons rfl (fun K hK => ?_) ?_
      · skip
        go_simp
        refine hK _ _ ?_
        clear hK K
        refine wpAny_ready (rs := [2]) (by kernel_rfl) (by simp) ?_
        refine AllReady.cons rfl (fun K hK => ?_) AllReady.nil
        go_simp
        refine hK _ _ ?_
        clear hK K
        refine wpAny_ready (rs := [3]) (by kernel_rfl) (by simp) ?_
        refine AllReady.cons rfl (fun K hK => ?_) AllReady.nil
        go_simp
        refine hK _ _ ?_
        clear hK K
        refine wpAny_done (by kernel_rfl) ?_ _
        go_wp2
        refine bodyPost_ret (v := .tuple #[rq kd9 pl9 nn9 wa9 q19 q29 m19 m29 k19 k29, rp kd' fl ap an a1 a2 l1 l2 c1 c2]) (by simp [results, Try.results21, go_sem, u0, u1, u2, u3, u4, u5, v0, v1, v2, v3, v4, v5]) rfl ?_
        exact HF.out
      refine AllReady.cons rfl (fun K hK => ?_) AllReady.nil
      go_simp
      refine hK _ _ ?_
      clear hK K
      refine wpAny_ready (rs := [1]) (by kernel_rfl) (by simp) ?_
      refine AllReady.cons rfl (fun K hK => ?_) AllReady.nil
      go_simp
      refine hK _ _ ?_
      clear hK K
      refine wpAny_ready (rs := [3]) (by kernel_rfl) (by simp) ?_
      refine AllReady.cons rfl (fun K hK => ?_) AllReady.nil
      go_simp
      refine hK _ _ ?_
      clear hK K
      refine wpAny_done (by kernel_rfl) ?_ _
      go_wp2
      refine bodyPost_ret (v := .tuple #[rq kd9 pl9 nn9 wa9 q19 q29 m19 m29 k19 k29, rp kd' fl ap an a1 a2 l1 l2 c1 c2]) (by simp [results, Try.results21, go_sem, u0, u1, u2, u3, u4, u5, v0, v1, v2, v3, v4, v5]) rfl ?_
      exact HF.out
    refine AllReady.cons rfl (fun K hK => ?_) AllReady.nil
    go_simp
    refine hK _ _ ?_
    clear hK K
    refine wpAny_ready (rs := [0]) (by kernel_rfl) (by simp) ?_
    refine AllReady.cons rfl (fun K hK => ?_) AllReady.nil
    go_simp
    refine hK _ _ ?_
    clear hK K
    refine wpAny_ready (rs := [2]) (by kernel_rfl) (by simp) ?_
    refine AllReady.cons rfl (fun K hK => ?_) AllReady.nil
    go_simp
    refine hK _ _ ?_
    clear hK K
    refine wpAny_ready (rs := [3]) (by kernel_rfl) (by simp) ?_
    refine AllReady.cons rfl (fun K hK => ?_) AllReady.nil
    go_simp
    refine hK _ _ ?_
    clear hK K
    refine wpAny_done (by kernel_rfl) ?_ _
    go_wp2
    refine bodyPost_ret (v := .tuple #[rq kd9 pl9 nn9 wa9 q19 q29 m19 m29 k19 k29, rp kd' fl ap an a1 a2 l1 l2 c1 c2]) (by simp [results, Try.results21, go_sem, u0, u1, u2, u3, u4, u5, v0, v1, v2, v3, v4, v5]) rfl ?_
    exact HF.out
  by_cases e2 : x = 2
  · subst e2
    go_wp2_with fail
    refine (l4DrawAny_any W0 a cap zs _ g L6.c).mono ?_
    rintro e z7 ⟨kx9, fl9, ap9, an9, a19, a29, l19, l29, c19, c29, ws9, bs9, rfl, e1, e2, hl1, hl2, i9, j9, C9, gg⟩
    have L7 := L6.call C9 gg
    have i9 := OwnI.mono i9 hz16
    have j9 := OwnB.mono j9 hz16
    have f7 := L7.x.fro
    have LZ : QA W0 a cap zs z1 g Q R ((((((z7.setCell ⟨R, 0, none⟩ (.int .i64 kx9)).setCell ⟨R, 1, none⟩ (.int .i64 fl9)).setCell ⟨R, 2, none⟩ (.int .i64 ap9)).setCell ⟨R, 3, none⟩ (.int .i64 an9)).setCell ⟨R, 4, none⟩ (.slice a19 l19 c19)).setCell ⟨R, 5, none⟩ (.slice a29 l29 c29)) kd pl nn wa q1 q2 m1 m2 k1 k2 qs qb kx9 fl9 ap9 an9 a19 a29 l19 l29 c19 c29 ws9 bs9 :=
      ⟨((((((L7.y.setNe (by have := L6.bd; omega)).setNe (by have := L6.bd; omega)).setNe (by have := L6.bd; omega)).setNe (by have := L6.bd; omega)).setNe (by have := L6.bd; omega)).setNe (by have := L6.bd; omega)), ((((((L7.x.set 0 (.int .i64 kx9)).set 1 (.int .i64 fl9)).set 2 (.int .i64 ap9)).set 3 (.int .i64 an9)).set 4 (.slice a19 l19 c19)).set 5 (.slice a29 l29 c29)), rowp_set6 L7.i ⟨_, L7.x⟩ (by decide), rowp_set6 L7.j ⟨_, L7.x⟩ (by decide), rowp_set6 i9 ⟨_, L7.x⟩ (by decide), rowp_set6 j9 ⟨_, L7.x⟩ (by decide), ((((((C9.setHi (by have := L6.bd; omega) (by have := L6.bd; omega)).setHi (by have := L6.bd; omega) (by have := L6.bd; omega)).setHi (by have := L6.bd; omega) (by have := L6.bd; omega)).setHi (by have := L6.bd; omega) (by have := L6.bd; omega)).setHi (by have := L6.bd; omega) (by have := L6.bd; omega)).setHi (by have := L6.bd; omega) (by have := L6.bd; omega)), ⟨L6.bd.1, L6.bd.2.1, L6.bd.2.2.1, L6.bd.2.2.2.1, L6.bd.2.2.2.2.1, L6.bd.2.2.2.2.2.1, by omega, by omega⟩⟩
    obtain ⟨zz, hzz⟩ : ∃ zz, zz = ((((((z7.setCell ⟨R, 0, none⟩ (.int .i64 kx9)).setCell ⟨R, 1, none⟩ (.int .i64 fl9)).setCell ⟨R, 2, none⟩ (.int .i64 ap9)).setCell ⟨R, 3, none⟩ (.int .i64 an9)).setCell ⟨R, 4, none⟩ (.slice a19 l19 c19)).setCell ⟨R, 5, none⟩ (.slice a29 l29 c29)) := ⟨_, rfl⟩
    rw [← hzz] at LZ
    have HZZ : Hid (zz = _) := hzz
    clear hzz i9 j9 C9 gg e1 e2 hl1 hl2 L6
    obtain ⟨x0, x1, x2, x3, x4, x5⟩ := L7.x.six
    clear L7
    go_upto_region 8 with fail
    rw [← HZZ.out]
    clear x0 x1 x2 x3 x4 x5 f7
    have bz : Below zz.heap.size zz zz.drew := (Below.refl _ _).drew
    obtain ⟨z, hz⟩ : ∃ z, z = zz.drew := ⟨_, rfl⟩
    rw [← hz] at bz
    have X10 := LZ.x.below bz
    have Y10 := LZ.y.below bz
    have C10 := LZ.c.grown (grown_below bz none) (by simp) (by simp)
    have R1 := HR0.out.1.below C10.bel
    have R2 := HR0.out.2.below C10.bel
    have B10 := bel_next HB.out C10.bel
    have hzw : w.heap.size ≤ z1.heap.size := by have := HB.out.size; have := HG.out; have := LZ.bd; omega
    have i10 := OwnI.mono (OwnI.below LZ.i bz) hzw
    have j10 := OwnB.mono (OwnB.below LZ.j bz) hzw
    have i11 := OwnI.mono (OwnI.below LZ.i2 bz) hzw
    have j11 := OwnB.mono (OwnB.below LZ.j2 bz) hzw
    have hgw : w.heap.size + 2 ≤ g := by have h1 := HG.out; have h2 := HR0.out.2.lt; omega
    have hq1 : Q ≠ w.heap.size := by have := LZ.bd; omega
    have hv1 : R ≠ w.heap.size := by have := LZ.bd; omega
    have hv2 : R ≠ w.heap.size + 1 := by have := LZ.bd; omega
    have hq2 : Q ≠ w.heap.size + 1 := by have := LZ.bd; omega
    have X14 := ((((((X10.setNe (g' := w.heap.size) (j := 0) (y := .int .i64 kd) hv1).setNe (g' := w.heap.size) (j := 1) (y := .int .i64 pl) hv1).setNe (g' := w.heap.size) (j := 2) (y := .int .i64 nn) hv1).setNe (g' := w.heap.size) (j := 3) (y := .slice q1 m1 k1) hv1).setNe (g' := w.heap.size) (j := 4) (y := .slice q2 m2 k2) hv1).setNe (g' := w.heap.size) (j := 5) (y := .int .i64 wa) hv1)
    have R14 := ((((((R2.setNe (g' := w.heap.size) (j := 0) (y := .int .i64 kd) (by omega)).setNe (g' := w.heap.size) (j := 1) (y := .int .i64 pl) (by omega)).setNe (g' := w.heap.size) (j := 2) (y := .int .i64 nn) (by omega)).setNe (g' := w.heap.size) (j := 3) (y := .slice q1 m1 k1) (by omega)).setNe (g' := w.heap.size) (j := 4) (y := .slice q2 m2 k2) (by omega)).setNe (g' := w.heap.size) (j := 5) (y := .int .i64 wa) (by omega))
    have P14 : Blk _ w.heap.size 46 #[.int .i64 kd, .int .i64 pl, .int .i64 nn, .slice q1 m1 k1, .slice q2 m2 k2, .int .i64 wa] := ((((((R1.set 0 (.int .i64 kd)).set 1 (.int .i64 pl)).set 2 (.int .i64 nn)).set 3 (.slice q1 m1 k1)).set 4 (.slice q2 m2 k2)).set 5 (.int .i64 wa))
    have P20 := ((((((P14.setNe (g' := w.heap.size + 1) (j := 0) (y := .int .i64 kx9) (by omega)).setNe (g' := w.heap.size + 1) (j := 1) (y := .int .i64 fl9) (by omega)).setNe (g' := w.heap.size + 1) (j := 2) (y := .int .i64 ap9) (by omega)).setNe (g' := w.heap.size + 1) (j := 3) (y := .int .i64 an9) (by omega)).setNe (g' := w.heap.size + 1) (j := 4) (y := .slice a19 l19 c19) (by omega)).setNe (g' := w.heap.size + 1) (j := 5) (y := .slice a29 l29 c29) (by omega))
    have R20 : Blk _ (w.heap.size + 1) 48 #[.int .i64 kx9, .int .i64 fl9, .int .i64 ap9, .int .i64 an9, .slice a19 l19 c19, .slice a29 l29 c29] := ((((((R14.set 0 (.int .i64 kx9)).set 1 (.int .i64 fl9)).set 2 (.int .i64 ap9)).set 3 (.int .i64 an9)).set 4 (.slice a19 l19 c19)).set 5 (.slice a29 l29 c29))
    have HF : Hid (DrawnQA w (.returned (.tuple #[rq kd pl nn wa q1 q2 m1 m2 k1 k2, rp kx9 fl9 ap9 an9 a19 a29 l19 l29 c19 c29])) ((((((((((((z.setCell ⟨w.heap.size, 0, none⟩ (.int .i64 kd)).setCell ⟨w.heap.size, 1, none⟩ (.int .i64 pl)).setCell ⟨w.heap.size, 2, none⟩ (.int .i64 nn)).setCell ⟨w.heap.size, 3, none⟩ (.slice q1 m1 k1)).setCell ⟨w.heap.size, 4, none⟩ (.slice q2 m2 k2)).setCell ⟨w.heap.size, 5, none⟩ (.int .i64 wa)).setCell ⟨w.heap.size + 1, 0, none⟩ (.int .i64 kx9)).setCell ⟨w.heap.size + 1, 1, none⟩ (.int .i64 fl9)).setCell ⟨w.heap.size + 1, 2, none⟩ (.int .i64 ap9)).setCell ⟨w.heap.size + 1, 3, none⟩ (.int .i64 an9)).setCell ⟨w.heap.size + 1, 4, none⟩ (.slice a19 l19 c19)).setCell ⟨w.heap.size + 1, 5, none⟩ (.slice a29 l29 c29))) :=
      ⟨_, _, _, _, _, _, _, _, _, _, _, _, _, _, _, _, _, _, _, _, _, _, _, _, rfl, LZ.bd.2.2.2.2.1, LZ.bd.2.2.2.2.2.1, LZ.bd.2.2.2.2.2.2.1, LZ.bd.2.2.2.2.2.2.2, rowp_set6 (rowp_set6 i10 ⟨_, R1⟩ (by decide)) ⟨_, R14⟩ (by decide), rowp_set6 (rowp_set6 j10 ⟨_, R1⟩ (by decide)) ⟨_, R14⟩ (by decide), rowp_set6 (rowp_set6 i11 ⟨_, R1⟩ (by decide)) ⟨_, R14⟩ (by decide), rowp_set6 (rowp_set6 j11 ⟨_, R1⟩ (by decide)) ⟨_, R14⟩ (by decide), belp_set6 (belp_set6 B10 (Nat.le_refl _)) (Nat.le_succ _)⟩
    obtain ⟨x0, x1, x2, x3, x4, x5⟩ := X10.six
    obtain ⟨y0, y1, y2, y3, y4, y5⟩ := Y10.six
    obtain ⟨t0, t1, t2, t3, t4, t5⟩ := X14.six
    obtain ⟨r0, r1, r2, r3, r4, r5⟩ := R1.six
    obtain ⟨s0, s1, s2, s3, s4, s5⟩ := R14.six
    obtain ⟨u0, u1, u2, u3, u4, u5⟩ := P20.six
    obtain ⟨v0, v1, v2, v3, v4, v5⟩ := R20.six
    have f1 := R1.fro
    have f2 := R14.fro
    have HZ : Hid (z = zz.drew) := hz
    clear LZ R1 R2 B10 hzw bz hz X10 Y10 C10 i10 j10 i11 j11 X14 R14 P14 P20 R20 hgw
    go_upto_region 8 with fail
    refine wp_region_any (by kernel_rfl) ?_
    (try (change wpAny _ _ _ _ _ _ _ (World.drew _)))
    rw [← HZ.out]
    refine wpAny_ready (rs := [0, 1]) (by kernel_rfl) (by simp) ?_
    refine AllReady.cons rfl (fun K hK => ?_) ?_
    · skip
      go_simp
      refine hK _ _ ?_
      clear hK K
      refine wpAny_ready (rs := [1, 2]) (by kernel_rfl) (by simp) ?_
      refine AllReady.cons rfl (fun K hK => ?_) ?_
      · skip
        go_simp
        refine hK _ _ ?_
        clear hK K
        refine wpAny_ready (rs := [2]) (by kernel_rfl) (by simp) ?_
        refine AllReady.cons rfl (fun K hK => ?_) AllReady.nil
        go_simp
        refine hK _ _ ?_
        clear hK K
        refine wpAny_ready (rs := [3]) (by kernel_rfl) (by simp) ?_
        refine AllReady.cons rfl (fun K hK => ?_) AllReady.nil
        go_simp
        refine hK _ _ ?_
        clear hK K
        refine wpAny_done (by kernel_rfl) ?_ _
        go_wp2
        refine bodyPost_ret (v := .tuple #[rq kd pl nn wa q1 q2 m1 m2 k1 k2, rp kx9 fl9 ap9 an9 a19 a29 l19 l29 c19 c29]) (by simp [results, Try.results21, go_sem, u0, u1, u2, u3, u4, u5, v0, v1, v2, v3, v4, v5]) rfl ?_
        exact HF.out
      refine AllReady.cons rfl (fun K hK => ?_) AllReady.nil
      go_simp
      refine hK _ _ ?_
      clear hK K
      refine wpAny_ready (rs := [1]) (by kernel_rfl) (by simp) ?_
      refine AllReady.cons rfl (fun K hK => ?_) AllReady.nil
      go_simp
      refine hK _ _ ?_
      clear hK K
      refine wpAny_ready (rs := [3]) (by kernel_rfl) (by simp) ?_
      refine AllReady.cons rfl (fun K hK => ?_) AllReady.nil
      go_simp
      refine hK _ _ ?_
      clear hK K
      refine wpAny_done (by kernel_rfl) ?_ _
      go_wp2
      refine bodyPost_ret (v := .tuple #[rq kd pl nn wa q1 q2 m1 m2 k1 k2, rp kx9 fl9 ap9 an9 a19 a29 l19 l29 c19 c29]) (by simp [results, Try.results21, go_sem, u0, u1, u2, u3, u4, u5, v0, v1, v2, v3, v4, v5]) rfl ?_
      exact HF.out
    refine AllReady.cons rfl (fun K hK => ?_) AllReady.nil
    go_simp
    refine hK _ _ ?_
    clear hK K
    refine wpAny_ready (rs := [0]) (by kernel_rfl) (by simp) ?_
    refine AllReady.cons rfl (fun K hK => ?_) AllReady.nil
    go_simp
    refine hK _ _ ?_
    clear hK K
    refine wpAny_ready (rs := [2]) (by kernel_rfl) (by simp) ?_
    refine AllReady.cons rfl (fun K hK => ?_) AllReady.nil
    go_simp
    refine hK _ _ ?_
    clear hK K
    refine wpAny_ready (rs := [3]) (by kernel_rfl) (by simp) ?_
    refine AllReady.cons rfl (fun K hK => ?_) AllReady.nil
    go_simp
    refine hK _ _ ?_
    clear hK K
    refine wpAny_done (by kernel_rfl) ?_ _
    go_wp2
    refine bodyPost_ret (v := .tuple #[rq kd pl nn wa q1 q2 m1 m2 k1 k2, rp kx9 fl9 ap9 an9 a19 a29 l19 l29 c19 c29]) (by simp [results, Try.results21, go_sem, u0, u1, u2, u3, u4, u5, v0, v1, v2, v3, v4, v5]) rfl ?_
    exact HF.out
  have LZ := L6
  clear L6
  go_upto_region 8 with fail
  have bz : Below z6.heap.size z6 z6.drew := (Below.refl _ _).drew
  obtain ⟨z, hz⟩ : ∃ z, z = z6.drew := ⟨_, rfl⟩
  rw [← hz] at bz
  have X10 := LZ.x.below bz
  have Y10 := LZ.y.below bz
  have C10 := LZ.c.grown (grown_below bz none) (by simp) (by simp)
  have R1 := HR0.out.1.below C10.bel
  have R2 := HR0.out.2.below C10.bel
  have B10 := bel_next HB.out C10.bel
  have hzw : w.heap.size ≤ z1.heap.size := by have := HB.out.size; have := HG.out; have := LZ.bd; omega
  have i10 := OwnI.mono (OwnI.below LZ.i bz) hzw
  have j10 := OwnB.mono (OwnB.below LZ.j bz) hzw
  have i11 := OwnI.mono (OwnI.below LZ.i2 bz) hzw
  have j11 := OwnB.mono (OwnB.below LZ.j2 bz) hzw
  have hgw : w.heap.size + 2 ≤ g := by have h1 := HG.out; have h2 := HR0.out.2.lt; omega
  have hq1 : Q ≠ w.heap.size := by have := LZ.bd; omega
  have hv1 : R ≠ w.heap.size := by have := LZ.bd; omega
  have hv2 : R ≠ w.heap.size + 1 := by have := LZ.bd; omega
  have hq2 : Q ≠ w.heap.size + 1 := by have := LZ.bd; omega
  have X14 := ((((((X10.setNe (g' := w.heap.size) (j := 0) (y := .int .i64 kd) hv1).setNe (g' := w.heap.size) (j := 1) (y := .int .i64 pl) hv1).setNe (g' := w.heap.size) (j := 2) (y := .int .i64 nn) hv1).setNe (g' := w.heap.size) (j := 3) (y := .slice q1 m1 k1) hv1).setNe (g' := w.heap.size) (j := 4) (y := .slice q2 m2 k2) hv1).setNe (g' := w.heap.size) (j := 5) (y := .int .i64 wa) hv1)
  have R14 := ((((((R2.setNe (g' := w.heap.size) (j := 0) (y := .int .i64 kd) (by omega)).setNe (g' := w.heap.size) (j := 1) (y := .int .i64 pl) (by omega)).setNe (g' := w.heap.size) (j := 2) (y := .int .i64 nn) (by omega)).setNe (g' := w.heap.size) (j := 3) (y := .slice q1 m1 k1) (by omega)).setNe (g' := w.heap.size) (j := 4) (y := .slice q2 m2 k2) (by omega)).setNe (g' := w.heap.size) (j := 5) (y := .int .i64 wa) (by omega))
  have P14 : Blk _ w.heap.size 46 #[.int .i64 kd, .int .i64 pl, .int .i64 nn, .slice q1 m1 k1, .slice q2 m2 k2, .int .i64 wa] := ((((((R1.set 0 (.int .i64 kd)).set 1 (.int .i64 pl)).set 2 (.int .i64 nn)).set 3 (.slice q1 m1 k1)).set 4 (.slice q2 m2 k2)).set 5 (.int .i64 wa))
  have P20 := ((((((P14.setNe (g' := w.heap.size + 1) (j := 0) (y := .int .i64 kd') (by omega)).setNe (g' := w.heap.size + 1) (j := 1) (y := .int .i64 fl) (by omega)).setNe (g' := w.heap.size + 1) (j := 2) (y := .int .i64 ap) (by omega)).setNe (g' := w.heap.size + 1) (j := 3) (y := .int .i64 an) (by omega)).setNe (g' := w.heap.size + 1) (j := 4) (y := .slice a1 l1 c1) (by omega)).setNe (g' := w.heap.size + 1) (j := 5) (y := .slice a2 l2 c2) (by omega))
  have R20 : Blk _ (w.heap.size + 1) 48 #[.int .i64 kd', .int .i64 fl, .int .i64 ap, .int .i64 an, .slice a1 l1 c1, .slice a2 l2 c2] := ((((((R14.set 0 (.int .i64 kd')).set 1 (.int .i64 fl)).set 2 (.int .i64 ap)).set 3 (.int .i64 an)).set 4 (.slice a1 l1 c1)).set 5 (.slice a2 l2 c2))
  have HF : Hid (DrawnQA w (.returned (.tuple #[rq kd pl nn wa q1 q2 m1 m2 k1 k2, rp kd' fl ap an a1 a2 l1 l2 c1 c2])) ((((((((((((z.setCell ⟨w.heap.size, 0, none⟩ (.int .i64 kd)).setCell ⟨w.heap.size, 1, none⟩ (.int .i64 pl)).setCell ⟨w.heap.size, 2, none⟩ (.int .i64 nn)).setCell ⟨w.heap.size, 3, none⟩ (.slice q1 m1 k1)).setCell ⟨w.heap.size, 4, none⟩ (.slice q2 m2 k2)).setCell ⟨w.heap.size, 5, none⟩ (.int .i64 wa)).setCell ⟨w.heap.size + 1, 0, none⟩ (.int .i64 kd')).setCell ⟨w.heap.size + 1, 1, none⟩ (.int .i64 fl)).setCell ⟨w.heap.size + 1, 2, none⟩ (.int .i64 ap)).setCell ⟨w.heap.size + 1, 3, none⟩ (.int .i64 an)).setCell ⟨w.heap.size + 1, 4, none⟩ (.slice a1 l1 c1)).setCell ⟨w.heap.size + 1, 5, none⟩ (.slice a2 l2 c2))) :=
    ⟨_, _, _, _, _, _, _, _, _, _, _, _, _, _, _, _, _, _, _, _, _, _, _, _, rfl, LZ.bd.2.2.2.2.1, LZ.bd.2.2.2.2.2.1, LZ.bd.2.2.2.2.2.2.1, LZ.bd.2.2.2.2.2.2.2, rowp_set6 (rowp_set6 i10 ⟨_, R1⟩ (by decide)) ⟨_, R14⟩ (by decide), rowp_set6 (rowp_set6 j10 ⟨_, R1⟩ (by decide)) ⟨_, R14⟩ (by decide), rowp_set6 (rowp_set6 i11 ⟨_, R1⟩ (by decide)) ⟨_, R14⟩ (by decide), rowp_set6 (rowp_set6 j11 ⟨_, R1⟩ (by decide)) ⟨_, R14⟩ (by decide), belp_set6 (belp_set6 B10 (Nat.le_refl _)) (Nat.le_succ _)⟩
  obtain ⟨x0, x1, x2, x3, x4, x5⟩ := X10.six
  obtain ⟨y0, y1, y2, y3, y4, y5⟩ := Y10.six
  obtain ⟨t0, t1, t2, t3, t4, t5⟩ := X14.six
  obtain ⟨r0, r1, r2, r3, r4, r5⟩ := R1.six
  obtain ⟨s0, s1, s2, s3, s4, s5⟩ := R14.six
  obtain ⟨u0, u1, u2, u3, u4, u5⟩ := P20.six
  obtain ⟨v0, v1, v2, v3, v4, v5⟩ := R20.six
  have f1 := R1.fro
  have f2 := R14.fro
  have HZ : Hid (z = z6.drew) := hz
  clear LZ R1 R2 B10 hzw bz hz X10 Y10 C10 i10 j10 i11 j11 X14 R14 P14 P20 R20 hgw
  go_upto_region 8 with fail
  refine wp_region_any (by kernel_rfl) ?_
  (try (change wpAny _ _ _ _ _ _ _ (World.drew _)))
  rw [← HZ.out]
  refine wpAny_ready (rs := [0, 1]) (by kernel_rfl) (by simp) ?_
  refine AllReady.cons rfl (fun K hK => ?_) ?_
  · skip
    go_simp
    refine hK _ _ ?_
    clear hK K
    refine wpAny_ready (rs := [1, 2]) (by kernel_rfl) (by simp) ?_
    refine AllReady.cons rfl (fun K hK => ?_) ?_
    · skip
      go_simp
      refine hK _ _ ?_
      clear hK K
      refine wpAny_ready (rs := [2]) (by kernel_rfl) (by simp) ?_
      refine AllReady.cons rfl (fun K hK => ?_) AllReady.nil
      go_simp
      refine hK _ _ ?_
      clear hK K
      refine wpAny_ready (rs := [3]) (by kernel_rfl) (by simp) ?_
      refine AllReady.cons rfl (fun K hK => ?_) AllReady.nil
      go_simp
      refine hK _ _ ?_
      clear hK K
      refine wpAny_done (by kernel_rfl) ?_ _
      go_wp2
      refine bodyPost_ret (v := .tuple #[rq kd pl nn wa q1 q2 m1 m2 k1 k2, rp kd' fl ap an a1 a2 l1 l2 c1 c2]) (by simp [results, Try.results21, go_sem, u0, u1, u2, u3, u4, u5, v0, v1, v2, v3, v4, v5]) rfl ?_
      exact HF.out
    refine AllReady.cons rfl (fun K hK => ?_) AllReady.nil
    go_simp
    refine hK _ _ ?_
    clear hK K
    refine wpAny_ready (rs := [1]) (by kernel_rfl) (by simp) ?_
    refine AllReady.cons rfl (fun K hK => ?_) AllReady.nil
    go_simp
    refine hK _ _ ?_
    clear hK K
    refine wpAny_ready (rs := [3]) (by kernel_rfl) (by simp) ?_
    refine AllReady.cons rfl (fun K hK => ?_) AllReady.nil
    go_simp
    refine hK _ _ ?_
    clear hK K
    refine wpAny_done (by kernel_rfl) ?_ _
    go_wp2
    refine bodyPost_ret (v := .tuple #[rq kd pl nn wa q1 q2 m1 m2 k1 k2, rp kd' fl ap an a1 a2 l1 l2 c1 c2]) (by simp [results, Try.results21, go_sem, u0, u1, u2, u3, u4, u5, v0, v1, v2, v3, v4, v5]) rfl ?_
    exact HF.out
  refine AllReady.cons rfl (fun K hK => ?_) AllReady.nil
  go_simp
  refine hK _ _ ?_
  clear hK K
  refine wpAny_ready (rs := [0]) (by kernel_rfl) (by simp) ?_
  refine AllReady.cons rfl (fun K hK => ?_) AllReady.nil
  go_simp
  refine hK _ _ ?_
  clear hK K
  refine wpAny_ready (rs := [2]) (by kernel_rfl) (by simp) ?_
  refine AllReady.cons rfl (fun K hK => ?_) AllReady.nil
  go_simp
  refine hK _ _ ?_
  clear hK K
  refine wpAny_ready (rs := [3]) (by kernel_rfl) (by simp) ?_
  refine AllReady.cons rfl (fun K hK => ?_) AllReady.nil
  go_simp
  refine hK _ _ ?_
  clear hK K
  refine wpAny_done (by kernel_rfl) ?_ _
  go_wp2
  refine bodyPost_ret (v := .tuple #[rq kd pl nn wa q1 q2 m1 m2 k1 k2, rp kd' fl ap an a1 a2 l1 l2 c1 c2]) (by simp [results, Try.results21, go_sem, u0, u1, u2, u3, u4, u5, v0, v1, v2, v3, v4, v5]) rfl ?_
  exact HF.out

end Go.Proofs.Ytcnbbknmofonkaa
