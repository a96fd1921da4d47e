/- Draws of questions: any. -/
import Derived.Test.YtgamicfcdkjleaaAskF
import Derived.Deep.DeepCutAuto
namespace Go.Proofs.Ytgamicfcdkjleaa
open Go.RowKit

set_option linter.unusedVariables false

set_option linter.unusedSimpArgs false

/-- A question lies in block B, its rows from w's end on; block w.heap.size is the zero question. -/
def DAny (w0 : World) (a : Option Addr) (cap : Nat) (zs : List Int) (w : World) (g B m1 m2 : Nat) (wx : World) : Prop :=
  ∃ (kd pl nn wa : Int) (a1 a2 : Option Addr) (l1 l2 c1 c2 : Nat) (ws : List Int) (bs : List Bool), l1 = ws.length ∧ l2 = bs.length ∧ l1 ≤ m1 ∧ l2 ≤ m2 ∧ Blk wx B 27 #[.int .i64 kd, .int .i64 pl, .int .i64 nn, .slice a1 l1 c1, .slice a2 l2 c2, .int .i64 wa] ∧ Blk wx w.heap.size 27 #[.int .i64 0, .int .i64 0, .int .i64 0, .slice none 0 0, .slice none 0 0, .int .i64 0] ∧ OwnI wx w.heap.size (.slice a1 l1 c1) ws ∧ OwnB wx w.heap.size (.slice a2 l2 c2) bs ∧ Cur w0 a cap zs wx g ∧ w.grownBy wx (some g)

theorem DAny.call {w0 : World} {a : Option Addr} {cap : Nat} {zs : List Int} {w : World} {g B m1 m2 : Nat} {wx wy : World} (h : DAny w0 a cap zs w g B m1 m2 wx) (hg : g < w.heap.size) (hB : w.heap.size < B) (C : Cur w0 a cap zs wy g) (gg : wx.grownBy wy (some g)) : DAny w0 a cap zs w g B m1 m2 wy := by
  obtain ⟨kd, pl, nn, wa, a1, a2, l1, l2, c1, c2, ws, bs, h1, h2, h3, h4, q, r, i, j, _, G⟩ := h
  exact ⟨kd, pl, nn, wa, a1, a2, l1, l2, c1, c2, ws, bs, h1, h2, h3, h4, q.grown gg (by simp; omega), r.grown gg (by simp; omega), OwnI.kept i gg (row_ne_g i hg), OwnB.kept j gg (row_ne_g j hg), C, grown_trans G gg⟩

theorem DAny.more {w0 : World} {a : Option Addr} {cap : Nat} {zs : List Int} {w : World} {g B m1 m2 n1 n2 : Nat} {wx : World} (h : DAny w0 a cap zs w g B m1 m2 wx) (h1 : m1 ≤ n1) (h2 : m2 ≤ n2) : DAny w0 a cap zs w g B n1 n2 wx := by
  obtain ⟨kd, pl, nn, wa, a1, a2, l1, l2, c1, c2, ws, bs, e1, e2, h3, h4, h⟩ := h
  exact ⟨kd, pl, nn, wa, a1, a2, l1, l2, c1, c2, ws, bs, e1, e2, by omega, by omega, h⟩

theorem Cur.set6 {w0 u : World} {a : Option Addr} {cap g B : Nat} {zs : List Int} {v0 v1 v2 v3 v4 v5 : Value} (h : Cur w0 a cap zs u g) (h1 : g ≠ B) (h2 : w0.heap.size ≤ B) : Cur w0 a cap zs ((((((u.setCell ⟨B, 0, none⟩ v0).setCell ⟨B, 1, none⟩ v1).setCell ⟨B, 2, none⟩ v2).setCell ⟨B, 3, none⟩ v3).setCell ⟨B, 4, none⟩ v4).setCell ⟨B, 5, none⟩ v5) g :=
  (((((h.setHi h1 h2).setHi h1 h2).setHi h1 h2).setHi h1 h2).setHi h1 h2).setHi h1 h2

theorem grown_set6 {w u : World} {g B : Nat} {v0 v1 v2 v3 v4 v5 : Value} (h : w.grownBy u (some g)) (hB : w.heap.size ≤ B) : w.grownBy ((((((u.setCell ⟨B, 0, none⟩ v0).setCell ⟨B, 1, none⟩ v1).setCell ⟨B, 2, none⟩ v2).setCell ⟨B, 3, none⟩ v3).setCell ⟨B, 4, none⟩ v4).setCell ⟨B, 5, none⟩ v5) (some g) :=
  grown_setHi (grown_setHi (grown_setHi (grown_setHi (grown_setHi (grown_setHi h hB) hB) hB) hB) hB) hB

theorem Blk.set6 {u : World} {B : Nat} {t : TypeId} {x0 x1 x2 x3 x4 x5 v0 v1 v2 v3 v4 v5 : Value} (h : Blk u B t #[x0, x1, x2, x3, x4, x5]) : Blk ((((((u.setCell ⟨B, 0, none⟩ v0).setCell ⟨B, 1, none⟩ v1).setCell ⟨B, 2, none⟩ v2).setCell ⟨B, 3, none⟩ v3).setCell ⟨B, 4, none⟩ v4).setCell ⟨B, 5, none⟩ v5) B t #[v0, v1, v2, v3, v4, v5] := by
  have := (((((h.set 0 v0).set 1 v1).set 2 v2).set 3 v3).set 4 v4).set 5 v5
  simpa using this

theorem Blk.setNe6 {u : World} {g B : Nat} {t : TypeId} {cs : Array Value} {v0 v1 v2 v3 v4 v5 : Value} (h : Blk u g t cs) (hne : g ≠ B) : Blk ((((((u.setCell ⟨B, 0, none⟩ v0).setCell ⟨B, 1, none⟩ v1).setCell ⟨B, 2, none⟩ v2).setCell ⟨B, 3, none⟩ v3).setCell ⟨B, 4, none⟩ v4).setCell ⟨B, 5, none⟩ v5) g t cs :=
  (((((h.setNe hne).setNe hne).setNe hne).setNe hne).setNe hne).setNe hne

set_option maxRecDepth 20000 in
set_option maxHeartbeats 16000000 in
theorem l3DrawAny_any (w0 : World) (a : Option Addr) (cap : Nat) (zs : List Int) (w : World) (g : Nat) (hC : Cur w0 a cap zs w g) :
    Calls Try.prog 33 #[.pointer (some ⟨g, 0, none⟩)] w fun e w' => ReqAt w0 a cap zs w.heap.size 300 3000 w g e w' := by
  obtain ⟨W0, hW0⟩ : ∃ W0, W0 = w.alloc (.cells #[.int .i64 0, .int .i64 0, .int .i64 0, .slice none 0 0, .slice none 0 0, .int .i64 0] 27) := ⟨_, rfl⟩
  have HW : Hid (W0 = _) := hW0
  have C0 : Cur w0 a cap zs W0 g := by rw [hW0]; exact hC.alloc _
  have G0 : w.grownBy W0 (some g) := by rw [hW0]; exact World.grownBy_alloc _ _ _
  have R0 : Blk W0 w.heap.size 27 #[.int .i64 0, .int .i64 0, .int .i64 0, .slice none 0 0, .slice none 0 0, .int .i64 0] := by rw [hW0]; exact Blk.new _ _ _
  have HX : Hid (g < w.heap.size ∧ w0.heap.size ≤ g) := ⟨hC.hi, hC.lo⟩
  clear hC hW0
  go_enter Try.func33, Try.ntmps33
  go_upto_region 1 with fail
  rw [← HW.out]
  go_wp2_with fail
  refine (l3Draw_any w0 a cap zs W0 g C0).mono ?_
  rintro e z1 ⟨kd, pl, nn, wa, a1, a2, l1, l2, c1, c2, ws, bs, rfl, e1, e2, m1, m2, oi, oj, C1, gg⟩
  have G1 := grown_trans G0 gg
  have R1 := R0.grown gg (by have := HX.out; simp; omega)
  have I1 := OwnI.mono oi G0.size
  have J1 := OwnB.mono oj G0.size
  obtain ⟨z2, hz2⟩ : ∃ z2, z2 = z1.alloc (.cells #[.int .i64 kd, .int .i64 pl, .int .i64 nn, .slice a1 l1 c1, .slice a2 l2 c2, .int .i64 wa] 27) := ⟨_, rfl⟩
  have HU : Hid (z2 = _) := hz2
  obtain ⟨B, hB⟩ : ∃ B, B = z1.heap.size := ⟨_, rfl⟩
  have HBe : Hid (B = z1.heap.size) := hB
  have HB : Hid (w.heap.size < B) := by show w.heap.size < B; have := R1.lt; omega
  have bz : Below z1.heap.size z1 z2 := by rw [hz2]; exact bel_alloc _ _
  have C2 : Cur w0 a cap zs z2 g := by rw [hz2]; exact C1.alloc _
  have D2 : DAny w0 a cap zs w g B 200 2000 z2 := ⟨kd, pl, nn, wa, a1, a2, l1, l2, c1, c2, ws, bs, e1, e2, m1, m2, by rw [hz2, hB]; exact Blk.new _ _ _, R1.below bz, OwnI.below I1 bz, OwnB.below J1 bz, C2, grown_trans G1 (grown_below bz _)⟩
  clear hz2 hB bz I1 J1 R1 G1 C1 oi oj gg e1 e2 m1 m2 C0 G0 R0
  go_upto_region 2 with fail
  rw [← HU.out]
  simp only [← HBe.out]
  have HD2 : Hid (DAny w0 a cap zs w g B 200 2000 z2) := D2
  clear D2 HU
  go_wp2_with fail
  refine (l1Once_any w0 a cap zs _ g _ (by decide) C2).mono ?_
  rintro e z3 ⟨t, rfl, C3, gg⟩
  have HD3 : Hid (DAny w0 a cap zs w g B 200 2000 z3) := HD2.out.call HX.out.1 HB.out C3 gg
  clear C2 gg HD2
  go_upto_if 7 with fail
  go_cut [] (fun wx => DAny w0 a cap zs w g B 300 3000 wx)
  case first =>
    cases t with
    | false => go_wp2_with fail; go_meet; exact HD3.out.more (by omega) (by omega)
    | true =>
      obtain ⟨kd', pl', nn', wa', a1', a2', l1', l2', c1', c2', ws', bs', e1, e2, m1, m2, q, r, i, j, c, G⟩ := HD3.out
      obtain ⟨q0, q1, q2, q3, q4, q5⟩ := q.six
      have HH : Hid (Blk z3 w.heap.size 27 #[.int .i64 0, .int .i64 0, .int .i64 0, .slice none 0 0, .slice none 0 0, .int .i64 0] ∧ Blk z3 B 27 #[.int .i64 kd', .int .i64 pl', .int .i64 nn', .slice a1' l1' c1', .slice a2' l2' c2', .int .i64 wa'] ∧ w.grownBy z3 (some g)) := ⟨r, q, G⟩
      have HE : Hid (l1' = ws'.length ∧ l2' = bs'.length ∧ l1' ≤ 200 ∧ l2' ≤ 2000) := ⟨e1, e2, m1, m2⟩
      have HIJ : Hid (OwnI z3 w.heap.size (.slice a1' l1' c1') ws' ∧ OwnB z3 w.heap.size (.slice a2' l2' c2') bs') := ⟨i, j⟩
      clear e1 e2 m1 m2 q r i j c G HD3
      go_wp2_with fail
      refine (l3Bend_any w0 a cap zs z3 g kd' pl' nn' wa' a1' a2' l1' l2' c1' c2' ws' bs' w.heap.size HE.out.1 HE.out.2.1 (by have := HE.out; omega) (by have := HE.out; omega) HX.out.1 HH.out.2.2.size HIJ.out.1 HIJ.out.2 C3).mono ?_
      rintro e z4 ⟨kd4, pl4, nn4, wa4, a14, a24, l14, l24, c14, c24, ws4, bs4, rfl, e1, e2, m1, m2, i, j, C4, gg⟩
      have r4 := HH.out.1.grown gg (by have := HX.out; simp; omega)
      have q4 := HH.out.2.1.grown gg (by have := HX.out; have := HB.out; simp; omega)
      have fq := q4.fro
      obtain ⟨x0, x1, x2, x3, x4, x5⟩ := q4.six
      have HM : Hid (DAny w0 a cap zs w g B 300 3000 ((((((z4.setCell ⟨B, 0, none⟩ (.int .i64 kd4)).setCell ⟨B, 1, none⟩ (.int .i64 pl4)).setCell ⟨B, 2, none⟩ (.int .i64 nn4)).setCell ⟨B, 3, none⟩ (.slice a14 l14 c14)).setCell ⟨B, 4, none⟩ (.slice a24 l24 c24)).setCell ⟨B, 5, none⟩ (.int .i64 wa4))) :=
        ⟨kd4, pl4, nn4, wa4, a14, a24, l14, l24, c14, c24, ws4, bs4, e1, e2, by have := HE.out; omega, by have := HE.out; omega, q4.set6, r4.setNe6 (by have := HB.out; omega), row_set6 i ⟨_, q4⟩ (by decide), row_set6 j ⟨_, q4⟩ (by decide), C4.set6 (by have := HX.out; have := HB.out; omega) (by have := HX.out; have := HB.out; omega), grown_set6 (grown_trans HH.out.2.2 gg) (by have := HB.out; omega)⟩
      clear e1 e2 m1 m2 i j gg r4 q4 C4
      go_wp2_with fail
      go_meet
      exact HM.out
  case rest =>
  obtain ⟨C5⟩ : Nonempty (Cur w0 a cap zs wc g) := by obtain ⟨_, _, _, _, _, _, _, _, _, _, _, _, _, _, _, _, _, _, _, _, h, _⟩ := hcut; exact ⟨h⟩
  have HD5 : Hid (DAny w0 a cap zs w g B 300 3000 wc) := hcut
  clear hcut HD3 C3
  go_wp2_with fail
  refine (l1Once_any w0 a cap zs _ g _ (by decide) C5).mono ?_
  rintro e z51 ⟨t5, rfl, C51, gg⟩
  have HD51 : Hid (DAny w0 a cap zs w g B 300 3000 z51) := HD5.out.call HX.out.1 HB.out C51 gg
  clear C5 gg HD5
  go_upto_if 12 with fail
  go_cut [] (fun wx => DAny w0 a cap zs w g B 300 3000 wx)
  case first =>
    cases t5 with
    | false => go_wp2_with fail; go_meet; exact HD51.out
    | true =>
      go_wp2_with fail
      refine (l1Below_any w0 a cap zs _ g _ (by decide) C51).mono ?_
      rintro e z52 ⟨x, rfl, hx, C52, gg⟩
      obtain ⟨k, rfl⟩ : ∃ k : Nat, x = (k : Int) := ⟨x.toNat, by omega⟩
      have hmk : ∀ w : World, (Instr.makeSlice 24 (.int .i64 (122 + (k : Int))) (.int .i64 (122 + (k : Int)))).run Try.prog w = .ok (.slice (some ⟨w.heap.size, 0, none⟩) (122 + k) (122 + k)) (w.alloc (.cells (madeCells #[.int .i64 0] (122 + k)) 3)) := fun w => run_make_row' (P := Try.prog) 24 3 (.int .i64 0) 8 Try.underlying24 Try.infoI3 rfl .i64 .i64 (122 + k) (by omega) (by omega) w
      obtain ⟨kd', pl', nn', wa', a1', a2', l1', l2', c1', c2', ws', bs', e1, e2, m1, m2, q, r, i, j, c, G⟩ := (HD51.out.call HX.out.1 HB.out C52 gg)
      have b' := bel_alloc z52 (.cells (madeCells #[.int .i64 0] (122 + k)) 3)
      have q4 := q.below b'
      have r4 := r.below b'
      have C4 := c.alloc (.cells (madeCells #[.int .i64 0] (122 + k)) 3)
      have G4 := grown_trans G (grown_below b' (some g))
      have fq := q4.fro
      obtain ⟨x0, x1, x2, x3, x4, x5⟩ := q4.six
      have row : OwnI (z52.alloc (.cells (madeCells #[.int .i64 0] (122 + k)) 3)) w.heap.size (.slice (some ⟨z52.heap.size, 0, none⟩) (122 + k) (122 + k)) (List.replicate (122 + k) 0) := OwnI.ofRow ((World.rowIs_made z52 (.int .i64 0) (122 + k) 3).congr (fun i hi => by simp [hi])) (by simp) G.size (by unfold maxLen; omega)
      have HM : Hid (DAny w0 a cap zs w g B 300 3000 (((((((z52.alloc (.cells (madeCells #[.int .i64 0] (122 + k)) 3)).setCell ⟨B, 0, none⟩ (.int .i64 16)).setCell ⟨B, 1, none⟩ (.int .i64 0)).setCell ⟨B, 2, none⟩ (.int .i64 0)).setCell ⟨B, 3, none⟩ (.slice (some ⟨z52.heap.size, 0, none⟩) (122 + k) (122 + k))).setCell ⟨B, 4, none⟩ (.slice none 0 0)).setCell ⟨B, 5, none⟩ (.int .i64 0))) :=
        ⟨16, 0, 0, 0, _, _, 122 + k, 0, _, _, (List.replicate (122 + k) 0), [], by simp, by simp, by omega, by omega, q4.set6, r4.setNe6 (by have := HB.out; omega), row_set6 row ⟨_, q4⟩ (by decide), row_set6 (ownB_nil _ _) ⟨_, q4⟩ (by decide), C4.set6 (by have := HX.out; have := HB.out; omega) (by have := HX.out; have := HB.out; omega), grown_set6 G4 (by have := HB.out; omega)⟩
      clear e1 e2 m1 m2 i j gg r4 q4 C4 G4 row b' q r c G
      go_wp2_with fail
      go_meet
      exact HM.out
  case rest =>
  obtain ⟨C6⟩ : Nonempty (Cur w0 a cap zs wc g) := by obtain ⟨_, _, _, _, _, _, _, _, _, _, _, _, _, _, _, _, _, _, _, _, h, _⟩ := hcut; exact ⟨h⟩
  have HD6 : Hid (DAny w0 a cap zs w g B 300 3000 wc) := hcut
  clear hcut HD51 C51
  go_wp2_with fail
  refine (l1Once_any w0 a cap zs _ g _ (by decide) C6).mono ?_
  rintro e z61 ⟨t6, rfl, C61, gg⟩
  have HD61 : Hid (DAny w0 a cap zs w g B 300 3000 z61) := HD6.out.call HX.out.1 HB.out C61 gg
  clear C6 gg HD6
  go_upto_if 19 with fail
  go_cut [] (fun wx => DAny w0 a cap zs w g B 300 3000 wx)
  case first =>
    cases t6 with
    | false => go_wp2_with fail; go_meet; exact HD61.out
    | true =>
      go_wp2_with fail
      refine (l1Below_any w0 a cap zs _ g _ (by decide) C61).mono ?_
      rintro e z62 ⟨x, rfl, hx, C62, gg⟩
      obtain ⟨k, rfl⟩ : ∃ k : Nat, x = (k : Int) := ⟨x.toNat, by omega⟩
      have hmk : ∀ w : World, (Instr.makeSlice 25 (.int .i64 (1967 + (k : Int))) (.int .i64 (1967 + (k : Int)))).run Try.prog w = .ok (.slice (some ⟨w.heap.size, 0, none⟩) (1967 + k) (1967 + k)) (w.alloc (.cells (madeCells #[.bool false] (1967 + k)) 4)) := fun w => run_make_row' (P := Try.prog) 25 4 (.bool false) 1 Try.underlying25 Try.info4 rfl .i64 .i64 (1967 + k) (by omega) (by omega) w
      obtain ⟨kd', pl', nn', wa', a1', a2', l1', l2', c1', c2', ws', bs', e1, e2, m1, m2, q, r, i, j, c, G⟩ := (HD61.out.call HX.out.1 HB.out C62 gg)
      have b' := bel_alloc z62 (.cells (madeCells #[.bool false] (1967 + k)) 4)
      have q4 := q.below b'
      have r4 := r.below b'
      have C4 := c.alloc (.cells (madeCells #[.bool false] (1967 + k)) 4)
      have G4 := grown_trans G (grown_below b' (some g))
      have fq := q4.fro
      obtain ⟨x0, x1, x2, x3, x4, x5⟩ := q4.six
      have row : OwnB (z62.alloc (.cells (madeCells #[.bool false] (1967 + k)) 4)) w.heap.size (.slice (some ⟨z62.heap.size, 0, none⟩) (1967 + k) (1967 + k)) (List.replicate (1967 + k) false) := OwnB.ofRow ((World.rowIs_made z62 (.bool false) (1967 + k) 4).congr (fun i hi => by simp [hi])) (by simp) G.size (by unfold maxLen; omega)
      have HM : Hid (DAny w0 a cap zs w g B 300 3000 (((((((z62.alloc (.cells (madeCells #[.bool false] (1967 + k)) 4)).setCell ⟨B, 0, none⟩ (.int .i64 15)).setCell ⟨B, 1, none⟩ (.int .i64 0)).setCell ⟨B, 2, none⟩ (.int .i64 0)).setCell ⟨B, 3, none⟩ (.slice none 0 0)).setCell ⟨B, 4, none⟩ (.slice (some ⟨z62.heap.size, 0, none⟩) (1967 + k) (1967 + k))).setCell ⟨B, 5, none⟩ (.int .i64 0))) :=
        ⟨15, 0, 0, 0, _, _, 0, 1967 + k, _, _, [], (List.replicate (1967 + k) false), by simp, by simp, by omega, by omega, q4.set6, r4.setNe6 (by have := HB.out; omega), row_set6 (ownI_nil _ _) ⟨_, q4⟩ (by decide), row_set6 row ⟨_, q4⟩ (by decide), C4.set6 (by have := HX.out; have := HB.out; omega) (by have := HX.out; have := HB.out; omega), grown_set6 G4 (by have := HB.out; omega)⟩
      clear e1 e2 m1 m2 i j gg r4 q4 C4 G4 row b' q r c G
      go_wp2_with fail
      go_meet
      exact HM.out
  case rest =>
  obtain ⟨kd', pl', nn', wa', a1', a2', l1', l2', c1', c2', ws', bs', e1, e2, m1, m2, q, r, i, j, c, G⟩ := hcut
  obtain ⟨q0, q1, q2, q3, q4, q5⟩ := q.six
  obtain ⟨y0, y1, y2, y3, y4, y5⟩ := r.six
  have fy := r.fro
  have HH : Hid (OwnI wc w.heap.size (.slice a1' l1' c1') ws' ∧ OwnB wc w.heap.size (.slice a2' l2' c2') bs' ∧ Cur w0 a cap zs wc g ∧ w.grownBy wc (some g) ∧ Blk wc w.heap.size 27 #[.int .i64 0, .int .i64 0, .int .i64 0, .slice none 0 0, .slice none 0 0, .int .i64 0]) := ⟨i, j, c, G, r⟩
  have HE : Hid (l1' = ws'.length ∧ l2' = bs'.length ∧ l1' ≤ 300 ∧ l2' ≤ 3000) := ⟨e1, e2, m1, m2⟩
  clear i j c G r q e1 e2 m1 m2 HD61 C61
  go_wp2
  refine bodyPost_ret (v := rq kd' pl' nn' wa' a1' a2' l1' l2' c1' c2') (by simp [results, Try.results33, go_sem, y0, y1, y2, y3, y4, y5]) rfl ?_
  obtain ⟨OI, OB, CE, GE, RE⟩ := HH.out
  exact ⟨_, _, _, _, _, _, _, _, _, _, ws', bs', rfl, HE.out.1, HE.out.2.1, HE.out.2.2.1, HE.out.2.2.2, row_set6 OI ⟨_, RE⟩ (by decide), row_set6 OB ⟨_, RE⟩ (by decide), CE.set6 (by have := HX.out; omega) (by have := HX.out; omega), grown_set6 GE (Nat.le_refl _)⟩

end Go.Proofs.Ytgamicfcdkjleaa
