/- A drawn device and a drawn question. -/
import Derived.Test.YtfcbkollmhjdoaaDev33
import Derived.Deep.RegionHeld3
import Derived.Deep.Cut
namespace Go.Proofs.Ytfcbkollmhjdoaa
open Go.RowKit

set_option linter.unusedVariables false

set_option linter.unusedSimpArgs false

/-- What drawing a device and a question ends with. -/
def DrawnS (w : World) (e : Ending) (w' : World) : Prop :=
  ∃ (a1 a2 a3 a4 : Option Addr) (l1 l2 l3 l4 c1 c2 c3 c4 : Nat) (cs is : List Bool) (hs rs : List Int) (kd pl nn wa : Int) (q1 q2 : Option Addr) (m1 m2 k1 k2 : Nat) (ws : List Int) (bs : List Bool),
    e = .returned (.tuple #[dv a1 a2 a3 a4 l1 l2 l3 l4 c1 c2 c3 c4, rq kd pl nn wa q1 q2 m1 m2 k1 k2]) ∧ SmD 100 cs is hs rs ∧ RowD w' w.heap.size a1 a2 a3 a4 l1 l2 l3 l4 c1 c2 c3 c4 cs is hs rs ∧ m1 ≤ 300 ∧ m2 ≤ 3000 ∧ OwnI w' w.heap.size (.slice q1 m1 k1) ws ∧ OwnB w' w.heap.size (.slice q2 m2 k2) bs ∧ Below w.heap.size w w'

theorem cell_ne (w : World) {g V : Nat} (h : V ≠ g) (i j : Nat) (y : Value) : (w.setCell ⟨g, j, none⟩ y).cell? ⟨V, i, none⟩ = w.cell? ⟨V, i, none⟩ := by
  unfold World.cell?
  rw [Below.heap_setCell w ⟨g, j, none⟩ y V h]

theorem cell_drew (w : World) (p : Addr) : w.drew.cell? p = w.cell? p := rfl

/-- What is known ahead of the end of the draw. -/
def DQ (W0 : World) (a : Option Addr) (cap : Nat) (zs : List Int) (B g V Q : Nat) (u : World) (a1 a2 a3 a4 : Option Addr) (l1 l2 l3 l4 c1 c2 c3 c4 : Nat) (cs is : List Bool) (hs rs : List Int) : Prop :=
  ∃ (kd pl nn wa : Int) (q1 q2 : Option Addr) (m1 m2 k1 k2 : Nat) (ws : List Int) (bs : List Bool), m1 ≤ 300 ∧ m2 ≤ 3000 ∧ Blk u V 36 #[.slice a1 l1 c1, .slice a2 l2 c2, .slice a3 l3 c3, .slice a4 l4 c4] ∧ Blk u Q 27 #[.int .i64 kd, .int .i64 pl, .int .i64 nn, .slice q1 m1 k1, .slice q2 m2 k2, .int .i64 wa] ∧ RowD u B a1 a2 a3 a4 l1 l2 l3 l4 c1 c2 c3 c4 cs is hs rs ∧ OwnI u B (.slice q1 m1 k1) ws ∧ OwnB u B (.slice q2 m2 k2) bs ∧ Cur W0 a cap zs u g

set_option maxRecDepth 20000 in
set_option maxHeartbeats 1000000 in
theorem DrawServe_any (w : World) (a : Option Addr) (n cap : Nat) (zs : List Int) (hn : n = zs.length) (hs : Sl w a zs) (hr : ∀ z ∈ zs, 0 ≤ z ∧ z ≤ 255) (hl : zs.length ≤ 1048576) :
    Calls Try.prog 18 #[.slice a n cap] w fun e w' => DrawnS w e w' := by
  obtain ⟨W0, hW0⟩ : ∃ W0, W0 = (w.alloc (.cells #[.slice none 0 0, .slice none 0 0, .slice none 0 0, .slice none 0 0] 36)).alloc (.cells #[.int .i64 0, .int .i64 0, .int .i64 0, .slice none 0 0, .slice none 0 0, .int .i64 0] 27) := ⟨_, rfl⟩
  have HW : Hid (W0 = _) := hW0
  have bw : Below w.heap.size w W0 := by rw [hW0]; exact bel_next (bel_alloc _ _) (bel_alloc _ _)
  have R1 : Blk W0 w.heap.size 36 #[.slice none 0 0, .slice none 0 0, .slice none 0 0, .slice none 0 0] := by rw [hW0]; exact (Blk.new _ _ _).below (bel_alloc _ _)
  have R2 : Blk W0 (w.heap.size + 1) 27 #[.int .i64 0, .int .i64 0, .int .i64 0, .slice none 0 0, .slice none 0 0, .int .i64 0] := by rw [hW0]; have := Blk.new (w.alloc (.cells #[.slice none 0 0, .slice none 0 0, .slice none 0 0, .slice none 0 0] 36)) #[.int .i64 0, .int .i64 0, .int .i64 0, .slice none 0 0, .slice none 0 0, .int .i64 0] 27; simpa using this
  have HS : Hid (Sl W0 a zs) := hs.below bw
  have HN : Hid (n = zs.length) := hn
  have HR : Hid (∀ z ∈ zs, 0 ≤ z ∧ z ≤ 255) := hr
  have HB : Hid (Below w.heap.size w W0) := bw
  have HR0 : Hid (Blk W0 w.heap.size 36 #[.slice none 0 0, .slice none 0 0, .slice none 0 0, .slice none 0 0] ∧ Blk W0 (w.heap.size + 1) 27 #[.int .i64 0, .int .i64 0, .int .i64 0, .slice none 0 0, .slice none 0 0, .int .i64 0]) := ⟨R1, R2⟩
  clear hW0 hs hn hr bw R1 R2
  go_enter Try.func18, Try.ntmps18
  go_upto_region 1 with fail
  rw [← HW.out]
  go_wp2_with fail
  refine (l1New_any W0 a n cap zs HN.out HS.out HR.out hl).mono ?_
  rintro e z1 ⟨rfl, C1, _⟩
  obtain ⟨g, hg⟩ : ∃ g, g = W0.heap.size := ⟨_, rfl⟩
  rw [← hg] at C1
  simp only [← hg]
  have HG : Hid (g = W0.heap.size) := hg
  have hgz : g < z1.heap.size := C1.hi
  clear hg
  go_wp2_with fail
  refine (l5DrawAny_any W0 a cap zs z1 g C1).mono ?_
  rintro e z2 ⟨a1, a2, a3, a4, l1, l2, l3, l4, c1, c2, c3, c4, cs, is, hs, rs, rfl, hsm, D2, C2, g2⟩
  have HSM : Hid (SmD 100 cs is hs rs) := hsm
  clear C1 hsm
  have bd := bel_alloc z2 (.cells #[.slice a1 l1 c1, .slice a2 l2 c2, .slice a3 l3 c3, .slice a4 l4 c4] 36)
  have X3 := Blk.new z2 #[.slice a1 l1 c1, .slice a2 l2 c2, .slice a3 l3 c3, .slice a4 l4 c4] 36
  have D3 := D2.below bd
  have C3 := C2.alloc (.cells #[.slice a1 l1 c1, .slice a2 l2 c2, .slice a3 l3 c3, .slice a4 l4 c4] 36)
  obtain ⟨V, hV⟩ : ∃ V, V = z2.heap.size := ⟨_, rfl⟩
  rw [← hV] at X3
  have HV : Hid (V = z2.heap.size) := hV
  have hVz : z1.heap.size ≤ V := by rw [hV]; exact g2.size
  obtain ⟨z3, hz3⟩ : ∃ z3, z3 = z2.alloc (.cells #[.slice a1 l1 c1, .slice a2 l2 c2, .slice a3 l3 c3, .slice a4 l4 c4] 36) := ⟨_, rfl⟩
  rw [← hz3] at X3 D3 C3
  have HZ3 : Hid (z3 = _) := hz3
  have hsz3 : z3.heap.size = V + 1 := by rw [hz3, hV]; simp
  have HS3 : Hid (z3.heap.size = V + 1) := hsz3
  have I4 := ints_lit z3 [0, 0, 0, 10, 60] 3
  have b4 := bel_alloc z3 (.cells ([0, 0, 0, 10, 60].map (Value.int .i64)).toArray 3)
  have X4 := X3.below b4
  have D4 := D3.below b4
  have C4 := C3.alloc (.cells ([0, 0, 0, 10, 60].map (Value.int .i64)).toArray 3)
  have hne4 : z3.heap.size ≠ g := by have := C3.hi; omega
  clear X3 D3 C3 bd D2 C2 g2 hV b4 hsz3
  clear hz3
  go_upto_region 3 with fail
  simp only [← HV.out]
  rw [← HZ3.out]
  go_wp2_with fail
  refine (l1Int_any W0 a cap zs _ g ⟨z3.heap.size, 0, none⟩ 5 5 [0, 0, 0, 10, 60] rfl (by omega) (by omega) I4 hne4 C4).mono ?_
  rintro e z5 ⟨nr, rfl, hnr, C5, gg⟩
  have hnr' : 0 ≤ nr ∧ nr ≤ 100 := by simp at hnr; omega
  have X5 := X4.grown gg (by simp; omega)
  have D5 := D4.keptG gg hgz
  have hVz5 : V < z5.heap.size := X5.lt
  clear X4 D4 C4 I4 gg hne4 hnr
  go_wp2_with fail
  refine (l3Draw_any W0 a cap zs _ g nr hnr' C5).mono ?_
  rintro e z6 ⟨kd, pl, nn, wa, q1, q2, m1, m2, k1, k2, ws, bs, rfl, e1, e2, hm1, hm2, i6, j6, C6, gg⟩
  have X6 := X5.grown gg (by simp; omega)
  have D6 := D5.keptG gg hgz
  have i6 := OwnI.mono i6 (show z1.heap.size ≤ z5.heap.size by omega)
  have j6 := OwnB.mono j6 (show z1.heap.size ≤ z5.heap.size by omega)
  have hz65 := gg.size
  clear X5 D5 C5 gg hnr'
  have b7 := bel_alloc z6 (.cells #[.int .i64 kd, .int .i64 pl, .int .i64 nn, .slice q1 m1 k1, .slice q2 m2 k2, .int .i64 wa] 27)
  have Y7 := Blk.new z6 #[.int .i64 kd, .int .i64 pl, .int .i64 nn, .slice q1 m1 k1, .slice q2 m2 k2, .int .i64 wa] 27
  have X7 := X6.below b7
  have D7 := D6.below b7
  have i7 := OwnI.below i6 b7
  have j7 := OwnB.below j6 b7
  have C7 := C6.alloc (.cells #[.int .i64 kd, .int .i64 pl, .int .i64 nn, .slice q1 m1 k1, .slice q2 m2 k2, .int .i64 wa] 27)
  obtain ⟨Q, hQ⟩ : ∃ Q, Q = z6.heap.size := ⟨_, rfl⟩
  rw [← hQ] at Y7
  have HQ : Hid (Q = z6.heap.size) := hQ
  have hQV : V < Q := by omega
  have HE : Hid (m1 = ws.length ∧ m2 = bs.length ∧ m1 ≤ 200 ∧ m2 ≤ 2000) := ⟨e1, e2, hm1, hm2⟩
  clear X6 D6 i6 j6 C6 b7 hQ e1 e2 hm1 hm2
  go_wp2_with fail
  refine (l1Once_any W0 a cap zs _ g 10 (by decide) C7).mono ?_
  rintro e z8 ⟨t, rfl, C8, gg⟩
  have X8 := X7.grown gg (by simp; omega)
  have Y8 := Y7.grown gg (by simp; omega)
  have D8 := D7.keptG gg hgz
  have i8 := OwnI.kept i7 gg (row_ne_g i7 hgz)
  have j8 := OwnB.kept j7 gg (row_ne_g j7 hgz)
  have hz8 : z1.heap.size ≤ z8.heap.size := by have := X8.lt; omega
  clear X7 Y7 D7 i7 j7 C7 gg
  simp only [← HQ.out]
  have hzw : w.heap.size ≤ z1.heap.size := by have := HB.out.size; have := HG.out; omega
  have HK : Hid (w.heap.size + 2 ≤ g ∧ g < z1.heap.size ∧ z1.heap.size ≤ V ∧ V < Q) := by
    have h1 := HG.out
    have h2 := HR0.out.2.lt
    exact ⟨by omega, hgz, hVz, hQV⟩
  go_upto_if 17 with fail
  go_cut [] from 18 (fun wx => DQ W0 a cap zs z1.heap.size g V Q wx a1 a2 a3 a4 l1 l2 l3 l4 c1 c2 c3 c4 cs is hs rs)
  case first =>
    cases t
    · go_wp2_with fail
      go_meet
      case rel => exact ⟨kd, pl, nn, wa, q1, q2, m1, m2, k1, k2, ws, bs, by have := HE.out; omega, by have := HE.out; omega, X8, Y8, D8, i8, j8, C8⟩
    · skip
      obtain ⟨y0, y1, y2, y3, y4, y5⟩ := Y8.six
      go_wp2_with fail
      refine (l3Bend_any W0 a cap zs _ g kd pl nn wa q1 q2 m1 m2 k1 k2 ws bs z1.heap.size HE.out.1 HE.out.2.1 (by have := HE.out; omega) (by have := HE.out; omega) hgz hz8 i8 j8 C8).mono ?_
      rintro e z9 ⟨kd', pl', nn', wa', q1', q2', m1', m2', k1', k2', ws', bs', rfl, e1, e2, hm1, hm2, i9, j9, C9, gg⟩
      have X9 := X8.grown gg (by simp; omega)
      have Y9 := Y8.grown gg (by simp; omega)
      have D9 := D8.keptG gg hgz
      clear X8 Y8 D8 i8 j8 C8 gg y0 y1 y2 y3 y4 y5
      obtain ⟨y0, y1, y2, y3, y4, y5⟩ := Y9.six
      have fy := Y9.fro
      have HM : Hid (DQ W0 a cap zs z1.heap.size g V Q ((((((z9.setCell ⟨Q, 0, none⟩ (.int .i64 kd')).setCell ⟨Q, 1, none⟩ (.int .i64 pl')).setCell ⟨Q, 2, none⟩ (.int .i64 nn')).setCell ⟨Q, 3, none⟩ (.slice q1' m1' k1')).setCell ⟨Q, 4, none⟩ (.slice q2' m2' k2')).setCell ⟨Q, 5, none⟩ (.int .i64 wa')) a1 a2 a3 a4 l1 l2 l3 l4 c1 c2 c3 c4 cs is hs rs) :=
        ⟨kd', pl', nn', wa', q1', q2', m1', m2', k1', k2', ws', bs', by have := HE.out; omega, by have := HE.out; omega, (((((X9.setNe (by omega)).setNe (by omega)).setNe (by omega)).setNe (by omega)).setNe (by omega)).setNe (by omega), (((((Y9.set 0 _).set 1 _).set 2 _).set 3 _).set 4 _).set 5 _, ⟨rowp_set6 D9.r1 ⟨_, Y9⟩ (by decide), rowp_set6 D9.r2 ⟨_, Y9⟩ (by decide), rowp_set6 D9.r3 ⟨_, Y9⟩ (by decide), rowp_set6 D9.r4 ⟨_, Y9⟩ (by decide)⟩, rowp_set6 i9 ⟨_, Y9⟩ (by decide), rowp_set6 j9 ⟨_, Y9⟩ (by decide), (((((C9.setHi (by omega) (by have := HG.out; omega)).setHi (by omega) (by have := HG.out; omega)).setHi (by omega) (by have := HG.out; omega)).setHi (by omega) (by have := HG.out; omega)).setHi (by omega) (by have := HG.out; omega)).setHi (by omega) (by have := HG.out; omega)⟩
      clear X9 Y9 D9 i9 j9 C9 e1 e2 hm1 hm2
      go_wp2_with fail
      go_meet
      case rel => exact HM.out
  case rest =>
  obtain ⟨kd', pl', nn', wa', q1', q2', m1', m2', k1', k2', ws', bs', hm1, hm2, X9, Y9, D9, i9, j9, C9⟩ := hcut
  have bz : Below wc.heap.size wc wc.drew := (Below.refl _ _).drew
  obtain ⟨z, hz⟩ : ∃ z, z = wc.drew := ⟨_, rfl⟩
  rw [← hz] at bz
  have X10 := X9.below bz
  have Y10 := Y9.below bz
  have C10 := C9.grown (grown_below bz none) (by simp) (by simp)
  have R1 := HR0.out.1.below C10.bel
  have R2 := HR0.out.2.below C10.bel
  have B10 := bel_next HB.out C10.bel
  have D10 := (D9.below bz).mono hzw
  have i10 := OwnI.mono (OwnI.below i9 bz) hzw
  have j10 := OwnB.mono (OwnB.below j9 bz) hzw
  have HM : Hid (m1' ≤ 300 ∧ m2' ≤ 3000) := ⟨hm1, hm2⟩
  have hq1 : Q ≠ w.heap.size := by have := HK.out; omega
  have hv1 : V ≠ w.heap.size := by have := HK.out; omega
  have hv2 : V ≠ w.heap.size + 1 := by have := HK.out; omega
  have hq2 : Q ≠ w.heap.size + 1 := by have := HK.out; omega
  have Y14 := (((Y10.setNe (g' := w.heap.size) (j := 0) (y := .slice a1 l1 c1) hq1).setNe (g' := w.heap.size) (j := 1) (y := .slice a2 l2 c2) hq1).setNe (g' := w.heap.size) (j := 2) (y := .slice a3 l3 c3) hq1).setNe (g' := w.heap.size) (j := 3) (y := .slice a4 l4 c4) hq1
  have R14 := (((R2.setNe (g' := w.heap.size) (j := 0) (y := .slice a1 l1 c1) (by omega)).setNe (g' := w.heap.size) (j := 1) (y := .slice a2 l2 c2) (by omega)).setNe (g' := w.heap.size) (j := 2) (y := .slice a3 l3 c3) (by omega)).setNe (g' := w.heap.size) (j := 3) (y := .slice a4 l4 c4) (by omega)
  have P14 := (((R1.set 0 (.slice a1 l1 c1)).set 1 (.slice a2 l2 c2)).set 2 (.slice a3 l3 c3)).set 3 (.slice a4 l4 c4)
  have P20 := (((((P14.setNe (g' := w.heap.size + 1) (j := 0) (y := .int .i64 kd') (by omega)).setNe (g' := w.heap.size + 1) (j := 1) (y := .int .i64 pl') (by omega)).setNe (g' := w.heap.size + 1) (j := 2) (y := .int .i64 nn') (by omega)).setNe (g' := w.heap.size + 1) (j := 3) (y := .slice q1' m1' k1') (by omega)).setNe (g' := w.heap.size + 1) (j := 4) (y := .slice q2' m2' k2') (by omega)).setNe (g' := w.heap.size + 1) (j := 5) (y := .int .i64 wa') (by omega)
  have R20 := (((((R14.set 0 (.int .i64 kd')).set 1 (.int .i64 pl')).set 2 (.int .i64 nn')).set 3 (.slice q1' m1' k1')).set 4 (.slice q2' m2' k2')).set 5 (.int .i64 wa')
  have HF : Hid (DrawnS w (.returned (.tuple #[dv a1 a2 a3 a4 l1 l2 l3 l4 c1 c2 c3 c4, rq kd' pl' nn' wa' q1' q2' m1' m2' k1' k2'])) ((((((((((z.setCell ⟨w.heap.size, 0, none⟩ (.slice a1 l1 c1)).setCell ⟨w.heap.size, 1, none⟩ (.slice a2 l2 c2)).setCell ⟨w.heap.size, 2, none⟩ (.slice a3 l3 c3)).setCell ⟨w.heap.size, 3, none⟩ (.slice a4 l4 c4)).setCell ⟨w.heap.size + 1, 0, none⟩ (.int .i64 kd')).setCell ⟨w.heap.size + 1, 1, none⟩ (.int .i64 pl')).setCell ⟨w.heap.size + 1, 2, none⟩ (.int .i64 nn')).setCell ⟨w.heap.size + 1, 3, none⟩ (.slice q1' m1' k1')).setCell ⟨w.heap.size + 1, 4, none⟩ (.slice q2' m2' k2')).setCell ⟨w.heap.size + 1, 5, none⟩ (.int .i64 wa'))) :=
    ⟨_, _, _, _, _, _, _, _, _, _, _, _, _, _, _, _, _, _, _, _, _, _, _, _, _, _, _, _, rfl, HSM.out, ⟨rowp_set6 (row_set4 D10.r1 ⟨_, R1⟩ (by decide)) ⟨_, R14⟩ (by decide), rowp_set6 (row_set4 D10.r2 ⟨_, R1⟩ (by decide)) ⟨_, R14⟩ (by decide), rowp_set6 (row_set4 D10.r3 ⟨_, R1⟩ (by decide)) ⟨_, R14⟩ (by decide), rowp_set6 (row_set4 D10.r4 ⟨_, R1⟩ (by decide)) ⟨_, R14⟩ (by decide)⟩, hm1, hm2, rowp_set6 (row_set4 i10 ⟨_, R1⟩ (by decide)) ⟨_, R14⟩ (by decide), rowp_set6 (row_set4 j10 ⟨_, R1⟩ (by decide)) ⟨_, R14⟩ (by decide), belp_set6 (bel_set4 B10 (Nat.le_refl _)) (Nat.le_succ _)⟩
  obtain ⟨x0, x1, x2, x3⟩ := X10.four
  obtain ⟨y0, y1, y2, y3, y4, y5⟩ := Y10.six
  obtain ⟨t0, t1, t2, t3, t4, t5⟩ := Y14.six
  obtain ⟨r0, r1, r2, r3⟩ := R1.four
  obtain ⟨s0, s1, s2, s3, s4, s5⟩ := R14.six
  obtain ⟨u0, u1, u2, u3⟩ := P20.four
  obtain ⟨v0, v1, v2, v3, v4, v5⟩ := R20.six
  have f1 := R1.fro
  have f2 := R14.fro
  have HZ : Hid (z = wc.drew) := hz
  clear X9 Y9 D9 i9 j9 C9 R1 R2 B10 hm1 hm2 X8 Y8 D8 i8 j8 C8 hVz hVz5 hz65 hQV hz8 hzw bz hz X10 Y10 C10 D10 i10 j10 Y14 R14 P14 P20 R20
  go_upto_region 6 with fail
  refine wp_region_any (by kernel_rfl) ?_
  (try (change wpAny _ _ _ _ _ _ _ (World.drew _)))
  rw [← HZ.out]
  refine wpAny_ready (rs := [0, 1]) (by kernel_rfl) (by simp) ?_
  refine AllReady.cons rfl (fun K hK => ?_) ?_
  · skip
    go_simp
    refine hK _ _ ?_
    clear hK K
    refine wpAny_ready (rs := [1, 2]) (by kernel_rfl) (by simp) ?_
    refine AllReady.cons rfl (fun K hK => ?_) ?_
    · skip
      go_simp
      refine hK _ _ ?_
      clear hK K
      refine wpAny_ready (rs := [2]) (by kernel_rfl) (by simp) ?_
      refine AllReady.cons rfl (fun K hK => ?_) AllReady.nil
      go_simp
      refine hK _ _ ?_
      clear hK K
      refine wpAny_ready (rs := [3]) (by kernel_rfl) (by simp) ?_
      refine AllReady.cons rfl (fun K hK => ?_) AllReady.nil
      go_simp
      refine hK _ _ ?_
      clear hK K
      refine wpAny_done (by kernel_rfl) ?_ _
      go_wp2
      refine bodyPost_ret (v := .tuple #[dv a1 a2 a3 a4 l1 l2 l3 l4 c1 c2 c3 c4, rq kd' pl' nn' wa' q1' q2' m1' m2' k1' k2']) (by simp [results, Try.results18, go_sem, u0, u1, u2, u3, v0, v1, v2, v3, v4, v5]) rfl ?_
      exact HF.out
    refine AllReady.cons rfl (fun K hK => ?_) AllReady.nil
    go_simp
    refine hK _ _ ?_
    clear hK K
    refine wpAny_ready (rs := [1]) (by kernel_rfl) (by simp) ?_
    refine AllReady.cons rfl (fun K hK => ?_) AllReady.nil
    go_simp
    refine hK _ _ ?_
    clear hK K
    refine wpAny_ready (rs := [3]) (by kernel_rfl) (by simp) ?_
    refine AllReady.cons rfl (fun K hK => ?_) AllReady.nil
    go_simp
    refine hK _ _ ?_
    clear hK K
    refine wpAny_done (by kernel_rfl) ?_ _
    go_wp2
    refine bodyPost_ret (v := .tuple #[dv a1 a2 a3 a4 l1 l2 l3 l4 c1 c2 c3 c4, rq kd' pl' nn' wa' q1' q2' m1' m2' k1' k2']) (by simp [results, Try.results18, go_sem, u0, u1, u2, u3, v0, v1, v2, v3, v4, v5]) rfl ?_
    exact HF.out
  refine AllReady.cons rfl (fun K hK => ?_) AllReady.nil
  go_simp
  refine hK _ _ ?_
  clear hK K
  refine wpAny_ready (rs := [0]) (by kernel_rfl) (by simp) ?_
  refine AllReady.cons rfl (fun K hK => ?_) AllReady.nil
  go_simp
  refine hK _ _ ?_
  clear hK K
  refine wpAny_ready (rs := [2]) (by kernel_rfl) (by simp) ?_
  refine AllReady.cons rfl (fun K hK => ?_) AllReady.nil
  go_simp
  refine hK _ _ ?_
  clear hK K
  refine wpAny_ready (rs := [3]) (by kernel_rfl) (by simp) ?_
  refine AllReady.cons rfl (fun K hK => ?_) AllReady.nil
  go_simp
  refine hK _ _ ?_
  clear hK K
  refine wpAny_done (by kernel_rfl) ?_ _
  go_wp2
  refine bodyPost_ret (v := .tuple #[dv a1 a2 a3 a4 l1 l2 l3 l4 c1 c2 c3 c4, rq kd' pl' nn' wa' q1' q2' m1' m2' k1' k2']) (by simp [results, Try.results18, go_sem, u0, u1, u2, u3, v0, v1, v2, v3, v4, v5]) rfl ?_
  exact HF.out

end Go.Proofs.Ytfcbkollmhjdoaa
