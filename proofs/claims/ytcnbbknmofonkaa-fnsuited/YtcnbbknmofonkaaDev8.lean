/- Deeds that write words. -/
import Derived.Test.YtcnbbknmofonkaaDev7
namespace Go.Proofs.Ytcnbbknmofonkaa
open Go.RowKit

set_option linter.unusedVariables false

set_option linter.unusedSimpArgs false

theorem Chg.set6 {w w1 : World} {S : Nat → Prop} {g : Nat} {v0 v1 v2 v3 v4 v5 : Value} (h : Chg w w1 S) (hg : w.heap.size ≤ g) :
    Chg w ((((((w1.setCell ⟨g, 0, none⟩ v0).setCell ⟨g, 1, none⟩ v1).setCell ⟨g, 2, none⟩ v2).setCell ⟨g, 3, none⟩ v3).setCell ⟨g, 4, none⟩ v4).setCell ⟨g, 5, none⟩ v5) S := by
  have q := belp_set6 (v0 := v0) (v1 := v1) (v2 := v2) (v3 := v3) (v4 := v4) (v5 := v5) (Below.refl w.heap.size w1) hg
  exact ⟨q.os.trans h.1, q.tape.trans h.2.1, q.output.trans h.2.2.1, Nat.le_trans h.2.2.2.1 q.size, fun k hk hs => (q.block k hk).trans (h.2.2.2.2 k hk hs)⟩

theorem OwnD.set6 {w : World} {B g : Nat} {t : TypeId} {v0 v1 v2 v3 v4 v5 : Value} {a1 a2 a3 a4 : Option Addr} {l1 l2 l3 l4 c1 c2 c3 c4 : Nat} {cs is : List Bool} {hs rs : List Int} (h : OwnD w B a1 a2 a3 a4 l1 l2 l3 l4 c1 c2 c3 c4 cs is hs rs) (hb : ExB w g t) (h1 : t ≠ 4) (h2 : t ≠ 3) :
    OwnD ((((((w.setCell ⟨g, 0, none⟩ v0).setCell ⟨g, 1, none⟩ v1).setCell ⟨g, 2, none⟩ v2).setCell ⟨g, 3, none⟩ v3).setCell ⟨g, 4, none⟩ v4).setCell ⟨g, 5, none⟩ v5) B a1 a2 a3 a4 l1 l2 l3 l4 c1 c2 c3 c4 cs is hs rs :=
  ⟨rowp_set6 h.1 hb h1, rowp_set6 h.2.1 hb h1, rowp_set6 h.2.2.1 hb h2, rowp_set6 h.2.2.2.1 hb h2, h.2.2.2.2⟩

theorem Blk.drew {w : World} {g : Nat} {t : TypeId} {cs : Array Value} (h : Blk w g t cs) : Blk w.drew g t cs := h

theorem OwnD.drew {w : World} {B : Nat} {a1 a2 a3 a4 : Option Addr} {l1 l2 l3 l4 c1 c2 c3 c4 : Nat} {cs is : List Bool} {hs rs : List Int} (h : OwnD w B a1 a2 a3 a4 l1 l2 l3 l4 c1 c2 c3 c4 cs is hs rs) : OwnD w.drew B a1 a2 a3 a4 l1 l2 l3 l4 c1 c2 c3 c4 cs is hs rs := h

theorem Chg.drew {w w' : World} {S : Nat → Prop} (h : Chg w w' S) : Chg w w'.drew S := h

set_option maxRecDepth 20000 in
set_option maxHeartbeats 8000000 in
theorem setWord_any (a1 a2 a3 a4 : Option Addr) (l1 l2 l3 l4 c1 c2 c3 c4 : Nat) (cs is : List Bool) (hs rs : List Int) (kd nn wa : Int) (k : Nat) (q1 q2 : Option Addr) (m1 m2 k1 k2 : Nat) (ws : List Int) (bs : List Bool) (W0 w : World) (hB : Below W0.heap.size W0 w) (hD : OwnD w W0.heap.size a1 a2 a3 a4 l1 l2 l3 l4 c1 c2 c3 c4 cs is hs rs) (hn : m1 = ws.length) (hq : SlI W0 q1 ws) (hk : k < l3) (hl : ws.length ≤ 2000000) (h3 : l3 ≤ 2000000) (h0 : 0 < ws.length) :
    Calls Try.prog 106 #[dv a1 a2 a3 a4 l1 l2 l3 l4 c1 c2 c3 c4, rq kd (k : Int) nn wa q1 q2 m1 m2 k1 k2] w fun e w' => SV W0 w w' e a1 a2 a3 a4 l1 l2 l3 l4 c1 c2 c3 c4 cs is (hs.set k (ws.getD 0 0)) rs kd 0 (k : Int) 0 ws [] := by
  obtain ⟨z, hz⟩ : ∃ z, z = ((w.alloc (.cells #[.slice a1 l1 c1, .slice a2 l2 c2, .slice a3 l3 c3, .slice a4 l4 c4] 29)).alloc (.cells #[.int .i64 kd, .int .i64 (k : Int), .int .i64 nn, .slice q1 m1 k1, .slice q2 m2 k2, .int .i64 wa] 46)).alloc (.cells #[.int .i64 0, .int .i64 0, .int .i64 0, .int .i64 0, .slice none 0 0, .slice none 0 0] 48) := ⟨_, rfl⟩
  have HZ : Hid (z = _) := hz
  have b0 : Below w.heap.size w z := by rw [hz]; exact bel_next (bel_next (bel_alloc w _) (bel_alloc _ _)) (bel_alloc _ _)
  have X0 : Blk z w.heap.size 29 #[.slice a1 l1 c1, .slice a2 l2 c2, .slice a3 l3 c3, .slice a4 l4 c4] := by rw [hz]; exact ((Blk.new w _ _).below (bel_alloc _ _)).below (bel_alloc _ _)
  have Y0 : Blk z (w.heap.size + 1) 46 #[.int .i64 kd, .int .i64 (k : Int), .int .i64 nn, .slice q1 m1 k1, .slice q2 m2 k2, .int .i64 wa] := by rw [hz]; have := (Blk.new (w.alloc (.cells #[.slice a1 l1 c1, .slice a2 l2 c2, .slice a3 l3 c3, .slice a4 l4 c4] 29)) #[.int .i64 kd, .int .i64 (k : Int), .int .i64 nn, .slice q1 m1 k1, .slice q2 m2 k2, .int .i64 wa] 46).below (bel_alloc _ (.cells #[.int .i64 0, .int .i64 0, .int .i64 0, .int .i64 0, .slice none 0 0, .slice none 0 0] 48)); simpa using this
  have R0 : Blk z (w.heap.size + 1 + 1) 48 #[.int .i64 0, .int .i64 0, .int .i64 0, .int .i64 0, .slice none 0 0, .slice none 0 0] := by rw [hz]; have := Blk.new ((w.alloc (.cells #[.slice a1 l1 c1, .slice a2 l2 c2, .slice a3 l3 c3, .slice a4 l4 c4] 29)).alloc (.cells #[.int .i64 kd, .int .i64 (k : Int), .int .i64 nn, .slice q1 m1 k1, .slice q2 m2 k2, .int .i64 wa] 46)) #[.int .i64 0, .int .i64 0, .int .i64 0, .int .i64 0, .slice none 0 0, .slice none 0 0] 48; simpa using this
  have HB0 : Hid (Below W0.heap.size W0 z) := hB.trans (b0.mono hB.size)
  have D0 := hD.below b0
  have C0 : Hid (Chg w z (Of4 (.slice a1 l1 c1) (.slice a2 l2 c2) (.slice a3 l3 c3) (.slice a4 l4 c4))) := Chg.ofBelow b0
  have HQ : Hid (m1 = ws.length ∧ SlI W0 q1 ws ∧ ws.length ≤ 2000000) := ⟨hn, hq, hl⟩
  obtain ⟨b, ea3, hb, hlt, hc, hf, hset⟩ := D0.setWord hk
  subst ea3
  obtain ⟨bq, off, eq1, hbq, hcq⟩ := cell_atI (hq.below HB0.out) h0
  have hcq0 : z.cell? ⟨bq, off, none⟩ = some (.int .i64 (ws.getD 0 0)) := by simpa using hcq
  subst eq1
  generalize hx : ws.getD 0 0 = x at *
  obtain ⟨D1, C1⟩ := hset x
  have Y1 := Y0.chg C1 (D0.noBlk Y0 (by decide) (by decide))
  have R1 := R0.chg C1 (D0.noBlk R0 (by decide) (by decide))
  have i0 : (k : Int) < (l3 : Int) := by omega
  have i1 : (0 : Int) < (m1 : Int) := by omega
  obtain ⟨x0, x1, x2, x3⟩ := X0.four
  obtain ⟨y0, y1, y2, y3, y4, y5⟩ := Y0.six
  have HH0 : Hid (OwnD (z.setCell ⟨b, k, none⟩ (.int .i64 x)) W0.heap.size a1 a2 (some ⟨b, 0, none⟩) a4 l1 l2 l3 l4 c1 c2 c3 c4 cs is (hs.set k x) rs ∧ Chg w (z.setCell ⟨b, k, none⟩ (.int .i64 x)) (Of4 (.slice a1 l1 c1) (.slice a2 l2 c2) (.slice (some ⟨b, 0, none⟩) l3 c3) (.slice a4 l4 c4)) ∧ Below W0.heap.size W0 (z.setCell ⟨b, k, none⟩ (.int .i64 x))) := ⟨D1, C0.out.trans C1, bel_setG HB0.out hb⟩
  clear hz hset D1 C1 D0 hD hcq hq hn hl hk hlt
  go_enter Try.func106, Try.ntmps106
  go_upto_region 1 with fail
  rw [← HZ.out]
  go_region
  clear hc hf hcq0 x0 x1 x2 x3 y0 y1 y2 y3 y4 y5
  go_upto_region 2 with fail
  obtain ⟨z2, hz2⟩ : ∃ z2, z2 = (z.setCell ⟨b, k, none⟩ (.int .i64 x)).drew := ⟨_, rfl⟩
  have Y2 := Y1.drew
  have R2 := R1.drew
  rw [← hz2] at Y2 R2
  have D2 : OwnD z2 W0.heap.size a1 a2 (some ⟨b, 0, none⟩) a4 l1 l2 l3 l4 c1 c2 c3 c4 cs is (hs.set k x) rs := by rw [hz2]; exact HH0.out.1.drew
  have C2 : Hid (Chg w z2 (Of4 (.slice a1 l1 c1) (.slice a2 l2 c2) (.slice (some ⟨b, 0, none⟩) l3 c3) (.slice a4 l4 c4))) := by rw [hz2]; exact HH0.out.2.1.drew
  have HB2 : Hid (Below W0.heap.size W0 z2) := by rw [hz2]; exact HH0.out.2.2.drew
  simp only [← hz2]
  clear hz2 Y1 R1 HH0
  obtain ⟨y0, y1, y2, y3, y4, y5⟩ := Y2.six
  have dz : Below z2.heap.size z2 z2.drew := (Below.refl _ _).drew
  go_region_held3 (fun w' => w'.cell? ⟨w.heap.size + 1, 0, none⟩ = some (.int .i64 kd) ∧ w'.cell? ⟨w.heap.size + 1, 1, none⟩ = some (.int .i64 (k : Int)) ∧ w'.cell? ⟨w.heap.size + 1, 3, none⟩ = some (.slice (some ⟨bq, off, none⟩) m1 k1)) (go_keep)
    (first | (go_at_call 82; refine (copyOfI (some ⟨bq, off, none⟩) m1 k1 ws _ HQ.out.1 (HQ.out.2.1.below (by first | exact HB2.out | exact HB2.out.drew)) HQ.out.2.2).mono ?_; rintro e w3 ⟨g, rfl, i3, b'⟩; have B3 : Below z2.heap.size z2 w3 := (by first | exact b' | exact bel_next dz b'); obtain ⟨v0, v1, v2, v3, v4, v5⟩ := (Y2.below B3).six; obtain ⟨r0, r1, r2, r3, r4, r5⟩ := (R2.below B3).six; have f3 := (R2.below B3).fro; have g0 := f3 0; have g1 := f3 1; have g2 := f3 2; have g3 := f3 3; have g4 := f3 4; have g5 := f3 5; have zs3 : Hid (z2.heap.size ≤ w3.heap.size) := B3.size; clear b'))
  all_goals (
    have D3 := D2.below B3
    have HH : Hid (OwnI w3 w.heap.size (.slice (some ⟨g, 0, none⟩) m1 m1) ws ∧ OwnD w3 W0.heap.size a1 a2 (some ⟨b, 0, none⟩) a4 l1 l2 l3 l4 c1 c2 c3 c4 cs is _ rs ∧ ExB w3 (w.heap.size + 1 + 1) 48 ∧ Below W0.heap.size W0 w3 ∧ Chg w w3 _) := ⟨OwnI.mono i3 (by exact C2.out.2.2.2.1), D3, ⟨_, R2.below B3⟩, HB2.out.trans (B3.mono (by have := HB2.out.size; omega)), C2.out.trans (Chg.ofBelow B3)⟩
    have HS0 : Hid (W0.heap.size ≤ w.heap.size) := hB.size
    clear i3 D3
    go_wp2
    refine bodyPost_ret (v := rp kd 0 (k : Int) 0 (some ⟨g, 0, none⟩) none m1 0 m1 0) (by simp [results, Try.results106, go_sem, r0, r1, r2, r3, r4, r5]) rfl ?_
    obtain ⟨o1, o2, o3, o4, o5⟩ := HH.out
    exact ⟨_, _, _, _, _, _, rfl, rowp_set6 o1 o3 (by decide), ownB_nil0 _ _, o2.set6 o3 (by decide) (by decide), belp_set6 o4 (by have := HS0.out; omega), o5.set6 (by omega)⟩)

/-- A word behind a mask, as the program reckons it. -/
def mskI (h x y : Int) : Int := bits .or .i64 (bits .and .i64 h x) (bits .andNot .i64 y x)

set_option maxRecDepth 20000 in
set_option maxHeartbeats 8000000 in
theorem maskWord_any (a1 a2 a3 a4 : Option Addr) (l1 l2 l3 l4 c1 c2 c3 c4 : Nat) (cs is : List Bool) (hs rs : List Int) (kd nn wa : Int) (k : Nat) (q1 q2 : Option Addr) (m1 m2 k1 k2 : Nat) (ws : List Int) (bs : List Bool) (W0 w : World) (hB : Below W0.heap.size W0 w) (hD : OwnD w W0.heap.size a1 a2 a3 a4 l1 l2 l3 l4 c1 c2 c3 c4 cs is hs rs) (hn : m1 = ws.length) (hq : SlI W0 q1 ws) (hk : k < l3) (hl : ws.length ≤ 2000000) (h3 : l3 ≤ 2000000) (h0 : 1 < ws.length) :
    Calls Try.prog 109 #[dv a1 a2 a3 a4 l1 l2 l3 l4 c1 c2 c3 c4, rq kd (k : Int) nn wa q1 q2 m1 m2 k1 k2] w fun e w' => SV W0 w w' e a1 a2 a3 a4 l1 l2 l3 l4 c1 c2 c3 c4 cs is (hs.set k (mskI (hs.getD k 0) (ws.getD 0 0) (ws.getD 1 0))) rs kd 0 (k : Int) 0 ws [] := by
  obtain ⟨z, hz⟩ : ∃ z, z = ((w.alloc (.cells #[.slice a1 l1 c1, .slice a2 l2 c2, .slice a3 l3 c3, .slice a4 l4 c4] 29)).alloc (.cells #[.int .i64 kd, .int .i64 (k : Int), .int .i64 nn, .slice q1 m1 k1, .slice q2 m2 k2, .int .i64 wa] 46)).alloc (.cells #[.int .i64 0, .int .i64 0, .int .i64 0, .int .i64 0, .slice none 0 0, .slice none 0 0] 48) := ⟨_, rfl⟩
  have HZ : Hid (z = _) := hz
  have b0 : Below w.heap.size w z := by rw [hz]; exact bel_next (bel_next (bel_alloc w _) (bel_alloc _ _)) (bel_alloc _ _)
  have X0 : Blk z w.heap.size 29 #[.slice a1 l1 c1, .slice a2 l2 c2, .slice a3 l3 c3, .slice a4 l4 c4] := by rw [hz]; exact ((Blk.new w _ _).below (bel_alloc _ _)).below (bel_alloc _ _)
  have Y0 : Blk z (w.heap.size + 1) 46 #[.int .i64 kd, .int .i64 (k : Int), .int .i64 nn, .slice q1 m1 k1, .slice q2 m2 k2, .int .i64 wa] := by rw [hz]; have := (Blk.new (w.alloc (.cells #[.slice a1 l1 c1, .slice a2 l2 c2, .slice a3 l3 c3, .slice a4 l4 c4] 29)) #[.int .i64 kd, .int .i64 (k : Int), .int .i64 nn, .slice q1 m1 k1, .slice q2 m2 k2, .int .i64 wa] 46).below (bel_alloc _ (.cells #[.int .i64 0, .int .i64 0, .int .i64 0, .int .i64 0, .slice none 0 0, .slice none 0 0] 48)); simpa using this
  have R0 : Blk z (w.heap.size + 1 + 1) 48 #[.int .i64 0, .int .i64 0, .int .i64 0, .int .i64 0, .slice none 0 0, .slice none 0 0] := by rw [hz]; have := Blk.new ((w.alloc (.cells #[.slice a1 l1 c1, .slice a2 l2 c2, .slice a3 l3 c3, .slice a4 l4 c4] 29)).alloc (.cells #[.int .i64 kd, .int .i64 (k : Int), .int .i64 nn, .slice q1 m1 k1, .slice q2 m2 k2, .int .i64 wa] 46)) #[.int .i64 0, .int .i64 0, .int .i64 0, .int .i64 0, .slice none 0 0, .slice none 0 0] 48; simpa using this
  have HB0 : Hid (Below W0.heap.size W0 z) := hB.trans (b0.mono hB.size)
  have D0 := hD.below b0
  have C0 : Hid (Chg w z (Of4 (.slice a1 l1 c1) (.slice a2 l2 c2) (.slice a3 l3 c3) (.slice a4 l4 c4))) := Chg.ofBelow b0
  have HQ : Hid (m1 = ws.length ∧ SlI W0 q1 ws ∧ ws.length ≤ 2000000) := ⟨hn, hq, hl⟩
  obtain ⟨b, ea3, hb, hlt, hc, hf, hset⟩ := D0.setWord hk
  subst ea3
  obtain ⟨bq, off, eq1, hbq, hcq⟩ := cell_atI (hq.below HB0.out) (show 0 < ws.length by omega)
  have hcq0 : z.cell? ⟨bq, off, none⟩ = some (.int .i64 (ws.getD 0 0)) := by simpa using hcq
  obtain ⟨bq', off', eq2, _, hcq1⟩ := cell_atI (hq.below HB0.out) h0
  subst eq1
  simp at eq2
  obtain ⟨rfl, rfl⟩ := eq2
  generalize hx : ws.getD 0 0 = x at *
  generalize hy : ws.getD 1 0 = y at *
  generalize hhv : hs.getD k 0 = h at *
  obtain ⟨D1, C1⟩ := hset (mskI h x y)
  have Y1 := Y0.chg C1 (D0.noBlk Y0 (by decide) (by decide))
  have R1 := R0.chg C1 (D0.noBlk R0 (by decide) (by decide))
  have i0 : (k : Int) < (l3 : Int) := by omega
  have i1 : (0 : Int) < (m1 : Int) := by omega
  have i2 : (1 : Int) < (m1 : Int) := by omega
  obtain ⟨x0, x1, x2, x3⟩ := X0.four
  obtain ⟨y0, y1, y2, y3, y4, y5⟩ := Y0.six
  have HH0 : Hid (OwnD (z.setCell ⟨b, k, none⟩ (.int .i64 (mskI h x y))) W0.heap.size a1 a2 (some ⟨b, 0, none⟩) a4 l1 l2 l3 l4 c1 c2 c3 c4 cs is (hs.set k (mskI h x y)) rs ∧ Chg w (z.setCell ⟨b, k, none⟩ (.int .i64 (mskI h x y))) (Of4 (.slice a1 l1 c1) (.slice a2 l2 c2) (.slice (some ⟨b, 0, none⟩) l3 c3) (.slice a4 l4 c4)) ∧ Below W0.heap.size W0 (z.setCell ⟨b, k, none⟩ (.int .i64 (mskI h x y)))) := ⟨D1, C0.out.trans C1, bel_setG HB0.out hb⟩
  clear hz hset D1 C1 D0 hD hcq hq hn hl hk hlt
  go_enter Try.func109, Try.ntmps109
  go_upto_region 1 with fail
  rw [← HZ.out]
  go_quiet (fail)
  go_upto_region 2 with fail
  go_region
  clear hc hf hcq0 hcq1 x0 x1 x2 x3 y0 y1 y2 y3 y4 y5
  go_upto_region 3 with fail
  obtain ⟨z2, hz2⟩ : ∃ z2, z2 = (z.drewN (nq + 1)).setCell ⟨b, k, none⟩ (.int .i64 (bits .or .i64 (bits .and .i64 h x) (bits .andNot .i64 y x))) := ⟨_, rfl⟩
  have Y2 : Blk ((z.drewN (nq + 1)).setCell ⟨b, k, none⟩ (.int .i64 (bits .or .i64 (bits .and .i64 h x) (bits .andNot .i64 y x)))) _ _ _ := Y1
  have R2 : Blk ((z.drewN (nq + 1)).setCell ⟨b, k, none⟩ (.int .i64 (bits .or .i64 (bits .and .i64 h x) (bits .andNot .i64 y x)))) _ _ _ := R1
  rw [← hz2] at Y2 R2
  have D2 : OwnD z2 W0.heap.size a1 a2 (some ⟨b, 0, none⟩) a4 l1 l2 l3 l4 c1 c2 c3 c4 cs is (hs.set k (mskI h x y)) rs := by rw [hz2]; exact HH0.out.1
  have C2 : Hid (Chg w z2 (Of4 (.slice a1 l1 c1) (.slice a2 l2 c2) (.slice (some ⟨b, 0, none⟩) l3 c3) (.slice a4 l4 c4))) := by rw [hz2]; exact HH0.out.2.1
  have HB2 : Hid (Below W0.heap.size W0 z2) := by rw [hz2]; exact HH0.out.2.2.trans ⟨rfl, rfl, rfl, Nat.le_refl _, fun _ _ => rfl⟩
  simp only [← hz2]
  clear hz2 Y1 R1 HH0

  obtain ⟨y0, y1, y2, y3, y4, y5⟩ := Y2.six
  have dz : Below z2.heap.size z2 z2.drew := (Below.refl _ _).drew
  go_region_held3 (fun w' => w'.cell? ⟨w.heap.size + 1, 0, none⟩ = some (.int .i64 kd) ∧ w'.cell? ⟨w.heap.size + 1, 1, none⟩ = some (.int .i64 (k : Int)) ∧ w'.cell? ⟨w.heap.size + 1, 3, none⟩ = some (.slice (some ⟨bq, off, none⟩) m1 k1)) (go_keep)
    (first | (go_at_call 82; refine (copyOfI (some ⟨bq, off, none⟩) m1 k1 ws _ HQ.out.1 (HQ.out.2.1.below (by first | exact HB2.out | exact HB2.out.drew)) HQ.out.2.2).mono ?_; rintro e w3 ⟨g, rfl, i3, b'⟩; have B3 : Below z2.heap.size z2 w3 := (by first | exact b' | exact bel_next dz b'); obtain ⟨v0, v1, v2, v3, v4, v5⟩ := (Y2.below B3).six; obtain ⟨r0, r1, r2, r3, r4, r5⟩ := (R2.below B3).six; have f3 := (R2.below B3).fro; have g0 := f3 0; have g1 := f3 1; have g2 := f3 2; have g3 := f3 3; have g4 := f3 4; have g5 := f3 5; have zs3 : Hid (z2.heap.size ≤ w3.heap.size) := B3.size; clear b'))
  all_goals (
    have D3 := D2.below B3
    have HH : Hid (OwnI w3 w.heap.size (.slice (some ⟨g, 0, none⟩) m1 m1) ws ∧ OwnD w3 W0.heap.size a1 a2 (some ⟨b, 0, none⟩) a4 l1 l2 l3 l4 c1 c2 c3 c4 cs is _ rs ∧ ExB w3 (w.heap.size + 1 + 1) 48 ∧ Below W0.heap.size W0 w3 ∧ Chg w w3 _) := ⟨OwnI.mono i3 (by exact C2.out.2.2.2.1), D3, ⟨_, R2.below B3⟩, HB2.out.trans (B3.mono (by have := HB2.out.size; omega)), C2.out.trans (Chg.ofBelow B3)⟩
    have HS0 : Hid (W0.heap.size ≤ w.heap.size) := hB.size
    clear i3 D3
    go_wp2
    refine bodyPost_ret (v := rp kd 0 (k : Int) 0 (some ⟨g, 0, none⟩) none m1 0 m1 0) (by simp [results, Try.results109, go_sem, r0, r1, r2, r3, r4, r5]) rfl ?_
    obtain ⟨o1, o2, o3, o4, o5⟩ := HH.out
    exact ⟨_, _, _, _, _, _, rfl, rowp_set6 o1 o3 (by decide), ownB_nil0 _ _, o2.set6 o3 (by decide) (by decide), belp_set6 o4 (by have := HS0.out; omega), o5.set6 (by omega)⟩)

end Go.Proofs.Ytcnbbknmofonkaa
