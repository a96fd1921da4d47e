/- Deeds that write by copy, and a coil that is set. -/
import Derived.Test.YtmbkfoemhnhoiaaDev15
namespace Go.Proofs.Ytmbkfoemhnhoiaa
open Go.RowKit

set_option linter.unusedVariables false

set_option linter.unusedSimpArgs false

set_option maxRecDepth 20000 in
set_option maxHeartbeats 2000000 in
theorem setWords_any (a1 a2 a3 a4 : Option Addr) (l1 l2 l3 l4 c1 c2 c3 c4 : Nat) (cs is : List Bool) (hs rs : List Int) (kd nn wa : Int) (k : Nat) (q1 q2 : Option Addr) (m1 m2 k1 k2 : Nat) (ws : List Int) (bs : List Bool) (W0 w : World) (hB : Below W0.heap.size W0 w) (hD : OwnD w W0.heap.size a1 a2 a3 a4 l1 l2 l3 l4 c1 c2 c3 c4 cs is hs rs) (hn : m1 = ws.length) (hq : SlI W0 q1 ws) (hk : k + ws.length ≤ l3) (h0 : 0 < ws.length) (h3 : l3 ≤ 2000000) (h65 : k ≤ 65535) :
    Calls Try.prog 125 #[dv a1 a2 a3 a4 l1 l2 l3 l4 c1 c2 c3 c4, .agg #[.int .i64 kd, .int .i64 (k : Int), .int .i64 nn, .slice q1 m1 k1, .slice q2 m2 k2, .int .i64 wa]] w fun e w' => SV W0 w w' e a1 a2 a3 a4 l1 l2 l3 l4 c1 c2 c3 c4 cs is (wr hs k ws) rs kd 0 (k : Int) (m1 : Int) [] [] := by
  obtain ⟨z, hz⟩ : ∃ z, z = ((w.alloc (.cells #[.slice a1 l1 c1, .slice a2 l2 c2, .slice a3 l3 c3, .slice a4 l4 c4] 36)).alloc (.cells #[.int .i64 kd, .int .i64 (k : Int), .int .i64 nn, .slice q1 m1 k1, .slice q2 m2 k2, .int .i64 wa] 27)).alloc (.cells #[.int .i64 0, .int .i64 0, .int .i64 0, .int .i64 0, .slice none 0 0, .slice none 0 0] 29) := ⟨_, rfl⟩
  have HZ : Hid (z = _) := hz
  have b0 : Below w.heap.size w z := by rw [hz]; exact bel_next (bel_next (bel_alloc w _) (bel_alloc _ _)) (bel_alloc _ _)
  have X0 : Blk z w.heap.size 36 #[.slice a1 l1 c1, .slice a2 l2 c2, .slice a3 l3 c3, .slice a4 l4 c4] := by rw [hz]; exact ((Blk.new w _ _).below (bel_alloc _ _)).below (bel_alloc _ _)
  have Y0 : Blk z (w.heap.size + 1) 27 #[.int .i64 kd, .int .i64 (k : Int), .int .i64 nn, .slice q1 m1 k1, .slice q2 m2 k2, .int .i64 wa] := by rw [hz]; have := (Blk.new (w.alloc (.cells #[.slice a1 l1 c1, .slice a2 l2 c2, .slice a3 l3 c3, .slice a4 l4 c4] 36)) #[.int .i64 kd, .int .i64 (k : Int), .int .i64 nn, .slice q1 m1 k1, .slice q2 m2 k2, .int .i64 wa] 27).below (bel_alloc _ (.cells #[.int .i64 0, .int .i64 0, .int .i64 0, .int .i64 0, .slice none 0 0, .slice none 0 0] 29)); simpa using this
  have R0 : Blk z (w.heap.size + 1 + 1) 29 #[.int .i64 0, .int .i64 0, .int .i64 0, .int .i64 0, .slice none 0 0, .slice none 0 0] := by rw [hz]; have := Blk.new ((w.alloc (.cells #[.slice a1 l1 c1, .slice a2 l2 c2, .slice a3 l3 c3, .slice a4 l4 c4] 36)).alloc (.cells #[.int .i64 kd, .int .i64 (k : Int), .int .i64 nn, .slice q1 m1 k1, .slice q2 m2 k2, .int .i64 wa] 27)) #[.int .i64 0, .int .i64 0, .int .i64 0, .int .i64 0, .slice none 0 0, .slice none 0 0] 29; simpa using this
  have HB0 : Hid (Below W0.heap.size W0 z) := hB.trans (b0.mono hB.size)
  have D0 := hD.below b0
  have C0 : Hid (Chg w z (Of4 (.slice a1 l1 c1) (.slice a2 l2 c2) (.slice a3 l3 c3) (.slice a4 l4 c4))) := Chg.ofBelow b0
  have HS0 : Hid (W0.heap.size ≤ w.heap.size) := hB.size
  obtain ⟨b, ea, hcap⟩ := D0.2.2.1.cap (by omega)
  subst ea
  obtain ⟨bq, off, eq1, hbq, hcq⟩ := cell_atI (hq.below HB0.out) h0
  subst eq1
  have HQ : Hid (m1 = ws.length ∧ SlI z (some ⟨bq, off, none⟩) ws ∧ k + ws.length ≤ l3 ∧ 0 < l3) := ⟨hn, hq.below HB0.out, hk, by omega⟩
  have i0 : (k : Int) ≤ (l3 : Int) := by omega
  have i1 : (k : Int) ≤ (c3 : Int) := by omega
  have i2 : ¬ c3 = k := by omega
  have i3 : (m1 : Int) ≤ 2000000 := by omega
  have hmn : Hid (ws.length = Nat.min m1 (l3 - k)) := by show _ = _; rw [← hn]; exact (Nat.min_eq_left (by omega)).symm
  have HML : Hid (ws.length = m1) := hn.symm
  obtain ⟨x0, x1, x2, x3⟩ := X0.four
  obtain ⟨y0, y1, y2, y3, y4, y5⟩ := Y0.six
  have HD0 : Hid (OwnD z W0.heap.size a1 a2 (some ⟨b, 0, none⟩) a4 l1 l2 l3 l4 c1 c2 c3 c4 cs is hs rs) := D0
  have ny := D0.noBlk Y0 (by decide) (by decide)
  have nr := D0.noBlk R0 (by decide) (by decide)
  have HY : Hid (∀ z2, Chg z z2 (Of4 (.slice a1 l1 c1) (.slice a2 l2 c2) (.slice (some ⟨b, 0, none⟩) l3 c3) (.slice a4 l4 c4)) → Blk z2 (w.heap.size + 1) 27 #[.int .i64 kd, .int .i64 (k : Int), .int .i64 nn, .slice (some ⟨bq, off, none⟩) m1 k1, .slice q2 m2 k2, .int .i64 wa] ∧ Blk z2 (w.heap.size + 1 + 1) 29 #[.int .i64 0, .int .i64 0, .int .i64 0, .int .i64 0, .slice none 0 0, .slice none 0 0]) := fun z2 hc => ⟨Y0.chg hc ny, R0.chg hc nr⟩
  clear hz hD D0 hn hq hk h0 hcq ny nr hB b0 hcap h3
  go_enter Try.func125, Try.ntmps125
  go_upto_region 1 with fail
  rw [← HZ.out]
  have HDz : Hid (OwnD z.drew W0.heap.size a1 a2 (some ⟨b, 0, none⟩) a4 l1 l2 l3 l4 c1 c2 c3 c4 cs is hs rs) := HD0.out.drew
  have HQz : Hid (SlI z.drew (some ⟨bq, off, none⟩) ws) := HQ.out.2.1.below (Below.refl _ _).drew
  have HCz : Hid (∀ z2, Chg z.drew z2 (Of4 (.slice a1 l1 c1) (.slice a2 l2 c2) (.slice (some ⟨b, 0, none⟩) l3 c3) (.slice a4 l4 c4)) → Chg z z2 (Of4 (.slice a1 l1 c1) (.slice a2 l2 c2) (.slice (some ⟨b, 0, none⟩) l3 c3) (.slice a4 l4 c4))) := fun z2 h => (show Chg z z.drew _ from Chg.ofBelow (Below.refl _ _).drew).trans h
  go_region_law ((refine step_copyH rfl (.tmp 9) (.tmp 11) rfl HDz.out (l3 - k) _ m1 k1 ⟨bq, off, none⟩ ws rfl rfl HQz.out hmn.out HQ.out.2.2.1 HQ.out.2.2.2 ?_); intro z2 D2 C2')
  all_goals (have C2 := HCz.out z2 C2'; obtain ⟨Y2, R2⟩ := HY.out z2 C2; have HD2 : Hid (OwnD z2 W0.heap.size a1 a2 (some ⟨b, 0, none⟩) a4 l1 l2 l3 l4 c1 c2 c3 c4 cs is (wr hs k ws) rs) := D2; have HC2 : Hid (Chg z z2 (Of4 (.slice a1 l1 c1) (.slice a2 l2 c2) (.slice (some ⟨b, 0, none⟩) l3 c3) (.slice a4 l4 c4))) := C2; obtain ⟨u0, u1, u2, u3, u4, u5⟩ := Y2.six; obtain ⟨r0, r1, r2, r3, r4, r5⟩ := R2.six; have f0 := R2.fro 0; have f1 := R2.fro 1; have f2 := R2.fro 2; have f3 := R2.fro 3; have f4 := R2.fro 4; have f5 := R2.fro 5; have HR2 : Hid (ExB z2 (w.heap.size + 1 + 1) 29) := ⟨_, R2⟩; clear D2 C2 C2' Y2 R2 HDz HQz HCz x0 x1 x2 x3 y0 y1 y2 y3 y4 y5)
  all_goals go_wp2_with fail
  all_goals refine bodyPost_ret (v := rp kd 0 (k : Int) (m1 : Int) none none 0 0 0 0) (by simp [results, Try.results125, go_sem, r0, r1, r2, r3, r4, r5]) rfl ?_
  all_goals exact ⟨_, _, _, _, _, _, rfl, ownI_nil0 _ _, ownB_nil0 _ _, HD2.out.set6 HR2.out (by decide) (by decide), belp_set6 (Chg.below HB0.out HC2.out (fun g hg => (HD0.out.of4 g hg).1) HB0.out.size) (by have := HS0.out; omega), (C0.out.trans HC2.out).set6 (by omega)⟩

set_option maxRecDepth 20000 in
set_option maxHeartbeats 2000000 in
theorem setCoils_any (a1 a2 a3 a4 : Option Addr) (l1 l2 l3 l4 c1 c2 c3 c4 : Nat) (cs is : List Bool) (hs rs : List Int) (kd nn wa : Int) (k : Nat) (q1 q2 : Option Addr) (m1 m2 k1 k2 : Nat) (ws : List Int) (bs : List Bool) (W0 w : World) (hB : Below W0.heap.size W0 w) (hD : OwnD w W0.heap.size a1 a2 a3 a4 l1 l2 l3 l4 c1 c2 c3 c4 cs is hs rs) (hn : m2 = bs.length) (hq : SlB W0 q2 bs) (hk : k + bs.length ≤ l1) (h0 : 0 < bs.length) (h3 : l1 ≤ 2000000) (h65 : k ≤ 65535) :
    Calls Try.prog 124 #[dv a1 a2 a3 a4 l1 l2 l3 l4 c1 c2 c3 c4, .agg #[.int .i64 kd, .int .i64 (k : Int), .int .i64 nn, .slice q1 m1 k1, .slice q2 m2 k2, .int .i64 wa]] w fun e w' => SV W0 w w' e a1 a2 a3 a4 l1 l2 l3 l4 c1 c2 c3 c4 (wr cs k bs) is hs rs kd 0 (k : Int) (m2 : Int) [] [] := by
  obtain ⟨z, hz⟩ : ∃ z, z = ((w.alloc (.cells #[.slice a1 l1 c1, .slice a2 l2 c2, .slice a3 l3 c3, .slice a4 l4 c4] 36)).alloc (.cells #[.int .i64 kd, .int .i64 (k : Int), .int .i64 nn, .slice q1 m1 k1, .slice q2 m2 k2, .int .i64 wa] 27)).alloc (.cells #[.int .i64 0, .int .i64 0, .int .i64 0, .int .i64 0, .slice none 0 0, .slice none 0 0] 29) := ⟨_, rfl⟩
  have HZ : Hid (z = _) := hz
  have b0 : Below w.heap.size w z := by rw [hz]; exact bel_next (bel_next (bel_alloc w _) (bel_alloc _ _)) (bel_alloc _ _)
  have X0 : Blk z w.heap.size 36 #[.slice a1 l1 c1, .slice a2 l2 c2, .slice a3 l3 c3, .slice a4 l4 c4] := by rw [hz]; exact ((Blk.new w _ _).below (bel_alloc _ _)).below (bel_alloc _ _)
  have Y0 : Blk z (w.heap.size + 1) 27 #[.int .i64 kd, .int .i64 (k : Int), .int .i64 nn, .slice q1 m1 k1, .slice q2 m2 k2, .int .i64 wa] := by rw [hz]; have := (Blk.new (w.alloc (.cells #[.slice a1 l1 c1, .slice a2 l2 c2, .slice a3 l3 c3, .slice a4 l4 c4] 36)) #[.int .i64 kd, .int .i64 (k : Int), .int .i64 nn, .slice q1 m1 k1, .slice q2 m2 k2, .int .i64 wa] 27).below (bel_alloc _ (.cells #[.int .i64 0, .int .i64 0, .int .i64 0, .int .i64 0, .slice none 0 0, .slice none 0 0] 29)); simpa using this
  have R0 : Blk z (w.heap.size + 1 + 1) 29 #[.int .i64 0, .int .i64 0, .int .i64 0, .int .i64 0, .slice none 0 0, .slice none 0 0] := by rw [hz]; have := Blk.new ((w.alloc (.cells #[.slice a1 l1 c1, .slice a2 l2 c2, .slice a3 l3 c3, .slice a4 l4 c4] 36)).alloc (.cells #[.int .i64 kd, .int .i64 (k : Int), .int .i64 nn, .slice q1 m1 k1, .slice q2 m2 k2, .int .i64 wa] 27)) #[.int .i64 0, .int .i64 0, .int .i64 0, .int .i64 0, .slice none 0 0, .slice none 0 0] 29; simpa using this
  have HB0 : Hid (Below W0.heap.size W0 z) := hB.trans (b0.mono hB.size)
  have D0 := hD.below b0
  have C0 : Hid (Chg w z (Of4 (.slice a1 l1 c1) (.slice a2 l2 c2) (.slice a3 l3 c3) (.slice a4 l4 c4))) := Chg.ofBelow b0
  have HS0 : Hid (W0.heap.size ≤ w.heap.size) := hB.size
  obtain ⟨b, ea, hcap⟩ := D0.1.cap (by omega)
  subst ea
  obtain ⟨bq, off, eq1, hbq, hcq⟩ := cell_atB (hq.below HB0.out) h0
  subst eq1
  have HQ : Hid (m2 = bs.length ∧ SlB z (some ⟨bq, off, none⟩) bs ∧ k + bs.length ≤ l1 ∧ 0 < l1) := ⟨hn, hq.below HB0.out, hk, by omega⟩
  have i0 : (k : Int) ≤ (l1 : Int) := by omega
  have i1 : (k : Int) ≤ (c1 : Int) := by omega
  have i2 : ¬ c1 = k := by omega
  have i3 : (m2 : Int) ≤ 2000000 := by omega
  have hmn : Hid (bs.length = Nat.min m2 (l1 - k)) := by show _ = _; rw [← hn]; exact (Nat.min_eq_left (by omega)).symm
  have HML : Hid (bs.length = m2) := hn.symm
  obtain ⟨x0, x1, x2, x3⟩ := X0.four
  obtain ⟨y0, y1, y2, y3, y4, y5⟩ := Y0.six
  have HD0 : Hid (OwnD z W0.heap.size (some ⟨b, 0, none⟩) a2 a3 a4 l1 l2 l3 l4 c1 c2 c3 c4 cs is hs rs) := D0
  have ny := D0.noBlk Y0 (by decide) (by decide)
  have nr := D0.noBlk R0 (by decide) (by decide)
  have HY : Hid (∀ z2, Chg z z2 (Of4 (.slice (some ⟨b, 0, none⟩) l1 c1) (.slice a2 l2 c2) (.slice a3 l3 c3) (.slice a4 l4 c4)) → Blk z2 (w.heap.size + 1) 27 #[.int .i64 kd, .int .i64 (k : Int), .int .i64 nn, .slice q1 m1 k1, .slice (some ⟨bq, off, none⟩) m2 k2, .int .i64 wa] ∧ Blk z2 (w.heap.size + 1 + 1) 29 #[.int .i64 0, .int .i64 0, .int .i64 0, .int .i64 0, .slice none 0 0, .slice none 0 0]) := fun z2 hc => ⟨Y0.chg hc ny, R0.chg hc nr⟩
  clear hz hD D0 hn hq hk h0 hcq ny nr hB b0 hcap h3
  go_enter Try.func124, Try.ntmps124
  go_upto_region 1 with fail
  rw [← HZ.out]
  have HDz : Hid (OwnD z.drew W0.heap.size (some ⟨b, 0, none⟩) a2 a3 a4 l1 l2 l3 l4 c1 c2 c3 c4 cs is hs rs) := HD0.out.drew
  have HQz : Hid (SlB z.drew (some ⟨bq, off, none⟩) bs) := HQ.out.2.1.below (Below.refl _ _).drew
  have HCz : Hid (∀ z2, Chg z.drew z2 (Of4 (.slice (some ⟨b, 0, none⟩) l1 c1) (.slice a2 l2 c2) (.slice a3 l3 c3) (.slice a4 l4 c4)) → Chg z z2 (Of4 (.slice (some ⟨b, 0, none⟩) l1 c1) (.slice a2 l2 c2) (.slice a3 l3 c3) (.slice a4 l4 c4))) := fun z2 h => (show Chg z z.drew _ from Chg.ofBelow (Below.refl _ _).drew).trans h
  go_region_law ((refine step_copyC rfl (.tmp 9) (.tmp 11) rfl HDz.out (l1 - k) _ m2 k2 ⟨bq, off, none⟩ bs rfl rfl HQz.out hmn.out HQ.out.2.2.1 HQ.out.2.2.2 ?_); intro z2 D2 C2')
  all_goals (have C2 := HCz.out z2 C2'; obtain ⟨Y2, R2⟩ := HY.out z2 C2; have HD2 : Hid (OwnD z2 W0.heap.size (some ⟨b, 0, none⟩) a2 a3 a4 l1 l2 l3 l4 c1 c2 c3 c4 (wr cs k bs) is hs rs) := D2; have HC2 : Hid (Chg z z2 (Of4 (.slice (some ⟨b, 0, none⟩) l1 c1) (.slice a2 l2 c2) (.slice a3 l3 c3) (.slice a4 l4 c4))) := C2; obtain ⟨u0, u1, u2, u3, u4, u5⟩ := Y2.six; obtain ⟨r0, r1, r2, r3, r4, r5⟩ := R2.six; have f0 := R2.fro 0; have f1 := R2.fro 1; have f2 := R2.fro 2; have f3 := R2.fro 3; have f4 := R2.fro 4; have f5 := R2.fro 5; have HR2 : Hid (ExB z2 (w.heap.size + 1 + 1) 29) := ⟨_, R2⟩; clear D2 C2 C2' Y2 R2 HDz HQz HCz x0 x1 x2 x3 y0 y1 y2 y3 y4 y5)
  all_goals go_wp2_with fail
  all_goals refine bodyPost_ret (v := rp kd 0 (k : Int) (m2 : Int) none none 0 0 0 0) (by simp [results, Try.results124, go_sem, r0, r1, r2, r3, r4, r5]) rfl ?_
  all_goals exact ⟨_, _, _, _, _, _, rfl, ownI_nil0 _ _, ownB_nil0 _ _, HD2.out.set6 HR2.out (by decide) (by decide), belp_set6 (Chg.below HB0.out HC2.out (fun g hg => (HD0.out.of4 g hg).1) HB0.out.size) (by have := HS0.out; omega), (C0.out.trans HC2.out).set6 (by omega)⟩

end Go.Proofs.Ytmbkfoemhnhoiaa
