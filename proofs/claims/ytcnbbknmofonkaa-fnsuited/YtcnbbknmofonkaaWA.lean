/- Texts that the proof needs, joined. -/
import Derived.Test.YtcnbbknmofonkaaDev15
import Derived.Test.YtcnbbknmofonkaaF1
import Derived.Test.YtcnbbknmofonkaaDev9
import Derived.Test.YtcnbbknmofonkaaSteps
import Derived.RegionTactic
import Derived.Deep.Upon
namespace Go.Proofs.Ytcnbbknmofonkaa
open Go.RowKit

set_option linter.unusedVariables false

set_option linter.unusedSimpArgs false

set_option maxRecDepth 20000 in
set_option maxHeartbeats 2000000 in
theorem setWords_any (a1 a2 a3 a4 : Option Addr) (l1 l2 l3 l4 c1 c2 c3 c4 : Nat) (cs is : List Bool) (hs rs : List Int) (kd nn wa : Int) (k : Nat) (q1 q2 : Option Addr) (m1 m2 k1 k2 : Nat) (ws : List Int) (bs : List Bool) (W0 w : World) (hB : Below W0.heap.size W0 w) (hD : OwnD w W0.heap.size a1 a2 a3 a4 l1 l2 l3 l4 c1 c2 c3 c4 cs is hs rs) (hn : m1 = ws.length) (hq : SlI W0 q1 ws) (hk : k + ws.length ≤ l3) (h0 : 0 < ws.length) (h3 : l3 ≤ 2000000) (h65 : k ≤ 65535) :
    Calls Try.prog 108 #[dv a1 a2 a3 a4 l1 l2 l3 l4 c1 c2 c3 c4, .agg #[.int .i64 kd, .int .i64 (k : Int), .int .i64 nn, .slice q1 m1 k1, .slice q2 m2 k2, .int .i64 wa]] w fun e w' => SV W0 w w' e a1 a2 a3 a4 l1 l2 l3 l4 c1 c2 c3 c4 cs is (wr hs k ws) rs kd 0 (k : Int) (m1 : Int) [] [] := by
  obtain ⟨z, hz⟩ : ∃ z, z = ((w.alloc (.cells #[.slice a1 l1 c1, .slice a2 l2 c2, .slice a3 l3 c3, .slice a4 l4 c4] 29)).alloc (.cells #[.int .i64 kd, .int .i64 (k : Int), .int .i64 nn, .slice q1 m1 k1, .slice q2 m2 k2, .int .i64 wa] 46)).alloc (.cells #[.int .i64 0, .int .i64 0, .int .i64 0, .int .i64 0, .slice none 0 0, .slice none 0 0] 48) := ⟨_, rfl⟩
  have HZ : Hid (z = _) := hz
  have b0 : Below w.heap.size w z := by rw [hz]; exact bel_next (bel_next (bel_alloc w _) (bel_alloc _ _)) (bel_alloc _ _)
  have X0 : Blk z w.heap.size 29 #[.slice a1 l1 c1, .slice a2 l2 c2, .slice a3 l3 c3, .slice a4 l4 c4] := by rw [hz]; exact ((Blk.new w _ _).below (bel_alloc _ _)).below (bel_alloc _ _)
  have Y0 : Blk z (w.heap.size + 1) 46 #[.int .i64 kd, .int .i64 (k : Int), .int .i64 nn, .slice q1 m1 k1, .slice q2 m2 k2, .int .i64 wa] := by rw [hz]; have := (Blk.new (w.alloc (.cells #[.slice a1 l1 c1, .slice a2 l2 c2, .slice a3 l3 c3, .slice a4 l4 c4] 29)) #[.int .i64 kd, .int .i64 (k : Int), .int .i64 nn, .slice q1 m1 k1, .slice q2 m2 k2, .int .i64 wa] 46).below (bel_alloc _ (.cells #[.int .i64 0, .int .i64 0, .int .i64 0, .int .i64 0, .slice none 0 0, .slice none 0 0] 48)); simpa using this
  have R0 : Blk z (w.heap.size + 1 + 1) 48 #[.int .i64 0, .int .i64 0, .int .i64 0, .int .i64 0, .slice none 0 0, .slice none 0 0] := by rw [hz]; have := Blk.new ((w.alloc (.cells #[.slice a1 l1 c1, .slice a2 l2 c2, .slice a3 l3 c3, .slice a4 l4 c4] 29)).alloc (.cells #[.int .i64 kd, .int .i64 (k : Int), .int .i64 nn, .slice q1 m1 k1, .slice q2 m2 k2, .int .i64 wa] 46)) #[.int .i64 0, .int .i64 0, .int .i64 0, .int .i64 0, .slice none 0 0, .slice none 0 0] 48; simpa using this
  have HB0 : Hid (Below W0.heap.size W0 z) := hB.trans (b0.mono hB.size)
  have D0 := hD.below b0
  have C0 : Hid (Chg w z (Of4 (.slice a1 l1 c1) (.slice a2 l2 c2) (.slice a3 l3 c3) (.slice a4 l4 c4))) := Chg.ofBelow b0
  have HS0 : Hid (W0.heap.size ≤ w.heap.size) := hB.size
  obtain ⟨b, ea, hcap⟩ := D0.2.2.1.cap (by omega)
  subst ea
  obtain ⟨bq, off, eq1, hbq, hcq⟩ := cell_atI (hq.below HB0.out) h0
  subst eq1
  have HQ : Hid (m1 = ws.length ∧ SlI z (some ⟨bq, off, none⟩) ws ∧ k + ws.length ≤ l3 ∧ 0 < l3) := ⟨hn, hq.below HB0.out, hk, by omega⟩
  have i0 : (k : Int) ≤ (l3 : Int) := by omega
  have i1 : (k : Int) ≤ (c3 : Int) := by omega
  have i2 : ¬ c3 = k := by omega
  have i3 : (m1 : Int) ≤ 2000000 := by omega
  have hmn : Hid (ws.length = Nat.min m1 (l3 - k)) := by show _ = _; rw [← hn]; exact (Nat.min_eq_left (by omega)).symm
  have HML : Hid (ws.length = m1) := hn.symm
  obtain ⟨x0, x1, x2, x3⟩ := X0.four
  obtain ⟨y0, y1, y2, y3, y4, y5⟩ := Y0.six
  have HD0 : Hid (OwnD z W0.heap.size a1 a2 (some ⟨b, 0, none⟩) a4 l1 l2 l3 l4 c1 c2 c3 c4 cs is hs rs) := D0
  have ny := D0.noBlk Y0 (by decide) (by decide)
  have nr := D0.noBlk R0 (by decide) (by decide)
  have HY : Hid (∀ z2, Chg z z2 (Of4 (.slice a1 l1 c1) (.slice a2 l2 c2) (.slice (some ⟨b, 0, none⟩) l3 c3) (.slice a4 l4 c4)) → Blk z2 (w.heap.size + 1) 46 #[.int .i64 kd, .int .i64 (k : Int), .int .i64 nn, .slice (some ⟨bq, off, none⟩) m1 k1, .slice q2 m2 k2, .int .i64 wa] ∧ Blk z2 (w.heap.size + 1 + 1) 48 #[.int .i64 0, .int .i64 0, .int .i64 0, .int .i64 0, .slice none 0 0, .slice none 0 0]) := fun z2 hc => ⟨Y0.chg hc ny, R0.chg hc nr⟩
  clear hz hD D0 hn hq hk h0 hcq ny nr hB b0 hcap h3
  go_enter Try.func108, Try.ntmps108
  go_upto_region 1 with fail
  rw [← HZ.out]
  have HDz : Hid (OwnD z.drew W0.heap.size a1 a2 (some ⟨b, 0, none⟩) a4 l1 l2 l3 l4 c1 c2 c3 c4 cs is hs rs) := HD0.out.drew
  have HQz : Hid (SlI z.drew (some ⟨bq, off, none⟩) ws) := HQ.out.2.1.below (Below.refl _ _).drew
  have HCz : Hid (∀ z2, Chg z.drew z2 (Of4 (.slice a1 l1 c1) (.slice a2 l2 c2) (.slice (some ⟨b, 0, none⟩) l3 c3) (.slice a4 l4 c4)) → Chg z z2 (Of4 (.slice a1 l1 c1) (.slice a2 l2 c2) (.slice (some ⟨b, 0, none⟩) l3 c3) (.slice a4 l4 c4))) := fun z2 h => (show Chg z z.drew _ from Chg.ofBelow (Below.refl _ _).drew).trans h
  go_region_law ((refine step_copyH rfl (.tmp 9) (.tmp 11) rfl HDz.out (l3 - k) _ m1 k1 ⟨bq, off, none⟩ ws rfl rfl HQz.out hmn.out HQ.out.2.2.1 HQ.out.2.2.2 ?_); intro z2 D2 C2')
  all_goals (have C2 := HCz.out z2 C2'; obtain ⟨Y2, R2⟩ := HY.out z2 C2; have HD2 : Hid (OwnD z2 W0.heap.size a1 a2 (some ⟨b, 0, none⟩) a4 l1 l2 l3 l4 c1 c2 c3 c4 cs is (wr hs k ws) rs) := D2; have HC2 : Hid (Chg z z2 (Of4 (.slice a1 l1 c1) (.slice a2 l2 c2) (.slice (some ⟨b, 0, none⟩) l3 c3) (.slice a4 l4 c4))) := C2; obtain ⟨u0, u1, u2, u3, u4, u5⟩ := Y2.six; obtain ⟨r0, r1, r2, r3, r4, r5⟩ := R2.six; have f0 := R2.fro 0; have f1 := R2.fro 1; have f2 := R2.fro 2; have f3 := R2.fro 3; have f4 := R2.fro 4; have f5 := R2.fro 5; have HR2 : Hid (ExB z2 (w.heap.size + 1 + 1) 48) := ⟨_, R2⟩; clear D2 C2 C2' Y2 R2 HDz HQz HCz x0 x1 x2 x3 y0 y1 y2 y3 y4 y5)
  all_goals go_wp2_with fail
  all_goals refine bodyPost_ret (v := rp kd 0 (k : Int) (m1 : Int) none none 0 0 0 0) (by simp [results, Try.results108, go_sem, r0, r1, r2, r3, r4, r5]) rfl ?_
  all_goals exact ⟨_, _, _, _, _, _, rfl, ownI_nil0 _ _, ownB_nil0 _ _, HD2.out.set6 HR2.out (by decide) (by decide), belp_set6 (Chg.below HB0.out HC2.out (fun g hg => (HD0.out.of4 g hg).1) HB0.out.size) (by have := HS0.out; omega), (C0.out.trans HC2.out).set6 (by omega)⟩

set_option maxRecDepth 20000 in
set_option maxHeartbeats 2000000 in
theorem setCoils_any (a1 a2 a3 a4 : Option Addr) (l1 l2 l3 l4 c1 c2 c3 c4 : Nat) (cs is : List Bool) (hs rs : List Int) (kd nn wa : Int) (k : Nat) (q1 q2 : Option Addr) (m1 m2 k1 k2 : Nat) (ws : List Int) (bs : List Bool) (W0 w : World) (hB : Below W0.heap.size W0 w) (hD : OwnD w W0.heap.size a1 a2 a3 a4 l1 l2 l3 l4 c1 c2 c3 c4 cs is hs rs) (hn : m2 = bs.length) (hq : SlB W0 q2 bs) (hk : k + bs.length ≤ l1) (h0 : 0 < bs.length) (h3 : l1 ≤ 2000000) (h65 : k ≤ 65535) :
    Calls Try.prog 107 #[dv a1 a2 a3 a4 l1 l2 l3 l4 c1 c2 c3 c4, .agg #[.int .i64 kd, .int .i64 (k : Int), .int .i64 nn, .slice q1 m1 k1, .slice q2 m2 k2, .int .i64 wa]] w fun e w' => SV W0 w w' e a1 a2 a3 a4 l1 l2 l3 l4 c1 c2 c3 c4 (wr cs k bs) is hs rs kd 0 (k : Int) (m2 : Int) [] [] := by
  obtain ⟨z, hz⟩ : ∃ z, z = ((w.alloc (.cells #[.slice a1 l1 c1, .slice a2 l2 c2, .slice a3 l3 c3, .slice a4 l4 c4] 29)).alloc (.cells #[.int .i64 kd, .int .i64 (k : Int), .int .i64 nn, .slice q1 m1 k1, .slice q2 m2 k2, .int .i64 wa] 46)).alloc (.cells #[.int .i64 0, .int .i64 0, .int .i64 0, .int .i64 0, .slice none 0 0, .slice none 0 0] 48) := ⟨_, rfl⟩
  have HZ : Hid (z = _) := hz
  have b0 : Below w.heap.size w z := by rw [hz]; exact bel_next (bel_next (bel_alloc w _) (bel_alloc _ _)) (bel_alloc _ _)
  have X0 : Blk z w.heap.size 29 #[.slice a1 l1 c1, .slice a2 l2 c2, .slice a3 l3 c3, .slice a4 l4 c4] := by rw [hz]; exact ((Blk.new w _ _).below (bel_alloc _ _)).below (bel_alloc _ _)
  have Y0 : Blk z (w.heap.size + 1) 46 #[.int .i64 kd, .int .i64 (k : Int), .int .i64 nn, .slice q1 m1 k1, .slice q2 m2 k2, .int .i64 wa] := by rw [hz]; have := (Blk.new (w.alloc (.cells #[.slice a1 l1 c1, .slice a2 l2 c2, .slice a3 l3 c3, .slice a4 l4 c4] 29)) #[.int .i64 kd, .int .i64 (k : Int), .int .i64 nn, .slice q1 m1 k1, .slice q2 m2 k2, .int .i64 wa] 46).below (bel_alloc _ (.cells #[.int .i64 0, .int .i64 0, .int .i64 0, .int .i64 0, .slice none 0 0, .slice none 0 0] 48)); simpa using this
  have R0 : Blk z (w.heap.size + 1 + 1) 48 #[.int .i64 0, .int .i64 0, .int .i64 0, .int .i64 0, .slice none 0 0, .slice none 0 0] := by rw [hz]; have := Blk.new ((w.alloc (.cells #[.slice a1 l1 c1, .slice a2 l2 c2, .slice a3 l3 c3, .slice a4 l4 c4] 29)).alloc (.cells #[.int .i64 kd, .int .i64 (k : Int), .int .i64 nn, .slice q1 m1 k1, .slice q2 m2 k2, .int .i64 wa] 46)) #[.int .i64 0, .int .i64 0, .int .i64 0, .int .i64 0, .slice none 0 0, .slice none 0 0] 48; simpa using this
  have HB0 : Hid (Below W0.heap.size W0 z) := hB.trans (b0.mono hB.size)
  have D0 := hD.below b0
  have C0 : Hid (Chg w z (Of4 (.slice a1 l1 c1) (.slice a2 l2 c2) (.slice a3 l3 c3) (.slice a4 l4 c4))) := Chg.ofBelow b0
  have HS0 : Hid (W0.heap.size ≤ w.heap.size) := hB.size
  obtain ⟨b, ea, hcap⟩ := D0.1.cap (by omega)
  subst ea
  obtain ⟨bq, off, eq1, hbq, hcq⟩ := cell_atB (hq.below HB0.out) h0
  subst eq1
  have HQ : Hid (m2 = bs.length ∧ SlB z (some ⟨bq, off, none⟩) bs ∧ k + bs.length ≤ l1 ∧ 0 < l1) := ⟨hn, hq.below HB0.out, hk, by omega⟩
  have i0 : (k : Int) ≤ (l1 : Int) := by omega
  have i1 : (k : Int) ≤ (c1 : Int) := by omega
  have i2 : ¬ c1 = k := by omega
  have i3 : (m2 : Int) ≤ 2000000 := by omega
  have hmn : Hid (bs.length = Nat.min m2 (l1 - k)) := by show _ = _; rw [← hn]; exact (Nat.min_eq_left (by omega)).symm
  have HML : Hid (bs.length = m2) := hn.symm
  obtain ⟨x0, x1, x2, x3⟩ := X0.four
  obtain ⟨y0, y1, y2, y3, y4, y5⟩ := Y0.six
  have HD0 : Hid (OwnD z W0.heap.size (some ⟨b, 0, none⟩) a2 a3 a4 l1 l2 l3 l4 c1 c2 c3 c4 cs is hs rs) := D0
  have ny := D0.noBlk Y0 (by decide) (by decide)
  have nr := D0.noBlk R0 (by decide) (by decide)
  have HY : Hid (∀ z2, Chg z z2 (Of4 (.slice (some ⟨b, 0, none⟩) l1 c1) (.slice a2 l2 c2) (.slice a3 l3 c3) (.slice a4 l4 c4)) → Blk z2 (w.heap.size + 1) 46 #[.int .i64 kd, .int .i64 (k : Int), .int .i64 nn, .slice q1 m1 k1, .slice (some ⟨bq, off, none⟩) m2 k2, .int .i64 wa] ∧ Blk z2 (w.heap.size + 1 + 1) 48 #[.int .i64 0, .int .i64 0, .int .i64 0, .int .i64 0, .slice none 0 0, .slice none 0 0]) := fun z2 hc => ⟨Y0.chg hc ny, R0.chg hc nr⟩
  clear hz hD D0 hn hq hk h0 hcq ny nr hB b0 hcap h3
  go_enter Try.func107, Try.ntmps107
  go_upto_region 1 with fail
  rw [← HZ.out]
  have HDz : Hid (OwnD z.drew W0.heap.size (some ⟨b, 0, none⟩) a2 a3 a4 l1 l2 l3 l4 c1 c2 c3 c4 cs is hs rs) := HD0.out.drew
  have HQz : Hid (SlB z.drew (some ⟨bq, off, none⟩) bs) := HQ.out.2.1.below (Below.refl _ _).drew
  have HCz : Hid (∀ z2, Chg z.drew z2 (Of4 (.slice (some ⟨b, 0, none⟩) l1 c1) (.slice a2 l2 c2) (.slice a3 l3 c3) (.slice a4 l4 c4)) → Chg z z2 (Of4 (.slice (some ⟨b, 0, none⟩) l1 c1) (.slice a2 l2 c2) (.slice a3 l3 c3) (.slice a4 l4 c4))) := fun z2 h => (show Chg z z.drew _ from Chg.ofBelow (Below.refl _ _).drew).trans h
  go_region_law ((refine step_copyC rfl (.tmp 9) (.tmp 11) rfl HDz.out (l1 - k) _ m2 k2 ⟨bq, off, none⟩ bs rfl rfl HQz.out hmn.out HQ.out.2.2.1 HQ.out.2.2.2 ?_); intro z2 D2 C2')
  all_goals (have C2 := HCz.out z2 C2'; obtain ⟨Y2, R2⟩ := HY.out z2 C2; have HD2 : Hid (OwnD z2 W0.heap.size (some ⟨b, 0, none⟩) a2 a3 a4 l1 l2 l3 l4 c1 c2 c3 c4 (wr cs k bs) is hs rs) := D2; have HC2 : Hid (Chg z z2 (Of4 (.slice (some ⟨b, 0, none⟩) l1 c1) (.slice a2 l2 c2) (.slice a3 l3 c3) (.slice a4 l4 c4))) := C2; obtain ⟨u0, u1, u2, u3, u4, u5⟩ := Y2.six; obtain ⟨r0, r1, r2, r3, r4, r5⟩ := R2.six; have f0 := R2.fro 0; have f1 := R2.fro 1; have f2 := R2.fro 2; have f3 := R2.fro 3; have f4 := R2.fro 4; have f5 := R2.fro 5; have HR2 : Hid (ExB z2 (w.heap.size + 1 + 1) 48) := ⟨_, R2⟩; clear D2 C2 C2' Y2 R2 HDz HQz HCz x0 x1 x2 x3 y0 y1 y2 y3 y4 y5)
  all_goals go_wp2_with fail
  all_goals refine bodyPost_ret (v := rp kd 0 (k : Int) (m2 : Int) none none 0 0 0 0) (by simp [results, Try.results107, go_sem, r0, r1, r2, r3, r4, r5]) rfl ?_
  all_goals exact ⟨_, _, _, _, _, _, rfl, ownI_nil0 _ _, ownB_nil0 _ _, HD2.out.set6 HR2.out (by decide) (by decide), belp_set6 (Chg.below HB0.out HC2.out (fun g hg => (HD0.out.of4 g hg).1) HB0.out.size) (by have := HS0.out; omega), (C0.out.trans HC2.out).set6 (by omega)⟩

end Go.Proofs.Ytcnbbknmofonkaa

namespace Go.Proofs.Ytcnbbknmofonkaa
open Go.RowKit

set_option linter.unusedVariables false

set_option linter.unusedSimpArgs false

set_option maxRecDepth 20000 in
set_option maxHeartbeats 2000000 in
theorem setCoil_any (a1 a2 a3 a4 : Option Addr) (l1 l2 l3 l4 c1 c2 c3 c4 : Nat) (cs is : List Bool) (hs rs : List Int) (kd nn wa : Int) (k : Nat) (q1 q2 : Option Addr) (m1 m2 k1 k2 : Nat) (ws : List Int) (bs : List Bool) (W0 w : World) (hB : Below W0.heap.size W0 w) (hD : OwnD w W0.heap.size a1 a2 a3 a4 l1 l2 l3 l4 c1 c2 c3 c4 cs is hs rs) (hn : m2 = bs.length) (hq : SlB W0 q2 bs) (hk : k < l1) (h0 : 0 < bs.length) (hl : bs.length ≤ 2000000) (h3 : l1 ≤ 2000000) :
    Calls Try.prog 105 #[dv a1 a2 a3 a4 l1 l2 l3 l4 c1 c2 c3 c4, .agg #[.int .i64 kd, .int .i64 (k : Int), .int .i64 nn, .slice q1 m1 k1, .slice q2 m2 k2, .int .i64 wa]] w fun e w' => SV W0 w w' e a1 a2 a3 a4 l1 l2 l3 l4 c1 c2 c3 c4 (cs.set k (bs.getD 0 false)) is hs rs kd 0 (k : Int) 0 [] bs := by
  obtain ⟨z, hz⟩ : ∃ z, z = ((w.alloc (.cells #[.slice a1 l1 c1, .slice a2 l2 c2, .slice a3 l3 c3, .slice a4 l4 c4] 29)).alloc (.cells #[.int .i64 kd, .int .i64 (k : Int), .int .i64 nn, .slice q1 m1 k1, .slice q2 m2 k2, .int .i64 wa] 46)).alloc (.cells #[.int .i64 0, .int .i64 0, .int .i64 0, .int .i64 0, .slice none 0 0, .slice none 0 0] 48) := ⟨_, rfl⟩
  have HZ : Hid (z = _) := hz
  have b0 : Below w.heap.size w z := by rw [hz]; exact bel_next (bel_next (bel_alloc w _) (bel_alloc _ _)) (bel_alloc _ _)
  have X0 : Blk z w.heap.size 29 #[.slice a1 l1 c1, .slice a2 l2 c2, .slice a3 l3 c3, .slice a4 l4 c4] := by rw [hz]; exact ((Blk.new w _ _).below (bel_alloc _ _)).below (bel_alloc _ _)
  have Y0 : Blk z (w.heap.size + 1) 46 #[.int .i64 kd, .int .i64 (k : Int), .int .i64 nn, .slice q1 m1 k1, .slice q2 m2 k2, .int .i64 wa] := by rw [hz]; have := (Blk.new (w.alloc (.cells #[.slice a1 l1 c1, .slice a2 l2 c2, .slice a3 l3 c3, .slice a4 l4 c4] 29)) #[.int .i64 kd, .int .i64 (k : Int), .int .i64 nn, .slice q1 m1 k1, .slice q2 m2 k2, .int .i64 wa] 46).below (bel_alloc _ (.cells #[.int .i64 0, .int .i64 0, .int .i64 0, .int .i64 0, .slice none 0 0, .slice none 0 0] 48)); simpa using this
  have R0 : Blk z (w.heap.size + 1 + 1) 48 #[.int .i64 0, .int .i64 0, .int .i64 0, .int .i64 0, .slice none 0 0, .slice none 0 0] := by rw [hz]; have := Blk.new ((w.alloc (.cells #[.slice a1 l1 c1, .slice a2 l2 c2, .slice a3 l3 c3, .slice a4 l4 c4] 29)).alloc (.cells #[.int .i64 kd, .int .i64 (k : Int), .int .i64 nn, .slice q1 m1 k1, .slice q2 m2 k2, .int .i64 wa] 46)) #[.int .i64 0, .int .i64 0, .int .i64 0, .int .i64 0, .slice none 0 0, .slice none 0 0] 48; simpa using this
  have HB0 : Hid (Below W0.heap.size W0 z) := hB.trans (b0.mono hB.size)
  have D0 := hD.below b0
  have C0 : Hid (Chg w z (Of4 (.slice a1 l1 c1) (.slice a2 l2 c2) (.slice a3 l3 c3) (.slice a4 l4 c4))) := Chg.ofBelow b0
  have HS0 : Hid (W0.heap.size ≤ w.heap.size) := hB.size
  have HQ : Hid (m2 = bs.length ∧ SlB W0 q2 bs ∧ bs.length ≤ 2000000) := ⟨hn, hq, hl⟩
  obtain ⟨b, ea1, hb, hlt, hc, hf, hset⟩ := D0.setCoil hk
  subst ea1
  obtain ⟨bq, off, eq1, hbq, hcq⟩ := cell_atB (hq.below HB0.out) h0
  have hcq0 : z.cell? ⟨bq, off, none⟩ = some (.bool (bs.getD 0 false)) := by simpa using hcq
  subst eq1
  generalize hx : bs.getD 0 false = x at *
  obtain ⟨D1, C1⟩ := hset x
  have Y1 := Y0.chg C1 (D0.noBlk Y0 (by decide) (by decide))
  have R1 := R0.chg C1 (D0.noBlk R0 (by decide) (by decide))
  have i0 : (k : Int) < (l1 : Int) := by omega
  have i1 : (0 : Int) < (m2 : Int) := by omega
  obtain ⟨x0, x1, x2, x3⟩ := X0.four
  obtain ⟨y0, y1, y2, y3, y4, y5⟩ := Y0.six
  have HH0 : Hid (OwnD (z.setCell ⟨b, k, none⟩ (.bool x)) W0.heap.size (some ⟨b, 0, none⟩) a2 a3 a4 l1 l2 l3 l4 c1 c2 c3 c4 (cs.set k x) is hs rs ∧ Chg w (z.setCell ⟨b, k, none⟩ (.bool x)) (Of4 (.slice (some ⟨b, 0, none⟩) l1 c1) (.slice a2 l2 c2) (.slice a3 l3 c3) (.slice a4 l4 c4)) ∧ Below W0.heap.size W0 (z.setCell ⟨b, k, none⟩ (.bool x))) := ⟨D1, C0.out.trans C1, bel_setG HB0.out hb⟩
  clear hz hset D1 C1 D0 hD hcq hq hn hl hk hlt
  go_enter Try.func105, Try.ntmps105
  go_upto_region 1 with fail
  rw [← HZ.out]
  go_region
  clear hc hf hcq0 x0 x1 x2 x3 y0 y1 y2 y3 y4 y5
  go_upto_region 2 with fail
  obtain ⟨z2, hz2⟩ : ∃ z2, z2 = (z.setCell ⟨b, k, none⟩ (.bool x)).drew := ⟨_, rfl⟩
  have Y2 := Y1.drew
  have R2 := R1.drew
  rw [← hz2] at Y2 R2
  have D2 : OwnD z2 W0.heap.size (some ⟨b, 0, none⟩) a2 a3 a4 l1 l2 l3 l4 c1 c2 c3 c4 (cs.set k x) is hs rs := by rw [hz2]; exact HH0.out.1.drew
  have C2 : Hid (Chg w z2 (Of4 (.slice (some ⟨b, 0, none⟩) l1 c1) (.slice a2 l2 c2) (.slice a3 l3 c3) (.slice a4 l4 c4))) := by rw [hz2]; exact HH0.out.2.1.drew
  have HB2 : Hid (Below W0.heap.size W0 z2) := by rw [hz2]; exact HH0.out.2.2.drew
  simp only [← hz2]
  clear hz2 Y1 R1 HH0
  obtain ⟨y0, y1, y2, y3, y4, y5⟩ := Y2.six
  have dz : Below z2.heap.size z2 z2.drew := (Below.refl _ _).drew
  go_region_held3 (fun w' => w'.cell? ⟨w.heap.size + 1, 0, none⟩ = some (.int .i64 kd) ∧ w'.cell? ⟨w.heap.size + 1, 1, none⟩ = some (.int .i64 (k : Int)) ∧ w'.cell? ⟨w.heap.size + 1, 4, none⟩ = some (.slice (some ⟨bq, off, none⟩) m2 k2)) (go_keep)
    (first | (go_at_call 81; refine (copyOfB (some ⟨bq, off, none⟩) m2 k2 bs _ HQ.out.1 (HQ.out.2.1.below (by first | exact HB2.out | exact HB2.out.drew)) HQ.out.2.2).mono ?_; rintro e w3 ⟨g, rfl, i3, b'⟩; have B3 : Below z2.heap.size z2 w3 := (by first | exact b' | exact bel_next dz b'); obtain ⟨v0, v1, v2, v3, v4, v5⟩ := (Y2.below B3).six; obtain ⟨r0, r1, r2, r3, r4, r5⟩ := (R2.below B3).six; have f3 := (R2.below B3).fro; have g0 := f3 0; have g1 := f3 1; have g2 := f3 2; have g3 := f3 3; have g4 := f3 4; have g5 := f3 5; have zs3 : Hid (z2.heap.size ≤ w3.heap.size) := B3.size; clear b'))
  all_goals (
    have D3 := D2.below B3
    have HH : Hid (OwnB w3 w.heap.size (.slice (some ⟨g, 0, none⟩) m2 m2) bs ∧ OwnD w3 W0.heap.size (some ⟨b, 0, none⟩) a2 a3 a4 l1 l2 l3 l4 c1 c2 c3 c4 _ is hs rs ∧ ExB w3 (w.heap.size + 1 + 1) 48 ∧ Below W0.heap.size W0 w3 ∧ Chg w w3 _) := ⟨OwnB.mono i3 (by exact C2.out.2.2.2.1), D3, ⟨_, R2.below B3⟩, HB2.out.trans (B3.mono (by have := HB2.out.size; omega)), C2.out.trans (Chg.ofBelow B3)⟩
    clear i3 D3
    go_wp2
    refine bodyPost_ret (v := rp kd 0 (k : Int) 0 none (some ⟨g, 0, none⟩) 0 m2 0 m2) (by simp [results, Try.results105, go_sem, r0, r1, r2, r3, r4, r5]) rfl ?_
    obtain ⟨o1, o2, o3, o4, o5⟩ := HH.out
    exact ⟨_, _, _, _, _, _, rfl, ownI_nil0 _ _, rowp_set6 o1 o3 (by decide), o2.set6 o3 (by decide) (by decide), belp_set6 o4 (by have := HS0.out; omega), o5.set6 (by omega)⟩)

set_option maxRecDepth 20000 in
set_option maxHeartbeats 2000000 in
theorem setAndTell_any (a1 a2 a3 a4 : Option Addr) (l1 l2 l3 l4 c1 c2 c3 c4 : Nat) (cs is : List Bool) (hs rs : List Int) (kd nn wa : Int) (k : Nat) (q1 q2 : Option Addr) (m1 m2 k1 k2 : Nat) (ws : List Int) (bs : List Bool) (W0 w : World) (hB : Below W0.heap.size W0 w) (hD : OwnD w W0.heap.size a1 a2 a3 a4 l1 l2 l3 l4 c1 c2 c3 c4 cs is hs rs) (N j : Nat) (hn : m1 = ws.length) (hq : SlI W0 q1 ws) (hj : j + ws.length ≤ l3) (hk : k + N ≤ l3) (hN : 1 ≤ N) (h0 : 0 < ws.length) (h3 : l3 ≤ 2000000) (h65 : k ≤ 65535) (hj65 : j ≤ 65535) :
    Calls Try.prog 110 #[dv a1 a2 a3 a4 l1 l2 l3 l4 c1 c2 c3 c4, .agg #[.int .i64 kd, .int .i64 (k : Int), .int .i64 (N : Int), .slice q1 m1 k1, .slice q2 m2 k2, .int .i64 (j : Int)]] w fun e w' => SV W0 w w' e a1 a2 a3 a4 l1 l2 l3 l4 c1 c2 c3 c4 cs is (wr hs j ws) rs kd 0 0 0 (((wr hs j ws).drop k).take N) [] := by
  obtain ⟨z, hz⟩ : ∃ z, z = ((w.alloc (.cells #[.slice a1 l1 c1, .slice a2 l2 c2, .slice a3 l3 c3, .slice a4 l4 c4] 29)).alloc (.cells #[.int .i64 kd, .int .i64 (k : Int), .int .i64 (N : Int), .slice q1 m1 k1, .slice q2 m2 k2, .int .i64 (j : Int)] 46)).alloc (.cells #[.int .i64 0, .int .i64 0, .int .i64 0, .int .i64 0, .slice none 0 0, .slice none 0 0] 48) := ⟨_, rfl⟩
  have HZ : Hid (z = _) := hz
  have b0 : Below w.heap.size w z := by rw [hz]; exact bel_next (bel_next (bel_alloc w _) (bel_alloc _ _)) (bel_alloc _ _)
  have X0 : Blk z w.heap.size 29 #[.slice a1 l1 c1, .slice a2 l2 c2, .slice a3 l3 c3, .slice a4 l4 c4] := by rw [hz]; exact ((Blk.new w _ _).below (bel_alloc _ _)).below (bel_alloc _ _)
  have Y0 : Blk z (w.heap.size + 1) 46 #[.int .i64 kd, .int .i64 (k : Int), .int .i64 (N : Int), .slice q1 m1 k1, .slice q2 m2 k2, .int .i64 (j : Int)] := by rw [hz]; have := (Blk.new (w.alloc (.cells #[.slice a1 l1 c1, .slice a2 l2 c2, .slice a3 l3 c3, .slice a4 l4 c4] 29)) #[.int .i64 kd, .int .i64 (k : Int), .int .i64 (N : Int), .slice q1 m1 k1, .slice q2 m2 k2, .int .i64 (j : Int)] 46).below (bel_alloc _ (.cells #[.int .i64 0, .int .i64 0, .int .i64 0, .int .i64 0, .slice none 0 0, .slice none 0 0] 48)); simpa using this
  have R0 : Blk z (w.heap.size + 1 + 1) 48 #[.int .i64 0, .int .i64 0, .int .i64 0, .int .i64 0, .slice none 0 0, .slice none 0 0] := by rw [hz]; have := Blk.new ((w.alloc (.cells #[.slice a1 l1 c1, .slice a2 l2 c2, .slice a3 l3 c3, .slice a4 l4 c4] 29)).alloc (.cells #[.int .i64 kd, .int .i64 (k : Int), .int .i64 (N : Int), .slice q1 m1 k1, .slice q2 m2 k2, .int .i64 (j : Int)] 46)) #[.int .i64 0, .int .i64 0, .int .i64 0, .int .i64 0, .slice none 0 0, .slice none 0 0] 48; simpa using this
  have HB0 : Hid (Below W0.heap.size W0 z) := hB.trans (b0.mono hB.size)
  have D0 := hD.below b0
  have C0 : Hid (Chg w z (Of4 (.slice a1 l1 c1) (.slice a2 l2 c2) (.slice a3 l3 c3) (.slice a4 l4 c4))) := Chg.ofBelow b0
  have HS0 : Hid (W0.heap.size ≤ w.heap.size) := hB.size
  obtain ⟨b, ea, hcap⟩ := D0.2.2.1.cap (by omega)
  subst ea
  obtain ⟨bq, off, eq1, hbq, hcq⟩ := cell_atI (hq.below HB0.out) h0
  subst eq1
  have HQ : Hid (m1 = ws.length ∧ SlI z (some ⟨bq, off, none⟩) ws ∧ j + ws.length ≤ l3 ∧ 0 < l3) := ⟨hn, hq.below HB0.out, hj, by omega⟩
  have HQ2 : Hid (l3 ≤ c3 ∧ k + N ≤ l3 ∧ l3 ≤ 2000000 ∧ k ≤ 65535 ∧ 1 ≤ N) := ⟨hcap, hk, h3, h65, hN⟩
  have i0 : (j : Int) ≤ (l3 : Int) := by omega
  have i1 : (j : Int) ≤ (c3 : Int) := by omega
  have i2 : ¬ c3 = j := by omega
  have hmn : Hid (ws.length = Nat.min m1 (l3 - j)) := by show _ = _; rw [← hn]; exact (Nat.min_eq_left (by omega)).symm
  obtain ⟨x0, x1, x2, x3⟩ := X0.four
  obtain ⟨y0, y1, y2, y3, y4, y5⟩ := Y0.six
  have HD0 : Hid (OwnD z W0.heap.size a1 a2 (some ⟨b, 0, none⟩) a4 l1 l2 l3 l4 c1 c2 c3 c4 cs is hs rs) := D0
  have nx := D0.noBlk X0 (by decide) (by decide)
  have ny := D0.noBlk Y0 (by decide) (by decide)
  have nr := D0.noBlk R0 (by decide) (by decide)
  have HY : Hid (∀ z2, Chg z z2 (Of4 (.slice a1 l1 c1) (.slice a2 l2 c2) (.slice (some ⟨b, 0, none⟩) l3 c3) (.slice a4 l4 c4)) → Blk z2 w.heap.size 29 #[.slice a1 l1 c1, .slice a2 l2 c2, .slice (some ⟨b, 0, none⟩) l3 c3, .slice a4 l4 c4] ∧ Blk z2 (w.heap.size + 1) 46 #[.int .i64 kd, .int .i64 (k : Int), .int .i64 (N : Int), .slice (some ⟨bq, off, none⟩) m1 k1, .slice q2 m2 k2, .int .i64 (j : Int)] ∧ Blk z2 (w.heap.size + 1 + 1) 48 #[.int .i64 0, .int .i64 0, .int .i64 0, .int .i64 0, .slice none 0 0, .slice none 0 0]) := fun z2 hc => ⟨X0.chg hc nx, Y0.chg hc ny, R0.chg hc nr⟩
  clear hz hD D0 hn hq hk h0 hcq nx ny nr hB b0 hcap h3 hj hN h65 hj65
  go_enter Try.func110, Try.ntmps110
  go_upto_region 1 with fail
  rw [← HZ.out]
  have HDz : Hid (OwnD z.drew W0.heap.size a1 a2 (some ⟨b, 0, none⟩) a4 l1 l2 l3 l4 c1 c2 c3 c4 cs is hs rs) := HD0.out.drew
  have HQz : Hid (SlI z.drew (some ⟨bq, off, none⟩) ws) := HQ.out.2.1.below (Below.refl _ _).drew
  have HCz : Hid (∀ z2, Chg z.drew z2 (Of4 (.slice a1 l1 c1) (.slice a2 l2 c2) (.slice (some ⟨b, 0, none⟩) l3 c3) (.slice a4 l4 c4)) → Chg z z2 (Of4 (.slice a1 l1 c1) (.slice a2 l2 c2) (.slice (some ⟨b, 0, none⟩) l3 c3) (.slice a4 l4 c4))) := fun z2 h => (show Chg z z.drew _ from Chg.ofBelow (Below.refl _ _).drew).trans h
  go_region_law ((refine step_copyH rfl (.tmp 9) (.tmp 11) rfl HDz.out (l3 - j) _ m1 k1 ⟨bq, off, none⟩ ws rfl rfl HQz.out hmn.out HQ.out.2.2.1 HQ.out.2.2.2 ?_); intro z2 D2 C2')
  all_goals (have C2 := HCz.out z2 C2'; obtain ⟨X2, Y2, R2⟩ := HY.out z2 C2; have HC2 : Hid (Chg z z2 (Of4 (.slice a1 l1 c1) (.slice a2 l2 c2) (.slice (some ⟨b, 0, none⟩) l3 c3) (.slice a4 l4 c4))) := C2; obtain ⟨u0, u1, u2, u3, u4, u5⟩ := Y2.six; obtain ⟨v0, v1, v2, v3⟩ := X2.four; clear C2 C2' X2 Y2 HDz HQz HCz x0 x1 x2 x3 y0 y1 y2 y3 y4 y5)
  all_goals go_wp2_with fail
  all_goals (
    refine (tellRun_any kd (j : Int) k N (some ⟨bq, off, none⟩) q2 m1 m2 k1 k2 b l3 c3 (wr hs j ws) _ D2.2.2.1.sl.1 D2.2.2.1.sl.2 HQ2.out.1 HQ2.out.2.1 HQ2.out.2.2.1 HQ2.out.2.2.2.1 HQ2.out.2.2.2.2).mono ?_
    rintro e w3 ⟨r1, r2, n1, n2, e1, e2, rfl, o1, o2, b'⟩
    have R3 := R2.below b'
    obtain ⟨s0, s1, s2, s3, s4, s5⟩ := R3.six
    have f3 := R3.fro
    have HB2 : Below W0.heap.size W0 z2 := Chg.below HB0.out HC2.out (fun g hg => (HD0.out.of4 g hg).1) HB0.out.size
    have HH : Hid (OwnI w3 w.heap.size (.slice r1 n1 e1) (((wr hs j ws).drop k).take N) ∧ OwnB w3 w.heap.size (.slice r2 n2 e2) [] ∧ OwnD w3 W0.heap.size a1 a2 (some ⟨b, 0, none⟩) a4 l1 l2 l3 l4 c1 c2 c3 c4 cs is (wr hs j ws) rs ∧ Below W0.heap.size W0 w3 ∧ ExB w3 (w.heap.size + 1 + 1) 48 ∧ Chg w w3 (Of4 (.slice a1 l1 c1) (.slice a2 l2 c2) (.slice (some ⟨b, 0, none⟩) l3 c3) (.slice a4 l4 c4))) := ⟨o1.mono (C0.out.trans HC2.out).2.2.2.1, o2.mono (C0.out.trans HC2.out).2.2.2.1, D2.below b', HB2.trans (b'.mono HB2.size), ⟨_, R3⟩, (C0.out.trans HC2.out).trans (Chg.ofBelow b')⟩
    clear o1 o2 b' R3 R2 D2 HB2 u0 u1 u2 u3 u4 u5 v0 v1 v2 v3
    go_wp2
    refine bodyPost_ret (v := rp kd 0 0 0 r1 r2 n1 n2 e1 e2) (by simp [results, Try.results110, go_sem, s0, s1, s2, s3, s4, s5]) rfl ?_
    obtain ⟨o1, o2, o3, o4, o5, o6⟩ := HH.out
    exact ⟨_, _, _, _, _, _, rfl, rowp_set6 o1 o5 (by decide), rowp_set6 o2 o5 (by decide), o3.set6 o5 (by decide) (by decide), belp_set6 o4 (by have := HS0.out; omega), o6.set6 (by omega)⟩)

end Go.Proofs.Ytcnbbknmofonkaa

namespace Go.Proofs.Ytcnbbknmofonkaa
open Go.RowKit

set_option linter.unusedVariables false

set_option linter.unusedSimpArgs false

set_option maxRecDepth 20000 in
set_option maxHeartbeats 8000000 in
theorem serve_1 (a1 a2 a3 a4 : Option Addr) (l1 l2 l3 l4 c1 c2 c3 c4 : Nat) (cs is : List Bool) (hs rs : List Int) (pl nn wa : Int) (q1 q2 : Option Addr) (m1 m2 k1 k2 : Nat) (ws : List Int) (bs : List Bool) (W0 w : World) (hB : Below W0.heap.size W0 w) (hD : OwnD w W0.heap.size a1 a2 a3 a4 l1 l2 l3 l4 c1 c2 c3 c4 cs is hs rs) (hn : m1 = ws.length) (hn2 : m2 = bs.length) (hq : SlI W0 q1 ws) (hq2 : SlB W0 q2 bs) (hl : ws.length ≤ 2000000) (hl2 : bs.length ≤ 2000000) (hok : okR 1 pl nn wa ws m1 m2 = true) (hd : okD l1 l2 l3 l4 hs rs = true) (hsm : SmD 2000000 cs is hs rs)
    (cs' is' : List Bool) (hs' rs' : List Int) (ws' : List Int) (bs' : List Bool) (pl' nn' : Int)
    (hAll : ∀ w : World, SlI w q1 ws → SlB w q2 bs → Calls Try.prog 83 #[dv a1 a2 a3 a4 l1 l2 l3 l4 c1 c2 c3 c4, rq 1 pl nn wa q1 q2 m1 m2 k1 k2] w fun e w' => e = .returned (.bool true) ∧ Below w.heap.size w w')
    (hdo : ∀ w : World, Below W0.heap.size W0 w → OwnD w W0.heap.size a1 a2 a3 a4 l1 l2 l3 l4 c1 c2 c3 c4 cs is hs rs → Calls Try.prog 101 #[dv a1 a2 a3 a4 l1 l2 l3 l4 c1 c2 c3 c4, rq 1 pl nn wa q1 q2 m1 m2 k1 k2] w fun e w' => SV W0 w w' e a1 a2 a3 a4 l1 l2 l3 l4 c1 c2 c3 c4 cs' is' hs' rs' 1 0 pl' nn' ws' bs') :
    Calls Try.prog 42 #[dv a1 a2 a3 a4 l1 l2 l3 l4 c1 c2 c3 c4, rq 1 pl nn wa q1 q2 m1 m2 k1 k2] w fun e w' => SV W0 w w' e a1 a2 a3 a4 l1 l2 l3 l4 c1 c2 c3 c4 cs' is' hs' rs' 1 0 pl' nn' ws' bs' := by
  obtain ⟨z, hz⟩ : ∃ z, z = ((w.alloc (.cells #[.slice a1 l1 c1, .slice a2 l2 c2, .slice a3 l3 c3, .slice a4 l4 c4] 29)).alloc (.cells #[.int .i64 1, .int .i64 pl, .int .i64 nn, .slice q1 m1 k1, .slice q2 m2 k2, .int .i64 wa] 46)).alloc (.cells #[.int .i64 0, .int .i64 0, .int .i64 0, .int .i64 0, .slice none 0 0, .slice none 0 0] 48) := ⟨_, rfl⟩
  have HZ : Hid (z = _) := hz
  have b0 : Below w.heap.size w z := by rw [hz]; exact bel_next (bel_next (bel_alloc w _) (bel_alloc _ _)) (bel_alloc _ _)
  have X0 : Blk z w.heap.size 29 #[.slice a1 l1 c1, .slice a2 l2 c2, .slice a3 l3 c3, .slice a4 l4 c4] := by rw [hz]; exact ((Blk.new w _ _).below (bel_alloc _ _)).below (bel_alloc _ _)
  have Y0 : Blk z (w.heap.size + 1) 46 #[.int .i64 1, .int .i64 pl, .int .i64 nn, .slice q1 m1 k1, .slice q2 m2 k2, .int .i64 wa] := by rw [hz]; have := (Blk.new (w.alloc (.cells #[.slice a1 l1 c1, .slice a2 l2 c2, .slice a3 l3 c3, .slice a4 l4 c4] 29)) #[.int .i64 1, .int .i64 pl, .int .i64 nn, .slice q1 m1 k1, .slice q2 m2 k2, .int .i64 wa] 46).below (bel_alloc _ (.cells #[.int .i64 0, .int .i64 0, .int .i64 0, .int .i64 0, .slice none 0 0, .slice none 0 0] 48)); simpa using this
  have R0 : Blk z (w.heap.size + 1 + 1) 48 #[.int .i64 0, .int .i64 0, .int .i64 0, .int .i64 0, .slice none 0 0, .slice none 0 0] := by rw [hz]; have := Blk.new ((w.alloc (.cells #[.slice a1 l1 c1, .slice a2 l2 c2, .slice a3 l3 c3, .slice a4 l4 c4] 29)).alloc (.cells #[.int .i64 1, .int .i64 pl, .int .i64 nn, .slice q1 m1 k1, .slice q2 m2 k2, .int .i64 wa] 46)) #[.int .i64 0, .int .i64 0, .int .i64 0, .int .i64 0, .slice none 0 0, .slice none 0 0] 48; simpa using this
  have HB0 : Hid (Below W0.heap.size W0 w) := hB
  have HD0 : Hid (OwnD w W0.heap.size a1 a2 a3 a4 l1 l2 l3 l4 c1 c2 c3 c4 cs is hs rs) := hD
  have HQ : Hid (m1 = ws.length ∧ m2 = bs.length ∧ SlI W0 q1 ws ∧ SlB W0 q2 bs ∧ ws.length ≤ 2000000 ∧ bs.length ≤ 2000000) := ⟨hn, hn2, hq, hq2, hl, hl2⟩
  have HOK : Hid (okR 1 pl nn wa ws m1 m2 = true ∧ okD l1 l2 l3 l4 hs rs = true ∧ SmD 2000000 cs is hs rs ∧ LnD l1 l2 l3 l4 cs is hs rs) := ⟨hok, hd, hsm, hD.sl.1⟩
  have HA : Hid _ := hAll
  have HDO : Hid _ := hdo
  have BW : ∀ u : World, Below w.heap.size w u → Below W0.heap.size W0 u := fun u hu => HB0.out.trans (hu.mono HB0.out.size)
  obtain ⟨x0, x1, x2, x3⟩ := X0.four
  obtain ⟨y0, y1, y2, y3, y4, y5⟩ := Y0.six
  clear hz hB hD hn hn2 hq hq2 hl hl2 hok hd hsm hAll hdo
  go_enter Try.func42, Try.ntmps42
  go_upto_region 1 with fail
  rw [← HZ.out]
  go_wp2_with fail
  refine (implReqOk_q 1 pl nn wa q1 q2 m1 m2 k1 k2 ws bs _ HQ.out.1 HQ.out.2.1 (HQ.out.2.2.1.below (BW _ b0)) (HQ.out.2.2.2.1.below (BW _ b0)) HQ.out.2.2.2.2.1 HQ.out.2.2.2.2.2).mono ?_
  rintro e w1 ⟨he, b'⟩
  rw [HOK.out.1] at he
  subst he
  have b1 := bel_next b0 b'
  have X1 := X0.below b'
  have Y1 := Y0.below b'
  have R1 := R0.below b'
  clear x0 x1 x2 x3 y0 y1 y2 y3 y4 y5 X0 Y0 R0 b0 b'
  obtain ⟨x0, x1, x2, x3⟩ := X1.four
  obtain ⟨y0, y1, y2, y3, y4, y5⟩ := Y1.six
  go_wp2_with fail
  refine (implDeviceOk_any a1 a2 a3 a4 l1 l2 l3 l4 c1 c2 c3 c4 cs is hs rs _ HOK.out.2.2.2 (HD0.out.below b1).sl.2 HOK.out.2.2.1 _ HOK.out.2.1).mono ?_
  rintro e w2 ⟨rfl, b'⟩
  have b2 := bel_next b1 b'
  have X2 := X1.below b'
  have Y2 := Y1.below b'
  have R2 := R1.below b'
  clear x0 x1 x2 x3 y0 y1 y2 y3 y4 y5 X1 Y1 R1 b1 b'
  obtain ⟨x0, x1, x2, x3⟩ := X2.four
  obtain ⟨y0, y1, y2, y3, y4, y5⟩ := Y2.six
  go_wp2_with fail
  refine (HA.out _ (HQ.out.2.2.1.below (BW _ b2)) (HQ.out.2.2.2.1.below (BW _ b2))).mono ?_
  rintro e w3 ⟨rfl, b'⟩
  have b3 := bel_next b2 b'
  have X3 := X2.below b'
  have Y3 := Y2.below b'
  have R3 := R2.below b'
  clear x0 x1 x2 x3 y0 y1 y2 y3 y4 y5 X2 Y2 R2 b2 b'
  obtain ⟨x0, x1, x2, x3⟩ := X3.four
  obtain ⟨y0, y1, y2, y3, y4, y5⟩ := Y3.six
  go_upto_region 7 with fail
  have d3 : Below w3.heap.size w3 w3.drew := (Below.refl _ _).drew
  have hne2 : ¬ (w.heap.size = w.heap.size + 1 + 1) := by omega
  have hne3 : ¬ (w.heap.size + 1 + 1 = w.heap.size) := by omega
  go_region_held3 (fun w' => w'.cell? ⟨w.heap.size, 0, none⟩ = some (.slice a1 l1 c1) ∧ w'.cell? ⟨w.heap.size, 1, none⟩ = some (.slice a2 l2 c2) ∧ w'.cell? ⟨w.heap.size, 2, none⟩ = some (.slice a3 l3 c3) ∧ w'.cell? ⟨w.heap.size, 3, none⟩ = some (.slice a4 l4 c4) ∧ w'.cell? ⟨w.heap.size + 1, 0, none⟩ = some (.int .i64 1) ∧ w'.cell? ⟨w.heap.size + 1, 1, none⟩ = some (.int .i64 pl) ∧ w'.cell? ⟨w.heap.size + 1, 2, none⟩ = some (.int .i64 nn) ∧ w'.cell? ⟨w.heap.size + 1, 3, none⟩ = some (.slice q1 m1 k1) ∧ w'.cell? ⟨w.heap.size + 1, 4, none⟩ = some (.slice q2 m2 k2) ∧ w'.cell? ⟨w.heap.size + 1, 5, none⟩ = some (.int .i64 wa)) (go_keep)
    (first
      | (go_at_call 84; refine (deeds_any _).mono ?_; rintro e w4 ⟨rfl, hm4, b'⟩; have B4 : Below w3.heap.size w3 w4 := (by first | exact b' | exact bel_next d3 b'); have lk4 : (Instr.lookup 95 (.map (some w3.heap.size)) (.int .i64 1) false).run Try.prog w4 = .ok (.func (.func 101) #[] #[]) w4 := mp_get 1 (.func (.func 101) #[] #[]) 0 _ _ _ _ hm4 rfl; obtain ⟨x40, x41, x42, x43⟩ := (X3.below B4).four; obtain ⟨y40, y41, y42, y43, y44, y45⟩ := (Y3.below B4).six; clear b')
      | (go_at_call 101; refine (HDO.out _ (BW _ (by first | exact bel_next b3 B4 | exact (bel_next b3 B4).drew)) (HD0.out.below (by first | exact bel_next b3 B4 | exact (bel_next b3 B4).drew))).mono ?_; rintro e w5 ⟨r1, r2, n1, n2, e1, e2, rfl, o1, o2, o3, o4, o5⟩; have D4 := HD0.out.below (bel_next b3 B4); have X5 := (X3.below B4).chg o5 (D4.noBlk (X3.below B4) (by decide) (by decide)); have Y5 := (Y3.below B4).chg o5 (D4.noBlk (Y3.below B4) (by decide) (by decide)); have R5 := (R3.below B4).chg o5 (D4.noBlk (R3.below B4) (by decide) (by decide)); obtain ⟨x50, x51, x52, x53⟩ := X5.four; obtain ⟨y50, y51, y52, y53, y54, y55⟩ := Y5.six; obtain ⟨s0, s1, s2, s3, s4, s5⟩ := R5.six; have f0 := R5.fro 0; have f1 := R5.fro 1; have f2 := R5.fro 2; have f3 := R5.fro 3; have f4 := R5.fro 4; have f5 := R5.fro 5; have sz4 : w.heap.size ≤ w4.heap.size := (bel_next b3 B4).size; have HH : Hid (OwnI w5 w.heap.size (.slice r1 n1 e1) ws' ∧ OwnB w5 w.heap.size (.slice r2 n2 e2) bs' ∧ OwnD w5 W0.heap.size a1 a2 a3 a4 l1 l2 l3 l4 c1 c2 c3 c4 cs' is' hs' rs' ∧ Below W0.heap.size W0 w5 ∧ Chg w w5 (Of4 (.slice a1 l1 c1) (.slice a2 l2 c2) (.slice a3 l3 c3) (.slice a4 l4 c4)) ∧ ExB w5 (w.heap.size + 1 + 1) 48) := ⟨OwnI.mono o1 (by exact sz4), OwnB.mono o2 (by exact sz4), o3, o4, (Chg.ofBelow (bel_next b3 B4)).trans o5, ⟨_, R5⟩⟩; have HZ0 : Hid (W0.heap.size ≤ w.heap.size) := HB0.out.size; clear o1 o2 o3 o4 o5 D4 X5 Y5 R5))
  all_goals (
    go_wp2
    refine bodyPost_ret (v := rp 1 0 pl' nn' r1 r2 n1 n2 e1 e2) (by simp [results, Try.results42, go_sem, s0, s1, s2, s3, s4, s5]) rfl ?_
    obtain ⟨o1, o2, o3, o4, o5, o6⟩ := HH.out
    exact ⟨_, _, _, _, _, _, rfl, rowp_set6 o1 o6 (by decide), rowp_set6 o2 o6 (by decide), o3.set6 o6 (by decide) (by decide), belp_set6 o4 (by have := HZ0.out; omega), o5.set6 (by omega)⟩)

set_option maxRecDepth 20000 in
set_option maxHeartbeats 8000000 in
theorem serve_2 (a1 a2 a3 a4 : Option Addr) (l1 l2 l3 l4 c1 c2 c3 c4 : Nat) (cs is : List Bool) (hs rs : List Int) (pl nn wa : Int) (q1 q2 : Option Addr) (m1 m2 k1 k2 : Nat) (ws : List Int) (bs : List Bool) (W0 w : World) (hB : Below W0.heap.size W0 w) (hD : OwnD w W0.heap.size a1 a2 a3 a4 l1 l2 l3 l4 c1 c2 c3 c4 cs is hs rs) (hn : m1 = ws.length) (hn2 : m2 = bs.length) (hq : SlI W0 q1 ws) (hq2 : SlB W0 q2 bs) (hl : ws.length ≤ 2000000) (hl2 : bs.length ≤ 2000000) (hok : okR 2 pl nn wa ws m1 m2 = true) (hd : okD l1 l2 l3 l4 hs rs = true) (hsm : SmD 2000000 cs is hs rs)
    (cs' is' : List Bool) (hs' rs' : List Int) (ws' : List Int) (bs' : List Bool) (pl' nn' : Int)
    (hAll : ∀ w : World, SlI w q1 ws → SlB w q2 bs → Calls Try.prog 83 #[dv a1 a2 a3 a4 l1 l2 l3 l4 c1 c2 c3 c4, rq 2 pl nn wa q1 q2 m1 m2 k1 k2] w fun e w' => e = .returned (.bool true) ∧ Below w.heap.size w w')
    (hdo : ∀ w : World, Below W0.heap.size W0 w → OwnD w W0.heap.size a1 a2 a3 a4 l1 l2 l3 l4 c1 c2 c3 c4 cs is hs rs → Calls Try.prog 102 #[dv a1 a2 a3 a4 l1 l2 l3 l4 c1 c2 c3 c4, rq 2 pl nn wa q1 q2 m1 m2 k1 k2] w fun e w' => SV W0 w w' e a1 a2 a3 a4 l1 l2 l3 l4 c1 c2 c3 c4 cs' is' hs' rs' 2 0 pl' nn' ws' bs') :
    Calls Try.prog 42 #[dv a1 a2 a3 a4 l1 l2 l3 l4 c1 c2 c3 c4, rq 2 pl nn wa q1 q2 m1 m2 k1 k2] w fun e w' => SV W0 w w' e a1 a2 a3 a4 l1 l2 l3 l4 c1 c2 c3 c4 cs' is' hs' rs' 2 0 pl' nn' ws' bs' := by
  obtain ⟨z, hz⟩ : ∃ z, z = ((w.alloc (.cells #[.slice a1 l1 c1, .slice a2 l2 c2, .slice a3 l3 c3, .slice a4 l4 c4] 29)).alloc (.cells #[.int .i64 2, .int .i64 pl, .int .i64 nn, .slice q1 m1 k1, .slice q2 m2 k2, .int .i64 wa] 46)).alloc (.cells #[.int .i64 0, .int .i64 0, .int .i64 0, .int .i64 0, .slice none 0 0, .slice none 0 0] 48) := ⟨_, rfl⟩
  have HZ : Hid (z = _) := hz
  have b0 : Below w.heap.size w z := by rw [hz]; exact bel_next (bel_next (bel_alloc w _) (bel_alloc _ _)) (bel_alloc _ _)
  have X0 : Blk z w.heap.size 29 #[.slice a1 l1 c1, .slice a2 l2 c2, .slice a3 l3 c3, .slice a4 l4 c4] := by rw [hz]; exact ((Blk.new w _ _).below (bel_alloc _ _)).below (bel_alloc _ _)
  have Y0 : Blk z (w.heap.size + 1) 46 #[.int .i64 2, .int .i64 pl, .int .i64 nn, .slice q1 m1 k1, .slice q2 m2 k2, .int .i64 wa] := by rw [hz]; have := (Blk.new (w.alloc (.cells #[.slice a1 l1 c1, .slice a2 l2 c2, .slice a3 l3 c3, .slice a4 l4 c4] 29)) #[.int .i64 2, .int .i64 pl, .int .i64 nn, .slice q1 m1 k1, .slice q2 m2 k2, .int .i64 wa] 46).below (bel_alloc _ (.cells #[.int .i64 0, .int .i64 0, .int .i64 0, .int .i64 0, .slice none 0 0, .slice none 0 0] 48)); simpa using this
  have R0 : Blk z (w.heap.size + 1 + 1) 48 #[.int .i64 0, .int .i64 0, .int .i64 0, .int .i64 0, .slice none 0 0, .slice none 0 0] := by rw [hz]; have := Blk.new ((w.alloc (.cells #[.slice a1 l1 c1, .slice a2 l2 c2, .slice a3 l3 c3, .slice a4 l4 c4] 29)).alloc (.cells #[.int .i64 2, .int .i64 pl, .int .i64 nn, .slice q1 m1 k1, .slice q2 m2 k2, .int .i64 wa] 46)) #[.int .i64 0, .int .i64 0, .int .i64 0, .int .i64 0, .slice none 0 0, .slice none 0 0] 48; simpa using this
  have HB0 : Hid (Below W0.heap.size W0 w) := hB
  have HD0 : Hid (OwnD w W0.heap.size a1 a2 a3 a4 l1 l2 l3 l4 c1 c2 c3 c4 cs is hs rs) := hD
  have HQ : Hid (m1 = ws.length ∧ m2 = bs.length ∧ SlI W0 q1 ws ∧ SlB W0 q2 bs ∧ ws.length ≤ 2000000 ∧ bs.length ≤ 2000000) := ⟨hn, hn2, hq, hq2, hl, hl2⟩
  have HOK : Hid (okR 2 pl nn wa ws m1 m2 = true ∧ okD l1 l2 l3 l4 hs rs = true ∧ SmD 2000000 cs is hs rs ∧ LnD l1 l2 l3 l4 cs is hs rs) := ⟨hok, hd, hsm, hD.sl.1⟩
  have HA : Hid _ := hAll
  have HDO : Hid _ := hdo
  have BW : ∀ u : World, Below w.heap.size w u → Below W0.heap.size W0 u := fun u hu => HB0.out.trans (hu.mono HB0.out.size)
  obtain ⟨x0, x1, x2, x3⟩ := X0.four
  obtain ⟨y0, y1, y2, y3, y4, y5⟩ := Y0.six
  clear hz hB hD hn hn2 hq hq2 hl hl2 hok hd hsm hAll hdo
  go_enter Try.func42, Try.ntmps42
  go_upto_region 1 with fail
  rw [← HZ.out]
  go_wp2_with fail
  refine (implReqOk_q 2 pl nn wa q1 q2 m1 m2 k1 k2 ws bs _ HQ.out.1 HQ.out.2.1 (HQ.out.2.2.1.below (BW _ b0)) (HQ.out.2.2.2.1.below (BW _ b0)) HQ.out.2.2.2.2.1 HQ.out.2.2.2.2.2).mono ?_
  rintro e w1 ⟨he, b'⟩
  rw [HOK.out.1] at he
  subst he
  have b1 := bel_next b0 b'
  have X1 := X0.below b'
  have Y1 := Y0.below b'
  have R1 := R0.below b'
  clear x0 x1 x2 x3 y0 y1 y2 y3 y4 y5 X0 Y0 R0 b0 b'
  obtain ⟨x0, x1, x2, x3⟩ := X1.four
  obtain ⟨y0, y1, y2, y3, y4, y5⟩ := Y1.six
  go_wp2_with fail
  refine (implDeviceOk_any a1 a2 a3 a4 l1 l2 l3 l4 c1 c2 c3 c4 cs is hs rs _ HOK.out.2.2.2 (HD0.out.below b1).sl.2 HOK.out.2.2.1 _ HOK.out.2.1).mono ?_
  rintro e w2 ⟨rfl, b'⟩
  have b2 := bel_next b1 b'
  have X2 := X1.below b'
  have Y2 := Y1.below b'
  have R2 := R1.below b'
  clear x0 x1 x2 x3 y0 y1 y2 y3 y4 y5 X1 Y1 R1 b1 b'
  obtain ⟨x0, x1, x2, x3⟩ := X2.four
  obtain ⟨y0, y1, y2, y3, y4, y5⟩ := Y2.six
  go_wp2_with fail
  refine (HA.out _ (HQ.out.2.2.1.below (BW _ b2)) (HQ.out.2.2.2.1.below (BW _ b2))).mono ?_
  rintro e w3 ⟨rfl, b'⟩
  have b3 := bel_next b2 b'
  have X3 := X2.below b'
  have Y3 := Y2.below b'
  have R3 := R2.below b'
  clear x0 x1 x2 x3 y0 y1 y2 y3 y4 y5 X2 Y2 R2 b2 b'
  obtain ⟨x0, x1, x2, x3⟩ := X3.four
  obtain ⟨y0, y1, y2, y3, y4, y5⟩ := Y3.six
  go_upto_region 7 with fail
  have d3 : Below w3.heap.size w3 w3.drew := (Below.refl _ _).drew
  have hne2 : ¬ (w.heap.size = w.heap.size + 1 + 1) := by omega
  have hne3 : ¬ (w.heap.size + 1 + 1 = w.heap.size) := by omega
  go_region_held3 (fun w' => w'.cell? ⟨w.heap.size, 0, none⟩ = some (.slice a1 l1 c1) ∧ w'.cell? ⟨w.heap.size, 1, none⟩ = some (.slice a2 l2 c2) ∧ w'.cell? ⟨w.heap.size, 2, none⟩ = some (.slice a3 l3 c3) ∧ w'.cell? ⟨w.heap.size, 3, none⟩ = some (.slice a4 l4 c4) ∧ w'.cell? ⟨w.heap.size + 1, 0, none⟩ = some (.int .i64 2) ∧ w'.cell? ⟨w.heap.size + 1, 1, none⟩ = some (.int .i64 pl) ∧ w'.cell? ⟨w.heap.size + 1, 2, none⟩ = some (.int .i64 nn) ∧ w'.cell? ⟨w.heap.size + 1, 3, none⟩ = some (.slice q1 m1 k1) ∧ w'.cell? ⟨w.heap.size + 1, 4, none⟩ = some (.slice q2 m2 k2) ∧ w'.cell? ⟨w.heap.size + 1, 5, none⟩ = some (.int .i64 wa)) (go_keep)
    (first
      | (go_at_call 84; refine (deeds_any _).mono ?_; rintro e w4 ⟨rfl, hm4, b'⟩; have B4 : Below w3.heap.size w3 w4 := (by first | exact b' | exact bel_next d3 b'); have lk4 : (Instr.lookup 95 (.map (some w3.heap.size)) (.int .i64 2) false).run Try.prog w4 = .ok (.func (.func 102) #[] #[]) w4 := mp_get 2 (.func (.func 102) #[] #[]) 1 _ _ _ _ hm4 rfl; obtain ⟨x40, x41, x42, x43⟩ := (X3.below B4).four; obtain ⟨y40, y41, y42, y43, y44, y45⟩ := (Y3.below B4).six; clear b')
      | (go_at_call 102; refine (HDO.out _ (BW _ (by first | exact bel_next b3 B4 | exact (bel_next b3 B4).drew)) (HD0.out.below (by first | exact bel_next b3 B4 | exact (bel_next b3 B4).drew))).mono ?_; rintro e w5 ⟨r1, r2, n1, n2, e1, e2, rfl, o1, o2, o3, o4, o5⟩; have D4 := HD0.out.below (bel_next b3 B4); have X5 := (X3.below B4).chg o5 (D4.noBlk (X3.below B4) (by decide) (by decide)); have Y5 := (Y3.below B4).chg o5 (D4.noBlk (Y3.below B4) (by decide) (by decide)); have R5 := (R3.below B4).chg o5 (D4.noBlk (R3.below B4) (by decide) (by decide)); obtain ⟨x50, x51, x52, x53⟩ := X5.four; obtain ⟨y50, y51, y52, y53, y54, y55⟩ := Y5.six; obtain ⟨s0, s1, s2, s3, s4, s5⟩ := R5.six; have f0 := R5.fro 0; have f1 := R5.fro 1; have f2 := R5.fro 2; have f3 := R5.fro 3; have f4 := R5.fro 4; have f5 := R5.fro 5; have sz4 : w.heap.size ≤ w4.heap.size := (bel_next b3 B4).size; have HH : Hid (OwnI w5 w.heap.size (.slice r1 n1 e1) ws' ∧ OwnB w5 w.heap.size (.slice r2 n2 e2) bs' ∧ OwnD w5 W0.heap.size a1 a2 a3 a4 l1 l2 l3 l4 c1 c2 c3 c4 cs' is' hs' rs' ∧ Below W0.heap.size W0 w5 ∧ Chg w w5 (Of4 (.slice a1 l1 c1) (.slice a2 l2 c2) (.slice a3 l3 c3) (.slice a4 l4 c4)) ∧ ExB w5 (w.heap.size + 1 + 1) 48) := ⟨OwnI.mono o1 (by exact sz4), OwnB.mono o2 (by exact sz4), o3, o4, (Chg.ofBelow (bel_next b3 B4)).trans o5, ⟨_, R5⟩⟩; have HZ0 : Hid (W0.heap.size ≤ w.heap.size) := HB0.out.size; clear o1 o2 o3 o4 o5 D4 X5 Y5 R5))
  all_goals (
    go_wp2
    refine bodyPost_ret (v := rp 2 0 pl' nn' r1 r2 n1 n2 e1 e2) (by simp [results, Try.results42, go_sem, s0, s1, s2, s3, s4, s5]) rfl ?_
    obtain ⟨o1, o2, o3, o4, o5, o6⟩ := HH.out
    exact ⟨_, _, _, _, _, _, rfl, rowp_set6 o1 o6 (by decide), rowp_set6 o2 o6 (by decide), o3.set6 o6 (by decide) (by decide), belp_set6 o4 (by have := HZ0.out; omega), o5.set6 (by omega)⟩)

set_option maxRecDepth 20000 in
set_option maxHeartbeats 8000000 in
theorem serve_3 (a1 a2 a3 a4 : Option Addr) (l1 l2 l3 l4 c1 c2 c3 c4 : Nat) (cs is : List Bool) (hs rs : List Int) (pl nn wa : Int) (q1 q2 : Option Addr) (m1 m2 k1 k2 : Nat) (ws : List Int) (bs : List Bool) (W0 w : World) (hB : Below W0.heap.size W0 w) (hD : OwnD w W0.heap.size a1 a2 a3 a4 l1 l2 l3 l4 c1 c2 c3 c4 cs is hs rs) (hn : m1 = ws.length) (hn2 : m2 = bs.length) (hq : SlI W0 q1 ws) (hq2 : SlB W0 q2 bs) (hl : ws.length ≤ 2000000) (hl2 : bs.length ≤ 2000000) (hok : okR 3 pl nn wa ws m1 m2 = true) (hd : okD l1 l2 l3 l4 hs rs = true) (hsm : SmD 2000000 cs is hs rs)
    (cs' is' : List Bool) (hs' rs' : List Int) (ws' : List Int) (bs' : List Bool) (pl' nn' : Int)
    (hAll : ∀ w : World, SlI w q1 ws → SlB w q2 bs → Calls Try.prog 83 #[dv a1 a2 a3 a4 l1 l2 l3 l4 c1 c2 c3 c4, rq 3 pl nn wa q1 q2 m1 m2 k1 k2] w fun e w' => e = .returned (.bool true) ∧ Below w.heap.size w w')
    (hdo : ∀ w : World, Below W0.heap.size W0 w → OwnD w W0.heap.size a1 a2 a3 a4 l1 l2 l3 l4 c1 c2 c3 c4 cs is hs rs → Calls Try.prog 103 #[dv a1 a2 a3 a4 l1 l2 l3 l4 c1 c2 c3 c4, rq 3 pl nn wa q1 q2 m1 m2 k1 k2] w fun e w' => SV W0 w w' e a1 a2 a3 a4 l1 l2 l3 l4 c1 c2 c3 c4 cs' is' hs' rs' 3 0 pl' nn' ws' bs') :
    Calls Try.prog 42 #[dv a1 a2 a3 a4 l1 l2 l3 l4 c1 c2 c3 c4, rq 3 pl nn wa q1 q2 m1 m2 k1 k2] w fun e w' => SV W0 w w' e a1 a2 a3 a4 l1 l2 l3 l4 c1 c2 c3 c4 cs' is' hs' rs' 3 0 pl' nn' ws' bs' := by
  obtain ⟨z, hz⟩ : ∃ z, z = ((w.alloc (.cells #[.slice a1 l1 c1, .slice a2 l2 c2, .slice a3 l3 c3, .slice a4 l4 c4] 29)).alloc (.cells #[.int .i64 3, .int .i64 pl, .int .i64 nn, .slice q1 m1 k1, .slice q2 m2 k2, .int .i64 wa] 46)).alloc (.cells #[.int .i64 0, .int .i64 0, .int .i64 0, .int .i64 0, .slice none 0 0, .slice none 0 0] 48) := ⟨_, rfl⟩
  have HZ : Hid (z = _) := hz
  have b0 : Below w.heap.size w z := by rw [hz]; exact bel_next (bel_next (bel_alloc w _) (bel_alloc _ _)) (bel_alloc _ _)
  have X0 : Blk z w.heap.size 29 #[.slice a1 l1 c1, .slice a2 l2 c2, .slice a3 l3 c3, .slice a4 l4 c4] := by rw [hz]; exact ((Blk.new w _ _).below (bel_alloc _ _)).below (bel_alloc _ _)
  have Y0 : Blk z (w.heap.size + 1) 46 #[.int .i64 3, .int .i64 pl, .int .i64 nn, .slice q1 m1 k1, .slice q2 m2 k2, .int .i64 wa] := by rw [hz]; have := (Blk.new (w.alloc (.cells #[.slice a1 l1 c1, .slice a2 l2 c2, .slice a3 l3 c3, .slice a4 l4 c4] 29)) #[.int .i64 3, .int .i64 pl, .int .i64 nn, .slice q1 m1 k1, .slice q2 m2 k2, .int .i64 wa] 46).below (bel_alloc _ (.cells #[.int .i64 0, .int .i64 0, .int .i64 0, .int .i64 0, .slice none 0 0, .slice none 0 0] 48)); simpa using this
  have R0 : Blk z (w.heap.size + 1 + 1) 48 #[.int .i64 0, .int .i64 0, .int .i64 0, .int .i64 0, .slice none 0 0, .slice none 0 0] := by rw [hz]; have := Blk.new ((w.alloc (.cells #[.slice a1 l1 c1, .slice a2 l2 c2, .slice a3 l3 c3, .slice a4 l4 c4] 29)).alloc (.cells #[.int .i64 3, .int .i64 pl, .int .i64 nn, .slice q1 m1 k1, .slice q2 m2 k2, .int .i64 wa] 46)) #[.int .i64 0, .int .i64 0, .int .i64 0, .int .i64 0, .slice none 0 0, .slice none 0 0] 48; simpa using this
  have HB0 : Hid (Below W0.heap.size W0 w) := hB
  have HD0 : Hid (OwnD w W0.heap.size a1 a2 a3 a4 l1 l2 l3 l4 c1 c2 c3 c4 cs is hs rs) := hD
  have HQ : Hid (m1 = ws.length ∧ m2 = bs.length ∧ SlI W0 q1 ws ∧ SlB W0 q2 bs ∧ ws.length ≤ 2000000 ∧ bs.length ≤ 2000000) := ⟨hn, hn2, hq, hq2, hl, hl2⟩
  have HOK : Hid (okR 3 pl nn wa ws m1 m2 = true ∧ okD l1 l2 l3 l4 hs rs = true ∧ SmD 2000000 cs is hs rs ∧ LnD l1 l2 l3 l4 cs is hs rs) := ⟨hok, hd, hsm, hD.sl.1⟩
  have HA : Hid _ := hAll
  have HDO : Hid _ := hdo
  have BW : ∀ u : World, Below w.heap.size w u → Below W0.heap.size W0 u := fun u hu => HB0.out.trans (hu.mono HB0.out.size)
  obtain ⟨x0, x1, x2, x3⟩ := X0.four
  obtain ⟨y0, y1, y2, y3, y4, y5⟩ := Y0.six
  clear hz hB hD hn hn2 hq hq2 hl hl2 hok hd hsm hAll hdo
  go_enter Try.func42, Try.ntmps42
  go_upto_region 1 with fail
  rw [← HZ.out]
  go_wp2_with fail
  refine (implReqOk_q 3 pl nn wa q1 q2 m1 m2 k1 k2 ws bs _ HQ.out.1 HQ.out.2.1 (HQ.out.2.2.1.below (BW _ b0)) (HQ.out.2.2.2.1.below (BW _ b0)) HQ.out.2.2.2.2.1 HQ.out.2.2.2.2.2).mono ?_
  rintro e w1 ⟨he, b'⟩
  rw [HOK.out.1] at he
  subst he
  have b1 := bel_next b0 b'
  have X1 := X0.below b'
  have Y1 := Y0.below b'
  have R1 := R0.below b'
  clear x0 x1 x2 x3 y0 y1 y2 y3 y4 y5 X0 Y0 R0 b0 b'
  obtain ⟨x0, x1, x2, x3⟩ := X1.four
  obtain ⟨y0, y1, y2, y3, y4, y5⟩ := Y1.six
  go_wp2_with fail
  refine (implDeviceOk_any a1 a2 a3 a4 l1 l2 l3 l4 c1 c2 c3 c4 cs is hs rs _ HOK.out.2.2.2 (HD0.out.below b1).sl.2 HOK.out.2.2.1 _ HOK.out.2.1).mono ?_
  rintro e w2 ⟨rfl, b'⟩
  have b2 := bel_next b1 b'
  have X2 := X1.below b'
  have Y2 := Y1.below b'
  have R2 := R1.below b'
  clear x0 x1 x2 x3 y0 y1 y2 y3 y4 y5 X1 Y1 R1 b1 b'
  obtain ⟨x0, x1, x2, x3⟩ := X2.four
  obtain ⟨y0, y1, y2, y3, y4, y5⟩ := Y2.six
  go_wp2_with fail
  refine (HA.out _ (HQ.out.2.2.1.below (BW _ b2)) (HQ.out.2.2.2.1.below (BW _ b2))).mono ?_
  rintro e w3 ⟨rfl, b'⟩
  have b3 := bel_next b2 b'
  have X3 := X2.below b'
  have Y3 := Y2.below b'
  have R3 := R2.below b'
  clear x0 x1 x2 x3 y0 y1 y2 y3 y4 y5 X2 Y2 R2 b2 b'
  obtain ⟨x0, x1, x2, x3⟩ := X3.four
  obtain ⟨y0, y1, y2, y3, y4, y5⟩ := Y3.six
  go_upto_region 7 with fail
  have d3 : Below w3.heap.size w3 w3.drew := (Below.refl _ _).drew
  have hne2 : ¬ (w.heap.size = w.heap.size + 1 + 1) := by omega
  have hne3 : ¬ (w.heap.size + 1 + 1 = w.heap.size) := by omega
  go_region_held3 (fun w' => w'.cell? ⟨w.heap.size, 0, none⟩ = some (.slice a1 l1 c1) ∧ w'.cell? ⟨w.heap.size, 1, none⟩ = some (.slice a2 l2 c2) ∧ w'.cell? ⟨w.heap.size, 2, none⟩ = some (.slice a3 l3 c3) ∧ w'.cell? ⟨w.heap.size, 3, none⟩ = some (.slice a4 l4 c4) ∧ w'.cell? ⟨w.heap.size + 1, 0, none⟩ = some (.int .i64 3) ∧ w'.cell? ⟨w.heap.size + 1, 1, none⟩ = some (.int .i64 pl) ∧ w'.cell? ⟨w.heap.size + 1, 2, none⟩ = some (.int .i64 nn) ∧ w'.cell? ⟨w.heap.size + 1, 3, none⟩ = some (.slice q1 m1 k1) ∧ w'.cell? ⟨w.heap.size + 1, 4, none⟩ = some (.slice q2 m2 k2) ∧ w'.cell? ⟨w.heap.size + 1, 5, none⟩ = some (.int .i64 wa)) (go_keep)
    (first
      | (go_at_call 84; refine (deeds_any _).mono ?_; rintro e w4 ⟨rfl, hm4, b'⟩; have B4 : Below w3.heap.size w3 w4 := (by first | exact b' | exact bel_next d3 b'); have lk4 : (Instr.lookup 95 (.map (some w3.heap.size)) (.int .i64 3) false).run Try.prog w4 = .ok (.func (.func 103) #[] #[]) w4 := mp_get 3 (.func (.func 103) #[] #[]) 2 _ _ _ _ hm4 rfl; obtain ⟨x40, x41, x42, x43⟩ := (X3.below B4).four; obtain ⟨y40, y41, y42, y43, y44, y45⟩ := (Y3.below B4).six; clear b')
      | (go_at_call 103; refine (HDO.out _ (BW _ (by first | exact bel_next b3 B4 | exact (bel_next b3 B4).drew)) (HD0.out.below (by first | exact bel_next b3 B4 | exact (bel_next b3 B4).drew))).mono ?_; rintro e w5 ⟨r1, r2, n1, n2, e1, e2, rfl, o1, o2, o3, o4, o5⟩; have D4 := HD0.out.below (bel_next b3 B4); have X5 := (X3.below B4).chg o5 (D4.noBlk (X3.below B4) (by decide) (by decide)); have Y5 := (Y3.below B4).chg o5 (D4.noBlk (Y3.below B4) (by decide) (by decide)); have R5 := (R3.below B4).chg o5 (D4.noBlk (R3.below B4) (by decide) (by decide)); obtain ⟨x50, x51, x52, x53⟩ := X5.four; obtain ⟨y50, y51, y52, y53, y54, y55⟩ := Y5.six; obtain ⟨s0, s1, s2, s3, s4, s5⟩ := R5.six; have f0 := R5.fro 0; have f1 := R5.fro 1; have f2 := R5.fro 2; have f3 := R5.fro 3; have f4 := R5.fro 4; have f5 := R5.fro 5; have sz4 : w.heap.size ≤ w4.heap.size := (bel_next b3 B4).size; have HH : Hid (OwnI w5 w.heap.size (.slice r1 n1 e1) ws' ∧ OwnB w5 w.heap.size (.slice r2 n2 e2) bs' ∧ OwnD w5 W0.heap.size a1 a2 a3 a4 l1 l2 l3 l4 c1 c2 c3 c4 cs' is' hs' rs' ∧ Below W0.heap.size W0 w5 ∧ Chg w w5 (Of4 (.slice a1 l1 c1) (.slice a2 l2 c2) (.slice a3 l3 c3) (.slice a4 l4 c4)) ∧ ExB w5 (w.heap.size + 1 + 1) 48) := ⟨OwnI.mono o1 (by exact sz4), OwnB.mono o2 (by exact sz4), o3, o4, (Chg.ofBelow (bel_next b3 B4)).trans o5, ⟨_, R5⟩⟩; have HZ0 : Hid (W0.heap.size ≤ w.heap.size) := HB0.out.size; clear o1 o2 o3 o4 o5 D4 X5 Y5 R5))
  all_goals (
    go_wp2
    refine bodyPost_ret (v := rp 3 0 pl' nn' r1 r2 n1 n2 e1 e2) (by simp [results, Try.results42, go_sem, s0, s1, s2, s3, s4, s5]) rfl ?_
    obtain ⟨o1, o2, o3, o4, o5, o6⟩ := HH.out
    exact ⟨_, _, _, _, _, _, rfl, rowp_set6 o1 o6 (by decide), rowp_set6 o2 o6 (by decide), o3.set6 o6 (by decide) (by decide), belp_set6 o4 (by have := HZ0.out; omega), o5.set6 (by omega)⟩)

set_option maxRecDepth 20000 in
set_option maxHeartbeats 8000000 in
theorem serve_4 (a1 a2 a3 a4 : Option Addr) (l1 l2 l3 l4 c1 c2 c3 c4 : Nat) (cs is : List Bool) (hs rs : List Int) (pl nn wa : Int) (q1 q2 : Option Addr) (m1 m2 k1 k2 : Nat) (ws : List Int) (bs : List Bool) (W0 w : World) (hB : Below W0.heap.size W0 w) (hD : OwnD w W0.heap.size a1 a2 a3 a4 l1 l2 l3 l4 c1 c2 c3 c4 cs is hs rs) (hn : m1 = ws.length) (hn2 : m2 = bs.length) (hq : SlI W0 q1 ws) (hq2 : SlB W0 q2 bs) (hl : ws.length ≤ 2000000) (hl2 : bs.length ≤ 2000000) (hok : okR 4 pl nn wa ws m1 m2 = true) (hd : okD l1 l2 l3 l4 hs rs = true) (hsm : SmD 2000000 cs is hs rs)
    (cs' is' : List Bool) (hs' rs' : List Int) (ws' : List Int) (bs' : List Bool) (pl' nn' : Int)
    (hAll : ∀ w : World, SlI w q1 ws → SlB w q2 bs → Calls Try.prog 83 #[dv a1 a2 a3 a4 l1 l2 l3 l4 c1 c2 c3 c4, rq 4 pl nn wa q1 q2 m1 m2 k1 k2] w fun e w' => e = .returned (.bool true) ∧ Below w.heap.size w w')
    (hdo : ∀ w : World, Below W0.heap.size W0 w → OwnD w W0.heap.size a1 a2 a3 a4 l1 l2 l3 l4 c1 c2 c3 c4 cs is hs rs → Calls Try.prog 104 #[dv a1 a2 a3 a4 l1 l2 l3 l4 c1 c2 c3 c4, rq 4 pl nn wa q1 q2 m1 m2 k1 k2] w fun e w' => SV W0 w w' e a1 a2 a3 a4 l1 l2 l3 l4 c1 c2 c3 c4 cs' is' hs' rs' 4 0 pl' nn' ws' bs') :
    Calls Try.prog 42 #[dv a1 a2 a3 a4 l1 l2 l3 l4 c1 c2 c3 c4, rq 4 pl nn wa q1 q2 m1 m2 k1 k2] w fun e w' => SV W0 w w' e a1 a2 a3 a4 l1 l2 l3 l4 c1 c2 c3 c4 cs' is' hs' rs' 4 0 pl' nn' ws' bs' := by
  obtain ⟨z, hz⟩ : ∃ z, z = ((w.alloc (.cells #[.slice a1 l1 c1, .slice a2 l2 c2, .slice a3 l3 c3, .slice a4 l4 c4] 29)).alloc (.cells #[.int .i64 4, .int .i64 pl, .int .i64 nn, .slice q1 m1 k1, .slice q2 m2 k2, .int .i64 wa] 46)).alloc (.cells #[.int .i64 0, .int .i64 0, .int .i64 0, .int .i64 0, .slice none 0 0, .slice none 0 0] 48) := ⟨_, rfl⟩
  have HZ : Hid (z = _) := hz
  have b0 : Below w.heap.size w z := by rw [hz]; exact bel_next (bel_next (bel_alloc w _) (bel_alloc _ _)) (bel_alloc _ _)
  have X0 : Blk z w.heap.size 29 #[.slice a1 l1 c1, .slice a2 l2 c2, .slice a3 l3 c3, .slice a4 l4 c4] := by rw [hz]; exact ((Blk.new w _ _).below (bel_alloc _ _)).below (bel_alloc _ _)
  have Y0 : Blk z (w.heap.size + 1) 46 #[.int .i64 4, .int .i64 pl, .int .i64 nn, .slice q1 m1 k1, .slice q2 m2 k2, .int .i64 wa] := by rw [hz]; have := (Blk.new (w.alloc (.cells #[.slice a1 l1 c1, .slice a2 l2 c2, .slice a3 l3 c3, .slice a4 l4 c4] 29)) #[.int .i64 4, .int .i64 pl, .int .i64 nn, .slice q1 m1 k1, .slice q2 m2 k2, .int .i64 wa] 46).below (bel_alloc _ (.cells #[.int .i64 0, .int .i64 0, .int .i64 0, .int .i64 0, .slice none 0 0, .slice none 0 0] 48)); simpa using this
  have R0 : Blk z (w.heap.size + 1 + 1) 48 #[.int .i64 0, .int .i64 0, .int .i64 0, .int .i64 0, .slice none 0 0, .slice none 0 0] := by rw [hz]; have := Blk.new ((w.alloc (.cells #[.slice a1 l1 c1, .slice a2 l2 c2, .slice a3 l3 c3, .slice a4 l4 c4] 29)).alloc (.cells #[.int .i64 4, .int .i64 pl, .int .i64 nn, .slice q1 m1 k1, .slice q2 m2 k2, .int .i64 wa] 46)) #[.int .i64 0, .int .i64 0, .int .i64 0, .int .i64 0, .slice none 0 0, .slice none 0 0] 48; simpa using this
  have HB0 : Hid (Below W0.heap.size W0 w) := hB
  have HD0 : Hid (OwnD w W0.heap.size a1 a2 a3 a4 l1 l2 l3 l4 c1 c2 c3 c4 cs is hs rs) := hD
  have HQ : Hid (m1 = ws.length ∧ m2 = bs.length ∧ SlI W0 q1 ws ∧ SlB W0 q2 bs ∧ ws.length ≤ 2000000 ∧ bs.length ≤ 2000000) := ⟨hn, hn2, hq, hq2, hl, hl2⟩
  have HOK : Hid (okR 4 pl nn wa ws m1 m2 = true ∧ okD l1 l2 l3 l4 hs rs = true ∧ SmD 2000000 cs is hs rs ∧ LnD l1 l2 l3 l4 cs is hs rs) := ⟨hok, hd, hsm, hD.sl.1⟩
  have HA : Hid _ := hAll
  have HDO : Hid _ := hdo
  have BW : ∀ u : World, Below w.heap.size w u → Below W0.heap.size W0 u := fun u hu => HB0.out.trans (hu.mono HB0.out.size)
  obtain ⟨x0, x1, x2, x3⟩ := X0.four
  obtain ⟨y0, y1, y2, y3, y4, y5⟩ := Y0.six
  clear hz hB hD hn hn2 hq hq2 hl hl2 hok hd hsm hAll hdo
  go_enter Try.func42, Try.ntmps42
  go_upto_region 1 with fail
  rw [← HZ.out]
  go_wp2_with fail
  refine (implReqOk_q 4 pl nn wa q1 q2 m1 m2 k1 k2 ws bs _ HQ.out.1 HQ.out.2.1 (HQ.out.2.2.1.below (BW _ b0)) (HQ.out.2.2.2.1.below (BW _ b0)) HQ.out.2.2.2.2.1 HQ.out.2.2.2.2.2).mono ?_
  rintro e w1 ⟨he, b'⟩
  rw [HOK.out.1] at he
  subst he
  have b1 := bel_next b0 b'
  have X1 := X0.below b'
  have Y1 := Y0.below b'
  have R1 := R0.below b'
  clear x0 x1 x2 x3 y0 y1 y2 y3 y4 y5 X0 Y0 R0 b0 b'
  obtain ⟨x0, x1, x2, x3⟩ := X1.four
  obtain ⟨y0, y1, y2, y3, y4, y5⟩ := Y1.six
  go_wp2_with fail
  refine (implDeviceOk_any a1 a2 a3 a4 l1 l2 l3 l4 c1 c2 c3 c4 cs is hs rs _ HOK.out.2.2.2 (HD0.out.below b1).sl.2 HOK.out.2.2.1 _ HOK.out.2.1).mono ?_
  rintro e w2 ⟨rfl, b'⟩
  have b2 := bel_next b1 b'
  have X2 := X1.below b'
  have Y2 := Y1.below b'
  have R2 := R1.below b'
  clear x0 x1 x2 x3 y0 y1 y2 y3 y4 y5 X1 Y1 R1 b1 b'
  obtain ⟨x0, x1, x2, x3⟩ := X2.four
  obtain ⟨y0, y1, y2, y3, y4, y5⟩ := Y2.six
  go_wp2_with fail
  refine (HA.out _ (HQ.out.2.2.1.below (BW _ b2)) (HQ.out.2.2.2.1.below (BW _ b2))).mono ?_
  rintro e w3 ⟨rfl, b'⟩
  have b3 := bel_next b2 b'
  have X3 := X2.below b'
  have Y3 := Y2.below b'
  have R3 := R2.below b'
  clear x0 x1 x2 x3 y0 y1 y2 y3 y4 y5 X2 Y2 R2 b2 b'
  obtain ⟨x0, x1, x2, x3⟩ := X3.four
  obtain ⟨y0, y1, y2, y3, y4, y5⟩ := Y3.six
  go_upto_region 7 with fail
  have d3 : Below w3.heap.size w3 w3.drew := (Below.refl _ _).drew
  have hne2 : ¬ (w.heap.size = w.heap.size + 1 + 1) := by omega
  have hne3 : ¬ (w.heap.size + 1 + 1 = w.heap.size) := by omega
  go_region_held3 (fun w' => w'.cell? ⟨w.heap.size, 0, none⟩ = some (.slice a1 l1 c1) ∧ w'.cell? ⟨w.heap.size, 1, none⟩ = some (.slice a2 l2 c2) ∧ w'.cell? ⟨w.heap.size, 2, none⟩ = some (.slice a3 l3 c3) ∧ w'.cell? ⟨w.heap.size, 3, none⟩ = some (.slice a4 l4 c4) ∧ w'.cell? ⟨w.heap.size + 1, 0, none⟩ = some (.int .i64 4) ∧ w'.cell? ⟨w.heap.size + 1, 1, none⟩ = some (.int .i64 pl) ∧ w'.cell? ⟨w.heap.size + 1, 2, none⟩ = some (.int .i64 nn) ∧ w'.cell? ⟨w.heap.size + 1, 3, none⟩ = some (.slice q1 m1 k1) ∧ w'.cell? ⟨w.heap.size + 1, 4, none⟩ = some (.slice q2 m2 k2) ∧ w'.cell? ⟨w.heap.size + 1, 5, none⟩ = some (.int .i64 wa)) (go_keep)
    (first
      | (go_at_call 84; refine (deeds_any _).mono ?_; rintro e w4 ⟨rfl, hm4, b'⟩; have B4 : Below w3.heap.size w3 w4 := (by first | exact b' | exact bel_next d3 b'); have lk4 : (Instr.lookup 95 (.map (some w3.heap.size)) (.int .i64 4) false).run Try.prog w4 = .ok (.func (.func 104) #[] #[]) w4 := mp_get 4 (.func (.func 104) #[] #[]) 3 _ _ _ _ hm4 rfl; obtain ⟨x40, x41, x42, x43⟩ := (X3.below B4).four; obtain ⟨y40, y41, y42, y43, y44, y45⟩ := (Y3.below B4).six; clear b')
      | (go_at_call 104; refine (HDO.out _ (BW _ (by first | exact bel_next b3 B4 | exact (bel_next b3 B4).drew)) (HD0.out.below (by first | exact bel_next b3 B4 | exact (bel_next b3 B4).drew))).mono ?_; rintro e w5 ⟨r1, r2, n1, n2, e1, e2, rfl, o1, o2, o3, o4, o5⟩; have D4 := HD0.out.below (bel_next b3 B4); have X5 := (X3.below B4).chg o5 (D4.noBlk (X3.below B4) (by decide) (by decide)); have Y5 := (Y3.below B4).chg o5 (D4.noBlk (Y3.below B4) (by decide) (by decide)); have R5 := (R3.below B4).chg o5 (D4.noBlk (R3.below B4) (by decide) (by decide)); obtain ⟨x50, x51, x52, x53⟩ := X5.four; obtain ⟨y50, y51, y52, y53, y54, y55⟩ := Y5.six; obtain ⟨s0, s1, s2, s3, s4, s5⟩ := R5.six; have f0 := R5.fro 0; have f1 := R5.fro 1; have f2 := R5.fro 2; have f3 := R5.fro 3; have f4 := R5.fro 4; have f5 := R5.fro 5; have sz4 : w.heap.size ≤ w4.heap.size := (bel_next b3 B4).size; have HH : Hid (OwnI w5 w.heap.size (.slice r1 n1 e1) ws' ∧ OwnB w5 w.heap.size (.slice r2 n2 e2) bs' ∧ OwnD w5 W0.heap.size a1 a2 a3 a4 l1 l2 l3 l4 c1 c2 c3 c4 cs' is' hs' rs' ∧ Below W0.heap.size W0 w5 ∧ Chg w w5 (Of4 (.slice a1 l1 c1) (.slice a2 l2 c2) (.slice a3 l3 c3) (.slice a4 l4 c4)) ∧ ExB w5 (w.heap.size + 1 + 1) 48) := ⟨OwnI.mono o1 (by exact sz4), OwnB.mono o2 (by exact sz4), o3, o4, (Chg.ofBelow (bel_next b3 B4)).trans o5, ⟨_, R5⟩⟩; have HZ0 : Hid (W0.heap.size ≤ w.heap.size) := HB0.out.size; clear o1 o2 o3 o4 o5 D4 X5 Y5 R5))
  all_goals (
    go_wp2
    refine bodyPost_ret (v := rp 4 0 pl' nn' r1 r2 n1 n2 e1 e2) (by simp [results, Try.results42, go_sem, s0, s1, s2, s3, s4, s5]) rfl ?_
    obtain ⟨o1, o2, o3, o4, o5, o6⟩ := HH.out
    exact ⟨_, _, _, _, _, _, rfl, rowp_set6 o1 o6 (by decide), rowp_set6 o2 o6 (by decide), o3.set6 o6 (by decide) (by decide), belp_set6 o4 (by have := HZ0.out; omega), o5.set6 (by omega)⟩)

end Go.Proofs.Ytcnbbknmofonkaa

namespace Go.Proofs.Ytcnbbknmofonkaa
open Go.RowKit

set_option linter.unusedVariables false

set_option linter.unusedSimpArgs false

set_option maxRecDepth 20000 in
set_option maxHeartbeats 8000000 in
theorem serve_5 (a1 a2 a3 a4 : Option Addr) (l1 l2 l3 l4 c1 c2 c3 c4 : Nat) (cs is : List Bool) (hs rs : List Int) (pl nn wa : Int) (q1 q2 : Option Addr) (m1 m2 k1 k2 : Nat) (ws : List Int) (bs : List Bool) (W0 w : World) (hB : Below W0.heap.size W0 w) (hD : OwnD w W0.heap.size a1 a2 a3 a4 l1 l2 l3 l4 c1 c2 c3 c4 cs is hs rs) (hn : m1 = ws.length) (hn2 : m2 = bs.length) (hq : SlI W0 q1 ws) (hq2 : SlB W0 q2 bs) (hl : ws.length ≤ 2000000) (hl2 : bs.length ≤ 2000000) (hok : okR 5 pl nn wa ws m1 m2 = true) (hd : okD l1 l2 l3 l4 hs rs = true) (hsm : SmD 2000000 cs is hs rs)
    (cs' is' : List Bool) (hs' rs' : List Int) (ws' : List Int) (bs' : List Bool) (pl' nn' : Int)
    (hAll : ∀ w : World, SlI w q1 ws → SlB w q2 bs → Calls Try.prog 83 #[dv a1 a2 a3 a4 l1 l2 l3 l4 c1 c2 c3 c4, rq 5 pl nn wa q1 q2 m1 m2 k1 k2] w fun e w' => e = .returned (.bool true) ∧ Below w.heap.size w w')
    (hdo : ∀ w : World, Below W0.heap.size W0 w → OwnD w W0.heap.size a1 a2 a3 a4 l1 l2 l3 l4 c1 c2 c3 c4 cs is hs rs → Calls Try.prog 105 #[dv a1 a2 a3 a4 l1 l2 l3 l4 c1 c2 c3 c4, rq 5 pl nn wa q1 q2 m1 m2 k1 k2] w fun e w' => SV W0 w w' e a1 a2 a3 a4 l1 l2 l3 l4 c1 c2 c3 c4 cs' is' hs' rs' 5 0 pl' nn' ws' bs') :
    Calls Try.prog 42 #[dv a1 a2 a3 a4 l1 l2 l3 l4 c1 c2 c3 c4, rq 5 pl nn wa q1 q2 m1 m2 k1 k2] w fun e w' => SV W0 w w' e a1 a2 a3 a4 l1 l2 l3 l4 c1 c2 c3 c4 cs' is' hs' rs' 5 0 pl' nn' ws' bs' := by
  obtain ⟨z, hz⟩ : ∃ z, z = ((w.alloc (.cells #[.slice a1 l1 c1, .slice a2 l2 c2, .slice a3 l3 c3, .slice a4 l4 c4] 29)).alloc (.cells #[.int .i64 5, .int .i64 pl, .int .i64 nn, .slice q1 m1 k1, .slice q2 m2 k2, .int .i64 wa] 46)).alloc (.cells #[.int .i64 0, .int .i64 0, .int .i64 0, .int .i64 0, .slice none 0 0, .slice none 0 0] 48) := ⟨_, rfl⟩
  have HZ : Hid (z = _) := hz
  have b0 : Below w.heap.size w z := by rw [hz]; exact bel_next (bel_next (bel_alloc w _) (bel_alloc _ _)) (bel_alloc _ _)
  have X0 : Blk z w.heap.size 29 #[.slice a1 l1 c1, .slice a2 l2 c2, .slice a3 l3 c3, .slice a4 l4 c4] := by rw [hz]; exact ((Blk.new w _ _).below (bel_alloc _ _)).below (bel_alloc _ _)
  have Y0 : Blk z (w.heap.size + 1) 46 #[.int .i64 5, .int .i64 pl, .int .i64 nn, .slice q1 m1 k1, .slice q2 m2 k2, .int .i64 wa] := by rw [hz]; have := (Blk.new (w.alloc (.cells #[.slice a1 l1 c1, .slice a2 l2 c2, .slice a3 l3 c3, .slice a4 l4 c4] 29)) #[.int .i64 5, .int .i64 pl, .int .i64 nn, .slice q1 m1 k1, .slice q2 m2 k2, .int .i64 wa] 46).below (bel_alloc _ (.cells #[.int .i64 0, .int .i64 0, .int .i64 0, .int .i64 0, .slice none 0 0, .slice none 0 0] 48)); simpa using this
  have R0 : Blk z (w.heap.size + 1 + 1) 48 #[.int .i64 0, .int .i64 0, .int .i64 0, .int .i64 0, .slice none 0 0, .slice none 0 0] := by rw [hz]; have := Blk.new ((w.alloc (.cells #[.slice a1 l1 c1, .slice a2 l2 c2, .slice a3 l3 c3, .slice a4 l4 c4] 29)).alloc (.cells #[.int .i64 5, .int .i64 pl, .int .i64 nn, .slice q1 m1 k1, .slice q2 m2 k2, .int .i64 wa] 46)) #[.int .i64 0, .int .i64 0, .int .i64 0, .int .i64 0, .slice none 0 0, .slice none 0 0] 48; simpa using this
  have HB0 : Hid (Below W0.heap.size W0 w) := hB
  have HD0 : Hid (OwnD w W0.heap.size a1 a2 a3 a4 l1 l2 l3 l4 c1 c2 c3 c4 cs is hs rs) := hD
  have HQ : Hid (m1 = ws.length ∧ m2 = bs.length ∧ SlI W0 q1 ws ∧ SlB W0 q2 bs ∧ ws.length ≤ 2000000 ∧ bs.length ≤ 2000000) := ⟨hn, hn2, hq, hq2, hl, hl2⟩
  have HOK : Hid (okR 5 pl nn wa ws m1 m2 = true ∧ okD l1 l2 l3 l4 hs rs = true ∧ SmD 2000000 cs is hs rs ∧ LnD l1 l2 l3 l4 cs is hs rs) := ⟨hok, hd, hsm, hD.sl.1⟩
  have HA : Hid _ := hAll
  have HDO : Hid _ := hdo
  have BW : ∀ u : World, Below w.heap.size w u → Below W0.heap.size W0 u := fun u hu => HB0.out.trans (hu.mono HB0.out.size)
  obtain ⟨x0, x1, x2, x3⟩ := X0.four
  obtain ⟨y0, y1, y2, y3, y4, y5⟩ := Y0.six
  clear hz hB hD hn hn2 hq hq2 hl hl2 hok hd hsm hAll hdo
  go_enter Try.func42, Try.ntmps42
  go_upto_region 1 with fail
  rw [← HZ.out]
  go_wp2_with fail
  refine (implReqOk_q 5 pl nn wa q1 q2 m1 m2 k1 k2 ws bs _ HQ.out.1 HQ.out.2.1 (HQ.out.2.2.1.below (BW _ b0)) (HQ.out.2.2.2.1.below (BW _ b0)) HQ.out.2.2.2.2.1 HQ.out.2.2.2.2.2).mono ?_
  rintro e w1 ⟨he, b'⟩
  rw [HOK.out.1] at he
  subst he
  have b1 := bel_next b0 b'
  have X1 := X0.below b'
  have Y1 := Y0.below b'
  have R1 := R0.below b'
  clear x0 x1 x2 x3 y0 y1 y2 y3 y4 y5 X0 Y0 R0 b0 b'
  obtain ⟨x0, x1, x2, x3⟩ := X1.four
  obtain ⟨y0, y1, y2, y3, y4, y5⟩ := Y1.six
  go_wp2_with fail
  refine (implDeviceOk_any a1 a2 a3 a4 l1 l2 l3 l4 c1 c2 c3 c4 cs is hs rs _ HOK.out.2.2.2 (HD0.out.below b1).sl.2 HOK.out.2.2.1 _ HOK.out.2.1).mono ?_
  rintro e w2 ⟨rfl, b'⟩
  have b2 := bel_next b1 b'
  have X2 := X1.below b'
  have Y2 := Y1.below b'
  have R2 := R1.below b'
  clear x0 x1 x2 x3 y0 y1 y2 y3 y4 y5 X1 Y1 R1 b1 b'
  obtain ⟨x0, x1, x2, x3⟩ := X2.four
  obtain ⟨y0, y1, y2, y3, y4, y5⟩ := Y2.six
  go_wp2_with fail
  refine (HA.out _ (HQ.out.2.2.1.below (BW _ b2)) (HQ.out.2.2.2.1.below (BW _ b2))).mono ?_
  rintro e w3 ⟨rfl, b'⟩
  have b3 := bel_next b2 b'
  have X3 := X2.below b'
  have Y3 := Y2.below b'
  have R3 := R2.below b'
  clear x0 x1 x2 x3 y0 y1 y2 y3 y4 y5 X2 Y2 R2 b2 b'
  obtain ⟨x0, x1, x2, x3⟩ := X3.four
  obtain ⟨y0, y1, y2, y3, y4, y5⟩ := Y3.six
  go_upto_region 7 with fail
  have d3 : Below w3.heap.size w3 w3.drew := (Below.refl _ _).drew
  have hne2 : ¬ (w.heap.size = w.heap.size + 1 + 1) := by omega
  have hne3 : ¬ (w.heap.size + 1 + 1 = w.heap.size) := by omega
  go_region_held3 (fun w' => w'.cell? ⟨w.heap.size, 0, none⟩ = some (.slice a1 l1 c1) ∧ w'.cell? ⟨w.heap.size, 1, none⟩ = some (.slice a2 l2 c2) ∧ w'.cell? ⟨w.heap.size, 2, none⟩ = some (.slice a3 l3 c3) ∧ w'.cell? ⟨w.heap.size, 3, none⟩ = some (.slice a4 l4 c4) ∧ w'.cell? ⟨w.heap.size + 1, 0, none⟩ = some (.int .i64 5) ∧ w'.cell? ⟨w.heap.size + 1, 1, none⟩ = some (.int .i64 pl) ∧ w'.cell? ⟨w.heap.size + 1, 2, none⟩ = some (.int .i64 nn) ∧ w'.cell? ⟨w.heap.size + 1, 3, none⟩ = some (.slice q1 m1 k1) ∧ w'.cell? ⟨w.heap.size + 1, 4, none⟩ = some (.slice q2 m2 k2) ∧ w'.cell? ⟨w.heap.size + 1, 5, none⟩ = some (.int .i64 wa)) (go_keep)
    (first
      | (go_at_call 84; refine (deeds_any _).mono ?_; rintro e w4 ⟨rfl, hm4, b'⟩; have B4 : Below w3.heap.size w3 w4 := (by first | exact b' | exact bel_next d3 b'); have lk4 : (Instr.lookup 95 (.map (some w3.heap.size)) (.int .i64 5) false).run Try.prog w4 = .ok (.func (.func 105) #[] #[]) w4 := mp_get 5 (.func (.func 105) #[] #[]) 4 _ _ _ _ hm4 rfl; obtain ⟨x40, x41, x42, x43⟩ := (X3.below B4).four; obtain ⟨y40, y41, y42, y43, y44, y45⟩ := (Y3.below B4).six; clear b')
      | (go_at_call 105; refine (HDO.out _ (BW _ (by first | exact bel_next b3 B4 | exact (bel_next b3 B4).drew)) (HD0.out.below (by first | exact bel_next b3 B4 | exact (bel_next b3 B4).drew))).mono ?_; rintro e w5 ⟨r1, r2, n1, n2, e1, e2, rfl, o1, o2, o3, o4, o5⟩; have D4 := HD0.out.below (bel_next b3 B4); have X5 := (X3.below B4).chg o5 (D4.noBlk (X3.below B4) (by decide) (by decide)); have Y5 := (Y3.below B4).chg o5 (D4.noBlk (Y3.below B4) (by decide) (by decide)); have R5 := (R3.below B4).chg o5 (D4.noBlk (R3.below B4) (by decide) (by decide)); obtain ⟨x50, x51, x52, x53⟩ := X5.four; obtain ⟨y50, y51, y52, y53, y54, y55⟩ := Y5.six; obtain ⟨s0, s1, s2, s3, s4, s5⟩ := R5.six; have f0 := R5.fro 0; have f1 := R5.fro 1; have f2 := R5.fro 2; have f3 := R5.fro 3; have f4 := R5.fro 4; have f5 := R5.fro 5; have sz4 : w.heap.size ≤ w4.heap.size := (bel_next b3 B4).size; have HH : Hid (OwnI w5 w.heap.size (.slice r1 n1 e1) ws' ∧ OwnB w5 w.heap.size (.slice r2 n2 e2) bs' ∧ OwnD w5 W0.heap.size a1 a2 a3 a4 l1 l2 l3 l4 c1 c2 c3 c4 cs' is' hs' rs' ∧ Below W0.heap.size W0 w5 ∧ Chg w w5 (Of4 (.slice a1 l1 c1) (.slice a2 l2 c2) (.slice a3 l3 c3) (.slice a4 l4 c4)) ∧ ExB w5 (w.heap.size + 1 + 1) 48) := ⟨OwnI.mono o1 (by exact sz4), OwnB.mono o2 (by exact sz4), o3, o4, (Chg.ofBelow (bel_next b3 B4)).trans o5, ⟨_, R5⟩⟩; have HZ0 : Hid (W0.heap.size ≤ w.heap.size) := HB0.out.size; clear o1 o2 o3 o4 o5 D4 X5 Y5 R5))
  all_goals (
    go_wp2
    refine bodyPost_ret (v := rp 5 0 pl' nn' r1 r2 n1 n2 e1 e2) (by simp [results, Try.results42, go_sem, s0, s1, s2, s3, s4, s5]) rfl ?_
    obtain ⟨o1, o2, o3, o4, o5, o6⟩ := HH.out
    exact ⟨_, _, _, _, _, _, rfl, rowp_set6 o1 o6 (by decide), rowp_set6 o2 o6 (by decide), o3.set6 o6 (by decide) (by decide), belp_set6 o4 (by have := HZ0.out; omega), o5.set6 (by omega)⟩)

set_option maxRecDepth 20000 in
set_option maxHeartbeats 8000000 in
theorem serve_15 (a1 a2 a3 a4 : Option Addr) (l1 l2 l3 l4 c1 c2 c3 c4 : Nat) (cs is : List Bool) (hs rs : List Int) (pl nn wa : Int) (q1 q2 : Option Addr) (m1 m2 k1 k2 : Nat) (ws : List Int) (bs : List Bool) (W0 w : World) (hB : Below W0.heap.size W0 w) (hD : OwnD w W0.heap.size a1 a2 a3 a4 l1 l2 l3 l4 c1 c2 c3 c4 cs is hs rs) (hn : m1 = ws.length) (hn2 : m2 = bs.length) (hq : SlI W0 q1 ws) (hq2 : SlB W0 q2 bs) (hl : ws.length ≤ 2000000) (hl2 : bs.length ≤ 2000000) (hok : okR 15 pl nn wa ws m1 m2 = true) (hd : okD l1 l2 l3 l4 hs rs = true) (hsm : SmD 2000000 cs is hs rs)
    (cs' is' : List Bool) (hs' rs' : List Int) (ws' : List Int) (bs' : List Bool) (pl' nn' : Int)
    (hAll : ∀ w : World, SlI w q1 ws → SlB w q2 bs → Calls Try.prog 83 #[dv a1 a2 a3 a4 l1 l2 l3 l4 c1 c2 c3 c4, rq 15 pl nn wa q1 q2 m1 m2 k1 k2] w fun e w' => e = .returned (.bool true) ∧ Below w.heap.size w w')
    (hdo : ∀ w : World, Below W0.heap.size W0 w → OwnD w W0.heap.size a1 a2 a3 a4 l1 l2 l3 l4 c1 c2 c3 c4 cs is hs rs → Calls Try.prog 107 #[dv a1 a2 a3 a4 l1 l2 l3 l4 c1 c2 c3 c4, rq 15 pl nn wa q1 q2 m1 m2 k1 k2] w fun e w' => SV W0 w w' e a1 a2 a3 a4 l1 l2 l3 l4 c1 c2 c3 c4 cs' is' hs' rs' 15 0 pl' nn' ws' bs') :
    Calls Try.prog 42 #[dv a1 a2 a3 a4 l1 l2 l3 l4 c1 c2 c3 c4, rq 15 pl nn wa q1 q2 m1 m2 k1 k2] w fun e w' => SV W0 w w' e a1 a2 a3 a4 l1 l2 l3 l4 c1 c2 c3 c4 cs' is' hs' rs' 15 0 pl' nn' ws' bs' := by
  obtain ⟨z, hz⟩ : ∃ z, z = ((w.alloc (.cells #[.slice a1 l1 c1, .slice a2 l2 c2, .slice a3 l3 c3, .slice a4 l4 c4] 29)).alloc (.cells #[.int .i64 15, .int .i64 pl, .int .i64 nn, .slice q1 m1 k1, .slice q2 m2 k2, .int .i64 wa] 46)).alloc (.cells #[.int .i64 0, .int .i64 0, .int .i64 0, .int .i64 0, .slice none 0 0, .slice none 0 0] 48) := ⟨_, rfl⟩
  have HZ : Hid (z = _) := hz
  have b0 : Below w.heap.size w z := by rw [hz]; exact bel_next (bel_next (bel_alloc w _) (bel_alloc _ _)) (bel_alloc _ _)
  have X0 : Blk z w.heap.size 29 #[.slice a1 l1 c1, .slice a2 l2 c2, .slice a3 l3 c3, .slice a4 l4 c4] := by rw [hz]; exact ((Blk.new w _ _).below (bel_alloc _ _)).below (bel_alloc _ _)
  have Y0 : Blk z (w.heap.size + 1) 46 #[.int .i64 15, .int .i64 pl, .int .i64 nn, .slice q1 m1 k1, .slice q2 m2 k2, .int .i64 wa] := by rw [hz]; have := (Blk.new (w.alloc (.cells #[.slice a1 l1 c1, .slice a2 l2 c2, .slice a3 l3 c3, .slice a4 l4 c4] 29)) #[.int .i64 15, .int .i64 pl, .int .i64 nn, .slice q1 m1 k1, .slice q2 m2 k2, .int .i64 wa] 46).below (bel_alloc _ (.cells #[.int .i64 0, .int .i64 0, .int .i64 0, .int .i64 0, .slice none 0 0, .slice none 0 0] 48)); simpa using this
  have R0 : Blk z (w.heap.size + 1 + 1) 48 #[.int .i64 0, .int .i64 0, .int .i64 0, .int .i64 0, .slice none 0 0, .slice none 0 0] := by rw [hz]; have := Blk.new ((w.alloc (.cells #[.slice a1 l1 c1, .slice a2 l2 c2, .slice a3 l3 c3, .slice a4 l4 c4] 29)).alloc (.cells #[.int .i64 15, .int .i64 pl, .int .i64 nn, .slice q1 m1 k1, .slice q2 m2 k2, .int .i64 wa] 46)) #[.int .i64 0, .int .i64 0, .int .i64 0, .int .i64 0, .slice none 0 0, .slice none 0 0] 48; simpa using this
  have HB0 : Hid (Below W0.heap.size W0 w) := hB
  have HD0 : Hid (OwnD w W0.heap.size a1 a2 a3 a4 l1 l2 l3 l4 c1 c2 c3 c4 cs is hs rs) := hD
  have HQ : Hid (m1 = ws.length ∧ m2 = bs.length ∧ SlI W0 q1 ws ∧ SlB W0 q2 bs ∧ ws.length ≤ 2000000 ∧ bs.length ≤ 2000000) := ⟨hn, hn2, hq, hq2, hl, hl2⟩
  have HOK : Hid (okR 15 pl nn wa ws m1 m2 = true ∧ okD l1 l2 l3 l4 hs rs = true ∧ SmD 2000000 cs is hs rs ∧ LnD l1 l2 l3 l4 cs is hs rs) := ⟨hok, hd, hsm, hD.sl.1⟩
  have HA : Hid _ := hAll
  have HDO : Hid _ := hdo
  have BW : ∀ u : World, Below w.heap.size w u → Below W0.heap.size W0 u := fun u hu => HB0.out.trans (hu.mono HB0.out.size)
  obtain ⟨x0, x1, x2, x3⟩ := X0.four
  obtain ⟨y0, y1, y2, y3, y4, y5⟩ := Y0.six
  clear hz hB hD hn hn2 hq hq2 hl hl2 hok hd hsm hAll hdo
  go_enter Try.func42, Try.ntmps42
  go_upto_region 1 with fail
  rw [← HZ.out]
  go_wp2_with fail
  refine (implReqOk_q 15 pl nn wa q1 q2 m1 m2 k1 k2 ws bs _ HQ.out.1 HQ.out.2.1 (HQ.out.2.2.1.below (BW _ b0)) (HQ.out.2.2.2.1.below (BW _ b0)) HQ.out.2.2.2.2.1 HQ.out.2.2.2.2.2).mono ?_
  rintro e w1 ⟨he, b'⟩
  rw [HOK.out.1] at he
  subst he
  have b1 := bel_next b0 b'
  have X1 := X0.below b'
  have Y1 := Y0.below b'
  have R1 := R0.below b'
  clear x0 x1 x2 x3 y0 y1 y2 y3 y4 y5 X0 Y0 R0 b0 b'
  obtain ⟨x0, x1, x2, x3⟩ := X1.four
  obtain ⟨y0, y1, y2, y3, y4, y5⟩ := Y1.six
  go_wp2_with fail
  refine (implDeviceOk_any a1 a2 a3 a4 l1 l2 l3 l4 c1 c2 c3 c4 cs is hs rs _ HOK.out.2.2.2 (HD0.out.below b1).sl.2 HOK.out.2.2.1 _ HOK.out.2.1).mono ?_
  rintro e w2 ⟨rfl, b'⟩
  have b2 := bel_next b1 b'
  have X2 := X1.below b'
  have Y2 := Y1.below b'
  have R2 := R1.below b'
  clear x0 x1 x2 x3 y0 y1 y2 y3 y4 y5 X1 Y1 R1 b1 b'
  obtain ⟨x0, x1, x2, x3⟩ := X2.four
  obtain ⟨y0, y1, y2, y3, y4, y5⟩ := Y2.six
  go_wp2_with fail
  refine (HA.out _ (HQ.out.2.2.1.below (BW _ b2)) (HQ.out.2.2.2.1.below (BW _ b2))).mono ?_
  rintro e w3 ⟨rfl, b'⟩
  have b3 := bel_next b2 b'
  have X3 := X2.below b'
  have Y3 := Y2.below b'
  have R3 := R2.below b'
  clear x0 x1 x2 x3 y0 y1 y2 y3 y4 y5 X2 Y2 R2 b2 b'
  obtain ⟨x0, x1, x2, x3⟩ := X3.four
  obtain ⟨y0, y1, y2, y3, y4, y5⟩ := Y3.six
  go_upto_region 7 with fail
  have d3 : Below w3.heap.size w3 w3.drew := (Below.refl _ _).drew
  have hne2 : ¬ (w.heap.size = w.heap.size + 1 + 1) := by omega
  have hne3 : ¬ (w.heap.size + 1 + 1 = w.heap.size) := by omega
  go_region_held3 (fun w' => w'.cell? ⟨w.heap.size, 0, none⟩ = some (.slice a1 l1 c1) ∧ w'.cell? ⟨w.heap.size, 1, none⟩ = some (.slice a2 l2 c2) ∧ w'.cell? ⟨w.heap.size, 2, none⟩ = some (.slice a3 l3 c3) ∧ w'.cell? ⟨w.heap.size, 3, none⟩ = some (.slice a4 l4 c4) ∧ w'.cell? ⟨w.heap.size + 1, 0, none⟩ = some (.int .i64 15) ∧ w'.cell? ⟨w.heap.size + 1, 1, none⟩ = some (.int .i64 pl) ∧ w'.cell? ⟨w.heap.size + 1, 2, none⟩ = some (.int .i64 nn) ∧ w'.cell? ⟨w.heap.size + 1, 3, none⟩ = some (.slice q1 m1 k1) ∧ w'.cell? ⟨w.heap.size + 1, 4, none⟩ = some (.slice q2 m2 k2) ∧ w'.cell? ⟨w.heap.size + 1, 5, none⟩ = some (.int .i64 wa)) (go_keep)
    (first
      | (go_at_call 84; refine (deeds_any _).mono ?_; rintro e w4 ⟨rfl, hm4, b'⟩; have B4 : Below w3.heap.size w3 w4 := (by first | exact b' | exact bel_next d3 b'); have lk4 : (Instr.lookup 95 (.map (some w3.heap.size)) (.int .i64 15) false).run Try.prog w4 = .ok (.func (.func 107) #[] #[]) w4 := mp_get 15 (.func (.func 107) #[] #[]) 6 _ _ _ _ hm4 rfl; obtain ⟨x40, x41, x42, x43⟩ := (X3.below B4).four; obtain ⟨y40, y41, y42, y43, y44, y45⟩ := (Y3.below B4).six; clear b')
      | (go_at_call 107; refine (HDO.out _ (BW _ (by first | exact bel_next b3 B4 | exact (bel_next b3 B4).drew)) (HD0.out.below (by first | exact bel_next b3 B4 | exact (bel_next b3 B4).drew))).mono ?_; rintro e w5 ⟨r1, r2, n1, n2, e1, e2, rfl, o1, o2, o3, o4, o5⟩; have D4 := HD0.out.below (bel_next b3 B4); have X5 := (X3.below B4).chg o5 (D4.noBlk (X3.below B4) (by decide) (by decide)); have Y5 := (Y3.below B4).chg o5 (D4.noBlk (Y3.below B4) (by decide) (by decide)); have R5 := (R3.below B4).chg o5 (D4.noBlk (R3.below B4) (by decide) (by decide)); obtain ⟨x50, x51, x52, x53⟩ := X5.four; obtain ⟨y50, y51, y52, y53, y54, y55⟩ := Y5.six; obtain ⟨s0, s1, s2, s3, s4, s5⟩ := R5.six; have f0 := R5.fro 0; have f1 := R5.fro 1; have f2 := R5.fro 2; have f3 := R5.fro 3; have f4 := R5.fro 4; have f5 := R5.fro 5; have sz4 : w.heap.size ≤ w4.heap.size := (bel_next b3 B4).size; have HH : Hid (OwnI w5 w.heap.size (.slice r1 n1 e1) ws' ∧ OwnB w5 w.heap.size (.slice r2 n2 e2) bs' ∧ OwnD w5 W0.heap.size a1 a2 a3 a4 l1 l2 l3 l4 c1 c2 c3 c4 cs' is' hs' rs' ∧ Below W0.heap.size W0 w5 ∧ Chg w w5 (Of4 (.slice a1 l1 c1) (.slice a2 l2 c2) (.slice a3 l3 c3) (.slice a4 l4 c4)) ∧ ExB w5 (w.heap.size + 1 + 1) 48) := ⟨OwnI.mono o1 (by exact sz4), OwnB.mono o2 (by exact sz4), o3, o4, (Chg.ofBelow (bel_next b3 B4)).trans o5, ⟨_, R5⟩⟩; have HZ0 : Hid (W0.heap.size ≤ w.heap.size) := HB0.out.size; clear o1 o2 o3 o4 o5 D4 X5 Y5 R5))
  all_goals (
    go_wp2
    refine bodyPost_ret (v := rp 15 0 pl' nn' r1 r2 n1 n2 e1 e2) (by simp [results, Try.results42, go_sem, s0, s1, s2, s3, s4, s5]) rfl ?_
    obtain ⟨o1, o2, o3, o4, o5, o6⟩ := HH.out
    exact ⟨_, _, _, _, _, _, rfl, rowp_set6 o1 o6 (by decide), rowp_set6 o2 o6 (by decide), o3.set6 o6 (by decide) (by decide), belp_set6 o4 (by have := HZ0.out; omega), o5.set6 (by omega)⟩)

set_option maxRecDepth 20000 in
set_option maxHeartbeats 8000000 in
theorem serve_16 (a1 a2 a3 a4 : Option Addr) (l1 l2 l3 l4 c1 c2 c3 c4 : Nat) (cs is : List Bool) (hs rs : List Int) (pl nn wa : Int) (q1 q2 : Option Addr) (m1 m2 k1 k2 : Nat) (ws : List Int) (bs : List Bool) (W0 w : World) (hB : Below W0.heap.size W0 w) (hD : OwnD w W0.heap.size a1 a2 a3 a4 l1 l2 l3 l4 c1 c2 c3 c4 cs is hs rs) (hn : m1 = ws.length) (hn2 : m2 = bs.length) (hq : SlI W0 q1 ws) (hq2 : SlB W0 q2 bs) (hl : ws.length ≤ 2000000) (hl2 : bs.length ≤ 2000000) (hok : okR 16 pl nn wa ws m1 m2 = true) (hd : okD l1 l2 l3 l4 hs rs = true) (hsm : SmD 2000000 cs is hs rs)
    (cs' is' : List Bool) (hs' rs' : List Int) (ws' : List Int) (bs' : List Bool) (pl' nn' : Int)
    (hAll : ∀ w : World, SlI w q1 ws → SlB w q2 bs → Calls Try.prog 83 #[dv a1 a2 a3 a4 l1 l2 l3 l4 c1 c2 c3 c4, rq 16 pl nn wa q1 q2 m1 m2 k1 k2] w fun e w' => e = .returned (.bool true) ∧ Below w.heap.size w w')
    (hdo : ∀ w : World, Below W0.heap.size W0 w → OwnD w W0.heap.size a1 a2 a3 a4 l1 l2 l3 l4 c1 c2 c3 c4 cs is hs rs → Calls Try.prog 108 #[dv a1 a2 a3 a4 l1 l2 l3 l4 c1 c2 c3 c4, rq 16 pl nn wa q1 q2 m1 m2 k1 k2] w fun e w' => SV W0 w w' e a1 a2 a3 a4 l1 l2 l3 l4 c1 c2 c3 c4 cs' is' hs' rs' 16 0 pl' nn' ws' bs') :
    Calls Try.prog 42 #[dv a1 a2 a3 a4 l1 l2 l3 l4 c1 c2 c3 c4, rq 16 pl nn wa q1 q2 m1 m2 k1 k2] w fun e w' => SV W0 w w' e a1 a2 a3 a4 l1 l2 l3 l4 c1 c2 c3 c4 cs' is' hs' rs' 16 0 pl' nn' ws' bs' := by
  obtain ⟨z, hz⟩ : ∃ z, z = ((w.alloc (.cells #[.slice a1 l1 c1, .slice a2 l2 c2, .slice a3 l3 c3, .slice a4 l4 c4] 29)).alloc (.cells #[.int .i64 16, .int .i64 pl, .int .i64 nn, .slice q1 m1 k1, .slice q2 m2 k2, .int .i64 wa] 46)).alloc (.cells #[.int .i64 0, .int .i64 0, .int .i64 0, .int .i64 0, .slice none 0 0, .slice none 0 0] 48) := ⟨_, rfl⟩
  have HZ : Hid (z = _) := hz
  have b0 : Below w.heap.size w z := by rw [hz]; exact bel_next (bel_next (bel_alloc w _) (bel_alloc _ _)) (bel_alloc _ _)
  have X0 : Blk z w.heap.size 29 #[.slice a1 l1 c1, .slice a2 l2 c2, .slice a3 l3 c3, .slice a4 l4 c4] := by rw [hz]; exact ((Blk.new w _ _).below (bel_alloc _ _)).below (bel_alloc _ _)
  have Y0 : Blk z (w.heap.size + 1) 46 #[.int .i64 16, .int .i64 pl, .int .i64 nn, .slice q1 m1 k1, .slice q2 m2 k2, .int .i64 wa] := by rw [hz]; have := (Blk.new (w.alloc (.cells #[.slice a1 l1 c1, .slice a2 l2 c2, .slice a3 l3 c3, .slice a4 l4 c4] 29)) #[.int .i64 16, .int .i64 pl, .int .i64 nn, .slice q1 m1 k1, .slice q2 m2 k2, .int .i64 wa] 46).below (bel_alloc _ (.cells #[.int .i64 0, .int .i64 0, .int .i64 0, .int .i64 0, .slice none 0 0, .slice none 0 0] 48)); simpa using this
  have R0 : Blk z (w.heap.size + 1 + 1) 48 #[.int .i64 0, .int .i64 0, .int .i64 0, .int .i64 0, .slice none 0 0, .slice none 0 0] := by rw [hz]; have := Blk.new ((w.alloc (.cells #[.slice a1 l1 c1, .slice a2 l2 c2, .slice a3 l3 c3, .slice a4 l4 c4] 29)).alloc (.cells #[.int .i64 16, .int .i64 pl, .int .i64 nn, .slice q1 m1 k1, .slice q2 m2 k2, .int .i64 wa] 46)) #[.int .i64 0, .int .i64 0, .int .i64 0, .int .i64 0, .slice none 0 0, .slice none 0 0] 48; simpa using this
  have HB0 : Hid (Below W0.heap.size W0 w) := hB
  have HD0 : Hid (OwnD w W0.heap.size a1 a2 a3 a4 l1 l2 l3 l4 c1 c2 c3 c4 cs is hs rs) := hD
  have HQ : Hid (m1 = ws.length ∧ m2 = bs.length ∧ SlI W0 q1 ws ∧ SlB W0 q2 bs ∧ ws.length ≤ 2000000 ∧ bs.length ≤ 2000000) := ⟨hn, hn2, hq, hq2, hl, hl2⟩
  have HOK : Hid (okR 16 pl nn wa ws m1 m2 = true ∧ okD l1 l2 l3 l4 hs rs = true ∧ SmD 2000000 cs is hs rs ∧ LnD l1 l2 l3 l4 cs is hs rs) := ⟨hok, hd, hsm, hD.sl.1⟩
  have HA : Hid _ := hAll
  have HDO : Hid _ := hdo
  have BW : ∀ u : World, Below w.heap.size w u → Below W0.heap.size W0 u := fun u hu => HB0.out.trans (hu.mono HB0.out.size)
  obtain ⟨x0, x1, x2, x3⟩ := X0.four
  obtain ⟨y0, y1, y2, y3, y4, y5⟩ := Y0.six
  clear hz hB hD hn hn2 hq hq2 hl hl2 hok hd hsm hAll hdo
  go_enter Try.func42, Try.ntmps42
  go_upto_region 1 with fail
  rw [← HZ.out]
  go_wp2_with fail
  refine (implReqOk_q 16 pl nn wa q1 q2 m1 m2 k1 k2 ws bs _ HQ.out.1 HQ.out.2.1 (HQ.out.2.2.1.below (BW _ b0)) (HQ.out.2.2.2.1.below (BW _ b0)) HQ.out.2.2.2.2.1 HQ.out.2.2.2.2.2).mono ?_
  rintro e w1 ⟨he, b'⟩
  rw [HOK.out.1] at he
  subst he
  have b1 := bel_next b0 b'
  have X1 := X0.below b'
  have Y1 := Y0.below b'
  have R1 := R0.below b'
  clear x0 x1 x2 x3 y0 y1 y2 y3 y4 y5 X0 Y0 R0 b0 b'
  obtain ⟨x0, x1, x2, x3⟩ := X1.four
  obtain ⟨y0, y1, y2, y3, y4, y5⟩ := Y1.six
  go_wp2_with fail
  refine (implDeviceOk_any a1 a2 a3 a4 l1 l2 l3 l4 c1 c2 c3 c4 cs is hs rs _ HOK.out.2.2.2 (HD0.out.below b1).sl.2 HOK.out.2.2.1 _ HOK.out.2.1).mono ?_
  rintro e w2 ⟨rfl, b'⟩
  have b2 := bel_next b1 b'
  have X2 := X1.below b'
  have Y2 := Y1.below b'
  have R2 := R1.below b'
  clear x0 x1 x2 x3 y0 y1 y2 y3 y4 y5 X1 Y1 R1 b1 b'
  obtain ⟨x0, x1, x2, x3⟩ := X2.four
  obtain ⟨y0, y1, y2, y3, y4, y5⟩ := Y2.six
  go_wp2_with fail
  refine (HA.out _ (HQ.out.2.2.1.below (BW _ b2)) (HQ.out.2.2.2.1.below (BW _ b2))).mono ?_
  rintro e w3 ⟨rfl, b'⟩
  have b3 := bel_next b2 b'
  have X3 := X2.below b'
  have Y3 := Y2.below b'
  have R3 := R2.below b'
  clear x0 x1 x2 x3 y0 y1 y2 y3 y4 y5 X2 Y2 R2 b2 b'
  obtain ⟨x0, x1, x2, x3⟩ := X3.four
  obtain ⟨y0, y1, y2, y3, y4, y5⟩ := Y3.six
  go_upto_region 7 with fail
  have d3 : Below w3.heap.size w3 w3.drew := (Below.refl _ _).drew
  have hne2 : ¬ (w.heap.size = w.heap.size + 1 + 1) := by omega
  have hne3 : ¬ (w.heap.size + 1 + 1 = w.heap.size) := by omega
  go_region_held3 (fun w' => w'.cell? ⟨w.heap.size, 0, none⟩ = some (.slice a1 l1 c1) ∧ w'.cell? ⟨w.heap.size, 1, none⟩ = some (.slice a2 l2 c2) ∧ w'.cell? ⟨w.heap.size, 2, none⟩ = some (.slice a3 l3 c3) ∧ w'.cell? ⟨w.heap.size, 3, none⟩ = some (.slice a4 l4 c4) ∧ w'.cell? ⟨w.heap.size + 1, 0, none⟩ = some (.int .i64 16) ∧ w'.cell? ⟨w.heap.size + 1, 1, none⟩ = some (.int .i64 pl) ∧ w'.cell? ⟨w.heap.size + 1, 2, none⟩ = some (.int .i64 nn) ∧ w'.cell? ⟨w.heap.size + 1, 3, none⟩ = some (.slice q1 m1 k1) ∧ w'.cell? ⟨w.heap.size + 1, 4, none⟩ = some (.slice q2 m2 k2) ∧ w'.cell? ⟨w.heap.size + 1, 5, none⟩ = some (.int .i64 wa)) (go_keep)
    (first
      | (go_at_call 84; refine (deeds_any _).mono ?_; rintro e w4 ⟨rfl, hm4, b'⟩; have B4 : Below w3.heap.size w3 w4 := (by first | exact b' | exact bel_next d3 b'); have lk4 : (Instr.lookup 95 (.map (some w3.heap.size)) (.int .i64 16) false).run Try.prog w4 = .ok (.func (.func 108) #[] #[]) w4 := mp_get 16 (.func (.func 108) #[] #[]) 7 _ _ _ _ hm4 rfl; obtain ⟨x40, x41, x42, x43⟩ := (X3.below B4).four; obtain ⟨y40, y41, y42, y43, y44, y45⟩ := (Y3.below B4).six; clear b')
      | (go_at_call 108; refine (HDO.out _ (BW _ (by first | exact bel_next b3 B4 | exact (bel_next b3 B4).drew)) (HD0.out.below (by first | exact bel_next b3 B4 | exact (bel_next b3 B4).drew))).mono ?_; rintro e w5 ⟨r1, r2, n1, n2, e1, e2, rfl, o1, o2, o3, o4, o5⟩; have D4 := HD0.out.below (bel_next b3 B4); have X5 := (X3.below B4).chg o5 (D4.noBlk (X3.below B4) (by decide) (by decide)); have Y5 := (Y3.below B4).chg o5 (D4.noBlk (Y3.below B4) (by decide) (by decide)); have R5 := (R3.below B4).chg o5 (D4.noBlk (R3.below B4) (by decide) (by decide)); obtain ⟨x50, x51, x52, x53⟩ := X5.four; obtain ⟨y50, y51, y52, y53, y54, y55⟩ := Y5.six; obtain ⟨s0, s1, s2, s3, s4, s5⟩ := R5.six; have f0 := R5.fro 0; have f1 := R5.fro 1; have f2 := R5.fro 2; have f3 := R5.fro 3; have f4 := R5.fro 4; have f5 := R5.fro 5; have sz4 : w.heap.size ≤ w4.heap.size := (bel_next b3 B4).size; have HH : Hid (OwnI w5 w.heap.size (.slice r1 n1 e1) ws' ∧ OwnB w5 w.heap.size (.slice r2 n2 e2) bs' ∧ OwnD w5 W0.heap.size a1 a2 a3 a4 l1 l2 l3 l4 c1 c2 c3 c4 cs' is' hs' rs' ∧ Below W0.heap.size W0 w5 ∧ Chg w w5 (Of4 (.slice a1 l1 c1) (.slice a2 l2 c2) (.slice a3 l3 c3) (.slice a4 l4 c4)) ∧ ExB w5 (w.heap.size + 1 + 1) 48) := ⟨OwnI.mono o1 (by exact sz4), OwnB.mono o2 (by exact sz4), o3, o4, (Chg.ofBelow (bel_next b3 B4)).trans o5, ⟨_, R5⟩⟩; have HZ0 : Hid (W0.heap.size ≤ w.heap.size) := HB0.out.size; clear o1 o2 o3 o4 o5 D4 X5 Y5 R5))
  all_goals (
    go_wp2
    refine bodyPost_ret (v := rp 16 0 pl' nn' r1 r2 n1 n2 e1 e2) (by simp [results, Try.results42, go_sem, s0, s1, s2, s3, s4, s5]) rfl ?_
    obtain ⟨o1, o2, o3, o4, o5, o6⟩ := HH.out
    exact ⟨_, _, _, _, _, _, rfl, rowp_set6 o1 o6 (by decide), rowp_set6 o2 o6 (by decide), o3.set6 o6 (by decide) (by decide), belp_set6 o4 (by have := HZ0.out; omega), o5.set6 (by omega)⟩)

set_option maxRecDepth 20000 in
set_option maxHeartbeats 8000000 in
theorem serve_23 (a1 a2 a3 a4 : Option Addr) (l1 l2 l3 l4 c1 c2 c3 c4 : Nat) (cs is : List Bool) (hs rs : List Int) (pl nn wa : Int) (q1 q2 : Option Addr) (m1 m2 k1 k2 : Nat) (ws : List Int) (bs : List Bool) (W0 w : World) (hB : Below W0.heap.size W0 w) (hD : OwnD w W0.heap.size a1 a2 a3 a4 l1 l2 l3 l4 c1 c2 c3 c4 cs is hs rs) (hn : m1 = ws.length) (hn2 : m2 = bs.length) (hq : SlI W0 q1 ws) (hq2 : SlB W0 q2 bs) (hl : ws.length ≤ 2000000) (hl2 : bs.length ≤ 2000000) (hok : okR 23 pl nn wa ws m1 m2 = true) (hd : okD l1 l2 l3 l4 hs rs = true) (hsm : SmD 2000000 cs is hs rs)
    (cs' is' : List Bool) (hs' rs' : List Int) (ws' : List Int) (bs' : List Bool) (pl' nn' : Int)
    (hAll : ∀ w : World, SlI w q1 ws → SlB w q2 bs → Calls Try.prog 83 #[dv a1 a2 a3 a4 l1 l2 l3 l4 c1 c2 c3 c4, rq 23 pl nn wa q1 q2 m1 m2 k1 k2] w fun e w' => e = .returned (.bool true) ∧ Below w.heap.size w w')
    (hdo : ∀ w : World, Below W0.heap.size W0 w → OwnD w W0.heap.size a1 a2 a3 a4 l1 l2 l3 l4 c1 c2 c3 c4 cs is hs rs → Calls Try.prog 110 #[dv a1 a2 a3 a4 l1 l2 l3 l4 c1 c2 c3 c4, rq 23 pl nn wa q1 q2 m1 m2 k1 k2] w fun e w' => SV W0 w w' e a1 a2 a3 a4 l1 l2 l3 l4 c1 c2 c3 c4 cs' is' hs' rs' 23 0 pl' nn' ws' bs') :
    Calls Try.prog 42 #[dv a1 a2 a3 a4 l1 l2 l3 l4 c1 c2 c3 c4, rq 23 pl nn wa q1 q2 m1 m2 k1 k2] w fun e w' => SV W0 w w' e a1 a2 a3 a4 l1 l2 l3 l4 c1 c2 c3 c4 cs' is' hs' rs' 23 0 pl' nn' ws' bs' := by
  obtain ⟨z, hz⟩ : ∃ z, z = ((w.alloc (.cells #[.slice a1 l1 c1, .slice a2 l2 c2, .slice a3 l3 c3, .slice a4 l4 c4] 29)).alloc (.cells #[.int .i64 23, .int .i64 pl, .int .i64 nn, .slice q1 m1 k1, .slice q2 m2 k2, .int .i64 wa] 46)).alloc (.cells #[.int .i64 0, .int .i64 0, .int .i64 0, .int .i64 0, .slice none 0 0, .slice none 0 0] 48) := ⟨_, rfl⟩
  have HZ : Hid (z = _) := hz
  have b0 : Below w.heap.size w z := by rw [hz]; exact bel_next (bel_next (bel_alloc w _) (bel_alloc _ _)) (bel_alloc _ _)
  have X0 : Blk z w.heap.size 29 #[.slice a1 l1 c1, .slice a2 l2 c2, .slice a3 l3 c3, .slice a4 l4 c4] := by rw [hz]; exact ((Blk.new w _ _).below (bel_alloc _ _)).below (bel_alloc _ _)
  have Y0 : Blk z (w.heap.size + 1) 46 #[.int .i64 23, .int .i64 pl, .int .i64 nn, .slice q1 m1 k1, .slice q2 m2 k2, .int .i64 wa] := by rw [hz]; have := (Blk.new (w.alloc (.cells #[.slice a1 l1 c1, .slice a2 l2 c2, .slice a3 l3 c3, .slice a4 l4 c4] 29)) #[.int .i64 23, .int .i64 pl, .int .i64 nn, .slice q1 m1 k1, .slice q2 m2 k2, .int .i64 wa] 46).below (bel_alloc _ (.cells #[.int .i64 0, .int .i64 0, .int .i64 0, .int .i64 0, .slice none 0 0, .slice none 0 0] 48)); simpa using this
  have R0 : Blk z (w.heap.size + 1 + 1) 48 #[.int .i64 0, .int .i64 0, .int .i64 0, .int .i64 0, .slice none 0 0, .slice none 0 0] := by rw [hz]; have := Blk.new ((w.alloc (.cells #[.slice a1 l1 c1, .slice a2 l2 c2, .slice a3 l3 c3, .slice a4 l4 c4] 29)).alloc (.cells #[.int .i64 23, .int .i64 pl, .int .i64 nn, .slice q1 m1 k1, .slice q2 m2 k2, .int .i64 wa] 46)) #[.int .i64 0, .int .i64 0, .int .i64 0, .int .i64 0, .slice none 0 0, .slice none 0 0] 48; simpa using this
  have HB0 : Hid (Below W0.heap.size W0 w) := hB
  have HD0 : Hid (OwnD w W0.heap.size a1 a2 a3 a4 l1 l2 l3 l4 c1 c2 c3 c4 cs is hs rs) := hD
  have HQ : Hid (m1 = ws.length ∧ m2 = bs.length ∧ SlI W0 q1 ws ∧ SlB W0 q2 bs ∧ ws.length ≤ 2000000 ∧ bs.length ≤ 2000000) := ⟨hn, hn2, hq, hq2, hl, hl2⟩
  have HOK : Hid (okR 23 pl nn wa ws m1 m2 = true ∧ okD l1 l2 l3 l4 hs rs = true ∧ SmD 2000000 cs is hs rs ∧ LnD l1 l2 l3 l4 cs is hs rs) := ⟨hok, hd, hsm, hD.sl.1⟩
  have HA : Hid _ := hAll
  have HDO : Hid _ := hdo
  have BW : ∀ u : World, Below w.heap.size w u → Below W0.heap.size W0 u := fun u hu => HB0.out.trans (hu.mono HB0.out.size)
  obtain ⟨x0, x1, x2, x3⟩ := X0.four
  obtain ⟨y0, y1, y2, y3, y4, y5⟩ := Y0.six
  clear hz hB hD hn hn2 hq hq2 hl hl2 hok hd hsm hAll hdo
  go_enter Try.func42, Try.ntmps42
  go_upto_region 1 with fail
  rw [← HZ.out]
  go_wp2_with fail
  refine (implReqOk_q 23 pl nn wa q1 q2 m1 m2 k1 k2 ws bs _ HQ.out.1 HQ.out.2.1 (HQ.out.2.2.1.below (BW _ b0)) (HQ.out.2.2.2.1.below (BW _ b0)) HQ.out.2.2.2.2.1 HQ.out.2.2.2.2.2).mono ?_
  rintro e w1 ⟨he, b'⟩
  rw [HOK.out.1] at he
  subst he
  have b1 := bel_next b0 b'
  have X1 := X0.below b'
  have Y1 := Y0.below b'
  have R1 := R0.below b'
  clear x0 x1 x2 x3 y0 y1 y2 y3 y4 y5 X0 Y0 R0 b0 b'
  obtain ⟨x0, x1, x2, x3⟩ := X1.four
  obtain ⟨y0, y1, y2, y3, y4, y5⟩ := Y1.six
  go_wp2_with fail
  refine (implDeviceOk_any a1 a2 a3 a4 l1 l2 l3 l4 c1 c2 c3 c4 cs is hs rs _ HOK.out.2.2.2 (HD0.out.below b1).sl.2 HOK.out.2.2.1 _ HOK.out.2.1).mono ?_
  rintro e w2 ⟨rfl, b'⟩
  have b2 := bel_next b1 b'
  have X2 := X1.below b'
  have Y2 := Y1.below b'
  have R2 := R1.below b'
  clear x0 x1 x2 x3 y0 y1 y2 y3 y4 y5 X1 Y1 R1 b1 b'
  obtain ⟨x0, x1, x2, x3⟩ := X2.four
  obtain ⟨y0, y1, y2, y3, y4, y5⟩ := Y2.six
  go_wp2_with fail
  refine (HA.out _ (HQ.out.2.2.1.below (BW _ b2)) (HQ.out.2.2.2.1.below (BW _ b2))).mono ?_
  rintro e w3 ⟨rfl, b'⟩
  have b3 := bel_next b2 b'
  have X3 := X2.below b'
  have Y3 := Y2.below b'
  have R3 := R2.below b'
  clear x0 x1 x2 x3 y0 y1 y2 y3 y4 y5 X2 Y2 R2 b2 b'
  obtain ⟨x0, x1, x2, x3⟩ := X3.four
  obtain ⟨y0, y1, y2, y3, y4, y5⟩ := Y3.six
  go_upto_region 7 with fail
  have d3 : Below w3.heap.size w3 w3.drew := (Below.refl _ _).drew
  have hne2 : ¬ (w.heap.size = w.heap.size + 1 + 1) := by omega
  have hne3 : ¬ (w.heap.size + 1 + 1 = w.heap.size) := by omega
  go_region_held3 (fun w' => w'.cell? ⟨w.heap.size, 0, none⟩ = some (.slice a1 l1 c1) ∧ w'.cell? ⟨w.heap.size, 1, none⟩ = some (.slice a2 l2 c2) ∧ w'.cell? ⟨w.heap.size, 2, none⟩ = some (.slice a3 l3 c3) ∧ w'.cell? ⟨w.heap.size, 3, none⟩ = some (.slice a4 l4 c4) ∧ w'.cell? ⟨w.heap.size + 1, 0, none⟩ = some (.int .i64 23) ∧ w'.cell? ⟨w.heap.size + 1, 1, none⟩ = some (.int .i64 pl) ∧ w'.cell? ⟨w.heap.size + 1, 2, none⟩ = some (.int .i64 nn) ∧ w'.cell? ⟨w.heap.size + 1, 3, none⟩ = some (.slice q1 m1 k1) ∧ w'.cell? ⟨w.heap.size + 1, 4, none⟩ = some (.slice q2 m2 k2) ∧ w'.cell? ⟨w.heap.size + 1, 5, none⟩ = some (.int .i64 wa)) (go_keep)
    (first
      | (go_at_call 84; refine (deeds_any _).mono ?_; rintro e w4 ⟨rfl, hm4, b'⟩; have B4 : Below w3.heap.size w3 w4 := (by first | exact b' | exact bel_next d3 b'); have lk4 : (Instr.lookup 95 (.map (some w3.heap.size)) (.int .i64 23) false).run Try.prog w4 = .ok (.func (.func 110) #[] #[]) w4 := mp_get 23 (.func (.func 110) #[] #[]) 9 _ _ _ _ hm4 rfl; obtain ⟨x40, x41, x42, x43⟩ := (X3.below B4).four; obtain ⟨y40, y41, y42, y43, y44, y45⟩ := (Y3.below B4).six; clear b')
      | (go_at_call 110; refine (HDO.out _ (BW _ (by first | exact bel_next b3 B4 | exact (bel_next b3 B4).drew)) (HD0.out.below (by first | exact bel_next b3 B4 | exact (bel_next b3 B4).drew))).mono ?_; rintro e w5 ⟨r1, r2, n1, n2, e1, e2, rfl, o1, o2, o3, o4, o5⟩; have D4 := HD0.out.below (bel_next b3 B4); have X5 := (X3.below B4).chg o5 (D4.noBlk (X3.below B4) (by decide) (by decide)); have Y5 := (Y3.below B4).chg o5 (D4.noBlk (Y3.below B4) (by decide) (by decide)); have R5 := (R3.below B4).chg o5 (D4.noBlk (R3.below B4) (by decide) (by decide)); obtain ⟨x50, x51, x52, x53⟩ := X5.four; obtain ⟨y50, y51, y52, y53, y54, y55⟩ := Y5.six; obtain ⟨s0, s1, s2, s3, s4, s5⟩ := R5.six; have f0 := R5.fro 0; have f1 := R5.fro 1; have f2 := R5.fro 2; have f3 := R5.fro 3; have f4 := R5.fro 4; have f5 := R5.fro 5; have sz4 : w.heap.size ≤ w4.heap.size := (bel_next b3 B4).size; have HH : Hid (OwnI w5 w.heap.size (.slice r1 n1 e1) ws' ∧ OwnB w5 w.heap.size (.slice r2 n2 e2) bs' ∧ OwnD w5 W0.heap.size a1 a2 a3 a4 l1 l2 l3 l4 c1 c2 c3 c4 cs' is' hs' rs' ∧ Below W0.heap.size W0 w5 ∧ Chg w w5 (Of4 (.slice a1 l1 c1) (.slice a2 l2 c2) (.slice a3 l3 c3) (.slice a4 l4 c4)) ∧ ExB w5 (w.heap.size + 1 + 1) 48) := ⟨OwnI.mono o1 (by exact sz4), OwnB.mono o2 (by exact sz4), o3, o4, (Chg.ofBelow (bel_next b3 B4)).trans o5, ⟨_, R5⟩⟩; have HZ0 : Hid (W0.heap.size ≤ w.heap.size) := HB0.out.size; clear o1 o2 o3 o4 o5 D4 X5 Y5 R5))
  all_goals (
    go_wp2
    refine bodyPost_ret (v := rp 23 0 pl' nn' r1 r2 n1 n2 e1 e2) (by simp [results, Try.results42, go_sem, s0, s1, s2, s3, s4, s5]) rfl ?_
    obtain ⟨o1, o2, o3, o4, o5, o6⟩ := HH.out
    exact ⟨_, _, _, _, _, _, rfl, rowp_set6 o1 o6 (by decide), rowp_set6 o2 o6 (by decide), o3.set6 o6 (by decide) (by decide), belp_set6 o4 (by have := HZ0.out; omega), o5.set6 (by omega)⟩)

end Go.Proofs.Ytcnbbknmofonkaa

namespace Go.Proofs.Ytcnbbknmofonkaa
open Go.RowKit

set_option linter.unusedVariables false

set_option linter.unusedSimpArgs false

set_option maxRecDepth 20000 in
set_option maxHeartbeats 2000000 in
theorem serve_no (a1 a2 a3 a4 : Option Addr) (l1 l2 l3 l4 c1 c2 c3 c4 : Nat) (cs is : List Bool) (hs rs : List Int) (kd pl nn wa : Int) (q1 q2 : Option Addr) (m1 m2 k1 k2 : Nat) (ws : List Int) (bs : List Bool) (W0 w : World) (hB : Below W0.heap.size W0 w) (hD : OwnD w W0.heap.size a1 a2 a3 a4 l1 l2 l3 l4 c1 c2 c3 c4 cs is hs rs) (hn : m1 = ws.length) (hn2 : m2 = bs.length) (hq : SlI W0 q1 ws) (hq2 : SlB W0 q2 bs) (hl : ws.length ≤ 2000000) (hl2 : bs.length ≤ 2000000) (hsm : SmD 2000000 cs is hs rs) (hok : okR kd pl nn wa ws m1 m2 = false)
    : Calls Try.prog 42 #[dv a1 a2 a3 a4 l1 l2 l3 l4 c1 c2 c3 c4, rq kd pl nn wa q1 q2 m1 m2 k1 k2] w fun e w' => SV W0 w w' e a1 a2 a3 a4 l1 l2 l3 l4 c1 c2 c3 c4 cs is hs rs 0 0 0 0 [] [] := by
  obtain ⟨z, hz⟩ : ∃ z, z = ((w.alloc (.cells #[.slice a1 l1 c1, .slice a2 l2 c2, .slice a3 l3 c3, .slice a4 l4 c4] 29)).alloc (.cells #[.int .i64 kd, .int .i64 pl, .int .i64 nn, .slice q1 m1 k1, .slice q2 m2 k2, .int .i64 wa] 46)).alloc (.cells #[.int .i64 0, .int .i64 0, .int .i64 0, .int .i64 0, .slice none 0 0, .slice none 0 0] 48) := ⟨_, rfl⟩
  have HZ : Hid (z = _) := hz
  have b0 : Below w.heap.size w z := by rw [hz]; exact bel_next (bel_next (bel_alloc w _) (bel_alloc _ _)) (bel_alloc _ _)
  have X0 : Blk z w.heap.size 29 #[.slice a1 l1 c1, .slice a2 l2 c2, .slice a3 l3 c3, .slice a4 l4 c4] := by rw [hz]; exact ((Blk.new w _ _).below (bel_alloc _ _)).below (bel_alloc _ _)
  have Y0 : Blk z (w.heap.size + 1) 46 #[.int .i64 kd, .int .i64 pl, .int .i64 nn, .slice q1 m1 k1, .slice q2 m2 k2, .int .i64 wa] := by rw [hz]; have := (Blk.new (w.alloc (.cells #[.slice a1 l1 c1, .slice a2 l2 c2, .slice a3 l3 c3, .slice a4 l4 c4] 29)) #[.int .i64 kd, .int .i64 pl, .int .i64 nn, .slice q1 m1 k1, .slice q2 m2 k2, .int .i64 wa] 46).below (bel_alloc _ (.cells #[.int .i64 0, .int .i64 0, .int .i64 0, .int .i64 0, .slice none 0 0, .slice none 0 0] 48)); simpa using this
  have R0 : Blk z (w.heap.size + 1 + 1) 48 #[.int .i64 0, .int .i64 0, .int .i64 0, .int .i64 0, .slice none 0 0, .slice none 0 0] := by rw [hz]; have := Blk.new ((w.alloc (.cells #[.slice a1 l1 c1, .slice a2 l2 c2, .slice a3 l3 c3, .slice a4 l4 c4] 29)).alloc (.cells #[.int .i64 kd, .int .i64 pl, .int .i64 nn, .slice q1 m1 k1, .slice q2 m2 k2, .int .i64 wa] 46)) #[.int .i64 0, .int .i64 0, .int .i64 0, .int .i64 0, .slice none 0 0, .slice none 0 0] 48; simpa using this
  have HB0 : Hid (Below W0.heap.size W0 w) := hB
  have HD0 : Hid (OwnD w W0.heap.size a1 a2 a3 a4 l1 l2 l3 l4 c1 c2 c3 c4 cs is hs rs) := hD
  have HQ : Hid (m1 = ws.length ∧ m2 = bs.length ∧ SlI W0 q1 ws ∧ SlB W0 q2 bs ∧ ws.length ≤ 2000000 ∧ bs.length ≤ 2000000) := ⟨hn, hn2, hq, hq2, hl, hl2⟩
  have HOK : Hid _ := hok
  have HSM : Hid (SmD 2000000 cs is hs rs ∧ LnD l1 l2 l3 l4 cs is hs rs) := ⟨hsm, hD.sl.1⟩
  have BW : ∀ u : World, Below w.heap.size w u → Below W0.heap.size W0 u := fun u hu => HB0.out.trans (hu.mono HB0.out.size)
  obtain ⟨x0, x1, x2, x3⟩ := X0.four
  obtain ⟨y0, y1, y2, y3, y4, y5⟩ := Y0.six
  clear hz hB hD hn hn2 hq hq2 hl hl2 hok hsm
  go_enter Try.func42, Try.ntmps42
  go_upto_region 1 with fail
  rw [← HZ.out]
  go_wp2_with fail
  refine (implReqOk_q kd pl nn wa q1 q2 m1 m2 k1 k2 ws bs _ HQ.out.1 HQ.out.2.1 (HQ.out.2.2.1.below (BW _ b0)) (HQ.out.2.2.2.1.below (BW _ b0)) HQ.out.2.2.2.2.1 HQ.out.2.2.2.2.2).mono ?_
  rintro e w1 ⟨he, b'⟩
  rw [HOK.out] at he
  subst he
  have b1 := bel_next b0 b'
  have X1 := X0.below b'
  have Y1 := Y0.below b'
  have R1 := R0.below b'
  clear x0 x1 x2 x3 y0 y1 y2 y3 y4 y5 X0 Y0 R0 b0 b'
  obtain ⟨x0, x1, x2, x3⟩ := X1.four
  obtain ⟨y0, y1, y2, y3, y4, y5⟩ := Y1.six
  obtain ⟨s0, s1, s2, s3, s4, s5⟩ := R1.six
  have f0 := R1.fro 0
  have f1 := R1.fro 1
  have f2 := R1.fro 2
  have f3 := R1.fro 3
  have f4 := R1.fro 4
  have f5 := R1.fro 5
  have HR : Hid (ExB _ (w.heap.size + 1 + 1) 48) := ⟨_, R1⟩
  have HB : Hid (Below w.heap.size w _) := b1
  have HZ0 : Hid (W0.heap.size ≤ w.heap.size) := HB0.out.size
  go_wp2_with fail
  refine bodyPost_ret (v := rp 0 0 0 0 none none 0 0 0 0) (by simp [results, Try.results42, go_sem, s0, s1, s2, s3, s4, s5]) rfl ?_
  exact ⟨_, _, _, _, _, _, rfl, ownI_nil0 _ _, ownB_nil0 _ _, (HD0.out.below HB.out).set6 HR.out (by decide) (by decide), belp_set6 (BW _ HB.out) (by have := HZ0.out; omega), (Chg.ofBelow HB.out).set6 (by omega)⟩

set_option maxRecDepth 20000 in
set_option maxHeartbeats 2000000 in
theorem serve_dev (a1 a2 a3 a4 : Option Addr) (l1 l2 l3 l4 c1 c2 c3 c4 : Nat) (cs is : List Bool) (hs rs : List Int) (kd pl nn wa : Int) (q1 q2 : Option Addr) (m1 m2 k1 k2 : Nat) (ws : List Int) (bs : List Bool) (W0 w : World) (hB : Below W0.heap.size W0 w) (hD : OwnD w W0.heap.size a1 a2 a3 a4 l1 l2 l3 l4 c1 c2 c3 c4 cs is hs rs) (hn : m1 = ws.length) (hn2 : m2 = bs.length) (hq : SlI W0 q1 ws) (hq2 : SlB W0 q2 bs) (hl : ws.length ≤ 2000000) (hl2 : bs.length ≤ 2000000) (hsm : SmD 2000000 cs is hs rs) (hok : okR kd pl nn wa ws m1 m2 = true) (hd : okD l1 l2 l3 l4 hs rs = false)
    : Calls Try.prog 42 #[dv a1 a2 a3 a4 l1 l2 l3 l4 c1 c2 c3 c4, rq kd pl nn wa q1 q2 m1 m2 k1 k2] w fun e w' => SV W0 w w' e a1 a2 a3 a4 l1 l2 l3 l4 c1 c2 c3 c4 cs is hs rs kd 4 0 0 [] [] := by
  obtain ⟨z, hz⟩ : ∃ z, z = ((w.alloc (.cells #[.slice a1 l1 c1, .slice a2 l2 c2, .slice a3 l3 c3, .slice a4 l4 c4] 29)).alloc (.cells #[.int .i64 kd, .int .i64 pl, .int .i64 nn, .slice q1 m1 k1, .slice q2 m2 k2, .int .i64 wa] 46)).alloc (.cells #[.int .i64 0, .int .i64 0, .int .i64 0, .int .i64 0, .slice none 0 0, .slice none 0 0] 48) := ⟨_, rfl⟩
  have HZ : Hid (z = _) := hz
  have b0 : Below w.heap.size w z := by rw [hz]; exact bel_next (bel_next (bel_alloc w _) (bel_alloc _ _)) (bel_alloc _ _)
  have X0 : Blk z w.heap.size 29 #[.slice a1 l1 c1, .slice a2 l2 c2, .slice a3 l3 c3, .slice a4 l4 c4] := by rw [hz]; exact ((Blk.new w _ _).below (bel_alloc _ _)).below (bel_alloc _ _)
  have Y0 : Blk z (w.heap.size + 1) 46 #[.int .i64 kd, .int .i64 pl, .int .i64 nn, .slice q1 m1 k1, .slice q2 m2 k2, .int .i64 wa] := by rw [hz]; have := (Blk.new (w.alloc (.cells #[.slice a1 l1 c1, .slice a2 l2 c2, .slice a3 l3 c3, .slice a4 l4 c4] 29)) #[.int .i64 kd, .int .i64 pl, .int .i64 nn, .slice q1 m1 k1, .slice q2 m2 k2, .int .i64 wa] 46).below (bel_alloc _ (.cells #[.int .i64 0, .int .i64 0, .int .i64 0, .int .i64 0, .slice none 0 0, .slice none 0 0] 48)); simpa using this
  have R0 : Blk z (w.heap.size + 1 + 1) 48 #[.int .i64 0, .int .i64 0, .int .i64 0, .int .i64 0, .slice none 0 0, .slice none 0 0] := by rw [hz]; have := Blk.new ((w.alloc (.cells #[.slice a1 l1 c1, .slice a2 l2 c2, .slice a3 l3 c3, .slice a4 l4 c4] 29)).alloc (.cells #[.int .i64 kd, .int .i64 pl, .int .i64 nn, .slice q1 m1 k1, .slice q2 m2 k2, .int .i64 wa] 46)) #[.int .i64 0, .int .i64 0, .int .i64 0, .int .i64 0, .slice none 0 0, .slice none 0 0] 48; simpa using this
  have HB0 : Hid (Below W0.heap.size W0 w) := hB
  have HD0 : Hid (OwnD w W0.heap.size a1 a2 a3 a4 l1 l2 l3 l4 c1 c2 c3 c4 cs is hs rs) := hD
  have HQ : Hid (m1 = ws.length ∧ m2 = bs.length ∧ SlI W0 q1 ws ∧ SlB W0 q2 bs ∧ ws.length ≤ 2000000 ∧ bs.length ≤ 2000000) := ⟨hn, hn2, hq, hq2, hl, hl2⟩
  have HOK : Hid _ := hok
  have HSM : Hid (SmD 2000000 cs is hs rs ∧ LnD l1 l2 l3 l4 cs is hs rs) := ⟨hsm, hD.sl.1⟩
  have BW : ∀ u : World, Below w.heap.size w u → Below W0.heap.size W0 u := fun u hu => HB0.out.trans (hu.mono HB0.out.size)
  obtain ⟨x0, x1, x2, x3⟩ := X0.four
  obtain ⟨y0, y1, y2, y3, y4, y5⟩ := Y0.six
  have HDK : Hid _ := hd
  clear hz hB hD hn hn2 hq hq2 hl hl2 hok hsm hd
  go_enter Try.func42, Try.ntmps42
  go_upto_region 1 with fail
  rw [← HZ.out]
  go_wp2_with fail
  refine (implReqOk_q kd pl nn wa q1 q2 m1 m2 k1 k2 ws bs _ HQ.out.1 HQ.out.2.1 (HQ.out.2.2.1.below (BW _ b0)) (HQ.out.2.2.2.1.below (BW _ b0)) HQ.out.2.2.2.2.1 HQ.out.2.2.2.2.2).mono ?_
  rintro e w1 ⟨he, b'⟩
  rw [HOK.out] at he
  subst he
  have b1 := bel_next b0 b'
  have X1 := X0.below b'
  have Y1 := Y0.below b'
  have R1 := R0.below b'
  clear x0 x1 x2 x3 y0 y1 y2 y3 y4 y5 X0 Y0 R0 b0 b'
  obtain ⟨x0, x1, x2, x3⟩ := X1.four
  obtain ⟨y0, y1, y2, y3, y4, y5⟩ := Y1.six
  go_wp2_with fail
  refine (implDeviceOk_any a1 a2 a3 a4 l1 l2 l3 l4 c1 c2 c3 c4 cs is hs rs _ HSM.out.2 (HD0.out.below b1).sl.2 HSM.out.1 _ HDK.out).mono ?_
  rintro e w2 ⟨rfl, b'⟩
  have b2 := bel_next b1 b'
  have X2 := X1.below b'
  have Y2 := Y1.below b'
  have R2 := R1.below b'
  clear x0 x1 x2 x3 y0 y1 y2 y3 y4 y5 X1 Y1 R1 b1 b'
  obtain ⟨x0, x1, x2, x3⟩ := X2.four
  obtain ⟨y0, y1, y2, y3, y4, y5⟩ := Y2.six
  go_wp2_with fail
  refine (implFaultOf_q kd pl nn wa q1 q2 m1 m2 k1 k2 ws bs _ _ HQ.out.1 HQ.out.2.1 (HQ.out.2.2.1.below (BW _ b2)) (HQ.out.2.2.2.1.below (BW _ b2)) HQ.out.2.2.2.2.1 HQ.out.2.2.2.2.2).mono ?_
  rintro e w5 ⟨he, b'⟩
  rw [HOK.out] at he
  have he' : e = .returned (rp kd 4 0 0 none none 0 0 0 0) := he
  subst he'
  clear he
  have b5 := bel_next b2 b'
  have R5 := R2.below b'
  clear x0 x1 x2 x3 y0 y1 y2 y3 y4 y5
  obtain ⟨s0, s1, s2, s3, s4, s5⟩ := R5.six
  have f0 := R5.fro 0
  have f1 := R5.fro 1
  have f2 := R5.fro 2
  have f3 := R5.fro 3
  have f4 := R5.fro 4
  have f5 := R5.fro 5
  have HR : Hid (ExB _ (w.heap.size + 1 + 1) 48) := ⟨_, R5⟩
  have HB : Hid (Below w.heap.size w _) := b5
  have HZ0 : Hid (W0.heap.size ≤ w.heap.size) := HB0.out.size
  go_wp2_with fail
  refine bodyPost_ret (v := rp kd 4 0 0 none none 0 0 0 0) (by simp [results, Try.results42, go_sem, s0, s1, s2, s3, s4, s5]) rfl ?_
  exact ⟨_, _, _, _, _, _, rfl, ownI_nil0 _ _, ownB_nil0 _ _, (HD0.out.below HB.out).set6 HR.out (by decide) (by decide), belp_set6 (BW _ HB.out) (by have := HZ0.out; omega), (Chg.ofBelow HB.out).set6 (by omega)⟩

set_option maxRecDepth 20000 in
set_option maxHeartbeats 2000000 in
theorem serve_at (a1 a2 a3 a4 : Option Addr) (l1 l2 l3 l4 c1 c2 c3 c4 : Nat) (cs is : List Bool) (hs rs : List Int) (kd pl nn wa : Int) (q1 q2 : Option Addr) (m1 m2 k1 k2 : Nat) (ws : List Int) (bs : List Bool) (W0 w : World) (hB : Below W0.heap.size W0 w) (hD : OwnD w W0.heap.size a1 a2 a3 a4 l1 l2 l3 l4 c1 c2 c3 c4 cs is hs rs) (hn : m1 = ws.length) (hn2 : m2 = bs.length) (hq : SlI W0 q1 ws) (hq2 : SlB W0 q2 bs) (hl : ws.length ≤ 2000000) (hl2 : bs.length ≤ 2000000) (hsm : SmD 2000000 cs is hs rs) (hok : okR kd pl nn wa ws m1 m2 = true) (hd : okD l1 l2 l3 l4 hs rs = true)
    (hAll : ∀ w : World, SlI w q1 ws → SlB w q2 bs → Calls Try.prog 83 #[dv a1 a2 a3 a4 l1 l2 l3 l4 c1 c2 c3 c4, rq kd pl nn wa q1 q2 m1 m2 k1 k2] w fun e w' => e = .returned (.bool false) ∧ Below w.heap.size w w')
    : Calls Try.prog 42 #[dv a1 a2 a3 a4 l1 l2 l3 l4 c1 c2 c3 c4, rq kd pl nn wa q1 q2 m1 m2 k1 k2] w fun e w' => SV W0 w w' e a1 a2 a3 a4 l1 l2 l3 l4 c1 c2 c3 c4 cs is hs rs kd 2 0 0 [] [] := by
  obtain ⟨z, hz⟩ : ∃ z, z = ((w.alloc (.cells #[.slice a1 l1 c1, .slice a2 l2 c2, .slice a3 l3 c3, .slice a4 l4 c4] 29)).alloc (.cells #[.int .i64 kd, .int .i64 pl, .int .i64 nn, .slice q1 m1 k1, .slice q2 m2 k2, .int .i64 wa] 46)).alloc (.cells #[.int .i64 0, .int .i64 0, .int .i64 0, .int .i64 0, .slice none 0 0, .slice none 0 0] 48) := ⟨_, rfl⟩
  have HZ : Hid (z = _) := hz
  have b0 : Below w.heap.size w z := by rw [hz]; exact bel_next (bel_next (bel_alloc w _) (bel_alloc _ _)) (bel_alloc _ _)
  have X0 : Blk z w.heap.size 29 #[.slice a1 l1 c1, .slice a2 l2 c2, .slice a3 l3 c3, .slice a4 l4 c4] := by rw [hz]; exact ((Blk.new w _ _).below (bel_alloc _ _)).below (bel_alloc _ _)
  have Y0 : Blk z (w.heap.size + 1) 46 #[.int .i64 kd, .int .i64 pl, .int .i64 nn, .slice q1 m1 k1, .slice q2 m2 k2, .int .i64 wa] := by rw [hz]; have := (Blk.new (w.alloc (.cells #[.slice a1 l1 c1, .slice a2 l2 c2, .slice a3 l3 c3, .slice a4 l4 c4] 29)) #[.int .i64 kd, .int .i64 pl, .int .i64 nn, .slice q1 m1 k1, .slice q2 m2 k2, .int .i64 wa] 46).below (bel_alloc _ (.cells #[.int .i64 0, .int .i64 0, .int .i64 0, .int .i64 0, .slice none 0 0, .slice none 0 0] 48)); simpa using this
  have R0 : Blk z (w.heap.size + 1 + 1) 48 #[.int .i64 0, .int .i64 0, .int .i64 0, .int .i64 0, .slice none 0 0, .slice none 0 0] := by rw [hz]; have := Blk.new ((w.alloc (.cells #[.slice a1 l1 c1, .slice a2 l2 c2, .slice a3 l3 c3, .slice a4 l4 c4] 29)).alloc (.cells #[.int .i64 kd, .int .i64 pl, .int .i64 nn, .slice q1 m1 k1, .slice q2 m2 k2, .int .i64 wa] 46)) #[.int .i64 0, .int .i64 0, .int .i64 0, .int .i64 0, .slice none 0 0, .slice none 0 0] 48; simpa using this
  have HB0 : Hid (Below W0.heap.size W0 w) := hB
  have HD0 : Hid (OwnD w W0.heap.size a1 a2 a3 a4 l1 l2 l3 l4 c1 c2 c3 c4 cs is hs rs) := hD
  have HQ : Hid (m1 = ws.length ∧ m2 = bs.length ∧ SlI W0 q1 ws ∧ SlB W0 q2 bs ∧ ws.length ≤ 2000000 ∧ bs.length ≤ 2000000) := ⟨hn, hn2, hq, hq2, hl, hl2⟩
  have HOK : Hid _ := hok
  have HSM : Hid (SmD 2000000 cs is hs rs ∧ LnD l1 l2 l3 l4 cs is hs rs) := ⟨hsm, hD.sl.1⟩
  have BW : ∀ u : World, Below w.heap.size w u → Below W0.heap.size W0 u := fun u hu => HB0.out.trans (hu.mono HB0.out.size)
  obtain ⟨x0, x1, x2, x3⟩ := X0.four
  obtain ⟨y0, y1, y2, y3, y4, y5⟩ := Y0.six
  have HDK : Hid _ := hd
  have HA : Hid _ := hAll
  clear hz hB hD hn hn2 hq hq2 hl hl2 hok hsm hd hAll
  go_enter Try.func42, Try.ntmps42
  go_upto_region 1 with fail
  rw [← HZ.out]
  go_wp2_with fail
  refine (implReqOk_q kd pl nn wa q1 q2 m1 m2 k1 k2 ws bs _ HQ.out.1 HQ.out.2.1 (HQ.out.2.2.1.below (BW _ b0)) (HQ.out.2.2.2.1.below (BW _ b0)) HQ.out.2.2.2.2.1 HQ.out.2.2.2.2.2).mono ?_
  rintro e w1 ⟨he, b'⟩
  rw [HOK.out] at he
  subst he
  have b1 := bel_next b0 b'
  have X1 := X0.below b'
  have Y1 := Y0.below b'
  have R1 := R0.below b'
  clear x0 x1 x2 x3 y0 y1 y2 y3 y4 y5 X0 Y0 R0 b0 b'
  obtain ⟨x0, x1, x2, x3⟩ := X1.four
  obtain ⟨y0, y1, y2, y3, y4, y5⟩ := Y1.six
  go_wp2_with fail
  refine (implDeviceOk_any a1 a2 a3 a4 l1 l2 l3 l4 c1 c2 c3 c4 cs is hs rs _ HSM.out.2 (HD0.out.below b1).sl.2 HSM.out.1 _ HDK.out).mono ?_
  rintro e w2 ⟨rfl, b'⟩
  have b2 := bel_next b1 b'
  have X2 := X1.below b'
  have Y2 := Y1.below b'
  have R2 := R1.below b'
  clear x0 x1 x2 x3 y0 y1 y2 y3 y4 y5 X1 Y1 R1 b1 b'
  obtain ⟨x0, x1, x2, x3⟩ := X2.four
  obtain ⟨y0, y1, y2, y3, y4, y5⟩ := Y2.six
  go_wp2_with fail
  refine (HA.out _ (HQ.out.2.2.1.below (BW _ b2)) (HQ.out.2.2.2.1.below (BW _ b2))).mono ?_
  rintro e w3 ⟨rfl, b'⟩
  have b3 := bel_next b2 b'
  have X3 := X2.below b'
  have Y3 := Y2.below b'
  have R3 := R2.below b'
  clear x0 x1 x2 x3 y0 y1 y2 y3 y4 y5 X2 Y2 R2 b2 b'
  obtain ⟨x0, x1, x2, x3⟩ := X3.four
  obtain ⟨y0, y1, y2, y3, y4, y5⟩ := Y3.six
  go_wp2_with fail
  refine (implFaultOf_q kd pl nn wa q1 q2 m1 m2 k1 k2 ws bs _ _ HQ.out.1 HQ.out.2.1 (HQ.out.2.2.1.below (BW _ b3)) (HQ.out.2.2.2.1.below (BW _ b3)) HQ.out.2.2.2.2.1 HQ.out.2.2.2.2.2).mono ?_
  rintro e w5 ⟨he, b'⟩
  rw [HOK.out] at he
  have he' : e = .returned (rp kd 2 0 0 none none 0 0 0 0) := he
  subst he'
  clear he
  have b5 := bel_next b3 b'
  have R5 := R3.below b'
  clear x0 x1 x2 x3 y0 y1 y2 y3 y4 y5
  obtain ⟨s0, s1, s2, s3, s4, s5⟩ := R5.six
  have f0 := R5.fro 0
  have f1 := R5.fro 1
  have f2 := R5.fro 2
  have f3 := R5.fro 3
  have f4 := R5.fro 4
  have f5 := R5.fro 5
  have HR : Hid (ExB _ (w.heap.size + 1 + 1) 48) := ⟨_, R5⟩
  have HB : Hid (Below w.heap.size w _) := b5
  have HZ0 : Hid (W0.heap.size ≤ w.heap.size) := HB0.out.size
  go_wp2_with fail
  refine bodyPost_ret (v := rp kd 2 0 0 none none 0 0 0 0) (by simp [results, Try.results42, go_sem, s0, s1, s2, s3, s4, s5]) rfl ?_
  exact ⟨_, _, _, _, _, _, rfl, ownI_nil0 _ _, ownB_nil0 _ _, (HD0.out.below HB.out).set6 HR.out (by decide) (by decide), belp_set6 (BW _ HB.out) (by have := HZ0.out; omega), (Chg.ofBelow HB.out).set6 (by omega)⟩

end Go.Proofs.Ytcnbbknmofonkaa

namespace Go.Proofs.Ytcnbbknmofonkaa
open Go.RowKit

set_option linter.unusedVariables false

set_option linter.unusedSimpArgs false

set_option maxRecDepth 20000 in
set_option maxHeartbeats 8000000 in
theorem serve_6 (a1 a2 a3 a4 : Option Addr) (l1 l2 l3 l4 c1 c2 c3 c4 : Nat) (cs is : List Bool) (hs rs : List Int) (pl nn wa : Int) (q1 q2 : Option Addr) (m1 m2 k1 k2 : Nat) (ws : List Int) (bs : List Bool) (W0 w : World) (hB : Below W0.heap.size W0 w) (hD : OwnD w W0.heap.size a1 a2 a3 a4 l1 l2 l3 l4 c1 c2 c3 c4 cs is hs rs) (hn : m1 = ws.length) (hn2 : m2 = bs.length) (hq : SlI W0 q1 ws) (hq2 : SlB W0 q2 bs) (hl : ws.length ≤ 2000000) (hl2 : bs.length ≤ 2000000) (hok : okR 6 pl nn wa ws m1 m2 = true) (hd : okD l1 l2 l3 l4 hs rs = true) (hsm : SmD 2000000 cs is hs rs)
    (cs' is' : List Bool) (hs' rs' : List Int) (ws' : List Int) (bs' : List Bool) (pl' nn' : Int)
    (hAll : ∀ w : World, SlI w q1 ws → SlB w q2 bs → Calls Try.prog 83 #[dv a1 a2 a3 a4 l1 l2 l3 l4 c1 c2 c3 c4, rq 6 pl nn wa q1 q2 m1 m2 k1 k2] w fun e w' => e = .returned (.bool true) ∧ Below w.heap.size w w')
    (hdo : ∀ w : World, Below W0.heap.size W0 w → OwnD w W0.heap.size a1 a2 a3 a4 l1 l2 l3 l4 c1 c2 c3 c4 cs is hs rs → Calls Try.prog 106 #[dv a1 a2 a3 a4 l1 l2 l3 l4 c1 c2 c3 c4, rq 6 pl nn wa q1 q2 m1 m2 k1 k2] w fun e w' => SV W0 w w' e a1 a2 a3 a4 l1 l2 l3 l4 c1 c2 c3 c4 cs' is' hs' rs' 6 0 pl' nn' ws' bs') :
    Calls Try.prog 42 #[dv a1 a2 a3 a4 l1 l2 l3 l4 c1 c2 c3 c4, rq 6 pl nn wa q1 q2 m1 m2 k1 k2] w fun e w' => SV W0 w w' e a1 a2 a3 a4 l1 l2 l3 l4 c1 c2 c3 c4 cs' is' hs' rs' 6 0 pl' nn' ws' bs' := by
  obtain ⟨z, hz⟩ : ∃ z, z = ((w.alloc (.cells #[.slice a1 l1 c1, .slice a2 l2 c2, .slice a3 l3 c3, .slice a4 l4 c4] 29)).alloc (.cells #[.int .i64 6, .int .i64 pl, .int .i64 nn, .slice q1 m1 k1, .slice q2 m2 k2, .int .i64 wa] 46)).alloc (.cells #[.int .i64 0, .int .i64 0, .int .i64 0, .int .i64 0, .slice none 0 0, .slice none 0 0] 48) := ⟨_, rfl⟩
  have HZ : Hid (z = _) := hz
  have b0 : Below w.heap.size w z := by rw [hz]; exact bel_next (bel_next (bel_alloc w _) (bel_alloc _ _)) (bel_alloc _ _)
  have X0 : Blk z w.heap.size 29 #[.slice a1 l1 c1, .slice a2 l2 c2, .slice a3 l3 c3, .slice a4 l4 c4] := by rw [hz]; exact ((Blk.new w _ _).below (bel_alloc _ _)).below (bel_alloc _ _)
  have Y0 : Blk z (w.heap.size + 1) 46 #[.int .i64 6, .int .i64 pl, .int .i64 nn, .slice q1 m1 k1, .slice q2 m2 k2, .int .i64 wa] := by rw [hz]; have := (Blk.new (w.alloc (.cells #[.slice a1 l1 c1, .slice a2 l2 c2, .slice a3 l3 c3, .slice a4 l4 c4] 29)) #[.int .i64 6, .int .i64 pl, .int .i64 nn, .slice q1 m1 k1, .slice q2 m2 k2, .int .i64 wa] 46).below (bel_alloc _ (.cells #[.int .i64 0, .int .i64 0, .int .i64 0, .int .i64 0, .slice none 0 0, .slice none 0 0] 48)); simpa using this
  have R0 : Blk z (w.heap.size + 1 + 1) 48 #[.int .i64 0, .int .i64 0, .int .i64 0, .int .i64 0, .slice none 0 0, .slice none 0 0] := by rw [hz]; have := Blk.new ((w.alloc (.cells #[.slice a1 l1 c1, .slice a2 l2 c2, .slice a3 l3 c3, .slice a4 l4 c4] 29)).alloc (.cells #[.int .i64 6, .int .i64 pl, .int .i64 nn, .slice q1 m1 k1, .slice q2 m2 k2, .int .i64 wa] 46)) #[.int .i64 0, .int .i64 0, .int .i64 0, .int .i64 0, .slice none 0 0, .slice none 0 0] 48; simpa using this
  have HB0 : Hid (Below W0.heap.size W0 w) := hB
  have HD0 : Hid (OwnD w W0.heap.size a1 a2 a3 a4 l1 l2 l3 l4 c1 c2 c3 c4 cs is hs rs) := hD
  have HQ : Hid (m1 = ws.length ∧ m2 = bs.length ∧ SlI W0 q1 ws ∧ SlB W0 q2 bs ∧ ws.length ≤ 2000000 ∧ bs.length ≤ 2000000) := ⟨hn, hn2, hq, hq2, hl, hl2⟩
  have HOK : Hid (okR 6 pl nn wa ws m1 m2 = true ∧ okD l1 l2 l3 l4 hs rs = true ∧ SmD 2000000 cs is hs rs ∧ LnD l1 l2 l3 l4 cs is hs rs) := ⟨hok, hd, hsm, hD.sl.1⟩
  have HA : Hid _ := hAll
  have HDO : Hid _ := hdo
  have BW : ∀ u : World, Below w.heap.size w u → Below W0.heap.size W0 u := fun u hu => HB0.out.trans (hu.mono HB0.out.size)
  obtain ⟨x0, x1, x2, x3⟩ := X0.four
  obtain ⟨y0, y1, y2, y3, y4, y5⟩ := Y0.six
  clear hz hB hD hn hn2 hq hq2 hl hl2 hok hd hsm hAll hdo
  go_enter Try.func42, Try.ntmps42
  go_upto_region 1 with fail
  rw [← HZ.out]
  go_wp2_with fail
  refine (implReqOk_q 6 pl nn wa q1 q2 m1 m2 k1 k2 ws bs _ HQ.out.1 HQ.out.2.1 (HQ.out.2.2.1.below (BW _ b0)) (HQ.out.2.2.2.1.below (BW _ b0)) HQ.out.2.2.2.2.1 HQ.out.2.2.2.2.2).mono ?_
  rintro e w1 ⟨he, b'⟩
  rw [HOK.out.1] at he
  subst he
  have b1 := bel_next b0 b'
  have X1 := X0.below b'
  have Y1 := Y0.below b'
  have R1 := R0.below b'
  clear x0 x1 x2 x3 y0 y1 y2 y3 y4 y5 X0 Y0 R0 b0 b'
  obtain ⟨x0, x1, x2, x3⟩ := X1.four
  obtain ⟨y0, y1, y2, y3, y4, y5⟩ := Y1.six
  go_wp2_with fail
  refine (implDeviceOk_any a1 a2 a3 a4 l1 l2 l3 l4 c1 c2 c3 c4 cs is hs rs _ HOK.out.2.2.2 (HD0.out.below b1).sl.2 HOK.out.2.2.1 _ HOK.out.2.1).mono ?_
  rintro e w2 ⟨rfl, b'⟩
  have b2 := bel_next b1 b'
  have X2 := X1.below b'
  have Y2 := Y1.below b'
  have R2 := R1.below b'
  clear x0 x1 x2 x3 y0 y1 y2 y3 y4 y5 X1 Y1 R1 b1 b'
  obtain ⟨x0, x1, x2, x3⟩ := X2.four
  obtain ⟨y0, y1, y2, y3, y4, y5⟩ := Y2.six
  go_wp2_with fail
  refine (HA.out _ (HQ.out.2.2.1.below (BW _ b2)) (HQ.out.2.2.2.1.below (BW _ b2))).mono ?_
  rintro e w3 ⟨rfl, b'⟩
  have b3 := bel_next b2 b'
  have X3 := X2.below b'
  have Y3 := Y2.below b'
  have R3 := R2.below b'
  clear x0 x1 x2 x3 y0 y1 y2 y3 y4 y5 X2 Y2 R2 b2 b'
  obtain ⟨x0, x1, x2, x3⟩ := X3.four
  obtain ⟨y0, y1, y2, y3, y4, y5⟩ := Y3.six
  go_upto_region 7 with fail
  have d3 : Below w3.heap.size w3 w3.drew := (Below.refl _ _).drew
  have hne2 : ¬ (w.heap.size = w.heap.size + 1 + 1) := by omega
  have hne3 : ¬ (w.heap.size + 1 + 1 = w.heap.size) := by omega
  go_region_held3 (fun w' => w'.cell? ⟨w.heap.size, 0, none⟩ = some (.slice a1 l1 c1) ∧ w'.cell? ⟨w.heap.size, 1, none⟩ = some (.slice a2 l2 c2) ∧ w'.cell? ⟨w.heap.size, 2, none⟩ = some (.slice a3 l3 c3) ∧ w'.cell? ⟨w.heap.size, 3, none⟩ = some (.slice a4 l4 c4) ∧ w'.cell? ⟨w.heap.size + 1, 0, none⟩ = some (.int .i64 6) ∧ w'.cell? ⟨w.heap.size + 1, 1, none⟩ = some (.int .i64 pl) ∧ w'.cell? ⟨w.heap.size + 1, 2, none⟩ = some (.int .i64 nn) ∧ w'.cell? ⟨w.heap.size + 1, 3, none⟩ = some (.slice q1 m1 k1) ∧ w'.cell? ⟨w.heap.size + 1, 4, none⟩ = some (.slice q2 m2 k2) ∧ w'.cell? ⟨w.heap.size + 1, 5, none⟩ = some (.int .i64 wa)) (go_keep)
    (first
      | (go_at_call 84; refine (deeds_any _).mono ?_; rintro e w4 ⟨rfl, hm4, b'⟩; have B4 : Below w3.heap.size w3 w4 := (by first | exact b' | exact bel_next d3 b'); have lk4 : (Instr.lookup 95 (.map (some w3.heap.size)) (.int .i64 6) false).run Try.prog w4 = .ok (.func (.func 106) #[] #[]) w4 := mp_get 6 (.func (.func 106) #[] #[]) 5 _ _ _ _ hm4 rfl; obtain ⟨x40, x41, x42, x43⟩ := (X3.below B4).four; obtain ⟨y40, y41, y42, y43, y44, y45⟩ := (Y3.below B4).six; clear b')
      | (go_at_call 106; refine (HDO.out _ (BW _ (by first | exact bel_next b3 B4 | exact (bel_next b3 B4).drew)) (HD0.out.below (by first | exact bel_next b3 B4 | exact (bel_next b3 B4).drew))).mono ?_; rintro e w5 ⟨r1, r2, n1, n2, e1, e2, rfl, o1, o2, o3, o4, o5⟩; have D4 := HD0.out.below (bel_next b3 B4); have X5 := (X3.below B4).chg o5 (D4.noBlk (X3.below B4) (by decide) (by decide)); have Y5 := (Y3.below B4).chg o5 (D4.noBlk (Y3.below B4) (by decide) (by decide)); have R5 := (R3.below B4).chg o5 (D4.noBlk (R3.below B4) (by decide) (by decide)); obtain ⟨x50, x51, x52, x53⟩ := X5.four; obtain ⟨y50, y51, y52, y53, y54, y55⟩ := Y5.six; obtain ⟨s0, s1, s2, s3, s4, s5⟩ := R5.six; have f0 := R5.fro 0; have f1 := R5.fro 1; have f2 := R5.fro 2; have f3 := R5.fro 3; have f4 := R5.fro 4; have f5 := R5.fro 5; have sz4 : w.heap.size ≤ w4.heap.size := (bel_next b3 B4).size; have HH : Hid (OwnI w5 w.heap.size (.slice r1 n1 e1) ws' ∧ OwnB w5 w.heap.size (.slice r2 n2 e2) bs' ∧ OwnD w5 W0.heap.size a1 a2 a3 a4 l1 l2 l3 l4 c1 c2 c3 c4 cs' is' hs' rs' ∧ Below W0.heap.size W0 w5 ∧ Chg w w5 (Of4 (.slice a1 l1 c1) (.slice a2 l2 c2) (.slice a3 l3 c3) (.slice a4 l4 c4)) ∧ ExB w5 (w.heap.size + 1 + 1) 48) := ⟨OwnI.mono o1 (by exact sz4), OwnB.mono o2 (by exact sz4), o3, o4, (Chg.ofBelow (bel_next b3 B4)).trans o5, ⟨_, R5⟩⟩; have HZ0 : Hid (W0.heap.size ≤ w.heap.size) := HB0.out.size; clear o1 o2 o3 o4 o5 D4 X5 Y5 R5))
  all_goals (
    go_wp2
    refine bodyPost_ret (v := rp 6 0 pl' nn' r1 r2 n1 n2 e1 e2) (by simp [results, Try.results42, go_sem, s0, s1, s2, s3, s4, s5]) rfl ?_
    obtain ⟨o1, o2, o3, o4, o5, o6⟩ := HH.out
    exact ⟨_, _, _, _, _, _, rfl, rowp_set6 o1 o6 (by decide), rowp_set6 o2 o6 (by decide), o3.set6 o6 (by decide) (by decide), belp_set6 o4 (by have := HZ0.out; omega), o5.set6 (by omega)⟩)

set_option maxRecDepth 20000 in
set_option maxHeartbeats 8000000 in
theorem serve_22 (a1 a2 a3 a4 : Option Addr) (l1 l2 l3 l4 c1 c2 c3 c4 : Nat) (cs is : List Bool) (hs rs : List Int) (pl nn wa : Int) (q1 q2 : Option Addr) (m1 m2 k1 k2 : Nat) (ws : List Int) (bs : List Bool) (W0 w : World) (hB : Below W0.heap.size W0 w) (hD : OwnD w W0.heap.size a1 a2 a3 a4 l1 l2 l3 l4 c1 c2 c3 c4 cs is hs rs) (hn : m1 = ws.length) (hn2 : m2 = bs.length) (hq : SlI W0 q1 ws) (hq2 : SlB W0 q2 bs) (hl : ws.length ≤ 2000000) (hl2 : bs.length ≤ 2000000) (hok : okR 22 pl nn wa ws m1 m2 = true) (hd : okD l1 l2 l3 l4 hs rs = true) (hsm : SmD 2000000 cs is hs rs)
    (cs' is' : List Bool) (hs' rs' : List Int) (ws' : List Int) (bs' : List Bool) (pl' nn' : Int)
    (hAll : ∀ w : World, SlI w q1 ws → SlB w q2 bs → Calls Try.prog 83 #[dv a1 a2 a3 a4 l1 l2 l3 l4 c1 c2 c3 c4, rq 22 pl nn wa q1 q2 m1 m2 k1 k2] w fun e w' => e = .returned (.bool true) ∧ Below w.heap.size w w')
    (hdo : ∀ w : World, Below W0.heap.size W0 w → OwnD w W0.heap.size a1 a2 a3 a4 l1 l2 l3 l4 c1 c2 c3 c4 cs is hs rs → Calls Try.prog 109 #[dv a1 a2 a3 a4 l1 l2 l3 l4 c1 c2 c3 c4, rq 22 pl nn wa q1 q2 m1 m2 k1 k2] w fun e w' => SV W0 w w' e a1 a2 a3 a4 l1 l2 l3 l4 c1 c2 c3 c4 cs' is' hs' rs' 22 0 pl' nn' ws' bs') :
    Calls Try.prog 42 #[dv a1 a2 a3 a4 l1 l2 l3 l4 c1 c2 c3 c4, rq 22 pl nn wa q1 q2 m1 m2 k1 k2] w fun e w' => SV W0 w w' e a1 a2 a3 a4 l1 l2 l3 l4 c1 c2 c3 c4 cs' is' hs' rs' 22 0 pl' nn' ws' bs' := by
  obtain ⟨z, hz⟩ : ∃ z, z = ((w.alloc (.cells #[.slice a1 l1 c1, .slice a2 l2 c2, .slice a3 l3 c3, .slice a4 l4 c4] 29)).alloc (.cells #[.int .i64 22, .int .i64 pl, .int .i64 nn, .slice q1 m1 k1, .slice q2 m2 k2, .int .i64 wa] 46)).alloc (.cells #[.int .i64 0, .int .i64 0, .int .i64 0, .int .i64 0, .slice none 0 0, .slice none 0 0] 48) := ⟨_, rfl⟩
  have HZ : Hid (z = _) := hz
  have b0 : Below w.heap.size w z := by rw [hz]; exact bel_next (bel_next (bel_alloc w _) (bel_alloc _ _)) (bel_alloc _ _)
  have X0 : Blk z w.heap.size 29 #[.slice a1 l1 c1, .slice a2 l2 c2, .slice a3 l3 c3, .slice a4 l4 c4] := by rw [hz]; exact ((Blk.new w _ _).below (bel_alloc _ _)).below (bel_alloc _ _)
  have Y0 : Blk z (w.heap.size + 1) 46 #[.int .i64 22, .int .i64 pl, .int .i64 nn, .slice q1 m1 k1, .slice q2 m2 k2, .int .i64 wa] := by rw [hz]; have := (Blk.new (w.alloc (.cells #[.slice a1 l1 c1, .slice a2 l2 c2, .slice a3 l3 c3, .slice a4 l4 c4] 29)) #[.int .i64 22, .int .i64 pl, .int .i64 nn, .slice q1 m1 k1, .slice q2 m2 k2, .int .i64 wa] 46).below (bel_alloc _ (.cells #[.int .i64 0, .int .i64 0, .int .i64 0, .int .i64 0, .slice none 0 0, .slice none 0 0] 48)); simpa using this
  have R0 : Blk z (w.heap.size + 1 + 1) 48 #[.int .i64 0, .int .i64 0, .int .i64 0, .int .i64 0, .slice none 0 0, .slice none 0 0] := by rw [hz]; have := Blk.new ((w.alloc (.cells #[.slice a1 l1 c1, .slice a2 l2 c2, .slice a3 l3 c3, .slice a4 l4 c4] 29)).alloc (.cells #[.int .i64 22, .int .i64 pl, .int .i64 nn, .slice q1 m1 k1, .slice q2 m2 k2, .int .i64 wa] 46)) #[.int .i64 0, .int .i64 0, .int .i64 0, .int .i64 0, .slice none 0 0, .slice none 0 0] 48; simpa using this
  have HB0 : Hid (Below W0.heap.size W0 w) := hB
  have HD0 : Hid (OwnD w W0.heap.size a1 a2 a3 a4 l1 l2 l3 l4 c1 c2 c3 c4 cs is hs rs) := hD
  have HQ : Hid (m1 = ws.length ∧ m2 = bs.length ∧ SlI W0 q1 ws ∧ SlB W0 q2 bs ∧ ws.length ≤ 2000000 ∧ bs.length ≤ 2000000) := ⟨hn, hn2, hq, hq2, hl, hl2⟩
  have HOK : Hid (okR 22 pl nn wa ws m1 m2 = true ∧ okD l1 l2 l3 l4 hs rs = true ∧ SmD 2000000 cs is hs rs ∧ LnD l1 l2 l3 l4 cs is hs rs) := ⟨hok, hd, hsm, hD.sl.1⟩
  have HA : Hid _ := hAll
  have HDO : Hid _ := hdo
  have BW : ∀ u : World, Below w.heap.size w u → Below W0.heap.size W0 u := fun u hu => HB0.out.trans (hu.mono HB0.out.size)
  obtain ⟨x0, x1, x2, x3⟩ := X0.four
  obtain ⟨y0, y1, y2, y3, y4, y5⟩ := Y0.six
  clear hz hB hD hn hn2 hq hq2 hl hl2 hok hd hsm hAll hdo
  go_enter Try.func42, Try.ntmps42
  go_upto_region 1 with fail
  rw [← HZ.out]
  go_wp2_with fail
  refine (implReqOk_q 22 pl nn wa q1 q2 m1 m2 k1 k2 ws bs _ HQ.out.1 HQ.out.2.1 (HQ.out.2.2.1.below (BW _ b0)) (HQ.out.2.2.2.1.below (BW _ b0)) HQ.out.2.2.2.2.1 HQ.out.2.2.2.2.2).mono ?_
  rintro e w1 ⟨he, b'⟩
  rw [HOK.out.1] at he
  subst he
  have b1 := bel_next b0 b'
  have X1 := X0.below b'
  have Y1 := Y0.below b'
  have R1 := R0.below b'
  clear x0 x1 x2 x3 y0 y1 y2 y3 y4 y5 X0 Y0 R0 b0 b'
  obtain ⟨x0, x1, x2, x3⟩ := X1.four
  obtain ⟨y0, y1, y2, y3, y4, y5⟩ := Y1.six
  go_wp2_with fail
  refine (implDeviceOk_any a1 a2 a3 a4 l1 l2 l3 l4 c1 c2 c3 c4 cs is hs rs _ HOK.out.2.2.2 (HD0.out.below b1).sl.2 HOK.out.2.2.1 _ HOK.out.2.1).mono ?_
  rintro e w2 ⟨rfl, b'⟩
  have b2 := bel_next b1 b'
  have X2 := X1.below b'
  have Y2 := Y1.below b'
  have R2 := R1.below b'
  clear x0 x1 x2 x3 y0 y1 y2 y3 y4 y5 X1 Y1 R1 b1 b'
  obtain ⟨x0, x1, x2, x3⟩ := X2.four
  obtain ⟨y0, y1, y2, y3, y4, y5⟩ := Y2.six
  go_wp2_with fail
  refine (HA.out _ (HQ.out.2.2.1.below (BW _ b2)) (HQ.out.2.2.2.1.below (BW _ b2))).mono ?_
  rintro e w3 ⟨rfl, b'⟩
  have b3 := bel_next b2 b'
  have X3 := X2.below b'
  have Y3 := Y2.below b'
  have R3 := R2.below b'
  clear x0 x1 x2 x3 y0 y1 y2 y3 y4 y5 X2 Y2 R2 b2 b'
  obtain ⟨x0, x1, x2, x3⟩ := X3.four
  obtain ⟨y0, y1, y2, y3, y4, y5⟩ := Y3.six
  go_upto_region 7 with fail
  have d3 : Below w3.heap.size w3 w3.drew := (Below.refl _ _).drew
  have hne2 : ¬ (w.heap.size = w.heap.size + 1 + 1) := by omega
  have hne3 : ¬ (w.heap.size + 1 + 1 = w.heap.size) := by omega
  go_region_held3 (fun w' => w'.cell? ⟨w.heap.size, 0, none⟩ = some (.slice a1 l1 c1) ∧ w'.cell? ⟨w.heap.size, 1, none⟩ = some (.slice a2 l2 c2) ∧ w'.cell? ⟨w.heap.size, 2, none⟩ = some (.slice a3 l3 c3) ∧ w'.cell? ⟨w.heap.size, 3, none⟩ = some (.slice a4 l4 c4) ∧ w'.cell? ⟨w.heap.size + 1, 0, none⟩ = some (.int .i64 22) ∧ w'.cell? ⟨w.heap.size + 1, 1, none⟩ = some (.int .i64 pl) ∧ w'.cell? ⟨w.heap.size + 1, 2, none⟩ = some (.int .i64 nn) ∧ w'.cell? ⟨w.heap.size + 1, 3, none⟩ = some (.slice q1 m1 k1) ∧ w'.cell? ⟨w.heap.size + 1, 4, none⟩ = some (.slice q2 m2 k2) ∧ w'.cell? ⟨w.heap.size + 1, 5, none⟩ = some (.int .i64 wa)) (go_keep)
    (first
      | (go_at_call 84; refine (deeds_any _).mono ?_; rintro e w4 ⟨rfl, hm4, b'⟩; have B4 : Below w3.heap.size w3 w4 := (by first | exact b' | exact bel_next d3 b'); have lk4 : (Instr.lookup 95 (.map (some w3.heap.size)) (.int .i64 22) false).run Try.prog w4 = .ok (.func (.func 109) #[] #[]) w4 := mp_get 22 (.func (.func 109) #[] #[]) 8 _ _ _ _ hm4 rfl; obtain ⟨x40, x41, x42, x43⟩ := (X3.below B4).four; obtain ⟨y40, y41, y42, y43, y44, y45⟩ := (Y3.below B4).six; clear b')
      | (go_at_call 109; refine (HDO.out _ (BW _ (by first | exact bel_next b3 B4 | exact (bel_next b3 B4).drew)) (HD0.out.below (by first | exact bel_next b3 B4 | exact (bel_next b3 B4).drew))).mono ?_; rintro e w5 ⟨r1, r2, n1, n2, e1, e2, rfl, o1, o2, o3, o4, o5⟩; have D4 := HD0.out.below (bel_next b3 B4); have X5 := (X3.below B4).chg o5 (D4.noBlk (X3.below B4) (by decide) (by decide)); have Y5 := (Y3.below B4).chg o5 (D4.noBlk (Y3.below B4) (by decide) (by decide)); have R5 := (R3.below B4).chg o5 (D4.noBlk (R3.below B4) (by decide) (by decide)); obtain ⟨x50, x51, x52, x53⟩ := X5.four; obtain ⟨y50, y51, y52, y53, y54, y55⟩ := Y5.six; obtain ⟨s0, s1, s2, s3, s4, s5⟩ := R5.six; have f0 := R5.fro 0; have f1 := R5.fro 1; have f2 := R5.fro 2; have f3 := R5.fro 3; have f4 := R5.fro 4; have f5 := R5.fro 5; have sz4 : w.heap.size ≤ w4.heap.size := (bel_next b3 B4).size; have HH : Hid (OwnI w5 w.heap.size (.slice r1 n1 e1) ws' ∧ OwnB w5 w.heap.size (.slice r2 n2 e2) bs' ∧ OwnD w5 W0.heap.size a1 a2 a3 a4 l1 l2 l3 l4 c1 c2 c3 c4 cs' is' hs' rs' ∧ Below W0.heap.size W0 w5 ∧ Chg w w5 (Of4 (.slice a1 l1 c1) (.slice a2 l2 c2) (.slice a3 l3 c3) (.slice a4 l4 c4)) ∧ ExB w5 (w.heap.size + 1 + 1) 48) := ⟨OwnI.mono o1 (by exact sz4), OwnB.mono o2 (by exact sz4), o3, o4, (Chg.ofBelow (bel_next b3 B4)).trans o5, ⟨_, R5⟩⟩; have HZ0 : Hid (W0.heap.size ≤ w.heap.size) := HB0.out.size; clear o1 o2 o3 o4 o5 D4 X5 Y5 R5))
  all_goals (
    go_wp2
    refine bodyPost_ret (v := rp 22 0 pl' nn' r1 r2 n1 n2 e1 e2) (by simp [results, Try.results42, go_sem, s0, s1, s2, s3, s4, s5]) rfl ?_
    obtain ⟨o1, o2, o3, o4, o5, o6⟩ := HH.out
    exact ⟨_, _, _, _, _, _, rfl, rowp_set6 o1 o6 (by decide), rowp_set6 o2 o6 (by decide), o3.set6 o6 (by decide) (by decide), belp_set6 o4 (by have := HZ0.out; omega), o5.set6 (by omega)⟩)

end Go.Proofs.Ytcnbbknmofonkaa

namespace Go.Proofs.Ytcnbbknmofonkaa
open Go.RowKit

set_option linter.unusedVariables false

set_option linter.unusedSimpArgs false

/-- What Serve ends with. -/
def SR (w w' : World) (e : Ending) (cs is : List Bool) (hs rs : List Int) (kd fl pl nn : Int) (ws : List Int) (bs : List Bool) : Prop :=
  ∃ a1 a2 a3 a4 l1 l2 l3 l4 c1 c2 c3 c4 r1 r2 m1 m2 k1 k2, e = .returned (.tuple #[dv a1 a2 a3 a4 l1 l2 l3 l4 c1 c2 c3 c4, rp kd fl pl nn r1 r2 m1 m2 k1 k2]) ∧ OwnD w' w.heap.size a1 a2 a3 a4 l1 l2 l3 l4 c1 c2 c3 c4 cs is hs rs ∧ OwnI w' w.heap.size (.slice r1 m1 k1) ws ∧ OwnB w' w.heap.size (.slice r2 m2 k2) bs ∧
    (∀ g, Of4 (.slice a1 l1 c1) (.slice a2 l2 c2) (.slice a3 l3 c3) (.slice a4 l4 c4) g → ¬ Of2 (.slice r1 m1 k1) (.slice r2 m2 k2) g) ∧ Below w.heap.size w w'

set_option maxRecDepth 20000 in
set_option maxHeartbeats 8000000 in
theorem implServe_of (a1 a2 a3 a4 : Option Addr) (l1 l2 l3 l4 c1 c2 c3 c4 : Nat) (cs is : List Bool) (hs rs : List Int) (kd pl nn wa : Int) (q1 q2 : Option Addr) (m1 m2 k1 k2 : Nat) (ws : List Int) (bs : List Bool) (w : World) (hn : LnD l1 l2 l3 l4 cs is hs rs) (hs0 : SlD w a1 a2 a3 a4 cs is hs rs) (hsm : SmD 2000000 cs is hs rs) (hq : SlI w q1 ws) (hq2 : SlB w q2 bs)
    (cs' is' : List Bool) (hs' rs' : List Int) (kd' fl' pl' nn' : Int) (ws' : List Int) (bs' : List Bool)
    (hsv : ∀ (W0 w : World) (g1 g2 g3 g4 : Nat), Below W0.heap.size W0 w → OwnD w W0.heap.size (some ⟨g1, 0, none⟩) (some ⟨g2, 0, none⟩) (some ⟨g3, 0, none⟩) (some ⟨g4, 0, none⟩) l1 l2 l3 l4 l1 l2 l3 l4 cs is hs rs → SlI W0 q1 ws → SlB W0 q2 bs → Calls Try.prog 42 #[dv (some ⟨g1, 0, none⟩) (some ⟨g2, 0, none⟩) (some ⟨g3, 0, none⟩) (some ⟨g4, 0, none⟩) l1 l2 l3 l4 l1 l2 l3 l4, rq kd pl nn wa q1 q2 m1 m2 k1 k2] w fun e w' => SV W0 w w' e (some ⟨g1, 0, none⟩) (some ⟨g2, 0, none⟩) (some ⟨g3, 0, none⟩) (some ⟨g4, 0, none⟩) l1 l2 l3 l4 l1 l2 l3 l4 cs' is' hs' rs' kd' fl' pl' nn' ws' bs') :
    Calls Try.prog 26 #[dv a1 a2 a3 a4 l1 l2 l3 l4 c1 c2 c3 c4, rq kd pl nn wa q1 q2 m1 m2 k1 k2] w fun e w' => SR w w' e cs' is' hs' rs' kd' fl' pl' nn' ws' bs' := by
  obtain ⟨z, hz⟩ : ∃ z, z = (((w.alloc (.cells #[.slice a1 l1 c1, .slice a2 l2 c2, .slice a3 l3 c3, .slice a4 l4 c4] 29)).alloc (.cells #[.int .i64 kd, .int .i64 pl, .int .i64 nn, .slice q1 m1 k1, .slice q2 m2 k2, .int .i64 wa] 46)).alloc (.cells #[.slice none 0 0, .slice none 0 0, .slice none 0 0, .slice none 0 0] 29)).alloc (.cells #[.int .i64 0, .int .i64 0, .int .i64 0, .int .i64 0, .slice none 0 0, .slice none 0 0] 48) := ⟨_, rfl⟩
  have HZ : Hid (z = _) := hz
  have b0 : Below w.heap.size w z := by rw [hz]; exact bel_next (bel_next (bel_next (bel_alloc w _) (bel_alloc _ _)) (bel_alloc _ _)) (bel_alloc _ _)
  have X0 : Blk z w.heap.size 29 #[.slice a1 l1 c1, .slice a2 l2 c2, .slice a3 l3 c3, .slice a4 l4 c4] := by rw [hz]; exact (((Blk.new w _ _).below (bel_alloc _ _)).below (bel_alloc _ _)).below (bel_alloc _ _)
  have Y0 : Blk z (w.heap.size + 1) 46 #[.int .i64 kd, .int .i64 pl, .int .i64 nn, .slice q1 m1 k1, .slice q2 m2 k2, .int .i64 wa] := by rw [hz]; have := ((Blk.new (w.alloc (.cells #[.slice a1 l1 c1, .slice a2 l2 c2, .slice a3 l3 c3, .slice a4 l4 c4] 29)) #[.int .i64 kd, .int .i64 pl, .int .i64 nn, .slice q1 m1 k1, .slice q2 m2 k2, .int .i64 wa] 46).below (bel_alloc _ (.cells #[.slice none 0 0, .slice none 0 0, .slice none 0 0, .slice none 0 0] 29))).below (bel_alloc _ (.cells #[.int .i64 0, .int .i64 0, .int .i64 0, .int .i64 0, .slice none 0 0, .slice none 0 0] 48)); simpa using this
  have P0 : Blk z (w.heap.size + 1 + 1) 29 #[.slice none 0 0, .slice none 0 0, .slice none 0 0, .slice none 0 0] := by rw [hz]; have := (Blk.new ((w.alloc (.cells #[.slice a1 l1 c1, .slice a2 l2 c2, .slice a3 l3 c3, .slice a4 l4 c4] 29)).alloc (.cells #[.int .i64 kd, .int .i64 pl, .int .i64 nn, .slice q1 m1 k1, .slice q2 m2 k2, .int .i64 wa] 46)) #[.slice none 0 0, .slice none 0 0, .slice none 0 0, .slice none 0 0] 29).below (bel_alloc _ (.cells #[.int .i64 0, .int .i64 0, .int .i64 0, .int .i64 0, .slice none 0 0, .slice none 0 0] 48)); simpa using this
  have Q0 : Blk z (w.heap.size + 1 + 1 + 1) 48 #[.int .i64 0, .int .i64 0, .int .i64 0, .int .i64 0, .slice none 0 0, .slice none 0 0] := by rw [hz]; have := Blk.new (((w.alloc (.cells #[.slice a1 l1 c1, .slice a2 l2 c2, .slice a3 l3 c3, .slice a4 l4 c4] 29)).alloc (.cells #[.int .i64 kd, .int .i64 pl, .int .i64 nn, .slice q1 m1 k1, .slice q2 m2 k2, .int .i64 wa] 46)).alloc (.cells #[.slice none 0 0, .slice none 0 0, .slice none 0 0, .slice none 0 0] 29)) #[.int .i64 0, .int .i64 0, .int .i64 0, .int .i64 0, .slice none 0 0, .slice none 0 0] 48; simpa using this
  have HN : Hid (LnD l1 l2 l3 l4 cs is hs rs ∧ SmD 2000000 cs is hs rs ∧ SlD z a1 a2 a3 a4 cs is hs rs ∧ SlI z q1 ws ∧ SlB z q2 bs) := ⟨hn, hsm, hs0.below b0, hq.below b0, hq2.below b0⟩
  have HSV : Hid _ := hsv
  have HZS : Hid (z.heap.size = w.heap.size + 1 + 1 + 1 + 1) := by show _ = _; rw [hz]; simp
  obtain ⟨x0, x1, x2, x3⟩ := X0.four
  clear hz hn hs0 hsm hq hq2 hsv
  go_enter Try.func26, Try.ntmps26
  go_upto_region 1 with fail
  rw [← HZ.out]
  go_wp2_with fail
  refine (copyDevice_any a1 a2 a3 a4 l1 l2 l3 l4 c1 c2 c3 c4 cs is hs rs _ HN.out.1 HN.out.2.2.1 HN.out.2.1).mono ?_
  rintro e w1 ⟨g1, g2, g3, g4, rfl, o1, b'⟩
  have b1 := bel_next b0 b'
  have Bz1 := b'
  have Y1 := Y0.below b'
  have P1 := P0.below b'
  have Q1 := Q0.below b'
  clear x0 x1 x2 x3 X0 Y0 P0 Q0 b0 b'
  have b' := bel_alloc w1 (.cells #[.slice (some ⟨g1, 0, none⟩) l1 l1, .slice (some ⟨g2, 0, none⟩) l2 l2, .slice (some ⟨g3, 0, none⟩) l3 l3, .slice (some ⟨g4, 0, none⟩) l4 l4] 29)
  have N' := Blk.new w1 #[.slice (some ⟨g1, 0, none⟩) l1 l1, .slice (some ⟨g2, 0, none⟩) l2 l2, .slice (some ⟨g3, 0, none⟩) l3 l3, .slice (some ⟨g4, 0, none⟩) l4 l4] 29
  obtain ⟨w2, hw2⟩ : ∃ x, x = w1.alloc (.cells #[.slice (some ⟨g1, 0, none⟩) l1 l1, .slice (some ⟨g2, 0, none⟩) l2 l2, .slice (some ⟨g3, 0, none⟩) l3 l3, .slice (some ⟨g4, 0, none⟩) l4 l4] 29) := ⟨_, rfl⟩
  rw [← hw2] at b' N'
  have HW2 : Hid (w2 = _) := hw2
  obtain ⟨BN, hBN⟩ : ∃ x, x = w1.heap.size := ⟨_, rfl⟩
  rw [← hBN] at N'
  have HBN : Hid (BN = w1.heap.size) := hBN
  have HLN : Hid (w.heap.size + 1 + 1 + 1 + 1 ≤ BN) := by show _ ≤ _; have := HZS.out; have := Bz1.size; omega
  have b2 := bel_next b1 b'
  have Bz2 := bel_next Bz1 b'
  have Y2 := Y1.below b'
  have P2 := P1.below b'
  have Q2 := Q1.below b'
  have o2 := o1.below b'
  clear hw2 hBN b1 Bz1 Y1 P1 Q1 o1 b'
  obtain ⟨n0, n1, n2, n3⟩ := N'.four
  obtain ⟨y0, y1, y2, y3, y4, y5⟩ := Y2.six
  go_upto_region 2 with fail
  rw [← HW2.out]
  simp only [← HBN.out]
  go_wp2_with fail
  refine (HSV.out z _ g1 g2 g3 g4 Bz2 o2 HN.out.2.2.2.1 HN.out.2.2.2.2).mono ?_
  rintro e w3 ⟨r1, r2, p1, p2, t1, t2, rfl, i3, j3, o3, Bz3, ch⟩
  have N3 := N'.chg ch (o2.noBlk N' (by decide) (by decide))
  have P3 := P2.chg ch (o2.noBlk P2 (by decide) (by decide))
  have Q3 := Q2.chg ch (o2.noBlk Q2 (by decide) (by decide))
  have HAp : Hid (∀ g, Of4 (.slice (some ⟨g1, 0, none⟩) l1 l1) (.slice (some ⟨g2, 0, none⟩) l2 l2) (.slice (some ⟨g3, 0, none⟩) l3 l3) (.slice (some ⟨g4, 0, none⟩) l4 l4) g → ¬ Of2 (.slice r1 p1 t1) (.slice r2 p2 t2) g) := by
    intro g h1 h2
    have q1 := (o2.of4 g h1).2
    rcases h2 with h2 | h2
    · have := (World.ownsRow.lt i3 g h2).1; omega
    · have := (World.ownsRow.lt j3 g h2).1; omega
  have HS2 : Hid (w.heap.size ≤ w2.heap.size) := b2.size
  have b3 : Below w.heap.size w w3 := Chg.below b2 ch (fun g hg => by have := (o2.of4 g hg).1; have := HZS.out; omega) b2.size
  clear n0 n1 n2 n3 y0 y1 y2 y3 y4 y5 N' Y2 P2 Q2 o2 b2 Bz2 ch Bz3
  have b' := bel_alloc w3 (.cells #[.int .i64 kd', .int .i64 fl', .int .i64 pl', .int .i64 nn', .slice r1 p1 t1, .slice r2 p2 t2] 48)
  have T' := Blk.new w3 #[.int .i64 kd', .int .i64 fl', .int .i64 pl', .int .i64 nn', .slice r1 p1 t1, .slice r2 p2 t2] 48
  obtain ⟨w4, hw4⟩ : ∃ x, x = w3.alloc (.cells #[.int .i64 kd', .int .i64 fl', .int .i64 pl', .int .i64 nn', .slice r1 p1 t1, .slice r2 p2 t2] 48) := ⟨_, rfl⟩
  rw [← hw4] at b' T'
  have HW4 : Hid (w4 = _) := hw4
  obtain ⟨BT, hBT⟩ : ∃ x, x = w3.heap.size := ⟨_, rfl⟩
  rw [← hBT] at T'
  have HBT : Hid (BT = w3.heap.size) := hBT
  have HLT : Hid (w.heap.size + 1 + 1 + 1 + 1 ≤ BT) := by show _ ≤ _; have := HLN.out; have := N3.lt; omega
  have b4 := bel_next b3 b'
  have N4 := N3.below b'
  have P4 := P3.below b'
  have Q4 := Q3.below b'
  have HH : Hid (OwnD w4 w.heap.size (some ⟨g1, 0, none⟩) (some ⟨g2, 0, none⟩) (some ⟨g3, 0, none⟩) (some ⟨g4, 0, none⟩) l1 l2 l3 l4 l1 l2 l3 l4 cs' is' hs' rs' ∧ OwnI w4 w.heap.size (.slice r1 p1 t1) ws' ∧ OwnB w4 w.heap.size (.slice r2 p2 t2) bs' ∧ Below w.heap.size w w4 ∧ ExB w4 (w.heap.size + 1 + 1) 29 ∧ ExB w4 (w.heap.size + 1 + 1 + 1) 48) := ⟨(o3.below b').mono (by have := HZS.out; omega), (i3.below b').mono HS2.out, (j3.below b').mono HS2.out, b4, ⟨_, P4⟩, ⟨_, Q4⟩⟩
  clear hw4 hBT b3 N3 P3 Q3 o3 i3 j3 b'
  obtain ⟨n0, n1, n2, n3⟩ := N4.four
  obtain ⟨t0', t1', t2', t3', t4', t5'⟩ := T'.six
  obtain ⟨p0', p1', p2', p3'⟩ := P4.four
  obtain ⟨q0', q1', q2', q3', q4', q5'⟩ := Q4.six
  have fp := P4.fro
  have fq := Q4.fro
  have fp0 := fp 0
  have fp1 := fp 1
  have fp2 := fp 2
  have fp3 := fp 3
  have fq0 := fq 0
  have fq1 := fq 1
  have fq2 := fq 2
  have fq3 := fq 3
  have fq4 := fq 4
  have fq5 := fq 5
  have lN := HLN.out
  have lT := HLT.out
  have e1 : ¬ (BN = w.heap.size + 1 + 1) := by omega
  have e2 : ¬ (BN = w.heap.size + 1 + 1 + 1) := by omega
  have e3 : ¬ (BT = w.heap.size + 1 + 1) := by omega
  have e4 : ¬ (BT = w.heap.size + 1 + 1 + 1) := by omega
  have e1' : ¬ (w.heap.size + 1 + 1 = BN) := by omega
  have e2' : ¬ (w.heap.size + 1 + 1 + 1 = BN) := by omega
  have e3' : ¬ (w.heap.size + 1 + 1 = BT) := by omega
  have e4' : ¬ (w.heap.size + 1 + 1 + 1 = BT) := by omega
  clear lN lT
  obtain ⟨W5, hW5⟩ : ∃ x, x = ((((((((((w4.setCell ⟨w.heap.size + 1 + 1, 0, none⟩ (.slice (some ⟨g1, 0, none⟩) l1 l1)).setCell ⟨w.heap.size + 1 + 1, 1, none⟩ (.slice (some ⟨g2, 0, none⟩) l2 l2)).setCell ⟨w.heap.size + 1 + 1, 2, none⟩ (.slice (some ⟨g3, 0, none⟩) l3 l3)).setCell ⟨w.heap.size + 1 + 1, 3, none⟩ (.slice (some ⟨g4, 0, none⟩) l4 l4)).setCell ⟨w.heap.size + 1 + 1 + 1, 0, none⟩ (.int .i64 kd')).setCell ⟨w.heap.size + 1 + 1 + 1, 1, none⟩ (.int .i64 fl')).setCell ⟨w.heap.size + 1 + 1 + 1, 2, none⟩ (.int .i64 pl')).setCell ⟨w.heap.size + 1 + 1 + 1, 3, none⟩ (.int .i64 nn')).setCell ⟨w.heap.size + 1 + 1 + 1, 4, none⟩ (.slice r1 p1 t1)).setCell ⟨w.heap.size + 1 + 1 + 1, 5, none⟩ (.slice r2 p2 t2)) := ⟨_, rfl⟩
  have HW5 : Hid (W5 = _) := hW5
  have HF : Hid (OwnD W5 w.heap.size (some ⟨g1, 0, none⟩) (some ⟨g2, 0, none⟩) (some ⟨g3, 0, none⟩) (some ⟨g4, 0, none⟩) l1 l2 l3 l4 l1 l2 l3 l4 cs' is' hs' rs' ∧ OwnI W5 w.heap.size (.slice r1 p1 t1) ws' ∧ OwnB W5 w.heap.size (.slice r2 p2 t2) bs' ∧ Below w.heap.size w W5) := by
    obtain ⟨o1, o2, o3, o4, o5, o6⟩ := HH.out
    have x6 : ∀ v0 v1 v2 v3 : Value, ExB ((((w4.setCell ⟨w.heap.size + 1 + 1, 0, none⟩ v0).setCell ⟨w.heap.size + 1 + 1, 1, none⟩ v1).setCell ⟨w.heap.size + 1 + 1, 2, none⟩ v2).setCell ⟨w.heap.size + 1 + 1, 3, none⟩ v3) (w.heap.size + 1 + 1 + 1) 48 := fun _ _ _ _ => ExB.set (ExB.set (ExB.set (ExB.set o6)))
    rw [hW5]
    exact ⟨(o1.set4 o5 (by decide) (by decide)).set6 (x6 _ _ _ _) (by decide) (by decide), rowp_set6 (row_set4 o2 o5 (by decide)) (x6 _ _ _ _) (by decide), rowp_set6 (row_set4 o3 o5 (by decide)) (x6 _ _ _ _) (by decide), belp_set6 (bel_set4 o4 (by omega)) (by omega)⟩
  have HPQ : Hid (Blk W5 (w.heap.size + 1 + 1) 29 #[.slice (some ⟨g1, 0, none⟩) l1 l1, .slice (some ⟨g2, 0, none⟩) l2 l2, .slice (some ⟨g3, 0, none⟩) l3 l3, .slice (some ⟨g4, 0, none⟩) l4 l4] ∧ Blk W5 (w.heap.size + 1 + 1 + 1) 48 #[.int .i64 kd', .int .i64 fl', .int .i64 pl', .int .i64 nn', .slice r1 p1 t1, .slice r2 p2 t2]) := by
    have a1' := (((P4.set 0 (.slice (some ⟨g1, 0, none⟩) l1 l1)).set 1 (.slice (some ⟨g2, 0, none⟩) l2 l2)).set 2 (.slice (some ⟨g3, 0, none⟩) l3 l3)).set 3 (.slice (some ⟨g4, 0, none⟩) l4 l4)
    have a2' := (((((a1'.setNe (g' := w.heap.size + 1 + 1 + 1) (j := 0) (y := .int .i64 kd') (by omega)).setNe (g' := w.heap.size + 1 + 1 + 1) (j := 1) (y := .int .i64 fl') (by omega)).setNe (g' := w.heap.size + 1 + 1 + 1) (j := 2) (y := .int .i64 pl') (by omega)).setNe (g' := w.heap.size + 1 + 1 + 1) (j := 3) (y := .int .i64 nn') (by omega)).setNe (g' := w.heap.size + 1 + 1 + 1) (j := 4) (y := .slice r1 p1 t1) (by omega)).setNe (g' := w.heap.size + 1 + 1 + 1) (j := 5) (y := .slice r2 p2 t2) (by omega)
    have c1' := (((Q4.setNe (g' := w.heap.size + 1 + 1) (j := 0) (y := .slice (some ⟨g1, 0, none⟩) l1 l1) (by omega)).setNe (g' := w.heap.size + 1 + 1) (j := 1) (y := .slice (some ⟨g2, 0, none⟩) l2 l2) (by omega)).setNe (g' := w.heap.size + 1 + 1) (j := 2) (y := .slice (some ⟨g3, 0, none⟩) l3 l3) (by omega)).setNe (g' := w.heap.size + 1 + 1) (j := 3) (y := .slice (some ⟨g4, 0, none⟩) l4 l4) (by omega)
    have c2' := (((((c1'.set 0 (.int .i64 kd')).set 1 (.int .i64 fl')).set 2 (.int .i64 pl')).set 3 (.int .i64 nn')).set 4 (.slice r1 p1 t1)).set 5 (.slice r2 p2 t2)
    rw [hW5]
    exact ⟨a2', c2'⟩
  clear hW5
  go_upto_region 3 with fail
  rw [← HW4.out]
  simp only [← HBT.out]
  go_region
  rw [← HW5.out]
  obtain ⟨u0, u1, u2, u3⟩ := HPQ.out.1.four
  obtain ⟨v0, v1, v2, v3, v4, v5⟩ := HPQ.out.2.six
  clear p0' p1' p2' p3' q0' q1' q2' q3' q4' q5' fp fq fp0 fp1 fp2 fp3 fq0 fq1 fq2 fq3 fq4 fq5 n0 n1 n2 n3 t0' t1' t2' t3' t4' t5'
  go_wp2
  refine bodyPost_ret (v := .tuple #[dv (some ⟨g1, 0, none⟩) (some ⟨g2, 0, none⟩) (some ⟨g3, 0, none⟩) (some ⟨g4, 0, none⟩) l1 l2 l3 l4 l1 l2 l3 l4, rp kd' fl' pl' nn' r1 r2 p1 p2 t1 t2]) (by simp [results, Try.results26, go_sem, u0, u1, u2, u3, v0, v1, v2, v3, v4, v5]) rfl ?_
  obtain ⟨o1, o2, o3, o4⟩ := HF.out
  exact ⟨_, _, _, _, _, _, _, _, _, _, _, _, _, _, _, _, _, _, rfl, o1.drew, o2.below (Below.refl _ _).drew, o3.below (Below.refl _ _).drew, HAp.out, o4.drew⟩

end Go.Proofs.Ytcnbbknmofonkaa

namespace Go.Proofs.Ytcnbbknmofonkaa
open Go.RowKit

set_option linter.unusedVariables false

set_option linter.unusedSimpArgs false

theorem allW_of {ws : List Int} (h : ∀ x ∈ ws, 0 ≤ x ∧ x ≤ 65535) : allW ws = true := by
  refine allW_good (fun k hk => ?_)
  rw [List.getD_eq_getElem?_getD, List.getElem?_eq_getElem hk]
  exact h _ (List.getElem_mem hk)

theorem okR6 (k : Nat) (x : Int) (hk : k ≤ 65535) (hx : 0 ≤ x ∧ x ≤ 65535) : okR 6 (k : Int) 0 0 [x] 1 0 = true := by
  have h1 : allW [x] = true := allW_of (by simpa using hx)
  have h2 : inB (k : Int) 0 65535 = true := decide_eq_true (by omega)
  unfold okR; rw [h1, h2]; rfl

theorem okR22 (k : Nat) (x y : Int) (hk : k ≤ 65535) (hx : 0 ≤ x ∧ x ≤ 65535) (hy : 0 ≤ y ∧ y ≤ 65535) : okR 22 (k : Int) 0 0 [x, y] 2 0 = true := by
  have h1 : allW [x, y] = true := allW_of (by intro z hz; simp at hz; rcases hz with rfl | rfl; exact hx; exact hy)
  have h2 : inB (k : Int) 0 65535 = true := decide_eq_true (by omega)
  unfold okR; rw [h1, h2]; rfl

theorem okD_len {l1 l2 l3 l4 : Nat} {hs rs : List Int} (h : okD l1 l2 l3 l4 hs rs = true) : l1 ≤ 64 ∧ l2 ≤ 64 ∧ l3 ≤ 64 ∧ l4 ≤ 64 := by
  unfold okD at h; simp only [Bool.and_eq_true] at h; exact of_decide_eq_true h.1

theorem okD_sm {l1 l2 l3 l4 : Nat} {cs is : List Bool} {hs rs : List Int} (h : okD l1 l2 l3 l4 hs rs = true) (hn : LnD l1 l2 l3 l4 cs is hs rs) : SmD 2000000 cs is hs rs := by
  obtain ⟨e1, e2, e3, e4⟩ := hn
  have := okD_len h
  unfold SmD; omega

theorem implServe_6 (a1 a2 a3 a4 : Option Addr) (l1 l2 l3 l4 c1 c2 c3 c4 : Nat) (cs is : List Bool) (hs rs : List Int) (k : Nat) (x : Int) (q1 : Option Addr) (k1 : Nat) (w : World) (hn : LnD l1 l2 l3 l4 cs is hs rs) (hs0 : SlD w a1 a2 a3 a4 cs is hs rs) (hd : okD l1 l2 l3 l4 hs rs = true) (hk : k < l3) (hx : 0 ≤ x ∧ x ≤ 65535) (hq : SlI w q1 [x]) :
    Calls Try.prog 26 #[dv a1 a2 a3 a4 l1 l2 l3 l4 c1 c2 c3 c4, rq 6 (k : Int) 0 0 q1 none 1 0 k1 0] w fun e w' => SR w w' e cs is (hs.set k x) rs 6 0 (k : Int) 0 [x] [] := by
  have hl := okD_len hd
  have hsm := okD_sm hd hn
  have hok := okR6 k x (by omega) hx
  refine implServe_of a1 a2 a3 a4 l1 l2 l3 l4 c1 c2 c3 c4 cs is hs rs 6 (k : Int) 0 0 q1 none 1 0 k1 0 [x] [] w hn hs0 hsm hq (.inl rfl) cs is (hs.set k x) rs 6 0 (k : Int) 0 [x] [] ?_
  intro W0 u g1 g2 g3 g4 hB hD hq' hq2'
  refine serve_6 _ _ _ _ l1 l2 l3 l4 l1 l2 l3 l4 cs is hs rs (k : Int) 0 0 q1 none 1 0 k1 0 [x] [] W0 u hB hD rfl rfl hq' hq2' (by simp) (by simp) hok hd hsm cs is (hs.set k x) rs [x] [] (k : Int) 0 ?_ ?_
  · intro v s1 s2
    refine hasAll_any _ _ _ _ l1 l2 l3 l4 l1 l2 l3 l4 6 (k : Int) 0 0 q1 none 1 0 k1 0 [x] [] v rfl rfl s1 s2 (by simp) (by simp) 2 (k : Int) 1 (l3 : Int) (by rw [hok]; rfl) (by omega) (by omega) (by omega) (fun h => by omega) (by omega) (by omega) (by omega) (by omega) rfl true ?_
    rw [hsB_2 (fun h => by omega)]
    exact decide_eq_true (by omega)
  · intro v hv hDv
    have := setWord_any _ _ _ _ l1 l2 l3 l4 l1 l2 l3 l4 cs is hs rs 6 0 0 k q1 none 1 0 k1 0 [x] [] W0 v hv hDv rfl hq' hk (by simp) (by omega) (by simp)
    exact this

theorem implServe_22 (a1 a2 a3 a4 : Option Addr) (l1 l2 l3 l4 c1 c2 c3 c4 : Nat) (cs is : List Bool) (hs rs : List Int) (k : Nat) (x y : Int) (q1 : Option Addr) (k1 : Nat) (w : World) (hn : LnD l1 l2 l3 l4 cs is hs rs) (hs0 : SlD w a1 a2 a3 a4 cs is hs rs) (hd : okD l1 l2 l3 l4 hs rs = true) (hk : k < l3) (hx : 0 ≤ x ∧ x ≤ 65535) (hy : 0 ≤ y ∧ y ≤ 65535) (hq : SlI w q1 [x, y]) :
    Calls Try.prog 26 #[dv a1 a2 a3 a4 l1 l2 l3 l4 c1 c2 c3 c4, rq 22 (k : Int) 0 0 q1 none 2 0 k1 0] w fun e w' => SR w w' e cs is (hs.set k (mskI (hs.getD k 0) x y)) rs 22 0 (k : Int) 0 [x, y] [] := by
  have hl := okD_len hd
  have hsm := okD_sm hd hn
  have hok := okR22 k x y (by omega) hx hy
  refine implServe_of a1 a2 a3 a4 l1 l2 l3 l4 c1 c2 c3 c4 cs is hs rs 22 (k : Int) 0 0 q1 none 2 0 k1 0 [x, y] [] w hn hs0 hsm hq (.inl rfl) cs is (hs.set k (mskI (hs.getD k 0) x y)) rs 22 0 (k : Int) 0 [x, y] [] ?_
  intro W0 u g1 g2 g3 g4 hB hD hq' hq2'
  refine serve_22 _ _ _ _ l1 l2 l3 l4 l1 l2 l3 l4 cs is hs rs (k : Int) 0 0 q1 none 2 0 k1 0 [x, y] [] W0 u hB hD rfl rfl hq' hq2' (by simp) (by simp) hok hd hsm cs is (hs.set k (mskI (hs.getD k 0) x y)) rs [x, y] [] (k : Int) 0 ?_ ?_
  · intro v s1 s2
    refine hasAll_any _ _ _ _ l1 l2 l3 l4 l1 l2 l3 l4 22 (k : Int) 0 0 q1 none 2 0 k1 0 [x, y] [] v rfl rfl s1 s2 (by simp) (by simp) 2 (k : Int) 1 (l3 : Int) (by rw [hok]; rfl) (by omega) (by omega) (by omega) (fun h => by omega) (by omega) (by omega) (by omega) (by omega) rfl true ?_
    rw [hsB_2 (fun h => by omega)]
    exact decide_eq_true (by omega)
  · intro v hv hDv
    have := maskWord_any _ _ _ _ l1 l2 l3 l4 l1 l2 l3 l4 cs is hs rs 22 0 0 k q1 none 2 0 k1 0 [x, y] [] W0 v hv hDv rfl hq' hk (by simp) (by omega) (by simp)
    exact this

end Go.Proofs.Ytcnbbknmofonkaa

namespace Go.Proofs.Ytcnbbknmofonkaa
open Go.RowKit

set_option linter.unusedVariables false

set_option linter.unusedSimpArgs false

/-- What serving comes to. -/
structure SvR where
  cs : List Bool
  hs : List Int
  kd : Int
  fl : Int
  pl : Int
  nn : Int
  ws : List Int
  bs : List Bool

/-- Is all there? -/
def svAll (l1 l2 l3 l4 : Nat) (kd pl nn wa : Int) (m1 m2 : Nat) : Bool := hsB ([(l1 : Int), (l2 : Int), (l3 : Int), (l4 : Int)].getD (spc0 kd).toNat 0) pl (spcN kd nn m1 m2) kd wa m1

/-- Bits told, in whole bytes. -/
def tB8 (cs : List Bool) (k N : Nat) : List Bool := (cs.drop k).take N ++ List.replicate (8 * ((N + 7) / 8) - N) false

def svDo (cs is : List Bool) (hs rs : List Int) (kd pl nn wa : Int) (ws : List Int) (bs : List Bool) : SvR :=
  if kd = 1 then ⟨cs, hs, 1, 0, 0, 0, [], tB8 cs pl.toNat nn.toNat⟩
  else if kd = 2 then ⟨cs, hs, 2, 0, 0, 0, [], tB8 is pl.toNat nn.toNat⟩
  else if kd = 3 then ⟨cs, hs, 3, 0, 0, 0, (hs.drop pl.toNat).take nn.toNat, []⟩
  else if kd = 4 then ⟨cs, hs, 4, 0, 0, 0, (rs.drop pl.toNat).take nn.toNat, []⟩
  else if kd = 5 then ⟨cs.set pl.toNat (bs.getD 0 false), hs, 5, 0, pl, 0, [], bs⟩
  else if kd = 6 then ⟨cs, hs.set pl.toNat (ws.getD 0 0), 6, 0, pl, 0, ws, []⟩
  else if kd = 15 then ⟨wr cs pl.toNat bs, hs, 15, 0, pl, bs.length, [], []⟩
  else if kd = 16 then ⟨cs, wr hs pl.toNat ws, 16, 0, pl, ws.length, [], []⟩
  else if kd = 22 then ⟨cs, hs.set pl.toNat (mskI (hs.getD pl.toNat 0) (ws.getD 0 0) (ws.getD 1 0)), 22, 0, pl, 0, ws, []⟩
  else ⟨cs, wr hs wa.toNat ws, 23, 0, 0, 0, ((wr hs wa.toNat ws).drop pl.toNat).take nn.toNat, []⟩

def svV (l1 l2 l3 l4 : Nat) (cs is : List Bool) (hs rs : List Int) (kd pl nn wa : Int) (m1 m2 : Nat) (ws : List Int) (bs : List Bool) : SvR :=
  if okR kd pl nn wa ws m1 m2 = false then ⟨cs, hs, 0, 0, 0, 0, [], []⟩
  else if okD l1 l2 l3 l4 hs rs = false then ⟨cs, hs, kd, 4, 0, 0, [], []⟩
  else if svAll l1 l2 l3 l4 kd pl nn wa m1 m2 = false then ⟨cs, hs, kd, 2, 0, 0, [], []⟩
  else svDo cs is hs rs kd pl nn wa ws bs

theorem okR_f {kd pl nn wa : Int} {ws : List Int} {m1 m2 : Nat} (h : okR kd pl nn wa ws m1 m2 = true) : (0 ≤ pl ∧ pl ≤ 65535) ∧
    ((kd = 1 ∧ 1 ≤ nn ∧ nn ≤ 2000 ∧ m1 = 0 ∧ m2 = 0 ∧ wa = 0) ∨ (kd = 2 ∧ 1 ≤ nn ∧ nn ≤ 2000 ∧ m1 = 0 ∧ m2 = 0 ∧ wa = 0) ∨ (kd = 3 ∧ 1 ≤ nn ∧ nn ≤ 125 ∧ m1 = 0 ∧ m2 = 0 ∧ wa = 0) ∨ (kd = 4 ∧ 1 ≤ nn ∧ nn ≤ 125 ∧ m1 = 0 ∧ m2 = 0 ∧ wa = 0)
     ∨ (kd = 5 ∧ nn = 0 ∧ m1 = 0 ∧ m2 = 1 ∧ wa = 0) ∨ (kd = 6 ∧ nn = 0 ∧ m1 = 1 ∧ m2 = 0 ∧ wa = 0) ∨ (kd = 15 ∧ nn = 0 ∧ m1 = 0 ∧ 1 ≤ m2 ∧ m2 ≤ 1968 ∧ wa = 0) ∨ (kd = 16 ∧ nn = 0 ∧ m2 = 0 ∧ 1 ≤ m1 ∧ m1 ≤ 123 ∧ wa = 0)
     ∨ (kd = 22 ∧ nn = 0 ∧ m1 = 2 ∧ m2 = 0 ∧ wa = 0) ∨ (kd = 23 ∧ 1 ≤ nn ∧ nn ≤ 125 ∧ m2 = 0 ∧ 1 ≤ m1 ∧ m1 ≤ 121 ∧ 0 ≤ wa ∧ wa ≤ 65535)) := by
  unfold okR at h
  simp only [Bool.and_eq_true] at h
  obtain ⟨_, h2, h3⟩ := h
  refine ⟨inB_yes h2, ?_⟩
  by_cases e1 : kd = 1
  · subst e1
    simp [okK, zrB, inB, fitB] at h3
    exact .inl ⟨rfl, by omega, by omega, by omega, by omega, by omega⟩
  by_cases e2 : kd = 2
  · subst e2
    simp [okK, zrB, inB, fitB] at h3
    exact .inr (.inl ⟨rfl, by omega, by omega, by omega, by omega, by omega⟩)
  by_cases e3 : kd = 3
  · subst e3
    simp [okK, zrB, inB, fitB] at h3
    exact .inr (.inr (.inl ⟨rfl, by omega, by omega, by omega, by omega, by omega⟩))
  by_cases e4 : kd = 4
  · subst e4
    simp [okK, zrB, inB, fitB] at h3
    exact .inr (.inr (.inr (.inl ⟨rfl, by omega, by omega, by omega, by omega, by omega⟩)))
  by_cases e5 : kd = 5
  · subst e5
    simp [okK, zrB, inB, fitB] at h3
    exact .inr (.inr (.inr (.inr (.inl ⟨rfl, by omega, by omega, by omega, by omega⟩))))
  by_cases e6 : kd = 6
  · subst e6
    simp [okK, zrB, inB, fitB] at h3
    exact .inr (.inr (.inr (.inr (.inr (.inl ⟨rfl, by omega, by omega, by omega, by omega⟩)))))
  by_cases e15 : kd = 15
  · subst e15
    simp [okK, zrB, inB, fitB] at h3
    exact .inr (.inr (.inr (.inr (.inr (.inr (.inl ⟨rfl, by omega, by omega, by omega, by omega, by omega⟩))))))
  by_cases e16 : kd = 16
  · subst e16
    simp [okK, zrB, inB, fitB] at h3
    exact .inr (.inr (.inr (.inr (.inr (.inr (.inr (.inl ⟨rfl, by omega, by omega, by omega, by omega, by omega⟩)))))))
  by_cases e22 : kd = 22
  · subst e22
    simp [okK, zrB, inB, fitB] at h3
    exact .inr (.inr (.inr (.inr (.inr (.inr (.inr (.inr (.inl ⟨rfl, by omega, by omega, by omega, by omega⟩))))))))
  by_cases e23 : kd = 23
  · subst e23
    simp [okK, zrB, inB, fitB] at h3
    exact .inr (.inr (.inr (.inr (.inr (.inr (.inr (.inr (.inr (⟨rfl, by omega, by omega, by omega, by omega, by omega, by omega, by omega⟩)))))))))
  simp [okK, e1, e2, e3, e4, e5, e6, e15, e16, e22, e23] at h3

theorem okR_w {kd pl nn wa : Int} {ws : List Int} {m1 m2 : Nat} (h : okR kd pl nn wa ws m1 m2 = true) : allW ws = true := by
  unfold okR at h
  simp only [Bool.and_eq_true] at h
  exact h.1

set_option maxHeartbeats 1000000 in
theorem hasAll_q (a1 a2 a3 a4 : Option Addr) (l1 l2 l3 l4 c1 c2 c3 c4 : Nat) (kd pl nn wa : Int) (q1 q2 : Option Addr) (m1 m2 k1 k2 : Nat) (ws : List Int) (bs : List Bool) (w : World) (h1 : m1 = ws.length) (h2 : m2 = bs.length) (s1 : SlI w q1 ws) (s2 : SlB w q2 bs) (hl1 : ws.length ≤ 2000000) (hl2 : bs.length ≤ 2000000) (hok : okR kd pl nn wa ws m1 m2 = true) (n1 : l1 ≤ 2000000) (n2 : l2 ≤ 2000000) (n3 : l3 ≤ 2000000) (n4 : l4 ≤ 2000000) (b : Bool) (hb : svAll l1 l2 l3 l4 kd pl nn wa m1 m2 = b) :
    Calls Try.prog 83 #[dv a1 a2 a3 a4 l1 l2 l3 l4 c1 c2 c3 c4, rq kd pl nn wa q1 q2 m1 m2 k1 k2] w fun e w' => e = .returned (.bool b) ∧ Below w.heap.size w w' := by
  have f := okR_f hok
  have hs0 : 0 ≤ spc0 kd ∧ spc0 kd < 4 := by unfold spc0; split <;> (try split) <;> (try split) <;> omega
  have hsN : 0 ≤ spcN kd nn m1 m2 ∧ spcN kd nn m1 m2 ≤ 2000000 := by unfold spcN; split <;> (try split) <;> (try split) <;> omega
  refine hasAll_any a1 a2 a3 a4 l1 l2 l3 l4 c1 c2 c3 c4 kd pl nn wa q1 q2 m1 m2 k1 k2 ws bs w h1 h2 s1 s2 hl1 hl2 (spc0 kd).toNat pl (spcN kd nn m1 m2) _ ?_ (by omega) f.1 hsN (fun h => by omega) n1 n2 n3 n4 rfl b hb
  rw [hok]
  unfold spcV
  rw [show ((spc0 kd).toNat : Int) = spc0 kd by omega]
  rfl

theorem svAll_le {l1 l2 l3 l4 : Nat} {kd pl nn wa : Int} {m1 m2 : Nat} (h : svAll l1 l2 l3 l4 kd pl nn wa m1 m2 = true) : pl + spcN kd nn m1 m2 ≤ [(l1 : Int), (l2 : Int), (l3 : Int), (l4 : Int)].getD (spc0 kd).toNat 0 ∧ (kd = 23 → wa + m1 ≤ (l3 : Int)) := by
  unfold svAll hsB at h
  split at h
  · exact absurd h (by decide)
  · rename_i hh
    refine ⟨of_decide_eq_true h, fun h23 => ?_⟩
    have : spc0 kd = 2 := by rw [h23]; rfl
    rw [this] at hh
    simp at hh
    have := hh h23
    omega

set_option maxRecDepth 20000 in
set_option maxHeartbeats 4000000 in
theorem serve_q (a1 a2 a3 a4 : Option Addr) (l1 l2 l3 l4 c1 c2 c3 c4 : Nat) (cs is : List Bool) (hs rs : List Int) (kd pl nn wa : Int) (q1 q2 : Option Addr) (m1 m2 k1 k2 : Nat) (ws : List Int) (bs : List Bool) (W0 w : World) (hB : Below W0.heap.size W0 w) (hD : OwnD w W0.heap.size a1 a2 a3 a4 l1 l2 l3 l4 c1 c2 c3 c4 cs is hs rs) (hn : m1 = ws.length) (hn2 : m2 = bs.length) (hq : SlI W0 q1 ws) (hq2 : SlB W0 q2 bs) (hl : ws.length ≤ 2000000) (hl2 : bs.length ≤ 2000000) (hsm : SmD 2000000 cs is hs rs) (V : SvR) (hV : svV l1 l2 l3 l4 cs is hs rs kd pl nn wa m1 m2 ws bs = V) :
    Calls Try.prog 42 #[dv a1 a2 a3 a4 l1 l2 l3 l4 c1 c2 c3 c4, rq kd pl nn wa q1 q2 m1 m2 k1 k2] w fun e w' => SV W0 w w' e a1 a2 a3 a4 l1 l2 l3 l4 c1 c2 c3 c4 V.cs is V.hs rs V.kd V.fl V.pl V.nn V.ws V.bs := by
  have hln := hD.sl.1
  have hlim : l1 ≤ 2000000 ∧ l2 ≤ 2000000 ∧ l3 ≤ 2000000 ∧ l4 ≤ 2000000 := by
    obtain ⟨e1, e2, e3, e4⟩ := hln
    obtain ⟨g1, g2, g3, g4⟩ := hsm
    omega
  cases hok : okR kd pl nn wa ws m1 m2
  · obtain rfl : V = ⟨cs, hs, 0, 0, 0, 0, [], []⟩ := by rw [← hV]; unfold svV; rw [if_pos hok]
    exact serve_no a1 a2 a3 a4 l1 l2 l3 l4 c1 c2 c3 c4 cs is hs rs kd pl nn wa q1 q2 m1 m2 k1 k2 ws bs W0 w hB hD hn hn2 hq hq2 hl hl2 hsm hok
  cases hd : okD l1 l2 l3 l4 hs rs
  · obtain rfl : V = ⟨cs, hs, kd, 4, 0, 0, [], []⟩ := by rw [← hV]; unfold svV; rw [hok, if_neg (by decide), if_pos hd]
    exact serve_dev a1 a2 a3 a4 l1 l2 l3 l4 c1 c2 c3 c4 cs is hs rs kd pl nn wa q1 q2 m1 m2 k1 k2 ws bs W0 w hB hD hn hn2 hq hq2 hl hl2 hsm hok hd
  cases ha : svAll l1 l2 l3 l4 kd pl nn wa m1 m2
  · obtain rfl : V = ⟨cs, hs, kd, 2, 0, 0, [], []⟩ := by rw [← hV]; unfold svV; rw [hok, if_neg (by decide), hd, if_neg (by decide), if_pos ha]
    exact serve_at a1 a2 a3 a4 l1 l2 l3 l4 c1 c2 c3 c4 cs is hs rs kd pl nn wa q1 q2 m1 m2 k1 k2 ws bs W0 w hB hD hn hn2 hq hq2 hl hl2 hsm hok hd (fun v s1 s2 => hasAll_q a1 a2 a3 a4 l1 l2 l3 l4 c1 c2 c3 c4 kd pl nn wa q1 q2 m1 m2 k1 k2 ws bs v hn hn2 s1 s2 hl hl2 hok hlim.1 hlim.2.1 hlim.2.2.1 hlim.2.2.2 false ha)
  have hVd : svDo cs is hs rs kd pl nn wa ws bs = V := by rw [← hV]; unfold svV; rw [hok, if_neg (by decide), hd, if_neg (by decide), ha, if_neg (by decide)]
  have hle := svAll_le ha
  have hA : ∀ v : World, SlI v q1 ws → SlB v q2 bs → Calls Try.prog 83 #[dv a1 a2 a3 a4 l1 l2 l3 l4 c1 c2 c3 c4, rq kd pl nn wa q1 q2 m1 m2 k1 k2] v fun e w' => e = .returned (.bool true) ∧ Below v.heap.size v w' := fun v s1 s2 => hasAll_q a1 a2 a3 a4 l1 l2 l3 l4 c1 c2 c3 c4 kd pl nn wa q1 q2 m1 m2 k1 k2 ws bs v hn hn2 s1 s2 hl hl2 hok hlim.1 hlim.2.1 hlim.2.2.1 hlim.2.2.2 true ha
  obtain ⟨⟨hp0, hp1⟩, hf⟩ := okR_f hok
  obtain ⟨k, rfl⟩ := Int.eq_ofNat_of_zero_le hp0
  clear hV ha
  rcases hf with h1 | h2 | h3 | h4 | h5 | h6 | h15 | h16 | h22 | h23
  · obtain ⟨rfl, hN1, hN2, hm1, hm2, rfl⟩ := h1
    obtain ⟨N, rfl⟩ := Int.eq_ofNat_of_zero_le (show 0 ≤ nn by omega)
    obtain rfl : V = ⟨cs, hs, 1, 0, 0, 0, [], tB8 cs k N⟩ := by rw [← hVd]; rfl
    have hle1 := hle.1
    have hle2 := hle.2
    simp [spc0, spcN] at hle1 hle2
    exact serve_1 a1 a2 a3 a4 l1 l2 l3 l4 c1 c2 c3 c4 cs is hs rs (k : Int) (N : Int) 0 q1 q2 m1 m2 k1 k2 ws bs W0 w hB hD hn hn2 hq hq2 hl hl2 hok hd hsm cs is hs rs ([]) (tB8 cs k N) 0 0 hA (fun v hv hDv => tellCoils_any a1 a2 a3 a4 l1 l2 l3 l4 c1 c2 c3 c4 cs is hs rs 1 0 k N q1 q2 m1 m2 k1 k2 W0 v hv hDv (by omega) (by omega) (by omega) (by omega))
  · obtain ⟨rfl, hN1, hN2, hm1, hm2, rfl⟩ := h2
    obtain ⟨N, rfl⟩ := Int.eq_ofNat_of_zero_le (show 0 ≤ nn by omega)
    obtain rfl : V = ⟨cs, hs, 2, 0, 0, 0, [], tB8 is k N⟩ := by rw [← hVd]; rfl
    have hle1 := hle.1
    have hle2 := hle.2
    simp [spc0, spcN] at hle1 hle2
    exact serve_2 a1 a2 a3 a4 l1 l2 l3 l4 c1 c2 c3 c4 cs is hs rs (k : Int) (N : Int) 0 q1 q2 m1 m2 k1 k2 ws bs W0 w hB hD hn hn2 hq hq2 hl hl2 hok hd hsm cs is hs rs ([]) (tB8 is k N) 0 0 hA (fun v hv hDv => tellInputs_any a1 a2 a3 a4 l1 l2 l3 l4 c1 c2 c3 c4 cs is hs rs 2 0 k N q1 q2 m1 m2 k1 k2 W0 v hv hDv (by omega) (by omega) (by omega) (by omega))
  · obtain ⟨rfl, hN1, hN2, hm1, hm2, rfl⟩ := h3
    obtain ⟨N, rfl⟩ := Int.eq_ofNat_of_zero_le (show 0 ≤ nn by omega)
    obtain rfl : V = ⟨cs, hs, 3, 0, 0, 0, (hs.drop k).take N, []⟩ := by rw [← hVd]; rfl
    have hle1 := hle.1
    have hle2 := hle.2
    simp [spc0, spcN] at hle1 hle2
    exact serve_3 a1 a2 a3 a4 l1 l2 l3 l4 c1 c2 c3 c4 cs is hs rs (k : Int) (N : Int) 0 q1 q2 m1 m2 k1 k2 ws bs W0 w hB hD hn hn2 hq hq2 hl hl2 hok hd hsm cs is hs rs ((hs.drop k).take N) ([]) 0 0 hA (fun v hv hDv => tellHolding_any a1 a2 a3 a4 l1 l2 l3 l4 c1 c2 c3 c4 cs is hs rs 3 0 k N q1 q2 m1 m2 k1 k2 W0 v hv hDv (by omega) (by omega) (by omega) (by omega))
  · obtain ⟨rfl, hN1, hN2, hm1, hm2, rfl⟩ := h4
    obtain ⟨N, rfl⟩ := Int.eq_ofNat_of_zero_le (show 0 ≤ nn by omega)
    obtain rfl : V = ⟨cs, hs, 4, 0, 0, 0, (rs.drop k).take N, []⟩ := by rw [← hVd]; rfl
    have hle1 := hle.1
    have hle2 := hle.2
    simp [spc0, spcN] at hle1 hle2
    exact serve_4 a1 a2 a3 a4 l1 l2 l3 l4 c1 c2 c3 c4 cs is hs rs (k : Int) (N : Int) 0 q1 q2 m1 m2 k1 k2 ws bs W0 w hB hD hn hn2 hq hq2 hl hl2 hok hd hsm cs is hs rs ((rs.drop k).take N) ([]) 0 0 hA (fun v hv hDv => tellWords_any a1 a2 a3 a4 l1 l2 l3 l4 c1 c2 c3 c4 cs is hs rs 4 0 k N q1 q2 m1 m2 k1 k2 W0 v hv hDv (by omega) (by omega) (by omega) (by omega))
  · obtain ⟨rfl, rfl, hm1, hm2, rfl⟩ := h5
    obtain rfl : V = ⟨cs.set k (bs.getD 0 false), hs, 5, 0, (k : Int), 0, [], bs⟩ := by rw [← hVd]; rfl
    have hle1 := hle.1
    have hle2 := hle.2
    simp [spc0, spcN] at hle1 hle2
    exact serve_5 a1 a2 a3 a4 l1 l2 l3 l4 c1 c2 c3 c4 cs is hs rs (k : Int) 0 0 q1 q2 m1 m2 k1 k2 ws bs W0 w hB hD hn hn2 hq hq2 hl hl2 hok hd hsm (cs.set k (bs.getD 0 false)) is hs rs [] bs (k : Int) 0 hA (fun v hv hDv => setCoil_any a1 a2 a3 a4 l1 l2 l3 l4 c1 c2 c3 c4 cs is hs rs 5 0 0 k q1 q2 m1 m2 k1 k2 ws bs W0 v hv hDv hn2 hq2 (by omega) (by omega) hl2 (by omega))
  · obtain ⟨rfl, rfl, hm1, hm2, rfl⟩ := h6
    obtain rfl : V = ⟨cs, hs.set k (ws.getD 0 0), 6, 0, (k : Int), 0, ws, []⟩ := by rw [← hVd]; rfl
    have hle1 := hle.1
    have hle2 := hle.2
    simp [spc0, spcN] at hle1 hle2
    exact serve_6 a1 a2 a3 a4 l1 l2 l3 l4 c1 c2 c3 c4 cs is hs rs (k : Int) 0 0 q1 q2 m1 m2 k1 k2 ws bs W0 w hB hD hn hn2 hq hq2 hl hl2 hok hd hsm cs is (hs.set k (ws.getD 0 0)) rs ws [] (k : Int) 0 hA (fun v hv hDv => setWord_any a1 a2 a3 a4 l1 l2 l3 l4 c1 c2 c3 c4 cs is hs rs 6 0 0 k q1 q2 m1 m2 k1 k2 ws bs W0 v hv hDv hn hq (by omega) hl (by omega) (by omega))
  · obtain ⟨rfl, rfl, hm1, hm2, hm3, rfl⟩ := h15
    obtain rfl : V = ⟨wr cs k bs, hs, 15, 0, (k : Int), bs.length, [], []⟩ := by rw [← hVd]; rfl
    have hle1 := hle.1
    have hle2 := hle.2
    simp [spc0, spcN] at hle1 hle2
    have hmi : (m2 : Int) = bs.length := by rw [← hn2]
    exact serve_15 a1 a2 a3 a4 l1 l2 l3 l4 c1 c2 c3 c4 cs is hs rs (k : Int) 0 0 q1 q2 m1 m2 k1 k2 ws bs W0 w hB hD hn hn2 hq hq2 hl hl2 hok hd hsm (wr cs k bs) is hs rs [] [] (k : Int) (bs.length : Int) hA (fun v hv hDv => (hn2 ▸ setCoils_any a1 a2 a3 a4 l1 l2 l3 l4 c1 c2 c3 c4 cs is hs rs 15 0 0 k q1 q2 m1 m2 k1 k2 ws bs W0 v hv hDv hn2 hq2 (by omega) (by omega) (by omega) (by omega)))
  · obtain ⟨rfl, rfl, hm2, hm1, hm3, rfl⟩ := h16
    obtain rfl : V = ⟨cs, wr hs k ws, 16, 0, (k : Int), ws.length, [], []⟩ := by rw [← hVd]; rfl
    have hle1 := hle.1
    have hle2 := hle.2
    simp [spc0, spcN] at hle1 hle2
    have hmi : (m1 : Int) = ws.length := by rw [← hn]
    exact serve_16 a1 a2 a3 a4 l1 l2 l3 l4 c1 c2 c3 c4 cs is hs rs (k : Int) 0 0 q1 q2 m1 m2 k1 k2 ws bs W0 w hB hD hn hn2 hq hq2 hl hl2 hok hd hsm cs is (wr hs k ws) rs [] [] (k : Int) (ws.length : Int) hA (fun v hv hDv => (hn ▸ setWords_any a1 a2 a3 a4 l1 l2 l3 l4 c1 c2 c3 c4 cs is hs rs 16 0 0 k q1 q2 m1 m2 k1 k2 ws bs W0 v hv hDv hn hq (by omega) (by omega) (by omega) (by omega)))
  · obtain ⟨rfl, rfl, hm1, hm2, rfl⟩ := h22
    obtain rfl : V = ⟨cs, hs.set k (mskI (hs.getD k 0) (ws.getD 0 0) (ws.getD 1 0)), 22, 0, (k : Int), 0, ws, []⟩ := by rw [← hVd]; rfl
    have hle1 := hle.1
    have hle2 := hle.2
    simp [spc0, spcN] at hle1 hle2
    exact serve_22 a1 a2 a3 a4 l1 l2 l3 l4 c1 c2 c3 c4 cs is hs rs (k : Int) 0 0 q1 q2 m1 m2 k1 k2 ws bs W0 w hB hD hn hn2 hq hq2 hl hl2 hok hd hsm cs is (hs.set k (mskI (hs.getD k 0) (ws.getD 0 0) (ws.getD 1 0))) rs ws [] (k : Int) 0 hA (fun v hv hDv => maskWord_any a1 a2 a3 a4 l1 l2 l3 l4 c1 c2 c3 c4 cs is hs rs 22 0 0 k q1 q2 m1 m2 k1 k2 ws bs W0 v hv hDv hn hq (by omega) hl (by omega) (by omega))
  · obtain ⟨rfl, hN1, hN2, hm2, hm1, hm3, hw1, hw2⟩ := h23
    obtain ⟨N, rfl⟩ := Int.eq_ofNat_of_zero_le (show 0 ≤ nn by omega)
    obtain ⟨j, rfl⟩ := Int.eq_ofNat_of_zero_le hw1
    obtain rfl : V = ⟨cs, wr hs j ws, 23, 0, 0, 0, ((wr hs j ws).drop k).take N, []⟩ := by rw [← hVd]; rfl
    have hle1 := hle.1
    have hle2 := hle.2
    simp [spc0, spcN] at hle1 hle2
    exact serve_23 a1 a2 a3 a4 l1 l2 l3 l4 c1 c2 c3 c4 cs is hs rs (k : Int) (N : Int) (j : Int) q1 q2 m1 m2 k1 k2 ws bs W0 w hB hD hn hn2 hq hq2 hl hl2 hok hd hsm cs is (wr hs j ws) rs (((wr hs j ws).drop k).take N) [] 0 0 hA (fun v hv hDv => setAndTell_any a1 a2 a3 a4 l1 l2 l3 l4 c1 c2 c3 c4 cs is hs rs 23 0 0 k q1 q2 m1 m2 k1 k2 ws bs W0 v hv hDv N j hn hq (by omega) (by omega) (by omega) (by omega) (by omega) (by omega) (by omega))

end Go.Proofs.Ytcnbbknmofonkaa

namespace Go.Proofs.Ytcnbbknmofonkaa
open Go.RowKit

theorem getD_eq {l : Array Bool} {i : Nat} (h : i < l.size) (x y : Bool) : l.getD i x = l.getD i y := by
  simp [Array.getD, h]

theorem count_set (l : List Bool) (i : Nat) (h : l[i]? = some false) : (l.set i true).count false + 1 = l.count false := by
  induction l generalizing i with
  | nil => simp at h
  | cons x r ih =>
    cases i with
    | zero => simp at h; subst h; simp
    | succ i => simp at h; have := ih i h; cases x <;> simp <;> omega

theorem ready_mem {md : Region.Mode} {ops : Array Oper} {l : Array Bool} {i : Nat} (h : i ∈ Region.ready md ops l) :
    i < ops.size ∧ l.getD i true = false ∧ ∀ o, ops[i]? = some o → ∀ e ∈ o.after, Region.binds md e = true → l.getD e.on false = true := by
  unfold Region.ready at h
  rw [List.mem_filter] at h
  obtain ⟨h1, h2⟩ := h
  simp only [Bool.and_eq_true, Bool.not_eq_true'] at h2
  refine ⟨List.mem_range.1 h1, h2.1, fun o ho e he hb => ?_⟩
  have h3 := h2.2
  rw [ho] at h3
  simp only [Option.map_some, Option.getD_some, Array.all_eq_true_iff_forall_mem] at h3
  have h4 := h3 e he
  simpa [hb] using h4

theorem ready_of {md : Region.Mode} {ops : Array Oper} {l : Array Bool} {i : Nat} {o : Oper} (hi : i < ops.size) (ho : ops[i]? = some o) (hl : l.getD i true = false) (hd : ∀ e ∈ o.after, Region.binds md e = true → l.getD e.on false = true) : i ∈ Region.ready md ops l := by
  unfold Region.ready
  rw [List.mem_filter]
  refine ⟨List.mem_range.2 hi, ?_⟩
  simp only [Bool.and_eq_true, Bool.not_eq_true']
  refine ⟨hl, ?_⟩
  rw [ho]
  simp only [Option.map_some, Option.getD_some, Array.all_eq_true_iff_forall_mem]
  intro e he
  cases hb : Region.binds md e
  · rfl
  · simpa using hd e he hb

/-- Every operation waits for earlier ones alone. -/
def ordB (md : Region.Mode) (ops : Array Oper) : Bool := (List.range ops.size).all fun i => ((ops[i]?).map (·.after.all fun e => !Region.binds md e || decide (e.on < i))).getD true

theorem ordB_of {md : Region.Mode} {ops : Array Oper} (h : ordB md ops = true) : ∀ i o, ops[i]? = some o → ∀ e ∈ o.after, Region.binds md e = true → e.on < i := by
  intro i o ho e he hb
  unfold ordB at h
  rw [List.all_eq_true] at h
  have hi : i < ops.size := (Array.getElem?_eq_some_iff.1 ho).1
  have h1 := h i (List.mem_range.2 hi)
  rw [ho] at h1
  simp only [Option.map_some, Option.getD_some, Array.all_eq_true_iff_forall_mem] at h1
  have h2 := h1 e he
  simpa [hb] using h2

theorem wpAny_inv {P : Program} {ops : Array Oper} {Q : Exit → Act → World → Prop} {md : Region.Mode} (Inv : Array Bool → Act → World → Prop)
    (hordB : ordB md ops = true)
    (hend : ∀ l a w, Inv l a w → (∀ i, i < ops.size → l.getD i true = true) → Q .normal a w)
    (hstep : ∀ l a w i o, Inv l a w → ops[i]? = some o → l.getD i true = false → (∀ e ∈ o.after, Region.binds md e = true → l.getD e.on false = true) →
      ∀ K : Act → World → Prop, (∀ a w, Inv (l.setIfInBounds i true) a w → K a w) → if Region.wanted o (yielded ops a.tmps) = true then Oper.wp P o a w K Q else K (a.put o.dst undef) w) :
    ∀ (fuel : Nat) (l : Array Bool) (a : Act) (w : World), l.size = ops.size → l.toList.count false ≤ fuel → Inv l a w → wpAny P md ops Q fuel l a w := by
  have hord := ordB_of hordB
  have hall : ∀ l : Array Bool, l.size = ops.size → Region.ready md ops l = [] → ∀ i, i < ops.size → l.getD i true = true := by
    intro l hs hr i
    induction i using Nat.strongRecOn with
    | ind i ih =>
      intro hi
      cases hl : l.getD i true
      · obtain ⟨o, ho⟩ : ∃ o, ops[i]? = some o := ⟨ops[i], by simp [hi]⟩
        have : i ∈ Region.ready md ops l := ready_of hi ho hl (fun e he hb => by
          have h1 := hord i o ho e he hb
          rw [getD_eq (by omega) false true]
          exact ih e.on h1 (by omega))
        rw [hr] at this
        simp at this
      · rfl
  intro fuel
  induction fuel with
  | zero =>
    intro l a w hs hc hI
    have hr : Region.ready md ops l = [] := by
      apply List.eq_nil_iff_forall_not_mem.2
      intro i hi
      obtain ⟨h1, h2, _⟩ := ready_mem hi
      have h3 : l.toList[i]? = some false := by
        have h4 : i < l.size := by omega
        rw [Array.getElem?_toList]
        simp [Array.getD, h4] at h2
        simp [h4, h2]
      have := count_set l.toList i h3
      omega
    exact ⟨hr, hend l a w hI (hall l hs hr)⟩
  | succ fuel ih =>
    intro l a w hs hc hI
    refine ⟨fun hr => hend l a w hI (hall l hs hr), fun i hi => ?_⟩
    obtain ⟨h1, h2, h3⟩ := ready_mem hi
    obtain ⟨o, ho⟩ : ∃ o, ops[i]? = some o := ⟨ops[i], by simp [h1]⟩
    refine wpOp_step ho (fun K' hK' => hstep l a w i o hI ho h2 (h3 o ho) K' (fun a' w' hI' => hK' a' w' (ih _ a' w' (by simpa using hs) ?_ hI')))
    have h4 : l.toList[i]? = some false := by
      have h5 : i < l.size := by omega
      rw [Array.getElem?_toList]
      simp [Array.getD, h5] at h2
      simp [h5, h2]
    have := count_set l.toList i h4
    rw [Array.toList_setIfInBounds]
    omega

end Go.Proofs.Ytcnbbknmofonkaa

namespace Go.Proofs.Ytcnbbknmofonkaa
open Go.RowKit

set_option linter.unusedVariables false

set_option linter.unusedSimpArgs false

theorem implServe_q (a1 a2 a3 a4 : Option Addr) (l1 l2 l3 l4 c1 c2 c3 c4 : Nat) (cs is : List Bool) (hs rs : List Int) (kd pl nn wa : Int) (q1 q2 : Option Addr) (m1 m2 k1 k2 : Nat) (ws : List Int) (bs : List Bool) (w : World) (hn : LnD l1 l2 l3 l4 cs is hs rs) (hs0 : SlD w a1 a2 a3 a4 cs is hs rs) (hsm : SmD 2000000 cs is hs rs) (hq : SlI w q1 ws) (hq2 : SlB w q2 bs) (h1 : m1 = ws.length) (h2 : m2 = bs.length) (hl : ws.length ≤ 2000000) (hl2 : bs.length ≤ 2000000) (V : SvR) (hV : svV l1 l2 l3 l4 cs is hs rs kd pl nn wa m1 m2 ws bs = V) :
    Calls Try.prog 26 #[dv a1 a2 a3 a4 l1 l2 l3 l4 c1 c2 c3 c4, rq kd pl nn wa q1 q2 m1 m2 k1 k2] w fun e w' => SR w w' e V.cs is V.hs rs V.kd V.fl V.pl V.nn V.ws V.bs := by
  refine implServe_of a1 a2 a3 a4 l1 l2 l3 l4 c1 c2 c3 c4 cs is hs rs kd pl nn wa q1 q2 m1 m2 k1 k2 ws bs w hn hs0 hsm hq hq2 V.cs is V.hs rs V.kd V.fl V.pl V.nn V.ws V.bs ?_
  intro W0 u g1 g2 g3 g4 hB hD hq' hq2'
  exact serve_q _ _ _ _ l1 l2 l3 l4 l1 l2 l3 l4 cs is hs rs kd pl nn wa q1 q2 m1 m2 k1 k2 ws bs W0 u hB hD h1 h2 hq' hq2' hl hl2 hsm V hV

theorem app0B (w : World) (g B : Nat) (a : Option Addr) (n c : Nat) (xs : List Bool) (hn : n = xs.length) (hs : SlB w a xs) (hl : xs.length ≤ 2000000) (hB : B ≤ g) (hg : OwnB w B (.slice (some ⟨g, 0, none⟩) 0 0) []) :
    ∃ v w', (Builtin.append_ #[22, 22] 22 #[.slice (some ⟨g, 0, none⟩) 0 0, .slice a n c]).run Try.prog w = .ok v w' ∧ OwnB w' B v xs ∧ Below w.heap.size w w' ∧ (v = .slice (some ⟨g, 0, none⟩) 0 0 ∨ v.ownBlock = some w.heap.size) ∧ ∃ a' c', v = .slice a' n c' := by
  obtain ⟨i0, hi, hz0, hz1, hz2⟩ := info_parts Try.info4
  rcases Nat.eq_zero_or_pos xs.length with h0 | hp
  · have ex : xs = [] := List.eq_nil_of_length_eq_zero h0
    subst ex
    subst hn
    refine ⟨_, w, run_append_nothing w 22 22 22 4 i0 Try.underlying22 hi (some ⟨g, 0, none⟩) 0 0 (Nat.le_refl _) _ ?_, hg, Below.refl _ _, .inl rfl, _, _, rfl⟩
    cases a with
    | none => exact Src.ofNil w Try.underlying22 c
    | some ad => exact Src.ofSlice w Try.underlying22 ad 0 c [] (by simp) (fun j u hj => by simp at hj) (fun u hu => by simp at hu)
  · subst hn
    rcases hs with e | ⟨b, off, rfl, hb, hc⟩
    · subst e; simp at hp
    · have hr := run_append_grow (P := Try.prog) w 22 22 4 i0 (.bool false) Try.underlying22 hi hz0 ⟨g, 0, none⟩ 0 0 [] (by simp) (fun j v h => by simp at h) ⟨b, off, none⟩ xs.length c (xs.map Value.bool) (by simp [hz1]) (slB_at (.inr ⟨b, off, rfl, hb, hc⟩)) (by omega) (by omega) (growslice_fits (by omega) (by rw [hz2]; omega))
      have hG0 := grownCap_ge w (0 + xs.length) 0 4
      have hG1 := grownCap_le_maxLen w (0 + xs.length) 0 4 (by unfold maxLen; omega)
      generalize grownCap w (0 + xs.length) 0 4 = G at *
      rw [Nat.zero_add] at hr hG0
      refine ⟨_, _, hr, ⟨by simp, .inr ⟨w.heap.size, G, _, rfl, ?_, Blk.new w.drew _ 4, hG0, hG1, ?_, ?_⟩⟩, bel_next (Below.refl _ _).drew (bel_alloc _ _), .inr rfl, _, _, rfl⟩
      · have := (World.ownsRow.lt hg g rfl).2; omega
      · simp [Builtin.zeroCells, Value.cells]; omega
      · simp [Builtin.zeroCells]

/-- append onto a list that was just made, in a statement whose order is open. -/
theorem step_app0B {ops : Array Oper} {o : Oper} {act : Act} {w : World} {K : Act → World → Prop} {Q : Exit → Act → World → Prop} {E : Prop} (hgd : o.guard = none) (s x : Operand)
    (ho : o.op = .call { callee := .builtin .append, args := #[s, x], argTypes := #[22, 22] }) (hty : o.type = 22) (g B : Nat) (a : Option Addr) (n c : Nat) (xs : List Bool) (hs' : act.eval s = .slice (some ⟨g, 0, none⟩) 0 0) (hx : act.eval x = .slice a n c)
    (hn : n = xs.length) (hs : SlB w a xs) (hl : xs.length ≤ 2000000) (hB : B ≤ g) (hg : OwnB w B (.slice (some ⟨g, 0, none⟩) 0 0) [])
    (h : ∀ v w', OwnB w' B v xs → Below w.heap.size w w' → (v = .slice (some ⟨g, 0, none⟩) 0 0 ∨ v.ownBlock = some w.heap.size) → (∃ a' c', v = .slice a' n c') → K (act.put o.dst v) w') : if Region.wanted o (yielded ops act.tmps) = true then Oper.wp Try.prog o act w K Q else E := by
  have hw : Region.wanted o (yielded ops act.tmps) = true := by simp [Region.wanted, hgd]
  rw [if_pos hw]
  obtain ⟨v, w', hr, h1, h2, h3, h4⟩ := app0B w g B a n c xs hn hs hl hB hg
  unfold Oper.wp
  simp [execOp, ho, resolve, invoke, builtin, hs', hx, hty, hr, Result.andThen]
  exact h v w' h1 h2 h3 h4

theorem app0I (w : World) (g B : Nat) (a : Option Addr) (n c : Nat) (xs : List Int) (hn : n = xs.length) (hs : SlI w a xs) (hl : xs.length ≤ 2000000) (hB : B ≤ g) (hg : OwnI w B (.slice (some ⟨g, 0, none⟩) 0 0) []) :
    ∃ v w', (Builtin.append_ #[23, 23] 23 #[.slice (some ⟨g, 0, none⟩) 0 0, .slice a n c]).run Try.prog w = .ok v w' ∧ OwnI w' B v xs ∧ Below w.heap.size w w' ∧ (v = .slice (some ⟨g, 0, none⟩) 0 0 ∨ v.ownBlock = some w.heap.size) ∧ ∃ a' c', v = .slice a' n c' := by
  obtain ⟨i0, hi, hz0, hz1, hz2⟩ := info_parts Try.infoI3
  rcases Nat.eq_zero_or_pos xs.length with h0 | hp
  · have ex : xs = [] := List.eq_nil_of_length_eq_zero h0
    subst ex
    subst hn
    refine ⟨_, w, run_append_nothing w 23 23 23 3 i0 Try.underlying23 hi (some ⟨g, 0, none⟩) 0 0 (Nat.le_refl _) _ ?_, hg, Below.refl _ _, .inl rfl, _, _, rfl⟩
    cases a with
    | none => exact Src.ofNil w Try.underlying23 c
    | some ad => exact Src.ofSlice w Try.underlying23 ad 0 c [] (by simp) (fun j u hj => by simp at hj) (fun u hu => by simp at hu)
  · subst hn
    rcases hs with e | ⟨b, off, rfl, hb, hc⟩
    · subst e; simp at hp
    · have hr := run_append_grow (P := Try.prog) w 23 23 3 i0 (.int .i64 0) Try.underlying23 hi hz0 ⟨g, 0, none⟩ 0 0 [] (by simp) (fun j v h => by simp at h) ⟨b, off, none⟩ xs.length c (xs.map (Value.int .i64)) (by simp [hz1]) (slI_at (.inr ⟨b, off, rfl, hb, hc⟩)) (by omega) (by omega) (growslice_fits (by omega) (by rw [hz2]; omega))
      have hG0 := grownCap_ge w (0 + xs.length) 0 3
      have hG1 := grownCap_le_maxLen w (0 + xs.length) 0 3 (by unfold maxLen; omega)
      generalize grownCap w (0 + xs.length) 0 3 = G at *
      rw [Nat.zero_add] at hr hG0
      refine ⟨_, _, hr, ⟨by simp, .inr ⟨w.heap.size, G, _, rfl, ?_, Blk.new w.drew _ 3, hG0, hG1, ?_, ?_⟩⟩, bel_next (Below.refl _ _).drew (bel_alloc _ _), .inr rfl, _, _, rfl⟩
      · have := (World.ownsRow.lt hg g rfl).2; omega
      · simp [Builtin.zeroCells, Value.cells]; omega
      · simp [Builtin.zeroCells]

/-- append onto a list that was just made, in a statement whose order is open. -/
theorem step_app0I {ops : Array Oper} {o : Oper} {act : Act} {w : World} {K : Act → World → Prop} {Q : Exit → Act → World → Prop} {E : Prop} (hgd : o.guard = none) (s x : Operand)
    (ho : o.op = .call { callee := .builtin .append, args := #[s, x], argTypes := #[23, 23] }) (hty : o.type = 23) (g B : Nat) (a : Option Addr) (n c : Nat) (xs : List Int) (hs' : act.eval s = .slice (some ⟨g, 0, none⟩) 0 0) (hx : act.eval x = .slice a n c)
    (hn : n = xs.length) (hs : SlI w a xs) (hl : xs.length ≤ 2000000) (hB : B ≤ g) (hg : OwnI w B (.slice (some ⟨g, 0, none⟩) 0 0) [])
    (h : ∀ v w', OwnI w' B v xs → Below w.heap.size w w' → (v = .slice (some ⟨g, 0, none⟩) 0 0 ∨ v.ownBlock = some w.heap.size) → (∃ a' c', v = .slice a' n c') → K (act.put o.dst v) w') : if Region.wanted o (yielded ops act.tmps) = true then Oper.wp Try.prog o act w K Q else E := by
  have hw : Region.wanted o (yielded ops act.tmps) = true := by simp [Region.wanted, hgd]
  rw [if_pos hw]
  obtain ⟨v, w', hr, h1, h2, h3, h4⟩ := app0I w g B a n c xs hn hs hl hB hg
  unfold Oper.wp
  simp [execOp, ho, resolve, invoke, builtin, hs', hx, hty, hr, Result.andThen]
  exact h v w' h1 h2 h3 h4

end Go.Proofs.Ytcnbbknmofonkaa
