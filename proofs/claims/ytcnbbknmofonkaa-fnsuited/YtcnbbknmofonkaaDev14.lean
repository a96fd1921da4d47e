/- Deeds that tell, and a coil that is set. -/
import Derived.Test.YtcnbbknmofonkaaDev13
namespace Go.Proofs.Ytcnbbknmofonkaa
open Go.RowKit

set_option linter.unusedVariables false

set_option linter.unusedSimpArgs false

theorem OwnI.cap {w : World} {B n cap : Nat} {a : Option Addr} {zs : List Int} (h : OwnI w B (.slice a n cap) zs) (h0 : 0 < n) : ∃ g, a = some ⟨g, 0, none⟩ ∧ n ≤ cap := by
  obtain ⟨g, cur, e, _, _, _, hle, _⟩ := h.cells h0
  exact ⟨g, e, hle⟩

theorem OwnB.cap {w : World} {B n cap : Nat} {a : Option Addr} {zs : List Bool} (h : OwnB w B (.slice a n cap) zs) (h0 : 0 < n) : ∃ g, a = some ⟨g, 0, none⟩ ∧ n ≤ cap := by
  obtain ⟨g, cur, e, _, _, _, hle, _⟩ := h.cells h0
  exact ⟨g, e, hle⟩

set_option maxRecDepth 20000 in
set_option maxHeartbeats 8000000 in
theorem tellCoils_any (a1 a2 a3 a4 : Option Addr) (l1 l2 l3 l4 c1 c2 c3 c4 : Nat) (cs is : List Bool) (hs rs : List Int) (kd wa : Int) (k N : Nat) (q1 q2 : Option Addr) (m1 m2 k1 k2 : Nat) (W0 w : World) (hB : Below W0.heap.size W0 w) (hD : OwnD w W0.heap.size a1 a2 a3 a4 l1 l2 l3 l4 c1 c2 c3 c4 cs is hs rs) (hk : k + N ≤ l1) (h3 : l1 ≤ 2000000) (h65 : k ≤ 65535) (hN : 1 ≤ N) :
    Calls Try.prog 101 #[dv a1 a2 a3 a4 l1 l2 l3 l4 c1 c2 c3 c4, rq kd (k : Int) (N : Int) wa q1 q2 m1 m2 k1 k2] w fun e w' => SV W0 w w' e a1 a2 a3 a4 l1 l2 l3 l4 c1 c2 c3 c4 cs is hs rs kd 0 0 0 ([]) ((cs.drop k).take N ++ List.replicate (8 * ((N + 7) / 8) - N) false) := by
  obtain ⟨z, hz⟩ : ∃ z, z = ((w.alloc (.cells #[.slice a1 l1 c1, .slice a2 l2 c2, .slice a3 l3 c3, .slice a4 l4 c4] 29)).alloc (.cells #[.int .i64 kd, .int .i64 (k : Int), .int .i64 (N : Int), .slice q1 m1 k1, .slice q2 m2 k2, .int .i64 wa] 46)).alloc (.cells #[.int .i64 0, .int .i64 0, .int .i64 0, .int .i64 0, .slice none 0 0, .slice none 0 0] 48) := ⟨_, rfl⟩
  have HZ : Hid (z = _) := hz
  have b0 : Below w.heap.size w z := by rw [hz]; exact bel_next (bel_next (bel_alloc w _) (bel_alloc _ _)) (bel_alloc _ _)
  have X0 : Blk z w.heap.size 29 #[.slice a1 l1 c1, .slice a2 l2 c2, .slice a3 l3 c3, .slice a4 l4 c4] := by rw [hz]; exact ((Blk.new w _ _).below (bel_alloc _ _)).below (bel_alloc _ _)
  have Y0 : Blk z (w.heap.size + 1) 46 #[.int .i64 kd, .int .i64 (k : Int), .int .i64 (N : Int), .slice q1 m1 k1, .slice q2 m2 k2, .int .i64 wa] := by rw [hz]; have := (Blk.new (w.alloc (.cells #[.slice a1 l1 c1, .slice a2 l2 c2, .slice a3 l3 c3, .slice a4 l4 c4] 29)) #[.int .i64 kd, .int .i64 (k : Int), .int .i64 (N : Int), .slice q1 m1 k1, .slice q2 m2 k2, .int .i64 wa] 46).below (bel_alloc _ (.cells #[.int .i64 0, .int .i64 0, .int .i64 0, .int .i64 0, .slice none 0 0, .slice none 0 0] 48)); simpa using this
  have R0 : Blk z (w.heap.size + 1 + 1) 48 #[.int .i64 0, .int .i64 0, .int .i64 0, .int .i64 0, .slice none 0 0, .slice none 0 0] := by rw [hz]; have := Blk.new ((w.alloc (.cells #[.slice a1 l1 c1, .slice a2 l2 c2, .slice a3 l3 c3, .slice a4 l4 c4] 29)).alloc (.cells #[.int .i64 kd, .int .i64 (k : Int), .int .i64 (N : Int), .slice q1 m1 k1, .slice q2 m2 k2, .int .i64 wa] 46)) #[.int .i64 0, .int .i64 0, .int .i64 0, .int .i64 0, .slice none 0 0, .slice none 0 0] 48; simpa using this
  have HB0 : Hid (Below W0.heap.size W0 w) := hB
  have D0 := hD.below b0
  obtain ⟨g, ea, hcap⟩ := D0.1.cap (by omega)
  subst ea
  have HQ : Hid (l1 = cs.length ∧ SlB z (some ⟨g, 0, none⟩) cs ∧ l1 ≤ c1 ∧ k + N ≤ l1 ∧ l1 ≤ 2000000 ∧ k ≤ 65535 ∧ 1 ≤ N) := ⟨D0.1.sl.1, D0.1.sl.2, hcap, hk, h3, h65, hN⟩
  have HD0 : Hid (OwnD z W0.heap.size (some ⟨g, 0, none⟩) a2 a3 a4 l1 l2 l3 l4 c1 c2 c3 c4 cs is hs rs) := D0
  obtain ⟨x0, x1, x2, x3⟩ := X0.four
  obtain ⟨y0, y1, y2, y3, y4, y5⟩ := Y0.six
  clear hz hB hD D0 hk h3 h65 hN
  go_enter Try.func101, Try.ntmps101
  go_upto_region 1 with fail
  rw [← HZ.out]
  go_wp2_with fail
  refine (tellBits_any kd wa k N q1 q2 m1 m2 k1 k2 g l1 c1 cs _ HQ.out.1 HQ.out.2.1 HQ.out.2.2.1 HQ.out.2.2.2.1 HQ.out.2.2.2.2.1 HQ.out.2.2.2.2.2.1 HQ.out.2.2.2.2.2.2).mono ?_
  rintro e w3 ⟨r1, r2, n1, n2, e1, e2, rfl, o1, o2, b'⟩
  have R3 := R0.below b'
  obtain ⟨s0, s1, s2, s3, s4, s5⟩ := R3.six
  have f3 := R3.fro
  have HH : Hid (OwnI w3 w.heap.size (.slice r1 n1 e1) ([]) ∧ OwnB w3 w.heap.size (.slice r2 n2 e2) ((cs.drop k).take N ++ List.replicate (8 * ((N + 7) / 8) - N) false) ∧ OwnD w3 W0.heap.size (some ⟨g, 0, none⟩) a2 a3 a4 l1 l2 l3 l4 c1 c2 c3 c4 cs is hs rs ∧ Below w.heap.size w w3 ∧ ExB w3 (w.heap.size + 1 + 1) 48) := ⟨o1.mono b0.size, o2.mono b0.size, HD0.out.below b', bel_next b0 b', ⟨_, R3⟩⟩
  clear o1 o2 b' R3 R0 x0 x1 x2 x3 y0 y1 y2 y3 y4 y5 X0 Y0
  go_wp2
  refine bodyPost_ret (v := rp kd 0 0 0 r1 r2 n1 n2 e1 e2) (by simp [results, Try.results101, go_sem, s0, s1, s2, s3, s4, s5]) rfl ?_
  obtain ⟨o1, o2, o3, o4, o5⟩ := HH.out
  exact ⟨_, _, _, _, _, _, rfl, rowp_set6 o1 o5 (by decide), rowp_set6 o2 o5 (by decide), o3.set6 o5 (by decide) (by decide), belp_set6 (HB0.out.trans (o4.mono HB0.out.size)) (by have := HB0.out.size; omega), (Chg.ofBelow o4).set6 (by omega)⟩

set_option maxRecDepth 20000 in
set_option maxHeartbeats 8000000 in
theorem tellInputs_any (a1 a2 a3 a4 : Option Addr) (l1 l2 l3 l4 c1 c2 c3 c4 : Nat) (cs is : List Bool) (hs rs : List Int) (kd wa : Int) (k N : Nat) (q1 q2 : Option Addr) (m1 m2 k1 k2 : Nat) (W0 w : World) (hB : Below W0.heap.size W0 w) (hD : OwnD w W0.heap.size a1 a2 a3 a4 l1 l2 l3 l4 c1 c2 c3 c4 cs is hs rs) (hk : k + N ≤ l2) (h3 : l2 ≤ 2000000) (h65 : k ≤ 65535) (hN : 1 ≤ N) :
    Calls Try.prog 102 #[dv a1 a2 a3 a4 l1 l2 l3 l4 c1 c2 c3 c4, rq kd (k : Int) (N : Int) wa q1 q2 m1 m2 k1 k2] w fun e w' => SV W0 w w' e a1 a2 a3 a4 l1 l2 l3 l4 c1 c2 c3 c4 cs is hs rs kd 0 0 0 ([]) ((is.drop k).take N ++ List.replicate (8 * ((N + 7) / 8) - N) false) := by
  obtain ⟨z, hz⟩ : ∃ z, z = ((w.alloc (.cells #[.slice a1 l1 c1, .slice a2 l2 c2, .slice a3 l3 c3, .slice a4 l4 c4] 29)).alloc (.cells #[.int .i64 kd, .int .i64 (k : Int), .int .i64 (N : Int), .slice q1 m1 k1, .slice q2 m2 k2, .int .i64 wa] 46)).alloc (.cells #[.int .i64 0, .int .i64 0, .int .i64 0, .int .i64 0, .slice none 0 0, .slice none 0 0] 48) := ⟨_, rfl⟩
  have HZ : Hid (z = _) := hz
  have b0 : Below w.heap.size w z := by rw [hz]; exact bel_next (bel_next (bel_alloc w _) (bel_alloc _ _)) (bel_alloc _ _)
  have X0 : Blk z w.heap.size 29 #[.slice a1 l1 c1, .slice a2 l2 c2, .slice a3 l3 c3, .slice a4 l4 c4] := by rw [hz]; exact ((Blk.new w _ _).below (bel_alloc _ _)).below (bel_alloc _ _)
  have Y0 : Blk z (w.heap.size + 1) 46 #[.int .i64 kd, .int .i64 (k : Int), .int .i64 (N : Int), .slice q1 m1 k1, .slice q2 m2 k2, .int .i64 wa] := by rw [hz]; have := (Blk.new (w.alloc (.cells #[.slice a1 l1 c1, .slice a2 l2 c2, .slice a3 l3 c3, .slice a4 l4 c4] 29)) #[.int .i64 kd, .int .i64 (k : Int), .int .i64 (N : Int), .slice q1 m1 k1, .slice q2 m2 k2, .int .i64 wa] 46).below (bel_alloc _ (.cells #[.int .i64 0, .int .i64 0, .int .i64 0, .int .i64 0, .slice none 0 0, .slice none 0 0] 48)); simpa using this
  have R0 : Blk z (w.heap.size + 1 + 1) 48 #[.int .i64 0, .int .i64 0, .int .i64 0, .int .i64 0, .slice none 0 0, .slice none 0 0] := by rw [hz]; have := Blk.new ((w.alloc (.cells #[.slice a1 l1 c1, .slice a2 l2 c2, .slice a3 l3 c3, .slice a4 l4 c4] 29)).alloc (.cells #[.int .i64 kd, .int .i64 (k : Int), .int .i64 (N : Int), .slice q1 m1 k1, .slice q2 m2 k2, .int .i64 wa] 46)) #[.int .i64 0, .int .i64 0, .int .i64 0, .int .i64 0, .slice none 0 0, .slice none 0 0] 48; simpa using this
  have HB0 : Hid (Below W0.heap.size W0 w) := hB
  have D0 := hD.below b0
  obtain ⟨g, ea, hcap⟩ := D0.2.1.cap (by omega)
  subst ea
  have HQ : Hid (l2 = is.length ∧ SlB z (some ⟨g, 0, none⟩) is ∧ l2 ≤ c2 ∧ k + N ≤ l2 ∧ l2 ≤ 2000000 ∧ k ≤ 65535 ∧ 1 ≤ N) := ⟨D0.2.1.sl.1, D0.2.1.sl.2, hcap, hk, h3, h65, hN⟩
  have HD0 : Hid (OwnD z W0.heap.size a1 (some ⟨g, 0, none⟩) a3 a4 l1 l2 l3 l4 c1 c2 c3 c4 cs is hs rs) := D0
  obtain ⟨x0, x1, x2, x3⟩ := X0.four
  obtain ⟨y0, y1, y2, y3, y4, y5⟩ := Y0.six
  clear hz hB hD D0 hk h3 h65 hN
  go_enter Try.func102, Try.ntmps102
  go_upto_region 1 with fail
  rw [← HZ.out]
  go_wp2_with fail
  refine (tellBits_any kd wa k N q1 q2 m1 m2 k1 k2 g l2 c2 is _ HQ.out.1 HQ.out.2.1 HQ.out.2.2.1 HQ.out.2.2.2.1 HQ.out.2.2.2.2.1 HQ.out.2.2.2.2.2.1 HQ.out.2.2.2.2.2.2).mono ?_
  rintro e w3 ⟨r1, r2, n1, n2, e1, e2, rfl, o1, o2, b'⟩
  have R3 := R0.below b'
  obtain ⟨s0, s1, s2, s3, s4, s5⟩ := R3.six
  have f3 := R3.fro
  have HH : Hid (OwnI w3 w.heap.size (.slice r1 n1 e1) ([]) ∧ OwnB w3 w.heap.size (.slice r2 n2 e2) ((is.drop k).take N ++ List.replicate (8 * ((N + 7) / 8) - N) false) ∧ OwnD w3 W0.heap.size a1 (some ⟨g, 0, none⟩) a3 a4 l1 l2 l3 l4 c1 c2 c3 c4 cs is hs rs ∧ Below w.heap.size w w3 ∧ ExB w3 (w.heap.size + 1 + 1) 48) := ⟨o1.mono b0.size, o2.mono b0.size, HD0.out.below b', bel_next b0 b', ⟨_, R3⟩⟩
  clear o1 o2 b' R3 R0 x0 x1 x2 x3 y0 y1 y2 y3 y4 y5 X0 Y0
  go_wp2
  refine bodyPost_ret (v := rp kd 0 0 0 r1 r2 n1 n2 e1 e2) (by simp [results, Try.results102, go_sem, s0, s1, s2, s3, s4, s5]) rfl ?_
  obtain ⟨o1, o2, o3, o4, o5⟩ := HH.out
  exact ⟨_, _, _, _, _, _, rfl, rowp_set6 o1 o5 (by decide), rowp_set6 o2 o5 (by decide), o3.set6 o5 (by decide) (by decide), belp_set6 (HB0.out.trans (o4.mono HB0.out.size)) (by have := HB0.out.size; omega), (Chg.ofBelow o4).set6 (by omega)⟩

set_option maxRecDepth 20000 in
set_option maxHeartbeats 8000000 in
theorem tellHolding_any (a1 a2 a3 a4 : Option Addr) (l1 l2 l3 l4 c1 c2 c3 c4 : Nat) (cs is : List Bool) (hs rs : List Int) (kd wa : Int) (k N : Nat) (q1 q2 : Option Addr) (m1 m2 k1 k2 : Nat) (W0 w : World) (hB : Below W0.heap.size W0 w) (hD : OwnD w W0.heap.size a1 a2 a3 a4 l1 l2 l3 l4 c1 c2 c3 c4 cs is hs rs) (hk : k + N ≤ l3) (h3 : l3 ≤ 2000000) (h65 : k ≤ 65535) (hN : 1 ≤ N) :
    Calls Try.prog 103 #[dv a1 a2 a3 a4 l1 l2 l3 l4 c1 c2 c3 c4, rq kd (k : Int) (N : Int) wa q1 q2 m1 m2 k1 k2] w fun e w' => SV W0 w w' e a1 a2 a3 a4 l1 l2 l3 l4 c1 c2 c3 c4 cs is hs rs kd 0 0 0 ((hs.drop k).take N) ([]) := by
  obtain ⟨z, hz⟩ : ∃ z, z = ((w.alloc (.cells #[.slice a1 l1 c1, .slice a2 l2 c2, .slice a3 l3 c3, .slice a4 l4 c4] 29)).alloc (.cells #[.int .i64 kd, .int .i64 (k : Int), .int .i64 (N : Int), .slice q1 m1 k1, .slice q2 m2 k2, .int .i64 wa] 46)).alloc (.cells #[.int .i64 0, .int .i64 0, .int .i64 0, .int .i64 0, .slice none 0 0, .slice none 0 0] 48) := ⟨_, rfl⟩
  have HZ : Hid (z = _) := hz
  have b0 : Below w.heap.size w z := by rw [hz]; exact bel_next (bel_next (bel_alloc w _) (bel_alloc _ _)) (bel_alloc _ _)
  have X0 : Blk z w.heap.size 29 #[.slice a1 l1 c1, .slice a2 l2 c2, .slice a3 l3 c3, .slice a4 l4 c4] := by rw [hz]; exact ((Blk.new w _ _).below (bel_alloc _ _)).below (bel_alloc _ _)
  have Y0 : Blk z (w.heap.size + 1) 46 #[.int .i64 kd, .int .i64 (k : Int), .int .i64 (N : Int), .slice q1 m1 k1, .slice q2 m2 k2, .int .i64 wa] := by rw [hz]; have := (Blk.new (w.alloc (.cells #[.slice a1 l1 c1, .slice a2 l2 c2, .slice a3 l3 c3, .slice a4 l4 c4] 29)) #[.int .i64 kd, .int .i64 (k : Int), .int .i64 (N : Int), .slice q1 m1 k1, .slice q2 m2 k2, .int .i64 wa] 46).below (bel_alloc _ (.cells #[.int .i64 0, .int .i64 0, .int .i64 0, .int .i64 0, .slice none 0 0, .slice none 0 0] 48)); simpa using this
  have R0 : Blk z (w.heap.size + 1 + 1) 48 #[.int .i64 0, .int .i64 0, .int .i64 0, .int .i64 0, .slice none 0 0, .slice none 0 0] := by rw [hz]; have := Blk.new ((w.alloc (.cells #[.slice a1 l1 c1, .slice a2 l2 c2, .slice a3 l3 c3, .slice a4 l4 c4] 29)).alloc (.cells #[.int .i64 kd, .int .i64 (k : Int), .int .i64 (N : Int), .slice q1 m1 k1, .slice q2 m2 k2, .int .i64 wa] 46)) #[.int .i64 0, .int .i64 0, .int .i64 0, .int .i64 0, .slice none 0 0, .slice none 0 0] 48; simpa using this
  have HB0 : Hid (Below W0.heap.size W0 w) := hB
  have D0 := hD.below b0
  obtain ⟨g, ea, hcap⟩ := D0.2.2.1.cap (by omega)
  subst ea
  have HQ : Hid (l3 = hs.length ∧ SlI z (some ⟨g, 0, none⟩) hs ∧ l3 ≤ c3 ∧ k + N ≤ l3 ∧ l3 ≤ 2000000 ∧ k ≤ 65535 ∧ 1 ≤ N) := ⟨D0.2.2.1.sl.1, D0.2.2.1.sl.2, hcap, hk, h3, h65, hN⟩
  have HD0 : Hid (OwnD z W0.heap.size a1 a2 (some ⟨g, 0, none⟩) a4 l1 l2 l3 l4 c1 c2 c3 c4 cs is hs rs) := D0
  obtain ⟨x0, x1, x2, x3⟩ := X0.four
  obtain ⟨y0, y1, y2, y3, y4, y5⟩ := Y0.six
  clear hz hB hD D0 hk h3 h65 hN
  go_enter Try.func103, Try.ntmps103
  go_upto_region 1 with fail
  rw [← HZ.out]
  go_wp2_with fail
  refine (tellRun_any kd wa k N q1 q2 m1 m2 k1 k2 g l3 c3 hs _ HQ.out.1 HQ.out.2.1 HQ.out.2.2.1 HQ.out.2.2.2.1 HQ.out.2.2.2.2.1 HQ.out.2.2.2.2.2.1 HQ.out.2.2.2.2.2.2).mono ?_
  rintro e w3 ⟨r1, r2, n1, n2, e1, e2, rfl, o1, o2, b'⟩
  have R3 := R0.below b'
  obtain ⟨s0, s1, s2, s3, s4, s5⟩ := R3.six
  have f3 := R3.fro
  have HH : Hid (OwnI w3 w.heap.size (.slice r1 n1 e1) ((hs.drop k).take N) ∧ OwnB w3 w.heap.size (.slice r2 n2 e2) ([]) ∧ OwnD w3 W0.heap.size a1 a2 (some ⟨g, 0, none⟩) a4 l1 l2 l3 l4 c1 c2 c3 c4 cs is hs rs ∧ Below w.heap.size w w3 ∧ ExB w3 (w.heap.size + 1 + 1) 48) := ⟨o1.mono b0.size, o2.mono b0.size, HD0.out.below b', bel_next b0 b', ⟨_, R3⟩⟩
  clear o1 o2 b' R3 R0 x0 x1 x2 x3 y0 y1 y2 y3 y4 y5 X0 Y0
  go_wp2
  refine bodyPost_ret (v := rp kd 0 0 0 r1 r2 n1 n2 e1 e2) (by simp [results, Try.results103, go_sem, s0, s1, s2, s3, s4, s5]) rfl ?_
  obtain ⟨o1, o2, o3, o4, o5⟩ := HH.out
  exact ⟨_, _, _, _, _, _, rfl, rowp_set6 o1 o5 (by decide), rowp_set6 o2 o5 (by decide), o3.set6 o5 (by decide) (by decide), belp_set6 (HB0.out.trans (o4.mono HB0.out.size)) (by have := HB0.out.size; omega), (Chg.ofBelow o4).set6 (by omega)⟩

set_option maxRecDepth 20000 in
set_option maxHeartbeats 8000000 in
theorem tellWords_any (a1 a2 a3 a4 : Option Addr) (l1 l2 l3 l4 c1 c2 c3 c4 : Nat) (cs is : List Bool) (hs rs : List Int) (kd wa : Int) (k N : Nat) (q1 q2 : Option Addr) (m1 m2 k1 k2 : Nat) (W0 w : World) (hB : Below W0.heap.size W0 w) (hD : OwnD w W0.heap.size a1 a2 a3 a4 l1 l2 l3 l4 c1 c2 c3 c4 cs is hs rs) (hk : k + N ≤ l4) (h3 : l4 ≤ 2000000) (h65 : k ≤ 65535) (hN : 1 ≤ N) :
    Calls Try.prog 104 #[dv a1 a2 a3 a4 l1 l2 l3 l4 c1 c2 c3 c4, rq kd (k : Int) (N : Int) wa q1 q2 m1 m2 k1 k2] w fun e w' => SV W0 w w' e a1 a2 a3 a4 l1 l2 l3 l4 c1 c2 c3 c4 cs is hs rs kd 0 0 0 ((rs.drop k).take N) ([]) := by
  obtain ⟨z, hz⟩ : ∃ z, z = ((w.alloc (.cells #[.slice a1 l1 c1, .slice a2 l2 c2, .slice a3 l3 c3, .slice a4 l4 c4] 29)).alloc (.cells #[.int .i64 kd, .int .i64 (k : Int), .int .i64 (N : Int), .slice q1 m1 k1, .slice q2 m2 k2, .int .i64 wa] 46)).alloc (.cells #[.int .i64 0, .int .i64 0, .int .i64 0, .int .i64 0, .slice none 0 0, .slice none 0 0] 48) := ⟨_, rfl⟩
  have HZ : Hid (z = _) := hz
  have b0 : Below w.heap.size w z := by rw [hz]; exact bel_next (bel_next (bel_alloc w _) (bel_alloc _ _)) (bel_alloc _ _)
  have X0 : Blk z w.heap.size 29 #[.slice a1 l1 c1, .slice a2 l2 c2, .slice a3 l3 c3, .slice a4 l4 c4] := by rw [hz]; exact ((Blk.new w _ _).below (bel_alloc _ _)).below (bel_alloc _ _)
  have Y0 : Blk z (w.heap.size + 1) 46 #[.int .i64 kd, .int .i64 (k : Int), .int .i64 (N : Int), .slice q1 m1 k1, .slice q2 m2 k2, .int .i64 wa] := by rw [hz]; have := (Blk.new (w.alloc (.cells #[.slice a1 l1 c1, .slice a2 l2 c2, .slice a3 l3 c3, .slice a4 l4 c4] 29)) #[.int .i64 kd, .int .i64 (k : Int), .int .i64 (N : Int), .slice q1 m1 k1, .slice q2 m2 k2, .int .i64 wa] 46).below (bel_alloc _ (.cells #[.int .i64 0, .int .i64 0, .int .i64 0, .int .i64 0, .slice none 0 0, .slice none 0 0] 48)); simpa using this
  have R0 : Blk z (w.heap.size + 1 + 1) 48 #[.int .i64 0, .int .i64 0, .int .i64 0, .int .i64 0, .slice none 0 0, .slice none 0 0] := by rw [hz]; have := Blk.new ((w.alloc (.cells #[.slice a1 l1 c1, .slice a2 l2 c2, .slice a3 l3 c3, .slice a4 l4 c4] 29)).alloc (.cells #[.int .i64 kd, .int .i64 (k : Int), .int .i64 (N : Int), .slice q1 m1 k1, .slice q2 m2 k2, .int .i64 wa] 46)) #[.int .i64 0, .int .i64 0, .int .i64 0, .int .i64 0, .slice none 0 0, .slice none 0 0] 48; simpa using this
  have HB0 : Hid (Below W0.heap.size W0 w) := hB
  have D0 := hD.below b0
  obtain ⟨g, ea, hcap⟩ := D0.2.2.2.1.cap (by omega)
  subst ea
  have HQ : Hid (l4 = rs.length ∧ SlI z (some ⟨g, 0, none⟩) rs ∧ l4 ≤ c4 ∧ k + N ≤ l4 ∧ l4 ≤ 2000000 ∧ k ≤ 65535 ∧ 1 ≤ N) := ⟨D0.2.2.2.1.sl.1, D0.2.2.2.1.sl.2, hcap, hk, h3, h65, hN⟩
  have HD0 : Hid (OwnD z W0.heap.size a1 a2 a3 (some ⟨g, 0, none⟩) l1 l2 l3 l4 c1 c2 c3 c4 cs is hs rs) := D0
  obtain ⟨x0, x1, x2, x3⟩ := X0.four
  obtain ⟨y0, y1, y2, y3, y4, y5⟩ := Y0.six
  clear hz hB hD D0 hk h3 h65 hN
  go_enter Try.func104, Try.ntmps104
  go_upto_region 1 with fail
  rw [← HZ.out]
  go_wp2_with fail
  refine (tellRun_any kd wa k N q1 q2 m1 m2 k1 k2 g l4 c4 rs _ HQ.out.1 HQ.out.2.1 HQ.out.2.2.1 HQ.out.2.2.2.1 HQ.out.2.2.2.2.1 HQ.out.2.2.2.2.2.1 HQ.out.2.2.2.2.2.2).mono ?_
  rintro e w3 ⟨r1, r2, n1, n2, e1, e2, rfl, o1, o2, b'⟩
  have R3 := R0.below b'
  obtain ⟨s0, s1, s2, s3, s4, s5⟩ := R3.six
  have f3 := R3.fro
  have HH : Hid (OwnI w3 w.heap.size (.slice r1 n1 e1) ((rs.drop k).take N) ∧ OwnB w3 w.heap.size (.slice r2 n2 e2) ([]) ∧ OwnD w3 W0.heap.size a1 a2 a3 (some ⟨g, 0, none⟩) l1 l2 l3 l4 c1 c2 c3 c4 cs is hs rs ∧ Below w.heap.size w w3 ∧ ExB w3 (w.heap.size + 1 + 1) 48) := ⟨o1.mono b0.size, o2.mono b0.size, HD0.out.below b', bel_next b0 b', ⟨_, R3⟩⟩
  clear o1 o2 b' R3 R0 x0 x1 x2 x3 y0 y1 y2 y3 y4 y5 X0 Y0
  go_wp2
  refine bodyPost_ret (v := rp kd 0 0 0 r1 r2 n1 n2 e1 e2) (by simp [results, Try.results104, go_sem, s0, s1, s2, s3, s4, s5]) rfl ?_
  obtain ⟨o1, o2, o3, o4, o5⟩ := HH.out
  exact ⟨_, _, _, _, _, _, rfl, rowp_set6 o1 o5 (by decide), rowp_set6 o2 o5 (by decide), o3.set6 o5 (by decide) (by decide), belp_set6 (HB0.out.trans (o4.mono HB0.out.size)) (by have := HB0.out.size; omega), (Chg.ofBelow o4).set6 (by omega)⟩

end Go.Proofs.Ytcnbbknmofonkaa
