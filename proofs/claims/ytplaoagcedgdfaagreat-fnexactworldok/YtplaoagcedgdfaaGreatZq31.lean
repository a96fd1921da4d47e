/- Parts of the proof. -/
import Derived.Test.YtplaoagcedgdfaaGreatZq27
import Derived.Test.YtplaoagcedgdfaaGreatZq28
import Derived.Test.YtplaoagcedgdfaaGreatZq6
import Derived.Test.YtplaoagcedgdfaaGreatZq29
import Derived.Test.YtplaoagcedgdfaaGreatZq30
import Derived.Test.YtplaoagcedgdfaaGreatZq7
set_option linter.unusedVariables false
set_option linter.unusedSimpArgs false
set_option maxHeartbeats 8000000
set_option maxRecDepth 20000
namespace Go.Proofs.YtplaoagcedgdfaaGreat
open Go.RowKit Go.Joins Go.Proofs.Tryz
abbrev jX (w : World) (X : VW) (a1 : Option Addr) (c1 : Nat) (a2 : Option Addr) (c2 : Nat) (a3 : Option Addr) (c3 : Nat) (a4 : Option Addr) (c4 : Nat) (a5 : Option Addr) (c5 : Nat) (a6 : Option Addr) (c6 : Nat) (a7 : Option Addr) (c7 : Nat) : Prop := Rd w 0 (.list 7 X.fb.set.n (fun i => aa (bi (X.fb.set.f i)))) (.slice a1 X.fb.set.n c1) /\ Rd w 0 (.list 13 X.fb.op.m (fun i => aa (dT (X.fb.op.f i)))) (.slice a2 X.fb.op.m c2) /\ Rd w 0 (.list 17 X.fb.nl (fun i => aa (aU (X.fb.lf i)))) (.slice a3 X.fb.nl c3) /\ Rd w 0 (.list 6 X.ns (fun i => aa (bn (X.sf i)))) (.slice a4 X.ns c4) /\ Rd w 0 (.list 16 X.nk (fun i => aa (br (X.kf i)))) (.slice a5 X.nk c5) /\ Rd w 0 (.list 16 X.nr (fun i => aa (bI (X.rf i)))) (.slice a6 X.nr c6) /\ Rd w 0 (.list 15 X.ne (fun i => aa (bJ (X.ef i)))) (.slice a7 X.ne c7)
theorem qi (X : VW) (a1 : Option Addr) (c1 : Nat) (a2 : Option Addr) (c2 : Nat) (a3 : Option Addr) (c3 : Nat) (a4 : Option Addr) (c4 : Nat) (a5 : Option Addr) (c5 : Nat) (a6 : Option Addr) (c6 : Nat) (a7 : Option Addr) (c7 : Nat) (w : World) (h : jX w X a1 c1 a2 c2 a3 c3 a4 c4 a5 c5 a6 c6 a7 c7) (hz : ¬ ao 15 (aa (eX X)) <= 1048576) :
 Calls prog 6 #[.agg (bt X a1 X.fb.set.n c1 a2 X.fb.op.m c2 a3 X.fb.nl c3 a4 X.ns c4 a5 X.nk c5 a6 X.nr c6 a7 X.ne c7).toArray] w fun e w' => e = .returned (.bool true) /\ Below w.heap.size w w' := by
 have HX : Hid (aB 1048576 (ao 15 (aa (eX X))) = -1) := by show _ = _; unfold aB; rw [if_neg hz]
 obtain ⟨B, hB⟩ : ∃ B, B = w.heap.size := ⟨_, rfl⟩
 obtain ⟨W, hW⟩ : ∃ W, W = w.alloc (.cells (bt X a1 X.fb.set.n c1 a2 X.fb.op.m c2 a3 X.fb.nl c3 a4 X.ns c4 a5 X.nk c5 a6 X.nr c6 a7 X.ne c7).toArray 59) := ⟨_, rfl⟩
 have b0 : Below w.heap.size w W := by rw [hW]; exact ac _ _
 have A0 : ag W B 59 (bt X a1 X.fb.set.n c1 a2 X.fb.op.m c2 a3 X.fb.nl c3 a4 X.ns c4 a5 X.nk c5 a6 X.nr c6 a7 X.ne c7).toArray := by rw [hW, hB]; exact ag.new _ _ _
 have H0 : Hid (Below w.heap.size w W /\ jX W X a1 c1 a2 c2 a3 c3 a4 c4 a5 c5 a6 c6 a7 c7) := ⟨b0, ⟨h.1.below b0, h.2.1.below b0, h.2.2.1.below b0, h.2.2.2.1.below b0, h.2.2.2.2.1.below b0, h.2.2.2.2.2.1.below b0, h.2.2.2.2.2.2.below b0⟩⟩
 have y0 : W.cell? ⟨B, 0, none⟩ = some (.int .i64 X.fb.nw) := A0.cell 0 rfl
 have y1 : W.cell? ⟨B, 1, none⟩ = some (.int .i64 X.fb.set.wt) := A0.cell 1 rfl
 have y2 : W.cell? ⟨B, 2, none⟩ = some (.int .i64 X.fb.set.tr) := A0.cell 2 rfl
 have y3 : W.cell? ⟨B, 3, none⟩ = some (.slice a1 X.fb.set.n c1) := A0.cell 3 rfl
 have y4 : W.cell? ⟨B, 4, none⟩ = some (.int .i64 X.fb.op.nx) := A0.cell 4 rfl
 have y5 : W.cell? ⟨B, 5, none⟩ = some (.slice a2 X.fb.op.m c2) := A0.cell 5 rfl
 have y6 : W.cell? ⟨B, 6, none⟩ = some (.slice a3 X.fb.nl c3) := A0.cell 6 rfl
 have y7 : W.cell? ⟨B, 7, none⟩ = some (.int .i64 X.fb.sk) := A0.cell 7 rfl
 have y8 : W.cell? ⟨B, 8, none⟩ = some (.int .i64 X.fb.re) := A0.cell 8 rfl
 have y9 : W.cell? ⟨B, 9, none⟩ = some (.int .i64 X.fb.fa) := A0.cell 9 rfl
 have y10 : W.cell? ⟨B, 10, none⟩ = some (.int .i64 X.fb.se) := A0.cell 10 rfl
 have y11 : W.cell? ⟨B, 11, none⟩ = some (.slice a4 X.ns c4) := A0.cell 11 rfl
 have y12 : W.cell? ⟨B, 12, none⟩ = some (.slice a5 X.nk c5) := A0.cell 12 rfl
 have y13 : W.cell? ⟨B, 13, none⟩ = some (.slice a6 X.nr c6) := A0.cell 13 rfl
 have y14 : W.cell? ⟨B, 14, none⟩ = some (.slice a7 X.ne c7) := A0.cell 14 rfl
 clear A0 b0 h hz
 go_enter func6, ntmps6
 go_upto_region 1 with fail
 rw [<- hW, <- hB]
 clear hW hB
 go_wp2_with fail
 refine (kU X a1 _ c1 a2 _ c2 a3 _ c3 a4 _ c4 a5 _ c5 a6 _ c6 a7 _ c7 1048576 _ H0.out.2.1 H0.out.2.2.1 H0.out.2.2.2.1 H0.out.2.2.2.2.1 H0.out.2.2.2.2.2.1 H0.out.2.2.2.2.2.2.1 H0.out.2.2.2.2.2.2.2 (Nat.le_refl _)).mono ?_
 rintro e w1 ⟨rfl, b1⟩
 rw [HX.out]
 have B := ae H0.out.1 b1
 clear b1 y0 y1 y2 y3 y4 y5 y6 y7 y8 y9 y10 y11 y12 y13 y14
 go_wp2
 go_ret
 exact ⟨rfl, B⟩
theorem qj (X : VW) (a1 : Option Addr) (c1 : Nat) (a2 : Option Addr) (c2 : Nat) (a3 : Option Addr) (c3 : Nat) (a4 : Option Addr) (c4 : Nat) (a5 : Option Addr) (c5 : Nat) (a6 : Option Addr) (c6 : Nat) (a7 : Option Addr) (c7 : Nat) (w : World) (h : jX w X a1 c1 a2 c2 a3 c3 a4 c4 a5 c5 a6 c6 a7 c7) (h64 : ∀ k, k < X.fb.set.n -> -9223372036854775808 <= (X.fb.set.f k).sh /\ (X.fb.set.f k).sh <= 9223372036854775807) (hz : ao 15 (aa (eX X)) <= 1048576) :
 Calls prog 6 #[.agg (bt X a1 X.fb.set.n c1 a2 X.fb.op.m c2 a3 X.fb.nl c3 a4 X.ns c4 a5 X.nk c5 a6 X.nr c6 a7 X.ne c7).toArray] w fun e w' => e = .returned (.bool true) /\ Below w.heap.size w w' := by
 obtain ⟨lf, hlf⟩ : ∃ lf, lf = aB 1048576 (ao 15 (aa (eX X))) := ⟨_, rfl⟩
 have hnn : ¬ (lf < 0) := by rw [hlf]; unfold aB; rw [if_pos hz]; omega
 obtain ⟨B, hB⟩ : ∃ B, B = w.heap.size := ⟨_, rfl⟩
 obtain ⟨W, hW⟩ : ∃ W, W = w.alloc (.cells (bt X a1 X.fb.set.n c1 a2 X.fb.op.m c2 a3 X.fb.nl c3 a4 X.ns c4 a5 X.nk c5 a6 X.nr c6 a7 X.ne c7).toArray 59) := ⟨_, rfl⟩
 have b0 : Below w.heap.size w W := by rw [hW]; exact ac _ _
 have A0 : ag W B 59 (bt X a1 X.fb.set.n c1 a2 X.fb.op.m c2 a3 X.fb.nl c3 a4 X.ns c4 a5 X.nk c5 a6 X.nr c6 a7 X.ne c7).toArray := by rw [hW, hB]; exact ag.new _ _ _
 have HH : Hid ((jX W X a1 c1 a2 c2 a3 c3 a4 c4 a5 c5 a6 c6 a7 c7) /\ ao 15 (aa (eX X)) <= 1048576 /\ iV X /\ lf = aB 1048576 (ao 15 (aa (eX X))) /\ Below w.heap.size w W) := ⟨⟨h.1.below b0, h.2.1.below b0, h.2.2.1.below b0, h.2.2.2.1.below b0, h.2.2.2.2.1.below b0, h.2.2.2.2.2.1.below b0, h.2.2.2.2.2.2.below b0⟩, hz, VW.bdK hz h64, hlf, b0⟩
 obtain ⟨ok, hok⟩ : ∃ ok, ok = (fP X) := ⟨_, rfl⟩
 have HO : Hid (ok = (fP X)) := hok
 have H0 : Hid (Below W.heap.size W W /\ ag W B 59 (bt X a1 X.fb.set.n c1 a2 X.fb.op.m c2 a3 X.fb.nl c3 a4 X.ns c4 a5 X.nk c5 a6 X.nr c6 a7 X.ne c7).toArray) := ⟨Below.refl _ _, A0⟩
 have y0 : W.cell? ⟨B, 0, none⟩ = some (.int .i64 X.fb.nw) := A0.cell 0 rfl
 have y1 : W.cell? ⟨B, 1, none⟩ = some (.int .i64 X.fb.set.wt) := A0.cell 1 rfl
 have y2 : W.cell? ⟨B, 2, none⟩ = some (.int .i64 X.fb.set.tr) := A0.cell 2 rfl
 have y3 : W.cell? ⟨B, 3, none⟩ = some (.slice a1 X.fb.set.n c1) := A0.cell 3 rfl
 have y4 : W.cell? ⟨B, 4, none⟩ = some (.int .i64 X.fb.op.nx) := A0.cell 4 rfl
 have y5 : W.cell? ⟨B, 5, none⟩ = some (.slice a2 X.fb.op.m c2) := A0.cell 5 rfl
 have y6 : W.cell? ⟨B, 6, none⟩ = some (.slice a3 X.fb.nl c3) := A0.cell 6 rfl
 have y7 : W.cell? ⟨B, 7, none⟩ = some (.int .i64 X.fb.sk) := A0.cell 7 rfl
 have y8 : W.cell? ⟨B, 8, none⟩ = some (.int .i64 X.fb.re) := A0.cell 8 rfl
 have y9 : W.cell? ⟨B, 9, none⟩ = some (.int .i64 X.fb.fa) := A0.cell 9 rfl
 have y10 : W.cell? ⟨B, 10, none⟩ = some (.int .i64 X.fb.se) := A0.cell 10 rfl
 have y11 : W.cell? ⟨B, 11, none⟩ = some (.slice a4 X.ns c4) := A0.cell 11 rfl
 have y12 : W.cell? ⟨B, 12, none⟩ = some (.slice a5 X.nk c5) := A0.cell 12 rfl
 have y13 : W.cell? ⟨B, 13, none⟩ = some (.slice a6 X.nr c6) := A0.cell 13 rfl
 have y14 : W.cell? ⟨B, 14, none⟩ = some (.slice a7 X.ne c7) := A0.cell 14 rfl
 clear A0 b0 h hz hlf hok h64
 go_enter func6, ntmps6
 go_upto_region 1 with fail
 rw [<- hW, <- hB]
 clear hW hB
 go_wp2_with fail
 refine (kU X a1 _ c1 a2 _ c2 a3 _ c3 a4 _ c4 a5 _ c5 a6 _ c6 a7 _ c7 1048576 _ HH.out.1.1 HH.out.1.2.1 HH.out.1.2.2.1 HH.out.1.2.2.2.1 HH.out.1.2.2.2.2.1 HH.out.1.2.2.2.2.2.1 HH.out.1.2.2.2.2.2.2 (Nat.le_refl _)).mono ?_
 rintro e w1 ⟨rfl, b'⟩
 rw [<- HH.out.2.2.2.1]
 have H1 : Hid (Below W.heap.size W w1 /\ ag w1 B 59 (bt X a1 X.fb.set.n c1 a2 X.fb.op.m c2 a3 X.fb.nl c3 a4 X.ns c4 a5 X.nk c5 a6 X.nr c6 a7 X.ne c7).toArray) := ⟨b', H0.out.2.below b'⟩
 clear b' H0 y0 y1 y2 y3 y4 y5 y6 y7 y8 y9 y10 y11 y12 y13 y14
 have y0 : w1.cell? ⟨B, 0, none⟩ = some (.int .i64 X.fb.nw) := H1.out.2.cell 0 rfl
 have y1 : w1.cell? ⟨B, 1, none⟩ = some (.int .i64 X.fb.set.wt) := H1.out.2.cell 1 rfl
 have y2 : w1.cell? ⟨B, 2, none⟩ = some (.int .i64 X.fb.set.tr) := H1.out.2.cell 2 rfl
 have y3 : w1.cell? ⟨B, 3, none⟩ = some (.slice a1 X.fb.set.n c1) := H1.out.2.cell 3 rfl
 have y4 : w1.cell? ⟨B, 4, none⟩ = some (.int .i64 X.fb.op.nx) := H1.out.2.cell 4 rfl
 have y5 : w1.cell? ⟨B, 5, none⟩ = some (.slice a2 X.fb.op.m c2) := H1.out.2.cell 5 rfl
 have y6 : w1.cell? ⟨B, 6, none⟩ = some (.slice a3 X.fb.nl c3) := H1.out.2.cell 6 rfl
 have y7 : w1.cell? ⟨B, 7, none⟩ = some (.int .i64 X.fb.sk) := H1.out.2.cell 7 rfl
 have y8 : w1.cell? ⟨B, 8, none⟩ = some (.int .i64 X.fb.re) := H1.out.2.cell 8 rfl
 have y9 : w1.cell? ⟨B, 9, none⟩ = some (.int .i64 X.fb.fa) := H1.out.2.cell 9 rfl
 have y10 : w1.cell? ⟨B, 10, none⟩ = some (.int .i64 X.fb.se) := H1.out.2.cell 10 rfl
 have y11 : w1.cell? ⟨B, 11, none⟩ = some (.slice a4 X.ns c4) := H1.out.2.cell 11 rfl
 have y12 : w1.cell? ⟨B, 12, none⟩ = some (.slice a5 X.nk c5) := H1.out.2.cell 12 rfl
 have y13 : w1.cell? ⟨B, 13, none⟩ = some (.slice a6 X.nr c6) := H1.out.2.cell 13 rfl
 have y14 : w1.cell? ⟨B, 14, none⟩ = some (.slice a7 X.ne c7) := H1.out.2.cell 14 rfl
 go_wp2_with fail
 refine (iJ X a1 _ c1 a2 _ c2 a3 _ c3 a4 _ c4 a5 _ c5 a6 _ c6 a7 _ c7 _ (HH.out.1.1.below H1.out.1) (HH.out.1.2.1.below H1.out.1) (HH.out.1.2.2.1.below H1.out.1) (HH.out.1.2.2.2.1.below H1.out.1) (HH.out.1.2.2.2.2.1.below H1.out.1) (HH.out.1.2.2.2.2.2.1.below H1.out.1) (HH.out.1.2.2.2.2.2.2.below H1.out.1) HH.out.2.1).mono ?_
 rintro e w2 ⟨g1, d1, g2, d2, g3, d3, g4, d4, g5, d5, g6, d6, g7, d7, rfl, R2_1, R2_2, R2_3, R2_4, R2_5, R2_6, R2_7, b'⟩
 have H2 : Hid (Below W.heap.size W w2 /\ ag w2 B 59 (bt X a1 X.fb.set.n c1 a2 X.fb.op.m c2 a3 X.fb.nl c3 a4 X.ns c4 a5 X.nk c5 a6 X.nr c6 a7 X.ne c7).toArray /\ jX w2 X g1 d1 g2 d2 g3 d3 g4 d4 g5 d5 g6 d6 g7 d7) := ⟨ae H1.out.1 b', H1.out.2.below b', R2_1.mono (Nat.zero_le _), R2_2.mono (Nat.zero_le _), R2_3.mono (Nat.zero_le _), R2_4.mono (Nat.zero_le _), R2_5.mono (Nat.zero_le _), R2_6.mono (Nat.zero_le _), R2_7.mono (Nat.zero_le _)⟩
 clear b' H1 R2_1 R2_2 R2_3 R2_4 R2_5 R2_6 R2_7 y0 y1 y2 y3 y4 y5 y6 y7 y8 y9 y10 y11 y12 y13 y14
 go_wp2_with fail
 refine (lC X g1 d1 g2 d2 g3 d3 g4 d4 g5 d5 g6 d6 g7 d7 _ (H2.out.2.2) HH.out.2.2.1).mono ?_
 rintro e w3 ⟨rfl, b'⟩
 rw [<- HO.out]
 have H3 : Hid (Below W.heap.size W w3 /\ ag w3 B 59 (bt X a1 X.fb.set.n c1 a2 X.fb.op.m c2 a3 X.fb.nl c3 a4 X.ns c4 a5 X.nk c5 a6 X.nr c6 a7 X.ne c7).toArray) := ⟨ae H2.out.1 b', H2.out.2.1.below b'⟩
 clear b' H2
 have y0 : w3.cell? ⟨B, 0, none⟩ = some (.int .i64 X.fb.nw) := H3.out.2.cell 0 rfl
 have y1 : w3.cell? ⟨B, 1, none⟩ = some (.int .i64 X.fb.set.wt) := H3.out.2.cell 1 rfl
 have y2 : w3.cell? ⟨B, 2, none⟩ = some (.int .i64 X.fb.set.tr) := H3.out.2.cell 2 rfl
 have y3 : w3.cell? ⟨B, 3, none⟩ = some (.slice a1 X.fb.set.n c1) := H3.out.2.cell 3 rfl
 have y4 : w3.cell? ⟨B, 4, none⟩ = some (.int .i64 X.fb.op.nx) := H3.out.2.cell 4 rfl
 have y5 : w3.cell? ⟨B, 5, none⟩ = some (.slice a2 X.fb.op.m c2) := H3.out.2.cell 5 rfl
 have y6 : w3.cell? ⟨B, 6, none⟩ = some (.slice a3 X.fb.nl c3) := H3.out.2.cell 6 rfl
 have y7 : w3.cell? ⟨B, 7, none⟩ = some (.int .i64 X.fb.sk) := H3.out.2.cell 7 rfl
 have y8 : w3.cell? ⟨B, 8, none⟩ = some (.int .i64 X.fb.re) := H3.out.2.cell 8 rfl
 have y9 : w3.cell? ⟨B, 9, none⟩ = some (.int .i64 X.fb.fa) := H3.out.2.cell 9 rfl
 have y10 : w3.cell? ⟨B, 10, none⟩ = some (.int .i64 X.fb.se) := H3.out.2.cell 10 rfl
 have y11 : w3.cell? ⟨B, 11, none⟩ = some (.slice a4 X.ns c4) := H3.out.2.cell 11 rfl
 have y12 : w3.cell? ⟨B, 12, none⟩ = some (.slice a5 X.nk c5) := H3.out.2.cell 12 rfl
 have y13 : w3.cell? ⟨B, 13, none⟩ = some (.slice a6 X.nr c6) := H3.out.2.cell 13 rfl
 have y14 : w3.cell? ⟨B, 14, none⟩ = some (.slice a7 X.ne c7) := H3.out.2.cell 14 rfl
 go_wp2_with fail
 refine (iJ X a1 _ c1 a2 _ c2 a3 _ c3 a4 _ c4 a5 _ c5 a6 _ c6 a7 _ c7 _ (HH.out.1.1.below H3.out.1) (HH.out.1.2.1.below H3.out.1) (HH.out.1.2.2.1.below H3.out.1) (HH.out.1.2.2.2.1.below H3.out.1) (HH.out.1.2.2.2.2.1.below H3.out.1) (HH.out.1.2.2.2.2.2.1.below H3.out.1) (HH.out.1.2.2.2.2.2.2.below H3.out.1) HH.out.2.1).mono ?_
 rintro e w4 ⟨p1, q1, p2, q2, p3, q3, p4, q4, p5, q5, p6, q6, p7, q7, rfl, R4_1, R4_2, R4_3, R4_4, R4_5, R4_6, R4_7, b'⟩
 obtain ⟨D, hD⟩ : ∃ D, D = w4.heap.size := ⟨_, rfl⟩
 obtain ⟨W5, hW5⟩ : ∃ W5, W5 = w4.alloc (.cells #[.int .i64 X.fb.nw, .int .i64 X.fb.set.wt, .int .i64 X.fb.set.tr, .slice p1 X.fb.set.n q1, .int .i64 X.fb.op.nx, .slice p2 X.fb.op.m q2, .slice p3 X.fb.nl q3, .int .i64 X.fb.sk, .int .i64 X.fb.re, .int .i64 X.fb.fa, .int .i64 X.fb.se, .slice p4 X.ns q4, .slice p5 X.nk q5, .slice p6 X.nr q6, .slice p7 X.ne q7] 67) := ⟨_, rfl⟩
 have H5 : Hid (Below W.heap.size W W5 /\ ag W5 B 59 (bt X a1 X.fb.set.n c1 a2 X.fb.op.m c2 a3 X.fb.nl c3 a4 X.ns c4 a5 X.nk c5 a6 X.nr c6 a7 X.ne c7).toArray /\ ag W5 D 67 (bt X p1 X.fb.set.n q1 p2 X.fb.op.m q2 p3 X.fb.nl q3 p4 X.ns q4 p5 X.nk q5 p6 X.nr q6 p7 X.ne q7).toArray /\ jX W5 X p1 q1 p2 q2 p3 q3 p4 q4 p5 q5 p6 q6 p7 q7) := by
  have b5 : Below w4.heap.size w4 W5 := by rw [hW5]; exact ac w4 _
  have k5 : ag W5 D 67 (bt X p1 X.fb.set.n q1 p2 X.fb.op.m q2 p3 X.fb.nl q3 p4 X.ns q4 p5 X.nk q5 p6 X.nr q6 p7 X.ne q7).toArray := by
   rw [hW5, hD]
   exact ag.new w4 _ _
  exact ⟨ae (ae H3.out.1 b') b5, (H3.out.2.below b').below b5, k5, (R4_1.mono (Nat.zero_le _)).below b5, (R4_2.mono (Nat.zero_le _)).below b5, (R4_3.mono (Nat.zero_le _)).below b5, (R4_4.mono (Nat.zero_le _)).below b5, (R4_5.mono (Nat.zero_le _)).below b5, (R4_6.mono (Nat.zero_le _)).below b5, (R4_7.mono (Nat.zero_le _)).below b5⟩
 clear b' H3 R4_1 R4_2 R4_3 R4_4 R4_5 R4_6 R4_7 y0 y1 y2 y3 y4 y5 y6 y7 y8 y9 y10 y11 y12 y13 y14
 go_upto_region 7 with fail
 rw [<- hW5, <- hD]
 clear hW5 hD
 have y0 : W5.cell? ⟨D, 0, none⟩ = some (.int .i64 X.fb.nw) := H5.out.2.2.1.cell 0 rfl
 have y1 : W5.cell? ⟨D, 1, none⟩ = some (.int .i64 X.fb.set.wt) := H5.out.2.2.1.cell 1 rfl
 have y2 : W5.cell? ⟨D, 2, none⟩ = some (.int .i64 X.fb.set.tr) := H5.out.2.2.1.cell 2 rfl
 have y3 : W5.cell? ⟨D, 3, none⟩ = some (.slice p1 X.fb.set.n q1) := H5.out.2.2.1.cell 3 rfl
 have y4 : W5.cell? ⟨D, 4, none⟩ = some (.int .i64 X.fb.op.nx) := H5.out.2.2.1.cell 4 rfl
 have y5 : W5.cell? ⟨D, 5, none⟩ = some (.slice p2 X.fb.op.m q2) := H5.out.2.2.1.cell 5 rfl
 have y6 : W5.cell? ⟨D, 6, none⟩ = some (.slice p3 X.fb.nl q3) := H5.out.2.2.1.cell 6 rfl
 have y7 : W5.cell? ⟨D, 7, none⟩ = some (.int .i64 X.fb.sk) := H5.out.2.2.1.cell 7 rfl
 have y8 : W5.cell? ⟨D, 8, none⟩ = some (.int .i64 X.fb.re) := H5.out.2.2.1.cell 8 rfl
 have y9 : W5.cell? ⟨D, 9, none⟩ = some (.int .i64 X.fb.fa) := H5.out.2.2.1.cell 9 rfl
 have y10 : W5.cell? ⟨D, 10, none⟩ = some (.int .i64 X.fb.se) := H5.out.2.2.1.cell 10 rfl
 have y11 : W5.cell? ⟨D, 11, none⟩ = some (.slice p4 X.ns q4) := H5.out.2.2.1.cell 11 rfl
 have y12 : W5.cell? ⟨D, 12, none⟩ = some (.slice p5 X.nk q5) := H5.out.2.2.1.cell 12 rfl
 have y13 : W5.cell? ⟨D, 13, none⟩ = some (.slice p6 X.nr q6) := H5.out.2.2.1.cell 13 rfl
 have y14 : W5.cell? ⟨D, 14, none⟩ = some (.slice p7 X.ne q7) := H5.out.2.2.1.cell 14 rfl
 go_wp2_with fail
 refine (lB X p1 q1 p2 q2 p3 q3 p4 q4 p5 q5 p6 q6 p7 q7 _ (H5.out.2.2.2) HH.out.2.2.1).mono ?_
 rintro e w6 ⟨rfl, b'⟩
 rw [<- HO.out]
 have H6 : Hid (Below W.heap.size W w6 /\ ag w6 B 59 (bt X a1 X.fb.set.n c1 a2 X.fb.op.m c2 a3 X.fb.nl c3 a4 X.ns c4 a5 X.nk c5 a6 X.nr c6 a7 X.ne c7).toArray /\ ag w6 D 67 (bt X p1 X.fb.set.n q1 p2 X.fb.op.m q2 p3 X.fb.nl q3 p4 X.ns q4 p5 X.nk q5 p6 X.nr q6 p7 X.ne q7).toArray /\ jX w6 X p1 q1 p2 q2 p3 q3 p4 q4 p5 q5 p6 q6 p7 q7) := ⟨ae H5.out.1 b', H5.out.2.1.below b', H5.out.2.2.1.below b', H5.out.2.2.2.1.below b', H5.out.2.2.2.2.1.below b', H5.out.2.2.2.2.2.1.below b', H5.out.2.2.2.2.2.2.1.below b', H5.out.2.2.2.2.2.2.2.1.below b', H5.out.2.2.2.2.2.2.2.2.1.below b', H5.out.2.2.2.2.2.2.2.2.2.below b'⟩
 clear b' H5 y0 y1 y2 y3 y4 y5 y6 y7 y8 y9 y10 y11 y12 y13 y14
 have ebb : (ok == ok) = true := by simp
 have ebn : (ok != ok) = false := by simp
 go_upto_region 10 with fail
 clear ebb ebn
 refine wp_region_any (by kernel_rfl) ?_
 refine aX (fun u => Below w6.heap.size w6 u) (fun i v u => match i with
  | 0 => v = .agg (bt X p1 X.fb.set.n q1 p2 X.fb.op.m q2 p3 X.fb.nl q3 p4 X.ns q4 p5 X.nk q5 p6 X.nr q6 p7 X.ne q7).toArray
  | 1 => v = .agg (bt X a1 X.fb.set.n c1 a2 X.fb.op.m c2 a3 X.fb.nl c3 a4 X.ns c4 a5 X.nk c5 a6 X.nr c6 a7 X.ne c7).toArray
  | 2 => ∃ k1 j1 k2 j2 k3 j3 k4 j4 k5 j5 k6 j6 k7 j7, v = .agg (bt X k1 X.fb.set.n j1 k2 X.fb.op.m j2 k3 X.fb.nl j3 k4 X.ns j4 k5 X.nk j5 k6 X.nr j6 k7 X.ne j7).toArray /\ jX u X k1 j1 k2 j2 k3 j3 k4 j4 k5 j5 k6 j6 k7 j7
  | 3 => v = .bool true
  | 4 => v = .bool false
  | _ => True) (by kernel_rfl) (by kernel_rfl) ?_ (by first | exact Below.refl _ _ | exact (Below.refl _ _).drew) ?_ ?_ _ _ rfl (by decide) (fun i => by simp [Array.getD]; try (split <;> rfl))
 ·intro i v u u' h hb
  match i with
  | 0 => exact h
  | 1 => exact h
  | 2 =>
   obtain ⟨k1, j1, k2, j2, k3, j3, k4, j4, k5, j5, k6, j6, k7, j7, e, hl⟩ := h
   exact ⟨k1, j1, k2, j2, k3, j3, k4, j4, k5, j5, k6, j6, k7, j7, e, hl.1.below hb, hl.2.1.below hb, hl.2.2.1.below hb, hl.2.2.2.1.below hb, hl.2.2.2.2.1.below hb, hl.2.2.2.2.2.1.below hb, hl.2.2.2.2.2.2.below hb⟩
  | 3 => exact h
  | 4 => exact h
  | _ + 5 => trivial
 ·intro vs u hR hall
  have e4 : vs 4 = .bool false := hall 4 (by simp)
  simp only [bm]
  rw [e4]
  clear hall e4
  have HB : Hid (Below w.heap.size w u) := ae (ae HH.out.2.2.2.2 H6.out.1) hR
  clear H6 hR
  go_simp
  go_wp2
  go_ret
  exact ⟨rfl, HB.out⟩
 intro u i o ρ hR ho hρ hc hf hd
 have hi : i < 5 := by
  have := (Array.getElem?_eq_some_iff.1 ho).1
  simpa using this
 obtain rfl | rfl | rfl | rfl | rfl : i = 0 \/ i = 1 \/ i = 2 \/ i = 3 \/ i = 4 := by omega
 all_goals (simp only [List.getElem?_toArray, List.getElem?_cons_zero, List.getElem?_cons_succ, Option.some.injEq] at ho; subst ho)
 ·exact yr (ai rfl (hρ 5 (by kernel_rfl)) (run_loadAt_mid u D 0 67 (bt X p1 X.fb.set.n q1 p2 X.fb.op.m q2 p3 X.fb.nl q3 p4 X.ns q4 p5 X.nk q5 p6 X.nr q6 p7 X.ne q7) _ (H6.out.2.2.1.below hR).rng underlying67 rfl (by kernel_rfl))) rfl hR
 ·exact yr (ai rfl (hρ 1 (by kernel_rfl)) (run_loadAt_mid u B 0 59 (bt X a1 X.fb.set.n c1 a2 X.fb.op.m c2 a3 X.fb.nl c3 a4 X.ns c4 a5 X.nk c5 a6 X.nr c6 a7 X.ne c7) _ (H6.out.2.1.below hR).rng underlying59 rfl (by kernel_rfl))) rfl hR
 ·have h1 : ρ (.tmp 23) = .agg (bt X a1 X.fb.set.n c1 a2 X.fb.op.m c2 a3 X.fb.nl c3 a4 X.ns c4 a5 X.nk c5 a6 X.nr c6 a7 X.ne c7).toArray := dq hd 1 23
  refine .inl ⟨rfl, .inr ⟨_, _, bj rfl (hf _) (args := #[.agg (bt X a1 X.fb.set.n c1 a2 X.fb.op.m c2 a3 X.fb.nl c3 a4 X.ns c4 a5 X.nk c5 a6 X.nr c6 a7 X.ne c7).toArray]) (by simp [h1]) (by kernel_rfl), ?_⟩⟩
  refine (iJ X a1 _ c1 a2 _ c2 a3 _ c3 a4 _ c4 a5 _ c5 a6 _ c6 a7 _ c7 _ (HH.out.1.1.below (ae H6.out.1 hR)) (HH.out.1.2.1.below (ae H6.out.1 hR)) (HH.out.1.2.2.1.below (ae H6.out.1 hR)) (HH.out.1.2.2.2.1.below (ae H6.out.1 hR)) (HH.out.1.2.2.2.2.1.below (ae H6.out.1 hR)) (HH.out.1.2.2.2.2.2.1.below (ae H6.out.1 hR)) (HH.out.1.2.2.2.2.2.2.below (ae H6.out.1 hR)) HH.out.2.1).mono ?_
  rintro e u' ⟨k1, j1, k2, j2, k3, j3, k4, j4, k5, j5, k6, j6, k7, j7, he, P7_1, P7_2, P7_3, P7_4, P7_5, P7_6, P7_7, b'⟩
  exact ⟨_, he, ⟨k1, j1, k2, j2, k3, j3, k4, j4, k5, j5, k6, j6, k7, j7, rfl, P7_1.mono (Nat.zero_le _), P7_2.mono (Nat.zero_le _), P7_3.mono (Nat.zero_le _), P7_4.mono (Nat.zero_le _), P7_5.mono (Nat.zero_le _), P7_6.mono (Nat.zero_le _), P7_7.mono (Nat.zero_le _)⟩, ae hR b', b'⟩
 ·have h0 : ρ (.tmp 22) = .agg (bt X p1 X.fb.set.n q1 p2 X.fb.op.m q2 p3 X.fb.nl q3 p4 X.ns q4 p5 X.nk q5 p6 X.nr q6 p7 X.ne q7).toArray := dq hd 0 22
  obtain ⟨k1, j1, k2, j2, k3, j3, k4, j4, k5, j5, k6, j6, k7, j7, hv, hl⟩ : ∃ k1 j1 k2 j2 k3 j3 k4 j4 k5 j5 k6 j6 k7 j7, ρ (.tmp 24) = .agg (bt X k1 X.fb.set.n j1 k2 X.fb.op.m j2 k3 X.fb.nl j3 k4 X.ns j4 k5 X.nk j5 k6 X.nr j6 k7 X.ne j7).toArray /\ jX u X k1 j1 k2 j2 k3 j3 k4 j4 k5 j5 k6 j6 k7 j7 := dq hd 2 24
  refine .inl ⟨rfl, .inr ⟨_, _, bj rfl (hf _) (args := #[.agg (bt X p1 X.fb.set.n q1 p2 X.fb.op.m q2 p3 X.fb.nl q3 p4 X.ns q4 p5 X.nk q5 p6 X.nr q6 p7 X.ne q7).toArray, .agg (bt X k1 X.fb.set.n j1 k2 X.fb.op.m j2 k3 X.fb.nl j3 k4 X.ns j4 k5 X.nk j5 k6 X.nr j6 k7 X.ne j7).toArray]) (by simp [h0, hv]) (by kernel_rfl), ?_⟩⟩
  refine (pX X p1 _ q1 p2 _ q2 p3 _ q3 p4 _ q4 p5 _ q5 p6 _ q6 p7 _ q7 k1 j1 k2 j2 k3 j3 k4 j4 k5 j5 k6 j6 k7 j7 _ (H6.out.2.2.2.1.below hR) (H6.out.2.2.2.2.1.below hR) (H6.out.2.2.2.2.2.1.below hR) (H6.out.2.2.2.2.2.2.1.below hR) (H6.out.2.2.2.2.2.2.2.1.below hR) (H6.out.2.2.2.2.2.2.2.2.1.below hR) (H6.out.2.2.2.2.2.2.2.2.2.below hR) hl.1 hl.2.1 hl.2.2.1 hl.2.2.2.1 hl.2.2.2.2.1 hl.2.2.2.2.2.1 hl.2.2.2.2.2.2 HH.out.2.1).mono ?_
  rintro e u' ⟨he, b'⟩
  exact ⟨_, he, rfl, ae hR b', b'⟩
 have h3 : ρ (.tmp 25) = .bool true := dq hd 3 25
 exact yr (bH rfl h3 (by go_simp)) rfl hR
end Go.Proofs.YtplaoagcedgdfaaGreat
