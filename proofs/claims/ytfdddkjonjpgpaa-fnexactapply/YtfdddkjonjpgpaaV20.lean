/- Texts that the proof needs, joined: ApplyL. -/
import Derived.Test.YtfdddkjonjpgpaaV19
import Derived.Test.YtfdddkjonjpgpaaV15
import Derived.Test.YtfdddkjonjpgpaaV2
namespace Go.Proofs.Ytfdddkjonjpgpaa
open Go.RowKit Go.Joins
set_option linter.unusedVariables false
set_option linter.unusedSimpArgs false
set_option maxRecDepth 20000 in
set_option maxHeartbeats 4000000 in
theorem apply_big1 (a1 a2 a3 a4 : Option Addr) (l1 l2 l3 l4 c1 c2 c3 c4 : Nat) (n : Nat) (b : Option Addr) (c : Nat) (w : World) (q1 : l1 ≤ maxLen) (q2 : l2 ≤ maxLen) (q3 : l3 ≤ maxLen) (q4 : l4 ≤ maxLen) (h : ¬ l1 + l2 + l3 + l4 ≤ 1048576) :
    Calls Try.prog 4 #[dv a1 a2 a3 a4 l1 l2 l3 l4 c1 c2 c3 c4, .slice b n c] w fun e w' => e = .returned (.bool true) ∧ Below w.heap.size w w' := by
  obtain ⟨W, hW⟩ : ∃ W, W = w.alloc (.cells #[.slice a1 l1 c1, .slice a2 l2 c2, .slice a3 l3 c3, .slice a4 l4 c4] 40) := ⟨_, rfl⟩
  have b0 : Below w.heap.size w W := by rw [hW]; exact bel_alloc _ _
  have A0 : Blk W w.heap.size 40 #[.slice a1 l1 c1, .slice a2 l2 c2, .slice a3 l3 c3, .slice a4 l4 c4] := by rw [hW]; exact Blk.new _ _ _
  have HX : Hid (¬ (l1 : Int) + (l2 : Int) + (l3 : Int) + (l4 : Int) ≤ 1048576) := by show ¬ _; omega
  obtain ⟨y0, y1, y2, y3⟩ := A0.four
  clear A0 h
  go_enter Try.func4, Try.ntmps4
  go_upto_region 1 with fail
  rw [← hW]
  clear hW
  go_wp2_with fail
  refine (szDevice_over a1 a2 a3 a4 l1 l2 l3 l4 c1 c2 c3 c4 1048576 _ (by decide) (by decide) q1 q2 q3 q4 (by have := HX.out; omega)).mono ?_
  rintro e w1 ⟨rfl, b1⟩
  have B := bel_nx b0 b1
  clear b1 b0 y0 y1 y2 y3
  go_wp2
  go_ret
  exact ⟨rfl, B⟩
set_option maxRecDepth 20000 in
set_option maxHeartbeats 4000000 in
theorem apply_big2 (a1 a2 a3 a4 : Option Addr) (l1 l2 l3 l4 c1 c2 c3 c4 : Nat) (n : Nat) (f : Nat → VQ) (b : Option Addr) (c : Nat) (w : World) (hr : Rd w 0 (.list 6 n (fun i => trs (qT (f i)))) (.slice b n c)) (h : l1 + l2 + l3 + l4 ≤ 1048576) (h2 : ¬ l1 + l2 + l3 + l4 + (Tr.list 6 n (fun i => trs (qT (f i)))).sz ≤ 1048576) :
    Calls Try.prog 4 #[dv a1 a2 a3 a4 l1 l2 l3 l4 c1 c2 c3 c4, .slice b n c] w fun e w' => e = .returned (.bool true) ∧ Below w.heap.size w w' := by
  obtain ⟨W, hW⟩ : ∃ W, W = w.alloc (.cells #[.slice a1 l1 c1, .slice a2 l2 c2, .slice a3 l3 c3, .slice a4 l4 c4] 40) := ⟨_, rfl⟩
  have b0 : Below w.heap.size w W := by rw [hW]; exact bel_alloc _ _
  have A0 : Blk W w.heap.size 40 #[.slice a1 l1 c1, .slice a2 l2 c2, .slice a3 l3 c3, .slice a4 l4 c4] := by rw [hW]; exact Blk.new _ _ _
  obtain ⟨lf, hlf⟩ : ∃ lf : Nat, lf = 1048576 - (l1 + l2 + l3 + l4) := ⟨_, rfl⟩
  have HX : Hid ((l1 : Int) + (l2 : Int) + (l3 : Int) + (l4 : Int) ≤ 1048576 ∧ (1048576 : Int) - (l1 : Int) - (l2 : Int) - (l3 : Int) - (l4 : Int) = (lf : Int) ∧ lf ≤ 1048576 ∧ lfT lf (Tr.list 6 n (fun i => trs (qT (f i)))).sz = -1 ∧ Rd w 0 (.list 6 n (fun i => trs (qT (f i)))) (.slice b n c) ∧ Below w.heap.size w W) := ⟨by omega, by omega, by omega, by unfold lfT; rw [if_neg (by omega)], hr, b0⟩
  have hln : ¬ ((lf : Int) < 0) := by omega
  obtain ⟨y0, y1, y2, y3⟩ := A0.four
  clear A0 h h2 hlf hr b0
  go_enter Try.func4, Try.ntmps4
  go_upto_region 1 with fail
  rw [← hW]
  clear hW
  go_wp2_with fail
  refine (szDevice_at a1 a2 a3 a4 l1 l2 l3 l4 c1 c2 c3 c4 1048576 _ (by decide) HX.out.1).mono ?_
  rintro e w1 ⟨rfl, b1⟩
  rw [HX.out.2.1]
  have HB : Hid (Below w.heap.size w w1) := bel_nx HX.out.2.2.2.2.2 b1
  clear b1 y0 y1 y2 y3
  go_wp2_with fail
  refine (szReqS_t n f b _ c lf _ (HX.out.2.2.2.2.1.below HB.out) HX.out.2.2.1).mono ?_
  rintro e w2 ⟨rfl, b2⟩
  rw [HX.out.2.2.2.1]
  have B := bel_nx HB.out b2
  clear b2
  go_wp2
  go_ret
  exact ⟨rfl, B⟩
set_option maxRecDepth 20000 in
set_option maxHeartbeats 16000000 in
theorem apply_law (a1 a2 a3 a4 : Option Addr) (l1 l2 l3 l4 c1 c2 c3 c4 : Nat) (cs is : List Bool) (hs rs : List Int) (n : Nat) (f : Nat → VQ) (b : Option Addr) (c : Nat) (w : World) (hn : LnD l1 l2 l3 l4 cs is hs rs) (hs0 : SlD w a1 a2 a3 a4 cs is hs rs) (hr : Rd w 0 (.list 6 n (fun i => trs (qT (f i)))) (.slice b n c)) (hfit : l1 + l2 + l3 + l4 + (Tr.list 6 n (fun i => trs (qT (f i)))).sz ≤ 1048576) :
    Calls Try.prog 4 #[dv a1 a2 a3 a4 l1 l2 l3 l4 c1 c2 c3 c4, .slice b n c] w fun e w' => e = .returned (.bool true) ∧ Below w.heap.size w w' := by
  obtain ⟨B, hB⟩ : ∃ B, B = w.heap.size := ⟨_, rfl⟩
  obtain ⟨W, hW⟩ : ∃ W, W = w.alloc (.cells #[.slice a1 l1 c1, .slice a2 l2 c2, .slice a3 l3 c3, .slice a4 l4 c4] 40) := ⟨_, rfl⟩
  have b0 : Below w.heap.size w W := by rw [hW]; exact bel_alloc _ _
  have z0 : W.heap.size = B + 1 := by rw [hW, hB]; simp
  have A0 : Blk W B 40 #[.slice a1 l1 c1, .slice a2 l2 c2, .slice a3 l3 c3, .slice a4 l4 c4] := by rw [hW, hB]; exact Blk.new _ _ _
  obtain ⟨lf, hlf⟩ : ∃ lf : Nat, lf = 1048576 - (l1 + l2 + l3 + l4) := ⟨_, rfl⟩
  obtain ⟨l9, hl9⟩ : ∃ l9, l9 = lfT lf (Tr.list 6 n (fun i => trs (qT (f i)))).sz := ⟨_, rfl⟩
  have hnn : ¬ (l9 < 0) := by rw [hl9]; unfold lfT; rw [if_pos (by omega)]; omega
  have hln : ¬ ((lf : Int) < 0) := by omega
  have HX : Hid ((l1 : Int) + (l2 : Int) + (l3 : Int) + (l4 : Int) ≤ 1048576 ∧ (1048576 : Int) - (l1 : Int) - (l2 : Int) - (l3 : Int) - (l4 : Int) = (lf : Int) ∧ lf ≤ 1048576 ∧ l9 = lfT lf (Tr.list 6 n (fun i => trs (qT (f i)))).sz ∧ Below w.heap.size w W) := ⟨by omega, by omega, by omega, hl9, b0⟩
  have hel : ∀ k, k < n → (f k).ws.length + (f k).bs.length + (l1 + l2 + l3 + l4) ≤ 1048576 := fun k hk => by
    rw [Tr.sz_list] at hfit
    have h8 := sumN_at (fun k => szT 6 (trs (qT (f k)))) hk
    rw [szT_q] at h8
    omega
  have hn0 : n ≤ 1048576 := by rw [Tr.sz_list] at hfit; omega
  have hla : ∀ k, k < n → (apA is rs cs hs f k).ws.length ≤ 2000000 ∧ (apA is rs cs hs f k).bs.length ≤ 2000000 := fun k hk => by
    have h8 := apA_len is rs cs hs f k
    have h7 := hel k hk
    obtain ⟨e1, e2, e3, e4⟩ := hn
    omega
  have HH : Hid (LnD l1 l2 l3 l4 cs is hs rs ∧ SlD W a1 a2 a3 a4 cs is hs rs ∧ SmD 2000000 cs is hs rs ∧ Rd W 0 (.list 6 n (fun i => trs (qT (f i)))) (.slice b n c) ∧ (Tr.list 6 n (fun i => trs (qT (f i)))).sz ≤ 1048576 ∧ (∀ k, k < n → (f k).ws.length ≤ 2000000 ∧ (f k).bs.length ≤ 2000000)) := ⟨hn, hs0.below b0, by obtain ⟨e1, e2, e3, e4⟩ := hn; exact ⟨by omega, by omega, by omega, by omega⟩, hr.below b0, by omega, fun k hk => by have := hel k hk; omega⟩
  have HA : Hid (n ≤ 1048576 ∧ (∀ k, k < n → (apA is rs cs hs f k).ws.length ≤ 2000000 ∧ (apA is rs cs hs f k).bs.length ≤ 2000000) ∧ LnD l1 l2 l3 l4 (apS is rs cs hs f n).1 is (apS is rs cs hs f n).2 rs ∧ SmD 2000000 (apS is rs cs hs f n).1 is (apS is rs cs hs f n).2 rs ∧ sumN n (fun i => ctVQ (f i)) ≤ 1048576 * 4000004 ∧ sumN n (fun i => ctVA (apA is rs cs hs f i)) ≤ 1048576 * 4000004) := by
    have h8 := apS_len is rs cs hs f n
    obtain ⟨e1, e2, e3, e4⟩ := hn
    refine ⟨hn0, hla, ⟨by rw [h8.1]; exact e1, e2, by rw [h8.2]; exact e3, e4⟩, ⟨by rw [h8.1]; omega, by omega, by rw [h8.2]; omega, by omega⟩, ?_, ?_⟩
    · have h9 := sumN_bd (g := fun i => ctVQ (f i)) (M := 4000004) (n := n) (fun i hi => by have := hel i hi; simp only [ctVQ]; omega)
      exact Nat.le_trans h9 (Nat.mul_le_mul_right _ hn0)
    · have h9 := sumN_bd (g := fun i => ctVA (apA is rs cs hs f i)) (M := 4000004) (n := n) (fun i hi => by have := hla i hi; simp only [ctVA]; omega)
      exact Nat.le_trans h9 (Nat.mul_le_mul_right _ hn0)
  have hlm : l1 ≤ 2000000 ∧ l2 ≤ 2000000 ∧ l3 ≤ 2000000 ∧ l4 ≤ 2000000 := by omega
  have HM : Hid (l1 ≤ 2000000 ∧ l2 ≤ 2000000 ∧ l3 ≤ 2000000 ∧ l4 ≤ 2000000) := hlm
  have H0 : Hid (Below W.heap.size W W ∧ Blk W B 40 #[.slice a1 l1 c1, .slice a2 l2 c2, .slice a3 l3 c3, .slice a4 l4 c4] ∧ W.heap.size = B + 1) := ⟨Below.refl _ _, A0, z0⟩
  obtain ⟨y0, y1, y2, y3⟩ := A0.four
  clear A0 hlf hl9 b0 hfit hel hla hn hs0 hr hlm z0
  go_enter Try.func4, Try.ntmps4
  go_upto_region 1 with fail
  rw [← hW, ← hB]
  clear hW hB
  go_wp2_with fail
  refine (szDevice_at a1 a2 a3 a4 l1 l2 l3 l4 c1 c2 c3 c4 1048576 _ (by decide) HX.out.1).mono ?_
  rintro e w1 ⟨rfl, b'⟩
  rw [HX.out.2.1]
  have H1 : Hid (Below W.heap.size W w1 ∧ Blk w1 B 40 #[.slice a1 l1 c1, .slice a2 l2 c2, .slice a3 l3 c3, .slice a4 l4 c4]) := ⟨b', H0.out.2.1.below b'⟩
  clear b' y0 y1 y2 y3
  go_wp2_with fail
  refine (szReqS_t n f b _ c lf _ (HH.out.2.2.2.1.below H1.out.1) HX.out.2.2.1).mono ?_
  rintro e w2 ⟨rfl, b'⟩
  rw [← HX.out.2.2.2.1]
  have H2 : Hid (Below W.heap.size W w2 ∧ Blk w2 B 40 #[.slice a1 l1 c1, .slice a2 l2 c2, .slice a3 l3 c3, .slice a4 l4 c4]) := ⟨bel_nx H1.out.1 b', H1.out.2.below b'⟩
  clear b' H1
  obtain ⟨y0, y1, y2, y3⟩ := H2.out.2.four
  go_wp2_with fail
  refine (toDevice_any a1 a2 a3 a4 l1 l2 l3 l4 c1 c2 c3 c4 cs is hs rs _ HH.out.1 (HH.out.2.1.below H2.out.1) HH.out.2.2.1).mono ?_
  rintro e w3 ⟨s1, s2, s3, s4, rfl, O3, b'⟩
  have H3 : Hid (Below W.heap.size W w3 ∧ Blk w3 B 40 #[.slice a1 l1 c1, .slice a2 l2 c2, .slice a3 l3 c3, .slice a4 l4 c4] ∧ SlD w3 (some ⟨s1, 0, none⟩) (some ⟨s2, 0, none⟩) (some ⟨s3, 0, none⟩) (some ⟨s4, 0, none⟩) cs is hs rs) := ⟨bel_nx H2.out.1 b', H2.out.2.below b', O3.sl.2⟩
  clear b' H2 O3 y0 y1 y2 y3
  go_wp2_with fail
  refine (toReqS_m n f b _ c _ (HH.out.2.2.2.1.below H3.out.1) HH.out.2.2.2.2.1).mono ?_
  rintro e w4 ⟨bs4, d4, rfl, O4', b'⟩
  have H4 : Hid (Below W.heap.size W w4 ∧ Blk w4 B 40 #[.slice a1 l1 c1, .slice a2 l2 c2, .slice a3 l3 c3, .slice a4 l4 c4] ∧ SlD w4 (some ⟨s1, 0, none⟩) (some ⟨s2, 0, none⟩) (some ⟨s3, 0, none⟩) (some ⟨s4, 0, none⟩) cs is hs rs ∧ Rd w4 0 (.list 6 n (fun i => trs (qT (f i)))) (.slice bs4 n d4)) := ⟨bel_nx H3.out.1 b', H3.out.2.1.below b', H3.out.2.2.below b', O4'.rd.mono (Nat.zero_le _)⟩
  clear b' H3 O4'
  go_wp2_with fail
  refine (specApply_any (some ⟨s1, 0, none⟩) (some ⟨s2, 0, none⟩) (some ⟨s3, 0, none⟩) (some ⟨s4, 0, none⟩) l1 l2 l3 l4 l1 l2 l3 l4 cs is hs rs n f bs4 d4 _ HH.out.1 H4.out.2.2.1 HH.out.2.2.1 H4.out.2.2.2 HA.out.1 HH.out.2.2.2.2.2).mono ?_
  rintro e w5 ⟨x1, x2, x3, x4, e1, e2, e3, e4, bt, ct, rfl, S5, L5, b'⟩
  obtain ⟨M0, hM0⟩ : ∃ M0, M0 = w5.heap.size := ⟨_, rfl⟩
  obtain ⟨W6, hW6⟩ : ∃ W6, W6 = w5.alloc (.cells #[.slice x1 l1 e1, .slice x2 l2 e2, .slice x3 l3 e3, .slice x4 l4 e4] 27) := ⟨_, rfl⟩
  have H6 : Hid (Below W.heap.size W W6 ∧ Blk W6 B 40 #[.slice a1 l1 c1, .slice a2 l2 c2, .slice a3 l3 c3, .slice a4 l4 c4] ∧ Blk W6 M0 27 #[.slice x1 l1 e1, .slice x2 l2 e2, .slice x3 l3 e3, .slice x4 l4 e4] ∧ Below w5.heap.size w5 W6 ∧ SlD w5 x1 x2 x3 x4 (apS is rs cs hs f n).1 is (apS is rs cs hs f n).2 rs ∧ Rd w5 0 (.list 6 n (fun i => trs (aT (apA is rs cs hs f i)))) (.slice bt n ct) ∧ B < M0 ∧ w5.heap.size = M0 ∧ W6.heap.size = M0 + 1) := by
    have b6 : Below w5.heap.size w5 W6 := by rw [hW6]; exact bel_alloc _ _
    have s4 := H4.out.1.size
    have s5 := b'.size
    have sB := H0.out.2.2
    exact ⟨bel_nx (bel_nx H4.out.1 b') b6, (H4.out.2.1.below b').below b6, by rw [hW6, hM0]; exact Blk.new _ _ _, b6, S5, (L5.rd (by have := HA.out.1; omega) (fun k hk => by have := HA.out.2.1 k hk; omega)).2, by omega, hM0.symm, by rw [hW6, hM0]; simp⟩
  clear b' H4 S5 L5
  go_upto_region 9 with fail
  rw [← hW6, ← hM0]
  clear hW6 hM0
  obtain ⟨y0, y1, y2, y3⟩ := H6.out.2.1.four
  go_wp2_with fail
  refine (toDevice_any a1 a2 a3 a4 l1 l2 l3 l4 c1 c2 c3 c4 cs is hs rs _ HH.out.1 (HH.out.2.1.below H6.out.1) HH.out.2.2.1).mono ?_
  rintro e w7 ⟨g1, g2, g3, g4, rfl, O7, b'⟩
  obtain ⟨X0, hX0⟩ : ∃ X0, X0 = w7.heap.size := ⟨_, rfl⟩
  obtain ⟨W8, hW8⟩ : ∃ W8, W8 = w7.alloc (.cells #[.slice (some ⟨g1, 0, none⟩) l1 l1, .slice (some ⟨g2, 0, none⟩) l2 l2, .slice (some ⟨g3, 0, none⟩) l3 l3, .slice (some ⟨g4, 0, none⟩) l4 l4] 27) := ⟨_, rfl⟩
  have H8 : Hid (Below W.heap.size W W8 ∧ Blk W8 B 40 #[.slice a1 l1 c1, .slice a2 l2 c2, .slice a3 l3 c3, .slice a4 l4 c4] ∧ Blk W8 M0 27 #[.slice x1 l1 e1, .slice x2 l2 e2, .slice x3 l3 e3, .slice x4 l4 e4] ∧ Below w5.heap.size w5 W8 ∧ Blk W8 X0 27 #[.slice (some ⟨g1, 0, none⟩) l1 l1, .slice (some ⟨g2, 0, none⟩) l2 l2, .slice (some ⟨g3, 0, none⟩) l3 l3, .slice (some ⟨g4, 0, none⟩) l4 l4] ∧ OwnD W8 (M0 + 1) (some ⟨g1, 0, none⟩) (some ⟨g2, 0, none⟩) (some ⟨g3, 0, none⟩) (some ⟨g4, 0, none⟩) l1 l2 l3 l4 l1 l2 l3 l4 cs is hs rs ∧ (∀ g, (Of4 (.slice (some ⟨g1, 0, none⟩) l1 l1) (.slice (some ⟨g2, 0, none⟩) l2 l2) (.slice (some ⟨g3, 0, none⟩) l3 l3) (.slice (some ⟨g4, 0, none⟩) l4 l4)) g → M0 < g ∧ g < X0) ∧ M0 < X0 ∧ W8.heap.size = X0 + 1) := by
    have b8 : Below w7.heap.size w7 W8 := by rw [hW8]; exact bel_alloc _ _
    have h6 := H6.out
    have s7 := b'.size
    refine ⟨bel_nx (bel_nx h6.1 b') b8, (h6.2.1.below b').below b8, (h6.2.2.1.below b').below b8, bel_nx (bel_nx h6.2.2.2.1 b') b8, by rw [hW8, hX0]; exact Blk.new _ _ _, (O7.mono (by omega)).below b8, fun g hg => ?_, by omega, by rw [hW8, hX0]; simp⟩
    have := O7.of4 g hg
    omega
  clear b' O7 y0 y1 y2 y3
  go_upto_region 10 with fail
  rw [← hW8, ← hX0]
  clear hW8 hX0
  go_wp2_with fail
  refine (toReqS_m n f b _ c _ (HH.out.2.2.2.1.below H8.out.1) HH.out.2.2.2.2.1).mono ?_
  rintro e w9 ⟨bq, dq, rfl, ⟨Kx, Fx, okx, lox⟩, b'⟩
  obtain ⟨Y, hY⟩ : ∃ Y, Y = w9.heap.size := ⟨_, rfl⟩
  have H9 : Hid (Below W.heap.size W w9 ∧ Blk w9 B 40 #[.slice a1 l1 c1, .slice a2 l2 c2, .slice a3 l3 c3, .slice a4 l4 c4] ∧ Blk w9 M0 27 #[.slice x1 l1 e1, .slice x2 l2 e2, .slice x3 l3 e3, .slice x4 l4 e4] ∧ Below w5.heap.size w5 w9 ∧ Blk w9 X0 27 #[.slice (some ⟨g1, 0, none⟩) l1 l1, .slice (some ⟨g2, 0, none⟩) l2 l2, .slice (some ⟨g3, 0, none⟩) l3 l3, .slice (some ⟨g4, 0, none⟩) l4 l4] ∧ OwnD w9 (M0 + 1) (some ⟨g1, 0, none⟩) (some ⟨g2, 0, none⟩) (some ⟨g3, 0, none⟩) (some ⟨g4, 0, none⟩) l1 l2 l3 l4 l1 l2 l3 l4 cs is hs rs ∧ Fit w9 (.list 6 n (fun i => trs (qT (f i)))) Kx (.slice bq n dq) ∧ Kx.ok ∧ (∀ g, Kx.bl g → X0 < g ∧ g < Y) ∧ X0 < Y ∧ w9.heap.size = Y) := by
    have h8 := H8.out
    have s9 := b'.size
    exact ⟨bel_nx h8.1 b', h8.2.1.below b', h8.2.2.1.below b', bel_nx h8.2.2.2.1 b', h8.2.2.2.2.1.below b', h8.2.2.2.2.2.1.below b', Fx, okx, fun g hg => by have q1 := lox g hg; have q2 := Fx.lt hg; omega, by omega, hY.symm⟩
  clear b' Fx lox okx hY
  obtain ⟨y0, y1, y2, y3⟩ := H9.out.2.2.2.2.1.four
  go_wp2_with fail
  refine (implApply_any (some ⟨g1, 0, none⟩) (some ⟨g2, 0, none⟩) (some ⟨g3, 0, none⟩) (some ⟨g4, 0, none⟩) l1 l2 l3 l4 l1 l2 l3 l4 cs is hs rs n f bq dq _ HH.out.1 H9.out.2.2.2.2.2.1.sl.2 HH.out.2.2.1 (H9.out.2.2.2.2.2.2.1.rd (fun _ _ => Nat.zero_le _)) HA.out.1 HH.out.2.2.2.2.2).mono ?_
  rintro e w10 ⟨h1, h2, h3, h4, gt, rfl, OD0, ⟨Kg, Fg, okg, log⟩, lt0, lo0, b'⟩
  obtain ⟨G0, hG0⟩ : ∃ G0, G0 = w10.heap.size := ⟨_, rfl⟩
  obtain ⟨W11, hW11⟩ : ∃ W11, W11 = w10.alloc (.cells #[.slice (some ⟨h1, 0, none⟩) l1 l1, .slice (some ⟨h2, 0, none⟩) l2 l2, .slice (some ⟨h3, 0, none⟩) l3 l3, .slice (some ⟨h4, 0, none⟩) l4 l4] 27) := ⟨_, rfl⟩
  have HN : Hid (B < M0 ∧ M0 < X0 ∧ X0 < Y ∧ Y ≤ gt ∧ gt < G0 ∧ (∀ g, (Of4 (.slice (some ⟨g1, 0, none⟩) l1 l1) (.slice (some ⟨g2, 0, none⟩) l2 l2) (.slice (some ⟨g3, 0, none⟩) l3 l3) (.slice (some ⟨g4, 0, none⟩) l4 l4)) g → M0 < g ∧ g < X0) ∧ (∀ g, Kx.bl g → X0 < g ∧ g < Y) ∧ (∀ g, (Of4 (.slice (some ⟨h1, 0, none⟩) l1 l1) (.slice (some ⟨h2, 0, none⟩) l2 l2) (.slice (some ⟨h3, 0, none⟩) l3 l3) (.slice (some ⟨h4, 0, none⟩) l4 l4)) g → Y ≤ g ∧ g < gt) ∧ (∀ g, Kg.bl g → gt ≤ g ∧ g < G0) ∧ Kx.ok ∧ Kg.ok ∧ w5.heap.size = M0 ∧ W.heap.size = B + 1) := by
    have h9 := H9.out
    have h6 := H6.out
    have sz := b'.size
    have gtl : gt < w10.heap.size := lo0.2
    have gtm := lo0.1
    exact ⟨h6.2.2.2.2.2.2.1, H8.out.2.2.2.2.2.2.2.1, h9.2.2.2.2.2.2.2.2.2.1, by omega, by omega, H8.out.2.2.2.2.2.2.1, h9.2.2.2.2.2.2.2.2.1, fun g hg => by have q1 := OD0.of4 g hg; have q2 := lt0 g hg; omega, fun g hg => by have q1 := log g hg; have q2 := Fg.lt hg; omega, h9.2.2.2.2.2.2.2.1, okg, h6.2.2.2.2.2.2.2.1, H0.out.2.2⟩
  have H11 : Hid (Below W.heap.size W W11 ∧ Blk W11 B 40 #[.slice a1 l1 c1, .slice a2 l2 c2, .slice a3 l3 c3, .slice a4 l4 c4] ∧ Blk W11 M0 27 #[.slice x1 l1 e1, .slice x2 l2 e2, .slice x3 l3 e3, .slice x4 l4 e4] ∧ Below w5.heap.size w5 W11 ∧ Blk W11 X0 27 #[.slice (some ⟨g1, 0, none⟩) l1 l1, .slice (some ⟨g2, 0, none⟩) l2 l2, .slice (some ⟨g3, 0, none⟩) l3 l3, .slice (some ⟨g4, 0, none⟩) l4 l4] ∧ OwnD W11 (M0 + 1) (some ⟨g1, 0, none⟩) (some ⟨g2, 0, none⟩) (some ⟨g3, 0, none⟩) (some ⟨g4, 0, none⟩) l1 l2 l3 l4 l1 l2 l3 l4 cs is hs rs ∧ Fit W11 (.list 6 n (fun i => trs (qT (f i)))) Kx (.slice bq n dq) ∧ Blk W11 G0 27 #[.slice (some ⟨h1, 0, none⟩) l1 l1, .slice (some ⟨h2, 0, none⟩) l2 l2, .slice (some ⟨h3, 0, none⟩) l3 l3, .slice (some ⟨h4, 0, none⟩) l4 l4] ∧ OwnD W11 Y (some ⟨h1, 0, none⟩) (some ⟨h2, 0, none⟩) (some ⟨h3, 0, none⟩) (some ⟨h4, 0, none⟩) l1 l2 l3 l4 l1 l2 l3 l4 (apS is rs cs hs f n).1 is (apS is rs cs hs f n).2 rs ∧ Fit W11 (.list 6 n (fun i => trs (aT (apA is rs cs hs f i)))) Kg (.slice (some ⟨gt, 0, none⟩) n n)) := by
    have b11 : Below w10.heap.size w10 W11 := by rw [hW11]; exact bel_alloc _ _
    have h9 := H9.out
    have bx := bel_nx b' b11
    exact ⟨bel_nx h9.1 bx, h9.2.1.below bx, h9.2.2.1.below bx, bel_nx h9.2.2.2.1 bx, h9.2.2.2.2.1.below bx, h9.2.2.2.2.2.1.below bx, h9.2.2.2.2.2.2.1.below bx, by rw [hW11, hG0]; exact Blk.new _ _ _, (OD0.mono (by omega)).below b11, Fg.below b11⟩
  have HS : Hid (SlD w5 x1 x2 x3 x4 (apS is rs cs hs f n).1 is (apS is rs cs hs f n).2 rs ∧ Rd w5 0 (.list 6 n (fun i => trs (aT (apA is rs cs hs f i)))) (.slice bt n ct)) := ⟨H6.out.2.2.2.2.1, H6.out.2.2.2.2.2.1⟩
  clear b' OD0 Fg okg log lt0 lo0 H6 H8 H9 H0 y0 y1 y2 y3
  go_upto_region 12 with fail
  rw [← hW11, ← hG0]
  clear hW11 hG0
  have E0 : Hid (Below W.heap.size W W11 ∧ Blk W11 B 40 #[.slice a1 l1 c1, .slice a2 l2 c2, .slice a3 l3 c3, .slice a4 l4 c4] ∧ Blk W11 M0 27 #[.slice x1 l1 e1, .slice x2 l2 e2, .slice x3 l3 e3, .slice x4 l4 e4] ∧ Below w5.heap.size w5 W11 ∧ Blk W11 X0 27 #[.slice (some ⟨g1, 0, none⟩) l1 l1, .slice (some ⟨g2, 0, none⟩) l2 l2, .slice (some ⟨g3, 0, none⟩) l3 l3, .slice (some ⟨g4, 0, none⟩) l4 l4] ∧ Blk W11 G0 27 #[.slice (some ⟨h1, 0, none⟩) l1 l1, .slice (some ⟨h2, 0, none⟩) l2 l2, .slice (some ⟨h3, 0, none⟩) l3 l3, .slice (some ⟨h4, 0, none⟩) l4 l4]) := ⟨H11.out.1, H11.out.2.1, H11.out.2.2.1, H11.out.2.2.2.1, H11.out.2.2.2.2.1, H11.out.2.2.2.2.2.2.2.1⟩
  have X_0 : Hid (OwnD W11 (M0 + 1) (some ⟨g1, 0, none⟩) (some ⟨g2, 0, none⟩) (some ⟨g3, 0, none⟩) (some ⟨g4, 0, none⟩) l1 l2 l3 l4 l1 l2 l3 l4 cs is hs rs ∧ Fit W11 (.list 6 n (fun i => trs (qT (f i)))) Kx (.slice bq n dq)) := ⟨H11.out.2.2.2.2.2.1, H11.out.2.2.2.2.2.2.1⟩
  have G_0 : Hid (OwnD W11 Y (some ⟨h1, 0, none⟩) (some ⟨h2, 0, none⟩) (some ⟨h3, 0, none⟩) (some ⟨h4, 0, none⟩) l1 l2 l3 l4 l1 l2 l3 l4 (apS is rs cs hs f n).1 is (apS is rs cs hs f n).2 rs ∧ Fit W11 (.list 6 n (fun i => trs (aT (apA is rs cs hs f i)))) Kg (.slice (some ⟨gt, 0, none⟩) n n)) := ⟨H11.out.2.2.2.2.2.2.2.2.1, H11.out.2.2.2.2.2.2.2.2.2⟩
  clear H11
  obtain ⟨y0, y1, y2, y3⟩ := E0.out.2.2.2.2.2.four
  obtain ⟨z0, z1, z2, z3⟩ := E0.out.2.2.1.four
  go_wp2_with fail
  refine (eqDevice_true (some ⟨h1, 0, none⟩) (some ⟨h2, 0, none⟩) (some ⟨h3, 0, none⟩) (some ⟨h4, 0, none⟩) l1 l2 l3 l4 l1 l2 l3 l4 x1 x2 x3 x4 l1 l2 l3 l4 e1 e2 e3 e4 (apS is rs cs hs f n).1 is (apS is rs cs hs f n).2 rs _ HA.out.2.2.1 HA.out.2.2.1 G_0.out.1.sl.2 (HS.out.1.below E0.out.2.2.2.1) HA.out.2.2.2.1).mono ?_
  rintro e u1 ⟨rfl, b'⟩
  have E1 : Hid (Below W.heap.size W u1 ∧ Blk u1 B 40 #[.slice a1 l1 c1, .slice a2 l2 c2, .slice a3 l3 c3, .slice a4 l4 c4] ∧ Blk u1 M0 27 #[.slice x1 l1 e1, .slice x2 l2 e2, .slice x3 l3 e3, .slice x4 l4 e4] ∧ Below w5.heap.size w5 u1 ∧ Blk u1 X0 27 #[.slice (some ⟨g1, 0, none⟩) l1 l1, .slice (some ⟨g2, 0, none⟩) l2 l2, .slice (some ⟨g3, 0, none⟩) l3 l3, .slice (some ⟨g4, 0, none⟩) l4 l4] ∧ Blk u1 G0 27 #[.slice (some ⟨h1, 0, none⟩) l1 l1, .slice (some ⟨h2, 0, none⟩) l2 l2, .slice (some ⟨h3, 0, none⟩) l3 l3, .slice (some ⟨h4, 0, none⟩) l4 l4]) := ⟨bel_nx E0.out.1 b', E0.out.2.1.below b', E0.out.2.2.1.below b', bel_nx E0.out.2.2.2.1 b', E0.out.2.2.2.2.1.below b', E0.out.2.2.2.2.2.below b'⟩
  have X_1 : Hid (OwnD u1 (M0 + 1) (some ⟨g1, 0, none⟩) (some ⟨g2, 0, none⟩) (some ⟨g3, 0, none⟩) (some ⟨g4, 0, none⟩) l1 l2 l3 l4 l1 l2 l3 l4 cs is hs rs ∧ Fit u1 (.list 6 n (fun i => trs (qT (f i)))) Kx (.slice bq n dq)) := ⟨X_0.out.1.below b', X_0.out.2.below b'⟩
  have G_1 : Hid (OwnD u1 Y (some ⟨h1, 0, none⟩) (some ⟨h2, 0, none⟩) (some ⟨h3, 0, none⟩) (some ⟨h4, 0, none⟩) l1 l2 l3 l4 l1 l2 l3 l4 (apS is rs cs hs f n).1 is (apS is rs cs hs f n).2 rs ∧ Fit u1 (.list 6 n (fun i => trs (aT (apA is rs cs hs f i)))) Kg (.slice (some ⟨gt, 0, none⟩) n n)) := ⟨G_0.out.1.below b', G_0.out.2.below b'⟩
  clear b' y0 y1 y2 y3 z0 z1 z2 z3 E0 X_0 G_0
  go_wp2_with fail
  refine (eqRespS_u n (apA is rs cs hs f) _ _ _ bt ct _ (G_1.out.2.rd (fun _ _ => Nat.zero_le _)) (HS.out.2.below E1.out.2.2.2.1) HA.out.1 HA.out.2.1).mono ?_
  rintro e u2 ⟨rfl, b'⟩
  have E2 : Hid (Below W.heap.size W u2 ∧ Blk u2 B 40 #[.slice a1 l1 c1, .slice a2 l2 c2, .slice a3 l3 c3, .slice a4 l4 c4] ∧ Blk u2 M0 27 #[.slice x1 l1 e1, .slice x2 l2 e2, .slice x3 l3 e3, .slice x4 l4 e4] ∧ Below w5.heap.size w5 u2 ∧ Blk u2 X0 27 #[.slice (some ⟨g1, 0, none⟩) l1 l1, .slice (some ⟨g2, 0, none⟩) l2 l2, .slice (some ⟨g3, 0, none⟩) l3 l3, .slice (some ⟨g4, 0, none⟩) l4 l4] ∧ Blk u2 G0 27 #[.slice (some ⟨h1, 0, none⟩) l1 l1, .slice (some ⟨h2, 0, none⟩) l2 l2, .slice (some ⟨h3, 0, none⟩) l3 l3, .slice (some ⟨h4, 0, none⟩) l4 l4]) := ⟨bel_nx E1.out.1 b', E1.out.2.1.below b', E1.out.2.2.1.below b', bel_nx E1.out.2.2.2.1 b', E1.out.2.2.2.2.1.below b', E1.out.2.2.2.2.2.below b'⟩
  have X_2 : Hid (OwnD u2 (M0 + 1) (some ⟨g1, 0, none⟩) (some ⟨g2, 0, none⟩) (some ⟨g3, 0, none⟩) (some ⟨g4, 0, none⟩) l1 l2 l3 l4 l1 l2 l3 l4 cs is hs rs ∧ Fit u2 (.list 6 n (fun i => trs (qT (f i)))) Kx (.slice bq n dq)) := ⟨X_1.out.1.below b', X_1.out.2.below b'⟩
  have G_2 : Hid (OwnD u2 Y (some ⟨h1, 0, none⟩) (some ⟨h2, 0, none⟩) (some ⟨h3, 0, none⟩) (some ⟨h4, 0, none⟩) l1 l2 l3 l4 l1 l2 l3 l4 (apS is rs cs hs f n).1 is (apS is rs cs hs f n).2 rs ∧ Fit u2 (.list 6 n (fun i => trs (aT (apA is rs cs hs f i)))) Kg (.slice (some ⟨gt, 0, none⟩) n n)) := ⟨G_1.out.1.below b', G_1.out.2.below b'⟩
  clear b'  E1 X_1 G_1
  go_upto_region 14 with fail
  refine wp_region_any (by kernel_rfl) ?_
  refine wpAny_vals (fun u => Below u2.heap.size u2 u) (fun i v u => match i with
    | 0 => v = .agg #[.slice (some ⟨g1, 0, none⟩) l1 l1, .slice (some ⟨g2, 0, none⟩) l2 l2, .slice (some ⟨g3, 0, none⟩) l3 l3, .slice (some ⟨g4, 0, none⟩) l4 l4]
    | 1 => v = .agg #[.slice a1 l1 c1, .slice a2 l2 c2, .slice a3 l3 c3, .slice a4 l4 c4]
    | 2 => ∃ p1 p2 p3 p4, v = .agg #[.slice (some ⟨p1, 0, none⟩) l1 l1, .slice (some ⟨p2, 0, none⟩) l2 l2, .slice (some ⟨p3, 0, none⟩) l3 l3, .slice (some ⟨p4, 0, none⟩) l4 l4] ∧ SlD u (some ⟨p1, 0, none⟩) (some ⟨p2, 0, none⟩) (some ⟨p3, 0, none⟩) (some ⟨p4, 0, none⟩) cs is hs rs
    | 3 => v = .bool true
    | 4 => v = .bool false
    | _ => True) (by kernel_rfl) (by kernel_rfl) ?_ (by first | exact Below.refl _ _ | exact (Below.refl _ _).drew) ?_ ?_ _ _ rfl (by decide) (fun i => by simp [Array.getD]; try (split <;> rfl))
  · intro i v u u' h hb
    match i with
    | 0 => exact h
    | 1 => exact h
    | 2 =>
      obtain ⟨p1, p2, p3, p4, e, hl⟩ := h
      exact ⟨p1, p2, p3, p4, e, hl.below hb⟩
    | 3 => exact h
    | 4 => exact h
    | _ + 5 => trivial
  rotate_left
  · intro u i o ρ hR ho hρ hc hf hd
    have hi : i < 5 := by
      have := (Array.getElem?_eq_some_iff.1 ho).1
      simpa using this
    obtain rfl | rfl | rfl | rfl | rfl : i = 0 ∨ i = 1 ∨ i = 2 ∨ i = 3 ∨ i = 4 := by omega
    all_goals (simp only [List.getElem?_toArray, List.getElem?_cons_zero, List.getElem?_cons_succ, Option.some.injEq] at ho; subst ho)
    · have s8 : ρ (.tmp 8) = .pointer (some ⟨X0, 0, none⟩) := (hρ 8 (by kernel_rfl)).trans rfl
      exact .inl ⟨rfl, .inl ⟨_, u, run_load_op rfl s8 (run_loadAt_mid u X0 0 27 [.slice (some ⟨g1, 0, none⟩) l1 l1, .slice (some ⟨g2, 0, none⟩) l2 l2, .slice (some ⟨g3, 0, none⟩) l3 l3, .slice (some ⟨g4, 0, none⟩) l4 l4] _ (Blk.rng (l := [.slice (some ⟨g1, 0, none⟩) l1 l1, .slice (some ⟨g2, 0, none⟩) l2 l2, .slice (some ⟨g3, 0, none⟩) l3 l3, .slice (some ⟨g4, 0, none⟩) l4 l4]) (E2.out.2.2.2.2.1.below hR)) Try.underlying27 rfl (by kernel_rfl)), rfl, hR, Below.refl _ _⟩⟩
    · have s2 : ρ (.tmp 2) = .pointer (some ⟨B, 0, none⟩) := (hρ 2 (by kernel_rfl)).trans rfl
      exact .inl ⟨rfl, .inl ⟨_, u, run_load_op rfl s2 (run_loadAt_mid u B 0 40 [.slice a1 l1 c1, .slice a2 l2 c2, .slice a3 l3 c3, .slice a4 l4 c4] _ (Blk.rng (l := [.slice a1 l1 c1, .slice a2 l2 c2, .slice a3 l3 c3, .slice a4 l4 c4]) (E2.out.2.1.below hR)) Try.underlying40 rfl (by kernel_rfl)), rfl, hR, Below.refl _ _⟩⟩
    · have h1 : ρ (.tmp 56) = .agg #[.slice a1 l1 c1, .slice a2 l2 c2, .slice a3 l3 c3, .slice a4 l4 c4] := hd ⟨1, .data⟩ (by simp) rfl 56 rfl
      refine .inl ⟨rfl, .inr ⟨_, _, run_call_op rfl (hf _) (args := #[.agg #[.slice a1 l1 c1, .slice a2 l2 c2, .slice a3 l3 c3, .slice a4 l4 c4]]) (by simp [h1]) (by kernel_rfl), ?_⟩⟩
      refine (toDevice_any a1 a2 a3 a4 l1 l2 l3 l4 c1 c2 c3 c4 cs is hs rs _ HH.out.1 (HH.out.2.1.below (bel_nx E2.out.1 hR)) HH.out.2.2.1).mono ?_
      rintro e u' ⟨p1, p2, p3, p4, he, P7, b'⟩
      exact ⟨_, he, ⟨p1, p2, p3, p4, rfl, P7.sl.2⟩, bel_nx hR b', b'⟩
    · have h0 : ρ (.tmp 55) = .agg #[.slice (some ⟨g1, 0, none⟩) l1 l1, .slice (some ⟨g2, 0, none⟩) l2 l2, .slice (some ⟨g3, 0, none⟩) l3 l3, .slice (some ⟨g4, 0, none⟩) l4 l4] := hd ⟨0, .data⟩ (by simp) rfl 55 rfl
      obtain ⟨p1, p2, p3, p4, hv, hl⟩ : ∃ p1 p2 p3 p4, ρ (.tmp 57) = .agg #[.slice (some ⟨p1, 0, none⟩) l1 l1, .slice (some ⟨p2, 0, none⟩) l2 l2, .slice (some ⟨p3, 0, none⟩) l3 l3, .slice (some ⟨p4, 0, none⟩) l4 l4] ∧ SlD u (some ⟨p1, 0, none⟩) (some ⟨p2, 0, none⟩) (some ⟨p3, 0, none⟩) (some ⟨p4, 0, none⟩) cs is hs rs := hd ⟨2, .data⟩ (by simp) rfl 57 rfl
      refine .inl ⟨rfl, .inr ⟨_, _, run_call_op rfl (hf _) (args := #[.agg #[.slice (some ⟨g1, 0, none⟩) l1 l1, .slice (some ⟨g2, 0, none⟩) l2 l2, .slice (some ⟨g3, 0, none⟩) l3 l3, .slice (some ⟨g4, 0, none⟩) l4 l4], .agg #[.slice (some ⟨p1, 0, none⟩) l1 l1, .slice (some ⟨p2, 0, none⟩) l2 l2, .slice (some ⟨p3, 0, none⟩) l3 l3, .slice (some ⟨p4, 0, none⟩) l4 l4]]) (by simp [h0, hv]) (by kernel_rfl), ?_⟩⟩
      refine (eqDevice_true (some ⟨g1, 0, none⟩) (some ⟨g2, 0, none⟩) (some ⟨g3, 0, none⟩) (some ⟨g4, 0, none⟩) l1 l2 l3 l4 l1 l2 l3 l4 _ _ _ _ l1 l2 l3 l4 l1 l2 l3 l4 cs is hs rs _ HH.out.1 HH.out.1 (X_2.out.1.sl.2.below hR) hl HH.out.2.2.1).mono ?_
      rintro e u' ⟨he, b'⟩
      exact ⟨_, he, rfl, bel_nx hR b', b'⟩
    · have h3 : ρ (.tmp 58) = .bool true := hd ⟨3, .data⟩ (by simp) rfl 58 rfl
      exact .inl ⟨rfl, .inl ⟨.bool false, u, run_un_op rfl h3 (by go_simp), rfl, hR, Below.refl _ _⟩⟩
  intro vs u3 b' hall
  have e4 : vs 4 = .bool false := hall 4 (by simp)
  simp only [putsL]
  rw [e4]
  clear hall e4
  have E3 : Hid (Below W.heap.size W u3 ∧ Blk u3 B 40 #[.slice a1 l1 c1, .slice a2 l2 c2, .slice a3 l3 c3, .slice a4 l4 c4] ∧ Blk u3 M0 27 #[.slice x1 l1 e1, .slice x2 l2 e2, .slice x3 l3 e3, .slice x4 l4 e4] ∧ Below w5.heap.size w5 u3 ∧ Blk u3 X0 27 #[.slice (some ⟨g1, 0, none⟩) l1 l1, .slice (some ⟨g2, 0, none⟩) l2 l2, .slice (some ⟨g3, 0, none⟩) l3 l3, .slice (some ⟨g4, 0, none⟩) l4 l4] ∧ Blk u3 G0 27 #[.slice (some ⟨h1, 0, none⟩) l1 l1, .slice (some ⟨h2, 0, none⟩) l2 l2, .slice (some ⟨h3, 0, none⟩) l3 l3, .slice (some ⟨h4, 0, none⟩) l4 l4]) := ⟨bel_nx E2.out.1 b', E2.out.2.1.below b', E2.out.2.2.1.below b', bel_nx E2.out.2.2.2.1 b', E2.out.2.2.2.2.1.below b', E2.out.2.2.2.2.2.below b'⟩
  have X_3 : Hid (OwnD u3 (M0 + 1) (some ⟨g1, 0, none⟩) (some ⟨g2, 0, none⟩) (some ⟨g3, 0, none⟩) (some ⟨g4, 0, none⟩) l1 l2 l3 l4 l1 l2 l3 l4 cs is hs rs ∧ Fit u3 (.list 6 n (fun i => trs (qT (f i)))) Kx (.slice bq n dq)) := ⟨X_2.out.1.below b', X_2.out.2.below b'⟩
  have G_3 : Hid (OwnD u3 Y (some ⟨h1, 0, none⟩) (some ⟨h2, 0, none⟩) (some ⟨h3, 0, none⟩) (some ⟨h4, 0, none⟩) l1 l2 l3 l4 l1 l2 l3 l4 (apS is rs cs hs f n).1 is (apS is rs cs hs f n).2 rs ∧ Fit u3 (.list 6 n (fun i => trs (aT (apA is rs cs hs f i)))) Kg (.slice (some ⟨gt, 0, none⟩) n n)) := ⟨G_2.out.1.below b', G_2.out.2.below b'⟩
  clear b' E2 X_2 G_2
  go_upto_region 16 with fail
  try go_simp
  go_wp2_with fail
  refine (toReqS_m n f b _ c _ (HH.out.2.2.2.1.below E3.out.1) HH.out.2.2.2.2.1).mono ?_
  rintro e u4 ⟨bz, dz, rfl, OZ, b'⟩
  have E4 : Hid (Below W.heap.size W u4 ∧ Blk u4 B 40 #[.slice a1 l1 c1, .slice a2 l2 c2, .slice a3 l3 c3, .slice a4 l4 c4] ∧ Blk u4 M0 27 #[.slice x1 l1 e1, .slice x2 l2 e2, .slice x3 l3 e3, .slice x4 l4 e4] ∧ Below w5.heap.size w5 u4 ∧ Blk u4 X0 27 #[.slice (some ⟨g1, 0, none⟩) l1 l1, .slice (some ⟨g2, 0, none⟩) l2 l2, .slice (some ⟨g3, 0, none⟩) l3 l3, .slice (some ⟨g4, 0, none⟩) l4 l4] ∧ Blk u4 G0 27 #[.slice (some ⟨h1, 0, none⟩) l1 l1, .slice (some ⟨h2, 0, none⟩) l2 l2, .slice (some ⟨h3, 0, none⟩) l3 l3, .slice (some ⟨h4, 0, none⟩) l4 l4]) := ⟨bel_nx E3.out.1 b', E3.out.2.1.below b', E3.out.2.2.1.below b', bel_nx E3.out.2.2.2.1 b', E3.out.2.2.2.2.1.below b', E3.out.2.2.2.2.2.below b'⟩
  have X_4 : Hid (OwnD u4 (M0 + 1) (some ⟨g1, 0, none⟩) (some ⟨g2, 0, none⟩) (some ⟨g3, 0, none⟩) (some ⟨g4, 0, none⟩) l1 l2 l3 l4 l1 l2 l3 l4 cs is hs rs ∧ Fit u4 (.list 6 n (fun i => trs (qT (f i)))) Kx (.slice bq n dq)) := ⟨X_3.out.1.below b', X_3.out.2.below b'⟩
  have G_4 : Hid (OwnD u4 Y (some ⟨h1, 0, none⟩) (some ⟨h2, 0, none⟩) (some ⟨h3, 0, none⟩) (some ⟨h4, 0, none⟩) l1 l2 l3 l4 l1 l2 l3 l4 (apS is rs cs hs f n).1 is (apS is rs cs hs f n).2 rs ∧ Fit u4 (.list 6 n (fun i => trs (aT (apA is rs cs hs f i)))) Kg (.slice (some ⟨gt, 0, none⟩) n n)) := ⟨G_3.out.1.below b', G_3.out.2.below b'⟩
  have HZ : Hid (Rd u4 0 (.list 6 n (fun i => trs (qT (f i)))) (.slice bz n dz)) := OZ.rd.mono (Nat.zero_le _)
  clear OZ
  clear b'  E3 X_3 G_3
  go_wp2_with fail
  refine (eqReqS_t n f bq _ dq bz dz _ (X_4.out.2.rd (fun _ _ => Nat.zero_le _)) HZ.out HH.out.2.2.2.2.1).mono ?_
  rintro e u5 ⟨rfl, b'⟩
  have E5 : Hid (Below W.heap.size W u5 ∧ Blk u5 B 40 #[.slice a1 l1 c1, .slice a2 l2 c2, .slice a3 l3 c3, .slice a4 l4 c4] ∧ Blk u5 M0 27 #[.slice x1 l1 e1, .slice x2 l2 e2, .slice x3 l3 e3, .slice x4 l4 e4] ∧ Below w5.heap.size w5 u5 ∧ Blk u5 X0 27 #[.slice (some ⟨g1, 0, none⟩) l1 l1, .slice (some ⟨g2, 0, none⟩) l2 l2, .slice (some ⟨g3, 0, none⟩) l3 l3, .slice (some ⟨g4, 0, none⟩) l4 l4] ∧ Blk u5 G0 27 #[.slice (some ⟨h1, 0, none⟩) l1 l1, .slice (some ⟨h2, 0, none⟩) l2 l2, .slice (some ⟨h3, 0, none⟩) l3 l3, .slice (some ⟨h4, 0, none⟩) l4 l4]) := ⟨bel_nx E4.out.1 b', E4.out.2.1.below b', E4.out.2.2.1.below b', bel_nx E4.out.2.2.2.1 b', E4.out.2.2.2.2.1.below b', E4.out.2.2.2.2.2.below b'⟩
  have X_5 : Hid (OwnD u5 (M0 + 1) (some ⟨g1, 0, none⟩) (some ⟨g2, 0, none⟩) (some ⟨g3, 0, none⟩) (some ⟨g4, 0, none⟩) l1 l2 l3 l4 l1 l2 l3 l4 cs is hs rs ∧ Fit u5 (.list 6 n (fun i => trs (qT (f i)))) Kx (.slice bq n dq)) := ⟨X_4.out.1.below b', X_4.out.2.below b'⟩
  have G_5 : Hid (OwnD u5 Y (some ⟨h1, 0, none⟩) (some ⟨h2, 0, none⟩) (some ⟨h3, 0, none⟩) (some ⟨h4, 0, none⟩) l1 l2 l3 l4 l1 l2 l3 l4 (apS is rs cs hs f n).1 is (apS is rs cs hs f n).2 rs ∧ Fit u5 (.list 6 n (fun i => trs (aT (apA is rs cs hs f i)))) Kg (.slice (some ⟨gt, 0, none⟩) n n)) := ⟨G_4.out.1.below b', G_4.out.2.below b'⟩
  clear HZ
  clear b'  E4 X_4 G_4
  obtain ⟨y0, y1, y2, y3⟩ := E5.out.2.2.2.2.1.four
  go_wp2_with fail
  refine (markDevice_s (some ⟨g1, 0, none⟩) (some ⟨g2, 0, none⟩) (some ⟨g3, 0, none⟩) (some ⟨g4, 0, none⟩) l1 l2 l3 l4 l1 l2 l3 l4 1 (M0 + 1) cs is hs rs _ _ rfl X_5.out.1.1 X_5.out.1.2.1 X_5.out.1.2.2.1 X_5.out.1.2.2.2.1 X_5.out.1.2.2.2.2.1 X_5.out.1.2.2.2.2.2 HM.out.1 HM.out.2.1 HM.out.2.2.1 HM.out.2.2.2 (by decide)).mono ?_
  rintro e u6 ⟨rfl, -, ch⟩
  obtain ⟨kq, hkq⟩ : ∃ kq : Nat, kq = 1 + l1 + l2 + l3 + l4 := ⟨_, rfl⟩
  have HKQ : Hid (kq = 1 + l1 + l2 + l3 + l4) := hkq
  have E6 : Hid (Below W.heap.size W u6 ∧ Blk u6 B 40 #[.slice a1 l1 c1, .slice a2 l2 c2, .slice a3 l3 c3, .slice a4 l4 c4] ∧ Blk u6 M0 27 #[.slice x1 l1 e1, .slice x2 l2 e2, .slice x3 l3 e3, .slice x4 l4 e4] ∧ Below w5.heap.size w5 u6 ∧ Blk u6 X0 27 #[.slice (some ⟨g1, 0, none⟩) l1 l1, .slice (some ⟨g2, 0, none⟩) l2 l2, .slice (some ⟨g3, 0, none⟩) l3 l3, .slice (some ⟨g4, 0, none⟩) l4 l4] ∧ Blk u6 G0 27 #[.slice (some ⟨h1, 0, none⟩) l1 l1, .slice (some ⟨h2, 0, none⟩) l2 l2, .slice (some ⟨h3, 0, none⟩) l3 l3, .slice (some ⟨h4, 0, none⟩) l4 l4]) := by
    have cg := Cg.ofChg ch
    have HNN : ∀ g, ((Of4 (.slice (some ⟨g1, 0, none⟩) l1 l1) (.slice (some ⟨g2, 0, none⟩) l2 l2) (.slice (some ⟨g3, 0, none⟩) l3 l3) (.slice (some ⟨g4, 0, none⟩) l4 l4)) g) → M0 < g ∧ g < X0 := HN.out.2.2.2.2.2.1
    exact ⟨cg.below E5.out.1 (fun g q => by have := HNN g q; have := HN.out; omega) E5.out.1.size, E5.out.2.1.chg ch (fun q => by have := HNN _ q; have := HN.out; omega), E5.out.2.2.1.chg ch (fun q => by have := HNN _ q; have := HN.out; omega), cg.below E5.out.2.2.2.1 (fun g q => by have := HNN g q; have := HN.out; omega) E5.out.2.2.2.1.size, E5.out.2.2.2.2.1.chg ch (fun q => by have := HNN _ q; have := HN.out; omega), E5.out.2.2.2.2.2.chg ch (fun q => by have := HNN _ q; have := HN.out; omega)⟩
  have XF : Hid (Fit u6 (.list 6 n (fun i => trs (qT (f i)))) Kx (.slice bq n dq)) := X_5.out.2.cg (Cg.ofChg ch) (fun b hb hq => by have q1 := HN.out.2.2.2.2.2.1 b hq; have q2 := HN.out.2.2.2.2.2.2.1 b hb; omega)
  have G_6 : Hid (OwnD u6 Y (some ⟨h1, 0, none⟩) (some ⟨h2, 0, none⟩) (some ⟨h3, 0, none⟩) (some ⟨h4, 0, none⟩) l1 l2 l3 l4 l1 l2 l3 l4 (apS is rs cs hs f n).1 is (apS is rs cs hs f n).2 rs ∧ Fit u6 (.list 6 n (fun i => trs (aT (apA is rs cs hs f i)))) Kg (.slice (some ⟨gt, 0, none⟩) n n)) := ⟨G_5.out.1.chg ch (fun g hg hq => by have q1 := HN.out.2.2.2.2.2.1 g hq; have q2 := HN.out.2.2.2.2.2.2.2.1 g hg; have := HN.out; omega), G_5.out.2.cg (Cg.ofChg ch) (fun b hb hq => by have q1 := HN.out.2.2.2.2.2.1 b hq; have q2 := HN.out.2.2.2.2.2.2.2.2.1 b hb; have := HN.out; omega)⟩
  clear ch hkq E5 X_5 G_5 y0 y1 y2 y3
  go_wp2_with fail
  refine (markReqS_f n f bq _ dq kq _ Kx _ (by have := HKQ.out; omega) XF.out HN.out.2.2.2.2.2.2.2.2.2.1 (by have := HKQ.out; have := HA.out.2.2.2.2.1; have := HM.out; omega)).mono ?_
  rintro e u7 ⟨rfl, -, cg⟩
  obtain ⟨kz, hkz⟩ : ∃ kz : Nat, kz = kq + sumN n (fun i => ctVQ (f i)) := ⟨_, rfl⟩
  rw [← hkz]
  have hkn : ¬ ((kz : Int) < 0) := by omega
  have E7 : Hid (Below W.heap.size W u7 ∧ Blk u7 B 40 #[.slice a1 l1 c1, .slice a2 l2 c2, .slice a3 l3 c3, .slice a4 l4 c4] ∧ Blk u7 M0 27 #[.slice x1 l1 e1, .slice x2 l2 e2, .slice x3 l3 e3, .slice x4 l4 e4] ∧ Below w5.heap.size w5 u7 ∧ Blk u7 X0 27 #[.slice (some ⟨g1, 0, none⟩) l1 l1, .slice (some ⟨g2, 0, none⟩) l2 l2, .slice (some ⟨g3, 0, none⟩) l3 l3, .slice (some ⟨g4, 0, none⟩) l4 l4] ∧ Blk u7 G0 27 #[.slice (some ⟨h1, 0, none⟩) l1 l1, .slice (some ⟨h2, 0, none⟩) l2 l2, .slice (some ⟨h3, 0, none⟩) l3 l3, .slice (some ⟨h4, 0, none⟩) l4 l4]) := by
    have ch : Chg _ _ _ := ⟨cg.os, cg.tape, cg.output, cg.size, cg.block⟩
    have HNN : ∀ g, Kx.bl g → X0 < g ∧ g < Y := HN.out.2.2.2.2.2.2.1
    exact ⟨cg.below E6.out.1 (fun g q => by have := HNN g q; have := HN.out; omega) E6.out.1.size, E6.out.2.1.chg ch (fun q => by have := HNN _ q; have := HN.out; omega), E6.out.2.2.1.chg ch (fun q => by have := HNN _ q; have := HN.out; omega), cg.below E6.out.2.2.2.1 (fun g q => by have := HNN g q; have := HN.out; omega) E6.out.2.2.2.1.size, E6.out.2.2.2.2.1.chg ch (fun q => by have := HNN _ q; have := HN.out; omega), E6.out.2.2.2.2.2.chg ch (fun q => by have := HNN _ q; have := HN.out; omega)⟩
  have G_7 : Hid (OwnD u7 Y (some ⟨h1, 0, none⟩) (some ⟨h2, 0, none⟩) (some ⟨h3, 0, none⟩) (some ⟨h4, 0, none⟩) l1 l2 l3 l4 l1 l2 l3 l4 (apS is rs cs hs f n).1 is (apS is rs cs hs f n).2 rs ∧ Fit u7 (.list 6 n (fun i => trs (aT (apA is rs cs hs f i)))) Kg (.slice (some ⟨gt, 0, none⟩) n n)) := ⟨G_6.out.1.chg ⟨cg.os, cg.tape, cg.output, cg.size, cg.block⟩ (fun g hg hq => by have q1 := HN.out.2.2.2.2.2.2.1 g hq; have q2 := HN.out.2.2.2.2.2.2.2.1 g hg; have := HN.out; omega), G_6.out.2.cg cg (fun b hb hq => by have q1 := HN.out.2.2.2.2.2.2.1 b hq; have q2 := HN.out.2.2.2.2.2.2.2.2.1 b hb; have := HN.out; omega)⟩
  clear cg hkz E6 XF G_6
  obtain ⟨y0, y1, y2, y3⟩ := E7.out.2.2.2.2.2.four
  obtain ⟨z0, z1, z2, z3⟩ := E7.out.2.2.1.four
  go_wp2_with fail
  refine (eqDevice_true (some ⟨h1, 0, none⟩) (some ⟨h2, 0, none⟩) (some ⟨h3, 0, none⟩) (some ⟨h4, 0, none⟩) l1 l2 l3 l4 l1 l2 l3 l4 x1 x2 x3 x4 l1 l2 l3 l4 e1 e2 e3 e4 (apS is rs cs hs f n).1 is (apS is rs cs hs f n).2 rs _ HA.out.2.2.1 HA.out.2.2.1 G_7.out.1.sl.2 (HS.out.1.below E7.out.2.2.2.1) HA.out.2.2.2.1).mono ?_
  rintro e u8 ⟨rfl, b'⟩
  have E8 : Hid (Below W.heap.size W u8 ∧ Blk u8 B 40 #[.slice a1 l1 c1, .slice a2 l2 c2, .slice a3 l3 c3, .slice a4 l4 c4] ∧ Blk u8 M0 27 #[.slice x1 l1 e1, .slice x2 l2 e2, .slice x3 l3 e3, .slice x4 l4 e4] ∧ Below w5.heap.size w5 u8 ∧ Blk u8 X0 27 #[.slice (some ⟨g1, 0, none⟩) l1 l1, .slice (some ⟨g2, 0, none⟩) l2 l2, .slice (some ⟨g3, 0, none⟩) l3 l3, .slice (some ⟨g4, 0, none⟩) l4 l4] ∧ Blk u8 G0 27 #[.slice (some ⟨h1, 0, none⟩) l1 l1, .slice (some ⟨h2, 0, none⟩) l2 l2, .slice (some ⟨h3, 0, none⟩) l3 l3, .slice (some ⟨h4, 0, none⟩) l4 l4]) := ⟨bel_nx E7.out.1 b', E7.out.2.1.below b', E7.out.2.2.1.below b', bel_nx E7.out.2.2.2.1 b', E7.out.2.2.2.2.1.below b', E7.out.2.2.2.2.2.below b'⟩
  have G_8 : Hid (OwnD u8 Y (some ⟨h1, 0, none⟩) (some ⟨h2, 0, none⟩) (some ⟨h3, 0, none⟩) (some ⟨h4, 0, none⟩) l1 l2 l3 l4 l1 l2 l3 l4 (apS is rs cs hs f n).1 is (apS is rs cs hs f n).2 rs ∧ Fit u8 (.list 6 n (fun i => trs (aT (apA is rs cs hs f i)))) Kg (.slice (some ⟨gt, 0, none⟩) n n)) := ⟨G_7.out.1.below b', G_7.out.2.below b'⟩
  clear b' y0 y1 y2 y3 z0 z1 z2 z3 E7  G_7
  go_wp2_with fail
  refine (eqRespS_u n (apA is rs cs hs f) _ _ _ bt ct _ (G_8.out.2.rd (fun _ _ => Nat.zero_le _)) (HS.out.2.below E8.out.2.2.2.1) HA.out.1 HA.out.2.1).mono ?_
  rintro e u9 ⟨rfl, b'⟩
  have E9 : Hid (Below W.heap.size W u9 ∧ Blk u9 B 40 #[.slice a1 l1 c1, .slice a2 l2 c2, .slice a3 l3 c3, .slice a4 l4 c4] ∧ Blk u9 M0 27 #[.slice x1 l1 e1, .slice x2 l2 e2, .slice x3 l3 e3, .slice x4 l4 e4] ∧ Below w5.heap.size w5 u9 ∧ Blk u9 X0 27 #[.slice (some ⟨g1, 0, none⟩) l1 l1, .slice (some ⟨g2, 0, none⟩) l2 l2, .slice (some ⟨g3, 0, none⟩) l3 l3, .slice (some ⟨g4, 0, none⟩) l4 l4] ∧ Blk u9 G0 27 #[.slice (some ⟨h1, 0, none⟩) l1 l1, .slice (some ⟨h2, 0, none⟩) l2 l2, .slice (some ⟨h3, 0, none⟩) l3 l3, .slice (some ⟨h4, 0, none⟩) l4 l4]) := ⟨bel_nx E8.out.1 b', E8.out.2.1.below b', E8.out.2.2.1.below b', bel_nx E8.out.2.2.2.1 b', E8.out.2.2.2.2.1.below b', E8.out.2.2.2.2.2.below b'⟩
  have G_9 : Hid (OwnD u9 Y (some ⟨h1, 0, none⟩) (some ⟨h2, 0, none⟩) (some ⟨h3, 0, none⟩) (some ⟨h4, 0, none⟩) l1 l2 l3 l4 l1 l2 l3 l4 (apS is rs cs hs f n).1 is (apS is rs cs hs f n).2 rs ∧ Fit u9 (.list 6 n (fun i => trs (aT (apA is rs cs hs f i)))) Kg (.slice (some ⟨gt, 0, none⟩) n n)) := ⟨G_8.out.1.below b', G_8.out.2.below b'⟩
  clear b'  E8  G_8
  obtain ⟨y0, y1, y2, y3⟩ := E9.out.2.2.2.2.2.four
  go_wp2_with fail
  refine (markDevice_s (some ⟨h1, 0, none⟩) (some ⟨h2, 0, none⟩) (some ⟨h3, 0, none⟩) (some ⟨h4, 0, none⟩) l1 l2 l3 l4 l1 l2 l3 l4 1 Y (apS is rs cs hs f n).1 is (apS is rs cs hs f n).2 rs _ _ rfl G_9.out.1.1 G_9.out.1.2.1 G_9.out.1.2.2.1 G_9.out.1.2.2.2.1 G_9.out.1.2.2.2.2.1 G_9.out.1.2.2.2.2.2 HM.out.1 HM.out.2.1 HM.out.2.2.1 HM.out.2.2.2 (by decide)).mono ?_
  rintro e u10 ⟨rfl, mo, ch⟩
  obtain ⟨ka, hka⟩ : ∃ ka : Nat, ka = 1 + l1 + l2 + l3 + l4 := ⟨_, rfl⟩
  have HKA : Hid (ka = 1 + l1 + l2 + l3 + l4) := hka
  have E10 : Hid (Below W.heap.size W u10 ∧ Blk u10 B 40 #[.slice a1 l1 c1, .slice a2 l2 c2, .slice a3 l3 c3, .slice a4 l4 c4] ∧ Blk u10 M0 27 #[.slice x1 l1 e1, .slice x2 l2 e2, .slice x3 l3 e3, .slice x4 l4 e4] ∧ Below w5.heap.size w5 u10 ∧ Blk u10 X0 27 #[.slice (some ⟨g1, 0, none⟩) l1 l1, .slice (some ⟨g2, 0, none⟩) l2 l2, .slice (some ⟨g3, 0, none⟩) l3 l3, .slice (some ⟨g4, 0, none⟩) l4 l4] ∧ Blk u10 G0 27 #[.slice (some ⟨h1, 0, none⟩) l1 l1, .slice (some ⟨h2, 0, none⟩) l2 l2, .slice (some ⟨h3, 0, none⟩) l3 l3, .slice (some ⟨h4, 0, none⟩) l4 l4]) := by
    have cg := Cg.ofChg ch
    have HNN : ∀ g, ((Of4 (.slice (some ⟨h1, 0, none⟩) l1 l1) (.slice (some ⟨h2, 0, none⟩) l2 l2) (.slice (some ⟨h3, 0, none⟩) l3 l3) (.slice (some ⟨h4, 0, none⟩) l4 l4)) g) → Y ≤ g ∧ g < gt := HN.out.2.2.2.2.2.2.2.1
    exact ⟨cg.below E9.out.1 (fun g q => by have := HNN g q; have := HN.out; omega) E9.out.1.size, E9.out.2.1.chg ch (fun q => by have := HNN _ q; have := HN.out; omega), E9.out.2.2.1.chg ch (fun q => by have := HNN _ q; have := HN.out; omega), cg.below E9.out.2.2.2.1 (fun g q => by have := HNN g q; have := HN.out; omega) E9.out.2.2.2.1.size, E9.out.2.2.2.2.1.chg ch (fun q => by have := HNN _ q; have := HN.out; omega), E9.out.2.2.2.2.2.chg ch (fun q => by have := HNN _ q; have := HN.out; omega)⟩
  have D_10 : Hid (OwnB u10 Y (.slice (some ⟨h1, 0, none⟩) l1 l1) (marksB 1 l1) ∧ OwnB u10 Y (.slice (some ⟨h2, 0, none⟩) l2 l2) (marksB (1 + l1) l2) ∧ OwnI u10 Y (.slice (some ⟨h3, 0, none⟩) l3 l3) (marksI (1 + l1 + l2) l3) ∧ OwnI u10 Y (.slice (some ⟨h4, 0, none⟩) l4 l4) (marksI (1 + l1 + l2 + l3) l4)) := mo
  have GF : Hid (Fit u10 (.list 6 n (fun i => trs (aT (apA is rs cs hs f i)))) Kg (.slice (some ⟨gt, 0, none⟩) n n)) := G_9.out.2.cg (Cg.ofChg ch) (fun b hb hq => by have q1 := HN.out.2.2.2.2.2.2.2.1 b hq; have q2 := HN.out.2.2.2.2.2.2.2.2.1 b hb; omega)
  clear ch hka mo E9 G_9 y0 y1 y2 y3
  go_wp2_with fail
  refine (markRespS_f n (apA is rs cs hs f) _ _ _ ka _ Kg _ (by have := HKA.out; omega) GF.out HN.out.2.2.2.2.2.2.2.2.2.2.1 (by have := HKA.out; have := HA.out.2.2.2.2.2; have := HM.out; omega)).mono ?_
  rintro e u11 ⟨rfl, FA, cg⟩
  obtain ⟨kt, hkt⟩ : ∃ kt : Nat, kt = ka + sumN n (fun i => ctVA (apA is rs cs hs f i)) := ⟨_, rfl⟩
  rw [← hkt]
  have HKT : Hid (kt = ka + sumN n (fun i => ctVA (apA is rs cs hs f i))) := hkt
  have hktn : ¬ ((kt : Int) < 0) := by omega
  have hkan : ¬ ((ka : Int) < 0) := by omega
  have E11 : Hid (Below W.heap.size W u11 ∧ Blk u11 B 40 #[.slice a1 l1 c1, .slice a2 l2 c2, .slice a3 l3 c3, .slice a4 l4 c4] ∧ Blk u11 M0 27 #[.slice x1 l1 e1, .slice x2 l2 e2, .slice x3 l3 e3, .slice x4 l4 e4] ∧ Below w5.heap.size w5 u11 ∧ Blk u11 X0 27 #[.slice (some ⟨g1, 0, none⟩) l1 l1, .slice (some ⟨g2, 0, none⟩) l2 l2, .slice (some ⟨g3, 0, none⟩) l3 l3, .slice (some ⟨g4, 0, none⟩) l4 l4] ∧ Blk u11 G0 27 #[.slice (some ⟨h1, 0, none⟩) l1 l1, .slice (some ⟨h2, 0, none⟩) l2 l2, .slice (some ⟨h3, 0, none⟩) l3 l3, .slice (some ⟨h4, 0, none⟩) l4 l4]) := by
    have ch : Chg _ _ _ := ⟨cg.os, cg.tape, cg.output, cg.size, cg.block⟩
    have HNN : ∀ g, Kg.bl g → gt ≤ g ∧ g < G0 := HN.out.2.2.2.2.2.2.2.2.1
    exact ⟨cg.below E10.out.1 (fun g q => by have := HNN g q; have := HN.out; omega) E10.out.1.size, E10.out.2.1.chg ch (fun q => by have := HNN _ q; have := HN.out; omega), E10.out.2.2.1.chg ch (fun q => by have := HNN _ q; have := HN.out; omega), cg.below E10.out.2.2.2.1 (fun g q => by have := HNN g q; have := HN.out; omega) E10.out.2.2.2.1.size, E10.out.2.2.2.2.1.chg ch (fun q => by have := HNN _ q; have := HN.out; omega), E10.out.2.2.2.2.2.chg ch (fun q => by have := HNN _ q; have := HN.out; omega)⟩
  have Q_11 : Hid ((SlB u11 (some ⟨h1, 0, none⟩) (marksB 1 l1) ∧ SlB u11 (some ⟨h2, 0, none⟩) (marksB (1 + l1) l2) ∧ SlI u11 (some ⟨h3, 0, none⟩) (marksI (1 + l1 + l2) l3) ∧ SlI u11 (some ⟨h4, 0, none⟩) (marksI (1 + l1 + l2 + l3) l4)) ∧ Rd u11 0 (.list 6 n (fun i => trs (aT (nmVA (ka + sumN i (fun i => ctVA (apA is rs cs hs f i))) (apA is rs cs hs f i))))) (.slice (some ⟨gt, 0, none⟩) n n)) := by
    have ch : Chg _ _ _ := ⟨cg.os, cg.tape, cg.output, cg.size, cg.block⟩
    have hd : ∀ {v : Value} {g : Nat}, v.ownBlock = some g → ((Of4 (.slice (some ⟨h1, 0, none⟩) l1 l1) (.slice (some ⟨h2, 0, none⟩) l2 l2) (.slice (some ⟨h3, 0, none⟩) l3 l3) (.slice (some ⟨h4, 0, none⟩) l4 l4)) g) → ¬ Kg.bl g := fun _ q hq => by have q1 := HN.out.2.2.2.2.2.2.2.1 _ q; have q2 := HN.out.2.2.2.2.2.2.2.2.1 _ hq; omega
    exact ⟨⟨(OwnB.sl (row_chg D_10.out.1 ch (fun g e q => hd e (.inl e) q))).2, (OwnB.sl (row_chg D_10.out.2.1 ch (fun g e q => hd e (.inr (.inl e)) q))).2, (OwnI.sl (row_chg D_10.out.2.2.1 ch (fun g e q => hd e (.inr (.inr (.inl e))) q))).2, (OwnI.sl (row_chg D_10.out.2.2.2 ch (fun g e q => hd e (.inr (.inr (.inr e))) q))).2⟩, FA.rd (fun _ _ => Nat.zero_le _)⟩
  clear cg hkt FA E10 D_10 GF
  obtain ⟨y0, y1, y2, y3⟩ := E11.out.2.2.2.2.2.four
  go_wp2_with fail
  refine (heldDevice_s (some ⟨h1, 0, none⟩) (some ⟨h2, 0, none⟩) (some ⟨h3, 0, none⟩) (some ⟨h4, 0, none⟩) l1 l2 l3 l4 l1 l2 l3 l4 1 _ _ rfl Q_11.out.1.1 Q_11.out.1.2.1 Q_11.out.1.2.2.1 Q_11.out.1.2.2.2 HM.out.1 HM.out.2.1 HM.out.2.2.1 HM.out.2.2.2 (by decide)).mono ?_
  rintro e u12 ⟨rfl, b'⟩
  have HV : Hid ((((1 : Nat) : Int) + (l1 : Int) + (l2 : Int) + (l3 : Int) + (l4 : Int)) = (ka : Int)) := by show _ = _; have := HKA.out; omega
  rw [HV.out]
  clear HV
  have E12 : Hid (Below W.heap.size W u12 ∧ Blk u12 B 40 #[.slice a1 l1 c1, .slice a2 l2 c2, .slice a3 l3 c3, .slice a4 l4 c4] ∧ Blk u12 M0 27 #[.slice x1 l1 e1, .slice x2 l2 e2, .slice x3 l3 e3, .slice x4 l4 e4] ∧ Below w5.heap.size w5 u12 ∧ Blk u12 X0 27 #[.slice (some ⟨g1, 0, none⟩) l1 l1, .slice (some ⟨g2, 0, none⟩) l2 l2, .slice (some ⟨g3, 0, none⟩) l3 l3, .slice (some ⟨g4, 0, none⟩) l4 l4] ∧ Blk u12 G0 27 #[.slice (some ⟨h1, 0, none⟩) l1 l1, .slice (some ⟨h2, 0, none⟩) l2 l2, .slice (some ⟨h3, 0, none⟩) l3 l3, .slice (some ⟨h4, 0, none⟩) l4 l4]) := ⟨bel_nx E11.out.1 b', E11.out.2.1.below b', E11.out.2.2.1.below b', bel_nx E11.out.2.2.2.1 b', E11.out.2.2.2.2.1.below b', E11.out.2.2.2.2.2.below b'⟩
  have Q_12 : Hid ((SlB u12 (some ⟨h1, 0, none⟩) (marksB 1 l1) ∧ SlB u12 (some ⟨h2, 0, none⟩) (marksB (1 + l1) l2) ∧ SlI u12 (some ⟨h3, 0, none⟩) (marksI (1 + l1 + l2) l3) ∧ SlI u12 (some ⟨h4, 0, none⟩) (marksI (1 + l1 + l2 + l3) l4)) ∧ Rd u12 0 (.list 6 n (fun i => trs (aT (nmVA (ka + sumN i (fun i => ctVA (apA is rs cs hs f i))) (apA is rs cs hs f i))))) (.slice (some ⟨gt, 0, none⟩) n n)) := ⟨⟨Q_11.out.1.1.below b', Q_11.out.1.2.1.below b', Q_11.out.1.2.2.1.below b', Q_11.out.1.2.2.2.below b'⟩, Q_11.out.2.below b'⟩
  clear b' E11 Q_11 y0 y1 y2 y3
  go_wp2_with fail
  refine (heldRespS_f n (apA is rs cs hs f) _ _ _ ka _ _ rfl Q_12.out.2 (by have := HKA.out; have := HA.out.2.2.2.2.2; have := HM.out; omega)).mono ?_
  rintro e u9 ⟨rfl, hw⟩
  have hw := hw.symm
  subst hw
  rw [← HKT.out]
  obtain ⟨y0, y1, y2, y3⟩ := E12.out.2.1.four
  go_wp2_with fail
  refine (toDevice_any a1 a2 a3 a4 l1 l2 l3 l4 c1 c2 c3 c4 cs is hs rs _ HH.out.1 (HH.out.2.1.below E12.out.1) HH.out.2.2.1).mono ?_
  rintro e u13 ⟨j1, j2, j3, j4, rfl, OJ, b'⟩
  have E13 : Hid (Below W.heap.size W u13 ∧ Blk u13 B 40 #[.slice a1 l1 c1, .slice a2 l2 c2, .slice a3 l3 c3, .slice a4 l4 c4] ∧ Blk u13 M0 27 #[.slice x1 l1 e1, .slice x2 l2 e2, .slice x3 l3 e3, .slice x4 l4 e4] ∧ Below w5.heap.size w5 u13 ∧ Blk u13 X0 27 #[.slice (some ⟨g1, 0, none⟩) l1 l1, .slice (some ⟨g2, 0, none⟩) l2 l2, .slice (some ⟨g3, 0, none⟩) l3 l3, .slice (some ⟨g4, 0, none⟩) l4 l4] ∧ Blk u13 G0 27 #[.slice (some ⟨h1, 0, none⟩) l1 l1, .slice (some ⟨h2, 0, none⟩) l2 l2, .slice (some ⟨h3, 0, none⟩) l3 l3, .slice (some ⟨h4, 0, none⟩) l4 l4]) := ⟨bel_nx E12.out.1 b', E12.out.2.1.below b', E12.out.2.2.1.below b', bel_nx E12.out.2.2.2.1 b', E12.out.2.2.2.2.1.below b', E12.out.2.2.2.2.2.below b'⟩
  have Q_13 : Hid ((SlB u13 (some ⟨h1, 0, none⟩) (marksB 1 l1) ∧ SlB u13 (some ⟨h2, 0, none⟩) (marksB (1 + l1) l2) ∧ SlI u13 (some ⟨h3, 0, none⟩) (marksI (1 + l1 + l2) l3) ∧ SlI u13 (some ⟨h4, 0, none⟩) (marksI (1 + l1 + l2 + l3) l4)) ∧ Rd u13 0 (.list 6 n (fun i => trs (aT (nmVA (ka + sumN i (fun i => ctVA (apA is rs cs hs f i))) (apA is rs cs hs f i))))) (.slice (some ⟨gt, 0, none⟩) n n)) := ⟨⟨Q_12.out.1.1.below b', Q_12.out.1.2.1.below b', Q_12.out.1.2.2.1.below b', Q_12.out.1.2.2.2.below b'⟩, Q_12.out.2.below b'⟩
  have J1 : Hid (SlD u13 (some ⟨j1, 0, none⟩) (some ⟨j2, 0, none⟩) (some ⟨j3, 0, none⟩) (some ⟨j4, 0, none⟩) cs is hs rs) := OJ.sl.2
  clear OJ
  clear b' y0 y1 y2 y3 E12 Q_12
  go_wp2_with fail
  refine (toReqS_m n f b _ c _ (HH.out.2.2.2.1.below E13.out.1) HH.out.2.2.2.2.1).mono ?_
  rintro e u14 ⟨bj, dj, rfl, OZ, b'⟩
  have E14 : Hid (Below W.heap.size W u14 ∧ Blk u14 B 40 #[.slice a1 l1 c1, .slice a2 l2 c2, .slice a3 l3 c3, .slice a4 l4 c4] ∧ Blk u14 M0 27 #[.slice x1 l1 e1, .slice x2 l2 e2, .slice x3 l3 e3, .slice x4 l4 e4] ∧ Below w5.heap.size w5 u14 ∧ Blk u14 X0 27 #[.slice (some ⟨g1, 0, none⟩) l1 l1, .slice (some ⟨g2, 0, none⟩) l2 l2, .slice (some ⟨g3, 0, none⟩) l3 l3, .slice (some ⟨g4, 0, none⟩) l4 l4] ∧ Blk u14 G0 27 #[.slice (some ⟨h1, 0, none⟩) l1 l1, .slice (some ⟨h2, 0, none⟩) l2 l2, .slice (some ⟨h3, 0, none⟩) l3 l3, .slice (some ⟨h4, 0, none⟩) l4 l4]) := ⟨bel_nx E13.out.1 b', E13.out.2.1.below b', E13.out.2.2.1.below b', bel_nx E13.out.2.2.2.1 b', E13.out.2.2.2.2.1.below b', E13.out.2.2.2.2.2.below b'⟩
  have Q_14 : Hid ((SlB u14 (some ⟨h1, 0, none⟩) (marksB 1 l1) ∧ SlB u14 (some ⟨h2, 0, none⟩) (marksB (1 + l1) l2) ∧ SlI u14 (some ⟨h3, 0, none⟩) (marksI (1 + l1 + l2) l3) ∧ SlI u14 (some ⟨h4, 0, none⟩) (marksI (1 + l1 + l2 + l3) l4)) ∧ Rd u14 0 (.list 6 n (fun i => trs (aT (nmVA (ka + sumN i (fun i => ctVA (apA is rs cs hs f i))) (apA is rs cs hs f i))))) (.slice (some ⟨gt, 0, none⟩) n n)) := ⟨⟨Q_13.out.1.1.below b', Q_13.out.1.2.1.below b', Q_13.out.1.2.2.1.below b', Q_13.out.1.2.2.2.below b'⟩, Q_13.out.2.below b'⟩
  have J2 : Hid (SlD u14 (some ⟨j1, 0, none⟩) (some ⟨j2, 0, none⟩) (some ⟨j3, 0, none⟩) (some ⟨j4, 0, none⟩) cs is hs rs ∧ Rd u14 0 (.list 6 n (fun i => trs (qT (f i)))) (.slice bj n dj)) := ⟨J1.out.below b', OZ.rd.mono (Nat.zero_le _)⟩
  clear OZ J1
  clear b'  E13 Q_13
  go_wp2_with fail
  refine (implApply_any (some ⟨j1, 0, none⟩) (some ⟨j2, 0, none⟩) (some ⟨j3, 0, none⟩) (some ⟨j4, 0, none⟩) l1 l2 l3 l4 l1 l2 l3 l4 cs is hs rs n f bj dj _ HH.out.1 J2.out.1 HH.out.2.2.1 J2.out.2 HA.out.1 HH.out.2.2.2.2.2).mono ?_
  rintro e u15 ⟨o1, o2, o3, o4, gr, rfl, ODr, OSr, -, -, b'⟩
  obtain ⟨H0', hH0⟩ : ∃ H0', H0' = u15.heap.size := ⟨_, rfl⟩
  obtain ⟨u16, hu16⟩ : ∃ u16, u16 = u15.alloc (.cells #[.slice (some ⟨o1, 0, none⟩) l1 l1, .slice (some ⟨o2, 0, none⟩) l2 l2, .slice (some ⟨o3, 0, none⟩) l3 l3, .slice (some ⟨o4, 0, none⟩) l4 l4] 27) := ⟨_, rfl⟩
  have bx : Below u14.heap.size u14 u16 := bel_nx b' (by rw [hu16]; exact bel_alloc _ _)
  have J3 : Hid (Blk u16 H0' 27 #[.slice (some ⟨o1, 0, none⟩) l1 l1, .slice (some ⟨o2, 0, none⟩) l2 l2, .slice (some ⟨o3, 0, none⟩) l3 l3, .slice (some ⟨o4, 0, none⟩) l4 l4] ∧ SlD u16 (some ⟨o1, 0, none⟩) (some ⟨o2, 0, none⟩) (some ⟨o3, 0, none⟩) (some ⟨o4, 0, none⟩) (apS is rs cs hs f n).1 is (apS is rs cs hs f n).2 rs ∧ Rd u16 0 (.list 6 n (fun i => trs (aT (apA is rs cs hs f i)))) (.slice (some ⟨gr, 0, none⟩) n n)) := by
    have b9 : Below u15.heap.size u15 u16 := by rw [hu16]; exact bel_alloc _ _
    exact ⟨by rw [hu16, hH0]; exact Blk.new _ _ _, ODr.sl.2.below b9, (OSr.rd.mono (Nat.zero_le _)).below b9⟩
  have E16 : Hid (Below W.heap.size W u16 ∧ Blk u16 B 40 #[.slice a1 l1 c1, .slice a2 l2 c2, .slice a3 l3 c3, .slice a4 l4 c4] ∧ Blk u16 M0 27 #[.slice x1 l1 e1, .slice x2 l2 e2, .slice x3 l3 e3, .slice x4 l4 e4] ∧ Below w5.heap.size w5 u16 ∧ Blk u16 X0 27 #[.slice (some ⟨g1, 0, none⟩) l1 l1, .slice (some ⟨g2, 0, none⟩) l2 l2, .slice (some ⟨g3, 0, none⟩) l3 l3, .slice (some ⟨g4, 0, none⟩) l4 l4] ∧ Blk u16 G0 27 #[.slice (some ⟨h1, 0, none⟩) l1 l1, .slice (some ⟨h2, 0, none⟩) l2 l2, .slice (some ⟨h3, 0, none⟩) l3 l3, .slice (some ⟨h4, 0, none⟩) l4 l4]) := ⟨bel_nx E14.out.1 bx, E14.out.2.1.below bx, E14.out.2.2.1.below bx, bel_nx E14.out.2.2.2.1 bx, E14.out.2.2.2.2.1.below bx, E14.out.2.2.2.2.2.below bx⟩
  have Q_16 : Hid ((SlB u16 (some ⟨h1, 0, none⟩) (marksB 1 l1) ∧ SlB u16 (some ⟨h2, 0, none⟩) (marksB (1 + l1) l2) ∧ SlI u16 (some ⟨h3, 0, none⟩) (marksI (1 + l1 + l2) l3) ∧ SlI u16 (some ⟨h4, 0, none⟩) (marksI (1 + l1 + l2 + l3) l4)) ∧ Rd u16 0 (.list 6 n (fun i => trs (aT (nmVA (ka + sumN i (fun i => ctVA (apA is rs cs hs f i))) (apA is rs cs hs f i))))) (.slice (some ⟨gt, 0, none⟩) n n)) := ⟨⟨Q_14.out.1.1.below bx, Q_14.out.1.2.1.below bx, Q_14.out.1.2.2.1.below bx, Q_14.out.1.2.2.2.below bx⟩, Q_14.out.2.below bx⟩
  clear b' bx ODr OSr J2 E14 Q_14
  go_upto_region 36 with fail
  rw [← hu16, ← hH0]
  clear hu16 hH0
  obtain ⟨v0, v1, v2, v3⟩ := J3.out.1.four
  obtain ⟨y0, y1, y2, y3⟩ := E16.out.2.2.1.four
  go_wp2_with fail
  refine (eqDevice_true (some ⟨o1, 0, none⟩) (some ⟨o2, 0, none⟩) (some ⟨o3, 0, none⟩) (some ⟨o4, 0, none⟩) l1 l2 l3 l4 l1 l2 l3 l4 x1 x2 x3 x4 l1 l2 l3 l4 e1 e2 e3 e4 (apS is rs cs hs f n).1 is (apS is rs cs hs f n).2 rs _ HA.out.2.2.1 HA.out.2.2.1 J3.out.2.1 (HS.out.1.below E16.out.2.2.2.1) HA.out.2.2.2.1).mono ?_
  rintro e u17 ⟨rfl, b'⟩
  have E17 : Hid (Below W.heap.size W u17 ∧ Blk u17 B 40 #[.slice a1 l1 c1, .slice a2 l2 c2, .slice a3 l3 c3, .slice a4 l4 c4] ∧ Blk u17 M0 27 #[.slice x1 l1 e1, .slice x2 l2 e2, .slice x3 l3 e3, .slice x4 l4 e4] ∧ Below w5.heap.size w5 u17 ∧ Blk u17 X0 27 #[.slice (some ⟨g1, 0, none⟩) l1 l1, .slice (some ⟨g2, 0, none⟩) l2 l2, .slice (some ⟨g3, 0, none⟩) l3 l3, .slice (some ⟨g4, 0, none⟩) l4 l4] ∧ Blk u17 G0 27 #[.slice (some ⟨h1, 0, none⟩) l1 l1, .slice (some ⟨h2, 0, none⟩) l2 l2, .slice (some ⟨h3, 0, none⟩) l3 l3, .slice (some ⟨h4, 0, none⟩) l4 l4]) := ⟨bel_nx E16.out.1 b', E16.out.2.1.below b', E16.out.2.2.1.below b', bel_nx E16.out.2.2.2.1 b', E16.out.2.2.2.2.1.below b', E16.out.2.2.2.2.2.below b'⟩
  have Q_17 : Hid ((SlB u17 (some ⟨h1, 0, none⟩) (marksB 1 l1) ∧ SlB u17 (some ⟨h2, 0, none⟩) (marksB (1 + l1) l2) ∧ SlI u17 (some ⟨h3, 0, none⟩) (marksI (1 + l1 + l2) l3) ∧ SlI u17 (some ⟨h4, 0, none⟩) (marksI (1 + l1 + l2 + l3) l4)) ∧ Rd u17 0 (.list 6 n (fun i => trs (aT (nmVA (ka + sumN i (fun i => ctVA (apA is rs cs hs f i))) (apA is rs cs hs f i))))) (.slice (some ⟨gt, 0, none⟩) n n)) := ⟨⟨Q_16.out.1.1.below b', Q_16.out.1.2.1.below b', Q_16.out.1.2.2.1.below b', Q_16.out.1.2.2.2.below b'⟩, Q_16.out.2.below b'⟩
  have J4 : Hid (Rd u17 0 (.list 6 n (fun i => trs (aT (apA is rs cs hs f i)))) (.slice (some ⟨gr, 0, none⟩) n n)) := J3.out.2.2.below b'
  clear J3 v0 v1 v2 v3
  clear b' y0 y1 y2 y3 E16 Q_16
  go_wp2_with fail
  refine (eqRespS_u n (apA is rs cs hs f) _ _ _ bt ct _ J4.out (HS.out.2.below E17.out.2.2.2.1) HA.out.1 HA.out.2.1).mono ?_
  rintro e u18 ⟨rfl, b'⟩
  have E18 : Hid (Below W.heap.size W u18 ∧ Blk u18 B 40 #[.slice a1 l1 c1, .slice a2 l2 c2, .slice a3 l3 c3, .slice a4 l4 c4] ∧ Blk u18 M0 27 #[.slice x1 l1 e1, .slice x2 l2 e2, .slice x3 l3 e3, .slice x4 l4 e4] ∧ Below w5.heap.size w5 u18 ∧ Blk u18 X0 27 #[.slice (some ⟨g1, 0, none⟩) l1 l1, .slice (some ⟨g2, 0, none⟩) l2 l2, .slice (some ⟨g3, 0, none⟩) l3 l3, .slice (some ⟨g4, 0, none⟩) l4 l4] ∧ Blk u18 G0 27 #[.slice (some ⟨h1, 0, none⟩) l1 l1, .slice (some ⟨h2, 0, none⟩) l2 l2, .slice (some ⟨h3, 0, none⟩) l3 l3, .slice (some ⟨h4, 0, none⟩) l4 l4]) := ⟨bel_nx E17.out.1 b', E17.out.2.1.below b', E17.out.2.2.1.below b', bel_nx E17.out.2.2.2.1 b', E17.out.2.2.2.2.1.below b', E17.out.2.2.2.2.2.below b'⟩
  have Q_18 : Hid ((SlB u18 (some ⟨h1, 0, none⟩) (marksB 1 l1) ∧ SlB u18 (some ⟨h2, 0, none⟩) (marksB (1 + l1) l2) ∧ SlI u18 (some ⟨h3, 0, none⟩) (marksI (1 + l1 + l2) l3) ∧ SlI u18 (some ⟨h4, 0, none⟩) (marksI (1 + l1 + l2 + l3) l4)) ∧ Rd u18 0 (.list 6 n (fun i => trs (aT (nmVA (ka + sumN i (fun i => ctVA (apA is rs cs hs f i))) (apA is rs cs hs f i))))) (.slice (some ⟨gt, 0, none⟩) n n)) := ⟨⟨Q_17.out.1.1.below b', Q_17.out.1.2.1.below b', Q_17.out.1.2.2.1.below b', Q_17.out.1.2.2.2.below b'⟩, Q_17.out.2.below b'⟩
  clear J4
  clear b'  E17 Q_17
  obtain ⟨y0, y1, y2, y3⟩ := E18.out.2.2.2.2.2.four
  go_wp2_with fail
  refine (heldDevice_s (some ⟨h1, 0, none⟩) (some ⟨h2, 0, none⟩) (some ⟨h3, 0, none⟩) (some ⟨h4, 0, none⟩) l1 l2 l3 l4 l1 l2 l3 l4 1 _ _ rfl Q_18.out.1.1 Q_18.out.1.2.1 Q_18.out.1.2.2.1 Q_18.out.1.2.2.2 HM.out.1 HM.out.2.1 HM.out.2.2.1 HM.out.2.2.2 (by decide)).mono ?_
  rintro e u19 ⟨rfl, b'⟩
  have HV : Hid ((((1 : Nat) : Int) + (l1 : Int) + (l2 : Int) + (l3 : Int) + (l4 : Int)) = (ka : Int)) := by show _ = _; have := HKA.out; omega
  rw [HV.out]
  clear HV
  have E19 : Hid (Below W.heap.size W u19 ∧ Blk u19 B 40 #[.slice a1 l1 c1, .slice a2 l2 c2, .slice a3 l3 c3, .slice a4 l4 c4] ∧ Blk u19 M0 27 #[.slice x1 l1 e1, .slice x2 l2 e2, .slice x3 l3 e3, .slice x4 l4 e4] ∧ Below w5.heap.size w5 u19 ∧ Blk u19 X0 27 #[.slice (some ⟨g1, 0, none⟩) l1 l1, .slice (some ⟨g2, 0, none⟩) l2 l2, .slice (some ⟨g3, 0, none⟩) l3 l3, .slice (some ⟨g4, 0, none⟩) l4 l4] ∧ Blk u19 G0 27 #[.slice (some ⟨h1, 0, none⟩) l1 l1, .slice (some ⟨h2, 0, none⟩) l2 l2, .slice (some ⟨h3, 0, none⟩) l3 l3, .slice (some ⟨h4, 0, none⟩) l4 l4]) := ⟨bel_nx E18.out.1 b', E18.out.2.1.below b', E18.out.2.2.1.below b', bel_nx E18.out.2.2.2.1 b', E18.out.2.2.2.2.1.below b', E18.out.2.2.2.2.2.below b'⟩
  have Q_19 : Hid ((SlB u19 (some ⟨h1, 0, none⟩) (marksB 1 l1) ∧ SlB u19 (some ⟨h2, 0, none⟩) (marksB (1 + l1) l2) ∧ SlI u19 (some ⟨h3, 0, none⟩) (marksI (1 + l1 + l2) l3) ∧ SlI u19 (some ⟨h4, 0, none⟩) (marksI (1 + l1 + l2 + l3) l4)) ∧ Rd u19 0 (.list 6 n (fun i => trs (aT (nmVA (ka + sumN i (fun i => ctVA (apA is rs cs hs f i))) (apA is rs cs hs f i))))) (.slice (some ⟨gt, 0, none⟩) n n)) := ⟨⟨Q_18.out.1.1.below b', Q_18.out.1.2.1.below b', Q_18.out.1.2.2.1.below b', Q_18.out.1.2.2.2.below b'⟩, Q_18.out.2.below b'⟩
  clear b' E18 Q_18 y0 y1 y2 y3
  go_wp2_with fail
  refine (heldRespS_f n (apA is rs cs hs f) _ _ _ ka _ _ rfl Q_19.out.2 (by have := HKA.out; have := HA.out.2.2.2.2.2; have := HM.out; omega)).mono ?_
  rintro e u9 ⟨rfl, hw⟩
  have hw := hw.symm
  subst hw
  rw [← HKT.out]
  have BE := bel_nx HX.out.2.2.2.2 E19.out.1
  go_wp2
  go_ret
  exact ⟨rfl, BE⟩
end Go.Proofs.Ytfdddkjonjpgpaa
