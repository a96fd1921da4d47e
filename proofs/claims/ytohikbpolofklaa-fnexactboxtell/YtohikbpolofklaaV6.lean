/- Texts that the proof needs, joined: BoxTellL. -/
import Derived.Test.YtohikbpolofklaaV1
import Derived.Test.YtohikbpolofklaaV5
import Derived.Deep.RegionWith
namespace Go.Proofs.Ytohikbpolofklaa
open Go.RowKit
set_option linter.unusedVariables false
set_option linter.unusedSimpArgs false
theorem putAV_len (kd fl pl nn : Int) (ws : List Int) (bs : List Bool) (l1 l2 : Nat) (h1 : l1 = ws.length) (h2 : l2 = bs.length) : (putAV (okA kd fl pl nn ws l1 l2) kd fl pl nn ws bs).length ≤ 300 := by
  cases hb : okA kd fl pl nn ws l1 l2
  · simp [putAV]
  · have hk : kindB kd = true := by unfold okA at hb; simp only [Bool.and_eq_true] at hb; exact hb.1
    by_cases h0 : fl = 0
    · subst h0
      obtain rfl | rfl | rfl | rfl | rfl | rfl | rfl | rfl | rfl | rfl := of_decide_eq_true hk
      all_goals (simp [okA, okAK, kindB, inB, zr4] at hb; simp [putAV, putA, wbs, wbs_length, packL_length]; try omega)
    · simp [putAV, putA, h0]
theorem Try.infoB31 : (Try.prog.info? 31).map (fun i => (i.zero, i.size, i.bytes)) = some (some (.agg (bxc 0 0 none 0 0)), 3, 40) := by kernel_rfl
set_option maxRecDepth 20000 in
set_option maxHeartbeats 8000000 in
theorem boxTell_law (nm un : Int) (a : Option Addr) (l c : Nat) (zs : List Int) (kd fl pl nn : Int) (a1 a2 : Option Addr) (l1 l2 c1 c2 : Nat) (ws : List Int) (bs : List Bool) (w : World) (hx : InBox w nm un a l zs) (hq : InResp w kd fl pl nn a1 a2 l1 l2 ws bs) (hl : l + (l1 + l2) ≤ 1048576) :
    Calls Try.prog 3 #[.agg (bxc nm un a l c), .agg #[.int .i64 kd, .int .i64 fl, .int .i64 pl, .int .i64 nn, .slice a1 l1 c1, .slice a2 l2 c2]] w fun e w' => e = .returned (.bool true) ∧ Below w.heap.size w w' := by
  obtain ⟨⟨h0, _, s0, _⟩, _, _⟩ := hx
  obtain ⟨⟨h1, _, s1, _⟩, ⟨h2, s2⟩, _, _⟩ := hq
  have H1 : Hid (l1 = ws.length ∧ l2 = bs.length ∧ l = zs.length) := ⟨h1.symm, h2.symm, h0.symm⟩
  have HL : Hid (l1 ≤ 2000000 ∧ l2 ≤ 2000000 ∧ ws.length ≤ 2000000 ∧ bs.length ≤ 2000000 ∧ bs.length ≤ 20000000 ∧ zs.length ≤ 2000000 ∧ l ≤ 3000000 ∧ l ≤ 1048576 ∧ l + (l1 + l2) ≤ 1048576) := by show _ ∧ _; omega
  have HS : Hid (SlI w a1 ws ∧ SlB w a2 bs ∧ Sl w a zs) := ⟨s1, s2, s0⟩
  have f0 : ¬ (1048576 - (l : Int) < 0) := by omega
  have f00 : ¬ (1048576 - (l : Int) - (l1 : Int) - (l2 : Int) < 0) := by omega
  obtain ⟨R, hR⟩ : ∃ R, R = putAV (okA kd fl pl nn ws l1 l2) kd fl pl nn ws bs := ⟨_, rfl⟩
  have HR : Hid (putAV (okA kd fl pl nn ws l1 l2) kd fl pl nn ws bs = R ∧ R.length ≤ 300) := ⟨hR.symm, by rw [hR]; exact putAV_len kd fl pl nn ws bs l1 l2 h1.symm h2.symm⟩
  clear h0 h1 h2 s0 s1 s2 hR hl
  obtain ⟨BX, hBX⟩ : ∃ B, B = w.heap.size := ⟨_, rfl⟩
  obtain ⟨BA, hBA⟩ : ∃ B, B = w.heap.size + 1 := ⟨_, rfl⟩
  obtain ⟨W, hW⟩ : ∃ W, W = (w.alloc (.cells (bxc nm un a l c) 24)).alloc (.cells #[.int .i64 kd, .int .i64 fl, .int .i64 pl, .int .i64 nn, .slice a1 l1 c1, .slice a2 l2 c2] 28) := ⟨_, rfl⟩
  have b0 : Below w.heap.size w W := by rw [hW]; exact bel_next (bel_alloc w _) (bel_alloc _ _)
  have X0 : Blk W BX 24 (bxc nm un a l c) := by rw [hW, hBX]; exact (Blk.new w _ _).below (bel_alloc _ _)
  have A0 : Blk W BA 28 #[.int .i64 kd, .int .i64 fl, .int .i64 pl, .int .i64 nn, .slice a1 l1 c1, .slice a2 l2 c2] := by
    rw [hW, hBA]; have := Blk.new (w.alloc (.cells (bxc nm un a l c) 24)) #[.int .i64 kd, .int .i64 fl, .int .i64 pl, .int .i64 nn, .slice a1 l1 c1, .slice a2 l2 c2] 28; simpa using this
  go_enter Try.func3, Try.ntmps3
  go_upto_region 1 with fail
  rw [← hW, ← hBA, ← hBX]
  clear hW hBX hBA
  obtain ⟨x0, x1, x2⟩ := X0.tri
  obtain ⟨y0, y1, y2, y3, y4, y5⟩ := A0.six
  go_wp2_with fail
  refine (szBox_fits nm un a l c _ HL.out.2.2.2.2.2.2.2.1).mono ?_
  rintro e w1 ⟨rfl, b'⟩
  have b1 := bel_next b0 b'
  have X1 := X0.below b'
  have A1 := A0.below b'
  clear b0 X0 A0 x0 x1 x2 y0 y1 y2 y3 y4 y5 b'
  obtain ⟨x0, x1, x2⟩ := X1.tri
  obtain ⟨y0, y1, y2, y3, y4, y5⟩ := A1.six
  go_wp2_with fail
  refine (szResp_at kd fl pl nn a1 a2 l1 l2 c1 c2 (1048576 - (l : Int)) _ (by have := HL.out; omega) (by have := HL.out; omega)).mono ?_
  rintro e w2 ⟨rfl, b'⟩
  have b2 := bel_next b1 b'
  have X2 := X1.below b'
  have A2 := A1.below b'
  clear b1 X1 A1 x0 x1 x2 y0 y1 y2 y3 y4 y5 b'
  obtain ⟨x0, x1, x2⟩ := X2.tri
  obtain ⟨y0, y1, y2, y3, y4, y5⟩ := A2.six
  go_upto_region 8 with fail
  try go_simp
  refine wp_region_any (by kernel_rfl) ?_
  refine wpAny_te 6 5 6 (fun _ => false) (fun u => Below w2.heap.size w2 u) (fun b u => Blk u b 31 (bxc 0 0 none 0 0) ∧ w2.heap.size ≤ b) (fun v u => ∃ b9 ao co no, v = .pointer (some ⟨b9, 0, none⟩) ∧ w2.heap.size ≤ b9 ∧ Blk u b9 31 (bxc nm un ao no co) ∧ no = R.length ∧ Own u w2.heap.size (.slice ao no co) R ∧ Below w2.heap.size w2 u) (fun i v ob u => match i with
      | 0 => v = .agg (bxc nm un a l c)
      | 1 => ∃ g, v = .agg (bxc nm un (some ⟨g, 0, none⟩) l l) ∧ Sl u (some ⟨g, 0, none⟩) zs
      | 2 => v = .agg #[.int .i64 kd, .int .i64 fl, .int .i64 pl, .int .i64 nn, .slice a1 l1 c1, .slice a2 l2 c2]
      | 3 => ∃ g1 g2, v = rp kd fl pl nn (some ⟨g1, 0, none⟩) (some ⟨g2, 0, none⟩) l1 l2 l1 l2 ∧ SlI u (some ⟨g1, 0, none⟩) ws ∧ SlB u (some ⟨g2, 0, none⟩) bs
      | 4 => ∃ ao co no, v = .agg (bxc nm un ao no co) ∧ no = R.length ∧ Own u w2.heap.size (.slice ao no co) R
      | _ => True) (fun _ _ => True) (by kernel_rfl) (by kernel_rfl) (by decide) (by kernel_rfl) (by decide) rfl rfl rfl (fun u u' h hb => bel_next h hb) (fun b u u' h hb => ⟨h.1.below hb, h.2⟩) ?_ ?_ (fun _ _ _ _ _ => trivial) (by first | exact Below.refl _ _ | exact (Below.refl _ _).drew) ?_ ?_ ?_ ?_ ?_ _ _ rfl (by decide) (fun i => by simp [Array.getD]; try (split <;> rfl))
  · intro i v ob u u' h hb
    match i, h with
    | 0, h => exact h
    | 1, ⟨g, e, r⟩ => exact ⟨g, e, r.below hb⟩
    | 2, h => exact h
    | 3, ⟨g1, g2, e, r, r9⟩ => exact ⟨g1, g2, e, r.below hb, r9.below hb⟩
    | 4, ⟨ao, co, no, e, h9, r⟩ => exact ⟨ao, co, no, e, h9, r.below hb⟩
    | _ + 5, _ => trivial
  · intro i v u u' b9 h hb9 hb
    match i, h with
    | 0, h => exact h
    | 1, ⟨g, e, r⟩ => exact ⟨g, e, r.below hb⟩
    | 2, h => exact h
    | 3, ⟨g1, g2, e, r, r9⟩ => exact ⟨g1, g2, e, r.below hb, r9.below hb⟩
    | 4, ⟨ao, co, no, e, h9, r⟩ => exact ⟨ao, co, no, e, h9, r.below hb⟩
    | _ + 5, _ => trivial
  rotate_left
  · intro u o ρ hR ho
    simp only [List.getElem?_toArray, List.getElem?_cons_zero, List.getElem?_cons_succ, Option.some.injEq] at ho
    subst ho
    exact ⟨rfl, _, run_alloc_b 31 rfl (bxc 0 0 none 0 0) 3 40 Try.infoB31, ⟨Blk.new _ _ _, hR.size⟩, by simp, bel_alloc _ _⟩
  · intro u i o ρ ob hfl hiA hiS hR hbo ho hρ hc hf hd
    have hi : i < 7 := by
      have := (Array.getElem?_eq_some_iff.1 ho).1
      simpa using this
    have hi2 : i < 5 := by omega
    obtain rfl | rfl | rfl | rfl | rfl : i = 0 ∨ i = 1 ∨ i = 2 ∨ i = 3 ∨ i = 4 := by omega
    all_goals (simp only [List.getElem?_toArray, List.getElem?_cons_zero, List.getElem?_cons_succ, Option.some.injEq] at ho; subst ho)
    · have s0 : ρ (.tmp 2) = .pointer (some ⟨BX, 0, none⟩) := (hρ 2 (by kernel_rfl)).trans rfl
      exact .inl ⟨rfl, .inl ⟨_, u, run_load_op rfl s0 (run_loadAt_mid u BX 0 24 [.int .i64 nm, .int .i64 un, .slice a l c] _ (Blk.all (vs := [.int .i64 nm, .int .i64 un, .slice a l c]) (X2.below hR)) Try.underlying24 rfl (by kernel_rfl)), rfl, Below.refl _ _⟩⟩
    · have h0 : ρ (.tmp 24) = .agg (bxc nm un a l c) := hd ⟨0, .data⟩ (by simp) rfl (by decide) rfl 24 rfl
      refine .inl ⟨rfl, .inr ⟨_, _, run_call_op rfl (hf _) (args := #[.agg (bxc nm un a l c)]) (by simp [h0]) (by kernel_rfl), ?_⟩⟩
      refine (toBox_any nm un a l c zs _ H1.out.2.2 (HS.out.2.2.below (bel_next b2 hR)) HL.out.2.2.2.2.2.1).mono ?_
      rintro e u' ⟨g, he, o1, b'⟩
      exact ⟨_, he, ⟨g, rfl, o1.sl.2⟩, b'⟩
    · have s0 : ρ (.tmp 3) = .pointer (some ⟨BA, 0, none⟩) := (hρ 3 (by kernel_rfl)).trans rfl
      exact .inl ⟨rfl, .inl ⟨_, u, run_load_op rfl s0 (run_loadAt_mid u BA 0 28 [.int .i64 kd, .int .i64 fl, .int .i64 pl, .int .i64 nn, .slice a1 l1 c1, .slice a2 l2 c2] _ (Blk.all (vs := [.int .i64 kd, .int .i64 fl, .int .i64 pl, .int .i64 nn, .slice a1 l1 c1, .slice a2 l2 c2]) (A2.below hR)) Try.underlying28 rfl (by kernel_rfl)), rfl, Below.refl _ _⟩⟩
    · have h0 : ρ (.tmp 26) = .agg #[.int .i64 kd, .int .i64 fl, .int .i64 pl, .int .i64 nn, .slice a1 l1 c1, .slice a2 l2 c2] := hd ⟨2, .data⟩ (by simp) rfl (by decide) rfl 26 rfl
      refine .inl ⟨rfl, .inr ⟨_, _, run_call_op rfl (hf _) (args := #[.agg #[.int .i64 kd, .int .i64 fl, .int .i64 pl, .int .i64 nn, .slice a1 l1 c1, .slice a2 l2 c2]]) (by simp [h0]) (by kernel_rfl), ?_⟩⟩
      refine (toResp_any kd fl pl nn a1 a2 l1 l2 c1 c2 ws bs _ H1.out.1 H1.out.2.1 (HS.out.1.below (bel_next b2 hR)) (HS.out.2.1.below (bel_next b2 hR)) HL.out.1 HL.out.2.1).mono ?_
      rintro e u' ⟨g1, g2, he, o1, o2, b'⟩
      exact ⟨_, he, ⟨g1, g2, rfl, o1.sl.2, o2.sl.2⟩, b'⟩
    · obtain ⟨g, h1, r1⟩ : ∃ g, ρ (.tmp 25) = .agg (bxc nm un (some ⟨g, 0, none⟩) l l) ∧ Sl u (some ⟨g, 0, none⟩) zs := hd ⟨1, .data⟩ (by simp) rfl (by decide) rfl 25 rfl
      obtain ⟨g1, g2, h3, r3, r4⟩ : ∃ g1 g2, ρ (.tmp 27) = rp kd fl pl nn (some ⟨g1, 0, none⟩) (some ⟨g2, 0, none⟩) l1 l2 l1 l2 ∧ SlI u (some ⟨g1, 0, none⟩) ws ∧ SlB u (some ⟨g2, 0, none⟩) bs := hd ⟨3, .data⟩ (by simp) rfl (by decide) rfl 27 rfl
      refine .inl ⟨rfl, .inr ⟨_, _, run_call_op rfl (hf _) (args := #[.agg (bxc nm un (some ⟨g, 0, none⟩) l l), rp kd fl pl nn (some ⟨g1, 0, none⟩) (some ⟨g2, 0, none⟩) l1 l2 l1 l2]) (by simp [h1, h3]) (by kernel_rfl), ?_⟩⟩
      refine (specBoxTell_q nm un (some ⟨g, 0, none⟩) l l kd fl pl nn (some ⟨g1, 0, none⟩) (some ⟨g2, 0, none⟩) l1 l2 l1 l2 ws bs _ H1.out.1 H1.out.2.1 r3 r4 HL.out.2.2.1 HL.out.2.2.2.1 R HR.out.1).mono ?_
      rintro e u' ⟨ao, co, no, he, hn, o1, b'⟩
      exact ⟨_, he, ⟨ao, co, no, rfl, hn, own_mono o1 hR.size⟩, b'⟩
  · intro u i o ρ hfl
    cases hfl
  · intro u o ρ b9 hR ho hρ hc hdA hbx hv
    simp only [List.getElem?_toArray, List.getElem?_cons_zero, List.getElem?_cons_succ, Option.some.injEq] at ho
    subst ho
    obtain ⟨ao, co, no, h9, hn, r9⟩ : ∃ ao co no, ρ (.tmp 28) = .agg (bxc nm un ao no co) ∧ no = R.length ∧ Own u w2.heap.size (.slice ao no co) R := hv 4 28 (by decide) rfl rfl
    exact ⟨rfl, setL u b9 0 [.int .i64 nm, .int .i64 un, .slice ao no co], run_store_op rfl hdA h9 ((run_storeAt_mid u b9 0 31 (bxc nm un ao no co) (hbx.1.there 0 3 (by simp)) (by kernel_rfl) (by simp [Value.oneCell'])).trans (by rw [setCells_L])), b9, ao, co, no, rfl, hbx.2, Blk.wrb hbx.1 (by simp [wrA]), hn, row_setLb r9 ⟨_, hbx.1⟩ (by decide), setL_below hbx.2 _ _ _ hR⟩
  intro vs σ w3 hE hΨ hvs
  obtain ⟨gS, aogS, cogS, nogS, e1, q1', kP, hn, oP, bP⟩ := hE
  have f9 : vs 5 = .pointer (some ⟨gS, 0, none⟩) := (hvs 5 6 rfl).trans e1
  simp only [putsL]
  rw [f9]
  clear f9 e1 hΨ hvs
  have HBgS : Hid (w.heap.size ≤ w2.heap.size ∧ w2.heap.size ≤ gS ∧ nogS = R.length ∧ nogS ≤ 3000000) := ⟨b2.size, q1', hn, by have := HR.out; omega⟩
  have b' := bP
  clear q1' hn bP
  have b3 := bel_next b2 b'
  have X3 := X2.below b'
  have A3 := A2.below b'
  clear b2 X2 A2 x0 x1 x2 y0 y1 y2 y3 y4 y5 b'
  obtain ⟨x0, x1, x2⟩ := X3.tri
  obtain ⟨y0, y1, y2, y3, y4, y5⟩ := A3.six
  have S3 := kP
  have O3 := own_mono oP HBgS.out.1
  clear kP oP
  obtain ⟨s0, s1, s2⟩ := S3.tri
  go_wp2_with fail
  refine (toBox_any nm un a l c zs _ H1.out.2.2 (HS.out.2.2.below b3) HL.out.2.2.2.2.2.1).mono ?_
  rintro e w4 ⟨g0, rfl, oP, b'⟩
  have neOP := own_ne O3 oP (Nat.le_refl _)
  have sP := b3.size
  have b4 := bel_next b3 b'
  have O4 := O3.below b'
  have X4 := X3.below b'
  have A4 := A3.below b'
  have S4 := S3.below b'
  clear b3 O3 X3 A3 S3 x0 x1 x2 y0 y1 y2 y3 y4 y5 s0 s1 s2 b'
  obtain ⟨x0, x1, x2⟩ := X4.tri
  obtain ⟨y0, y1, y2, y3, y4, y5⟩ := A4.six
  obtain ⟨s0, s1, s2⟩ := S4.tri
  have P4 := own_mono oP sP
  clear oP sP
  have b' := bel_alloc w4 (.cells (bxc nm un (some ⟨g0, 0, none⟩) l l) 31)
  have N' := Blk.new w4 (bxc nm un (some ⟨g0, 0, none⟩) l l) 31
  have b5 := bel_next b4 b'
  have O5 := O4.below b'
  have P5 := P4.below b'
  have X5 := X4.below b'
  have A5 := A4.below b'
  have S5 := S4.below b'
  clear b4 O4 P4 X4 A4 S4 x0 x1 x2 y0 y1 y2 y3 y4 y5 s0 s1 s2 b'
  obtain ⟨x0, x1, x2⟩ := X5.tri
  obtain ⟨y0, y1, y2, y3, y4, y5⟩ := A5.six
  obtain ⟨s0, s1, s2⟩ := S5.tri
  have Q5 := N'
  clear N'
  obtain ⟨q0, q1, q2⟩ := Q5.tri
  go_wp2_with fail
  refine (toResp_any kd fl pl nn a1 a2 l1 l2 c1 c2 ws bs _ H1.out.1 H1.out.2.1 (HS.out.1.below b5) (HS.out.2.1.below b5) HL.out.1 HL.out.2.1).mono ?_
  rintro e w6 ⟨g3, g4, rfl, I4, J4, b'⟩
  have hBi := hide b5.size
  have b6 := bel_next b5 b'
  have O6 := O5.below b'
  have P6 := P5.below b'
  have X6 := X5.below b'
  have A6 := A5.below b'
  have S6 := S5.below b'
  have Q6 := Q5.below b'
  clear b5 O5 P5 X5 A5 S5 Q5 x0 x1 x2 y0 y1 y2 y3 y4 y5 s0 s1 s2 q0 q1 q2 b'
  obtain ⟨x0, x1, x2⟩ := X6.tri
  obtain ⟨y0, y1, y2, y3, y4, y5⟩ := A6.six
  obtain ⟨s0, s1, s2⟩ := S6.tri
  obtain ⟨q0, q1, q2⟩ := Q6.tri
  have i6 := I4
  have j6 := J4
  clear I4 J4
  have b' := bel_alloc w6 (.cells #[.int .i64 kd, .int .i64 fl, .int .i64 pl, .int .i64 nn, .slice (some ⟨g3, 0, none⟩) l1 l1, .slice (some ⟨g4, 0, none⟩) l2 l2] 34)
  have N' := Blk.new w6 #[.int .i64 kd, .int .i64 fl, .int .i64 pl, .int .i64 nn, .slice (some ⟨g3, 0, none⟩) l1 l1, .slice (some ⟨g4, 0, none⟩) l2 l2] 34
  have b7 := bel_next b6 b'
  have O7 := O6.below b'
  have P7 := P6.below b'
  have i7 := i6.below b'
  have j7 := j6.below b'
  have X7 := X6.below b'
  have A7 := A6.below b'
  have S7 := S6.below b'
  have Q7 := Q6.below b'
  clear b6 O6 P6 i6 j6 X6 A6 S6 Q6 x0 x1 x2 y0 y1 y2 y3 y4 y5 s0 s1 s2 q0 q1 q2 b'
  obtain ⟨x0, x1, x2⟩ := X7.tri
  obtain ⟨y0, y1, y2, y3, y4, y5⟩ := A7.six
  obtain ⟨s0, s1, s2⟩ := S7.tri
  obtain ⟨q0, q1, q2⟩ := Q7.tri
  have Y7 := N'
  clear N'
  obtain ⟨r0, r1, r2, r3, r4, r5⟩ := Y7.six
  go_wp2_with fail
  refine (implBoxTell_q nm un (some ⟨g0, 0, none⟩) l l kd fl pl nn (some ⟨g3, 0, none⟩) (some ⟨g4, 0, none⟩) l1 l2 l1 l2 ws bs _ H1.out.1 H1.out.2.1 i7.sl.2 j7.sl.2 HL.out.2.2.1 HL.out.2.2.2.1 R HR.out.1).mono ?_
  rintro e w8 ⟨ag, cg, ng, rfl, hng, rg, b'⟩
  have HG : Hid (ng = R.length ∧ ng ≤ 3000000) := ⟨hng, by have := HR.out; omega⟩
  have neOG := own_ne O7 rg (Nat.le_refl _)
  have nePG := own_ne P7 rg (Nat.le_refl _)
  have sG := b7.size
  clear hng
  have b8 := bel_next b7 b'
  have O8 := O7.below b'
  have P8 := P7.below b'
  have i8 := i7.below b'
  have j8 := j7.below b'
  have X8 := X7.below b'
  have A8 := A7.below b'
  have S8 := S7.below b'
  have Q8 := Q7.below b'
  have Y8 := Y7.below b'
  clear b7 O7 P7 i7 j7 X7 A7 S7 Q7 Y7 x0 x1 x2 y0 y1 y2 y3 y4 y5 s0 s1 s2 q0 q1 q2 r0 r1 r2 r3 r4 r5 b'
  obtain ⟨x0, x1, x2⟩ := X8.tri
  obtain ⟨y0, y1, y2, y3, y4, y5⟩ := A8.six
  obtain ⟨s0, s1, s2⟩ := S8.tri
  obtain ⟨q0, q1, q2⟩ := Q8.tri
  obtain ⟨r0, r1, r2, r3, r4, r5⟩ := Y8.six
  have G8 := own_mono rg sG
  clear rg sG
  have b' := bel_alloc w8 (.cells (bxc nm un ag ng cg) 31)
  have N' := Blk.new w8 (bxc nm un ag ng cg) 31
  have b9 := bel_next b8 b'
  have O9 := O8.below b'
  have P9 := P8.below b'
  have i9 := i8.below b'
  have j9 := j8.below b'
  have G9 := G8.below b'
  have X9 := X8.below b'
  have A9 := A8.below b'
  have S9 := S8.below b'
  have Q9 := Q8.below b'
  have Y9 := Y8.below b'
  clear b8 O8 P8 i8 j8 G8 X8 A8 S8 Q8 Y8 x0 x1 x2 y0 y1 y2 y3 y4 y5 s0 s1 s2 q0 q1 q2 r0 r1 r2 r3 r4 r5 b'
  obtain ⟨x0, x1, x2⟩ := X9.tri
  obtain ⟨y0, y1, y2, y3, y4, y5⟩ := A9.six
  obtain ⟨s0, s1, s2⟩ := S9.tri
  obtain ⟨q0, q1, q2⟩ := Q9.tri
  obtain ⟨r0, r1, r2, r3, r4, r5⟩ := Y9.six
  have V9 := N'
  clear N'
  obtain ⟨v0, v1, v2⟩ := V9.tri
  go_wp2_with fail
  refine (eqBox_true nm un _ _ _ _ _ _ R _ HG.out.1 HBgS.out.2.2.1 G9.sl.2 O9.sl.2 (by have := HR.out; omega)).mono ?_
  rintro e w10 ⟨rfl, b'⟩
  have b10 := bel_next b9 b'
  have O10 := O9.below b'
  have P10 := P9.below b'
  have i10 := i9.below b'
  have j10 := j9.below b'
  have G10 := G9.below b'
  have X10 := X9.below b'
  have A10 := A9.below b'
  have S10 := S9.below b'
  have Q10 := Q9.below b'
  have Y10 := Y9.below b'
  have V10 := V9.below b'
  clear b9 O9 P9 i9 j9 G9 X9 A9 S9 Q9 Y9 V9 x0 x1 x2 y0 y1 y2 y3 y4 y5 s0 s1 s2 q0 q1 q2 r0 r1 r2 r3 r4 r5 v0 v1 v2 b'
  obtain ⟨x0, x1, x2⟩ := X10.tri
  obtain ⟨y0, y1, y2, y3, y4, y5⟩ := A10.six
  obtain ⟨s0, s1, s2⟩ := S10.tri
  obtain ⟨q0, q1, q2⟩ := Q10.tri
  obtain ⟨r0, r1, r2, r3, r4, r5⟩ := Y10.six
  obtain ⟨v0, v1, v2⟩ := V10.tri
  go_upto_region 14 with fail
  go_cut [44] (fun sX wx => sX = .bool false ∧ Below w10.heap.size w10 wx)
  case first =>
    go_region_with (first
      | (go_at_call 7; refine (toBox_any nm un a l c zs _ H1.out.2.2 (HS.out.2.2.below ?_) HL.out.2.2.2.2.2.1).mono ?_; (first | exact b10 | exact b10.drew | exact b10.drew.drew | exact b10.drew.drew.drew); rintro e wa' ⟨g5, rfl, oa, ba'⟩; have ba := bel_next (Below.refl _ w10).drew ba'; have Qa := Q10.below ba; have Pa := P10.below ba; obtain ⟨u0, u1, u2⟩ := Qa.tri; clear ba' Qa)
      | (go_at_call 10; refine (eqBox_true nm un _ _ _ _ _ _ zs _ H1.out.2.2 H1.out.2.2 ?_ ?_ HL.out.2.2.2.2.2.1).mono ?_; (first | exact Pa.sl.2 | exact (Pa.below (Below.refl _ _).drew).sl.2 | exact (Pa.below (Below.refl _ _).drew.drew).sl.2); (first | exact oa.sl.2 | exact (oa.below (Below.refl _ _).drew).sl.2 | exact (oa.below (Below.refl _ _).drew.drew).sl.2); rintro e wb' ⟨rfl, bb'⟩; have bb := bel_next (by first | exact ba | exact ba.drew | exact ba.drew.drew) bb'; clear bb'))
    all_goals (go_wp2_with fail; go_meet; exact ⟨rfl, bb⟩)
  case rest =>
  obtain ⟨rfl, b'⟩ := hcut
  obtain ⟨w11, hw'⟩ : ∃ w11, w11 = wc := ⟨_, rfl⟩
  rw [← hw'] at b' ⊢
  clear hw'
  have b11 := bel_next b10 b'
  have O11 := O10.below b'
  have P11 := P10.below b'
  have i11 := i10.below b'
  have j11 := j10.below b'
  have G11 := G10.below b'
  have X11 := X10.below b'
  have A11 := A10.below b'
  have S11 := S10.below b'
  have Q11 := Q10.below b'
  have Y11 := Y10.below b'
  have V11 := V10.below b'
  clear b10 O10 P10 i10 j10 G10 X10 A10 S10 Q10 Y10 V10 x0 x1 x2 y0 y1 y2 y3 y4 y5 s0 s1 s2 q0 q1 q2 r0 r1 r2 r3 r4 r5 v0 v1 v2 b'
  obtain ⟨x0, x1, x2⟩ := X11.tri
  obtain ⟨y0, y1, y2, y3, y4, y5⟩ := A11.six
  obtain ⟨s0, s1, s2⟩ := S11.tri
  obtain ⟨q0, q1, q2⟩ := Q11.tri
  obtain ⟨r0, r1, r2, r3, r4, r5⟩ := Y11.six
  obtain ⟨v0, v1, v2⟩ := V11.tri
  go_upto_region 16 with fail
  go_cut [49] (fun sX wx => sX = .bool false ∧ Below w11.heap.size w11 wx)
  case first =>
    go_region_with (first
      | (go_at_call 8; refine (toResp_any kd fl pl nn a1 a2 l1 l2 c1 c2 ws bs _ H1.out.1 H1.out.2.1 (HS.out.1.below ?_) (HS.out.2.1.below ?_) HL.out.1 HL.out.2.1).mono ?_; (first | exact b11 | exact b11.drew | exact b11.drew.drew | exact b11.drew.drew.drew); (first | exact b11 | exact b11.drew | exact b11.drew.drew | exact b11.drew.drew.drew); rintro e wa' ⟨g5, g6, rfl, ia, ja, ba'⟩; have ba := bel_next (Below.refl _ w11).drew ba'; have Ya := Y11.below ba; have i6' := i11.below ba; have j6' := j11.below ba; obtain ⟨u0, u1, u2, u3, u4, u5⟩ := Ya.six; clear ba' Ya)
      | (go_at_call 11; refine (eqResp_true kd fl pl nn _ _ _ _ _ _ _ _ _ _ _ _ ws bs _ H1.out.1 H1.out.2.1 H1.out.1 H1.out.2.1 ?_ ?_ ?_ ?_ HL.out.2.2.1 HL.out.2.2.2.1).mono ?_; (first | exact i6'.sl.2 | exact (i6'.below (Below.refl _ _).drew).sl.2 | exact (i6'.below (Below.refl _ _).drew.drew).sl.2); (first | exact j6'.sl.2 | exact (j6'.below (Below.refl _ _).drew).sl.2 | exact (j6'.below (Below.refl _ _).drew.drew).sl.2); (first | exact ia.sl.2 | exact (ia.below (Below.refl _ _).drew).sl.2 | exact (ia.below (Below.refl _ _).drew.drew).sl.2); (first | exact ja.sl.2 | exact (ja.below (Below.refl _ _).drew).sl.2 | exact (ja.below (Below.refl _ _).drew.drew).sl.2); rintro e wb' ⟨rfl, bb'⟩; have bb := bel_next (by first | exact ba | exact ba.drew | exact ba.drew.drew) bb'; clear bb'))
    all_goals (go_wp2_with fail; go_meet; exact ⟨rfl, bb⟩)
  case rest =>
  obtain ⟨rfl, b'⟩ := hcut
  obtain ⟨w12, hw'⟩ : ∃ w12, w12 = wc := ⟨_, rfl⟩
  rw [← hw'] at b' ⊢
  clear hw'
  have b12 := bel_next b11 b'
  have O12 := O11.below b'
  have P12 := P11.below b'
  have i12 := i11.below b'
  have j12 := j11.below b'
  have G12 := G11.below b'
  have X12 := X11.below b'
  have A12 := A11.below b'
  have S12 := S11.below b'
  have Q12 := Q11.below b'
  have Y12 := Y11.below b'
  have V12 := V11.below b'
  clear b11 O11 P11 i11 j11 G11 X11 A11 S11 Q11 Y11 V11 x0 x1 x2 y0 y1 y2 y3 y4 y5 s0 s1 s2 q0 q1 q2 r0 r1 r2 r3 r4 r5 v0 v1 v2 b'
  obtain ⟨x0, x1, x2⟩ := X12.tri
  obtain ⟨y0, y1, y2, y3, y4, y5⟩ := A12.six
  obtain ⟨s0, s1, s2⟩ := S12.tri
  obtain ⟨q0, q1, q2⟩ := Q12.tri
  obtain ⟨r0, r1, r2, r3, r4, r5⟩ := Y12.six
  obtain ⟨v0, v1, v2⟩ := V12.tri
  go_wp2_with fail
  refine (markBox_1 nm un _ l l _ zs _ P12 HL.out.2.2.2.2.2.2.1).mono ?_
  rintro e w13 ⟨rfl, rP, gr⟩
  have b13 := bel_grown b12 P12 gr (Nat.le_refl _) b12.size
  have O13 := O12.kept gr neOP.1
  have G13 := G12.kept gr nePG.2
  have i13 := World.ownsRow.kept i12 gr (ne_types i12 P12 (by decide))
  have j13 := World.ownsRow.kept j12 gr (ne_types j12 P12 (by decide))
  have X13 := X12.row P12 gr (by decide)
  have A13 := A12.row P12 gr (by decide)
  have S13 := S12.row P12 gr (by decide)
  have Q13 := Q12.row P12 gr (by decide)
  have Y13 := Y12.row P12 gr (by decide)
  have V13 := V12.row P12 gr (by decide)
  clear b12 O12 P12 i12 j12 G12 X12 A12 S12 Q12 Y12 V12 rP gr x0 x1 x2 y0 y1 y2 y3 y4 y5 s0 s1 s2 q0 q1 q2 r0 r1 r2 r3 r4 r5 v0 v1 v2
  obtain ⟨x0, x1, x2⟩ := X13.tri
  obtain ⟨y0, y1, y2, y3, y4, y5⟩ := A13.six
  obtain ⟨s0, s1, s2⟩ := S13.tri
  obtain ⟨q0, q1, q2⟩ := Q13.tri
  obtain ⟨r0, r1, r2, r3, r4, r5⟩ := Y13.six
  obtain ⟨v0, v1, v2⟩ := V13.tri
  go_wp2_with fail
  refine (markResp_s kd fl pl nn _ _ _ _ _ _ _ _ ws bs (l + 1) ((l : Int) + 1) _ (by omega) (by have := HL.out; omega) i13 j13 HL.out.1 HL.out.2.1).mono ?_
  rintro e w14 ⟨rfl, _, _, _, _, kO, kB, kL⟩
  have b14 := kL _ _ b13 hBi.out hBi.out b13.size
  have O14 := kO _ _ _ O13
  have G14 := kO _ _ _ G13
  have X14 := kB _ _ _ X13 (by decide) (by decide)
  have A14 := kB _ _ _ A13 (by decide) (by decide)
  have S14 := kB _ _ _ S13 (by decide) (by decide)
  have Q14 := kB _ _ _ Q13 (by decide) (by decide)
  have Y14 := kB _ _ _ Y13 (by decide) (by decide)
  have V14 := kB _ _ _ V13 (by decide) (by decide)
  have f1 : ¬ ((l : Int) + 1 + (l1 : Int) + (l2 : Int) < 0) := by omega
  clear b13 O13 i13 j13 G13 X13 A13 S13 Q13 Y13 V13 kO kB kL x0 x1 x2 y0 y1 y2 y3 y4 y5 s0 s1 s2 q0 q1 q2 r0 r1 r2 r3 r4 r5 v0 v1 v2
  obtain ⟨x0, x1, x2⟩ := X14.tri
  obtain ⟨y0, y1, y2, y3, y4, y5⟩ := A14.six
  obtain ⟨s0, s1, s2⟩ := S14.tri
  obtain ⟨q0, q1, q2⟩ := Q14.tri
  obtain ⟨r0, r1, r2, r3, r4, r5⟩ := Y14.six
  obtain ⟨v0, v1, v2⟩ := V14.tri
  go_wp2_with fail
  refine (eqBox_true nm un _ _ _ _ _ _ R _ HG.out.1 HBgS.out.2.2.1 G14.sl.2 O14.sl.2 (by have := HR.out; omega)).mono ?_
  rintro e w15 ⟨rfl, b'⟩
  have b15 := bel_next b14 b'
  have O15 := O14.below b'
  have G15 := G14.below b'
  have X15 := X14.below b'
  have A15 := A14.below b'
  have S15 := S14.below b'
  have Q15 := Q14.below b'
  have Y15 := Y14.below b'
  have V15 := V14.below b'
  clear b14 O14 G14 X14 A14 S14 Q14 Y14 V14 x0 x1 x2 y0 y1 y2 y3 y4 y5 s0 s1 s2 q0 q1 q2 r0 r1 r2 r3 r4 r5 v0 v1 v2 b'
  obtain ⟨x0, x1, x2⟩ := X15.tri
  obtain ⟨y0, y1, y2, y3, y4, y5⟩ := A15.six
  obtain ⟨s0, s1, s2⟩ := S15.tri
  obtain ⟨q0, q1, q2⟩ := Q15.tri
  obtain ⟨r0, r1, r2, r3, r4, r5⟩ := Y15.six
  obtain ⟨v0, v1, v2⟩ := V15.tri
  go_wp2_with fail
  refine (markBox_1 nm un _ _ _ _ R _ G15 HG.out.2).mono ?_
  rintro e w16 ⟨rfl, rG, gr⟩
  have b16 := bel_grown b15 G15 gr (Nat.le_refl _) b15.size
  have O16 := O15.kept gr neOG.1
  have X16 := X15.row G15 gr (by decide)
  have A16 := A15.row G15 gr (by decide)
  have S16 := S15.row G15 gr (by decide)
  have Q16 := Q15.row G15 gr (by decide)
  have Y16 := Y15.row G15 gr (by decide)
  have V16 := V15.row G15 gr (by decide)
  have M16 := rG
  clear b15 O15 G15 X15 A15 S15 Q15 Y15 V15 rG gr x0 x1 x2 y0 y1 y2 y3 y4 y5 s0 s1 s2 q0 q1 q2 r0 r1 r2 r3 r4 r5 v0 v1 v2
  obtain ⟨x0, x1, x2⟩ := X16.tri
  obtain ⟨y0, y1, y2, y3, y4, y5⟩ := A16.six
  obtain ⟨s0, s1, s2⟩ := S16.tri
  obtain ⟨q0, q1, q2⟩ := Q16.tri
  obtain ⟨r0, r1, r2, r3, r4, r5⟩ := Y16.six
  obtain ⟨v0, v1, v2⟩ := V16.tri
  go_wp2_with fail
  refine (heldBox_1 nm un _ _ _ _ M16.sl.2 HG.out.2).mono ?_
  rintro e w17 ⟨rfl, b'⟩
  have b17 := bel_next b16 b'
  have O17 := O16.below b'
  have M17 := M16.below b'
  have X17 := X16.below b'
  have A17 := A16.below b'
  have S17 := S16.below b'
  have Q17 := Q16.below b'
  have Y17 := Y16.below b'
  have V17 := V16.below b'
  clear b16 O16 M16 X16 A16 S16 Q16 Y16 V16 x0 x1 x2 y0 y1 y2 y3 y4 y5 s0 s1 s2 q0 q1 q2 r0 r1 r2 r3 r4 r5 v0 v1 v2 b'
  obtain ⟨x0, x1, x2⟩ := X17.tri
  obtain ⟨y0, y1, y2, y3, y4, y5⟩ := A17.six
  obtain ⟨s0, s1, s2⟩ := S17.tri
  obtain ⟨q0, q1, q2⟩ := Q17.tri
  obtain ⟨r0, r1, r2, r3, r4, r5⟩ := Y17.six
  obtain ⟨v0, v1, v2⟩ := V17.tri
  have f2 : ¬ ((ng : Int) + 1 < 0) := by omega
  go_upto_region 31 with fail
  try go_simp
  refine wp_region_any (by kernel_rfl) ?_
  refine wpAny_te 6 5 13 (fun _ => false) (fun u => Below w17.heap.size w17 u) (fun b u => Blk u b 31 (bxc 0 0 none 0 0) ∧ w17.heap.size ≤ b) (fun v u => ∃ b9 ao co no, v = .pointer (some ⟨b9, 0, none⟩) ∧ w17.heap.size ≤ b9 ∧ Blk u b9 31 (bxc nm un ao no co) ∧ no = R.length ∧ Own u w17.heap.size (.slice ao no co) R ∧ Below w17.heap.size w17 u) (fun i v ob u => match i with
      | 0 => v = .agg (bxc nm un a l c)
      | 1 => ∃ g, v = .agg (bxc nm un (some ⟨g, 0, none⟩) l l) ∧ Sl u (some ⟨g, 0, none⟩) zs
      | 2 => v = .agg #[.int .i64 kd, .int .i64 fl, .int .i64 pl, .int .i64 nn, .slice a1 l1 c1, .slice a2 l2 c2]
      | 3 => ∃ g1 g2, v = rp kd fl pl nn (some ⟨g1, 0, none⟩) (some ⟨g2, 0, none⟩) l1 l2 l1 l2 ∧ SlI u (some ⟨g1, 0, none⟩) ws ∧ SlB u (some ⟨g2, 0, none⟩) bs
      | 4 => ∃ ao co no, v = .agg (bxc nm un ao no co) ∧ no = R.length ∧ Own u w17.heap.size (.slice ao no co) R
      | _ => True) (fun _ _ => True) (by kernel_rfl) (by kernel_rfl) (by decide) (by kernel_rfl) (by decide) rfl rfl rfl (fun u u' h hb => bel_next h hb) (fun b u u' h hb => ⟨h.1.below hb, h.2⟩) ?_ ?_ (fun _ _ _ _ _ => trivial) (by first | exact Below.refl _ _ | exact (Below.refl _ _).drew) ?_ ?_ ?_ ?_ ?_ _ _ rfl (by decide) (fun i => by simp [Array.getD]; try (split <;> rfl))
  · intro i v ob u u' h hb
    match i, h with
    | 0, h => exact h
    | 1, ⟨g, e, r⟩ => exact ⟨g, e, r.below hb⟩
    | 2, h => exact h
    | 3, ⟨g1, g2, e, r, r9⟩ => exact ⟨g1, g2, e, r.below hb, r9.below hb⟩
    | 4, ⟨ao, co, no, e, h9, r⟩ => exact ⟨ao, co, no, e, h9, r.below hb⟩
    | _ + 5, _ => trivial
  · intro i v u u' b9 h hb9 hb
    match i, h with
    | 0, h => exact h
    | 1, ⟨g, e, r⟩ => exact ⟨g, e, r.below hb⟩
    | 2, h => exact h
    | 3, ⟨g1, g2, e, r, r9⟩ => exact ⟨g1, g2, e, r.below hb, r9.below hb⟩
    | 4, ⟨ao, co, no, e, h9, r⟩ => exact ⟨ao, co, no, e, h9, r.below hb⟩
    | _ + 5, _ => trivial
  rotate_left
  · intro u o ρ hR ho
    simp only [List.getElem?_toArray, List.getElem?_cons_zero, List.getElem?_cons_succ, Option.some.injEq] at ho
    subst ho
    exact ⟨rfl, _, run_alloc_b 31 rfl (bxc 0 0 none 0 0) 3 40 Try.infoB31, ⟨Blk.new _ _ _, hR.size⟩, by simp, bel_alloc _ _⟩
  · intro u i o ρ ob hfl hiA hiS hR hbo ho hρ hc hf hd
    have hi : i < 7 := by
      have := (Array.getElem?_eq_some_iff.1 ho).1
      simpa using this
    have hi2 : i < 5 := by omega
    obtain rfl | rfl | rfl | rfl | rfl : i = 0 ∨ i = 1 ∨ i = 2 ∨ i = 3 ∨ i = 4 := by omega
    all_goals (simp only [List.getElem?_toArray, List.getElem?_cons_zero, List.getElem?_cons_succ, Option.some.injEq] at ho; subst ho)
    · have s0 : ρ (.tmp 2) = .pointer (some ⟨BX, 0, none⟩) := (hρ 2 (by kernel_rfl)).trans rfl
      exact .inl ⟨rfl, .inl ⟨_, u, run_load_op rfl s0 (run_loadAt_mid u BX 0 24 [.int .i64 nm, .int .i64 un, .slice a l c] _ (Blk.all (vs := [.int .i64 nm, .int .i64 un, .slice a l c]) (X17.below hR)) Try.underlying24 rfl (by kernel_rfl)), rfl, Below.refl _ _⟩⟩
    · have h0 : ρ (.tmp 75) = .agg (bxc nm un a l c) := hd ⟨0, .data⟩ (by simp) rfl (by decide) rfl 75 rfl
      refine .inl ⟨rfl, .inr ⟨_, _, run_call_op rfl (hf _) (args := #[.agg (bxc nm un a l c)]) (by simp [h0]) (by kernel_rfl), ?_⟩⟩
      refine (toBox_any nm un a l c zs _ H1.out.2.2 (HS.out.2.2.below (bel_next b17 hR)) HL.out.2.2.2.2.2.1).mono ?_
      rintro e u' ⟨g, he, o1, b'⟩
      exact ⟨_, he, ⟨g, rfl, o1.sl.2⟩, b'⟩
    · have s0 : ρ (.tmp 3) = .pointer (some ⟨BA, 0, none⟩) := (hρ 3 (by kernel_rfl)).trans rfl
      exact .inl ⟨rfl, .inl ⟨_, u, run_load_op rfl s0 (run_loadAt_mid u BA 0 28 [.int .i64 kd, .int .i64 fl, .int .i64 pl, .int .i64 nn, .slice a1 l1 c1, .slice a2 l2 c2] _ (Blk.all (vs := [.int .i64 kd, .int .i64 fl, .int .i64 pl, .int .i64 nn, .slice a1 l1 c1, .slice a2 l2 c2]) (A17.below hR)) Try.underlying28 rfl (by kernel_rfl)), rfl, Below.refl _ _⟩⟩
    · have h0 : ρ (.tmp 77) = .agg #[.int .i64 kd, .int .i64 fl, .int .i64 pl, .int .i64 nn, .slice a1 l1 c1, .slice a2 l2 c2] := hd ⟨2, .data⟩ (by simp) rfl (by decide) rfl 77 rfl
      refine .inl ⟨rfl, .inr ⟨_, _, run_call_op rfl (hf _) (args := #[.agg #[.int .i64 kd, .int .i64 fl, .int .i64 pl, .int .i64 nn, .slice a1 l1 c1, .slice a2 l2 c2]]) (by simp [h0]) (by kernel_rfl), ?_⟩⟩
      refine (toResp_any kd fl pl nn a1 a2 l1 l2 c1 c2 ws bs _ H1.out.1 H1.out.2.1 (HS.out.1.below (bel_next b17 hR)) (HS.out.2.1.below (bel_next b17 hR)) HL.out.1 HL.out.2.1).mono ?_
      rintro e u' ⟨g1, g2, he, o1, o2, b'⟩
      exact ⟨_, he, ⟨g1, g2, rfl, o1.sl.2, o2.sl.2⟩, b'⟩
    · obtain ⟨g, h1, r1⟩ : ∃ g, ρ (.tmp 76) = .agg (bxc nm un (some ⟨g, 0, none⟩) l l) ∧ Sl u (some ⟨g, 0, none⟩) zs := hd ⟨1, .data⟩ (by simp) rfl (by decide) rfl 76 rfl
      obtain ⟨g1, g2, h3, r3, r4⟩ : ∃ g1 g2, ρ (.tmp 78) = rp kd fl pl nn (some ⟨g1, 0, none⟩) (some ⟨g2, 0, none⟩) l1 l2 l1 l2 ∧ SlI u (some ⟨g1, 0, none⟩) ws ∧ SlB u (some ⟨g2, 0, none⟩) bs := hd ⟨3, .data⟩ (by simp) rfl (by decide) rfl 78 rfl
      refine .inl ⟨rfl, .inr ⟨_, _, run_call_op rfl (hf _) (args := #[.agg (bxc nm un (some ⟨g, 0, none⟩) l l), rp kd fl pl nn (some ⟨g1, 0, none⟩) (some ⟨g2, 0, none⟩) l1 l2 l1 l2]) (by simp [h1, h3]) (by kernel_rfl), ?_⟩⟩
      refine (implBoxTell_q nm un (some ⟨g, 0, none⟩) l l kd fl pl nn (some ⟨g1, 0, none⟩) (some ⟨g2, 0, none⟩) l1 l2 l1 l2 ws bs _ H1.out.1 H1.out.2.1 r3 r4 HL.out.2.2.1 HL.out.2.2.2.1 R HR.out.1).mono ?_
      rintro e u' ⟨ao, co, no, he, hn, o1, b'⟩
      exact ⟨_, he, ⟨ao, co, no, rfl, hn, own_mono o1 hR.size⟩, b'⟩
  · intro u i o ρ hfl
    cases hfl
  · intro u o ρ b9 hR ho hρ hc hdA hbx hv
    simp only [List.getElem?_toArray, List.getElem?_cons_zero, List.getElem?_cons_succ, Option.some.injEq] at ho
    subst ho
    obtain ⟨ao, co, no, h9, hn, r9⟩ : ∃ ao co no, ρ (.tmp 79) = .agg (bxc nm un ao no co) ∧ no = R.length ∧ Own u w17.heap.size (.slice ao no co) R := hv 4 79 (by decide) rfl rfl
    exact ⟨rfl, setL u b9 0 [.int .i64 nm, .int .i64 un, .slice ao no co], run_store_op rfl hdA h9 ((run_storeAt_mid u b9 0 31 (bxc nm un ao no co) (hbx.1.there 0 3 (by simp)) (by kernel_rfl) (by simp [Value.oneCell'])).trans (by rw [setCells_L])), b9, ao, co, no, rfl, hbx.2, Blk.wrb hbx.1 (by simp [wrA]), hn, row_setLb r9 ⟨_, hbx.1⟩ (by decide), setL_below hbx.2 _ _ _ hR⟩
  intro vs σ w18 hE hΨ hvs
  obtain ⟨gH, aogH, cogH, nogH, e1, q1', kP, hn, oP, bP⟩ := hE
  have f9 : vs 5 = .pointer (some ⟨gH, 0, none⟩) := (hvs 5 13 rfl).trans e1
  simp only [putsL]
  rw [f9]
  clear f9 e1 hΨ hvs
  have HBgH : Hid (w.heap.size ≤ w17.heap.size ∧ w17.heap.size ≤ gH ∧ nogH = R.length ∧ nogH ≤ 3000000) := ⟨b17.size, q1', hn, by have := HR.out; omega⟩
  have b' := bP
  clear q1' hn bP
  have b18 := bel_next b17 b'
  have O18 := O17.below b'
  have M18 := M17.below b'
  have X18 := X17.below b'
  have A18 := A17.below b'
  have S18 := S17.below b'
  have Q18 := Q17.below b'
  have Y18 := Y17.below b'
  have V18 := V17.below b'
  clear b17 O17 M17 X17 A17 S17 Q17 Y17 V17 x0 x1 x2 y0 y1 y2 y3 y4 y5 s0 s1 s2 q0 q1 q2 r0 r1 r2 r3 r4 r5 v0 v1 v2 b'
  obtain ⟨x0, x1, x2⟩ := X18.tri
  obtain ⟨y0, y1, y2, y3, y4, y5⟩ := A18.six
  obtain ⟨s0, s1, s2⟩ := S18.tri
  obtain ⟨q0, q1, q2⟩ := Q18.tri
  obtain ⟨r0, r1, r2, r3, r4, r5⟩ := Y18.six
  obtain ⟨v0, v1, v2⟩ := V18.tri
  have T18 := kP
  have Z18 := own_mono oP HBgH.out.1
  clear kP oP
  obtain ⟨t0, t1, t2⟩ := T18.tri
  go_wp2_with fail
  refine (eqBox_true nm un _ _ _ _ _ _ R _ HBgH.out.2.2.1 HBgS.out.2.2.1 Z18.sl.2 O18.sl.2 (by have := HR.out; omega)).mono ?_
  rintro e w19 ⟨rfl, b'⟩
  have b19 := bel_next b18 b'
  have O19 := O18.below b'
  have M19 := M18.below b'
  have Z19 := Z18.below b'
  have X19 := X18.below b'
  have A19 := A18.below b'
  have S19 := S18.below b'
  have Q19 := Q18.below b'
  have Y19 := Y18.below b'
  have V19 := V18.below b'
  have T19 := T18.below b'
  clear b18 O18 M18 Z18 X18 A18 S18 Q18 Y18 V18 T18 x0 x1 x2 y0 y1 y2 y3 y4 y5 s0 s1 s2 q0 q1 q2 r0 r1 r2 r3 r4 r5 v0 v1 v2 t0 t1 t2 b'
  obtain ⟨x0, x1, x2⟩ := X19.tri
  obtain ⟨y0, y1, y2, y3, y4, y5⟩ := A19.six
  obtain ⟨s0, s1, s2⟩ := S19.tri
  obtain ⟨q0, q1, q2⟩ := Q19.tri
  obtain ⟨r0, r1, r2, r3, r4, r5⟩ := Y19.six
  obtain ⟨v0, v1, v2⟩ := V19.tri
  obtain ⟨t0, t1, t2⟩ := T19.tri
  go_wp2_with fail
  refine (heldBox_1 nm un _ _ _ _ M19.sl.2 HG.out.2).mono ?_
  rintro e w20 ⟨rfl, b'⟩
  have b20 := bel_next b19 b'
  have O20 := O19.below b'
  have M20 := M19.below b'
  have Z20 := Z19.below b'
  have X20 := X19.below b'
  have A20 := A19.below b'
  have S20 := S19.below b'
  have Q20 := Q19.below b'
  have Y20 := Y19.below b'
  have V20 := V19.below b'
  have T20 := T19.below b'
  clear b19 O19 M19 Z19 X19 A19 S19 Q19 Y19 V19 T19 x0 x1 x2 y0 y1 y2 y3 y4 y5 s0 s1 s2 q0 q1 q2 r0 r1 r2 r3 r4 r5 v0 v1 v2 t0 t1 t2 b'
  obtain ⟨x0, x1, x2⟩ := X20.tri
  obtain ⟨y0, y1, y2, y3, y4, y5⟩ := A20.six
  obtain ⟨s0, s1, s2⟩ := S20.tri
  obtain ⟨q0, q1, q2⟩ := Q20.tri
  obtain ⟨r0, r1, r2, r3, r4, r5⟩ := Y20.six
  obtain ⟨v0, v1, v2⟩ := V20.tri
  obtain ⟨t0, t1, t2⟩ := T20.tri
  go_wp2
  go_ret
  exact ⟨rfl, b20⟩
set_option maxRecDepth 20000 in
set_option maxHeartbeats 8000000 in
theorem boxTell_over (nm un : Int) (a : Option Addr) (l c : Nat) (kd fl pl nn : Int) (a1 a2 : Option Addr) (l1 l2 c1 c2 : Nat) (w : World) (m0 : l ≤ maxLen) (m1 : l1 ≤ maxLen) (m2 : l2 ≤ maxLen) (hl : ¬ l + (l1 + l2) ≤ 1048576) :
    Calls Try.prog 3 #[.agg (bxc nm un a l c), .agg #[.int .i64 kd, .int .i64 fl, .int .i64 pl, .int .i64 nn, .slice a1 l1 c1, .slice a2 l2 c2]] w fun e w' => e = .returned (.bool true) ∧ Below w.heap.size w w' := by
  obtain ⟨BX, hBX⟩ : ∃ B, B = w.heap.size := ⟨_, rfl⟩
  obtain ⟨BA, hBA⟩ : ∃ B, B = w.heap.size + 1 := ⟨_, rfl⟩
  obtain ⟨W, hW⟩ : ∃ W, W = (w.alloc (.cells (bxc nm un a l c) 24)).alloc (.cells #[.int .i64 kd, .int .i64 fl, .int .i64 pl, .int .i64 nn, .slice a1 l1 c1, .slice a2 l2 c2] 28) := ⟨_, rfl⟩
  have b0 : Below w.heap.size w W := by rw [hW]; exact bel_next (bel_alloc w _) (bel_alloc _ _)
  have X0 : Blk W BX 24 (bxc nm un a l c) := by rw [hW, hBX]; exact (Blk.new w _ _).below (bel_alloc _ _)
  have A0 : Blk W BA 28 #[.int .i64 kd, .int .i64 fl, .int .i64 pl, .int .i64 nn, .slice a1 l1 c1, .slice a2 l2 c2] := by
    rw [hW, hBA]; have := Blk.new (w.alloc (.cells (bxc nm un a l c) 24)) #[.int .i64 kd, .int .i64 fl, .int .i64 pl, .int .i64 nn, .slice a1 l1 c1, .slice a2 l2 c2] 28; simpa using this
  by_cases h0 : l ≤ 1048576
  · have f0 : ¬ (1048576 - (l : Int) < 0) := by omega
    go_enter Try.func3, Try.ntmps3
    go_upto_region 1 with fail
    rw [← hW, ← hBA, ← hBX]
    clear hW hBX hBA
    obtain ⟨x0, x1, x2⟩ := X0.tri
    go_wp2_with fail
    refine (szBox_fits nm un a l c _ h0).mono ?_
    rintro e w1 ⟨rfl, b'⟩
    have b1 := bel_next b0 b'
    have A1 := A0.below b'
    clear x0 x1 x2 b0 A0 X0 b'
    obtain ⟨y0, y1, y2, y3, y4, y5⟩ := A1.six
    go_wp2_with fail
    refine (szResp_over kd fl pl nn a1 a2 l1 l2 c1 c2 (1048576 - (l : Int)) _ (by omega) (by omega) m1 m2 (by omega)).mono ?_
    rintro e w2 ⟨rfl, b'⟩
    have b2 := bel_next b1 b'
    clear b' A1 y0 y1 y2 y3 y4 y5 b1
    go_wp2
    go_ret
    exact ⟨rfl, b2⟩
  · go_enter Try.func3, Try.ntmps3
    go_upto_region 1 with fail
    rw [← hW, ← hBA, ← hBX]
    clear hW hBX hBA
    obtain ⟨x0, x1, x2⟩ := X0.tri
    go_wp2_with fail
    refine (szBox_big nm un a l c _ m0 h0).mono ?_
    rintro e w1 ⟨rfl, b'⟩
    have b1 := bel_next b0 b'
    clear x0 x1 x2 b0 A0 X0 b'
    go_wp2
    go_ret
    exact ⟨rfl, b1⟩
end Go.Proofs.Ytohikbpolofklaa
