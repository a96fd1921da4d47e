/- Texts that the proof needs, joined: HearL ArgP. -/
import Derived.Test.YtmhdneenjoelfaaGreatV16
import Derived.Test.YtmhdneenjoelfaaGreatV2
import Derived.Test.YtmhdneenjoelfaaGreatV1
namespace Go.Proofs.YtmhdneenjoelfaaGreat
open Go.RowKit Go.Joins
set_option linter.unusedVariables false
set_option linter.unusedSimpArgs false
theorem lf_fits9 {n l1 l2 : Nat} {f : Nat → Ca} (h : n + tl f n + l1 + l2 ≤ 1048576) : lfL n f l1 l2 = ((1048576 - (n + tl f n + l1 + l2) : Nat) : Int) := by unfold lfL; rw [if_pos h]
def HearQ (w w' : World) (e : Ending) (n : Nat) (f : Nat → Ca) (L' : La) (j1 j2 N1 : Nat) (D1 : Dn) : Prop :=
  ∃ a cp a1 a2 c1 c2 hi v1 w1, e = .returned (.tuple #[.agg (lac L' a n cp a1 a2 j1 j2 c1 c2), .slice v1 N1 w1]) ∧ w.heap.size ≤ hi ∧ hi ≤ w'.heap.size ∧ LnPB w' w.heap.size hi n f L' a cp a1 a2 j1 j2 c1 c2 ∧ TopL w' hi w'.heap.size 43 8 (.slice v1 N1 w1) N1 (fun _ => dnE D1) ∧ Below w.heap.size w w'
theorem hrL_len (b : Bool) (L : La) : (hrL b L).c.ws.length ≤ L.c.ws.length ∧ (hrL b L).c.bs.length ≤ L.c.bs.length := by
  cases b <;> simp [hrL, freeL, ca0]
set_option maxRecDepth 40000 in
set_option maxHeartbeats 4000000 in
theorem lineHear_law (L : La) (a a1 a2 : Option Addr) (n cp l1 l2 c1 c2 : Nat) (f : Nat → Ca) (nu un kd fl pl nn : Int) (q1 q2 : Option Addr) (m1 m2 k1 k2 : Nat) (ws : List Int) (bs : List Bool) (w : World) (hin : InLn w n f L a a1 a2 l1 l2) (e1 : m1 = ws.length) (e2 : m2 = bs.length) (s1 : SlI w q1 ws) (s2 : SlB w q2 bs) (hfit : n + tl f n + l1 + l2 + (m1 + m2) ≤ 1048576) :
    Calls Tryz.prog 5 #[.agg (lac L a n cp a1 a2 l1 l2 c1 c2), .int .i64 nu, .int .i64 un, .agg (rpL kd fl pl nn q1 q2 m1 m2 k1 k2)] w fun e w' => e = .returned (.bool true) ∧ Below w.heap.size w w' := by
  obtain ⟨hs, hmx, hmk, hmx1, hmx2⟩ := hin
  obtain ⟨b, hbE⟩ : ∃ b, b = hrB n f L l1 l2 nu un kd fl pl nn m1 m2 ws bs := ⟨_, rfl⟩
  obtain ⟨L', hL'⟩ : ∃ L', L' = hrL b L := ⟨_, rfl⟩
  obtain ⟨j1, hj1⟩ : ∃ j1, j1 = L'.c.ws.length := ⟨_, rfl⟩
  obtain ⟨j2, hj2⟩ : ∃ j2, j2 = L'.c.bs.length := ⟨_, rfl⟩
  obtain ⟨N1, hN1⟩ : ∃ N1, N1 = hrN b := ⟨_, rfl⟩
  obtain ⟨D1, hD1⟩ : ∃ D1, D1 = hrD L kd fl pl nn ws bs := ⟨_, rfl⟩
  have hl1 : l1 ≤ 2000000 := by omega
  have hl2 : l2 ≤ 2000000 := by omega
  have hm1 : m1 ≤ 2000000 := by omega
  have hm2 : m2 ≤ 2000000 := by omega
  have hN : N1 ≤ 1 := by rw [hN1]; unfold hrN; split <;> omega
  have hjl := hrL_len b L
  rw [← hL', ← hj1, ← hj2, ← hs.1, ← hs.2.1] at hjl
  have hbd : BdC n f := ⟨by omega, fun k hk => by have := tl_at f hk; omega⟩
  have HSP : Hid (∀ (u : World) (aa : Option Addr) (ap : Nat) (b1 b2 : Option Addr) (y1 y2 : Nat) (x1 x2 : Option Addr) (d1 d2 : Nat), LnR u n f L aa b1 b2 l1 l2 → SlI u x1 ws → SlB u x2 bs → m2 ≤ d2 → Calls Tryz.prog 26 #[.agg (lac L aa n ap b1 b2 l1 l2 y1 y2), .int .i64 nu, .int .i64 un, .agg (rpL kd fl pl nn x1 x2 m1 m2 d1 d2)] u fun e u' => HearQ u u' e n f L' j1 j2 N1 D1) := fun u aa ap b1 b2 y1 y2 x1 x2 d1 d2 h1 h2 h3 h4 => by
    have h9 := specHear_any L aa b1 b2 n ap l1 l2 y1 y2 f nu un kd fl pl nn x1 x2 m1 m2 d1 d2 ws bs u h1 hbd hl1 hl2 e1 e2 h2 h3 hm1 hm2
    rw [← hbE, ← hL', ← hD1] at h9
    rw [hN1, hj1, hj2]; exact h9
  have HIP : Hid (∀ (u : World) (aa : Option Addr) (ap : Nat) (b1 b2 : Option Addr) (y1 y2 : Nat) (x1 x2 : Option Addr) (d1 d2 : Nat), LnR u n f L aa b1 b2 l1 l2 → SlI u x1 ws → SlB u x2 bs → m2 ≤ d2 → Calls Tryz.prog 10 #[.agg (lac L aa n ap b1 b2 l1 l2 y1 y2), .int .i64 nu, .int .i64 un, .agg (rpL kd fl pl nn x1 x2 m1 m2 d1 d2)] u fun e u' => HearQ u u' e n f L' j1 j2 N1 D1) := fun u aa ap b1 b2 y1 y2 x1 x2 d1 d2 h1 h2 h3 h4 => by
    have h9 := implHear_any L aa b1 b2 n ap l1 l2 y1 y2 f nu un kd fl pl nn x1 x2 m1 m2 d1 d2 ws bs u h1 hbd hl1 hl2 e1 e2 h2 h3 hm1 hm2 h4
    rw [← hbE, ← hL', ← hD1] at h9
    rw [hN1, hj1, hj2]; exact h9
  have hsm : SmL n f l1 l2 := by unfold SmL; rw [tlCa_eq]; omega
  have hsm' : SmL n f j1 j2 := by unfold SmL; rw [tlCa_eq]; omega
  have hDw : D1.ws.length = m1 ∧ D1.bs.length = m2 := by rw [hD1]; exact ⟨e1.symm, e2.symm⟩
  have htl : tlDn (fun _ => D1) N1 ≤ m1 + m2 := by
    obtain h9 | h9 : N1 = 0 ∨ N1 = 1 := by omega
    · rw [h9]; simp [tlDn]
    · rw [h9]; simp only [tlDn]; omega
  have hbD : BdDn N1 (fun _ => D1) := ⟨by omega, fun _ _ => ⟨by show D1.ws.length ≤ 2000000; omega, by show D1.bs.length ≤ 2000000; omega⟩⟩
  have hsD : SmDn N1 (fun _ => D1) := by unfold SmDn; omega
  obtain ⟨lf, hlf⟩ : ∃ lf : Nat, lf = 1048576 - (n + tl f n + l1 + l2) := ⟨_, rfl⟩
  have hlg0 : ¬ (lf : Int) - (m1 : Int) - (m2 : Int) < 0 := by omega
  have hlf0 : ¬ (lf : Int) < 0 := by omega
  obtain ⟨K1, hK1⟩ : ∃ K1 : Nat, K1 = msCa 1 f n + l1 + l2 := ⟨_, rfl⟩
  obtain ⟨K2, hK2⟩ : ∃ K2 : Nat, K2 = K1 + m1 + m2 := ⟨_, rfl⟩
  obtain ⟨K3, hK3⟩ : ∃ K3 : Nat, K3 = msCa 1 f n + j1 + j2 := ⟨_, rfl⟩
  obtain ⟨K4, hK4⟩ : ∃ K4 : Nat, K4 = msDn K3 (fun _ => D1) N1 := ⟨_, rfl⟩
  have HH : Hid (LnR w n f L a a1 a2 l1 l2 ∧ BdC n f ∧ BdDn N1 (fun _ => D1) ∧ SmL n f j1 j2 ∧ SmL n f l1 l2 ∧ n ≤ maxLen ∧ (∀ k, k < n → (f k).ws.length ≤ maxLen ∧ (f k).bs.length ≤ maxLen) ∧ l1 ≤ maxLen ∧ l2 ≤ maxLen ∧ lfL n f l1 l2 = (lf : Int) ∧ (m1 : Int) + (m2 : Int) ≤ (lf : Int) ∧ (lf : Int) ≤ 1048576 ∧ SmDn N1 (fun _ => D1) ∧ K3 + 6 * N1 + tlDn (fun _ => D1) N1 ≤ 8999000 ∧ j1 ≤ 2000000 ∧ j2 ≤ 2000000) := ⟨hs, hbd, hbD, hsm', hsm, hmx, hmk, hmx1, hmx2, by rw [hlf]; exact lf_fits9 (by omega), by omega, by omega, hsD, by rw [hK3, msCa_eq, tlCa_eq]; omega, by omega, by omega⟩
  have HC : Hid (m1 = ws.length ∧ m2 = bs.length ∧ SlI w q1 ws ∧ SlB w q2 bs) := ⟨e1, e2, s1, s2⟩
  have HK : Hid (K1 = msCa 1 f n + l1 + l2 ∧ K2 = K1 + m1 + m2 ∧ K3 = msCa 1 f n + j1 + j2 ∧ K1 + m1 ≤ 9000000 ∧ m1 ≤ 1048600 ∧ m2 ≤ 1048600 ∧ K4 = msDn K3 (fun _ => D1) N1) := ⟨hK1, hK2, hK3, by rw [hK1, msCa_eq, tlCa_eq]; omega, by omega, by omega, hK4⟩
  obtain ⟨B, hB⟩ : ∃ B, B = w.heap.size := ⟨_, rfl⟩
  obtain ⟨W, hW⟩ : ∃ W, W = (w.alloc (.cells (lac L a n cp a1 a2 l1 l2 c1 c2) 53)).alloc (.cells (rpL kd fl pl nn q1 q2 m1 m2 k1 k2) 63) := ⟨_, rfl⟩
  have H0 : Hid (Blk W B 53 (lac L a n cp a1 a2 l1 l2 c1 c2) ∧ Blk W (B + 1) 63 (rpL kd fl pl nn q1 q2 m1 m2 k1 k2) ∧ Below w.heap.size w W) := by
    have bW : Below w.heap.size w W := by rw [hW]; exact bel_nx (bel_alloc w _) (bel_alloc _ _)
    refine ⟨by rw [hW, hB]; exact (Blk.new w _ _).below (bel_alloc _ _), ?_, bW⟩
    rw [hW, hB]; have := Blk.new (w.alloc (.cells (lac L a n cp a1 a2 l1 l2 c1 c2) 53)) (rpL kd fl pl nn q1 q2 m1 m2 k1 k2) 63; simpa using this
  clear hs hmx hmk hmx1 hmx2 hbE hL' hj1 hj2 hN1 hD1 hN hjl hbd hsm hsm' hDw htl hbD hsD e1 e2 s1 s2 hfit hlf hK1 hK2 hK3 hK4
  go_enter Tryz.func5, Tryz.ntmps5
  go_upto_region 1 with fail
  have hB1 : w.heap.size + 1 = B + 1 := by omega
  rw [← hW, hB1, ← hB]
  clear hW hB hB1
  go_upto_region 2 with fail
  try go_simp
  refine wp_region_lit ?_
  refine wpList_load_mid rfl 53 (.tmp 4) rfl B 0 rfl (lacL L a n cp a1 a2 l1 l2 c1 c2) _ (H0.out.1).all Tryz.underlying53 rfl (by kernel_rfl) ?_
  go_wp2_with fail
  refine (szLine_any L a a1 a2 n cp l1 l2 c1 c2 f _ (HH.out.1.below H0.out.2.2) HH.out.2.2.2.2.2.1 HH.out.2.2.2.2.2.2.1 HH.out.2.2.2.2.2.2.2.1 HH.out.2.2.2.2.2.2.2.2.1).mono ?_
  rintro e w1 ⟨rfl, b1⟩
  rw [HH.out.2.2.2.2.2.2.2.2.2.1]
  have H1 : Hid (Blk w1 B 53 (lac L a n cp a1 a2 l1 l2 c1 c2) ∧ Blk w1 (B + 1) 63 (rpL kd fl pl nn q1 q2 m1 m2 k1 k2) ∧ Below w.heap.size w w1) := ⟨H0.out.1.below b1, H0.out.2.1.below b1, bel_nx H0.out.2.2 b1⟩
  clear b1 H0
  go_upto_region 5 with fail
  try go_simp
  refine wp_region_lit ?_
  refine wpList_load_mid rfl 63 (.tmp 7) rfl (B + 1) 0 rfl (rpLL kd fl pl nn q1 q2 m1 m2 k1 k2) _ (H1.out.2.1).all Tryz.underlying63 rfl (by kernel_rfl) ?_
  go_wp2_with fail
  refine (szResp_at kd fl pl nn q1 q2 m1 m2 k1 k2 (lf : Int) _ HH.out.2.2.2.2.2.2.2.2.2.2.2.1 HH.out.2.2.2.2.2.2.2.2.2.2.1).mono ?_
  rintro e w8 ⟨rfl, b2⟩
  have H8 : Hid (Blk w8 B 53 (lac L a n cp a1 a2 l1 l2 c1 c2) ∧ Blk w8 (B + 1) 63 (rpL kd fl pl nn q1 q2 m1 m2 k1 k2) ∧ Below w.heap.size w w8) := ⟨H1.out.1.below b2, H1.out.2.1.below b2, bel_nx H1.out.2.2 b2⟩
  clear b2 H1
  go_upto_region 8 with fail
  try go_simp
  refine wp_region_any (by kernel_rfl) ?_
  refine wpAny_valy (RgQ w8 10 11 10 (StL w8.heap.size n f L' j1 j2)) (MgP w8.heap.size) (fun i v u => match i with
    | 0 => v = .agg (lac L a n cp a1 a2 l1 l2 c1 c2)
    | 1 => ∃ aa ap b1 b2 y1 y2, v = .agg (lac L aa n ap b1 b2 l1 l2 y1 y2) ∧ LnP u w8.heap.size n f L aa ap b1 b2 l1 l2 y1 y2
    | 2 => v = .int .i64 nu
    | 3 => v = .int .i64 un
    | 4 => v = .agg (rpL kd fl pl nn q1 q2 m1 m2 k1 k2)
    | 5 => ∃ b1 b2 y1 y2, v = .agg (rpL kd fl pl nn b1 b2 m1 m2 y1 y2) ∧ OwnI u w8.heap.size (.slice b1 m1 y1) ws ∧ OwnB u w8.heap.size (.slice b2 m2 y2) bs
    | 6 => ∃ aa ap b1 b2 y1 y2 v1 w1, v = .tuple #[.agg (lac L' aa n ap b1 b2 j1 j2 y1 y2), .slice v1 N1 w1] ∧ LnP u w8.heap.size n f L' aa ap b1 b2 j1 j2 y1 y2 ∧ TopL u w8.heap.size u.heap.size 43 8 (.slice v1 N1 w1) N1 (fun _ => dnE D1)
    | 7 => ∃ aa ap b1 b2 y1 y2 v1 w1, v = .tuple #[.agg (lac L' aa n ap b1 b2 j1 j2 y1 y2), .slice v1 N1 w1] ∧ LnP u w8.heap.size n f L' aa ap b1 b2 j1 j2 y1 y2 ∧ TopL u w8.heap.size u.heap.size 43 8 (.slice v1 N1 w1) N1 (fun _ => dnE D1)
    | 8 => ∃ aa ap b1 b2 y1 y2, v = .agg (lac L' aa n ap b1 b2 j1 j2 y1 y2) ∧ LnP u w8.heap.size n f L' aa ap b1 b2 j1 j2 y1 y2
    | 9 => ∃ vv wv, v = .slice vv N1 wv ∧ TopL u w8.heap.size u.heap.size 43 8 (.slice vv N1 wv) N1 (fun _ => dnE D1)
    | 12 => ∃ vv wv, v = .slice vv N1 wv ∧ TopL u w8.heap.size u.heap.size 43 8 (.slice vv N1 wv) N1 (fun _ => dnE D1)
    | _ => True) (by kernel_rfl) (by kernel_rfl) ?_ (fun u => .inl (Below.refl _ _)) ⟨by first | exact Below.refl _ _ | exact (Below.refl _ _).drew, fun h => by cases h⟩ ?_ ?_ _ _ rfl (by decide) (fun i => by simp [Array.getD]; try (split <;> rfl))
  · intro i v u u' h hm
    match i with
    | 0 => exact h
    | 1 =>
      obtain ⟨aa, ap, b1, b2, y1, y2, e, hl⟩ := h
      exact ⟨aa, ap, b1, b2, y1, y2, e, hm.ln hl⟩
    | 2 => exact h
    | 3 => exact h
    | 4 => exact h
    | 5 =>
      obtain ⟨b1, b2, y1, y2, e, h1, h2⟩ := h
      exact ⟨b1, b2, y1, y2, e, hm.i h1, hm.b h2⟩
    | 6 =>
      obtain ⟨aa, ap, b1, b2, y1, y2, v1, w1, e, hl, T1⟩ := h
      exact ⟨aa, ap, b1, b2, y1, y2, v1, w1, e, hm.ln hl, hm.top T1⟩
    | 7 =>
      obtain ⟨aa, ap, b1, b2, y1, y2, v1, w1, e, hl, T1⟩ := h
      exact ⟨aa, ap, b1, b2, y1, y2, v1, w1, e, hm.ln hl, hm.top T1⟩
    | 8 =>
      obtain ⟨aa, ap, b1, b2, y1, y2, e, hl⟩ := h
      exact ⟨aa, ap, b1, b2, y1, y2, e, hm.ln hl⟩
    | 9 =>
      obtain ⟨vv, wv, e, h1⟩ := h
      exact ⟨vv, wv, e, hm.top h1⟩
    | 10 => trivial
    | 11 => trivial
    | 12 =>
      obtain ⟨vv, wv, e, h1⟩ := h
      exact ⟨vv, wv, e, hm.top h1⟩
    | _ + 13 => trivial
  rotate_left
  · intro u i o ρ l hR ho hli hcl hρ hc hf hdep hv
    have hi : i < 13 := by
      have := (Array.getElem?_eq_some_iff.1 ho).1
      simpa using this
    obtain rfl | rfl | rfl | rfl | rfl | rfl | rfl | rfl | rfl | rfl | rfl | rfl | rfl : i = 0 ∨ i = 1 ∨ i = 2 ∨ i = 3 ∨ i = 4 ∨ i = 5 ∨ i = 6 ∨ i = 7 ∨ i = 8 ∨ i = 9 ∨ i = 10 ∨ i = 11 ∨ i = 12 := by omega
    all_goals (simp only [List.getElem?_toArray, List.getElem?_cons_zero, List.getElem?_cons_succ, Option.some.injEq] at ho; subst ho)
    · have s1 : ρ (.tmp 4) = .pointer (some ⟨B, 0, none⟩) := (hρ 4 (by kernel_rfl)).trans rfl
      exact .inl ⟨rfl, .inl ⟨_, u, run_load_op rfl s1 (run_loadAt_mid u B 0 53 (lacL L a n cp a1 a2 l1 l2 c1 c2) _ ((H8.out.1).below hR.1).all Tryz.underlying53 rfl (by kernel_rfl)), rfl, (hR.next (i := 0) (d := 32) (by decide) (by decide) (by decide) (Below.refl _ _) (fun _ h => h)), .inl (Below.refl _ _)⟩⟩
    · have h0 : ρ (.tmp 32) = .agg (lac L a n cp a1 a2 l1 l2 c1 c2) := hv 0 32 rfl (hdep ⟨0, .data⟩ (by simp) rfl)
      refine .inl ⟨rfl, .inr (.inl ⟨_, _, run_call_op rfl (hf _) (args := #[.agg (lac L a n cp a1 a2 l1 l2 c1 c2)]) (by simp [h0]) (by kernel_rfl), ?_⟩)⟩
      refine (toLine_any L a a1 a2 n cp l1 l2 c1 c2 f _ (HH.out.1.below (bel_nx (H8.out.2.2) hR.1)) HH.out.2.1 hl1 hl2).mono ?_
      rintro e u' ⟨x, x1, x2, he, P7, b'⟩
      exact ⟨_, he, ⟨_, _, _, _, _, _, rfl, P7.mono hR.1.size⟩, (hR.next (i := 1) (d := 33) (by decide) (by decide) (by decide) b' (fun _ h => h.below b')), .inl b'⟩
    · have s1 : ρ (.tmp 1) = .int .i64 nu := (hρ 1 (by kernel_rfl)).trans rfl
      exact .inl ⟨rfl, .inl ⟨_, u, rfl, s1, (hR.next (i := 2) (d := 34) (by decide) (by decide) (by decide) (Below.refl _ _) (fun _ h => h)), .inl (Below.refl _ _)⟩⟩
    · have s1 : ρ (.tmp 2) = .int .i64 un := (hρ 2 (by kernel_rfl)).trans rfl
      exact .inl ⟨rfl, .inl ⟨_, u, rfl, s1, (hR.next (i := 3) (d := 35) (by decide) (by decide) (by decide) (Below.refl _ _) (fun _ h => h)), .inl (Below.refl _ _)⟩⟩
    · have s1 : ρ (.tmp 7) = .pointer (some ⟨B + 1, 0, none⟩) := (hρ 7 (by kernel_rfl)).trans rfl
      exact .inl ⟨rfl, .inl ⟨_, u, run_load_op rfl s1 (run_loadAt_mid u (B + 1) 0 63 (rpLL kd fl pl nn q1 q2 m1 m2 k1 k2) _ ((H8.out.2.1).below hR.1).all Tryz.underlying63 rfl (by kernel_rfl)), rfl, (hR.next (i := 4) (d := 36) (by decide) (by decide) (by decide) (Below.refl _ _) (fun _ h => h)), .inl (Below.refl _ _)⟩⟩
    · have h0 : ρ (.tmp 36) = .agg (rpL kd fl pl nn q1 q2 m1 m2 k1 k2) := hv 4 36 rfl (hdep ⟨4, .data⟩ (by simp) rfl)
      refine .inl ⟨rfl, .inr (.inl ⟨_, _, run_call_op rfl (hf _) (args := #[.agg (rpL kd fl pl nn q1 q2 m1 m2 k1 k2)]) (by simp [h0]) (by kernel_rfl), ?_⟩)⟩
      refine (toResp_any kd fl pl nn q1 q2 m1 m2 k1 k2 ws bs _ HC.out.1 HC.out.2.1 (HC.out.2.2.1.below (bel_nx (H8.out.2.2) hR.1)) (HC.out.2.2.2.below (bel_nx (H8.out.2.2) hR.1)) hm1 hm2).mono ?_
      rintro e u' ⟨x1, x2, he, i1, i2, b'⟩
      exact ⟨_, he, ⟨_, _, _, _, rfl, OwnI.mono (show OwnI _ _ _ _ from i1) hR.1.size, OwnB.mono (show OwnB _ _ _ _ from i2) hR.1.size⟩, (hR.next (i := 5) (d := 37) (by decide) (by decide) (by decide) b' (fun _ h => h.below b')), .inl b'⟩
    · obtain ⟨aa, ap, b1, b2, y1, y2, h1, hl⟩ : ∃ aa ap b1 b2 y1 y2, ρ (.tmp 33) = .agg (lac L aa n ap b1 b2 l1 l2 y1 y2) ∧ LnP u w8.heap.size n f L aa ap b1 b2 l1 l2 y1 y2 := hv 1 33 rfl (hdep ⟨1, .data⟩ (by simp) rfl)
      have hinu : ρ (.tmp 34) = .int .i64 nu := hv 2 34 rfl (hdep ⟨2, .data⟩ (by simp) rfl)
      have hiun : ρ (.tmp 35) = .int .i64 un := hv 3 35 rfl (hdep ⟨3, .data⟩ (by simp) rfl)
      obtain ⟨z1, z2, e1, e2, h3, o1, o2⟩ : ∃ b1 b2 y1 y2, ρ (.tmp 37) = .agg (rpL kd fl pl nn b1 b2 m1 m2 y1 y2) ∧ OwnI u w8.heap.size (.slice b1 m1 y1) ws ∧ OwnB u w8.heap.size (.slice b2 m2 y2) bs := hv 5 37 rfl (hdep ⟨5, .data⟩ (by simp) rfl)
      refine .inl ⟨rfl, .inr (.inl ⟨_, _, run_call_op rfl (hf _) (args := #[.agg (lac L aa n ap b1 b2 l1 l2 y1 y2), .int .i64 nu, .int .i64 un, .agg (rpL kd fl pl nn z1 z2 m1 m2 e1 e2)]) (by simp [h1, hinu, hiun, h3]) (by kernel_rfl), ?_⟩)⟩
      refine (HSP.out u aa ap b1 b2 y1 y2 z1 z2 e1 e2 hl.rd o1.sl.2 o2.sl.2 (ownB_cap o2)).mono ?_
      rintro e u' ⟨x, xp, x1, x2, f1, f2, hi, v1, w1, he, g1, g2, lo, T1, b'⟩
      exact ⟨_, he, ⟨_, _, _, _, _, _, _, _, rfl, lo.p.mono hR.1.size, T1.mono (Nat.le_trans hR.1.size g1)⟩, (hR.next (i := 6) (d := 38) (by decide) (by decide) (by decide) b' (fun _ h => h.below b')), .inl b'⟩
    · obtain ⟨aa, ap, b1, b2, y1, y2, v1, w1, h1, hl, T1⟩ : ∃ aa ap b1 b2 y1 y2 v1 w1, ρ (.tmp 38) = .tuple #[.agg (lac L' aa n ap b1 b2 j1 j2 y1 y2), .slice v1 N1 w1] ∧ LnP u w8.heap.size n f L' aa ap b1 b2 j1 j2 y1 y2 ∧ TopL u w8.heap.size u.heap.size 43 8 (.slice v1 N1 w1) N1 (fun _ => dnE D1) := hv 6 38 rfl (hdep ⟨6, .data⟩ (by simp) rfl)
      exact .inl ⟨rfl, .inl ⟨_, u, rfl, ⟨aa, ap, b1, b2, y1, y2, v1, w1, h1, hl, T1⟩, (hR.next (i := 7) (d := 31) (by decide) (by decide) (by decide) (Below.refl _ _) (fun _ h => h)), .inl (Below.refl _ _)⟩⟩
    · obtain ⟨aa, ap, b1, b2, y1, y2, v1, w1, h1, hl, T1⟩ : ∃ aa ap b1 b2 y1 y2 v1 w1, ρ (.tmp 31) = .tuple #[.agg (lac L' aa n ap b1 b2 j1 j2 y1 y2), .slice v1 N1 w1] ∧ LnP u w8.heap.size n f L' aa ap b1 b2 j1 j2 y1 y2 ∧ TopL u w8.heap.size u.heap.size 43 8 (.slice v1 N1 w1) N1 (fun _ => dnE D1) := hv 7 31 rfl (hdep ⟨7, .data⟩ (by simp) rfl)
      exact .inl ⟨rfl, .inl ⟨_, u, run_ext_op rfl h1 rfl, ⟨aa, ap, b1, b2, y1, y2, rfl, hl⟩, (hR.next (i := 8) (d := 39) (by decide) (by decide) (by decide) (Below.refl _ _) (fun _ h => h)), .inl (Below.refl _ _)⟩⟩
    · obtain ⟨aa, ap, b1, b2, y1, y2, v1, w1, h1, hl, T1⟩ : ∃ aa ap b1 b2 y1 y2 v1 w1, ρ (.tmp 31) = .tuple #[.agg (lac L' aa n ap b1 b2 j1 j2 y1 y2), .slice v1 N1 w1] ∧ LnP u w8.heap.size n f L' aa ap b1 b2 j1 j2 y1 y2 ∧ TopL u w8.heap.size u.heap.size 43 8 (.slice v1 N1 w1) N1 (fun _ => dnE D1) := hv 7 31 rfl (hdep ⟨7, .data⟩ (by simp) rfl)
      exact .inl ⟨rfl, .inl ⟨_, u, run_ext_op rfl h1 rfl, ⟨_, _, rfl, T1⟩, (hR.next (i := 9) (d := 40) (by decide) (by decide) (by decide) (Below.refl _ _) (fun _ h => h)), .inl (Below.refl _ _)⟩⟩
    · have h9 : l 11 = false := by
        cases h : l 11 with
        | false => rfl
        | true =>
          have := hcl 11 _ rfl h ⟨10, .data⟩ (by simp) rfl
          rw [hli] at this; cases this
      exact .inl ⟨rfl, .inl ⟨_, _, run_alloc_op 32 rfl lzc 17 184 (by kernel_rfl), trivial, hR.made (by decide) h9, .inl (bel_alloc _ _)⟩⟩
    · obtain ⟨aa, ap, b1, b2, y1, y2, h1, hl⟩ : ∃ aa ap b1 b2 y1 y2, ρ (.tmp 39) = .agg (lac L' aa n ap b1 b2 j1 j2 y1 y2) ∧ LnP u w8.heap.size n f L' aa ap b1 b2 j1 j2 y1 y2 := hv 8 39 rfl (hdep ⟨8, .data⟩ (by simp) rfl)
      obtain ⟨g, q1', q2', q3', _⟩ := hR.2 (hdep ⟨10, .data⟩ (by simp) rfl)
      have hz := q3' hli
      have hr : (Instr.storeAt 32 (.pointer (some ⟨g, 0, none⟩)) (.agg (lac L' aa n ap b1 b2 j1 j2 y1 y2))).run Tryz.prog u = .ok () (setL u g 0 (lacL L' aa n ap b1 b2 j1 j2 y1 y2)) := by
        rw [run_storeAt_mid u g 0 32 (lac L' aa n ap b1 b2 j1 j2 y1 y2) (hz.there 0 17 (by simp)) (by kernel_rfl) (by simp [Value.oneCell']), setCells_L]
      have gg : u.grownBy (setL u g 0 (lacL L' aa n ap b1 b2 j1 j2 y1 y2)) (some g) := setL_gw _ _ _
      refine .inl ⟨rfl, .inr (.inr ⟨rfl, _, run_store_op rfl q1' h1 hr, ⟨setL_below q2' _ _ _ hR.1, fun _ => ⟨g, q1', q2', fun h => (by have h9 : updB l 11 11 = true := rfl; rw [h9] at h; cases h), fun _ => ⟨aa, ap, b1, b2, y1, y2, ?_, hl.keptT gg ⟨_, hz⟩ (by decide) (by decide) (by decide)⟩⟩⟩, .inr ⟨g, gg, ⟨_, hz⟩, q2'⟩⟩)⟩
      rw [show lac L' aa n ap b1 b2 j1 j2 y1 y2 = wrA lzc 0 (lacL L' aa n ap b1 b2 j1 j2 y1 y2) from (lwr0_17 _ _ _ _ _ _ _ _ _ _ _ _ _ _ _ _ _ _ _ _ _ _ _ _ _ _ _ _ _ _ _ _ _ _).symm]; exact Blk.stL _ _ hz
    · obtain ⟨vv, wv, h1, T1⟩ : ∃ vv wv, ρ (.tmp 40) = .slice vv N1 wv ∧ TopL u w8.heap.size u.heap.size 43 8 (.slice vv N1 wv) N1 (fun _ => dnE D1) := hv 9 40 rfl (hdep ⟨9, .data⟩ (by simp) rfl)
      exact .inl ⟨rfl, .inl ⟨_, u, rfl, ⟨vv, wv, h1, T1⟩, (hR.next (i := 12) (d := 11) (by decide) (by decide) (by decide) (Below.refl _ _) (fun _ h => h)), .inl (Below.refl _ _)⟩⟩
  intro vs σ u8 hR hσ hall
  obtain ⟨gu8, qs, qlo, _, qst⟩ := hR.2 rfl
  have e8 : vs 10 = .pointer (some ⟨gu8, 0, none⟩) := (hσ 10 10 rfl).trans qs
  obtain ⟨v61, w61, eS1, TS1⟩ := hall 12 11 rfl
  have HQu8 : Hid (StL w8.heap.size n f L' j1 j2 u8 gu8 ∧ Below w8.heap.size w8 u8 ∧ SlDn u8 v61 N1 (fun _ => D1)) := ⟨qst rfl, hR.1, TS1.sl⟩
  simp only [putsL]
  rw [e8, eS1]
  clear hall hσ e8 qs qlo qst hR eS1 TS1
  obtain ⟨⟨a6, cp6, r6, t6, c6, d6, X6, P6⟩, bu8, SL1⟩ := HQu8.out
  have H9 : Hid (Blk u8 B 53 (lac L a n cp a1 a2 l1 l2 c1 c2) ∧ Blk u8 (B + 1) 63 (rpL kd fl pl nn q1 q2 m1 m2 k1 k2) ∧ Below w.heap.size w u8) := ⟨H8.out.1.below bu8, H8.out.2.1.below bu8, bel_nx H8.out.2.2 bu8⟩
  have HS : Hid (Blk u8 gu8 32 (lac L' a6 n cp6 r6 t6 j1 j2 c6 d6) ∧ LnR u8 n f L' a6 r6 t6 j1 j2 ∧ SlDn u8 v61 N1 (fun _ => D1)) := ⟨X6, P6.rd, SL1⟩
  clear X6 P6 bu8 HQu8 H8 SL1
  go_upto_region 9 with fail
  try go_simp
  refine wp_region_lit ?_
  refine wpList_load_mid rfl 53 (.tmp 4) rfl B 0 rfl (lacL L a n cp a1 a2 l1 l2 c1 c2) _ (H9.out.1).all Tryz.underlying53 rfl (by kernel_rfl) ?_
  go_wp2_with fail
  refine (toLine_any L a a1 a2 n cp l1 l2 c1 c2 f _ (HH.out.1.below H9.out.2.2) HH.out.2.1 hl1 hl2).mono ?_
  rintro e w9 ⟨gx, gx1, gx2, rfl, P9, b9⟩
  obtain ⟨W9, hW9⟩ : ∃ W9, W9 = setL (w9.alloc (.cells lzc 32)) w9.heap.size 0 (lacL L (some ⟨gx, 0, none⟩) n n (some ⟨gx1, 0, none⟩) (some ⟨gx2, 0, none⟩) l1 l2 l1 l2) := ⟨_, rfl⟩
  obtain ⟨B8, hB9⟩ : ∃ B8, B8 = w9.heap.size := ⟨_, rfl⟩
  have HX0 : Hid (LnP w9 u8.heap.size n f L (some ⟨gx, 0, none⟩) n (some ⟨gx1, 0, none⟩) (some ⟨gx2, 0, none⟩) l1 l2 l1 l2 ∧ Below w9.heap.size w9 W9 ∧ Blk W9 B8 32 (lac L (some ⟨gx, 0, none⟩) n n (some ⟨gx1, 0, none⟩) (some ⟨gx2, 0, none⟩) l1 l2 l1 l2) ∧ Below u8.heap.size u8 W9 ∧ B8 = w9.heap.size ∧ u8.heap.size ≤ w9.heap.size) := by
    have b5 : Below w9.heap.size w9 W9 := by rw [hW9]; exact setL_below (Nat.le_refl _) _ _ _ (bel_alloc _ _)
    exact ⟨P9, b5, by rw [hW9, hB9, show lac L (some ⟨gx, 0, none⟩) n n (some ⟨gx1, 0, none⟩) (some ⟨gx2, 0, none⟩) l1 l2 l1 l2 = wrA lzc 0 (lacL L (some ⟨gx, 0, none⟩) n n (some ⟨gx1, 0, none⟩) (some ⟨gx2, 0, none⟩) l1 l2 l1 l2) from (lwr0_17 _ _ _ _ _ _ _ _ _ _ _ _ _ _ _ _ _ _ _ _ _ _ _ _ _ _ _ _ _ _ _ _ _ _).symm]; exact Blk.stL _ _ (Blk.new _ _ _), bel_nx b9 b5, hB9, b9.size⟩
  clear P9 b9
  rename_i hK
  refine hK _ _ ?_
  clear hK
  refine wpList_alloc_any rfl 32 rfl lzc 17 184 (by kernel_rfl) ?_
  refine wpList_store_mid rfl 32 (.tmp 12) (.tmp 42) rfl w9.heap.size 0 (lac L (some ⟨gx, 0, none⟩) n n (some ⟨gx1, 0, none⟩) (some ⟨gx2, 0, none⟩) l1 l2 l1 l2) rfl rfl ((Blk.new w9 lzc 32).there 0 17 (by simp)) (by kernel_rfl) (by simp [Value.oneCell']) ?_
  rw [setCells_L, ← hW9, ← hB9]
  clear hW9 hB9
  refine wpList_nil ?_
  go_upto_region 10 with fail
  try go_simp
  refine wp_region_lit ?_
  refine wpList_load_mid rfl 63 (.tmp 7) rfl (B + 1) 0 rfl (rpLL kd fl pl nn q1 q2 m1 m2 k1 k2) _ (H9.out.2.1.below HX0.out.2.2.2.1).all Tryz.underlying63 rfl (by kernel_rfl) ?_
  go_wp2_with fail
  refine (toResp_any kd fl pl nn q1 q2 m1 m2 k1 k2 ws bs _ HC.out.1 HC.out.2.1 (HC.out.2.2.1.below (bel_nx H9.out.2.2 HX0.out.2.2.2.1)) (HC.out.2.2.2.below (bel_nx H9.out.2.2 HX0.out.2.2.2.1)) hm1 hm2).mono ?_
  rintro e w10 ⟨hx1, hx2, rfl, i1, i2, b10⟩
  obtain ⟨W10, hW10⟩ : ∃ W10, W10 = setL (w10.alloc (.cells rp0 37)) w10.heap.size 0 (rpLL kd fl pl nn (some ⟨hx1, 0, none⟩) (some ⟨hx2, 0, none⟩) m1 m2 m1 m2) := ⟨_, rfl⟩
  obtain ⟨B9, hB10⟩ : ∃ B9, B9 = w10.heap.size := ⟨_, rfl⟩
  have HX1 : Hid (OwnI w10 W9.heap.size (.slice (some ⟨hx1, 0, none⟩) m1 m1) ws ∧ OwnB w10 W9.heap.size (.slice (some ⟨hx2, 0, none⟩) m2 m2) bs ∧ Below w10.heap.size w10 W10 ∧ Blk W10 B9 37 (rpL kd fl pl nn (some ⟨hx1, 0, none⟩) (some ⟨hx2, 0, none⟩) m1 m2 m1 m2) ∧ Below W9.heap.size W9 W10 ∧ B9 = w10.heap.size ∧ W9.heap.size ≤ w10.heap.size) := by
    have b5 : Below w10.heap.size w10 W10 := by rw [hW10]; exact setL_below (Nat.le_refl _) _ _ _ (bel_alloc _ _)
    exact ⟨i1, i2, b5, by rw [hW10, hB10, show rpL kd fl pl nn (some ⟨hx1, 0, none⟩) (some ⟨hx2, 0, none⟩) m1 m2 m1 m2 = wrA rp0 0 (rpLL kd fl pl nn (some ⟨hx1, 0, none⟩) (some ⟨hx2, 0, none⟩) m1 m2 m1 m2) from by simp [wrA]]; exact Blk.stL _ _ (Blk.new _ _ _), bel_nx b10 b5, hB10, b10.size⟩
  clear i1 i2 b10
  rename_i hK
  refine hK _ _ ?_
  clear hK
  refine wpList_alloc_any rfl 37 rfl rp0 6 80 (by kernel_rfl) ?_
  refine wpList_store_mid rfl 37 (.tmp 13) (.tmp 44) rfl w10.heap.size 0 (rpL kd fl pl nn (some ⟨hx1, 0, none⟩) (some ⟨hx2, 0, none⟩) m1 m2 m1 m2) rfl rfl ((Blk.new w10 rp0 37).there 0 6 (by simp)) (by kernel_rfl) (by simp [Value.oneCell']) ?_
  rw [setCells_L, ← hW10, ← hB10]
  clear hW10 hB10
  refine wpList_nil ?_
  have HB10 : Hid (Blk W10 B8 32 (lac L (some ⟨gx, 0, none⟩) n n (some ⟨gx1, 0, none⟩) (some ⟨gx2, 0, none⟩) l1 l2 l1 l2) ∧ LnR W10 n f L (some ⟨gx, 0, none⟩) (some ⟨gx1, 0, none⟩) (some ⟨gx2, 0, none⟩) l1 l2 ∧ SlI W10 (some ⟨hx1, 0, none⟩) ws ∧ SlB W10 (some ⟨hx2, 0, none⟩) bs ∧ Below w9.heap.size w9 W10 ∧ Below u8.heap.size u8 W10) := ⟨HX0.out.2.2.1.below HX1.out.2.2.2.2.1, (HX0.out.1.rd.below HX0.out.2.1).below HX1.out.2.2.2.2.1, (HX1.out.1.below HX1.out.2.2.1).sl.2, (HX1.out.2.1.below HX1.out.2.2.1).sl.2, bel_nx HX0.out.2.1 HX1.out.2.2.2.2.1, bel_nx HX0.out.2.2.2.1 HX1.out.2.2.2.2.1⟩
  go_upto_region 11 with fail
  try go_simp
  refine wp_region_lit ?_
  refine wpList_load_mid rfl 32 (.tmp 12) rfl B8 0 rfl (lacL L (some ⟨gx, 0, none⟩) n n (some ⟨gx1, 0, none⟩) (some ⟨gx2, 0, none⟩) l1 l2 l1 l2) _ (HB10.out.1).all Tryz.underlying32 rfl (by kernel_rfl) ?_
  refine wpList_move_any rfl (.tmp 1) rfl (.int .i64 nu) rfl ?_
  refine wpList_move_any rfl (.tmp 2) rfl (.int .i64 un) rfl ?_
  refine wpList_load_mid rfl 37 (.tmp 13) rfl B9 0 rfl (rpLL kd fl pl nn (some ⟨hx1, 0, none⟩) (some ⟨hx2, 0, none⟩) m1 m2 m1 m2) _ (HX1.out.2.2.2.1).all Tryz.underlying37 rfl (by kernel_rfl) ?_
  go_wp2_with fail
  refine (HIP.out _ (some ⟨gx, 0, none⟩) n (some ⟨gx1, 0, none⟩) (some ⟨gx2, 0, none⟩) l1 l2 (some ⟨hx1, 0, none⟩) (some ⟨hx2, 0, none⟩) m1 m2 HB10.out.2.1 HB10.out.2.2.1 HB10.out.2.2.2.1 (Nat.le_refl _)).mono ?_
  rintro e w11 ⟨a7, cp7, r7, t7, c7, d7, hi7, v71, w71, rfl, hA7, hC7, P11, T11, b11⟩
  obtain ⟨W11, hW11⟩ : ∃ W11, W11 = setL (w11.alloc (.cells lzc 32)) w11.heap.size 0 (lacL L' a7 n cp7 r7 t7 j1 j2 c7 d7) := ⟨_, rfl⟩
  obtain ⟨B10, hB11⟩ : ∃ B10, B10 = w11.heap.size := ⟨_, rfl⟩
  have HG : Hid ((LnPB w11 W10.heap.size hi7 n f L' a7 cp7 r7 t7 j1 j2 c7 d7 ∧ TopL w11 hi7 w11.heap.size 43 8 (.slice v71 N1 w71) N1 (fun _ => dnE D1)) ∧ Below w11.heap.size w11 W11 ∧ Blk W11 B10 32 (lac L' a7 n cp7 r7 t7 j1 j2 c7 d7) ∧ Below W10.heap.size W10 W11 ∧ B10 = w11.heap.size ∧ W10.heap.size ≤ hi7 ∧ hi7 ≤ w11.heap.size) := by
    have b5 : Below w11.heap.size w11 W11 := by rw [hW11]; exact setL_below (Nat.le_refl _) _ _ _ (bel_alloc _ _)
    exact ⟨⟨P11, T11⟩, b5, by rw [hW11, hB11, show lac L' a7 n cp7 r7 t7 j1 j2 c7 d7 = wrA lzc 0 (lacL L' a7 n cp7 r7 t7 j1 j2 c7 d7) from (lwr0_17 _ _ _ _ _ _ _ _ _ _ _ _ _ _ _ _ _ _ _ _ _ _ _ _ _ _ _ _ _ _ _ _ _ _).symm]; exact Blk.stL _ _ (Blk.new _ _ _), bel_nx b11 b5, hB11, hA7, hC7⟩
  clear P11 b11 T11
  rename_i hK
  refine hK _ _ ?_
  clear hK
  refine wpList_move_any rfl (.tmp 50) rfl _ rfl ?_
  refine wpList_ext_any rfl (.tmp 45) 0 rfl #[.agg (lac L' a7 n cp7 r7 t7 j1 j2 c7 d7), .slice v71 N1 w71] (.agg (lac L' a7 n cp7 r7 t7 j1 j2 c7 d7)) rfl rfl ?_
  refine wpList_ext_any rfl (.tmp 45) 1 rfl #[.agg (lac L' a7 n cp7 r7 t7 j1 j2 c7 d7), .slice v71 N1 w71] (.slice v71 N1 w71) rfl rfl ?_
  refine wpList_alloc_any rfl 32 rfl lzc 17 184 (by kernel_rfl) ?_
  refine wpList_store_mid rfl 32 (.tmp 14) (.tmp 51) rfl w11.heap.size 0 (lac L' a7 n cp7 r7 t7 j1 j2 c7 d7) rfl rfl ((Blk.new w11 lzc 32).there 0 17 (by simp)) (by kernel_rfl) (by simp [Value.oneCell']) ?_
  rw [setCells_L, ← hW11, ← hB11]
  clear hW11 hB11
  have HA : Hid ((Blk W11 B 53 (lac L a n cp a1 a2 l1 l2 c1 c2) ∧ Blk W11 (B + 1) 63 (rpL kd fl pl nn q1 q2 m1 m2 k1 k2) ∧ Below w.heap.size w W11) ∧ Below u8.heap.size u8 W11 ∧ Below w9.heap.size w9 W11 ∧ Below w10.heap.size w10 W11 ∧ Blk W11 B8 32 (lac L (some ⟨gx, 0, none⟩) n n (some ⟨gx1, 0, none⟩) (some ⟨gx2, 0, none⟩) l1 l2 l1 l2) ∧ Blk W11 B9 37 (rpL kd fl pl nn (some ⟨hx1, 0, none⟩) (some ⟨hx2, 0, none⟩) m1 m2 m1 m2)) := by
    have b := HG.out.2.2.2.1
    have bu := bel_nx HB10.out.2.2.2.2.2 b
    exact ⟨⟨H9.out.1.below bu, H9.out.2.1.below bu, bel_nx H9.out.2.2 bu⟩, bu, bel_nx HB10.out.2.2.2.2.1 b, bel_nx HX1.out.2.2.1 b, HB10.out.1.below b, HX1.out.2.2.2.1.below b⟩
  clear HB10
  go_upto_region 12 with fail
  try go_simp
  refine wp_region_lit ?_
  refine wpList_load_mid rfl 32 (.tmp 14) rfl B10 0 rfl (lacL L' a7 n cp7 r7 t7 j1 j2 c7 d7) _ (HG.out.2.2.1).all Tryz.underlying32 rfl (by kernel_rfl) ?_
  refine wpList_load_mid rfl 32 (.tmp 10) rfl gu8 0 rfl (lacL L' a6 n cp6 r6 t6 j1 j2 c6 d6) _ (HS.out.1.below HA.out.2.1).all Tryz.underlying32 rfl (by kernel_rfl) ?_
  go_wp2_with fail
  refine (eqLine_true L' a7 r7 t7 a6 r6 t6 n cp7 j1 j2 c7 d7 cp6 j1 j2 c6 d6 f _ ((HG.out.1.1.p.rd).below HG.out.2.1) (HS.out.2.1.below HA.out.2.1) HH.out.2.1 HH.out.2.2.2.2.2.2.2.2.2.2.2.2.2.2.1 HH.out.2.2.2.2.2.2.2.2.2.2.2.2.2.2.2).mono ?_
  rintro e w12 ⟨rfl, b12⟩
  go_wp2_with fail
  refine (eqDoneS_true v71 v61 N1 w71 w61 (fun _ => D1) _ ((HG.out.1.2.sl.below HG.out.2.1).below (b12)) ((HS.out.2.2.below HA.out.2.1).below (b12)) HH.out.2.2.1).mono ?_
  rintro e w12x0 ⟨rfl, bbw12x0⟩
  have b12 := bel_nx b12 bbw12x0
  clear bbw12x0
  go_upto_region 14 with fail
  try go_simp
  refine wp_region_any (by kernel_rfl) ?_
  refine wpAny_vals (fun u => Below w12x0.heap.size w12x0 u) (fun i v u => match i with
    | 0 => v = .agg (lac L (some ⟨gx, 0, none⟩) n n (some ⟨gx1, 0, none⟩) (some ⟨gx2, 0, none⟩) l1 l2 l1 l2)
    | 1 => v = .agg (lac L a n cp a1 a2 l1 l2 c1 c2)
    | 2 => ∃ x x1 x2, v = .agg (lac L (some ⟨x, 0, none⟩) n n (some ⟨x1, 0, none⟩) (some ⟨x2, 0, none⟩) l1 l2 l1 l2) ∧ LnR u n f L (some ⟨x, 0, none⟩) (some ⟨x1, 0, none⟩) (some ⟨x2, 0, none⟩) l1 l2
    | 3 => v = .bool true
    | 4 => v = .bool false
    | _ => True) (by kernel_rfl) (by kernel_rfl) ?_ (by first | exact Below.refl _ _ | exact (Below.refl _ _).drew) ?_ ?_ _ _ rfl (by decide) (fun i => by simp [Array.getD]; try (split <;> rfl))
  · intro i v u u' h hb
    match i with
    | 0 => exact h
    | 1 => exact h
    | 2 =>
      obtain ⟨x, x1, x2, e, hl⟩ := h
      exact ⟨x, x1, x2, e, hl.below hb⟩
    | 3 => exact h
    | 4 => exact h
    | _ + 5 => trivial
  rotate_left
  · intro u i o ρ hR ho hρ hc hf hd
    have hi : i < 5 := by
      have := (Array.getElem?_eq_some_iff.1 ho).1
      simpa using this
    obtain rfl | rfl | rfl | rfl | rfl : i = 0 ∨ i = 1 ∨ i = 2 ∨ i = 3 ∨ i = 4 := by omega
    all_goals (simp only [List.getElem?_toArray, List.getElem?_cons_zero, List.getElem?_cons_succ, Option.some.injEq] at ho; subst ho)
    · have s5 : ρ (.tmp 12) = .pointer (some ⟨B8, 0, none⟩) := (hρ 12 (by kernel_rfl)).trans rfl
      exact .inl ⟨rfl, .inl ⟨_, u, run_load_op rfl s5 (run_loadAt_mid u B8 0 32 (lacL L (some ⟨gx, 0, none⟩) n n (some ⟨gx1, 0, none⟩) (some ⟨gx2, 0, none⟩) l1 l2 l1 l2) _ ((HA.out.2.2.2.2.1.below b12).below hR).all Tryz.underlying32 rfl (by kernel_rfl)), rfl, hR, Below.refl _ _⟩⟩
    · have s1 : ρ (.tmp 4) = .pointer (some ⟨B, 0, none⟩) := (hρ 4 (by kernel_rfl)).trans rfl
      exact .inl ⟨rfl, .inl ⟨_, u, run_load_op rfl s1 (run_loadAt_mid u B 0 53 (lacL L a n cp a1 a2 l1 l2 c1 c2) _ ((HA.out.1.1.below b12).below hR).all Tryz.underlying53 rfl (by kernel_rfl)), rfl, hR, Below.refl _ _⟩⟩
    · have h1 : ρ (.tmp 64) = .agg (lac L a n cp a1 a2 l1 l2 c1 c2) := hd ⟨1, .data⟩ (by simp) rfl 64 rfl
      refine .inl ⟨rfl, .inr ⟨_, _, run_call_op rfl (hf _) (args := #[.agg (lac L a n cp a1 a2 l1 l2 c1 c2)]) (by simp [h1]) (by kernel_rfl), ?_⟩⟩
      refine (toLine_any L a a1 a2 n cp l1 l2 c1 c2 f _ (HH.out.1.below (bel_nx (bel_nx HA.out.1.2.2 b12) hR)) HH.out.2.1 hl1 hl2).mono ?_
      rintro e u' ⟨x, x1, x2, he, P7, b'⟩
      exact ⟨_, he, ⟨x, x1, x2, rfl, P7.rd⟩, bel_nx hR b', b'⟩
    · have h0 : ρ (.tmp 63) = .agg (lac L (some ⟨gx, 0, none⟩) n n (some ⟨gx1, 0, none⟩) (some ⟨gx2, 0, none⟩) l1 l2 l1 l2) := hd ⟨0, .data⟩ (by simp) rfl 63 rfl
      obtain ⟨x, x1, x2, hv, hl⟩ : ∃ x x1 x2, ρ (.tmp 65) = .agg (lac L (some ⟨x, 0, none⟩) n n (some ⟨x1, 0, none⟩) (some ⟨x2, 0, none⟩) l1 l2 l1 l2) ∧ LnR u n f L (some ⟨x, 0, none⟩) (some ⟨x1, 0, none⟩) (some ⟨x2, 0, none⟩) l1 l2 := hd ⟨2, .data⟩ (by simp) rfl 65 rfl
      refine .inl ⟨rfl, .inr ⟨_, _, run_call_op rfl (hf _) (args := #[.agg (lac L (some ⟨gx, 0, none⟩) n n (some ⟨gx1, 0, none⟩) (some ⟨gx2, 0, none⟩) l1 l2 l1 l2), .agg (lac L (some ⟨x, 0, none⟩) n n (some ⟨x1, 0, none⟩) (some ⟨x2, 0, none⟩) l1 l2 l1 l2)]) (by simp [h0, hv]) (by kernel_rfl), ?_⟩⟩
      refine (eqLine_true L _ _ _ _ _ _ n n l1 l2 l1 l2 n l1 l2 l1 l2 f _ (((HX0.out.1.rd.below HA.out.2.2.1).below b12).below hR) hl HH.out.2.1 hl1 hl2).mono ?_
      rintro e u' ⟨he, b'⟩
      exact ⟨_, he, rfl, bel_nx hR b', b'⟩
    · have h3 : ρ (.tmp 66) = .bool true := hd ⟨3, .data⟩ (by simp) rfl 66 rfl
      exact .inl ⟨rfl, .inl ⟨.bool false, u, run_un_op rfl h3 (by go_simp), rfl, hR, Below.refl _ _⟩⟩
  intro vs u14 hR hall
  have e4 : vs 4 = .bool false := hall 4 (by simp)
  simp only [putsL]
  rw [e4]
  clear hall e4
  have b14 : Below W11.heap.size W11 u14 := bel_nx b12 hR
  clear b12 hR
  go_upto_region 16 with fail
  try go_simp
  refine wp_region_any (by kernel_rfl) ?_
  refine wpAny_vals (fun u => Below u14.heap.size u14 u) (fun i v u => match i with
    | 0 => v = .agg (rpL kd fl pl nn (some ⟨hx1, 0, none⟩) (some ⟨hx2, 0, none⟩) m1 m2 m1 m2)
    | 1 => v = .agg (rpL kd fl pl nn q1 q2 m1 m2 k1 k2)
    | 2 => ∃ x1 x2, v = .agg (rpL kd fl pl nn (some ⟨x1, 0, none⟩) (some ⟨x2, 0, none⟩) m1 m2 m1 m2) ∧ SlI u (some ⟨x1, 0, none⟩) ws ∧ SlB u (some ⟨x2, 0, none⟩) bs
    | 3 => v = .bool true
    | 4 => v = .bool false
    | _ => True) (by kernel_rfl) (by kernel_rfl) ?_ (by first | exact Below.refl _ _ | exact (Below.refl _ _).drew) ?_ ?_ _ _ rfl (by decide) (fun i => by simp [Array.getD]; try (split <;> rfl))
  · intro i v u u' h hb
    match i with
    | 0 => exact h
    | 1 => exact h
    | 2 =>
      obtain ⟨x1, x2, e, h1, h2⟩ := h
      exact ⟨x1, x2, e, h1.below hb, h2.below hb⟩
    | 3 => exact h
    | 4 => exact h
    | _ + 5 => trivial
  rotate_left
  · intro u i o ρ hR ho hρ hc hf hd
    have hi : i < 5 := by
      have := (Array.getElem?_eq_some_iff.1 ho).1
      simpa using this
    obtain rfl | rfl | rfl | rfl | rfl : i = 0 ∨ i = 1 ∨ i = 2 ∨ i = 3 ∨ i = 4 := by omega
    all_goals (simp only [List.getElem?_toArray, List.getElem?_cons_zero, List.getElem?_cons_succ, Option.some.injEq] at ho; subst ho)
    · have s5 : ρ (.tmp 13) = .pointer (some ⟨B9, 0, none⟩) := (hρ 13 (by kernel_rfl)).trans rfl
      exact .inl ⟨rfl, .inl ⟨_, u, run_load_op rfl s5 (run_loadAt_mid u B9 0 37 (rpLL kd fl pl nn (some ⟨hx1, 0, none⟩) (some ⟨hx2, 0, none⟩) m1 m2 m1 m2) _ ((HA.out.2.2.2.2.2.below b14).below hR).all Tryz.underlying37 rfl (by kernel_rfl)), rfl, hR, Below.refl _ _⟩⟩
    · have s1 : ρ (.tmp 7) = .pointer (some ⟨(B + 1), 0, none⟩) := (hρ 7 (by kernel_rfl)).trans rfl
      exact .inl ⟨rfl, .inl ⟨_, u, run_load_op rfl s1 (run_loadAt_mid u (B + 1) 0 63 (rpLL kd fl pl nn q1 q2 m1 m2 k1 k2) _ ((HA.out.1.2.1.below b14).below hR).all Tryz.underlying63 rfl (by kernel_rfl)), rfl, hR, Below.refl _ _⟩⟩
    · have h1 : ρ (.tmp 69) = .agg (rpL kd fl pl nn q1 q2 m1 m2 k1 k2) := hd ⟨1, .data⟩ (by simp) rfl 69 rfl
      refine .inl ⟨rfl, .inr ⟨_, _, run_call_op rfl (hf _) (args := #[.agg (rpL kd fl pl nn q1 q2 m1 m2 k1 k2)]) (by simp [h1]) (by kernel_rfl), ?_⟩⟩
      refine (toResp_any kd fl pl nn q1 q2 m1 m2 k1 k2 ws bs _ HC.out.1 HC.out.2.1 (HC.out.2.2.1.below (bel_nx (bel_nx HA.out.1.2.2 b14) hR)) (HC.out.2.2.2.below (bel_nx (bel_nx HA.out.1.2.2 b14) hR)) hm1 hm2).mono ?_
      rintro e u' ⟨x1, x2, he, i1, i2, b'⟩
      exact ⟨_, he, ⟨x1, x2, rfl, i1.sl.2, i2.sl.2⟩, bel_nx hR b', b'⟩
    · have h0 : ρ (.tmp 68) = .agg (rpL kd fl pl nn (some ⟨hx1, 0, none⟩) (some ⟨hx2, 0, none⟩) m1 m2 m1 m2) := hd ⟨0, .data⟩ (by simp) rfl 68 rfl
      obtain ⟨x1, x2, hv, hl1', hl2'⟩ : ∃ x1 x2, ρ (.tmp 70) = .agg (rpL kd fl pl nn (some ⟨x1, 0, none⟩) (some ⟨x2, 0, none⟩) m1 m2 m1 m2) ∧ SlI u (some ⟨x1, 0, none⟩) ws ∧ SlB u (some ⟨x2, 0, none⟩) bs := hd ⟨2, .data⟩ (by simp) rfl 70 rfl
      refine .inl ⟨rfl, .inr ⟨_, _, run_call_op rfl (hf _) (args := #[.agg (rpL kd fl pl nn (some ⟨hx1, 0, none⟩) (some ⟨hx2, 0, none⟩) m1 m2 m1 m2), .agg (rpL kd fl pl nn (some ⟨x1, 0, none⟩) (some ⟨x2, 0, none⟩) m1 m2 m1 m2)]) (by simp [h0, hv]) (by kernel_rfl), ?_⟩⟩
      refine (eqResp_true kd fl pl nn _ _ _ _ m1 m2 m1 m2 m1 m2 m1 m2 ws bs _ HC.out.1 HC.out.2.1 HC.out.1 HC.out.2.1 (((HX1.out.1.below HA.out.2.2.2.1).below b14).below hR).sl.2 (((HX1.out.2.1.below HA.out.2.2.2.1).below b14).below hR).sl.2 hl1' hl2' (by have := HC.out.1; omega) (by have := HC.out.2.1; omega)).mono ?_
      rintro e u' ⟨he, b'⟩
      exact ⟨_, he, rfl, bel_nx hR b', b'⟩
    · have h3 : ρ (.tmp 71) = .bool true := hd ⟨3, .data⟩ (by simp) rfl 71 rfl
      exact .inl ⟨rfl, .inl ⟨.bool false, u, run_un_op rfl h3 (by go_simp), rfl, hR, Below.refl _ _⟩⟩
  intro vs u16 hR hall
  have e4 : vs 4 = .bool false := hall 4 (by simp)
  simp only [putsL]
  rw [e4]
  clear hall e4
  have b16 : Below W11.heap.size W11 u16 := bel_nx b14 hR
  clear b14 hR
  go_upto_region 19 with fail
  try go_simp
  refine wp_region_lit ?_
  refine wpList_load_mid rfl 32 (.tmp 12) rfl B8 0 rfl (lacL L (some ⟨gx, 0, none⟩) n n (some ⟨gx1, 0, none⟩) (some ⟨gx2, 0, none⟩) l1 l2 l1 l2) _ (HA.out.2.2.2.2.1.below b16).all Tryz.underlying32 rfl (by kernel_rfl) ?_
  go_wp2_with fail
  refine (markLine_any L (some ⟨gx, 0, none⟩) (some ⟨gx1, 0, none⟩) (some ⟨gx2, 0, none⟩) n n l1 l2 l1 l2 u8.heap.size 1 f w9.heap.size _ (HX0.out.1.pb.below (bel_nx HA.out.2.2.1 b16)) (bel_nx HA.out.2.1 b16).size (by omega) HH.out.2.2.2.2.1).mono ?_
  rintro e w19 ⟨rfl, _, bl19, kp19⟩
  rw [← HK.out.1]
  have HM : Hid (Below u8.heap.size u8 w19 ∧ Keep w9.heap.size W11 w19) := ⟨(bel_nx HA.out.2.1 b16).trans bl19, (Keep.below b16).trans kp19⟩
  clear bl19 kp19 b16
  have HM2 : Hid (OwnI w19 W9.heap.size (.slice (some ⟨hx1, 0, none⟩) m1 m1) ws ∧ OwnB w19 W9.heap.size (.slice (some ⟨hx2, 0, none⟩) m2 m2) bs ∧ Blk w19 B9 37 (rpL kd fl pl nn (some ⟨hx1, 0, none⟩) (some ⟨hx2, 0, none⟩) m1 m2 m1 m2) ∧ W9.heap.size ≤ w19.heap.size) := by
    have hz := HX0.out.2.1.size
    have hz1 := HX1.out.2.2.2.2.2
    exact ⟨HM.out.2.row (HX1.out.1.below HA.out.2.2.2.1) hz, HM.out.2.row (HX1.out.2.1.below HA.out.2.2.2.1) hz, HM.out.2.blk HA.out.2.2.2.2.2 (by omega), by have := HM.out.2.1; have := HA.out.2.2.2.1.size; omega⟩
  go_upto_region 20 with fail
  try go_simp
  refine wp_region_lit ?_
  refine wpList_load_mid rfl 37 (.tmp 13) rfl B9 0 rfl (rpLL kd fl pl nn (some ⟨hx1, 0, none⟩) (some ⟨hx2, 0, none⟩) m1 m2 m1 m2) _ (HM2.out.2.2.1).all Tryz.underlying37 rfl (by kernel_rfl) ?_
  go_wp2_with fail
  refine (markRespL kd fl pl nn (some ⟨hx1, 0, none⟩) (some ⟨hx2, 0, none⟩) m1 m2 m1 m2 W9.heap.size K1 ws bs _ HM2.out.1 HM2.out.2.1 HM2.out.2.2.2 HK.out.2.2.2.2.1 HK.out.2.2.2.2.2.1 HK.out.2.2.2.1).mono ?_
  rintro e w20 ⟨rfl, mk⟩
  rw [← HK.out.2.1]
  have H20 : Hid (Below u8.heap.size u8 w20 ∧ Keep w10.heap.size W11 w20) := by
    have hz := HX0.out.2.2.2.1.size
    have h1 := HX1.out.2.2.2.2.2
    have hz2 := HX0.out.2.1.size
    refine ⟨HM.out.1.trans (mk.2.2.2.mono hz), (HM.out.2.mono (by omega)).trans (mk.2.2.1.keep (fun k hk => (World.ownsRow.lt HX1.out.1 k hk).2) (fun k hk => (World.ownsRow.lt HX1.out.2.1 k hk).2))⟩
  have H21 : Hid (Blk w20 B10 32 (lac L' a7 n cp7 r7 t7 j1 j2 c7 d7) ∧ LnPB w20 W10.heap.size hi7 n f L' a7 cp7 r7 t7 j1 j2 c7 d7 ∧ TopL w20 hi7 w11.heap.size 43 8 (.slice v71 N1 w71) N1 (fun _ => dnE D1)) := by
    have hz1 := HX1.out.2.2.1.size
    have hz2 := HG.out.2.2.2.2
    exact ⟨H20.out.2.blk HG.out.2.2.1 (by omega), (HG.out.1.1.below HG.out.2.1).keep H20.out.2 hz1, (HG.out.1.2.below9 HG.out.2.1 (Nat.le_refl _)).keep H20.out.2 (by omega)⟩
  clear mk HM2
  have hKX : ¬ (K2 : Int) < 0 := by omega
  go_upto_region 21 with fail
  try go_simp
  refine wp_region_lit ?_
  refine wpList_move_any rfl (.tmp 16) rfl (.int .i64 (K2 : Int)) rfl ?_
  refine wpList_run_any rfl (.bool false) (run_bin_op rfl rfl rfl (by go_simp)) ?_
  refine wpList_move_any rfl (.tmp 80) rfl (.bool false) rfl ?_
  refine wpList_load_g (by rfl) 32 (.tmp 14) rfl B10 0 rfl (lacL L' a7 n cp7 r7 t7 j1 j2 c7 d7) _ H21.out.1.all Tryz.underlying32 rfl (by kernel_rfl) ?_
  refine wpList_load_g (by rfl) 32 (.tmp 10) rfl gu8 0 rfl (lacL L' a6 n cp6 r6 t6 j1 j2 c6 d6) _ (HS.out.1.below H20.out.1).all Tryz.underlying32 rfl (by kernel_rfl) ?_
  go_wp2_with fail
  refine (eqLine_true L' a7 r7 t7 a6 r6 t6 n cp7 j1 j2 c7 d7 cp6 j1 j2 c6 d6 f _ H21.out.2.1.p.rd (HS.out.2.1.below H20.out.1) HH.out.2.1 HH.out.2.2.2.2.2.2.2.2.2.2.2.2.2.2.1 HH.out.2.2.2.2.2.2.2.2.2.2.2.2.2.2.2).mono ?_
  rintro e w21 ⟨rfl, b21⟩
  go_wp2_with fail
  refine (eqDoneS_true v71 v61 N1 w71 w61 (fun _ => D1) _ (H21.out.2.2.sl.below (b21)) ((HS.out.2.2.below H20.out.1).below (b21)) HH.out.2.2.1).mono ?_
  rintro e w21x0 ⟨rfl, bbw21x0⟩
  have b21 := bel_nx b21 bbw21x0
  clear bbw21x0
  have H22 : Hid (Below u8.heap.size u8 w21x0 ∧ Blk w21x0 B10 32 (lac L' a7 n cp7 r7 t7 j1 j2 c7 d7) ∧ (LnPB w21x0 W10.heap.size hi7 n f L' a7 cp7 r7 t7 j1 j2 c7 d7 ∧ TopL w21x0 hi7 w11.heap.size 43 8 (.slice v71 N1 w71) N1 (fun _ => dnE D1)) ∧ W10.heap.size ≤ w21x0.heap.size ∧ u8.heap.size ≤ W10.heap.size ∧ B10 = w11.heap.size ∧ W10.heap.size ≤ hi7 ∧ hi7 ≤ w11.heap.size) := ⟨bel_nx H20.out.1 b21, H21.out.1.below b21, ⟨H21.out.2.1.below b21, H21.out.2.2.below9 b21 (Nat.le_refl _)⟩, by have := H20.out.2.1; have := b21.size; have := HG.out.2.2.2.1.size; omega, by have := HX0.out.2.2.2.1.size; have := HX1.out.2.2.2.2.1.size; omega, HG.out.2.2.2.2.1, HG.out.2.2.2.2.2.1, HG.out.2.2.2.2.2.2⟩
  clear b21 H21 H20 HM
  go_upto_region 24 with fail
  try go_simp
  refine wp_region_lit ?_
  refine wpList_load_mid rfl 32 (.tmp 14) rfl B10 0 rfl (lacL L' a7 n cp7 r7 t7 j1 j2 c7 d7) _ (H22.out.2.1).all Tryz.underlying32 rfl (by kernel_rfl) ?_
  go_wp2_with fail
  refine (markLine_pb L' a7 r7 t7 n cp7 j1 j2 c7 d7 W10.heap.size 1 f hi7 _ H22.out.2.2.1.1 H22.out.2.2.2.1 (by omega) HH.out.2.2.2.1).mono ?_
  rintro e w24 ⟨rfl, P24, bl24, kp24⟩
  rw [← HK.out.2.2.1]
  have H24 : Hid (Below u8.heap.size u8 w24 ∧ Blk w24 B10 32 (lac L' a7 n cp7 r7 t7 j1 j2 c7 d7) ∧ LnPB w24 W10.heap.size hi7 n (fun k => mkCa (msCa 1 f k) (f k)) (mkL (msCa 1 f n) L') a7 cp7 r7 t7 j1 j2 c7 d7 ∧ TopL w24 hi7 w11.heap.size 43 8 (.slice v71 N1 w71) N1 (fun _ => dnE D1)) := ⟨H22.out.1.trans (bl24.mono H22.out.2.2.2.2.1), kp24.blk H22.out.2.1 (by have := H22.out.2.2.2.2.2; omega), P24, H22.out.2.2.1.2.keep kp24 (Nat.le_refl _)⟩
  clear P24 bl24 kp24
  go_wp2_with fail
  refine (markDn_L v71 N1 w71 hi7 w11.heap.size K3 (fun _ => D1) _ H24.out.2.2.2 HH.out.2.2.2.2.2.2.2.2.2.2.2.2.2.1 HH.out.2.2.2.2.2.2.2.2.2.2.2.2.1).mono ?_
  rintro e w25 ⟨rfl, T25, bl25, kp25⟩
  rw [← HK.out.2.2.2.2.2.2]
  have H25 : Hid (Below u8.heap.size u8 w25 ∧ Blk w25 B10 32 (lac L' a7 n cp7 r7 t7 j1 j2 c7 d7) ∧ LnR w25 n (fun k => mkCa (msCa 1 f k) (f k)) (mkL (msCa 1 f n) L') a7 r7 t7 j1 j2 ∧ SlL w25 v71 8 N1 (fun k => dnE (mkDn (msDn K3 (fun _ => D1) k) D1))) := ⟨H24.out.1.trans (bl25.mono (by have := H22.out.2.2.2.2; omega)), kp25.blk H24.out.2.1 (by have := H22.out.2.2.2.2.2; omega), (H24.out.2.2.1.cut (fun k hk _ => bl25.block k hk)).p.rd, T25.sl⟩
  clear T25 bl25 kp25 H24 H22
  have hK4 : ¬ (K4 : Int) < 0 := by omega
  have hK3 : ¬ (K3 : Int) < 0 := by omega
  go_upto_region 27 with fail
  try go_simp
  refine wp_region_lit ?_
  refine wpList_load_mid rfl 32 (.tmp 14) rfl B10 0 rfl (lacL L' a7 n cp7 r7 t7 j1 j2 c7 d7) _ (H25.out.2.1).all Tryz.underlying32 rfl (by kernel_rfl) ?_
  go_wp2_with fail
  refine (heldLine_any L' a7 r7 t7 n cp7 j1 j2 c7 d7 1 f _ (H25.out.2.2.1) (by omega) HH.out.2.2.2.1 _ rfl).mono ?_
  rintro e w27a ⟨rfl, bw27a⟩
  rw [← HK.out.2.2.1]
  go_wp2_with fail
  refine (heldDn_any v71 N1 w71 K3 (fun _ => D1) _ (H25.out.2.2.2.below bw27a) HH.out.2.2.2.2.2.2.2.2.2.2.2.2.2.1 HH.out.2.2.2.2.2.2.2.2.2.2.2.2.1).mono ?_
  rintro e w30 ⟨rfl, hw30⟩
  have hw30 := hw30.symm
  subst hw30
  rw [← HK.out.2.2.2.2.2.2]
  have H26 : Hid ((Blk w27a B 53 (lac L a n cp a1 a2 l1 l2 c1 c2) ∧ Blk w27a (B + 1) 63 (rpL kd fl pl nn q1 q2 m1 m2 k1 k2) ∧ Below w.heap.size w w27a) ∧ Below u8.heap.size u8 w27a ∧ Blk w27a B10 32 (lac L' a7 n cp7 r7 t7 j1 j2 c7 d7) ∧ LnR w27a n (fun k => mkCa (msCa 1 f k) (f k)) (mkL (msCa 1 f n) L') a7 r7 t7 j1 j2 ∧ SlL w27a v71 8 N1 (fun k => dnE (mkDn (msDn K3 (fun _ => D1) k) D1))) := by
    have bu := bel_nx H25.out.1 bw27a
    exact ⟨⟨H9.out.1.below bu, H9.out.2.1.below bu, bel_nx H9.out.2.2 bu⟩, bu, H25.out.2.1.below bw27a, H25.out.2.2.1.below bw27a, H25.out.2.2.2.below bw27a⟩
  clear bw27a H25 HA
  go_upto_region 35 with fail
  try go_simp
  refine wp_region_any (by kernel_rfl) ?_
  refine wpAny_valy (RgQ w27a 10 11 19 (StL w27a.heap.size n f L' j1 j2)) (MgP w27a.heap.size) (fun i v u => match i with
    | 0 => v = .agg (lac L a n cp a1 a2 l1 l2 c1 c2)
    | 1 => ∃ aa ap b1 b2 y1 y2, v = .agg (lac L aa n ap b1 b2 l1 l2 y1 y2) ∧ LnP u w27a.heap.size n f L aa ap b1 b2 l1 l2 y1 y2
    | 2 => v = .int .i64 nu
    | 3 => v = .int .i64 un
    | 4 => v = .agg (rpL kd fl pl nn q1 q2 m1 m2 k1 k2)
    | 5 => ∃ b1 b2 y1 y2, v = .agg (rpL kd fl pl nn b1 b2 m1 m2 y1 y2) ∧ OwnI u w27a.heap.size (.slice b1 m1 y1) ws ∧ OwnB u w27a.heap.size (.slice b2 m2 y2) bs
    | 6 => ∃ aa ap b1 b2 y1 y2 v1 w1, v = .tuple #[.agg (lac L' aa n ap b1 b2 j1 j2 y1 y2), .slice v1 N1 w1] ∧ LnP u w27a.heap.size n f L' aa ap b1 b2 j1 j2 y1 y2 ∧ TopL u w27a.heap.size u.heap.size 43 8 (.slice v1 N1 w1) N1 (fun _ => dnE D1)
    | 7 => ∃ aa ap b1 b2 y1 y2 v1 w1, v = .tuple #[.agg (lac L' aa n ap b1 b2 j1 j2 y1 y2), .slice v1 N1 w1] ∧ LnP u w27a.heap.size n f L' aa ap b1 b2 j1 j2 y1 y2 ∧ TopL u w27a.heap.size u.heap.size 43 8 (.slice v1 N1 w1) N1 (fun _ => dnE D1)
    | 8 => ∃ aa ap b1 b2 y1 y2, v = .agg (lac L' aa n ap b1 b2 j1 j2 y1 y2) ∧ LnP u w27a.heap.size n f L' aa ap b1 b2 j1 j2 y1 y2
    | 9 => ∃ vv wv, v = .slice vv N1 wv ∧ TopL u w27a.heap.size u.heap.size 43 8 (.slice vv N1 wv) N1 (fun _ => dnE D1)
    | 12 => ∃ vv wv, v = .slice vv N1 wv ∧ TopL u w27a.heap.size u.heap.size 43 8 (.slice vv N1 wv) N1 (fun _ => dnE D1)
    | _ => True) (by kernel_rfl) (by kernel_rfl) ?_ (fun u => .inl (Below.refl _ _)) ⟨by first | exact Below.refl _ _ | exact (Below.refl _ _).drew, fun h => by cases h⟩ ?_ ?_ _ _ rfl (by decide) (fun i => by simp [Array.getD]; try (split <;> rfl))
  · intro i v u u' h hm
    match i with
    | 0 => exact h
    | 1 =>
      obtain ⟨aa, ap, b1, b2, y1, y2, e, hl⟩ := h
      exact ⟨aa, ap, b1, b2, y1, y2, e, hm.ln hl⟩
    | 2 => exact h
    | 3 => exact h
    | 4 => exact h
    | 5 =>
      obtain ⟨b1, b2, y1, y2, e, h1, h2⟩ := h
      exact ⟨b1, b2, y1, y2, e, hm.i h1, hm.b h2⟩
    | 6 =>
      obtain ⟨aa, ap, b1, b2, y1, y2, v1, w1, e, hl, T1⟩ := h
      exact ⟨aa, ap, b1, b2, y1, y2, v1, w1, e, hm.ln hl, hm.top T1⟩
    | 7 =>
      obtain ⟨aa, ap, b1, b2, y1, y2, v1, w1, e, hl, T1⟩ := h
      exact ⟨aa, ap, b1, b2, y1, y2, v1, w1, e, hm.ln hl, hm.top T1⟩
    | 8 =>
      obtain ⟨aa, ap, b1, b2, y1, y2, e, hl⟩ := h
      exact ⟨aa, ap, b1, b2, y1, y2, e, hm.ln hl⟩
    | 9 =>
      obtain ⟨vv, wv, e, h1⟩ := h
      exact ⟨vv, wv, e, hm.top h1⟩
    | 10 => trivial
    | 11 => trivial
    | 12 =>
      obtain ⟨vv, wv, e, h1⟩ := h
      exact ⟨vv, wv, e, hm.top h1⟩
    | _ + 13 => trivial
  rotate_left
  · intro u i o ρ l hR ho hli hcl hρ hc hf hdep hv
    have hi : i < 13 := by
      have := (Array.getElem?_eq_some_iff.1 ho).1
      simpa using this
    obtain rfl | rfl | rfl | rfl | rfl | rfl | rfl | rfl | rfl | rfl | rfl | rfl | rfl : i = 0 ∨ i = 1 ∨ i = 2 ∨ i = 3 ∨ i = 4 ∨ i = 5 ∨ i = 6 ∨ i = 7 ∨ i = 8 ∨ i = 9 ∨ i = 10 ∨ i = 11 ∨ i = 12 := by omega
    all_goals (simp only [List.getElem?_toArray, List.getElem?_cons_zero, List.getElem?_cons_succ, Option.some.injEq] at ho; subst ho)
    · have s1 : ρ (.tmp 4) = .pointer (some ⟨B, 0, none⟩) := (hρ 4 (by kernel_rfl)).trans rfl
      exact .inl ⟨rfl, .inl ⟨_, u, run_load_op rfl s1 (run_loadAt_mid u B 0 53 (lacL L a n cp a1 a2 l1 l2 c1 c2) _ ((H26.out.1.1).below hR.1).all Tryz.underlying53 rfl (by kernel_rfl)), rfl, (hR.next (i := 0) (d := 113) (by decide) (by decide) (by decide) (Below.refl _ _) (fun _ h => h)), .inl (Below.refl _ _)⟩⟩
    · have h0 : ρ (.tmp 113) = .agg (lac L a n cp a1 a2 l1 l2 c1 c2) := hv 0 113 rfl (hdep ⟨0, .data⟩ (by simp) rfl)
      refine .inl ⟨rfl, .inr (.inl ⟨_, _, run_call_op rfl (hf _) (args := #[.agg (lac L a n cp a1 a2 l1 l2 c1 c2)]) (by simp [h0]) (by kernel_rfl), ?_⟩)⟩
      refine (toLine_any L a a1 a2 n cp l1 l2 c1 c2 f _ (HH.out.1.below (bel_nx (H26.out.1.2.2) hR.1)) HH.out.2.1 hl1 hl2).mono ?_
      rintro e u' ⟨x, x1, x2, he, P7, b'⟩
      exact ⟨_, he, ⟨_, _, _, _, _, _, rfl, P7.mono hR.1.size⟩, (hR.next (i := 1) (d := 114) (by decide) (by decide) (by decide) b' (fun _ h => h.below b')), .inl b'⟩
    · have s1 : ρ (.tmp 1) = .int .i64 nu := (hρ 1 (by kernel_rfl)).trans rfl
      exact .inl ⟨rfl, .inl ⟨_, u, rfl, s1, (hR.next (i := 2) (d := 115) (by decide) (by decide) (by decide) (Below.refl _ _) (fun _ h => h)), .inl (Below.refl _ _)⟩⟩
    · have s1 : ρ (.tmp 2) = .int .i64 un := (hρ 2 (by kernel_rfl)).trans rfl
      exact .inl ⟨rfl, .inl ⟨_, u, rfl, s1, (hR.next (i := 3) (d := 116) (by decide) (by decide) (by decide) (Below.refl _ _) (fun _ h => h)), .inl (Below.refl _ _)⟩⟩
    · have s1 : ρ (.tmp 7) = .pointer (some ⟨B + 1, 0, none⟩) := (hρ 7 (by kernel_rfl)).trans rfl
      exact .inl ⟨rfl, .inl ⟨_, u, run_load_op rfl s1 (run_loadAt_mid u (B + 1) 0 63 (rpLL kd fl pl nn q1 q2 m1 m2 k1 k2) _ ((H26.out.1.2.1).below hR.1).all Tryz.underlying63 rfl (by kernel_rfl)), rfl, (hR.next (i := 4) (d := 117) (by decide) (by decide) (by decide) (Below.refl _ _) (fun _ h => h)), .inl (Below.refl _ _)⟩⟩
    · have h0 : ρ (.tmp 117) = .agg (rpL kd fl pl nn q1 q2 m1 m2 k1 k2) := hv 4 117 rfl (hdep ⟨4, .data⟩ (by simp) rfl)
      refine .inl ⟨rfl, .inr (.inl ⟨_, _, run_call_op rfl (hf _) (args := #[.agg (rpL kd fl pl nn q1 q2 m1 m2 k1 k2)]) (by simp [h0]) (by kernel_rfl), ?_⟩)⟩
      refine (toResp_any kd fl pl nn q1 q2 m1 m2 k1 k2 ws bs _ HC.out.1 HC.out.2.1 (HC.out.2.2.1.below (bel_nx (H26.out.1.2.2) hR.1)) (HC.out.2.2.2.below (bel_nx (H26.out.1.2.2) hR.1)) hm1 hm2).mono ?_
      rintro e u' ⟨x1, x2, he, i1, i2, b'⟩
      exact ⟨_, he, ⟨_, _, _, _, rfl, OwnI.mono (show OwnI _ _ _ _ from i1) hR.1.size, OwnB.mono (show OwnB _ _ _ _ from i2) hR.1.size⟩, (hR.next (i := 5) (d := 118) (by decide) (by decide) (by decide) b' (fun _ h => h.below b')), .inl b'⟩
    · obtain ⟨aa, ap, b1, b2, y1, y2, h1, hl⟩ : ∃ aa ap b1 b2 y1 y2, ρ (.tmp 114) = .agg (lac L aa n ap b1 b2 l1 l2 y1 y2) ∧ LnP u w27a.heap.size n f L aa ap b1 b2 l1 l2 y1 y2 := hv 1 114 rfl (hdep ⟨1, .data⟩ (by simp) rfl)
      have hinu : ρ (.tmp 115) = .int .i64 nu := hv 2 115 rfl (hdep ⟨2, .data⟩ (by simp) rfl)
      have hiun : ρ (.tmp 116) = .int .i64 un := hv 3 116 rfl (hdep ⟨3, .data⟩ (by simp) rfl)
      obtain ⟨z1, z2, e1, e2, h3, o1, o2⟩ : ∃ b1 b2 y1 y2, ρ (.tmp 118) = .agg (rpL kd fl pl nn b1 b2 m1 m2 y1 y2) ∧ OwnI u w27a.heap.size (.slice b1 m1 y1) ws ∧ OwnB u w27a.heap.size (.slice b2 m2 y2) bs := hv 5 118 rfl (hdep ⟨5, .data⟩ (by simp) rfl)
      refine .inl ⟨rfl, .inr (.inl ⟨_, _, run_call_op rfl (hf _) (args := #[.agg (lac L aa n ap b1 b2 l1 l2 y1 y2), .int .i64 nu, .int .i64 un, .agg (rpL kd fl pl nn z1 z2 m1 m2 e1 e2)]) (by simp [h1, hinu, hiun, h3]) (by kernel_rfl), ?_⟩)⟩
      refine (HIP.out u aa ap b1 b2 y1 y2 z1 z2 e1 e2 hl.rd o1.sl.2 o2.sl.2 (ownB_cap o2)).mono ?_
      rintro e u' ⟨x, xp, x1, x2, f1, f2, hi, v1, w1, he, g1, g2, lo, T1, b'⟩
      exact ⟨_, he, ⟨_, _, _, _, _, _, _, _, rfl, lo.p.mono hR.1.size, T1.mono (Nat.le_trans hR.1.size g1)⟩, (hR.next (i := 6) (d := 119) (by decide) (by decide) (by decide) b' (fun _ h => h.below b')), .inl b'⟩
    · obtain ⟨aa, ap, b1, b2, y1, y2, v1, w1, h1, hl, T1⟩ : ∃ aa ap b1 b2 y1 y2 v1 w1, ρ (.tmp 119) = .tuple #[.agg (lac L' aa n ap b1 b2 j1 j2 y1 y2), .slice v1 N1 w1] ∧ LnP u w27a.heap.size n f L' aa ap b1 b2 j1 j2 y1 y2 ∧ TopL u w27a.heap.size u.heap.size 43 8 (.slice v1 N1 w1) N1 (fun _ => dnE D1) := hv 6 119 rfl (hdep ⟨6, .data⟩ (by simp) rfl)
      exact .inl ⟨rfl, .inl ⟨_, u, rfl, ⟨aa, ap, b1, b2, y1, y2, v1, w1, h1, hl, T1⟩, (hR.next (i := 7) (d := 112) (by decide) (by decide) (by decide) (Below.refl _ _) (fun _ h => h)), .inl (Below.refl _ _)⟩⟩
    · obtain ⟨aa, ap, b1, b2, y1, y2, v1, w1, h1, hl, T1⟩ : ∃ aa ap b1 b2 y1 y2 v1 w1, ρ (.tmp 112) = .tuple #[.agg (lac L' aa n ap b1 b2 j1 j2 y1 y2), .slice v1 N1 w1] ∧ LnP u w27a.heap.size n f L' aa ap b1 b2 j1 j2 y1 y2 ∧ TopL u w27a.heap.size u.heap.size 43 8 (.slice v1 N1 w1) N1 (fun _ => dnE D1) := hv 7 112 rfl (hdep ⟨7, .data⟩ (by simp) rfl)
      exact .inl ⟨rfl, .inl ⟨_, u, run_ext_op rfl h1 rfl, ⟨aa, ap, b1, b2, y1, y2, rfl, hl⟩, (hR.next (i := 8) (d := 120) (by decide) (by decide) (by decide) (Below.refl _ _) (fun _ h => h)), .inl (Below.refl _ _)⟩⟩
    · obtain ⟨aa, ap, b1, b2, y1, y2, v1, w1, h1, hl, T1⟩ : ∃ aa ap b1 b2 y1 y2 v1 w1, ρ (.tmp 112) = .tuple #[.agg (lac L' aa n ap b1 b2 j1 j2 y1 y2), .slice v1 N1 w1] ∧ LnP u w27a.heap.size n f L' aa ap b1 b2 j1 j2 y1 y2 ∧ TopL u w27a.heap.size u.heap.size 43 8 (.slice v1 N1 w1) N1 (fun _ => dnE D1) := hv 7 112 rfl (hdep ⟨7, .data⟩ (by simp) rfl)
      exact .inl ⟨rfl, .inl ⟨_, u, run_ext_op rfl h1 rfl, ⟨_, _, rfl, T1⟩, (hR.next (i := 9) (d := 121) (by decide) (by decide) (by decide) (Below.refl _ _) (fun _ h => h)), .inl (Below.refl _ _)⟩⟩
    · have h9 : l 11 = false := by
        cases h : l 11 with
        | false => rfl
        | true =>
          have := hcl 11 _ rfl h ⟨10, .data⟩ (by simp) rfl
          rw [hli] at this; cases this
      exact .inl ⟨rfl, .inl ⟨_, _, run_alloc_op 32 rfl lzc 17 184 (by kernel_rfl), trivial, hR.made (by decide) h9, .inl (bel_alloc _ _)⟩⟩
    · obtain ⟨aa, ap, b1, b2, y1, y2, h1, hl⟩ : ∃ aa ap b1 b2 y1 y2, ρ (.tmp 120) = .agg (lac L' aa n ap b1 b2 j1 j2 y1 y2) ∧ LnP u w27a.heap.size n f L' aa ap b1 b2 j1 j2 y1 y2 := hv 8 120 rfl (hdep ⟨8, .data⟩ (by simp) rfl)
      obtain ⟨g, q1', q2', q3', _⟩ := hR.2 (hdep ⟨10, .data⟩ (by simp) rfl)
      have hz := q3' hli
      have hr : (Instr.storeAt 32 (.pointer (some ⟨g, 0, none⟩)) (.agg (lac L' aa n ap b1 b2 j1 j2 y1 y2))).run Tryz.prog u = .ok () (setL u g 0 (lacL L' aa n ap b1 b2 j1 j2 y1 y2)) := by
        rw [run_storeAt_mid u g 0 32 (lac L' aa n ap b1 b2 j1 j2 y1 y2) (hz.there 0 17 (by simp)) (by kernel_rfl) (by simp [Value.oneCell']), setCells_L]
      have gg : u.grownBy (setL u g 0 (lacL L' aa n ap b1 b2 j1 j2 y1 y2)) (some g) := setL_gw _ _ _
      refine .inl ⟨rfl, .inr (.inr ⟨rfl, _, run_store_op rfl q1' h1 hr, ⟨setL_below q2' _ _ _ hR.1, fun _ => ⟨g, q1', q2', fun h => (by have h9 : updB l 11 11 = true := rfl; rw [h9] at h; cases h), fun _ => ⟨aa, ap, b1, b2, y1, y2, ?_, hl.keptT gg ⟨_, hz⟩ (by decide) (by decide) (by decide)⟩⟩⟩, .inr ⟨g, gg, ⟨_, hz⟩, q2'⟩⟩)⟩
      rw [show lac L' aa n ap b1 b2 j1 j2 y1 y2 = wrA lzc 0 (lacL L' aa n ap b1 b2 j1 j2 y1 y2) from (lwr0_17 _ _ _ _ _ _ _ _ _ _ _ _ _ _ _ _ _ _ _ _ _ _ _ _ _ _ _ _ _ _ _ _ _ _).symm]; exact Blk.stL _ _ hz
    · obtain ⟨vv, wv, h1, T1⟩ : ∃ vv wv, ρ (.tmp 121) = .slice vv N1 wv ∧ TopL u w27a.heap.size u.heap.size 43 8 (.slice vv N1 wv) N1 (fun _ => dnE D1) := hv 9 121 rfl (hdep ⟨9, .data⟩ (by simp) rfl)
      exact .inl ⟨rfl, .inl ⟨_, u, rfl, ⟨vv, wv, h1, T1⟩, (hR.next (i := 12) (d := 20) (by decide) (by decide) (by decide) (Below.refl _ _) (fun _ h => h)), .inl (Below.refl _ _)⟩⟩
  intro vs σ u31 hR hσ hall
  obtain ⟨gu31, qs, qlo, _, qst⟩ := hR.2 rfl
  have e8 : vs 10 = .pointer (some ⟨gu31, 0, none⟩) := (hσ 10 19 rfl).trans qs
  obtain ⟨v81, w81, eS1, TS1⟩ := hall 12 20 rfl
  have HQu31 : Hid (StL w27a.heap.size n f L' j1 j2 u31 gu31 ∧ Below w27a.heap.size w27a u31 ∧ SlDn u31 v81 N1 (fun _ => D1)) := ⟨qst rfl, hR.1, TS1.sl⟩
  simp only [putsL]
  rw [e8, eS1]
  clear hall hσ e8 qs qlo qst hR eS1 TS1
  obtain ⟨⟨a8, cp8, r8, t8, c8, d8, X8, P8⟩, bu31, SL1⟩ := HQu31.out
  have HS2 : Hid (Blk u31 gu31 32 (lac L' a8 n cp8 r8 t8 j1 j2 c8 d8) ∧ LnR u31 n f L' a8 r8 t8 j1 j2 ∧ Below w27a.heap.size w27a u31 ∧ SlDn u31 v81 N1 (fun _ => D1)) := ⟨X8, P8.rd, bu31, SL1⟩
  clear X8 P8 bu31 HQu31 SL1
  go_upto_region 36 with fail
  try go_simp
  refine wp_region_lit ?_
  refine wpList_load_mid rfl 32 (.tmp 19) rfl gu31 0 rfl (lacL L' a8 n cp8 r8 t8 j1 j2 c8 d8) _ (HS2.out.1).all Tryz.underlying32 rfl (by kernel_rfl) ?_
  refine wpList_load_mid rfl 32 (.tmp 10) rfl gu8 0 rfl (lacL L' a6 n cp6 r6 t6 j1 j2 c6 d6) _ (HS.out.1.below (bel_nx H26.out.2.1 HS2.out.2.2.1)).all Tryz.underlying32 rfl (by kernel_rfl) ?_
  go_wp2_with fail
  refine (eqLine_true L' a8 r8 t8 a6 r6 t6 n cp8 j1 j2 c8 d8 cp6 j1 j2 c6 d6 f _ HS2.out.2.1 (HS.out.2.1.below (bel_nx H26.out.2.1 HS2.out.2.2.1)) HH.out.2.1 HH.out.2.2.2.2.2.2.2.2.2.2.2.2.2.2.1 HH.out.2.2.2.2.2.2.2.2.2.2.2.2.2.2.2).mono ?_
  rintro e w32 ⟨rfl, b32⟩
  go_wp2_with fail
  refine (eqDoneS_true v81 v61 N1 w81 w61 (fun _ => D1) _ (HS2.out.2.2.2.below (b32)) ((HS.out.2.2.below (bel_nx H26.out.2.1 HS2.out.2.2.1)).below (b32)) HH.out.2.2.1).mono ?_
  rintro e w32x0 ⟨rfl, bbw32x0⟩
  have b33 : Below w27a.heap.size w27a w32x0 := bel_nx HS2.out.2.2.1 (bel_nx b32 bbw32x0)
  clear bbw32x0 b32
  go_upto_region 39 with fail
  try go_simp
  refine wp_region_lit ?_
  refine wpList_load_mid rfl 32 (.tmp 14) rfl B10 0 rfl (lacL L' a7 n cp7 r7 t7 j1 j2 c7 d7) _ (H26.out.2.2.1.below b33).all Tryz.underlying32 rfl (by kernel_rfl) ?_
  go_wp2_with fail
  refine (heldLine_any L' a7 r7 t7 n cp7 j1 j2 c7 d7 1 f _ (H26.out.2.2.2.1.below b33) (by omega) HH.out.2.2.2.1 _ rfl).mono ?_
  rintro e w35 ⟨rfl, b35⟩
  rw [← HK.out.2.2.1]
  go_wp2_with fail
  refine (heldDn_any v71 N1 w71 K3 (fun _ => D1) _ ((H26.out.2.2.2.2.below b33).below b35) HH.out.2.2.2.2.2.2.2.2.2.2.2.2.2.1 HH.out.2.2.2.2.2.2.2.2.2.2.2.2.1).mono ?_
  rintro e w36 ⟨rfl, hw36⟩
  have hw36 := hw36.symm
  subst hw36
  rw [← HK.out.2.2.2.2.2.2]
  have HF : Hid (Below w.heap.size w w35) := bel_nx (bel_nx H26.out.1.2.2 b33) b35
  clear b35 b33 H26 HS2 HS H9
  go_wp2
  go_ret
  exact ⟨rfl, HF.out⟩
end Go.Proofs.YtmhdneenjoelfaaGreat
namespace Go.Proofs.YtmhdneenjoelfaaGreat
open Go.ChangeShapes Go.WideShapes Go.ChangeAt Go.RowKit Go.Deep Go.Joins
section
variable {H : Type} {enc : TypeId × Value → H} {P : Program} {w : World} {base : Nat} {held : Bool}
def InResp (w : World) (kd fl pl nn : Int) (a b : Option Addr) (la lb : Nat) (ws : List Int) (bs : List Bool) : Prop :=
  InIos w a la ws ∧ InBos w b lb bs ∧ lb ≤ maxLen ∧ (Lit.int .i64 kd).wf = true ∧ (Lit.int .i64 fl).wf = true ∧ (Lit.int .i64 pl).wf = true ∧ (Lit.int .i64 nn).wf = true
theorem opened_resp {r : Reach} {b0 : Nat} {t i si sb tb : TypeId} {f0 f1 f2 f3 f4 f5 : Field} {v : Value} {d : DataW H} {p : List MemPlace} (hs : P.underlying t = some (.struct #[f0, f1, f2, f3, f4, f5])) (hone : oneCellFields P #[f0, f1, f2, f3, f4, f5] = true) (hC : P.cellsOf t = 6)
    (e0 : f0.type = i) (e1 : f1.type = i) (e2 : f2.type = i) (e3 : f3.type = i) (e4 : f4.type = si) (e5 : f5.type = sb) (hi : P.underlying i = some (.int .i64)) (hsi : P.underlying si = some (.slice i)) (hsb : P.underlying sb = some (.slice tb)) (htb : P.underlying tb = some .bool) (hci : P.cellsOf i = 1) (hcb : P.cellsOf tb = 1)
    (hv : Value.okWide P w r b0 t v) (h : DataW.Trod enc P w base (fun _ => true) held t v d p) :
    ∃ kd fl pl nn a b la ca lb cb ws bs, v = .agg #[.int .i64 kd, .int .i64 fl, .int .i64 pl, .int .i64 nn, .slice a la ca, .slice b lb cb] ∧ InResp w kd fl pl nn a b la lb ws bs := by
  obtain ⟨c0, c1, c2, c3, c4, c5, n, y0, y1, y2, y3, y4, y5, rfl, h0, h1, h2, h3, h4, h5⟩ := opened_struct6 hs hone hC hv h
  rw [e0] at h0
  rw [e1] at h1
  rw [e2] at h2
  rw [e3] at h3
  rw [e4] at h4
  rw [e5] at h5
  obtain ⟨kd, rfl, q0⟩ := opened_int1 hi h0
  obtain ⟨fl, rfl, q1⟩ := opened_int1 hi h1
  obtain ⟨pl, rfl, q2⟩ := opened_int1 hi h2
  obtain ⟨nn, rfl, q5⟩ := opened_int1 hi h3
  obtain ⟨a, la, ca, hcs⟩ := slice_form hsi h4
  simp at hcs
  subst hcs
  obtain ⟨b, lb, cb, hcs⟩ := slice_form hsb h5
  simp at hcs
  subst hcs
  obtain ⟨ws, hw⟩ := opened_ios hsi hi hci h4
  obtain ⟨⟨bs, hb⟩, hm⟩ := opened_bosm hsb htb hcb h5
  exact ⟨kd, fl, pl, nn, a, b, la, ca, lb, cb, ws, bs, rfl, hw, hb, hm, q0, q1, q2, q5⟩
end
end Go.Proofs.YtmhdneenjoelfaaGreat
