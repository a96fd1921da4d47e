/- The law of FnExactLinePut, walked. -/
import Derived.Test.YtmhdneenjoelfaaPuR
import Derived.Test.YtmhdneenjoelfaaArgL
namespace Go.Proofs.Ytmhdneenjoelfaa
open Go.RowKit Go.Joins

set_option linter.unusedVariables false

set_option linter.unusedSimpArgs false

theorem lf_fits {n l1 l2 : Nat} {f : Nat → Ca} (h : n + tl f n + l1 + l2 ≤ 1048576) : lfL n f l1 l2 = ((1048576 - (n + tl f n + l1 + l2) : Nat) : Int) := by unfold lfL; rw [if_pos h]

set_option maxRecDepth 40000 in
set_option maxHeartbeats 4000000 in
theorem linePut_law (L : La) (a a1 a2 : Option Addr) (n cp l1 l2 c1 c2 : Nat) (f : Nat → Ca) (C : Ca) (q1 q2 : Option Addr) (m1 m2 k1 k2 : Nat) (w : World) (hin : InLn w n f L a a1 a2 l1 l2) (e1 : m1 = C.ws.length) (e2 : m2 = C.bs.length) (hca : InCa w C q1 q2) (hfit : n + tl f n + l1 + l2 + (C.ws.length + C.bs.length) ≤ 1048576) :
    Calls Try.prog 4 #[.agg (lac L a n cp a1 a2 l1 l2 c1 c2), .agg (cac C q1 q2 m1 m2 k1 k2)] w fun e w' => e = .returned (.bool true) ∧ Below w.heap.size w w' := by
  obtain ⟨hs, hmx, hmk, hmx1, hmx2⟩ := hin
  obtain ⟨b, hbE⟩ : ∃ b, b = okPut n f L l1 l2 C := ⟨_, rfl⟩
  obtain ⟨n', hn'⟩ : ∃ n', n' = nPut b n := ⟨_, rfl⟩
  obtain ⟨f', hf'⟩ : ∃ f', f' = fPut b n f C := ⟨_, rfl⟩
  have hl1 : l1 ≤ 2000000 := by omega
  have hl2 : l2 ≤ 2000000 := by omega
  have hm1 : m1 ≤ 2000000 := by omega
  have hm2 : m2 ≤ 2000000 := by omega
  have hbd : BdC n f := ⟨by omega, fun k hk => by have := tl_at f hk; omega⟩
  have hbs := bdP (m1 := m1) (m2 := m2) b hfit
  rw [← hn', ← hf'] at hbs
  have HSP : Hid (∀ (u : World) (aa : Option Addr) (ap : Nat) (b1 b2 : Option Addr) (y1 y2 : Nat) (x1 x2 : Option Addr) (d1 d2 : Nat), LnR u n f L aa b1 b2 l1 l2 → SlI u x1 C.ws → SlB u x2 C.bs → Calls Try.prog 8 #[.agg (lac L aa n ap b1 b2 l1 l2 y1 y2), .agg (cac C x1 x2 m1 m2 d1 d2)] u fun e u' => LpR u u' e n' f' L l1 l2 b) := fun u aa ap b1 b2 y1 y2 x1 x2 d1 d2 h1 h2 h3 => by
    have h9 := specPut_any L aa b1 b2 n ap l1 l2 y1 y2 f C x1 x2 m1 m2 d1 d2 u h1 hbd hl1 hl2 e1 e2 h2 h3 hm1 hm2
    rw [← hbE] at h9
    rw [hn', hf']; exact h9
  have HIP : Hid (∀ (u : World) (aa : Option Addr) (ap : Nat) (b1 b2 : Option Addr) (y1 y2 : Nat) (x1 x2 : Option Addr) (d1 d2 : Nat), LnR u n f L aa b1 b2 l1 l2 → SlI u x1 C.ws → SlB u x2 C.bs → Calls Try.prog 7 #[.agg (lac L aa n ap b1 b2 l1 l2 y1 y2), .agg (cac C x1 x2 m1 m2 d1 d2)] u fun e u' => LpR u u' e n' f' L l1 l2 b) := fun u aa ap b1 b2 y1 y2 x1 x2 d1 d2 h1 h2 h3 => by
    have h9 := implPut_any L aa b1 b2 n ap l1 l2 y1 y2 f C x1 x2 m1 m2 d1 d2 u h1 hbd hl1 hl2 e1 e2 h2 h3 hm1 hm2
    rw [← hbE] at h9
    rw [hn', hf']; exact h9
  have hsm : SmL n f l1 l2 := by unfold SmL; rw [tlCa_eq]; omega
  obtain ⟨lf, hlf⟩ : ∃ lf : Nat, lf = 1048576 - (n + tl f n + l1 + l2) := ⟨_, rfl⟩
  obtain ⟨lg, hlg⟩ : ∃ lg : Int, lg = lfC lf m1 m2 := ⟨_, rfl⟩
  have hlg0 : ¬ lg < 0 := by rw [hlg]; unfold lfC; rw [if_pos (by omega)]; omega
  have hlf0 : ¬ (lf : Int) < 0 := by omega
  obtain ⟨K1, hK1⟩ : ∃ K1 : Nat, K1 = msCa 1 f n + l1 + l2 := ⟨_, rfl⟩
  obtain ⟨K2, hK2⟩ : ∃ K2 : Nat, K2 = K1 + m1 + m2 := ⟨_, rfl⟩
  obtain ⟨K3, hK3⟩ : ∃ K3 : Nat, K3 = msCa 1 f' n' + l1 + l2 := ⟨_, rfl⟩
  have HH : Hid (LnR w n f L a a1 a2 l1 l2 ∧ BdC n f ∧ BdC n' f' ∧ SmL n' f' l1 l2 ∧ SmL n f l1 l2 ∧ n ≤ maxLen ∧ (∀ k, k < n → (f k).ws.length ≤ maxLen ∧ (f k).bs.length ≤ maxLen) ∧ l1 ≤ maxLen ∧ l2 ≤ maxLen ∧ lfL n f l1 l2 = (lf : Int) ∧ lg = lfC lf m1 m2 ∧ lf ≤ 1048576 ∧ m1 ≤ maxLen ∧ m2 ≤ maxLen) := ⟨hs, hbd, hbs.1, hbs.2, hsm, hmx, hmk, hmx1, hmx2, by rw [hlf]; exact lf_fits (by omega), hlg, by omega, by unfold maxLen; omega, by unfold maxLen; omega⟩
  have HC : Hid (m1 = C.ws.length ∧ m2 = C.bs.length ∧ SlI w q1 C.ws ∧ SlB w q2 C.bs) := ⟨e1, e2, hca.2.2.1, hca.2.2.2⟩
  have HK : Hid (K1 = msCa 1 f n + l1 + l2 ∧ K2 = K1 + m1 + m2 ∧ K3 = msCa 1 f' n' + l1 + l2 ∧ K1 + m1 ≤ 9000000 ∧ m1 ≤ 1048600 ∧ m2 ≤ 1048600) := ⟨hK1, hK2, hK3, by rw [hK1, msCa_eq, tlCa_eq]; omega, by omega, by omega⟩
  obtain ⟨B, hB⟩ : ∃ B, B = w.heap.size := ⟨_, rfl⟩
  obtain ⟨W, hW⟩ : ∃ W, W = (w.alloc (.cells (lac L a n cp a1 a2 l1 l2 c1 c2) 50)).alloc (.cells (cac C q1 q2 m1 m2 k1 k2) 48) := ⟨_, rfl⟩
  have H0 : Hid (Blk W B 50 (lac L a n cp a1 a2 l1 l2 c1 c2) ∧ Blk W (B + 1) 48 (cac C q1 q2 m1 m2 k1 k2) ∧ Below w.heap.size w W) := by
    have bW : Below w.heap.size w W := by rw [hW]; exact bel_nx (bel_alloc w _) (bel_alloc _ _)
    refine ⟨by rw [hW, hB]; exact (Blk.new w _ _).below (bel_alloc _ _), ?_, bW⟩
    rw [hW, hB]; have := Blk.new (w.alloc (.cells (lac L a n cp a1 a2 l1 l2 c1 c2) 50)) (cac C q1 q2 m1 m2 k1 k2) 48; simpa using this
  have ebb : (b == b) = true := by simp
  clear hs hmx hmk hmx1 hmx2 hbE hn' hf' hbd hbs e1 e2 hca hfit hsm hlf hlg hK1 hK2 hK3
  go_enter Try.func4, Try.ntmps4
  go_upto_region 1 with fail
  have hB1 : w.heap.size + 1 = B + 1 := by omega
  rw [← hW, hB1, ← hB]
  clear hW hB hB1
  go_upto_region 2 with fail
  try go_simp
  refine wp_region_lit ?_
  refine wpList_load_mid rfl 50 (.tmp 2) rfl B 0 rfl (lacL L a n cp a1 a2 l1 l2 c1 c2) _ (H0.out.1).all Try.underlying50 rfl (by kernel_rfl) ?_
  go_wp2_with fail
  refine (szLine_any L a a1 a2 n cp l1 l2 c1 c2 f _ (HH.out.1.below H0.out.2.2) HH.out.2.2.2.2.2.1 HH.out.2.2.2.2.2.2.1 HH.out.2.2.2.2.2.2.2.1 HH.out.2.2.2.2.2.2.2.2.1).mono ?_
  rintro e w1 ⟨rfl, b1⟩
  rw [HH.out.2.2.2.2.2.2.2.2.2.1]
  have H1 : Hid (Blk w1 B 50 (lac L a n cp a1 a2 l1 l2 c1 c2) ∧ Blk w1 (B + 1) 48 (cac C q1 q2 m1 m2 k1 k2) ∧ Below w.heap.size w w1) := ⟨H0.out.1.below b1, H0.out.2.1.below b1, bel_nx H0.out.2.2 b1⟩
  clear b1 H0
  go_upto_region 5 with fail
  try go_simp
  refine wp_region_lit ?_
  refine wpList_load_mid rfl 48 (.tmp 3) rfl (B + 1) 0 rfl (calL C q1 q2 m1 m2 k1 k2) _ (H1.out.2.1).all Try.underlying48 rfl (by kernel_rfl) ?_
  go_wp2_with fail
  refine (szCall_any C q1 q2 m1 m2 k1 k2 lf _ HH.out.2.2.2.2.2.2.2.2.2.2.2.2.1 HH.out.2.2.2.2.2.2.2.2.2.2.2.2.2 HH.out.2.2.2.2.2.2.2.2.2.2.2.1).mono ?_
  rintro e w8 ⟨rfl, b2⟩
  rw [← HH.out.2.2.2.2.2.2.2.2.2.2.1]
  have H8 : Hid (Blk w8 B 50 (lac L a n cp a1 a2 l1 l2 c1 c2) ∧ Blk w8 (B + 1) 48 (cac C q1 q2 m1 m2 k1 k2) ∧ Below w.heap.size w w8) := ⟨H1.out.1.below b2, H1.out.2.1.below b2, bel_nx H1.out.2.2 b2⟩
  clear b2 H1
  go_upto_region 8 with fail
  try go_simp
  refine wp_region_any (by kernel_rfl) ?_
  refine wpAny_valy (RgP w8 6 (StL w8.heap.size n' f' L l1 l2)) (MgP w8.heap.size) (fun i v u => match i with
    | 0 => v = .agg (lac L a n cp a1 a2 l1 l2 c1 c2)
    | 1 => ∃ aa ap b1 b2 y1 y2, v = .agg (lac L aa n ap b1 b2 l1 l2 y1 y2) ∧ LnP u w8.heap.size n f L aa ap b1 b2 l1 l2 y1 y2
    | 2 => v = .agg (cac C q1 q2 m1 m2 k1 k2)
    | 3 => ∃ b1 b2 y1 y2, v = .agg (cac C b1 b2 m1 m2 y1 y2) ∧ OwnI u w8.heap.size (.slice b1 m1 y1) C.ws ∧ OwnB u w8.heap.size (.slice b2 m2 y2) C.bs
    | 4 => ∃ aa ap b1 b2 y1 y2, v = .tuple #[.agg (lac L aa n' ap b1 b2 l1 l2 y1 y2), .bool b] ∧ LnP u w8.heap.size n' f' L aa ap b1 b2 l1 l2 y1 y2
    | 5 => ∃ aa ap b1 b2 y1 y2, v = .tuple #[.agg (lac L aa n' ap b1 b2 l1 l2 y1 y2), .bool b] ∧ LnP u w8.heap.size n' f' L aa ap b1 b2 l1 l2 y1 y2
    | 6 => ∃ aa ap b1 b2 y1 y2, v = .agg (lac L aa n' ap b1 b2 l1 l2 y1 y2) ∧ LnP u w8.heap.size n' f' L aa ap b1 b2 l1 l2 y1 y2
    | 7 => v = .bool b
    | 8 => True
    | 10 => v = .bool b
    | _ => True) (by kernel_rfl) (by kernel_rfl) ?_ (fun u => .inl (Below.refl _ _)) ⟨by first | exact Below.refl _ _ | exact (Below.refl _ _).drew, fun h => by cases h⟩ ?_ ?_ _ _ rfl (by decide) (fun i => by simp [Array.getD]; try (split <;> rfl))
  · intro i v u u' h hm
    match i with
    | 0 => exact h
    | 1 =>
      obtain ⟨aa, ap, b1, b2, y1, y2, e, hl⟩ := h
      exact ⟨aa, ap, b1, b2, y1, y2, e, hm.ln hl⟩
    | 2 => exact h
    | 3 =>
      obtain ⟨b1, b2, y1, y2, e, h1, h2⟩ := h
      exact ⟨b1, b2, y1, y2, e, hm.i h1, hm.b h2⟩
    | 4 =>
      obtain ⟨aa, ap, b1, b2, y1, y2, e, hl⟩ := h
      exact ⟨aa, ap, b1, b2, y1, y2, e, hm.ln hl⟩
    | 5 =>
      obtain ⟨aa, ap, b1, b2, y1, y2, e, hl⟩ := h
      exact ⟨aa, ap, b1, b2, y1, y2, e, hm.ln hl⟩
    | 6 =>
      obtain ⟨aa, ap, b1, b2, y1, y2, e, hl⟩ := h
      exact ⟨aa, ap, b1, b2, y1, y2, e, hm.ln hl⟩
    | 7 => exact h
    | 8 => trivial
    | 9 => trivial
    | 10 => exact h
    | _ + 11 => trivial
  rotate_left
  · intro u i o ρ l hR ho hli hcl hρ hc hf hdep hv
    have hi : i < 11 := by
      have := (Array.getElem?_eq_some_iff.1 ho).1
      simpa using this
    obtain rfl | rfl | rfl | rfl | rfl | rfl | rfl | rfl | rfl | rfl | rfl : i = 0 ∨ i = 1 ∨ i = 2 ∨ i = 3 ∨ i = 4 ∨ i = 5 ∨ i = 6 ∨ i = 7 ∨ i = 8 ∨ i = 9 ∨ i = 10 := by omega
    all_goals (simp only [List.getElem?_toArray, List.getElem?_cons_zero, List.getElem?_cons_succ, Option.some.injEq] at ho; subst ho)
    · have s1 : ρ (.tmp 2) = .pointer (some ⟨B, 0, none⟩) := (hρ 2 (by kernel_rfl)).trans rfl
      exact .inl ⟨rfl, .inl ⟨_, u, run_load_op rfl s1 (run_loadAt_mid u B 0 50 (lacL L a n cp a1 a2 l1 l2 c1 c2) _ ((H8.out.1).below hR.1).all Try.underlying50 rfl (by kernel_rfl)), rfl, (hR.next (i := 0) (d := 28) (by decide) (by decide) (by decide) (Below.refl _ _) (fun _ h => h)), .inl (Below.refl _ _)⟩⟩
    · have h0 : ρ (.tmp 28) = .agg (lac L a n cp a1 a2 l1 l2 c1 c2) := hv 0 28 rfl (hdep ⟨0, .data⟩ (by simp) rfl)
      refine .inl ⟨rfl, .inr (.inl ⟨_, _, run_call_op rfl (hf _) (args := #[.agg (lac L a n cp a1 a2 l1 l2 c1 c2)]) (by simp [h0]) (by kernel_rfl), ?_⟩)⟩
      refine (toLine_any L a a1 a2 n cp l1 l2 c1 c2 f _ (HH.out.1.below (bel_nx (H8.out.2.2) hR.1)) HH.out.2.1 hl1 hl2).mono ?_
      rintro e u' ⟨x, x1, x2, he, P7, b'⟩
      exact ⟨_, he, ⟨_, _, _, _, _, _, rfl, P7.mono hR.1.size⟩, (hR.next (i := 1) (d := 29) (by decide) (by decide) (by decide) b' (fun _ h => h.below b')), .inl b'⟩
    · have s1 : ρ (.tmp 3) = .pointer (some ⟨B + 1, 0, none⟩) := (hρ 3 (by kernel_rfl)).trans rfl
      exact .inl ⟨rfl, .inl ⟨_, u, run_load_op rfl s1 (run_loadAt_mid u (B + 1) 0 48 (calL C q1 q2 m1 m2 k1 k2) _ ((H8.out.2.1).below hR.1).all Try.underlying48 rfl (by kernel_rfl)), rfl, (hR.next (i := 2) (d := 30) (by decide) (by decide) (by decide) (Below.refl _ _) (fun _ h => h)), .inl (Below.refl _ _)⟩⟩
    · have h0 : ρ (.tmp 30) = .agg (cac C q1 q2 m1 m2 k1 k2) := hv 2 30 rfl (hdep ⟨2, .data⟩ (by simp) rfl)
      refine .inl ⟨rfl, .inr (.inl ⟨_, _, run_call_op rfl (hf _) (args := #[.agg (cac C q1 q2 m1 m2 k1 k2)]) (by simp [h0]) (by kernel_rfl), ?_⟩)⟩
      refine (toCall_any C q1 q2 m1 m2 k1 k2 _ HC.out.1 HC.out.2.1 (HC.out.2.2.1.below (bel_nx (H8.out.2.2) hR.1)) (HC.out.2.2.2.below (bel_nx (H8.out.2.2) hR.1)) hm1 hm2).mono ?_
      rintro e u' ⟨x1, x2, he, i1, i2, b'⟩
      exact ⟨_, he, ⟨_, _, _, _, rfl, OwnI.mono (show OwnI _ _ _ _ from i1) hR.1.size, OwnB.mono (show OwnB _ _ _ _ from i2) hR.1.size⟩, (hR.next (i := 3) (d := 31) (by decide) (by decide) (by decide) b' (fun _ h => h.below b')), .inl b'⟩
    · obtain ⟨aa, ap, b1, b2, y1, y2, h1, hl⟩ : ∃ aa ap b1 b2 y1 y2, ρ (.tmp 29) = .agg (lac L aa n ap b1 b2 l1 l2 y1 y2) ∧ LnP u w8.heap.size n f L aa ap b1 b2 l1 l2 y1 y2 := hv 1 29 rfl (hdep ⟨1, .data⟩ (by simp) rfl)
      obtain ⟨z1, z2, v1, v2, h3, o1, o2⟩ : ∃ b1 b2 y1 y2, ρ (.tmp 31) = .agg (cac C b1 b2 m1 m2 y1 y2) ∧ OwnI u w8.heap.size (.slice b1 m1 y1) C.ws ∧ OwnB u w8.heap.size (.slice b2 m2 y2) C.bs := hv 3 31 rfl (hdep ⟨3, .data⟩ (by simp) rfl)
      refine .inl ⟨rfl, .inr (.inl ⟨_, _, run_call_op rfl (hf _) (args := #[.agg (lac L aa n ap b1 b2 l1 l2 y1 y2), .agg (cac C z1 z2 m1 m2 v1 v2)]) (by simp [h1, h3]) (by kernel_rfl), ?_⟩)⟩
      refine (HSP.out u aa ap b1 b2 y1 y2 z1 z2 v1 v2 hl.rd o1.sl.2 o2.sl.2).mono ?_
      rintro e u' ⟨x, xp, x1, x2, e1, e2, he, lo, b'⟩
      exact ⟨_, he, ⟨_, _, _, _, _, _, rfl, lo.p.mono hR.1.size⟩, (hR.next (i := 4) (d := 32) (by decide) (by decide) (by decide) b' (fun _ h => h.below b')), .inl b'⟩
    · obtain ⟨aa, ap, b1, b2, y1, y2, h1, hl⟩ : ∃ aa ap b1 b2 y1 y2, ρ (.tmp 32) = .tuple #[.agg (lac L aa n' ap b1 b2 l1 l2 y1 y2), .bool b] ∧ LnP u w8.heap.size n' f' L aa ap b1 b2 l1 l2 y1 y2 := hv 4 32 rfl (hdep ⟨4, .data⟩ (by simp) rfl)
      exact .inl ⟨rfl, .inl ⟨_, u, rfl, ⟨aa, ap, b1, b2, y1, y2, h1, hl⟩, (hR.next (i := 5) (d := 27) (by decide) (by decide) (by decide) (Below.refl _ _) (fun _ h => h)), .inl (Below.refl _ _)⟩⟩
    · obtain ⟨aa, ap, b1, b2, y1, y2, h1, hl⟩ : ∃ aa ap b1 b2 y1 y2, ρ (.tmp 27) = .tuple #[.agg (lac L aa n' ap b1 b2 l1 l2 y1 y2), .bool b] ∧ LnP u w8.heap.size n' f' L aa ap b1 b2 l1 l2 y1 y2 := hv 5 27 rfl (hdep ⟨5, .data⟩ (by simp) rfl)
      exact .inl ⟨rfl, .inl ⟨_, u, run_ext_op rfl h1 rfl, ⟨aa, ap, b1, b2, y1, y2, rfl, hl⟩, (hR.next (i := 6) (d := 33) (by decide) (by decide) (by decide) (Below.refl _ _) (fun _ h => h)), .inl (Below.refl _ _)⟩⟩
    · obtain ⟨aa, ap, b1, b2, y1, y2, h1, hl⟩ : ∃ aa ap b1 b2 y1 y2, ρ (.tmp 27) = .tuple #[.agg (lac L aa n' ap b1 b2 l1 l2 y1 y2), .bool b] ∧ LnP u w8.heap.size n' f' L aa ap b1 b2 l1 l2 y1 y2 := hv 5 27 rfl (hdep ⟨5, .data⟩ (by simp) rfl)
      exact .inl ⟨rfl, .inl ⟨_, u, run_ext_op rfl h1 rfl, rfl, (hR.next (i := 7) (d := 34) (by decide) (by decide) (by decide) (Below.refl _ _) (fun _ h => h)), .inl (Below.refl _ _)⟩⟩
    · have h9 : l 9 = false := by
        cases h : l 9 with
        | false => rfl
        | true =>
          have := hcl 9 _ rfl h ⟨8, .data⟩ (by simp) rfl
          rw [hli] at this; cases this
      exact .inl ⟨rfl, .inl ⟨_, _, run_alloc_op 32 rfl lzc 17 184 (by kernel_rfl), trivial, hR.made h9, .inl (bel_alloc _ _)⟩⟩
    · obtain ⟨aa, ap, b1, b2, y1, y2, h1, hl⟩ : ∃ aa ap b1 b2 y1 y2, ρ (.tmp 33) = .agg (lac L aa n' ap b1 b2 l1 l2 y1 y2) ∧ LnP u w8.heap.size n' f' L aa ap b1 b2 l1 l2 y1 y2 := hv 6 33 rfl (hdep ⟨6, .data⟩ (by simp) rfl)
      obtain ⟨g, q1', q2', q3', _⟩ := hR.2 (hdep ⟨8, .data⟩ (by simp) rfl)
      have hz := q3' hli
      have hr : (Instr.storeAt 32 (.pointer (some ⟨g, 0, none⟩)) (.agg (lac L aa n' ap b1 b2 l1 l2 y1 y2))).run Try.prog u = .ok () (setL u g 0 (lacL L aa n' ap b1 b2 l1 l2 y1 y2)) := by
        rw [run_storeAt_mid u g 0 32 (lac L aa n' ap b1 b2 l1 l2 y1 y2) (hz.there 0 17 (by simp)) (by kernel_rfl) (by simp [Value.oneCell']), setCells_L]
      have gg : u.grownBy (setL u g 0 (lacL L aa n' ap b1 b2 l1 l2 y1 y2)) (some g) := setL_gw _ _ _
      refine .inl ⟨rfl, .inr (.inr ⟨rfl, _, run_store_op rfl q1' h1 hr, ⟨setL_below q2' _ _ _ hR.1, fun _ => ⟨g, q1', q2', fun h => (by have h9 : updB l 9 9 = true := rfl; rw [h9] at h; cases h), fun _ => ⟨aa, ap, b1, b2, y1, y2, ?_, hl.keptT gg ⟨_, hz⟩ (by decide) (by decide) (by decide)⟩⟩⟩, .inr ⟨g, gg, ⟨_, hz⟩, q2'⟩⟩)⟩
      rw [show lac L aa n' ap b1 b2 l1 l2 y1 y2 = wrA lzc 0 (lacL L aa n' ap b1 b2 l1 l2 y1 y2) from (lwr0_17 _ _ _ _ _ _ _ _ _ _ _ _ _ _ _ _ _ _ _ _ _ _ _ _ _ _ _ _ _ _ _ _ _ _).symm]; exact Blk.stL _ _ hz
    · have h0 : ρ (.tmp 34) = .bool b := hv 7 34 rfl (hdep ⟨7, .data⟩ (by simp) rfl)
      exact .inl ⟨rfl, .inl ⟨_, u, rfl, h0, (hR.next (i := 10) (d := 7) (by decide) (by decide) (by decide) (Below.refl _ _) (fun _ h => h)), .inl (Below.refl _ _)⟩⟩
  intro vs σ u8 hR hσ hall
  obtain ⟨gu8, qs, qlo, _, qst⟩ := hR.2 rfl
  have e8 : vs 8 = .pointer (some ⟨gu8, 0, none⟩) := (hσ 8 6 rfl).trans qs
  have e10 : vs 10 = .bool b := hall 10 7 rfl
  have HQu8 : Hid (StL w8.heap.size n' f' L l1 l2 u8 gu8 ∧ Below w8.heap.size w8 u8) := ⟨qst rfl, hR.1⟩
  simp only [putsL]
  rw [e8, e10]
  clear hall hσ e8 e10 qs qlo qst hR
  obtain ⟨⟨a6, cp6, r6, t6, c6, d6, X6, P6⟩, bu8⟩ := HQu8.out
  have H9 : Hid (Blk u8 B 50 (lac L a n cp a1 a2 l1 l2 c1 c2) ∧ Blk u8 (B + 1) 48 (cac C q1 q2 m1 m2 k1 k2) ∧ Below w.heap.size w u8) := ⟨H8.out.1.below bu8, H8.out.2.1.below bu8, bel_nx H8.out.2.2 bu8⟩
  have HS : Hid (Blk u8 gu8 32 (lac L a6 n' cp6 r6 t6 l1 l2 c6 d6) ∧ LnR u8 n' f' L a6 r6 t6 l1 l2) := ⟨X6, P6.rd⟩
  clear X6 P6 bu8 HQu8 H8
  go_upto_region 9 with fail
  try go_simp
  refine wp_region_lit ?_
  refine wpList_load_mid rfl 50 (.tmp 2) rfl B 0 rfl (lacL L a n cp a1 a2 l1 l2 c1 c2) _ (H9.out.1).all Try.underlying50 rfl (by kernel_rfl) ?_
  go_wp2_with fail
  refine (toLine_any L a a1 a2 n cp l1 l2 c1 c2 f _ (HH.out.1.below H9.out.2.2) HH.out.2.1 hl1 hl2).mono ?_
  rintro e w9 ⟨gx, gx1, gx2, rfl, P9, b9⟩
  obtain ⟨W9, hW9⟩ : ∃ W9, W9 = setL (w9.alloc (.cells lzc 32)) w9.heap.size 0 (lacL L (some ⟨gx, 0, none⟩) n n (some ⟨gx1, 0, none⟩) (some ⟨gx2, 0, none⟩) l1 l2 l1 l2) := ⟨_, rfl⟩
  obtain ⟨B8, hB9⟩ : ∃ B8, B8 = w9.heap.size := ⟨_, rfl⟩
  have HX0 : Hid (LnP w9 u8.heap.size n f L (some ⟨gx, 0, none⟩) n (some ⟨gx1, 0, none⟩) (some ⟨gx2, 0, none⟩) l1 l2 l1 l2 ∧ Below w9.heap.size w9 W9 ∧ Blk W9 B8 32 (lac L (some ⟨gx, 0, none⟩) n n (some ⟨gx1, 0, none⟩) (some ⟨gx2, 0, none⟩) l1 l2 l1 l2) ∧ Below u8.heap.size u8 W9 ∧ B8 = w9.heap.size ∧ u8.heap.size ≤ w9.heap.size) := by
    have b5 : Below w9.heap.size w9 W9 := by rw [hW9]; exact setL_below (Nat.le_refl _) _ _ _ (bel_alloc _ _)
    exact ⟨P9, b5, by rw [hW9, hB9, show lac L (some ⟨gx, 0, none⟩) n n (some ⟨gx1, 0, none⟩) (some ⟨gx2, 0, none⟩) l1 l2 l1 l2 = wrA lzc 0 (lacL L (some ⟨gx, 0, none⟩) n n (some ⟨gx1, 0, none⟩) (some ⟨gx2, 0, none⟩) l1 l2 l1 l2) from (lwr0_17 _ _ _ _ _ _ _ _ _ _ _ _ _ _ _ _ _ _ _ _ _ _ _ _ _ _ _ _ _ _ _ _ _ _).symm]; exact Blk.stL _ _ (Blk.new _ _ _), bel_nx b9 b5, hB9, b9.size⟩
  clear P9 b9
  rename_i hK
  refine hK _ _ ?_
  clear hK
  refine wpList_alloc_any rfl 32 rfl lzc 17 184 (by kernel_rfl) ?_
  refine wpList_store_mid rfl 32 (.tmp 8) (.tmp 36) rfl w9.heap.size 0 (lac L (some ⟨gx, 0, none⟩) n n (some ⟨gx1, 0, none⟩) (some ⟨gx2, 0, none⟩) l1 l2 l1 l2) rfl rfl ((Blk.new w9 lzc 32).there 0 17 (by simp)) (by kernel_rfl) (by simp [Value.oneCell']) ?_
  rw [setCells_L, ← hW9, ← hB9]
  clear hW9 hB9
  refine wpList_nil ?_
  go_upto_region 10 with fail
  try go_simp
  refine wp_region_lit ?_
  refine wpList_load_mid rfl 48 (.tmp 3) rfl (B + 1) 0 rfl (calL C q1 q2 m1 m2 k1 k2) _ (H9.out.2.1.below HX0.out.2.2.2.1).all Try.underlying48 rfl (by kernel_rfl) ?_
  go_wp2_with fail
  refine (toCall_any C q1 q2 m1 m2 k1 k2 _ HC.out.1 HC.out.2.1 (HC.out.2.2.1.below (bel_nx H9.out.2.2 HX0.out.2.2.2.1)) (HC.out.2.2.2.below (bel_nx H9.out.2.2 HX0.out.2.2.2.1)) hm1 hm2).mono ?_
  rintro e w10 ⟨hx1, hx2, rfl, i1, i2, b10⟩
  obtain ⟨W10, hW10⟩ : ∃ W10, W10 = setL (w10.alloc (.cells ca0c 30)) w10.heap.size 0 (calL C (some ⟨hx1, 0, none⟩) (some ⟨hx2, 0, none⟩) m1 m2 m1 m2) := ⟨_, rfl⟩
  obtain ⟨B9, hB10⟩ : ∃ B9, B9 = w10.heap.size := ⟨_, rfl⟩
  have HX1 : Hid (OwnI w10 W9.heap.size (.slice (some ⟨hx1, 0, none⟩) m1 m1) C.ws ∧ OwnB w10 W9.heap.size (.slice (some ⟨hx2, 0, none⟩) m2 m2) C.bs ∧ Below w10.heap.size w10 W10 ∧ Blk W10 B9 30 (cac C (some ⟨hx1, 0, none⟩) (some ⟨hx2, 0, none⟩) m1 m2 m1 m2) ∧ Below W9.heap.size W9 W10 ∧ B9 = w10.heap.size ∧ W9.heap.size ≤ w10.heap.size) := by
    have b5 : Below w10.heap.size w10 W10 := by rw [hW10]; exact setL_below (Nat.le_refl _) _ _ _ (bel_alloc _ _)
    exact ⟨i1, i2, b5, by rw [hW10, hB10, show cac C (some ⟨hx1, 0, none⟩) (some ⟨hx2, 0, none⟩) m1 m2 m1 m2 = wrA ca0c 0 (calL C (some ⟨hx1, 0, none⟩) (some ⟨hx2, 0, none⟩) m1 m2 m1 m2) from (wr09 _ _ _ _ _ _ _ _ _ _ _ _ _ _ _ _ _ _).symm]; exact Blk.stL _ _ (Blk.new _ _ _), bel_nx b10 b5, hB10, b10.size⟩
  clear i1 i2 b10
  rename_i hK
  refine hK _ _ ?_
  clear hK
  refine wpList_alloc_any rfl 30 rfl ca0c 9 104 (by kernel_rfl) ?_
  refine wpList_store_mid rfl 30 (.tmp 9) (.tmp 38) rfl w10.heap.size 0 (cac C (some ⟨hx1, 0, none⟩) (some ⟨hx2, 0, none⟩) m1 m2 m1 m2) rfl rfl ((Blk.new w10 ca0c 30).there 0 9 (by simp)) (by kernel_rfl) (by simp [Value.oneCell']) ?_
  rw [setCells_L, ← hW10, ← hB10]
  clear hW10 hB10
  refine wpList_nil ?_
  have HB10 : Hid (Blk W10 B8 32 (lac L (some ⟨gx, 0, none⟩) n n (some ⟨gx1, 0, none⟩) (some ⟨gx2, 0, none⟩) l1 l2 l1 l2) ∧ LnR W10 n f L (some ⟨gx, 0, none⟩) (some ⟨gx1, 0, none⟩) (some ⟨gx2, 0, none⟩) l1 l2 ∧ SlI W10 (some ⟨hx1, 0, none⟩) C.ws ∧ SlB W10 (some ⟨hx2, 0, none⟩) C.bs ∧ Below w9.heap.size w9 W10 ∧ Below u8.heap.size u8 W10) := ⟨HX0.out.2.2.1.below HX1.out.2.2.2.2.1, (HX0.out.1.rd.below HX0.out.2.1).below HX1.out.2.2.2.2.1, (HX1.out.1.below HX1.out.2.2.1).sl.2, (HX1.out.2.1.below HX1.out.2.2.1).sl.2, bel_nx HX0.out.2.1 HX1.out.2.2.2.2.1, bel_nx HX0.out.2.2.2.1 HX1.out.2.2.2.2.1⟩
  go_upto_region 11 with fail
  try go_simp
  refine wp_region_lit ?_
  refine wpList_load_mid rfl 32 (.tmp 8) rfl B8 0 rfl (lacL L (some ⟨gx, 0, none⟩) n n (some ⟨gx1, 0, none⟩) (some ⟨gx2, 0, none⟩) l1 l2 l1 l2) _ (HB10.out.1).all Try.underlying32 rfl (by kernel_rfl) ?_
  refine wpList_load_mid rfl 30 (.tmp 9) rfl B9 0 rfl (calL C (some ⟨hx1, 0, none⟩) (some ⟨hx2, 0, none⟩) m1 m2 m1 m2) _ (HX1.out.2.2.2.1).all Try.underlying30 rfl (by kernel_rfl) ?_
  go_wp2_with fail
  refine (HIP.out _ (some ⟨gx, 0, none⟩) n (some ⟨gx1, 0, none⟩) (some ⟨gx2, 0, none⟩) l1 l2 (some ⟨hx1, 0, none⟩) (some ⟨hx2, 0, none⟩) m1 m2 HB10.out.2.1 HB10.out.2.2.1 HB10.out.2.2.2.1).mono ?_
  rintro e w11 ⟨a7, cp7, r7, t7, c7, d7, rfl, P11, b11⟩
  obtain ⟨W11, hW11⟩ : ∃ W11, W11 = setL (w11.alloc (.cells lzc 32)) w11.heap.size 0 (lacL L a7 n' cp7 r7 t7 l1 l2 c7 d7) := ⟨_, rfl⟩
  obtain ⟨B10, hB11⟩ : ∃ B10, B10 = w11.heap.size := ⟨_, rfl⟩
  have HG : Hid (LnP w11 W10.heap.size n' f' L a7 cp7 r7 t7 l1 l2 c7 d7 ∧ Below w11.heap.size w11 W11 ∧ Blk W11 B10 32 (lac L a7 n' cp7 r7 t7 l1 l2 c7 d7) ∧ Below W10.heap.size W10 W11 ∧ B10 = w11.heap.size ∧ W10.heap.size ≤ w11.heap.size) := by
    have b5 : Below w11.heap.size w11 W11 := by rw [hW11]; exact setL_below (Nat.le_refl _) _ _ _ (bel_alloc _ _)
    exact ⟨P11.p, b5, by rw [hW11, hB11, show lac L a7 n' cp7 r7 t7 l1 l2 c7 d7 = wrA lzc 0 (lacL L a7 n' cp7 r7 t7 l1 l2 c7 d7) from (lwr0_17 _ _ _ _ _ _ _ _ _ _ _ _ _ _ _ _ _ _ _ _ _ _ _ _ _ _ _ _ _ _ _ _ _ _).symm]; exact Blk.stL _ _ (Blk.new _ _ _), bel_nx b11 b5, hB11, b11.size⟩
  clear P11 b11
  rename_i hK
  refine hK _ _ ?_
  clear hK
  refine wpList_move_any rfl (.tmp 42) rfl _ rfl ?_
  refine wpList_ext_any rfl (.tmp 39) 0 rfl #[.agg (lac L a7 n' cp7 r7 t7 l1 l2 c7 d7), .bool b] (.agg (lac L a7 n' cp7 r7 t7 l1 l2 c7 d7)) rfl rfl ?_
  refine wpList_ext_any rfl (.tmp 39) 1 rfl #[.agg (lac L a7 n' cp7 r7 t7 l1 l2 c7 d7), .bool b] (.bool b) rfl rfl ?_
  refine wpList_alloc_any rfl 32 rfl lzc 17 184 (by kernel_rfl) ?_
  refine wpList_store_mid rfl 32 (.tmp 10) (.tmp 43) rfl w11.heap.size 0 (lac L a7 n' cp7 r7 t7 l1 l2 c7 d7) rfl rfl ((Blk.new w11 lzc 32).there 0 17 (by simp)) (by kernel_rfl) (by simp [Value.oneCell']) ?_
  rw [setCells_L, ← hW11, ← hB11]
  clear hW11 hB11
  have HA : Hid ((Blk W11 B 50 (lac L a n cp a1 a2 l1 l2 c1 c2) ∧ Blk W11 (B + 1) 48 (cac C q1 q2 m1 m2 k1 k2) ∧ Below w.heap.size w W11) ∧ Below u8.heap.size u8 W11 ∧ Below w9.heap.size w9 W11 ∧ Below w10.heap.size w10 W11 ∧ Blk W11 B8 32 (lac L (some ⟨gx, 0, none⟩) n n (some ⟨gx1, 0, none⟩) (some ⟨gx2, 0, none⟩) l1 l2 l1 l2) ∧ Blk W11 B9 30 (cac C (some ⟨hx1, 0, none⟩) (some ⟨hx2, 0, none⟩) m1 m2 m1 m2)) := by
    have b := HG.out.2.2.2.1
    have bu := bel_nx HB10.out.2.2.2.2.2 b
    exact ⟨⟨H9.out.1.below bu, H9.out.2.1.below bu, bel_nx H9.out.2.2 bu⟩, bu, bel_nx HB10.out.2.2.2.2.1 b, bel_nx HX1.out.2.2.1 b, HB10.out.1.below b, HX1.out.2.2.2.1.below b⟩
  clear HB10
  go_upto_region 12 with fail
  try go_simp
  refine wp_region_lit ?_
  refine wpList_load_mid rfl 32 (.tmp 10) rfl B10 0 rfl (lacL L a7 n' cp7 r7 t7 l1 l2 c7 d7) _ (HG.out.2.2.1).all Try.underlying32 rfl (by kernel_rfl) ?_
  refine wpList_load_mid rfl 32 (.tmp 6) rfl gu8 0 rfl (lacL L a6 n' cp6 r6 t6 l1 l2 c6 d6) _ (HS.out.1.below HA.out.2.1).all Try.underlying32 rfl (by kernel_rfl) ?_
  go_wp2_with fail
  refine (eqLine_true L a7 r7 t7 a6 r6 t6 n' cp7 l1 l2 c7 d7 cp6 l1 l2 c6 d6 f' _ (HG.out.1.rd.below HG.out.2.1) (HS.out.2.below HA.out.2.1) HH.out.2.2.1 hl1 hl2).mono ?_
  rintro e w12 ⟨rfl, b12⟩
  go_upto_region 14 with fail
  try go_simp
  refine wp_region_any (by kernel_rfl) ?_
  refine wpAny_vals (fun u => Below w12.heap.size w12 u) (fun i v u => match i with
    | 0 => v = .agg (lac L (some ⟨gx, 0, none⟩) n n (some ⟨gx1, 0, none⟩) (some ⟨gx2, 0, none⟩) l1 l2 l1 l2)
    | 1 => v = .agg (lac L a n cp a1 a2 l1 l2 c1 c2)
    | 2 => ∃ x x1 x2, v = .agg (lac L (some ⟨x, 0, none⟩) n n (some ⟨x1, 0, none⟩) (some ⟨x2, 0, none⟩) l1 l2 l1 l2) ∧ LnR u n f L (some ⟨x, 0, none⟩) (some ⟨x1, 0, none⟩) (some ⟨x2, 0, none⟩) l1 l2
    | 3 => v = .bool true
    | 4 => v = .bool false
    | _ => True) (by kernel_rfl) (by kernel_rfl) ?_ (by first | exact Below.refl _ _ | exact (Below.refl _ _).drew) ?_ ?_ _ _ rfl (by decide) (fun i => by simp [Array.getD]; try (split <;> rfl))
  · intro i v u u' h hb
    match i with
    | 0 => exact h
    | 1 => exact h
    | 2 =>
      obtain ⟨x, x1, x2, e, hl⟩ := h
      exact ⟨x, x1, x2, e, hl.below hb⟩
    | 3 => exact h
    | 4 => exact h
    | _ + 5 => trivial
  rotate_left
  · intro u i o ρ hR ho hρ hc hf hd
    have hi : i < 5 := by
      have := (Array.getElem?_eq_some_iff.1 ho).1
      simpa using this
    obtain rfl | rfl | rfl | rfl | rfl : i = 0 ∨ i = 1 ∨ i = 2 ∨ i = 3 ∨ i = 4 := by omega
    all_goals (simp only [List.getElem?_toArray, List.getElem?_cons_zero, List.getElem?_cons_succ, Option.some.injEq] at ho; subst ho)
    · have s5 : ρ (.tmp 8) = .pointer (some ⟨B8, 0, none⟩) := (hρ 8 (by kernel_rfl)).trans rfl
      exact .inl ⟨rfl, .inl ⟨_, u, run_load_op rfl s5 (run_loadAt_mid u B8 0 32 (lacL L (some ⟨gx, 0, none⟩) n n (some ⟨gx1, 0, none⟩) (some ⟨gx2, 0, none⟩) l1 l2 l1 l2) _ ((HA.out.2.2.2.2.1.below b12).below hR).all Try.underlying32 rfl (by kernel_rfl)), rfl, hR, Below.refl _ _⟩⟩
    · have s1 : ρ (.tmp 2) = .pointer (some ⟨B, 0, none⟩) := (hρ 2 (by kernel_rfl)).trans rfl
      exact .inl ⟨rfl, .inl ⟨_, u, run_load_op rfl s1 (run_loadAt_mid u B 0 50 (lacL L a n cp a1 a2 l1 l2 c1 c2) _ ((HA.out.1.1.below b12).below hR).all Try.underlying50 rfl (by kernel_rfl)), rfl, hR, Below.refl _ _⟩⟩
    · have h1 : ρ (.tmp 55) = .agg (lac L a n cp a1 a2 l1 l2 c1 c2) := hd ⟨1, .data⟩ (by simp) rfl 55 rfl
      refine .inl ⟨rfl, .inr ⟨_, _, run_call_op rfl (hf _) (args := #[.agg (lac L a n cp a1 a2 l1 l2 c1 c2)]) (by simp [h1]) (by kernel_rfl), ?_⟩⟩
      refine (toLine_any L a a1 a2 n cp l1 l2 c1 c2 f _ (HH.out.1.below (bel_nx (bel_nx HA.out.1.2.2 b12) hR)) HH.out.2.1 hl1 hl2).mono ?_
      rintro e u' ⟨x, x1, x2, he, P7, b'⟩
      exact ⟨_, he, ⟨x, x1, x2, rfl, P7.rd⟩, bel_nx hR b', b'⟩
    · have h0 : ρ (.tmp 54) = .agg (lac L (some ⟨gx, 0, none⟩) n n (some ⟨gx1, 0, none⟩) (some ⟨gx2, 0, none⟩) l1 l2 l1 l2) := hd ⟨0, .data⟩ (by simp) rfl 54 rfl
      obtain ⟨x, x1, x2, hv, hl⟩ : ∃ x x1 x2, ρ (.tmp 56) = .agg (lac L (some ⟨x, 0, none⟩) n n (some ⟨x1, 0, none⟩) (some ⟨x2, 0, none⟩) l1 l2 l1 l2) ∧ LnR u n f L (some ⟨x, 0, none⟩) (some ⟨x1, 0, none⟩) (some ⟨x2, 0, none⟩) l1 l2 := hd ⟨2, .data⟩ (by simp) rfl 56 rfl
      refine .inl ⟨rfl, .inr ⟨_, _, run_call_op rfl (hf _) (args := #[.agg (lac L (some ⟨gx, 0, none⟩) n n (some ⟨gx1, 0, none⟩) (some ⟨gx2, 0, none⟩) l1 l2 l1 l2), .agg (lac L (some ⟨x, 0, none⟩) n n (some ⟨x1, 0, none⟩) (some ⟨x2, 0, none⟩) l1 l2 l1 l2)]) (by simp [h0, hv]) (by kernel_rfl), ?_⟩⟩
      refine (eqLine_true L _ _ _ _ _ _ n n l1 l2 l1 l2 n l1 l2 l1 l2 f _ (((HX0.out.1.rd.below HA.out.2.2.1).below b12).below hR) hl HH.out.2.1 hl1 hl2).mono ?_
      rintro e u' ⟨he, b'⟩
      exact ⟨_, he, rfl, bel_nx hR b', b'⟩
    · have h3 : ρ (.tmp 57) = .bool true := hd ⟨3, .data⟩ (by simp) rfl 57 rfl
      exact .inl ⟨rfl, .inl ⟨.bool false, u, run_un_op rfl h3 (by go_simp), rfl, hR, Below.refl _ _⟩⟩
  intro vs u14 hR hall
  have e4 : vs 4 = .bool false := hall 4 (by simp)
  simp only [putsL]
  rw [e4]
  clear hall e4
  have b14 : Below W11.heap.size W11 u14 := bel_nx b12 hR
  clear b12 hR
  go_upto_region 16 with fail
  try go_simp
  refine wp_region_any (by kernel_rfl) ?_
  refine wpAny_vals (fun u => Below u14.heap.size u14 u) (fun i v u => match i with
    | 0 => v = .agg (cac C (some ⟨hx1, 0, none⟩) (some ⟨hx2, 0, none⟩) m1 m2 m1 m2)
    | 1 => v = .agg (cac C q1 q2 m1 m2 k1 k2)
    | 2 => ∃ x1 x2, v = .agg (cac C (some ⟨x1, 0, none⟩) (some ⟨x2, 0, none⟩) m1 m2 m1 m2) ∧ SlI u (some ⟨x1, 0, none⟩) C.ws ∧ SlB u (some ⟨x2, 0, none⟩) C.bs
    | 3 => v = .bool true
    | 4 => v = .bool false
    | _ => True) (by kernel_rfl) (by kernel_rfl) ?_ (by first | exact Below.refl _ _ | exact (Below.refl _ _).drew) ?_ ?_ _ _ rfl (by decide) (fun i => by simp [Array.getD]; try (split <;> rfl))
  · intro i v u u' h hb
    match i with
    | 0 => exact h
    | 1 => exact h
    | 2 =>
      obtain ⟨x1, x2, e, h1, h2⟩ := h
      exact ⟨x1, x2, e, h1.below hb, h2.below hb⟩
    | 3 => exact h
    | 4 => exact h
    | _ + 5 => trivial
  rotate_left
  · intro u i o ρ hR ho hρ hc hf hd
    have hi : i < 5 := by
      have := (Array.getElem?_eq_some_iff.1 ho).1
      simpa using this
    obtain rfl | rfl | rfl | rfl | rfl : i = 0 ∨ i = 1 ∨ i = 2 ∨ i = 3 ∨ i = 4 := by omega
    all_goals (simp only [List.getElem?_toArray, List.getElem?_cons_zero, List.getElem?_cons_succ, Option.some.injEq] at ho; subst ho)
    · have s5 : ρ (.tmp 9) = .pointer (some ⟨B9, 0, none⟩) := (hρ 9 (by kernel_rfl)).trans rfl
      exact .inl ⟨rfl, .inl ⟨_, u, run_load_op rfl s5 (run_loadAt_mid u B9 0 30 (calL C (some ⟨hx1, 0, none⟩) (some ⟨hx2, 0, none⟩) m1 m2 m1 m2) _ ((HA.out.2.2.2.2.2.below b14).below hR).all Try.underlying30 rfl (by kernel_rfl)), rfl, hR, Below.refl _ _⟩⟩
    · have s1 : ρ (.tmp 3) = .pointer (some ⟨(B + 1), 0, none⟩) := (hρ 3 (by kernel_rfl)).trans rfl
      exact .inl ⟨rfl, .inl ⟨_, u, run_load_op rfl s1 (run_loadAt_mid u (B + 1) 0 48 (calL C q1 q2 m1 m2 k1 k2) _ ((HA.out.1.2.1.below b14).below hR).all Try.underlying48 rfl (by kernel_rfl)), rfl, hR, Below.refl _ _⟩⟩
    · have h1 : ρ (.tmp 60) = .agg (cac C q1 q2 m1 m2 k1 k2) := hd ⟨1, .data⟩ (by simp) rfl 60 rfl
      refine .inl ⟨rfl, .inr ⟨_, _, run_call_op rfl (hf _) (args := #[.agg (cac C q1 q2 m1 m2 k1 k2)]) (by simp [h1]) (by kernel_rfl), ?_⟩⟩
      refine (toCall_any C q1 q2 m1 m2 k1 k2 _ HC.out.1 HC.out.2.1 (HC.out.2.2.1.below (bel_nx (bel_nx HA.out.1.2.2 b14) hR)) (HC.out.2.2.2.below (bel_nx (bel_nx HA.out.1.2.2 b14) hR)) hm1 hm2).mono ?_
      rintro e u' ⟨x1, x2, he, i1, i2, b'⟩
      exact ⟨_, he, ⟨x1, x2, rfl, i1.sl.2, i2.sl.2⟩, bel_nx hR b', b'⟩
    · have h0 : ρ (.tmp 59) = .agg (cac C (some ⟨hx1, 0, none⟩) (some ⟨hx2, 0, none⟩) m1 m2 m1 m2) := hd ⟨0, .data⟩ (by simp) rfl 59 rfl
      obtain ⟨x1, x2, hv, hl1', hl2'⟩ : ∃ x1 x2, ρ (.tmp 61) = .agg (cac C (some ⟨x1, 0, none⟩) (some ⟨x2, 0, none⟩) m1 m2 m1 m2) ∧ SlI u (some ⟨x1, 0, none⟩) C.ws ∧ SlB u (some ⟨x2, 0, none⟩) C.bs := hd ⟨2, .data⟩ (by simp) rfl 61 rfl
      refine .inl ⟨rfl, .inr ⟨_, _, run_call_op rfl (hf _) (args := #[.agg (cac C (some ⟨hx1, 0, none⟩) (some ⟨hx2, 0, none⟩) m1 m2 m1 m2), .agg (cac C (some ⟨x1, 0, none⟩) (some ⟨x2, 0, none⟩) m1 m2 m1 m2)]) (by simp [h0, hv]) (by kernel_rfl), ?_⟩⟩
      refine (eqCall_true C _ _ _ _ m1 m2 m1 m2 m1 m2 _ HC.out.1 HC.out.2.1 (((HX1.out.1.below HA.out.2.2.2.1).below b14).below hR).sl.2 (((HX1.out.2.1.below HA.out.2.2.2.1).below b14).below hR).sl.2 hl1' hl2' (by have := HC.out.1; omega) (by have := HC.out.2.1; omega)).mono ?_
      rintro e u' ⟨he, b'⟩
      exact ⟨_, he, rfl, bel_nx hR b', b'⟩
    · have h3 : ρ (.tmp 62) = .bool true := hd ⟨3, .data⟩ (by simp) rfl 62 rfl
      exact .inl ⟨rfl, .inl ⟨.bool false, u, run_un_op rfl h3 (by go_simp), rfl, hR, Below.refl _ _⟩⟩
  intro vs u16 hR hall
  have e4 : vs 4 = .bool false := hall 4 (by simp)
  simp only [putsL]
  rw [e4]
  clear hall e4
  have b16 : Below W11.heap.size W11 u16 := bel_nx b14 hR
  clear b14 hR
  go_upto_region 19 with fail
  try go_simp
  refine wp_region_lit ?_
  refine wpList_load_mid rfl 32 (.tmp 8) rfl B8 0 rfl (lacL L (some ⟨gx, 0, none⟩) n n (some ⟨gx1, 0, none⟩) (some ⟨gx2, 0, none⟩) l1 l2 l1 l2) _ (HA.out.2.2.2.2.1.below b16).all Try.underlying32 rfl (by kernel_rfl) ?_
  go_wp2_with fail
  refine (markLine_any L (some ⟨gx, 0, none⟩) (some ⟨gx1, 0, none⟩) (some ⟨gx2, 0, none⟩) n n l1 l2 l1 l2 u8.heap.size 1 f w9.heap.size _ (HX0.out.1.pb.below (bel_nx HA.out.2.2.1 b16)) (bel_nx HA.out.2.1 b16).size (by omega) HH.out.2.2.2.2.1).mono ?_
  rintro e w19 ⟨rfl, _, bl19, kp19⟩
  rw [← HK.out.1]
  have HM : Hid (Below u8.heap.size u8 w19 ∧ Keep w9.heap.size W11 w19) := ⟨(bel_nx HA.out.2.1 b16).trans bl19, (Keep.below b16).trans kp19⟩
  clear bl19 kp19 b16
  have HM2 : Hid (OwnI w19 W9.heap.size (.slice (some ⟨hx1, 0, none⟩) m1 m1) C.ws ∧ OwnB w19 W9.heap.size (.slice (some ⟨hx2, 0, none⟩) m2 m2) C.bs ∧ Blk w19 B9 30 (cac C (some ⟨hx1, 0, none⟩) (some ⟨hx2, 0, none⟩) m1 m2 m1 m2) ∧ W9.heap.size ≤ w19.heap.size) := by
    have hz := HX0.out.2.1.size
    have hz1 := HX1.out.2.2.2.2.2
    exact ⟨HM.out.2.row (HX1.out.1.below HA.out.2.2.2.1) hz, HM.out.2.row (HX1.out.2.1.below HA.out.2.2.2.1) hz, HM.out.2.blk HA.out.2.2.2.2.2 (by omega), by have := HM.out.2.1; have := HA.out.2.2.2.1.size; omega⟩
  go_upto_region 20 with fail
  try go_simp
  refine wp_region_lit ?_
  refine wpList_load_mid rfl 30 (.tmp 9) rfl B9 0 rfl (calL C (some ⟨hx1, 0, none⟩) (some ⟨hx2, 0, none⟩) m1 m2 m1 m2) _ (HM2.out.2.2.1).all Try.underlying30 rfl (by kernel_rfl) ?_
  go_wp2_with fail
  refine (markCallL C (some ⟨hx1, 0, none⟩) (some ⟨hx2, 0, none⟩) m1 m2 m1 m2 W9.heap.size K1 C.ws C.bs _ HM2.out.1 HM2.out.2.1 HM2.out.2.2.2 HK.out.2.2.2.2.1 HK.out.2.2.2.2.2 HK.out.2.2.2.1).mono ?_
  rintro e w20 ⟨rfl, mk⟩
  rw [← HK.out.2.1]
  have H20 : Hid (Below u8.heap.size u8 w20 ∧ Keep w10.heap.size W11 w20) := by
    have hz := HX0.out.2.2.2.1.size
    have h1 := HX1.out.2.2.2.2.2
    have hz2 := HX0.out.2.1.size
    refine ⟨HM.out.1.trans (mk.2.2.2.mono hz), (HM.out.2.mono (by omega)).trans (mk.2.2.1.keep (fun k hk => (World.ownsRow.lt HX1.out.1 k hk).2) (fun k hk => (World.ownsRow.lt HX1.out.2.1 k hk).2))⟩
  have H21 : Hid (Blk w20 B10 32 (lac L a7 n' cp7 r7 t7 l1 l2 c7 d7) ∧ LnPB w20 W10.heap.size w11.heap.size n' f' L a7 cp7 r7 t7 l1 l2 c7 d7) := by
    have hz1 := HX1.out.2.2.1.size
    have hz2 := HG.out.2.2.2.2
    exact ⟨H20.out.2.blk HG.out.2.2.1 (by omega), (HG.out.1.pb.below HG.out.2.1).keep H20.out.2 hz1⟩
  have hK2 : ¬ (K2 : Int) < 0 := by omega
  clear mk HM2
  go_upto_region 21 with fail
  try go_simp
  refine wp_region_lit ?_
  refine wpList_move_any rfl (.tmp 12) rfl (.int .i64 (K2 : Int)) rfl ?_
  refine wpList_run_any rfl (.bool false) (run_bin_op rfl rfl rfl (by go_simp)) ?_
  refine wpList_move_any rfl (.tmp 71) rfl (.bool false) rfl ?_
  refine wpList_load_g (by rfl) 32 (.tmp 10) rfl B10 0 rfl (lacL L a7 n' cp7 r7 t7 l1 l2 c7 d7) _ H21.out.1.all Try.underlying32 rfl (by kernel_rfl) ?_
  refine wpList_load_g (by rfl) 32 (.tmp 6) rfl gu8 0 rfl (lacL L a6 n' cp6 r6 t6 l1 l2 c6 d6) _ (HS.out.1.below H20.out.1).all Try.underlying32 rfl (by kernel_rfl) ?_
  go_wp2_with fail
  refine (eqLine_true L a7 r7 t7 a6 r6 t6 n' cp7 l1 l2 c7 d7 cp6 l1 l2 c6 d6 f' _ H21.out.2.p.rd (HS.out.2.below H20.out.1) HH.out.2.2.1 hl1 hl2).mono ?_
  rintro e w21 ⟨rfl, b21⟩
  have H22 : Hid (Below u8.heap.size u8 w21 ∧ Blk w21 B10 32 (lac L a7 n' cp7 r7 t7 l1 l2 c7 d7) ∧ LnPB w21 W10.heap.size w11.heap.size n' f' L a7 cp7 r7 t7 l1 l2 c7 d7 ∧ W10.heap.size ≤ w21.heap.size ∧ u8.heap.size ≤ W10.heap.size ∧ B10 = w11.heap.size) := ⟨bel_nx H20.out.1 b21, H21.out.1.below b21, H21.out.2.below b21, by have := H20.out.2.1; have := b21.size; have := HG.out.2.2.2.1.size; omega, by have := HX0.out.2.2.2.1.size; have := HX1.out.2.2.2.2.1.size; omega, HG.out.2.2.2.2.1⟩
  clear b21 H21 H20 HM
  go_upto_region 24 with fail
  try go_simp
  refine wp_region_lit ?_
  refine wpList_load_mid rfl 32 (.tmp 10) rfl B10 0 rfl (lacL L a7 n' cp7 r7 t7 l1 l2 c7 d7) _ (H22.out.2.1).all Try.underlying32 rfl (by kernel_rfl) ?_
  go_wp2_with fail
  refine (markLine_any L a7 r7 t7 n' cp7 l1 l2 c7 d7 W10.heap.size 1 f' w11.heap.size _ H22.out.2.2.1 H22.out.2.2.2.1 (by omega) HH.out.2.2.2.1).mono ?_
  rintro e w24 ⟨rfl, P24, bl24, kp24⟩
  rw [← HK.out.2.2.1]
  have H24 : Hid (Below u8.heap.size u8 w24 ∧ Blk w24 B10 32 (lac L a7 n' cp7 r7 t7 l1 l2 c7 d7) ∧ LnR w24 n' (fun k => mkCa (msCa 1 f' k) (f' k)) (mkL (msCa 1 f' n') L) a7 r7 t7 l1 l2) := ⟨H22.out.1.trans (bl24.mono H22.out.2.2.2.2.1), kp24.blk H22.out.2.1 (by have := H22.out.2.2.2.2.2; omega), P24.rd⟩
  have hK3 : ¬ (K3 : Int) < 0 := by omega
  clear P24 bl24 kp24 H22
  go_upto_region 26 with fail
  try go_simp
  refine wp_region_lit ?_
  refine wpList_load_mid rfl 32 (.tmp 10) rfl B10 0 rfl (lacL L a7 n' cp7 r7 t7 l1 l2 c7 d7) _ (H24.out.2.1).all Try.underlying32 rfl (by kernel_rfl) ?_
  go_wp2_with fail
  refine (heldLine_any L a7 r7 t7 n' cp7 l1 l2 c7 d7 1 f' _ H24.out.2.2 (by omega) HH.out.2.2.2.1 _ rfl).mono ?_
  rintro e w26 ⟨rfl, b26⟩
  rw [← HK.out.2.2.1]
  have H26 : Hid ((Blk w26 B 50 (lac L a n cp a1 a2 l1 l2 c1 c2) ∧ Blk w26 (B + 1) 48 (cac C q1 q2 m1 m2 k1 k2) ∧ Below w.heap.size w w26) ∧ Below u8.heap.size u8 w26 ∧ Blk w26 B10 32 (lac L a7 n' cp7 r7 t7 l1 l2 c7 d7) ∧ LnR w26 n' (fun k => mkCa (msCa 1 f' k) (f' k)) (mkL (msCa 1 f' n') L) a7 r7 t7 l1 l2) := by
    have bu := bel_nx H24.out.1 b26
    exact ⟨⟨H9.out.1.below bu, H9.out.2.1.below bu, bel_nx H9.out.2.2 bu⟩, bu, H24.out.2.1.below b26, H24.out.2.2.below b26⟩
  clear b26 H24 HA
  go_upto_region 31 with fail
  try go_simp
  refine wp_region_any (by kernel_rfl) ?_
  refine wpAny_valy (RgP w26 15 (StL w26.heap.size n' f' L l1 l2)) (MgP w26.heap.size) (fun i v u => match i with
    | 0 => v = .agg (lac L a n cp a1 a2 l1 l2 c1 c2)
    | 1 => ∃ aa ap b1 b2 y1 y2, v = .agg (lac L aa n ap b1 b2 l1 l2 y1 y2) ∧ LnP u w26.heap.size n f L aa ap b1 b2 l1 l2 y1 y2
    | 2 => v = .agg (cac C q1 q2 m1 m2 k1 k2)
    | 3 => ∃ b1 b2 y1 y2, v = .agg (cac C b1 b2 m1 m2 y1 y2) ∧ OwnI u w26.heap.size (.slice b1 m1 y1) C.ws ∧ OwnB u w26.heap.size (.slice b2 m2 y2) C.bs
    | 4 => ∃ aa ap b1 b2 y1 y2, v = .tuple #[.agg (lac L aa n' ap b1 b2 l1 l2 y1 y2), .bool b] ∧ LnP u w26.heap.size n' f' L aa ap b1 b2 l1 l2 y1 y2
    | 5 => ∃ aa ap b1 b2 y1 y2, v = .tuple #[.agg (lac L aa n' ap b1 b2 l1 l2 y1 y2), .bool b] ∧ LnP u w26.heap.size n' f' L aa ap b1 b2 l1 l2 y1 y2
    | 6 => ∃ aa ap b1 b2 y1 y2, v = .agg (lac L aa n' ap b1 b2 l1 l2 y1 y2) ∧ LnP u w26.heap.size n' f' L aa ap b1 b2 l1 l2 y1 y2
    | 7 => v = .bool b
    | 8 => True
    | 10 => v = .bool b
    | _ => True) (by kernel_rfl) (by kernel_rfl) ?_ (fun u => .inl (Below.refl _ _)) ⟨by first | exact Below.refl _ _ | exact (Below.refl _ _).drew, fun h => by cases h⟩ ?_ ?_ _ _ rfl (by decide) (fun i => by simp [Array.getD]; try (split <;> rfl))
  · intro i v u u' h hm
    match i with
    | 0 => exact h
    | 1 =>
      obtain ⟨aa, ap, b1, b2, y1, y2, e, hl⟩ := h
      exact ⟨aa, ap, b1, b2, y1, y2, e, hm.ln hl⟩
    | 2 => exact h
    | 3 =>
      obtain ⟨b1, b2, y1, y2, e, h1, h2⟩ := h
      exact ⟨b1, b2, y1, y2, e, hm.i h1, hm.b h2⟩
    | 4 =>
      obtain ⟨aa, ap, b1, b2, y1, y2, e, hl⟩ := h
      exact ⟨aa, ap, b1, b2, y1, y2, e, hm.ln hl⟩
    | 5 =>
      obtain ⟨aa, ap, b1, b2, y1, y2, e, hl⟩ := h
      exact ⟨aa, ap, b1, b2, y1, y2, e, hm.ln hl⟩
    | 6 =>
      obtain ⟨aa, ap, b1, b2, y1, y2, e, hl⟩ := h
      exact ⟨aa, ap, b1, b2, y1, y2, e, hm.ln hl⟩
    | 7 => exact h
    | 8 => trivial
    | 9 => trivial
    | 10 => exact h
    | _ + 11 => trivial
  rotate_left
  · intro u i o ρ l hR ho hli hcl hρ hc hf hdep hv
    have hi : i < 11 := by
      have := (Array.getElem?_eq_some_iff.1 ho).1
      simpa using this
    obtain rfl | rfl | rfl | rfl | rfl | rfl | rfl | rfl | rfl | rfl | rfl : i = 0 ∨ i = 1 ∨ i = 2 ∨ i = 3 ∨ i = 4 ∨ i = 5 ∨ i = 6 ∨ i = 7 ∨ i = 8 ∨ i = 9 ∨ i = 10 := by omega
    all_goals (simp only [List.getElem?_toArray, List.getElem?_cons_zero, List.getElem?_cons_succ, Option.some.injEq] at ho; subst ho)
    · have s1 : ρ (.tmp 2) = .pointer (some ⟨B, 0, none⟩) := (hρ 2 (by kernel_rfl)).trans rfl
      exact .inl ⟨rfl, .inl ⟨_, u, run_load_op rfl s1 (run_loadAt_mid u B 0 50 (lacL L a n cp a1 a2 l1 l2 c1 c2) _ ((H26.out.1.1).below hR.1).all Try.underlying50 rfl (by kernel_rfl)), rfl, (hR.next (i := 0) (d := 95) (by decide) (by decide) (by decide) (Below.refl _ _) (fun _ h => h)), .inl (Below.refl _ _)⟩⟩
    · have h0 : ρ (.tmp 95) = .agg (lac L a n cp a1 a2 l1 l2 c1 c2) := hv 0 95 rfl (hdep ⟨0, .data⟩ (by simp) rfl)
      refine .inl ⟨rfl, .inr (.inl ⟨_, _, run_call_op rfl (hf _) (args := #[.agg (lac L a n cp a1 a2 l1 l2 c1 c2)]) (by simp [h0]) (by kernel_rfl), ?_⟩)⟩
      refine (toLine_any L a a1 a2 n cp l1 l2 c1 c2 f _ (HH.out.1.below (bel_nx (H26.out.1.2.2) hR.1)) HH.out.2.1 hl1 hl2).mono ?_
      rintro e u' ⟨x, x1, x2, he, P7, b'⟩
      exact ⟨_, he, ⟨_, _, _, _, _, _, rfl, P7.mono hR.1.size⟩, (hR.next (i := 1) (d := 96) (by decide) (by decide) (by decide) b' (fun _ h => h.below b')), .inl b'⟩
    · have s1 : ρ (.tmp 3) = .pointer (some ⟨B + 1, 0, none⟩) := (hρ 3 (by kernel_rfl)).trans rfl
      exact .inl ⟨rfl, .inl ⟨_, u, run_load_op rfl s1 (run_loadAt_mid u (B + 1) 0 48 (calL C q1 q2 m1 m2 k1 k2) _ ((H26.out.1.2.1).below hR.1).all Try.underlying48 rfl (by kernel_rfl)), rfl, (hR.next (i := 2) (d := 97) (by decide) (by decide) (by decide) (Below.refl _ _) (fun _ h => h)), .inl (Below.refl _ _)⟩⟩
    · have h0 : ρ (.tmp 97) = .agg (cac C q1 q2 m1 m2 k1 k2) := hv 2 97 rfl (hdep ⟨2, .data⟩ (by simp) rfl)
      refine .inl ⟨rfl, .inr (.inl ⟨_, _, run_call_op rfl (hf _) (args := #[.agg (cac C q1 q2 m1 m2 k1 k2)]) (by simp [h0]) (by kernel_rfl), ?_⟩)⟩
      refine (toCall_any C q1 q2 m1 m2 k1 k2 _ HC.out.1 HC.out.2.1 (HC.out.2.2.1.below (bel_nx (H26.out.1.2.2) hR.1)) (HC.out.2.2.2.below (bel_nx (H26.out.1.2.2) hR.1)) hm1 hm2).mono ?_
      rintro e u' ⟨x1, x2, he, i1, i2, b'⟩
      exact ⟨_, he, ⟨_, _, _, _, rfl, OwnI.mono (show OwnI _ _ _ _ from i1) hR.1.size, OwnB.mono (show OwnB _ _ _ _ from i2) hR.1.size⟩, (hR.next (i := 3) (d := 98) (by decide) (by decide) (by decide) b' (fun _ h => h.below b')), .inl b'⟩
    · obtain ⟨aa, ap, b1, b2, y1, y2, h1, hl⟩ : ∃ aa ap b1 b2 y1 y2, ρ (.tmp 96) = .agg (lac L aa n ap b1 b2 l1 l2 y1 y2) ∧ LnP u w26.heap.size n f L aa ap b1 b2 l1 l2 y1 y2 := hv 1 96 rfl (hdep ⟨1, .data⟩ (by simp) rfl)
      obtain ⟨z1, z2, v1, v2, h3, o1, o2⟩ : ∃ b1 b2 y1 y2, ρ (.tmp 98) = .agg (cac C b1 b2 m1 m2 y1 y2) ∧ OwnI u w26.heap.size (.slice b1 m1 y1) C.ws ∧ OwnB u w26.heap.size (.slice b2 m2 y2) C.bs := hv 3 98 rfl (hdep ⟨3, .data⟩ (by simp) rfl)
      refine .inl ⟨rfl, .inr (.inl ⟨_, _, run_call_op rfl (hf _) (args := #[.agg (lac L aa n ap b1 b2 l1 l2 y1 y2), .agg (cac C z1 z2 m1 m2 v1 v2)]) (by simp [h1, h3]) (by kernel_rfl), ?_⟩)⟩
      refine (HIP.out u aa ap b1 b2 y1 y2 z1 z2 v1 v2 hl.rd o1.sl.2 o2.sl.2).mono ?_
      rintro e u' ⟨x, xp, x1, x2, e1, e2, he, lo, b'⟩
      exact ⟨_, he, ⟨_, _, _, _, _, _, rfl, lo.p.mono hR.1.size⟩, (hR.next (i := 4) (d := 99) (by decide) (by decide) (by decide) b' (fun _ h => h.below b')), .inl b'⟩
    · obtain ⟨aa, ap, b1, b2, y1, y2, h1, hl⟩ : ∃ aa ap b1 b2 y1 y2, ρ (.tmp 99) = .tuple #[.agg (lac L aa n' ap b1 b2 l1 l2 y1 y2), .bool b] ∧ LnP u w26.heap.size n' f' L aa ap b1 b2 l1 l2 y1 y2 := hv 4 99 rfl (hdep ⟨4, .data⟩ (by simp) rfl)
      exact .inl ⟨rfl, .inl ⟨_, u, rfl, ⟨aa, ap, b1, b2, y1, y2, h1, hl⟩, (hR.next (i := 5) (d := 94) (by decide) (by decide) (by decide) (Below.refl _ _) (fun _ h => h)), .inl (Below.refl _ _)⟩⟩
    · obtain ⟨aa, ap, b1, b2, y1, y2, h1, hl⟩ : ∃ aa ap b1 b2 y1 y2, ρ (.tmp 94) = .tuple #[.agg (lac L aa n' ap b1 b2 l1 l2 y1 y2), .bool b] ∧ LnP u w26.heap.size n' f' L aa ap b1 b2 l1 l2 y1 y2 := hv 5 94 rfl (hdep ⟨5, .data⟩ (by simp) rfl)
      exact .inl ⟨rfl, .inl ⟨_, u, run_ext_op rfl h1 rfl, ⟨aa, ap, b1, b2, y1, y2, rfl, hl⟩, (hR.next (i := 6) (d := 100) (by decide) (by decide) (by decide) (Below.refl _ _) (fun _ h => h)), .inl (Below.refl _ _)⟩⟩
    · obtain ⟨aa, ap, b1, b2, y1, y2, h1, hl⟩ : ∃ aa ap b1 b2 y1 y2, ρ (.tmp 94) = .tuple #[.agg (lac L aa n' ap b1 b2 l1 l2 y1 y2), .bool b] ∧ LnP u w26.heap.size n' f' L aa ap b1 b2 l1 l2 y1 y2 := hv 5 94 rfl (hdep ⟨5, .data⟩ (by simp) rfl)
      exact .inl ⟨rfl, .inl ⟨_, u, run_ext_op rfl h1 rfl, rfl, (hR.next (i := 7) (d := 101) (by decide) (by decide) (by decide) (Below.refl _ _) (fun _ h => h)), .inl (Below.refl _ _)⟩⟩
    · have h9 : l 9 = false := by
        cases h : l 9 with
        | false => rfl
        | true =>
          have := hcl 9 _ rfl h ⟨8, .data⟩ (by simp) rfl
          rw [hli] at this; cases this
      exact .inl ⟨rfl, .inl ⟨_, _, run_alloc_op 32 rfl lzc 17 184 (by kernel_rfl), trivial, hR.made h9, .inl (bel_alloc _ _)⟩⟩
    · obtain ⟨aa, ap, b1, b2, y1, y2, h1, hl⟩ : ∃ aa ap b1 b2 y1 y2, ρ (.tmp 100) = .agg (lac L aa n' ap b1 b2 l1 l2 y1 y2) ∧ LnP u w26.heap.size n' f' L aa ap b1 b2 l1 l2 y1 y2 := hv 6 100 rfl (hdep ⟨6, .data⟩ (by simp) rfl)
      obtain ⟨g, q1', q2', q3', _⟩ := hR.2 (hdep ⟨8, .data⟩ (by simp) rfl)
      have hz := q3' hli
      have hr : (Instr.storeAt 32 (.pointer (some ⟨g, 0, none⟩)) (.agg (lac L aa n' ap b1 b2 l1 l2 y1 y2))).run Try.prog u = .ok () (setL u g 0 (lacL L aa n' ap b1 b2 l1 l2 y1 y2)) := by
        rw [run_storeAt_mid u g 0 32 (lac L aa n' ap b1 b2 l1 l2 y1 y2) (hz.there 0 17 (by simp)) (by kernel_rfl) (by simp [Value.oneCell']), setCells_L]
      have gg : u.grownBy (setL u g 0 (lacL L aa n' ap b1 b2 l1 l2 y1 y2)) (some g) := setL_gw _ _ _
      refine .inl ⟨rfl, .inr (.inr ⟨rfl, _, run_store_op rfl q1' h1 hr, ⟨setL_below q2' _ _ _ hR.1, fun _ => ⟨g, q1', q2', fun h => (by have h9 : updB l 9 9 = true := rfl; rw [h9] at h; cases h), fun _ => ⟨aa, ap, b1, b2, y1, y2, ?_, hl.keptT gg ⟨_, hz⟩ (by decide) (by decide) (by decide)⟩⟩⟩, .inr ⟨g, gg, ⟨_, hz⟩, q2'⟩⟩)⟩
      rw [show lac L aa n' ap b1 b2 l1 l2 y1 y2 = wrA lzc 0 (lacL L aa n' ap b1 b2 l1 l2 y1 y2) from (lwr0_17 _ _ _ _ _ _ _ _ _ _ _ _ _ _ _ _ _ _ _ _ _ _ _ _ _ _ _ _ _ _ _ _ _ _).symm]; exact Blk.stL _ _ hz
    · have h0 : ρ (.tmp 101) = .bool b := hv 7 101 rfl (hdep ⟨7, .data⟩ (by simp) rfl)
      exact .inl ⟨rfl, .inl ⟨_, u, rfl, h0, (hR.next (i := 10) (d := 16) (by decide) (by decide) (by decide) (Below.refl _ _) (fun _ h => h)), .inl (Below.refl _ _)⟩⟩
  intro vs σ u31 hR hσ hall
  obtain ⟨gu31, qs, qlo, _, qst⟩ := hR.2 rfl
  have e8 : vs 8 = .pointer (some ⟨gu31, 0, none⟩) := (hσ 8 15 rfl).trans qs
  have e10 : vs 10 = .bool b := hall 10 16 rfl
  have HQu31 : Hid (StL w26.heap.size n' f' L l1 l2 u31 gu31 ∧ Below w26.heap.size w26 u31) := ⟨qst rfl, hR.1⟩
  simp only [putsL]
  rw [e8, e10]
  clear hall hσ e8 e10 qs qlo qst hR
  obtain ⟨⟨a8, cp8, r8, t8, c8, d8, X8, P8⟩, bu31⟩ := HQu31.out
  have HS2 : Hid (Blk u31 gu31 32 (lac L a8 n' cp8 r8 t8 l1 l2 c8 d8) ∧ LnR u31 n' f' L a8 r8 t8 l1 l2 ∧ Below w26.heap.size w26 u31) := ⟨X8, P8.rd, bu31⟩
  clear X8 P8 bu31 HQu31
  go_upto_region 32 with fail
  try go_simp
  refine wp_region_lit ?_
  refine wpList_load_mid rfl 32 (.tmp 15) rfl gu31 0 rfl (lacL L a8 n' cp8 r8 t8 l1 l2 c8 d8) _ (HS2.out.1).all Try.underlying32 rfl (by kernel_rfl) ?_
  refine wpList_load_mid rfl 32 (.tmp 6) rfl gu8 0 rfl (lacL L a6 n' cp6 r6 t6 l1 l2 c6 d6) _ (HS.out.1.below (bel_nx H26.out.2.1 HS2.out.2.2)).all Try.underlying32 rfl (by kernel_rfl) ?_
  go_wp2_with fail
  refine (eqLine_true L a8 r8 t8 a6 r6 t6 n' cp8 l1 l2 c8 d8 cp6 l1 l2 c6 d6 f' _ HS2.out.2.1 (HS.out.2.below (bel_nx H26.out.2.1 HS2.out.2.2)) HH.out.2.2.1 hl1 hl2).mono ?_
  rintro e w32 ⟨rfl, b32⟩
  have b33 : Below w26.heap.size w26 w32 := bel_nx HS2.out.2.2 b32
  clear b32
  go_upto_region 35 with fail
  try go_simp
  refine wp_region_lit ?_
  refine wpList_load_mid rfl 32 (.tmp 10) rfl B10 0 rfl (lacL L a7 n' cp7 r7 t7 l1 l2 c7 d7) _ (H26.out.2.2.1.below b33).all Try.underlying32 rfl (by kernel_rfl) ?_
  go_wp2_with fail
  refine (heldLine_any L a7 r7 t7 n' cp7 l1 l2 c7 d7 1 f' _ (H26.out.2.2.2.below b33) (by omega) HH.out.2.2.2.1 _ rfl).mono ?_
  rintro e w35 ⟨rfl, b35⟩
  rw [← HK.out.2.2.1]
  have HF : Hid (Below w.heap.size w w35) := bel_nx (bel_nx H26.out.1.2.2 b33) b35
  clear b35 b33 H26 HS2 HS H9
  go_wp2
  go_ret
  exact ⟨rfl, HF.out⟩

end Go.Proofs.Ytmhdneenjoelfaa
