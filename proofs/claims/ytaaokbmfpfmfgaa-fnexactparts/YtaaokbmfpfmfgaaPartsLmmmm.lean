/- The law of FnExactParts, walked. -/
import Derived.Test.YtaaokbmfpfmfgaaPQmmm
import Derived.Test.YtaaokbmfpfmfgaaArgU
import Derived.Test.YtaaokbmfpfmfgaaArgQ
import Derived.Deep.RegionWith
import Derived.Deep.Cut
import Derived.Deep.CutRange
namespace Go.Proofs.Ytaaokbmfpfmfgaa
open Go.RowKit Go.Joins

set_option linter.unusedVariables false

set_option linter.unusedSimpArgs false

theorem szReq_at (kd pl nn wa : Int) (a1 a2 : Option Addr) (l1 l2 c1 c2 : Nat) (m : Int) (w : World) (hm : m ≤ 1048576) (h : (l1 : Int) + (l2 : Int) ≤ m) :
    Calls Try.prog 23 #[.agg #[.int .i64 kd, .int .i64 pl, .int .i64 nn, .slice a1 l1 c1, .slice a2 l2 c2, .int .i64 wa], .int .i64 m] w fun e w' => e = .returned (.int .i64 (m - (l1 : Int) - (l2 : Int))) ∧ Below w.heap.size w w' := by
  have h1 : ¬ (m - (l1 : Int) < 0) := by omega
  have h2 : ¬ (m - (l1 : Int) - (l2 : Int) < 0) := by omega
  go_enter Try.func23, Try.ntmps23
  go_wp2_with (first | (go_at_call 68; go_in) | (go_at_call 69; go_in))
  go_ret
  exact ⟨rfl, bel_alloc _ _⟩

set_option maxHeartbeats 2000000 in
theorem szReq_over (kd pl nn wa : Int) (a1 a2 : Option Addr) (l1 l2 c1 c2 : Nat) (m : Int) (w : World) (hm0 : 0 ≤ m) (hm : m ≤ 1048576) (hm1 : l1 ≤ maxLen) (hm2 : l2 ≤ maxLen) (h : ¬ (l1 : Int) + (l2 : Int) ≤ m) :
    Calls Try.prog 23 #[.agg #[.int .i64 kd, .int .i64 pl, .int .i64 nn, .slice a1 l1 c1, .slice a2 l2 c2, .int .i64 wa], .int .i64 m] w fun e w' => e = .returned (.int .i64 (-1)) ∧ Below w.heap.size w w' := by
  unfold maxLen at hm1 hm2
  by_cases h1 : m - (l1 : Int) < 0
  · go_enter Try.func23, Try.ntmps23
    go_wp2_with (first | (go_at_call 68; go_in) | (go_at_call 69; go_in))
    go_ret
    exact ⟨rfl, bel_alloc _ _⟩
  · have h2 : m - (l1 : Int) - (l2 : Int) < 0 := by omega
    go_enter Try.func23, Try.ntmps23
    go_wp2_with (first | (go_at_call 68; go_in) | (go_at_call 69; go_in))
    go_ret
    exact ⟨rfl, bel_alloc _ _⟩

theorem pcOf_bd {kd pl nn wa : Int} {ws : List Int} {bs : List Bool} {x : Rn} {m1 m2 : Nat} (h : okR kd pl nn wa ws m1 m2 = true) (h1 : m1 = ws.length) (h2 : m2 = bs.length) : (pcOf kd pl ws bs x).ws.length ≤ 2000 ∧ (pcOf kd pl ws bs x).bs.length ≤ 2000 := by
  have hk := okR_kind h
  unfold okR at h
  simp only [Bool.and_eq_true] at h
  obtain ⟨_, _, h3⟩ := h
  have hw : ws.length ≤ 2000 ∧ bs.length ≤ 2000 := by
    obtain rfl | rfl | rfl | rfl | rfl | rfl | rfl | rfl | rfl | rfl := hk <;> (simp [okK, zrB, inB, fitB] at h3; omega)
  unfold pcOf pcW pcB
  simp only
  constructor
  · split
    · simp; omega
    · split
      · exact hw.1
      · simp
  · split
    · simp; omega
    · simp

theorem pm_bd (rk uk : Bool) (f : Nat → Ru) (n : Nat) (un kd pl nn wa : Int) (ws : List Int) (bs : List Bool) (m1 m2 : Nat) (h1 : m1 = ws.length) (h2 : m2 = bs.length) : PsB (pm rk (okR kd pl nn wa ws m1 m2) uk (ptsM f n un kd pl nn wa ws bs)).1 := by
  have hnil : PsB [] := ⟨by simp, fun k hk => by simp at hk⟩
  unfold pm
  cases rk with
  | false => exact hnil
  | true =>
    cases ho : okR kd pl nn wa ws m1 m2 with
    | false => exact hnil
    | true =>
      cases uk with
      | false => exact hnil
      | true =>
        simp only [Bool.and_self, cond_true]
        cases hr : ptsM f n un kd pl nn wa ws bs with
        | none => exact hnil
        | some l =>
          simp only
          by_cases h8 : l.length ≤ 8
          · rw [if_pos h8]
            refine ⟨h8, fun k hk => ?_⟩
            have hmem : l.getD k default ∈ l := by rw [List.getD_eq_getElem?_getD, List.getElem?_eq_getElem hk]; simp
            unfold ptsM at hr
            by_cases h23 : kd = 23
            · rw [if_pos h23] at hr
              have hw := (okR_m ho h1 h2).2.2.2.2.2 h23
              cases hb : bothM f n un pl nn wa ws with
              | none => rw [hb] at hr; cases hr
              | some P =>
                rw [hb] at hr
                simp only [Option.map_some, Option.some.injEq] at hr
                subst hr
                simp only [List.mem_singleton] at hmem
                rw [hmem]
                unfold bothM at hb
                split at hb
                · cases hb
                · split at hb
                  · simp only [Option.some.injEq] at hb
                    subst hb
                    simp; omega
                  · cases hb
            · rw [if_neg h23] at hr
              obtain ⟨l', _, rfl⟩ := Option.map_eq_some_iff.1 hr
              obtain ⟨x, _, hx⟩ := List.mem_map.1 hmem
              rw [← hx]
              exact pcOf_bd ho h1 h2
          · rw [if_neg h8]; exact hnil

/-- What a call of Parts has left. -/
def SPost (w wx : World) (v0 v1 : Value) (R : List Pa × Int) : Prop := v1 = .int .i64 R.2 ∧ OwnPs wx w.heap.size v0 R.1 ∧ Below w.heap.size w wx

set_option maxRecDepth 20000 in
set_option maxHeartbeats 3000000 in
theorem parts_law (a : Option Addr) (n cap : Nat) (f : Nat → Ru) (un kd pl nn wa : Int) (a1 a2 : Option Addr) (l1 l2 c1 c2 : Nat) (ws : List Int) (bs : List Bool) (w : World) (hs : SlU w a n f) (h64 : ∀ k, k < n → -9223372036854775808 ≤ (f k).sh ∧ (f k).sh ≤ 9223372036854775807) (h1 : l1 = ws.length) (h2 : l2 = bs.length) (s1 : SlI w a1 ws) (s2 : SlB w a2 bs) (hl : n + l1 + l2 ≤ 1048576) :
    Calls Try.prog 5 #[.slice a n cap, .int .i64 un, .agg #[.int .i64 kd, .int .i64 pl, .int .i64 nn, .slice a1 l1 c1, .slice a2 l2 c2, .int .i64 wa]] w fun e w' => e = .returned (.bool true) ∧ Below w.heap.size w w' := by
  obtain ⟨rk, hrk⟩ : ∃ b : Bool, b = true ↔ OkRs f n := by
    by_cases h : OkRs f n
    · exact ⟨true, fun _ => h, fun _ => rfl⟩
    · exact ⟨false, ⟨fun e => Bool.noConfusion e, fun e => absurd e h⟩⟩
  obtain ⟨uk, huk⟩ : ∃ b : Bool, b = true ↔ ∃ j, j < n ∧ (f j).u = un := by
    by_cases h : ∃ j, j < n ∧ (f j).u = un
    · exact ⟨true, fun _ => h, fun _ => rfl⟩
    · exact ⟨false, ⟨fun e => Bool.noConfusion e, fun e => absurd e h⟩⟩
  obtain ⟨R, hR⟩ : ∃ R, R = pm rk (okR kd pl nn wa ws l1 l2) uk (ptsM f n un kd pl nn wa ws bs) := ⟨_, rfl⟩
  have HBD : Hid (PsB R.1) := by rw [hR]; exact pm_bd rk uk f n un kd pl nn wa ws bs l1 l2 h1 h2
  have HC1 : Hid (∀ (u : World) (g g1 g2 : Nat), RowU u g n f → SlI u (some ⟨g1, 0, none⟩) ws → SlB u (some ⟨g2, 0, none⟩) bs → Calls Try.prog 9 #[.slice (some ⟨g, 0, none⟩) n n, .int .i64 un, .agg (rqc kd pl nn wa (some ⟨g1, 0, none⟩) (some ⟨g2, 0, none⟩) l1 l2 l1 l2)] u fun e w' => PmPost u w' e R) := by
    intro u g g1 g2 q1 q2 q3
    rw [hR]
    exact specParts_all kd _ n n f un pl nn wa _ _ l1 l2 l1 l2 ws bs u q1.sl (by omega) h1 h2 q2 q3 (by omega) (by omega) (Nat.le_refl _) (Nat.le_refl _) rk uk hrk huk
  have HC2 : Hid (∀ (u : World) (g g1 g2 : Nat), RowU u g n f → SlI u (some ⟨g1, 0, none⟩) ws → SlB u (some ⟨g2, 0, none⟩) bs → Calls Try.prog 8 #[.slice (some ⟨g, 0, none⟩) n n, .int .i64 un, .agg (rqc kd pl nn wa (some ⟨g1, 0, none⟩) (some ⟨g2, 0, none⟩) l1 l2 l1 l2)] u fun e w' => PmPost u w' e R) := by
    intro u g g1 g2 q1 q2 q3
    rw [hR]
    exact implParts_all kd _ n n f un pl nn wa _ _ l1 l2 l1 l2 ws bs u q1.sl (by omega) h64 h1 h2 q2 q3 (by omega) (by omega) (Nat.le_refl _) (Nat.le_refl _) rk uk hrk huk
  have HT1 : Hid (∀ u, Below w.heap.size w u → Calls Try.prog 24 #[.slice a n cap] u fun e w' => e = .returned (.slice (some ⟨u.heap.size, 0, none⟩) n n) ∧ RowU w' u.heap.size n f ∧ Below u.heap.size u w') := fun u hu => toRuleS_any a n cap f u (SlS.below hs hu) (by omega)
  have HT2 : Hid (∀ u, Below w.heap.size w u → Calls Try.prog 25 #[.agg #[.int .i64 kd, .int .i64 pl, .int .i64 nn, .slice a1 l1 c1, .slice a2 l2 c2, .int .i64 wa]] u fun e w' => ∃ g1 g2, e = .returned (.agg (rqc kd pl nn wa (some ⟨g1, 0, none⟩) (some ⟨g2, 0, none⟩) l1 l2 l1 l2)) ∧ OwnI w' u.heap.size (.slice (some ⟨g1, 0, none⟩) l1 l1) ws ∧ OwnB w' u.heap.size (.slice (some ⟨g2, 0, none⟩) l2 l2) bs ∧ Below u.heap.size u w') := fun u hu => toReq_any kd pl nn wa a1 a2 l1 l2 c1 c2 ws bs u h1 h2 (s1.below hu) (s2.below hu) (by omega) (by omega)
  have HL : Hid (l1 = ws.length ∧ l2 = bs.length ∧ n + l1 + l2 ≤ 1048576) := ⟨h1, h2, hl⟩
  obtain ⟨B, hB⟩ : ∃ B, B = w.heap.size := ⟨_, rfl⟩
  obtain ⟨W0, hW0⟩ : ∃ W0, W0 = w.alloc (.cells #[.int .i64 kd, .int .i64 pl, .int .i64 nn, .slice a1 l1 c1, .slice a2 l2 c2, .int .i64 wa] 54) := ⟨_, rfl⟩
  have HW0 : Hid (Below w.heap.size w W0 ∧ Blk W0 B 54 #[.int .i64 kd, .int .i64 pl, .int .i64 nn, .slice a1 l1 c1, .slice a2 l2 c2, .int .i64 wa]) := ⟨by rw [hW0]; exact bel_alloc _ _, by rw [hW0, hB]; exact Blk.new w _ _⟩
  have fm : ¬ (((1048576 - n : Nat) : Int) < 0) := by omega
  obtain ⟨m, hm⟩ : ∃ m : Int, m = ((1048576 - n : Nat) : Int) := ⟨_, rfl⟩
  have HMM : Hid (m = ((1048576 - n : Nat) : Int) ∧ (l1 : Int) + (l2 : Int) ≤ m ∧ m ≤ 1048576) := ⟨hm, by omega, by omega⟩
  have fm2 : ¬ (m < 0) := by omega
  have f0 : ¬ (m - (l1 : Int) - (l2 : Int) < 0) := by omega
  have hn2 : n ≤ 1048576 := by omega
  clear hs h64 h1 h2 s1 s2 hrk huk hR hl fm
  go_enter Try.func5, Try.ntmps5
  go_upto_region 1 with fail
  rw [← hW0, ← hB]
  clear hW0 hB
  go_wp2_with fail
  refine (szRuleS_fits a n cap 1048576 _ hn2 (Nat.le_refl _)).mono ?_
  rintro e w0 ⟨rfl, hw0⟩
  subst hw0
  rw [← HMM.out.1]
  obtain ⟨x0, x1, x2, x3, x4, x5⟩ := HW0.out.2.six
  clear hm
  go_wp2_with fail
  refine (szReq_at kd pl nn wa a1 a2 l1 l2 c1 c2 m _ HMM.out.2.2 HMM.out.2.1).mono ?_
  rintro e w1 ⟨rfl, b1⟩
  have HW1 : Hid (Below w.heap.size w w1 ∧ Blk w1 B 54 #[.int .i64 kd, .int .i64 pl, .int .i64 nn, .slice a1 l1 c1, .slice a2 l2 c2, .int .i64 wa]) := ⟨bel_next HW0.out.1 b1, HW0.out.2.below b1⟩
  clear b1 HW0 x0 x1 x2 x3 x4 x5
  obtain ⟨x0, x1, x2, x3, x4, x5⟩ := HW1.out.2.six
  go_upto_region 8 with fail
  go_cut [8, 9] (fun v0 v1 wx => SPost w1 wx v0 v1 R)
  case first =>
    have dz : Below w1.heap.size w1 w1.drew := (Below.refl _ _).drew
    go_region_with (first
      | (go_at_call 24; refine (HT1.out _ (by first | exact HW1.out.1 | exact bel_next HW1.out.1 dz | exact bel_next HW1.out.1 H2.out.1)).mono ?_; rintro e t1 ⟨rfl, q1, b1⟩; have H1 : Hid (Below w1.heap.size w1 t1 ∧ RowU t1 _ n f) := ⟨(by first | exact b1 | exact bel_next dz b1 | exact bel_next H2.out.1 b1), q1⟩; clear q1; obtain ⟨z0, z1, z2, z3, z4, z5⟩ := (HW1.out.2.below H1.out.1).six)
      | (go_at_call 25; refine (HT2.out _ (by first | exact HW1.out.1 | exact bel_next HW1.out.1 dz | exact bel_next HW1.out.1 H1.out.1)).mono ?_; rintro e t2 ⟨g1, g2, rfl, q1, q2, b2⟩; have H2 : Hid (Below w1.heap.size w1 t2 ∧ OwnI t2 w1.heap.size (.slice (some ⟨g1, 0, none⟩) l1 l1) ws ∧ OwnB t2 w1.heap.size (.slice (some ⟨g2, 0, none⟩) l2 l2) bs) := ⟨(by first | exact b2 | exact bel_next dz b2 | exact bel_next H1.out.1 b2), OwnI.mono q1 (by first | exact Nat.le_refl _ | exact dz.size | exact H1.out.1.size), OwnB.mono q2 (by first | exact Nat.le_refl _ | exact dz.size | exact H1.out.1.size)⟩; clear q1 q2)
      | (go_at_call 9; refine (HC1.out _ _ _ _ (by first | exact H1.out.2 | exact H1.out.2.below b2) (by first | exact H2.out.2.1.sl.2 | exact (H2.out.2.1.below b1).sl.2) (by first | exact H2.out.2.2.sl.2 | exact (H2.out.2.2.below b1).sl.2)).mono ?_; rintro e t3 ⟨v3, rfl, o3, b3⟩; have H3 : Hid (SPost w1 t3 v3 (.int .i64 R.2) R) := ⟨rfl, o3.mono (by first | exact H2.out.1.size | exact H1.out.1.size), (by first | exact bel_next H2.out.1 b3 | exact bel_next H1.out.1 b3)⟩; clear o3 b3))
    all_goals (
      clear H1 H2 b1 b2
      go_wp2_with fail
      go_meet
      case rel => exact H3.out)
  case rest =>
  rename World => wS
  obtain ⟨e9, o8, b8⟩ := hcut
  obtain ⟨va, vc, hva⟩ := o8.shape
  subst hva
  subst e9
  obtain ⟨N, hN⟩ : ∃ N, N = R.1.length := ⟨_, rfl⟩
  obtain ⟨ft, hft⟩ : ∃ ft, ft = R.2 := ⟨_, rfl⟩
  rw [← hN] at o8 ⊢
  rw [← hft]
  have HN : Hid (N = R.1.length ∧ ft = R.2) := ⟨hN, hft⟩
  have HWc : Hid (Below w.heap.size w wS ∧ Blk wS B 54 #[.int .i64 kd, .int .i64 pl, .int .i64 nn, .slice a1 l1 c1, .slice a2 l2 c2, .int .i64 wa] ∧ OwnPs wS w1.heap.size (.slice va N vc) R.1) := ⟨bel_next HW1.out.1 b8, HW1.out.2.below b8, o8⟩
  clear hN hft o8 b8 x0 x1 x2 x3 x4 x5 HW1 fm2 f0 HMM
  go_wp2_with fail
  refine (HT1.out _ HWc.out.1).mono ?_
  rintro e w2 ⟨rfl, r2, b2⟩
  obtain ⟨gx, hgx⟩ : ∃ gx, gx = wS.heap.size := ⟨_, rfl⟩
  rw [← hgx] at r2 ⊢
  have H2 : Hid (Below wS.heap.size wS w2 ∧ RowU w2 gx n f ∧ gx = wS.heap.size) := ⟨b2, r2, hgx⟩
  clear r2 b2 hgx
  obtain ⟨x0, x1, x2, x3, x4, x5⟩ := (HWc.out.2.1.below H2.out.1).six
  go_wp2_with fail
  refine (HT2.out _ (bel_next HWc.out.1 H2.out.1)).mono ?_
  rintro e w3 ⟨g1, g2, rfl, q1, q2, b3⟩
  obtain ⟨Bx, hBx⟩ : ∃ Bx, Bx = w3.heap.size := ⟨_, rfl⟩
  obtain ⟨W4, hW4⟩ : ∃ W4, W4 = w3.alloc (.cells (rqc kd pl nn wa (some ⟨g1, 0, none⟩) (some ⟨g2, 0, none⟩) l1 l2 l1 l2) 28) := ⟨_, rfl⟩
  have b4 : Below w3.heap.size w3 W4 := by rw [hW4]; exact bel_alloc _ _
  have H4 : Hid (Below wS.heap.size wS W4 ∧ RowU W4 gx n f ∧ OwnI W4 w2.heap.size (.slice (some ⟨g1, 0, none⟩) l1 l1) ws ∧ OwnB W4 w2.heap.size (.slice (some ⟨g2, 0, none⟩) l2 l2) bs ∧ Blk W4 Bx 28 (rqc kd pl nn wa (some ⟨g1, 0, none⟩) (some ⟨g2, 0, none⟩) l1 l2 l1 l2) ∧ gx = wS.heap.size ∧ wS.heap.size ≤ w2.heap.size ∧ gx < W4.heap.size ∧ w2.heap.size ≤ W4.heap.size) := ⟨bel_next (bel_next H2.out.1 b3) b4, (H2.out.2.1.below b3).below b4, q1.below b4, q2.below b4, by rw [hW4, hBx]; exact Blk.new w3 _ _, H2.out.2.2, H2.out.1.size, ((H2.out.2.1.below b3).below b4).lt, Nat.le_trans b3.size b4.size⟩
  clear q1 q2 b3 b4 x0 x1 x2 x3 x4 x5
  go_upto_region 11 with fail
  rw [← hW4, ← hBx]
  clear hW4 hBx H2
  obtain ⟨y0, y1, y2, y3, y4, y5⟩ := H4.out.2.2.2.2.1.six
  go_wp2_with fail
  refine (HC2.out _ gx g1 g2 H4.out.2.1 H4.out.2.2.1.sl.2 H4.out.2.2.2.1.sl.2).mono ?_
  rintro e w5 ⟨v5, rfl, o5, b5⟩
  obtain ⟨vb, vd, hvb⟩ := o5.shape
  subst hvb
  rw [← HN.out.1] at o5 ⊢
  rw [← HN.out.2]
  have H5 : Hid (Below wS.heap.size wS w5 ∧ RowU w5 gx n f ∧ OwnI w5 w2.heap.size (.slice (some ⟨g1, 0, none⟩) l1 l1) ws ∧ OwnB w5 w2.heap.size (.slice (some ⟨g2, 0, none⟩) l2 l2) bs ∧ Blk w5 Bx 28 (rqc kd pl nn wa (some ⟨g1, 0, none⟩) (some ⟨g2, 0, none⟩) l1 l2 l1 l2) ∧ OwnPs w5 W4.heap.size (.slice vb N vd) R.1) := ⟨bel_next H4.out.1 b5, H4.out.2.1.below b5, H4.out.2.2.1.below b5, H4.out.2.2.2.1.below b5, H4.out.2.2.2.2.1.below b5, o5⟩
  have HQ4 : Hid (∀ k, (Value.slice (some ⟨g1, 0, none⟩) l1 l1).ownBlock = some k ∨ (Value.slice (some ⟨g2, 0, none⟩) l2 l2).ownBlock = some k → w2.heap.size ≤ k ∧ k < W4.heap.size) := by
    rintro k (hk | hk)
    · exact World.ownsRow.lt H4.out.2.2.1 k hk
    · exact World.ownsRow.lt H4.out.2.2.2.1 k hk
  have HG : Hid (gx = wS.heap.size ∧ wS.heap.size ≤ w2.heap.size ∧ gx < W4.heap.size ∧ w2.heap.size ≤ W4.heap.size) := H4.out.2.2.2.2.2
  clear o5 b5 H4 y0 y1 y2 y3 y4 y5
  go_wp2_with fail
  refine (eqPartS_true vb va N N vd vc _ _ R.1 _ HN.out.1 HN.out.1 H5.out.2.2.2.2.2 (HWc.out.2.2.below H5.out.1) HBD.out).mono ?_
  rintro e w6 ⟨rfl, b6⟩
  have H6 : Hid (Below wS.heap.size wS w6 ∧ RowU w6 gx n f ∧ OwnI w6 w2.heap.size (.slice (some ⟨g1, 0, none⟩) l1 l1) ws ∧ OwnB w6 w2.heap.size (.slice (some ⟨g2, 0, none⟩) l2 l2) bs ∧ Blk w6 Bx 28 (rqc kd pl nn wa (some ⟨g1, 0, none⟩) (some ⟨g2, 0, none⟩) l1 l2 l1 l2) ∧ OwnPs w6 W4.heap.size (.slice vb N vd) R.1) := ⟨bel_next H5.out.1 b6, H5.out.2.1.below b6, H5.out.2.2.1.below b6, H5.out.2.2.2.1.below b6, H5.out.2.2.2.2.1.below b6, H5.out.2.2.2.2.2.below b6⟩
  clear b6 H5
  go_wp2_with fail
  refine (HT1.out _ (bel_next HWc.out.1 H6.out.1)).mono ?_
  rintro e w7 ⟨rfl, r7, b7⟩
  go_wp2_with fail
  refine (eqRuleS_true _ _ n n n f _ (H6.out.2.1.below b7).sl r7.sl (by omega)).mono ?_
  rintro e w8 ⟨rfl, b8⟩
  have B68 := bel_next b7 b8
  have H8 : Hid (Below wS.heap.size wS w8 ∧ RowU w8 gx n f ∧ OwnI w8 w2.heap.size (.slice (some ⟨g1, 0, none⟩) l1 l1) ws ∧ OwnB w8 w2.heap.size (.slice (some ⟨g2, 0, none⟩) l2 l2) bs ∧ Blk w8 Bx 28 (rqc kd pl nn wa (some ⟨g1, 0, none⟩) (some ⟨g2, 0, none⟩) l1 l2 l1 l2) ∧ OwnPs w8 W4.heap.size (.slice vb N vd) R.1) := ⟨bel_next H6.out.1 B68, H6.out.2.1.below B68, H6.out.2.2.1.below B68, H6.out.2.2.2.1.below B68, H6.out.2.2.2.2.1.below B68, H6.out.2.2.2.2.2.below B68⟩
  clear b7 b8 r7 B68 H6
  obtain ⟨x0, x1, x2, x3, x4, x5⟩ := (HWc.out.2.1.below H8.out.1).six
  obtain ⟨y0, y1, y2, y3, y4, y5⟩ := H8.out.2.2.2.2.1.six
  go_upto_region 16 with fail
  go_cut [67] (fun s wx => s = .bool false ∧ Below w8.heap.size w8 wx)
  case first =>
    have dz : Below w8.heap.size w8 w8.drew := (Below.refl _ _).drew
    go_region_with (first
      | (go_at_call 25; refine (HT2.out _ (bel_next (bel_next HWc.out.1 H8.out.1) (by first | exact Below.refl _ _ | exact dz))).mono ?_; rintro e t2 ⟨g1', g2', rfl, q1, q2, b2⟩; have K2 : Hid (Below w8.heap.size w8 t2 ∧ SlI t2 (some ⟨g1', 0, none⟩) ws ∧ SlB t2 (some ⟨g2', 0, none⟩) bs) := ⟨(by first | exact b2 | exact bel_next dz b2), q1.sl.2, q2.sl.2⟩; clear q1 q2 b2; obtain ⟨z0, z1, z2, z3, z4, z5⟩ := (H8.out.2.2.2.2.1.below K2.out.1).six)
      | (go_at_call 28; refine (eqReq_true kd pl nn wa _ _ _ _ l1 l2 l1 l2 l1 l2 l1 l2 ws bs _ HL.out.1 HL.out.2.1 HL.out.1 HL.out.2.1 (OwnI.below H8.out.2.2.1 K2.out.1).sl.2 (OwnB.below H8.out.2.2.2.1 K2.out.1).sl.2 K2.out.2.1 K2.out.2.2 (by have := HL.out; omega) (by have := HL.out; omega)).mono ?_; rintro e t3 ⟨rfl, b3⟩; have K3 : Hid (Below w8.heap.size w8 t3) := bel_next K2.out.1 b3; clear b3))
    all_goals (
      clear K2
      go_wp2_with fail
      go_meet
      case rel => exact ⟨rfl, K3.out⟩)
  case rest =>
  obtain ⟨e67, bq⟩ := hcut
  subst e67
  have H9 : Hid (Below wS.heap.size wS wc ∧ RowU wc gx n f ∧ OwnI wc w2.heap.size (.slice (some ⟨g1, 0, none⟩) l1 l1) ws ∧ OwnB wc w2.heap.size (.slice (some ⟨g2, 0, none⟩) l2 l2) bs ∧ Blk wc Bx 28 (rqc kd pl nn wa (some ⟨g1, 0, none⟩) (some ⟨g2, 0, none⟩) l1 l2 l1 l2) ∧ OwnPs wc W4.heap.size (.slice vb N vd) R.1) := ⟨bel_next H8.out.1 bq, H8.out.2.1.below bq, H8.out.2.2.1.below bq, H8.out.2.2.2.1.below bq, H8.out.2.2.2.2.1.below bq, H8.out.2.2.2.2.2.below bq⟩
  clear bq H8 x0 x1 x2 x3 x4 x5 y0 y1 y2 y3 y4 y5
  go_wp2_with fail
  refine (markRuleS_any gx n 1 f _ H9.out.2.1 hn2 (by decide)).mono ?_
  rintro e wA ⟨rfl, gA⟩
  obtain ⟨kA, hkA⟩ : ∃ kA : Nat, (kA : Int) = ((1 : Nat) : Int) + 7 * (n : Int) := ⟨1 + 7 * n, by omega⟩
  rw [← hkA]
  have HA : Hid (Below wS.heap.size wS wA ∧ OwnI wA w2.heap.size (.slice (some ⟨g1, 0, none⟩) l1 l1) ws ∧ OwnB wA w2.heap.size (.slice (some ⟨g2, 0, none⟩) l2 l2) bs ∧ Blk wA Bx 28 (rqc kd pl nn wa (some ⟨g1, 0, none⟩) (some ⟨g2, 0, none⟩) l1 l2 l1 l2) ∧ OwnPs wA W4.heap.size (.slice vb N vd) R.1 ∧ kA ≤ 7400000) := by
    have hg := HG.out
    obtain ⟨cs, hX⟩ := (RowS.rowC H9.out.2.1).exB
    exact ⟨grown_below2 H9.out.1 gA (by omega) H9.out.1.size, H9.out.2.2.1.kept gA (.inr (row_noBlk H9.out.2.2.1 hX (by decide))), H9.out.2.2.2.1.kept gA (.inr (row_noBlk H9.out.2.2.2.1 hX (by decide))), H9.out.2.2.2.2.1.grown gA (by intro e9; have e8 := Option.some.inj e9; have h7 : _ = _ := H9.out.2.2.2.2.1; rw [← e8] at h7; have h6 : _ = _ := hX; rw [h6] at h7; simp at h7), H9.out.2.2.2.2.2.keptLt gA (by omega), by omega⟩
  clear gA hkA H9
  obtain ⟨y0, y1, y2, y3, y4, y5⟩ := HA.out.2.2.2.1.six
  go_wp2_with fail
  refine (markReq_g kd pl nn wa _ _ l1 l2 l1 l2 w2.heap.size kA ws bs _ HA.out.2.1 HA.out.2.2.1 (by have := HL.out; omega) (by have := HL.out; omega) HA.out.2.2.2.2.2).mono ?_
  rintro e wB ⟨⟨kB, rfl⟩, u, u1, bu, gu, gu1⟩
  have HB : Hid (Below wS.heap.size wS wB ∧ OwnPs wB W4.heap.size (.slice vb N vd) R.1) := by
    have hg := HG.out
    have q1 : ∀ k, (Value.slice (some ⟨g1, 0, none⟩) l1 l1).ownBlock = some k → wS.heap.size ≤ k ∧ k < W4.heap.size := fun k hk => by have := HQ4.out k (.inl hk); omega
    have q2 : ∀ k, (Value.slice (some ⟨g2, 0, none⟩) l2 l2).ownBlock = some k → wS.heap.size ≤ k ∧ k < W4.heap.size := fun k hk => by have := HQ4.out k (.inr hk); omega
    have B1 : Below wS.heap.size wS u := bel_next HA.out.1 bu
    have B2 : Below wS.heap.size wS u1 := B1.grown gu B1.size (fun k hk => (q1 k hk).1)
    have B3 : Below wS.heap.size wS wB := B2.grown gu1 B2.size (fun k hk => (q2 k hk).1)
    exact ⟨B3, ((HA.out.2.2.2.2.1.below bu).keptV gu (fun k hk => (q1 k hk).2)).keptV gu1 (fun k hk => (q2 k hk).2)⟩
  clear bu gu gu1 HA y0 y1 y2 y3 y4 y5 HQ4
  have fB : ¬ ((kB : Int) < 0) := by omega
  go_wp2_with fail
  refine (eqPartS_true vb va N N vd vc _ _ R.1 _ HN.out.1 HN.out.1 HB.out.2 (HWc.out.2.2.below HB.out.1) HBD.out).mono ?_
  rintro e wC ⟨rfl, bC⟩
  have HC : Hid (Below wS.heap.size wS wC ∧ OwnPf wC W4.heap.size (.slice vb N vd) N (fun k => R.1.getD k default)) := ⟨bel_next HB.out.1 bC, by rw [HN.out.1]; have h9 := (HB.out.2.below bC).pf; rw [← HN.out.1] at h9 ⊢; exact h9⟩
  have HGB : Hid (N ≤ 8 ∧ ∀ k, k < N → ((fun k => R.1.getD k default) k).ws.length ≤ 2000 ∧ ((fun k => R.1.getD k default) k).bs.length ≤ 2000) := ⟨by have := HN.out.1; have := HBD.out.1; omega, fun k hk => HBD.out.2 k (by have := HN.out.1; omega)⟩
  obtain ⟨G, hG⟩ : ∃ G : Nat → Pa, G = (fun k => R.1.getD k default) := ⟨_, rfl⟩
  rw [← hG] at HC HGB
  clear bC HB fB hG
  go_wp2_with fail
  refine (markPartS_any vb N vd W4.heap.size 1 G _ HC.out.2 HGB.out.1 (by decide) HGB.out.2).mono ?_
  rintro e wD ⟨rfl, oD, bD⟩
  have HD : Hid (Below wS.heap.size wS wD ∧ OwnPf wD W4.heap.size (.slice vb N vd) N (fun k => mkP (mst 1 G k) (G k))) := ⟨HC.out.1.trans (bD.mono (by have := HG.out; omega)), oD⟩
  clear oD bD HC
  go_wp2_with fail
  refine (heldPartS_any vb N vd W4.heap.size 1 G _ HD.out.2 HGB.out.1 (by decide) HGB.out.2).mono ?_
  rintro e wD' ⟨rfl, hwD⟩
  subst hwD
  have fm : ¬ ((mst 1 G N : Int) < 0) := by omega
  obtain ⟨wE, hwE⟩ : ∃ wE, wE = wD' := ⟨_, rfl⟩
  rw [← hwE] at HD ⊢
  clear hwE
  have HWE : Hid (Below w.heap.size w wE ∧ Blk wE B 54 #[.int .i64 kd, .int .i64 pl, .int .i64 nn, .slice a1 l1 c1, .slice a2 l2 c2, .int .i64 wa]) := ⟨bel_next HWc.out.1 HD.out.1, HWc.out.2.1.below HD.out.1⟩
  obtain ⟨x0, x1, x2, x3, x4, x5⟩ := HWE.out.2.six
  go_upto_region 31 with fail
  go_cut [17, 18] (fun v0 v1 wx => SPost wE wx v0 v1 R)
  case first =>
    have dz : Below wE.heap.size wE wE.drew := (Below.refl _ _).drew
    go_region_with (first
      | (go_at_call 24; refine (HT1.out _ (by first | exact HWE.out.1 | exact bel_next HWE.out.1 dz | exact bel_next HWE.out.1 H2.out.1)).mono ?_; rintro e t1 ⟨rfl, q1, b1⟩; have H1 : Hid (Below wE.heap.size wE t1 ∧ RowU t1 _ n f) := ⟨(by first | exact b1 | exact bel_next dz b1 | exact bel_next H2.out.1 b1), q1⟩; clear q1; obtain ⟨z0, z1, z2, z3, z4, z5⟩ := (HWE.out.2.below H1.out.1).six)
      | (go_at_call 25; refine (HT2.out _ (by first | exact HWE.out.1 | exact bel_next HWE.out.1 dz | exact bel_next HWE.out.1 H1.out.1)).mono ?_; rintro e t2 ⟨g1, g2, rfl, q1, q2, b2⟩; have H2 : Hid (Below wE.heap.size wE t2 ∧ OwnI t2 wE.heap.size (.slice (some ⟨g1, 0, none⟩) l1 l1) ws ∧ OwnB t2 wE.heap.size (.slice (some ⟨g2, 0, none⟩) l2 l2) bs) := ⟨(by first | exact b2 | exact bel_next dz b2 | exact bel_next H1.out.1 b2), OwnI.mono q1 (by first | exact Nat.le_refl _ | exact dz.size | exact H1.out.1.size), OwnB.mono q2 (by first | exact Nat.le_refl _ | exact dz.size | exact H1.out.1.size)⟩; clear q1 q2)
      | (go_at_call 8; refine (HC2.out _ _ _ _ (by first | exact H1.out.2 | exact H1.out.2.below b2) (by first | exact H2.out.2.1.sl.2 | exact (H2.out.2.1.below b1).sl.2) (by first | exact H2.out.2.2.sl.2 | exact (H2.out.2.2.below b1).sl.2)).mono ?_; rintro e t3 ⟨v3, rfl, o3, b3⟩; have H3 : Hid (SPost wE t3 v3 (.int .i64 R.2) R) := ⟨rfl, o3.mono (by first | exact H2.out.1.size | exact H1.out.1.size), (by first | exact bel_next H2.out.1 b3 | exact bel_next H1.out.1 b3)⟩; clear o3 b3))
    all_goals (
      clear H1 H2 b1 b2
      go_wp2_with fail
      go_meet
      case rel => exact H3.out)
  case rest =>
  obtain ⟨e9, oF, bF⟩ := hcut
  obtain ⟨ve, vf, hve⟩ := oF.shape
  subst hve
  subst e9
  rw [← HN.out.1] at oF ⊢
  rw [← HN.out.2]
  have HF : Hid (Below w.heap.size w wc ∧ OwnPs wc wE.heap.size (.slice ve N vf) R.1 ∧ OwnPs wc w1.heap.size (.slice va N vc) R.1 ∧ OwnPf wc W4.heap.size (.slice vb N vd) N (fun k => mkP (mst 1 G k) (G k))) := ⟨bel_next HWE.out.1 bF, oF, HWc.out.2.2.below (bel_next HD.out.1 bF), HD.out.2.below bF⟩
  clear oF bF HWE HD HWc x0 x1 x2 x3 x4 x5
  go_wp2_with fail
  refine (eqPartS_true ve va N N vf vc _ _ R.1 _ HN.out.1 HN.out.1 HF.out.2.1 HF.out.2.2.1 HBD.out).mono ?_
  rintro e wG ⟨rfl, bG⟩
  have HH : Hid (Below w.heap.size w wG ∧ OwnPf wG W4.heap.size (.slice vb N vd) N (fun k => mkP (mst 1 G k) (G k))) := ⟨bel_next HF.out.1 bG, HF.out.2.2.2.below bG⟩
  clear bG HF
  go_wp2_with fail
  refine (heldPartS_any vb N vd W4.heap.size 1 G _ HH.out.2 HGB.out.1 (by decide) HGB.out.2).mono ?_
  rintro e wH ⟨rfl, hwH⟩
  subst hwH
  go_wp2
  go_ret
  exact ⟨rfl, HH.out.1⟩

end Go.Proofs.Ytaaokbmfpfmfgaa
