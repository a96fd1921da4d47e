/- The law of rings, walked. -/
import Derived.Test.YtckmffhdngfchaaRing7
import Derived.Test.YtckmffhdngfchaaRing5
import Derived.Test.YtckmffhdngfchaaRing4
namespace Go.Proofs.Ytckmffhdngfchaa
open Go.RowKit

/-- How many bytes the ring holds behind it, how many were lost, which they are. -/
def PutIs (zs bs : List Int) (q : Nat) (l : Int) (R : List Int) : Prop := q = zs.length + putK zs bs ∧ l = (bs.length : Int) - (putK zs bs : Nat) ∧ R = putR zs bs

theorem putIs_len {zs bs : List Int} {q : Nat} {l : Int} {R : List Int} (h : PutIs zs bs q l R) : q = R.length := by
  obtain ⟨rfl, rfl, rfl⟩ := h; exact (putR_length zs bs).symm

theorem implRingPut_qs (a ad : Option Addr) (n m cap cap' : Nat) (zs bs : List Int) (q : Nat) (l : Int) (R : List Int) (w : World) (hn : n = zs.length) (hm : m = bs.length) (hE : PutIs zs bs q l R) (hs : Sl w a zs) (ht : Sl w ad bs) (hz : zs.length ≤ 2000000) (hl : bs.length ≤ 2000000) :
    Calls Try.prog 8 #[.agg #[.slice a n cap], .slice ad m cap'] w fun e w' => ∃ g, e = .returned (.tuple #[.agg #[.slice (some ⟨g, 0, none⟩) q q], .int .i64 l]) ∧ Own w' w.heap.size (.slice (some ⟨g, 0, none⟩) q q) R ∧ Below w.heap.size w w' := by
  obtain ⟨rfl, rfl, rfl⟩ := hE
  exact implRingPut_str a ad n m cap cap' zs bs w hn hm hs ht hz hl

/-- How many bytes are taken and left, which they are. -/
def TakeIs (zs : List Int) (x : Int) (t s : Nat) (T S : List Int) : Prop := t = takeK zs x ∧ s = zs.length - takeK zs x ∧ T = zs.take (takeK zs x) ∧ S = zs.drop (takeK zs x)

theorem implRingTake_q (g n t s : Nat) (zs : List Int) (x : Int) (T S : List Int) (w : World) (hn : n = zs.length) (hE : TakeIs zs x t s T S) (hs : Sl w (some ⟨g, 0, none⟩) zs) (h : n ≤ 300) :
    Calls Try.prog 12 #[.agg #[.slice (some ⟨g, 0, none⟩) n n], .int .i64 x] w fun e w' => ∃ g1 g, e = .returned (.tuple #[.slice (some ⟨g1, 0, none⟩) t t, .agg #[.slice (some ⟨g, 0, none⟩) s s]]) ∧
      Own w' w.heap.size (.slice (some ⟨g1, 0, none⟩) t t) T ∧ Own w' w.heap.size (.slice (some ⟨g, 0, none⟩) s s) S ∧ Below w.heap.size w w' := by
  obtain ⟨rfl, rfl, rfl, rfl⟩ := hE
  refine (implRingTake_ok g n _ zs x w hn hs h rfl).mono ?_
  rintro e w' ⟨g1, g2, he, h1, h2, _, h4⟩
  exact ⟨g1, g2, he, h1, h2, h4⟩

set_option maxRecDepth 20000 in
set_option maxHeartbeats 8000000 in
theorem rings_law (a : Option Addr) (cap : Nat) (zs : List Int) (w : World) (hs : Sl w a zs) (hr : ∀ z ∈ zs, 0 ≤ z ∧ z ≤ 255) (hl : zs.length ≤ 1048576) :
    Calls Try.prog 3 #[.slice a zs.length cap] w fun e w' => e = .returned (.bool true) ∧ Below w.heap.size w w' := by
  have hl' : ¬ (1048576 : Int) < (zs.length : Int) := by omega
  go_enter Try.func3, Try.ntmps3
  go_wp2_with (first | (go_at_call 6; go_in) | fail)
  refine (drawRingPut_any w a _ cap zs rfl hs hr hl).mono ?_
  rintro e v1 ⟨ad, ad', n, m, c, c', rs, bs, rfl, hn, hn302, hm, hm20, hmc, P1, Q1, b1⟩
  have HN : Hid (n = rs.length) := hn
  have HM : Hid (m = bs.length) := hm
  have HL : Hid (rs.length ≤ 2000000 ∧ bs.length ≤ 2000000) := by show _ ∧ _; omega
  have Hs : Hid (Sl w a zs) := hs
  have Hr : Hid (∀ z ∈ zs, 0 ≤ z ∧ z ≤ 255) := hr
  obtain ⟨q, l, R, hE'⟩ : ∃ q l R, PutIs rs bs q l R := ⟨_, _, _, rfl, rfl, rfl⟩
  have HE : Hid (PutIs rs bs q l R) := hE'
  have hRl : Hid (q = R.length) := putIs_len hE'
  have hpk : Hid (putK rs bs = min m (300 - n)) := by show _ = _; rw [hn, hm]; rfl
  have hq : Hid (q = n + min m (300 - n)) := by show _ = _; rw [hE'.1, ← hn, hpk.out]
  have hll : Hid (l = (m : Int) - ((min m (300 - n) : Nat) : Int)) := by show _ = _; rw [hE'.2.1, ← hm, hpk.out]
  clear hs hr hn hm hE'
  have b' := bel_alloc v1 (.cells #[.slice (some ad) n c] 25)
  have n' := Box.new v1 (.slice (some ad) n c) 25
  have b2 := bel_next b1 b'
  have P2 := P1.below b'
  have Q2 := Q1.below b'
  have A2 := n'
  have cA2 := A2.cell
  have fA2 := A2.fro
  clear b1 P1 Q1 b' n' fA2
  go_wp2_with fail
  refine (implRingPut_qs _ _ _ _ _ _ rs bs q l R _ HN.out HM.out HE.out P2.sl.2 Q2.sl.2 HL.out.1 HL.out.2).mono ?_
  rintro e v3 ⟨gn, rfl, n', b'⟩
  have b3 := bel_next b2 b'
  have A3 := A2.below b'
  have cA3 := A3.cell
  have P3 := P2.below b'
  have Q3 := Q2.below b'
  have U3 := n'
  have hBU : w.heap.size ≤ _ := b2.size
  clear b2 A2 cA2 P2 Q2 b' n'
  have b' := bel_alloc v3 (.cells #[.slice (some ⟨gn, 0, none⟩) q q] 25)
  have n' := Box.new v3 (.slice (some ⟨gn, 0, none⟩) q q) 25
  have b4 := bel_next b3 b'
  have A4 := A3.below b'
  have cA4 := A4.cell
  have P4 := P3.below b'
  have Q4 := Q3.below b'
  have U4 := U3.below b'
  have N4 := n'
  have cN4 := N4.cell
  have fN4 := N4.fro
  clear b3 A3 cA3 P3 Q3 U3 b' n' fN4
  by_cases h300 : n ≤ 300
  rotate_left
  · go_wp2_with fail
    refine (specRingOk_no _ _ _ _ h300).mono ?_
    rintro e v5 ⟨rfl, b'⟩
    have b5 := bel_next b4 b'
    have A5 := A4.below b'
    have cA5 := A5.cell
    have N5 := N4.below b'
    have cN5 := N5.cell
    have P5 := P4.below b'
    have Q5 := Q4.below b'
    have U5 := U4.below b'
    clear b4 A4 cA4 N4 cN4 P4 Q4 U4 b'
    have hlm : (l == (m : Int)) = true := by have := hll.out; simp; omega
    go_wp2_with fail
    refine (implRingOk_no _ _ _ _ h300).mono ?_
    rintro e v6 ⟨rfl, b'⟩
    have b6 := bel_next b5 b'
    have A6 := A5.below b'
    have cA6 := A6.cell
    have N6 := N5.below b'
    have cN6 := N6.cell
    have P6 := P5.below b'
    have Q6 := Q5.below b'
    have U6 := U5.below b'
    clear b5 A5 cA5 N5 cN5 P5 Q5 U5 b'
    clear hlm
    go_wp2
    go_ret
    exact ⟨rfl, b6⟩
  · go_wp2_with fail
    refine (specRingOk_yes _ _ _ _ h300).mono ?_
    rintro e v5 ⟨rfl, b'⟩
    have b5 := bel_next b4 b'
    have A5 := A4.below b'
    have cA5 := A5.cell
    have N5 := N4.below b'
    have cN5 := N5.cell
    have P5 := P4.below b'
    have Q5 := Q4.below b'
    have U5 := U4.below b'
    clear b4 A4 cA4 N4 cN4 P4 Q4 U4 b'
    go_wp2_with fail
    refine (at_any a _ cap zs _ rfl (Hs.out.below b5) Hr.out hl).mono ?_
    rintro e v5x ⟨y, rfl, hy0, hy1, e1⟩
    subst e1
    obtain ⟨t, s, T, S, hT'⟩ : ∃ t s T S, TakeIs R (y % 20) t s T S := ⟨_, _, _, _, rfl, rfl, rfl, rfl⟩
    have HT : Hid (TakeIs R (y % 20) t s T S) := hT'
    have hq300 : q ≤ 300 := by have := hq.out; omega
    have hts : Hid (t + s = q) := by have := takeK_le R (y % 20); have := hRl.out; have := hT'.1; have := hT'.2.1; show t + s = q; omega
    have hsS : Hid (s = S.length) := by show s = _; rw [hT'.2.1, hT'.2.2.2]; simp
    have htT : Hid (t = T.length) := by have := takeK_le R (y % 20); show t = _; rw [hT'.2.2.1, hT'.1]; simp; omega
    have hTS : Hid (T ++ S = R) := by show _ = _; rw [hT'.2.2.1, hT'.2.2.2]; exact List.take_append_drop _ _
    have hs300 : s ≤ 300 := by have := hts.out; omega
    have ht300 : t ≤ 300 := by have := hts.out; omega
    have HT2 : Hid (TakeIs S 300 s 0 S []) := by
      have e : takeK S 300 = s := by unfold takeK; rw [← hsS.out, if_pos hs300]; omega
      show _ ∧ _ ∧ _ ∧ _
      rw [e]; refine ⟨rfl, by rw [← hsS.out]; omega, ?_, ?_⟩
      · rw [List.take_of_length_le (by rw [← hsS.out]; omega)]
      · rw [List.drop_eq_nil_of_le (by rw [← hsS.out]; omega)]
    clear hT'

    go_wp2_with fail
    refine (implRingTake_q _ q t s R (y % 20) T S _ hRl.out HT.out U5.sl.2 hq300).mono ?_
    rintro e v6 ⟨gt, gs, rfl, F', n', b'⟩
    have b6 := bel_next b5 b'
    have A6 := A5.below b'
    have cA6 := A6.cell
    have N6 := N5.below b'
    have cN6 := N6.cell
    have P6 := P5.below b'
    have Q6 := Q5.below b'
    have U6 := U5.below b'
    have G6 := n'
    have hBG : w.heap.size ≤ _ := b5.size
    have F6 := F'
    clear b5 A5 cA5 N5 cN5 P5 Q5 U5 b' F' n'
    have b' := bel_alloc v6 (.cells #[.slice (some ⟨gs, 0, none⟩) s s] 25)
    have n' := Box.new v6 (.slice (some ⟨gs, 0, none⟩) s s) 25
    have b7 := bel_next b6 b'
    have A7 := A6.below b'
    have cA7 := A7.cell
    have N7 := N6.below b'
    have cN7 := N7.cell
    have P7 := P6.below b'
    have Q7 := Q6.below b'
    have U7 := U6.below b'
    have G7 := G6.below b'
    have F7 := F6.below b'
    have E7 := n'
    have cE7 := E7.cell
    have fE7 := E7.fro
    clear b6 A6 cA6 N6 cN6 P6 Q6 U6 G6 F6 b' n' fE7
    go_wp2_with fail
    refine (implRingTake_q _ s s 0 S 300 S [] _ hsS.out HT2.out G7.sl.2 hs300).mono ?_
    rintro e v8 ⟨gu, gv, rfl, K', n', b'⟩
    have b8 := bel_next b7 b'
    have A8 := A7.below b'
    have cA8 := A8.cell
    have N8 := N7.below b'
    have cN8 := N8.cell
    have E8 := E7.below b'
    have cE8 := E8.cell
    have P8 := P7.below b'
    have Q8 := Q7.below b'
    have U8 := U7.below b'
    have G8 := G7.below b'
    have F8 := F7.below b'
    have J8 := n'
    have hBJ : w.heap.size ≤ _ := b7.size
    have K8 := K'
    clear b7 A7 cA7 N7 cN7 E7 cE7 P7 Q7 U7 G7 F7 b' K' n'
    have b' := bel_alloc v8 (.cells #[.slice (some ⟨gv, 0, none⟩) 0 0] 25)
    have n' := Box.new v8 (.slice (some ⟨gv, 0, none⟩) 0 0) 25
    have b9 := bel_next b8 b'
    have A9 := A8.below b'
    have cA9 := A9.cell
    have N9 := N8.below b'
    have cN9 := N9.cell
    have E9 := E8.below b'
    have cE9 := E9.cell
    have P9 := P8.below b'
    have Q9 := Q8.below b'
    have U9 := U8.below b'
    have G9 := G8.below b'
    have F9 := F8.below b'
    have J9 := J8.below b'
    have K9 := K8.below b'
    have D9 := n'
    have cD9 := D9.cell
    have fD9 := D9.fro
    clear b8 A8 cA8 N8 cN8 E8 cE8 P8 Q8 U8 G8 F8 J8 K8 b' n' fD9
    go_upto_region 10 with fail
    generalize hV : World.alloc v8 (.cells #[.slice (some ⟨gv, 0, none⟩) 0 0] 25) = V at *
    clear hV
    obtain ⟨i0, hi, hz0, hz1, hz2⟩ := info_parts Try.info5
    obtain ⟨pk, hpk'⟩ : ∃ pk, pk = putK rs bs := ⟨_, rfl⟩
    have HPK : Hid (pk = putK rs bs) := hpk'
    have hpkm : pk ≤ m := by rw [hpk', hpk.out]; omega
    have hpkc : pk ≤ c' := by omega
    have hml : (m : Int) - l = (pk : Int) := by have := hll.out; rw [hpk', hpk.out]; omega
    have hnq : Hid (n + pk = q) := by show _ = _; rw [hpk', hpk.out, hq.out]
    have hRp : Hid (R = rs ++ bs.take pk) := by show R = _; rw [HE.out.2.2]; exact putR_take hpk'
    have hend : Hid (l = 0 ∨ q = 300) := by have := hll.out; have := hq.out; show _ ∨ _; omega
    clear hpk'
    have mx : q + 2 ≤ maxLen := by unfold maxLen; omega
    have o0 := World.ownsRow_lit (base := V.heap.size) (e := 5) (size := 1) V #[] 0 (Nat.le_refl _) (by omega) rfl
    have sF := (F9.sl.2.below (bel_alloc V (.cells #[] 5))).cellsAt
    have HF : Hid (Own V 0 (.slice (some ⟨gu, 0, none⟩) s s) S ∧ Below w.heap.size w V) := ⟨K9.mono' (Nat.zero_le _), b9⟩
    have HP : Hid (Own V w.heap.size (.slice (some ad) n c) rs ∧ Own V w.heap.size (.slice (some ad') m c') bs) := ⟨P9, Q9⟩
    have HX : Hid (Box V v1.heap.size 25 (.slice (some ad) n c) ∧ Box V v3.heap.size 25 (.slice (some ⟨gn, 0, none⟩) q q) ∧ Box V v8.heap.size 25 (.slice (some ⟨gv, 0, none⟩) 0 0)) := ⟨A9, N9, D9⟩
    clear K9 b9 P9 Q9 U9 G9 F9 J9 A9 N9 E9 D9 cA9 cN9 cE9 cD9
    have k1 : 0 + t ≤ maxLen := by have := hts.out; omega
    have k2 : (0 + t) * 1 ≤ 140737488355328 := by omega
    have k3 : t + s ≤ maxLen := by have := hts.out; omega
    have k4 : (t + s) * 1 ≤ 140737488355328 := by omega
    go_upto_region 11 with (first
      | (at_builtin; (refine wpList_append_own _ rfl (.tmp 53) (.tmp 54) 22 rfl V.heap.size 5 i0 (.int .u8 0) 1 1 Try.underlying22 hi hz0 hz1 hz2 rfl (by decide) (.slice (some ⟨V.heap.size, 0, none⟩) 0 0) 0 [] rfl o0 ⟨gt, 0, none⟩ t t (T.map (Value.int .u8)) rfl (by rw [htT.out]; simp) sF (ones T) k1 k2 (by simp) ?_); intro u1 x1 p1 h1 _; have B1 : Below V.heap.size V x1 := (bel_alloc V (.cells #[] 5)).grown h1 (by simp) (fun k hk => by simp [Value.ownBlock] at hk; omega); have sK := (HF.out.1.below B1).sl.2.cellsAt; have p1' : x1.ownsRow V.heap.size 5 1 u1 t (T.map (Value.int .u8)) := (by simpa using p1); clear p1 h1)
      | (at_builtin; (refine wpList_append_own _ rfl (.tmp 55) (.tmp 56) 22 rfl V.heap.size 5 i0 (.int .u8 0) 1 1 Try.underlying22 hi hz0 hz1 hz2 rfl (by decide) u1 t (T.map (Value.int .u8)) rfl p1' ⟨gu, 0, none⟩ s s (S.map (Value.int .u8)) rfl (by rw [hsS.out]; simp) sK (ones S) k3 k4 B1.size ?_); intro u2 x2 p2 h2 _; have B2 : Below V.heap.size V x2 := B1.grown h2 B1.size (fun k hk => (World.ownsRow.lt p1' k hk).1); have O2 : Own x2 V.heap.size u2 R := Own.ofRows p2 hTS.out.symm (by rw [← hRl.out]; exact hts.out); obtain ⟨a2, c2, hv2⟩ := O2.shape'; rw [← hRl.out] at hv2; subst hv2; clear p2 h2 B1 p1' sK))
    have HO2 : Hid (Own x2 V.heap.size (.slice a2 q c2) R) := O2
    have hB2 : V.heap.size ≤ x2.heap.size := B2.size
    have HB2 : Hid (Below V.heap.size V x2) := B2
    have P2 := HP.out.1.below B2
    have Q2 := HP.out.2.below B2
    have A2 := HX.out.1.below B2
    have cA2 := A2.cell
    have cA3 := (A2.below (bel_alloc x2 (.cells #[] 5))).cell
    have o3 := (World.ownsRow_lit (base := x2.heap.size) (e := 5) (size := 1) x2 #[] 0 (Nat.le_refl _) (by omega) rfl).drew
    have sP : ∀ j u, (rs.map (Value.int .u8))[j]? = some u → (x2.alloc (.cells #[] 5)).drew.cell? (ad.add j) = some u := (P2.sl.2.below (bel_alloc x2 (.cells #[] 5))).cellsAt
    have HQ2 : Hid (Own x2 w.heap.size (.slice (some ad') m c') bs) := Q2
    have hxl : Hid (((bs.take pk).map (Value.int .u8)).length = pk * 1) := by show _ = _; simp; have := HM.out; omega
    clear B2 O2 P2 Q2 A2 o0 sF
    have hwr : IntKind.i64.wrap (pk : Int) = (pk : Int) := wraps_i64' _ (by omega) (by omega)
    have hwc : (pk : Int) ≤ (c' : Int) := by omega
    have hw0 : (0 : Int) ≤ (pk : Int) := by omega
    have k5 : 0 + n ≤ maxLen := by unfold maxLen; omega
    have k6 : (0 + n) * 1 ≤ 140737488355328 := by omega
    have k7 : n + pk ≤ maxLen := by rw [hnq.out]; omega
    have k8 : (n + pk) * 1 ≤ 140737488355328 := by omega
    go_region_law (first
      | ((refine step_append_own rfl (.tmp 58) (.tmp 60) 22 rfl x2.heap.size 5 i0 (.int .u8 0) 1 1 Try.underlying22 hi hz0 hz1 hz2 rfl (by decide) (.slice (some ⟨x2.heap.size, 0, none⟩) 0 0) 0 [] rfl o3 ad n c (rs.map (Value.int .u8)) rfl (by rw [HN.out]; simp) sP (ones rs) k5 k6 (by simp) ?_); intro u3 x3 p3 h3; have B3 : Below x2.heap.size x2 x3 := (bel_alloc x2 (.cells #[] 5)).drew.grown h3 (by simp) (fun k hk => by simp [Value.ownBlock] at hk; omega); have sQ := ((HQ2.out.below B3).sl.2.take pk).cellsAt; have p3' : x3.ownsRow x2.heap.size 5 1 u3 n (rs.map (Value.int .u8)) := (by simpa using p3); clear p3 h3)
      | ((refine step_append_own rfl (.tmp 61) (.tmp 67) 22 rfl x2.heap.size 5 i0 (.int .u8 0) 1 1 Try.underlying22 hi hz0 hz1 hz2 rfl (by decide) u3 n (rs.map (Value.int .u8)) rfl p3' ad' pk c' ((bs.take pk).map (Value.int .u8)) rfl hxl.out sQ (ones _) k7 k8 B3.size ?_); intro u4 x4 p4 h4; have B4 : Below x2.heap.size x2 x4 := B3.grown h4 B3.size (fun k hk => (World.ownsRow.lt p3' k hk).1); have O4 : Own x4 x2.heap.size u4 R := Own.ofRows p4 hRp.out (by rw [← hRl.out]; exact hnq.out); obtain ⟨a4, c4, hv4⟩ := O4.shape'; rw [← hRl.out] at hv4; subst hv4; clear p4 h4 B3 p3' sQ))
    all_goals (have HO4 : Hid (Own x4 x2.heap.size (.slice a4 q c4) R) := O4)
    all_goals (have b4 := bel_next (bel_next HF.out.2 HB2.out) B4)
    all_goals (have cN := ((HX.out.2.1.below HB2.out).below B4).cell)
    all_goals (have D4 := (HX.out.2.2.below HB2.out).below B4)
    all_goals (have O24 : Hid (Own x4 V.heap.size (.slice a2 q c2) R) := HO2.out.below B4)
    all_goals (clear B4 O4 cA2 cA3 o3 sP)
    all_goals (go_wp2_with fail)
    all_goals (refine (implRingOk_yes _ _ _ _ hq300).mono ?_)
    all_goals (rintro e x5 ⟨rfl, b5'⟩)
    all_goals (have b5 := bel_next b4 b5')
    all_goals (have D5 := D4.below b5')
    all_goals (have N5 := keepc b5' cN)
    all_goals (have O25 := O24.out.below b5')
    all_goals (have O45 := HO4.out.below b5')
    all_goals (clear b5' b4 D4 cN)
    all_goals (go_wp2_with fail)
    all_goals (refine (sameBytes_true _ _ _ _ _ _ R _ hRl.out hRl.out O25.sl.2 O45.sl.2 (by have := hRl.out; omega)).mono ?_)
    all_goals (rintro e x6 ⟨rfl, nd, rfl⟩)
    all_goals (have b6 := bel_drewN b5 nd)
    all_goals (have cD := D5.cell)
    all_goals (clear O25 O45 D5 b5)
    all_goals (rcases hend.out with h0 | h0)
    all_goals first
      | (have g0 : (l == 0) = true := by simp [h0]
         clear h0
         go_wp2
         go_ret
         exact ⟨rfl, b6⟩)
      | (by_cases hl0 : l = 0
         · have g0 : (l == 0) = true := by simp [hl0]
           clear h0 hl0
           go_wp2
           go_ret
           exact ⟨rfl, b6⟩
         · have g0 : (l == 0) = false := by simp [hl0]
           have g1 : ((q : Int) == 300) = true := by simp; omega
           clear h0 hl0
           go_wp2
           go_ret
           exact ⟨rfl, b6⟩)

end Go.Proofs.Ytckmffhdngfchaa
