/- The law of digits: bytes come back of their digits, a word of its bytes. -/
import Derived.Test.YtghmbonbdfchgaaDraw1
import Derived.Test.YtghmbonbdfchgaaUnHex3
import Derived.Test.YtghmbonbdfchgaaWordAt1
import Derived.Test.YtghmbonbdfchgaaPutWord2
namespace Go.Proofs.Ytghmbonbdfchgaa
open Go.RowKit

theorem dg_hexd (d : Int) (h0 : 0 ≤ d) (h1 : d ≤ 15) : dg (hexd d) = d := by
  unfold dg hexd
  by_cases h : d < 10
  · rw [if_pos h, if_pos (by omega)]; omega
  · rw [if_neg h, if_neg (by omega), if_pos (by omega)]; omega
theorem hexd_bd (d : Int) (h0 : 0 ≤ d) (h1 : d ≤ 15) : 0 ≤ hexd d ∧ hexd d ≤ 255 := by unfold hexd; split <;> omega

theorem hexs_get (zs : List Int) : ∀ k, k ≤ zs.length → ∀ i, i < k → (hexs zs k)[2 * i]? = some (hexd (zs.getD i 0 / 16)) ∧ (hexs zs k)[2 * i + 1]? = some (hexd (zs.getD i 0 % 16))
  | 0, _, i, hi => absurd hi (Nat.not_lt_zero _)
  | k + 1, h, i, hi => by
    rw [hexs_succ zs k (by omega)]
    have hl := hexs_length zs k (by omega)
    by_cases e : i < k
    · have ih := hexs_get zs k (by omega) i e
      rw [List.getElem?_append_left (by omega), List.getElem?_append_left (by omega)]
      exact ih
    · obtain rfl : i = k := by omega
      rw [List.getElem?_append_right (by omega), List.getElem?_append_right (by omega), hl]
      constructor
      · rw [show 2 * i - 2 * i = 0 by omega]; rfl
      · rw [show 2 * i + 1 - 2 * i = 1 by omega]; rfl

theorem D_str (xs : List Int) (j : Nat) (x : Int) (h : xs[j]? = some x) (h0 : 0 ≤ x) (h1 : x ≤ 255) : D (strOfNums xs) j = dg x := by
  have hj : j < xs.length := (List.getElem?_eq_some_iff.1 h).1
  have hs : j < (strOfNums xs).size := by rw [strOfNums_size]; exact hj
  rw [D_at _ j hs]
  have e : ((strOfNums xs)[j]'hs) = UInt8.ofNat x.toNat := by
    have e1 : (strOfNums xs).data.toList[j]? = some (UInt8.ofNat x.toNat) := by rw [strOfNums_data, List.getElem?_map, h]; rfl
    have e2 : (strOfNums xs).data.toList[j]? = some ((strOfNums xs)[j]'hs) := by
      rw [Array.getElem?_toList]
      exact Array.getElem?_eq_getElem hs
    rw [e1] at e2
    exact (Option.some.inj e2).symm
  rw [e]
  have e3 : ((UInt8.ofNat x.toNat).toNat : Int) = x := by
    rw [UInt8.toNat_ofNat']
    omega
  rw [e3]

theorem unhex_hex (zs : List Int) (hr : ∀ z ∈ zs, 0 ≤ z ∧ z ≤ 255) : okS (strOfNums (hexs zs zs.length)) = true ∧ outS (strOfNums (hexs zs zs.length)) = zs := by
  have hl := hexs_length zs zs.length (Nat.le_refl _)
  have hsz : (strOfNums (hexs zs zs.length)).size = 2 * zs.length := by rw [strOfNums_size, hl]
  have hD : ∀ i, i < zs.length → D (strOfNums (hexs zs zs.length)) (2 * i) = zs.getD i 0 / 16 ∧ D (strOfNums (hexs zs zs.length)) (2 * i + 1) = zs.getD i 0 % 16 := fun i hi => by
    have g := hexs_get zs zs.length (Nat.le_refl _) i hi
    have r := get_range hr i
    have b1 := hexd_bd (zs.getD i 0 / 16) (by omega) (by omega)
    have b2 := hexd_bd (zs.getD i 0 % 16) (by omega) (by omega)
    rw [D_str _ _ _ g.1 b1.1 b1.2, D_str _ _ _ g.2 b2.1 b2.2, dg_hexd _ (by omega) (by omega), dg_hexd _ (by omega) (by omega)]
    exact ⟨rfl, rfl⟩
  have hg : ∀ j, j < (strOfNums (hexs zs zs.length)).size → 0 ≤ D (strOfNums (hexs zs zs.length)) j := fun j hj => by
    have d := hD (j / 2) (by omega)
    have r := get_range hr (j / 2)
    by_cases e : j % 2 = 0
    · have e2 : 2 * (j / 2) = j := by omega
      rw [e2] at d
      rw [d.1]; omega
    · have e2 : 2 * (j / 2) + 1 = j := by omega
      rw [e2] at d
      rw [d.2]; omega
  have Y := okS_yes (s := strOfNums (hexs zs zs.length)) (by omega) hg
  refine ⟨Y.1, ?_⟩
  rw [Y.2, hsz, show 2 * zs.length / 2 = zs.length by omega]
  apply List.ext_getElem?
  intro i
  by_cases hi : i < zs.length
  · have d := hD i hi
    simp only [bytesTo, List.getElem?_map, List.getElem?_range hi, Option.map_some]
    rw [d.1, d.2, List.getElem?_eq_getElem hi, List.getD_eq_getElem?_getD, List.getElem?_eq_getElem hi]
    simp only [Option.getD_some, Option.some.injEq]
    omega
  · rw [List.getElem?_eq_none (by rw [bytesTo_length]; omega), List.getElem?_eq_none (by omega)]

theorem Sl.pre {w : World} {a : Option Addr} {xs ys : List Int} (h : Sl w a (xs ++ ys)) : Sl w a xs := by
  rcases h with h | ⟨b, off, ha, hb, hc⟩
  · exact .inl (List.append_eq_nil_iff.1 h).1
  · refine .inr ⟨b, off, ha, hb, fun i hi => ?_⟩
    have := hc i (by simp; omega)
    rw [this, List.getD_eq_getElem?_getD, List.getD_eq_getElem?_getD, List.getElem?_append_left hi]

theorem word2_and (x : Int) : word2 (x / 256 % 256) (x % 256) = bits BinOp.and IntKind.i64 x 65535 := by
  unfold word2
  rw [or8 _ _ (by omega) (by omega) (by omega) (by omega), and16]
  omega

/-- PutWord's answer, its memory told. -/
theorem implPutWord_at (ad : Addr) (n cap : Nat) (zs : List Int) (x : Int) (w : World) (hn : n = zs.length) (hs : Sl w (some ad) zs) (hl : zs.length ≤ 2000000) :
    Calls Try.prog 9 #[.slice (some ad) n cap, .int .i64 x] w fun e w' => ∃ g c, e = .returned (.slice (some ⟨g, 0, none⟩) (n + 2) c) ∧ n + 2 ≤ c ∧ Own w' w.heap.size (.slice (some ⟨g, 0, none⟩) (n + 2) c) (zs ++ [x / 256 % 256, x % 256]) ∧ Below w.heap.size w w' := by
  refine (implPutWord_any ad n cap zs x w hn hs hl).mono ?_
  rintro e w' ⟨v, rfl, ho, hb⟩
  have e2 : (zs ++ [x / 256 % 256, x % 256]).length = n + 2 := by simp [hn]
  have hx : ∃ g c, v = .slice (some ⟨g, 0, none⟩) (n + 2) c ∧ n + 2 ≤ c := by
    obtain ⟨_, h2⟩ := ho
    rcases h2 with ⟨h2, h3⟩ | ⟨g, cap', cur, hv, _, _, hle, _⟩
    · omega
    · rw [e2] at hv hle
      exact ⟨g, cap', hv, hle⟩
  obtain ⟨g, c, rfl, hc⟩ := hx
  exact ⟨g, c, rfl, hc, ho, hb⟩

set_option maxHeartbeats 4000000 in
theorem digits_law (a : Option Addr) (cap : Nat) (zs : List Int) (w : World) (hs : Sl w a zs) (hr : ∀ z ∈ zs, 0 ≤ z ∧ z ≤ 255) (hl : zs.length ≤ 1048576) :
    Calls Try.prog 3 #[.slice a zs.length cap] w fun e w' => e = .returned (.bool true) ∧ Below w.heap.size w w' := by
  have hl' : ¬ (1048576 : Int) < (zs.length : Int) := by omega
  go_enter Try.func3, Try.ntmps3
  go_wp2_with (first | (go_at_call 5; go_in) | fail)
  refine (drawPutWord_any w a _ cap zs rfl hs hr hl).mono ?_
  rintro e w1 ⟨ad, n, c, bs, x, rfl, hn', hn20, o1, hr1, b1⟩
  have HN : Hid (n = bs.length) := hn'
  clear hs hr hn'
  have hU := unhex_hex bs hr1
  have hSz : (strOfNums (hexs bs bs.length)).size = 2 * n := by rw [strOfNums_size, hexs_length bs _ (Nat.le_refl _), HN.out]
  generalize hS : strOfNums (hexs bs bs.length) = S at hU hSz
  have HS : Hid (strOfNums (hexs bs bs.length) = S) := hS
  have HU : Hid (okS S = true ∧ outS S = bs) := hU
  have hSi : ((S.size : Int) == 2 * (n : Int)) = true := by simp [hSz]
  have HZ : Hid (S.size = 2 * n) := hSz
  clear hS hU hSz
  have hnb : Hid (bs.length ≤ 20) := by show bs.length ≤ 20; rw [← HN.out]; exact hn20
  go_wp2_with fail
  refine (implHex_any _ _ _ bs _ HN.out o1.sl.2 hr1 (by have := hnb.out; omega)).mono ?_
  rintro e w2 ⟨rfl, b2'⟩
  have b2 := b1.trans (b2'.mono b1.size)
  have o2 := o1.below b2'
  rw [HS.out]
  clear o1 b1 b2'
  go_wp2_with fail
  refine (implUnHex_any S _ (by rw [HZ.out]; omega)).mono ?_
  unfold Ends
  rw [HU.out.1, HU.out.2, ← HN.out]
  rintro e w3 ⟨a3, c3, rfl, x3, b3'⟩
  have b3 := b2.trans (b3'.mono b2.size)
  have o3 := o2.below b3'
  clear o2 b2 b3'
  go_wp2_with fail
  refine (implPutWord_at _ _ _ bs x _ HN.out o3.sl.2 (by have := hnb.out; omega)).mono ?_
  rintro e w4 ⟨gp, cp, rfl, hcp, p4, b4'⟩
  have b4 := b3.trans (b4'.mono b3.size)
  have o4 := o3.below b4'
  have x4 := x3.below b4'
  clear o3 x3 b3 b4'
  have ps := p4.sl.2
  have pc : ∀ i, i < (bs ++ [x / 256 % 256, x % 256]).length → w4.cell? ⟨gp, 0 + i, none⟩ = some (.int .u8 ((bs ++ [x / 256 % 256, x % 256]).getD i 0)) := by
    rcases ps with h | ⟨b, off, hab, _, hc⟩
    · simp at h
    · simp only [Option.some.injEq, Addr.mk.injEq] at hab
      obtain ⟨rfl, rfl, _⟩ := hab
      exact hc
  have q0 : w4.cell? ⟨gp, 0 + n, none⟩ = some (.int .u8 (x / 256 % 256)) := by
    rw [pc n (by rw [HN.out]; simp), HN.out]; simp
  have q1 : w4.cell? ⟨gp, 0 + (n + 1), none⟩ = some (.int .u8 (x % 256)) := by
    rw [pc (n + 1) (by rw [HN.out]; simp), HN.out]; simp
  go_wp2_with fail
  refine (implWordAt_in gp 0 _ _ (x / 256 % 256) (x % 256) n _ (by omega) q0 q1 (by omega) (by omega) (by omega) (by omega) (by omega)).mono ?_
  rintro e w5 ⟨rfl, n5, rfl⟩
  rw [word2_and]
  clear pc q0 q1
  have b5 := bel_drewN b4 n5
  have o5 := o4.below (bel_drewN (Below.refl _ _) n5)
  have x5 := x4.below (bel_drewN (Below.refl _ _) n5)
  have p5 := p4.below (bel_drewN (Below.refl _ _) n5)
  clear o4 x4 p4 b4 ps
  generalize w4.drewN n5 = w5 at *
  go_wp2_with fail
  refine (implWordAt_out _ _ _ _ _ (by right; omega) (by omega)).mono ?_
  rintro e w6 ⟨rfl, n6, rfl⟩
  have b6 := bel_drewN b5 n6
  have o6 := o5.below (bel_drewN (Below.refl _ _) n6)
  have x6 := x5.below (bel_drewN (Below.refl _ _) n6)
  have p6 := p5.below (bel_drewN (Below.refl _ _) n6)
  clear o5 x5 p5 b5
  generalize w5.drewN n6 = w6 at *
  go_wp2_with fail
  refine (sameBytes_true _ _ _ _ _ _ bs _ HN.out HN.out x6.sl.2 o6.sl.2 (by have := hnb.out; omega)).mono ?_
  rintro e w7 ⟨rfl, n7, rfl⟩
  have b7 := bel_drewN b6 n7
  have o7 := o6.below (bel_drewN (Below.refl _ _) n7)
  have p7 := p6.below (bel_drewN (Below.refl _ _) n7)
  clear o6 x6 p6 b6
  generalize w6.drewN n7 = w7 at *
  go_wp2_with fail
  refine (implHex_any _ _ _ bs _ HN.out o7.sl.2 hr1 (by have := hnb.out; omega)).mono ?_
  rintro e w8 ⟨rfl, b8'⟩
  have b8 := b7.trans (b8'.mono b7.size)
  have o8 := o7.below b8'
  have p8 := p7.below b8'
  rw [HS.out]
  clear o7 p7 b7 b8'
  go_wp2_with fail
  refine (sameBytes_true _ _ _ _ _ _ bs _ HN.out HN.out (Sl.pre p8.sl.2) o8.sl.2 (by have := hnb.out; omega)).mono ?_
  rintro e w9 ⟨rfl, n9, rfl⟩
  have b9 := bel_drewN b8 n9
  clear o8 p8 b8
  go_wp2
  go_ret
  exact ⟨rfl, b9⟩

end Go.Proofs.Ytghmbonbdfchgaa
