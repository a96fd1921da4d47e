/- The law of sums, walked. -/
import Derived.Test.YtghmbonbdfchgaaDoorSums1
namespace Go.Proofs.YtghmbonbdfchgaaDoor
open Go.RowKit

set_option maxHeartbeats 1000000 in
theorem sums_law (a : Option Addr) (cap : Nat) (zs : List Int) (w : World) (hw : 0 < w.heap.size) (hT : Tab w) (hs : Sl w a zs) (hr : ∀ z ∈ zs, 0 ≤ z ∧ z ≤ 255) (hl : zs.length ≤ 1048576) :
    Calls Tryd.prog 3 #[.slice a zs.length cap] w fun e w' => e = .returned (.bool true) ∧ Below w.heap.size w w' := by
  have hl' : ¬ (1048576 : Int) < (zs.length : Int) := by omega
  obtain ⟨i0, hi, hz0, hz1, hz2⟩ := info_parts Tryd.info5
  have HT : Hid (Tab w) := hT
  have HSl : Hid (Sl w a zs) := hs
  have HR : Hid (∀ z ∈ zs, 0 ≤ z ∧ z ≤ 255) := hr
  go_enter Tryd.func3, Tryd.ntmps3
  go_wp2_with (first | (go_at_call 4; go_in) | fail)
  refine (drawCrc_any w a _ cap zs rfl hs hr hl).mono ?_
  rintro e w1 ⟨ad, n, c, bs, rfl, hn', hn20, o1, hr1, b1⟩
  subst hn'
  clear hs hr hT
  have hml : bs.length + 2 ≤ maxLen := by unfold maxLen; omega
  have hc16 := crcTo_lt bs (get_range hr1) bs.length
  have HOWN := fun lo hi h1 h2 => crc_own bs hc16 lo hi h1 h2
  generalize hx : crcTo bs bs.length = x at *
  have HX : Hid (crcTo bs bs.length = x) := hx
  have HC : Hid (crcTo (bs ++ [(x : Int) % 256, (x : Int) / 256]) (bs ++ [(x : Int) % 256, (x : Int) / 256]).length = 0) := HOWN _ _ rfl (by omega)
  clear hx HOWN
  go_wp2_with fail
  refine (implCrc_any _ _ _ bs _ rfl (HT.out.below b1 hw) o1.sl.2 hr1 (by omega)).mono ?_
  rintro e w1 ⟨rfl, e1⟩
  subst e1
  rw [HX.out]
  have q0 := World.ownsRow_lit (base := w1.heap.size) (e := 5) (size := 1) w1 #[] 0 (Nat.le_refl _) (by omega) rfl
  have c0 := (o1.sl.2.below ((Below.refl _ w1).alloc (Nat.le_refl _) (.cells #[] 5))).cellsAt
  go_wp2_with (first | (at_builtin; refine wpList_append_own _ rfl (.tmp 15) (.tmp 16) 22 rfl w1.heap.size 5 i0 (.int .u8 0) 1 1 Tryd.underlying22 hi hz0 hz1 hz2 rfl (by decide) (.slice (some ⟨w1.heap.size, 0, none⟩) 0 0) 0 [] rfl q0 ad bs.length c (bs.map (Value.int .u8)) rfl (by simp) c0 (ones bs) (by omega) (by omega) (by simp) ?_; intro v2 w2 o2 g2 _; simp only [Nat.zero_add, List.nil_append] at o2; have b2 : Below w1.heap.size w1 w2 := ((Below.refl _ w1).alloc (Nat.le_refl _) (.cells #[] 5)).grown g2 (by simp) (fun k hk => by simp [Value.ownBlock] at hk; omega)) | (at_builtin; refine wpList_append_own _ rfl (.tmp 17) (.tmp 23) 22 rfl w1.heap.size 5 i0 (.int .u8 0) 1 1 Tryd.underlying22 hi hz0 hz1 hz2 rfl (by decide) v2 bs.length (bs.map (Value.int .u8)) rfl (o2.alloc _) ⟨w2.heap.size, 0, none⟩ 2 2 [.int .u8 ((x : Int) % 256), .int .u8 ((x : Int) / 256)] rfl (by simp) two_cells (two_ones _ _) (by omega) (by omega) (by have := b2.size; simp; omega) ?_; intro v3 w3 o3 g3 _; have R := own_end b2 (fun k hk => (o2.lt k hk).1) o3 g3 rfl rfl; clear o2 g2 o3 g3 b2))
  obtain ⟨o3, b3'⟩ := R
  have b3 := b1.trans (b3'.mono b1.size)
  have p3 := o1.below b3'
  obtain ⟨a3, c3, hv3⟩ := own_some o3 (by simp)
  subst hv3
  clear b3' b1 o1 q0 c0
  refine (implLrc_any _ _ _ bs _ rfl p3.sl.2 hr1 (by omega)).mono ?_
  rintro e w3 ⟨rfl, e3⟩
  subst e3
  have hlb := lres_bd bs
  have HO : Hid (lres (bs ++ [lres bs]) = 0) := lres_own bs _ (by omega)
  have HLN : Hid (∀ i y, i < bs.length → (0 ≤ y ∧ y ≤ 255) → bs.getD i 0 ≠ y → lres (bs.set i y) ≠ lres bs) := fun i y h1 h2 h3 => lres_ne bs i y h1 (get_range hr1 i) h2 h3
  have HL0 : Hid (bs = [] → lres bs = 0) := fun h => by rw [h]; decide
  generalize hll : lres bs = l at *
  have HLL : Hid (lres bs = l) := hll
  clear hll
  go_wp2_with fail
  refine (implCrc_any _ _ _ (bs ++ [(x : Int) % 256, (x : Int) / 256]) _ (by simp) (HT.out.below b3 hw) o3.sl.2 (range_two hr1 (by omega) (by omega)) (by simp; omega)).mono ?_
  rintro e w3 ⟨rfl, e3⟩
  subst e3
  rw [HC.out]
  clear o3
  have q0 := World.ownsRow_lit (base := w3.heap.size) (e := 5) (size := 1) w3 #[] 0 (Nat.le_refl _) (by omega) rfl
  have c0 := (p3.sl.2.below ((Below.refl _ w3).alloc (Nat.le_refl _) (.cells #[] 5))).cellsAt
  go_wp2_with (first | (at_builtin; (refine wpList_append_own_g _ (by rfl) (.tmp 31) (.tmp 32) 22 rfl w3.heap.size 5 i0 (.int .u8 0) 1 1 Tryd.underlying22 hi hz0 hz1 hz2 rfl (by decide) (.slice (some ⟨w3.heap.size, 0, none⟩) 0 0) 0 [] rfl q0 ad bs.length c (bs.map (Value.int .u8)) rfl (by simp) c0 (ones bs) (by omega) (by omega) (by simp) ?_); intro v4 w4 o4 g4; simp only [Nat.zero_add, List.nil_append] at o4; have b4 : Below w3.heap.size w3 w4 := ((Below.refl _ w3).alloc (Nat.le_refl _) (.cells #[] 5)).grown g4 (by simp) (fun k hk => by simp [Value.ownBlock] at hk; omega)) | (at_builtin; (refine wpList_append_own_g _ (by rfl) (.tmp 33) (.tmp 36) 22 rfl w3.heap.size 5 i0 (.int .u8 0) 1 1 Tryd.underlying22 hi hz0 hz1 hz2 rfl (by decide) v4 bs.length (bs.map (Value.int .u8)) rfl (o4.alloc _) ⟨w4.heap.size, 0, none⟩ 1 1 [.int .u8 l] rfl (by simp) one_cell (one_one _) (by omega) (by omega) (by have := b4.size; simp; omega) ?_); intro v5 w5 o5 g5; have R := one_end b4 (fun k hk => (o4.lt k hk).1) o5 g5; clear o4 g4 o5 g5 b4))
  obtain ⟨o5, b5'⟩ := R
  have b5 := b3.trans (b5'.mono b3.size)
  have p5 := p3.below b5'
  obtain ⟨a5, c5, hv5⟩ := own_some o5 (by simp)
  subst hv5
  clear b5' b3 p3 q0 c0
  refine (implLrc_any _ _ _ (bs ++ [l]) _ rfl o5.sl.2 (range_snoc hr1 hlb) (by simp; omega)).mono ?_
  rintro e w5 ⟨rfl, e5⟩
  subst e5
  rw [HO.out]
  clear o5
  have d0 : decide ((x : Int) < 0) = false := by simp
  have d1 : decide (65535 < (x : Int)) = false := by simp; omega
  by_cases hb0 : bs = []
  · have t0 : ((bs.length : Int) == 0) = true := by rw [hb0]; rfl
    have t1 : ((x : Int) == 65535) = true := by
      have := HX.out
      rw [hb0] at this
      rw [← this]; rfl
    have t2 : (l == 0) = true := by rw [HL0.out hb0]; rfl
    clear hb0 hr1
    go_wp2
    go_ret
    exact ⟨rfl, b5⟩
  · have hpos : 0 < bs.length := List.length_pos_iff.2 hb0
    have t0 : ((bs.length : Int) == 0) = false := by simp; exact hb0
    clear hb0
    go_wp2_with fail
    refine (at_any _ a _ cap zs _ (by decide) (by decide) rfl (HSl.out.below b5) HR.out hl).mono ?_
    rintro e w5 ⟨y2, rfl, hy2, hy2', e6⟩
    subst e6
    go_wp2_with fail
    refine (at_any _ a _ cap zs _ (by decide) (by decide) rfl (HSl.out.below b5) HR.out hl).mono ?_
    rintro e w5 ⟨y3, rfl, hy3, hy3', e6⟩
    subst e6
    have q0 := World.ownsRow_lit (base := w5.heap.size) (e := 5) (size := 1) w5 #[] 0 (Nat.le_refl _) (by omega) rfl
    have c0 := (p5.sl.2.below ((Below.refl _ w5).alloc (Nat.le_refl _) (.cells #[] 5))).cellsAt
    go_wp2_with (first | (at_builtin; (refine wpList_append_own _ rfl (.tmp 68) (.tmp 69) 22 rfl w5.heap.size 5 i0 (.int .u8 0) 1 1 Tryd.underlying22 hi hz0 hz1 hz2 rfl (by decide) (.slice (some ⟨w5.heap.size, 0, none⟩) 0 0) 0 [] rfl q0 ad bs.length c (bs.map (Value.int .u8)) rfl (by simp) c0 (ones bs) (by omega) (by omega) (by simp) ?_; intro v6 w6 o6 g6 _; simp only [Nat.zero_add, List.nil_append] at o6; have b6' : Below w5.heap.size w5 w6 := ((Below.refl _ w5).alloc (Nat.le_refl _) (.cells #[] 5)).grown g6 (by simp) (fun k hk => Nat.le_of_eq (Option.some.inj hk)); obtain ⟨gq, cq, hv6, hgq, hcq⟩ := own_row (show Own w6 w5.heap.size v6 bs from o6) hpos; subst hv6; generalize hK : (y2 * 256 + y3) % (8 * (bs.length : Int)) = K; obtain ⟨kk, hkk, hk8⟩ : ∃ kk : Nat, K = (kk : Int) ∧ kk / 8 < bs.length := nat_below hK hpos; subst hkk; obtain ⟨hcell, hfz, hset⟩ := own_at o6 hk8; have rz := get_range hr1 (kk / 8); generalize hz : bs.getD (kk / 8) 0 = z at hcell rz; have HZZ : Hid (bs.getD (kk / 8) 0 = z) := hz; have HSET := hset; have HST : Hid (∀ y : Int, Own (w6.setCell ⟨gq, kk / 8, none⟩ (.int .u8 y)) w5.heap.size (.slice (some ⟨gq, 0, none⟩) bs.length cq) (bs.set (kk / 8) y) ∧ w6.grownBy (w6.setCell ⟨gq, kk / 8, none⟩ (.int .u8 y)) (some gq)) := hset; have hidx : (kk : Int) / 8 < (bs.length : Int) := (by omega); clear hz hset HSET hK o6 g6 q0 c0)))
    have F := flip_bd z kk rz.1 rz.2
    generalize bits BinOp.xor IntKind.u8 z (2 ^ (kk % 8) % 256) = y at *
    have TT := turned_told bs hr1 (kk / 8) y hk8 F.1 (by rw [HZZ.out]; exact F.2)
    obtain ⟨o7, g7⟩ := HST.out y
    have b6 := b5.trans (b6'.mono b5.size)
    have b7 : Below w.heap.size w (w6.setCell ⟨gq, kk / 8, none⟩ (.int .u8 y)) := b6.grown g7 b6.size (fun k hk => by have := b5.size; have e := Option.some.inj hk; omega)
    generalize w6.setCell ⟨gq, kk / 8, none⟩ (.int .u8 y) = w7 at *
    clear HST hcell hfz g7 b6 b6' p5 b5
    have hlen : Hid (bs.length = (bs.set (kk / 8) y).length) := by show bs.length = _; rw [List.length_set]
    have hle : Hid ((bs.set (kk / 8) y).length ≤ 2000000) := by show _ ≤ _; rw [List.length_set]; omega
    generalize bs.set (kk / 8) y = ts at *
    obtain ⟨T1, T2, T3⟩ := TT
    rw [HX.out] at T2
    rw [HLL.out] at T3
    refine (implCrc_any _ _ _ ts _ hlen.out (HT.out.below b7 hw) o7.sl.2 T1 hle.out).mono ?_
    rintro e w7 ⟨rfl, e7⟩
    subst e7
    have n1 : (((crcTo ts ts.length : Nat) : Int) != (x : Int)) = true := by simp; omega
    generalize crcTo ts ts.length = x' at *
    go_wp2_with fail
    refine (implLrc_any _ _ _ ts _ hlen.out o7.sl.2 T1 hle.out).mono ?_
    rintro e w7 ⟨rfl, e7⟩
    subst e7
    have n2 : (lres ts != l) = true := by simpa using T3
    generalize lres ts = l' at *
    clear o7 T1 hr1
    go_wp2
    go_ret
    exact ⟨rfl, b7⟩

end Go.Proofs.YtghmbonbdfchgaaDoor
