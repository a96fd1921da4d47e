/- GetAscii of the model. -/
import Derived.Test.YtmcednhinafpeaaAsc4
namespace Go.Proofs.Ytmcednhinafpeaa
open Go.RowKit

set_option linter.unusedVariables false

set_option linter.unusedSimpArgs false

set_option maxRecDepth 20000 in
set_option maxHeartbeats 2000000 in
theorem specGetAscii_any (a : Option Addr) (l c : Nat) (bs : List Int) (w : World) (hn : l = bs.length) (hlc : l ≤ c) (hs : Sl w a bs) (hl : bs.length ≤ 2000000) :
    Calls Try.prog 23 #[.slice a l c] w fun e w' => GT w w' e (gaU bs) (gaP bs) (gaC bs) := by
  by_cases h3 : (l : Int) < 3
  · have f := frB_no (bs := bs) (by omega)
    have R := ga_lit w w 4 bs (by unfold gaC; rw [if_pos (by rw [f]; rfl)]) (by decide) (Below.refl _ _)
    clear hs hn f
    go_enter Try.func23, Try.ntmps23
    go_wp2_with fail
    go_ret3
    exact R
  obtain ⟨m, hm⟩ : ∃ m, l = m + 1 + 1 := ⟨l - 2, by omega⟩
  obtain ⟨b, off, rfl, hb0, hc0⟩ := cell_at hs (k := 0) (by omega)
  obtain ⟨b', off', e', hb1, hcA⟩ := cell_at hs (k := m) (by omega)
  simp only [Option.some.injEq, Addr.mk.injEq, and_true] at e'
  obtain ⟨rfl, rfl⟩ := e'
  obtain ⟨b', off', e', hb2, hcB⟩ := cell_at hs (k := m + 1) (by omega)
  simp only [Option.some.injEq, Addr.mk.injEq, and_true] at e'
  obtain ⟨rfl, rfl⟩ := e'
  rw [Nat.add_zero] at hc0
  have em : bs.length - 2 = m := by omega
  have em1 : bs.length - 1 = m + 1 := by omega
  have HFN : Hid (¬ (bs.getD 0 0 = 58 ∧ bs.getD m 0 = 13 ∧ bs.getD (m + 1) 0 = 10) → frB bs = false) := fun h => frB_no (by rw [em, em1]; exact fun k => h k.2)
  have HFY : Hid ((bs.getD 0 0 = 58 ∧ bs.getD m 0 = 13 ∧ bs.getD (m + 1) 0 = 10) → frB bs = true) := fun h => frB_yes (by rw [em, em1]; exact ⟨by omega, h⟩)
  have HS : Hid (Sl w (some ⟨b, off, none⟩) bs) := hs
  have HB : Hid (l = bs.length) := hn
  have t2 : ((l : Int) - 2).toNat = m := by omega
  have t1 : ((l : Int) - 1).toNat = m + 1 := by omega
  have i0 : (1 : Int) ≤ (l : Int) - 2 := by omega
  have i1 : (l : Int) - 2 ≤ (l : Int) := by omega
  have i2 : (l : Int) - 2 ≤ (c : Int) := by omega
  have i3 : (l : Int) - 2 < (l : Int) := by omega
  have i3' : (l : Int) - 1 < (l : Int) := by omega
  have i4 : (0 : Int) ≤ (l : Int) - 2 := by omega
  have i4' : (0 : Int) ≤ (l : Int) - 1 := by omega
  have i5 : IntKind.i64.wrap ((l : Int) - 2) = (l : Int) - 2 := by rw [IntKind.wrap_i64]; omega
  have i5' : IntKind.i64.wrap ((l : Int) - 1) = (l : Int) - 1 := by rw [IntKind.wrap_i64]; omega
  have i6 : (1 : Int) ≤ (c : Int) := by omega
  have i7 : (0 : Int) < (l : Int) := by omega
  have i8 : 0 < l := by omega
  have hcq : ¬ c = 1 := by omega
  have HLL : Hid (bs.length ≤ 2000000) := hl
  have HMM : Hid (l = m + 1 + 1) := hm
  have tm : ((l : Int) - 2).toNat - 1 = m - 1 := by omega
  clear hs hn hb1 hb2 em em1 hl hm

  by_cases h58 : bs.getD 0 0 = 58
  case neg =>
    have f := HFN.out (fun k => h58 k.1)
    have R := ga_lit w w 4 bs (by unfold gaC; rw [if_pos (by rw [f]; rfl)]) (by decide) (Below.refl _ _)
    have h58b : (bs.getD 0 0 != 58) = true := by simpa using h58
    clear HFN HFY f h58
    generalize bs.getD 0 0 = z at *
    generalize bs.getD m 0 = zA at *
    generalize bs.getD (m + 1) 0 = zB at *
    go_enter Try.func23, Try.ntmps23
    go_wp2_with fail
    go_ret3
    exact R
  by_cases h13 : bs.getD m 0 = 13
  case neg =>
    have f := HFN.out (fun k => h13 k.2.1)
    have R := ga_lit w w 4 bs (by unfold gaC; rw [if_pos (by rw [f]; rfl)]) (by decide) (Below.refl _ _)
    have h58b : (bs.getD 0 0 != 58) = false := by simpa using h58
    have h13b : (bs.getD m 0 != 13) = true := by simpa using h13
    clear HFN HFY f h58 h13
    generalize bs.getD 0 0 = z at *
    generalize bs.getD m 0 = zA at *
    generalize bs.getD (m + 1) 0 = zB at *
    go_enter Try.func23, Try.ntmps23
    go_wp2_with fail
    go_ret3
    exact R
  by_cases h10 : bs.getD (m + 1) 0 = 10
  case neg =>
    have f := HFN.out (fun k => h10 k.2.2)
    have R := ga_lit w w 4 bs (by unfold gaC; rw [if_pos (by rw [f]; rfl)]) (by decide) (Below.refl _ _)
    have h58b : (bs.getD 0 0 != 58) = false := by simpa using h58
    have h13b : (bs.getD m 0 != 13) = false := by simpa using h13
    have h10b : (bs.getD (m + 1) 0 != 10) = true := by simpa using h10
    clear HFN HFY f h58 h13 h10
    generalize bs.getD 0 0 = z at *
    generalize bs.getD m 0 = zA at *
    generalize bs.getD (m + 1) 0 = zB at *
    go_enter Try.func23, Try.ntmps23
    go_wp2_with fail
    go_ret3
    exact R
  have f := HFY.out ⟨h58, h13, h10⟩
  have h58b : (bs.getD 0 0 != 58) = false := by simpa using h58
  have h13b : (bs.getD m 0 != 13) = false := by simpa using h13
  have h10b : (bs.getD (m + 1) 0 != 10) = false := by simpa using h10
  have S1 : Sl w (some ⟨b, off + 1, none⟩) ((bs.drop 1).take (bs.length - 3)) := (Sl.dropT HS.out (by have := HB.out; have := HMM.out; omega)).takeT _
  rw [← mid_yes f] at S1
  have HML : Hid ((mid bs).length = m - 1) := by show _ = _; rw [mid_yes f]; have := HB.out; have := HMM.out; simp; omega
  have hcv := fun cp => conv_at (cap := cp) (n := m - 1) HML.out.symm S1
  have hml : (strOfNums (mid bs)).size ≤ 2000000 := by rw [strOfNums_size]; have := mid_len bs; have := HLL.out; omega
  have hwl := wiA_len bs
  have hwr := outS_rg (strOfNums (mid bs))
  have HC : Hid (gaC bs = if (frB bs && okS (strOfNums (mid bs))) = false then 4 else if (wiA bs).length < 3 then 1 else if 255 < (wiA bs).length then 2 else if lres (wiA bs) = 0 then 0 else 3) := rfl
  have HG : Hid (gaC bs = 0 → gaU bs = (wiA bs).getD 0 0 ∧ gaP bs = ((wiA bs).drop 1).take ((wiA bs).length - 2)) := ga_good
  have hUH := fun w => specUnHex_any (strOfNums (mid bs)) w hml
  unfold Ends at hUH
  unfold wiA at HC HG hwl
  have HL : Hid ((outS (strOfNums (mid bs))).length ≤ 2000000) := by show _ ≤ _; have := HLL.out; omega
  have HWR : Hid (∀ z ∈ outS (strOfNums (mid bs)), 0 ≤ z ∧ z ≤ 255) := hwr
  generalize okS (strOfNums (mid bs)) = ok at *
  generalize outS (strOfNums (mid bs)) = xs at *
  generalize strOfNums (mid bs) = S at *
  obtain ⟨n, hn2⟩ : ∃ n, n = xs.length := ⟨_, rfl⟩
  simp only [← hn2] at hUH
  have HN : Hid (n = xs.length) := hn2
  have hnl : n ≤ 2000000 := by have := HL.out; omega
  have HC0 : Hid (gaC bs = if ok = false then 4 else if xs.length < 3 then 1 else if 255 < xs.length then 2 else if lres xs = 0 then 0 else 3) := by show gaC bs = _; rw [HC.out, f]; simp
  have HUH := hide hUH
  clear hUH hml hwr hwl hn2 HFN HFY h58 h13 h10 f S1 HC HML
  generalize bs.getD 0 0 = z0 at *
  generalize bs.getD m 0 = zA at *
  generalize bs.getD (m + 1) 0 = zB at *
  go_enter Try.func23, Try.ntmps23
  go_wp2_with fail
  refine (unhide HUH _).mono ?_
  rintro e w1 ⟨xa, xc, rfl, xo, b1⟩
  clear hcv h58b h13b h10b hc0 hcA hcB t1 t2 i0 i1 i2 i3 i3' i4 i4' i5 i5' i6 i7 i8 hcq tm hb0
  cases ok
  case false =>
    have R := ga_lit w w1 4 bs (by rw [HC0.out, if_pos rfl]) (by decide) b1
    clear HC0 HG HUH xo
    go_wp2_with fail
    go_ret3
    exact R
  have HC2 : Hid (gaC bs = if xs.length < 3 then 1 else if 255 < xs.length then 2 else if lres xs = 0 then 0 else 3) := by show gaC bs = _; rw [HC0.out, if_neg (by simp)]
  clear HC0 HUH
  have hn := HN.out
  by_cases h3 : (n : Int) < 3
  · have R := ga_lit w w1 1 bs (by rw [HC2.out, if_pos (by omega)]) (by decide) b1
    clear HC2 HG xo hn
    go_wp2_with fail
    go_ret3
    exact R
  by_cases h255 : (255 : Int) < (n : Int)
  · have R := ga_lit w w1 2 bs (by rw [HC2.out, if_neg (by omega), if_pos (by omega)]) (by decide) b1
    clear HC2 HG xo hn
    go_wp2_with fail
    go_ret3
    exact R
  have HC3 : Hid (gaC bs = if lres xs = 0 then 0 else 3) := by show gaC bs = _; rw [HC2.out, if_neg (by omega), if_neg (by omega)]
  have HNC : Hid (n ≤ xc) := own_cap xo
  obtain ⟨g, xc', hv, _, _⟩ := own_some xo (by omega)
  simp only [Value.slice.injEq] at hv
  obtain ⟨rfl, hx0, rfl⟩ := hv
  clear hx0
  obtain ⟨k, hk⟩ : ∃ k, n = k + 1 := ⟨n - 1, by omega⟩
  have hsi := lsum_iff xs k (by omega) HWR.out
  have hnc : n ≤ xc := HNC.out
  obtain ⟨b', off', e', hb0, hc1⟩ := cell_at xo.sl.2 (k := 0) (by omega)
  simp only [Option.some.injEq, Addr.mk.injEq, and_true] at e'
  obtain ⟨rfl, rfl⟩ := e'
  rw [Nat.add_zero] at hc1
  obtain ⟨b', off', e', _, hcK⟩ := cell_at xo.sl.2 (k := k) (by omega)
  simp only [Option.some.injEq, Addr.mk.injEq, and_true] at e'
  obtain ⟨rfl, rfl⟩ := e'
  have rg := get_range HWR.out 0
  have rK := get_range HWR.out k
  have SX : Hid (Sl w1 (some ⟨g, 0, none⟩) xs) := xo.sl.2
  have ST : Hid (Sl w1 (some ⟨g, 0, none⟩) (xs.take k)) := xo.sl.2.takeT k
  have HRT : Hid (∀ z ∈ xs.take k, 0 ≤ z ∧ z ≤ 255) := fun z hz => HWR.out z (List.mem_of_mem_take hz)
  have HKT : Hid (k = (xs.take k).length ∧ (xs.take k).length ≤ 2000000) := by show _ ∧ _; simp; omega
  have bdL := lres_bd (xs.take k)
  generalize lres xs = y at *
  generalize xs.getD k 0 = zK at *
  have tk : ((n : Int) - 1).toNat = k := by omega
  have i0 : (1 : Int) ≤ (n : Int) - 1 := by omega
  have i1 : (n : Int) - 1 ≤ (n : Int) := by omega
  have i2 : (n : Int) - 1 ≤ (xc : Int) := by omega
  have i3 : (n : Int) - 1 < (n : Int) := by omega
  have i4 : (0 : Int) ≤ (n : Int) - 1 := by omega
  have i5 : IntKind.i64.wrap ((n : Int) - 1) = (n : Int) - 1 := by rw [IntKind.wrap_i64]; omega
  have i6 : (1 : Int) ≤ (xc : Int) := by omega
  have i7 : (0 : Int) < (n : Int) := by omega
  have i8 : 0 < n := by omega
  have hcq : ¬ xc = 1 := by omega
  have i9 : (1 : Int) ≤ (n : Int) := by omega
  have HKN : Hid (n = k + 1) := hk
  clear HC2 hn hk xo
  rw [Nat.zero_add] at hcK
  have hLr := fun (w' : World) (h : Sl w' (some ⟨g, 0, none⟩) (xs.take k)) => specLrc_any (some ⟨g, 0, none⟩) k xc (xs.take k) w' HKT.out.1 h HRT.out HKT.out.2
  have HSI : Hid (y = 0 ↔ zK = lres (xs.take k)) := hsi
  clear hsi
  generalize lres (xs.take k) = yT at *
  have HLr := hide hLr
  clear hLr
  have izK : IntKind.i64.wrap zK = zK := by rw [IntKind.wrap_i64]; omega
  have dz : Below w1.heap.size w1 w1.drew := (Below.refl _ _).drew
  by_cases hz : zK = yT
  case neg =>
    have R := fun w' hb => ga_lit w w' 3 bs (by rw [HC3.out, if_neg (fun h => hz (HSI.out.1 h))]) (by decide) (bel_next b1 hb)
    have HR := hide R
    have hzb : (zK != yT) = true := by simpa using hz
    clear HC3 HG HSI hz R
    go_wp2_with fail
    go_region_held3 (fun w' => w'.cell? ⟨g, k, none⟩ = some (.int .u8 zK)) (go_keep)
      (first | (go_at_call 52; refine (unhide HLr _ (ST.out.below ?_)).mono ?_; (first | exact Below.refl _ _ | exact dz | exact dz.drew | exact dz.drew.drew); rintro e w3 ⟨rfl, e3⟩; have b3 : Below w1.heap.size w1 w3 := (by rw [e3]; first | exact Below.refl _ _ | exact dz | exact dz.drew | exact dz.drew.drew); clear e3; have hc3 : w3.cell? ⟨g, k, none⟩ = some (.int .u8 zK) := by (rw [b3.cell (p := ⟨g, k, none⟩) hb0]; exact hcK)))
    all_goals (go_wp2_with fail; go_ret3; first | exact unhide HR _ b3 | exact unhide HR _ b3.drew)
  have h0 : gaC bs = 0 := by rw [HC3.out, if_pos (HSI.out.2 hz)]
  have G0 := HG.out h0
  have hzb : (zK != yT) = false := by simpa using hz
  clear HC3 HG HSI hz
  go_wp2_with fail
  go_cut [59] (fun s wc => s = .bool false ∧ Below w1.heap.size w1 wc)
  case first =>
    go_region_held3 (fun w' => w'.cell? ⟨g, k, none⟩ = some (.int .u8 zK)) (go_keep)
      (first | (go_at_call 52; refine (unhide HLr _ (ST.out.below ?_)).mono ?_; (first | exact Below.refl _ _ | exact dz | exact dz.drew | exact dz.drew.drew); rintro e w3 ⟨rfl, e3⟩; have b3 : Below w1.heap.size w1 w3 := (by rw [e3]; first | exact Below.refl _ _ | exact dz | exact dz.drew | exact dz.drew.drew); clear e3; have hc3 : w3.cell? ⟨g, k, none⟩ = some (.int .u8 zK) := by (rw [b3.cell (p := ⟨g, k, none⟩) hb0]; exact hcK)))
    all_goals (go_wp2_with fail; go_meet; exact ⟨rfl, by first | exact b3 | exact b3.drew⟩)
  case rest =>
  obtain ⟨rfl, bc⟩ := hcut
  go_wp2_with fail
  have hc4 : wc.cell? ⟨g, 0, none⟩ = some (.int .u8 (xs.getD 0 0)) := by rw [bc.cell (p := ⟨g, 0, none⟩) hb0]; exact hc1
  have hbc : g < wc.heap.size := Nat.lt_of_lt_of_le hb0 bc.size
  have S1 : Hid (Sl wc (some ⟨g, 0 + 1, none⟩) ((xs.drop 1).take (xs.length - 2))) := ((Sl.dropT SX.out (by have := HN.out; omega)).takeT _).below bc
  have HN2 : Hid (((xs.drop 1).take (xs.length - 2)).length = k - 1) := by show ((xs.drop 1).take (xs.length - 2)).length = k - 1; have := HN.out; have := HKN.out; simp; omega
  have HQ : Hid (((xs.drop 1).take (xs.length - 2)).length ≤ 2000000) := by show ((xs.drop 1).take (xs.length - 2)).length ≤ 2000000; have := HN2.out; have := HKN.out; omega
  clear hcK hc1
  generalize xs.getD 0 0 = z at *
  generalize (xs.drop 1).take (xs.length - 2) = ps at *
  have b2' := bel_next b1 bc
  have R : Hid (∀ a k' g w2, k' = k - 1 → Own w2 wc.heap.size (.slice a k' g) ps → Below wc.heap.size wc w2 → GT w w2 (.returned (.tuple #[.int .i64 z, .slice a k' g, .int .i64 0])) (gaU bs) (gaP bs) (gaC bs)) := by
    intro a k' g w2 hk' o2 b2
    rw [G0.1, G0.2, h0]
    exact ⟨_, _, _, rfl, by rw [hk']; exact HN2.out.symm, o2.monoT b2'.size, bel_next b2' b2⟩
  clear G0 h0
  have iz : IntKind.i64.wrap z = z := by rw [IntKind.wrap_i64]; omega
  have q1 : Below wc.heap.size wc (wc.drew.alloc (.cells #[] 5)) := (Below.refl _ wc).drew.alloc (Nat.le_refl _) _
  have q2 : Below wc.heap.size wc (wc.alloc (.cells #[] 5)) := (Below.refl _ wc).alloc (Nat.le_refl _) _
  have oA : Own (wc.drew.alloc (.cells #[] 5)) wc.heap.size (.slice (some ⟨wc.heap.size, 0, none⟩) 0 0) [] := own_lit0 wc.drew wc.heap.size (Nat.le_refl _)
  have hps : Hid (([] : List Int).length + ps.length ≤ 4000000) := by show ([] : List Int).length + ps.length ≤ 4000000; have := HQ.out; simp; omega
  have hcq2 : (wc.drew.alloc (.cells #[] 5)).cell? ⟨g, 0, none⟩ = some (.int .u8 z) := by rw [q1.cell (p := ⟨g, 0, none⟩) hbc]; exact hc4
  have tk2 : ((n : Int) - 1).toNat - 1 = k - 1 := by omega
  have HK2 : Hid (2 ≤ k) := by show 2 ≤ k; have := HKN.out; omega
  go_region_held3 (fun w' => w'.cell? ⟨g, 0, none⟩ = some (.int .u8 z)) (go_keep)
    (first | (refine step_appT rfl (.tmp 77) (.tmp 81) rfl wc.heap.size _ [] rfl oA ⟨g, 0 + 1, none⟩ (k - 1) _ ps rfl HN2.out.symm (S1.out.below q1) hps.out q1.size ?_; intro v2 w2 o2 g2; have b2 : Below wc.heap.size wc w2 := bel_grown q1 oA g2 (Nat.le_refl _) q1.size; rw [List.nil_append] at o2; obtain ⟨g', k', hv, _, _⟩ := own_some o2 (by rw [HN2.out]; have := HK2.out; omega); rw [HN2.out] at hv; subst hv; have hc2 : w2.cell? ⟨g, 0, none⟩ = some (.int .u8 z) := by (rw [b2.cell (p := ⟨g, 0, none⟩) hbc]; exact hc4)))
  all_goals (go_wp2; go_ret3; exact R.out _ _ _ _ rfl o2 b2)

end Go.Proofs.Ytmcednhinafpeaa
