/- GetAscii, of the program and of its model. -/
import Derived.Test.YtmcednhinafpeaaAsc3
namespace Go.Proofs.Ytmcednhinafpeaa
open Go.RowKit

set_option linter.unusedVariables false

set_option linter.unusedSimpArgs false

theorem own_cap {w : World} {base : Nat} {a : Option Addr} {n c : Nat} {zs : List Int} (h : Own w base (.slice a n c) zs) : n ≤ c := by
  obtain ⟨_, h2⟩ := h
  rcases h2 with ⟨h2, _⟩ | ⟨g, cap', cur, hv, _, _, h3, _⟩
  · simp at h2; omega
  · simp at hv; omega

set_option maxRecDepth 20000 in
set_option maxHeartbeats 2000000 in
theorem implGetAscii_any (a : Option Addr) (l c : Nat) (bs : List Int) (w : World) (hn : l = bs.length) (hlc : l ≤ c) (hs : Sl w a bs) (hl : bs.length ≤ 2000000) :
    Calls Try.prog 12 #[.slice a l c] w fun e w' => GT w w' e (gaU bs) (gaP bs) (gaC bs) := by
  have hdg := digitsOf_any a l c bs w hn hlc hs hl
  have hml : (strOfNums (mid bs)).size ≤ 2000000 := by rw [strOfNums_size]; have := mid_len bs; omega
  have hwl := wiA_len bs
  have hwr := outS_rg (strOfNums (mid bs))
  have HC : Hid (gaC bs = if (frB bs && okS (strOfNums (mid bs))) = false then 4 else if (wiA bs).length < 3 then 1 else if 255 < (wiA bs).length then 2 else if lres (wiA bs) = 0 then 0 else 3) := rfl
  have HG : Hid (gaC bs = 0 → gaU bs = (wiA bs).getD 0 0 ∧ gaP bs = ((wiA bs).drop 1).take ((wiA bs).length - 2)) := ga_good
  have hUH := fun w => implUnHex_any (strOfNums (mid bs)) w hml
  unfold Ends at hUH
  unfold wiA at HC HG hwl
  have HL : Hid ((outS (strOfNums (mid bs))).length ≤ 2000000) := by show _ ≤ _; omega
  have HWR : Hid (∀ z ∈ outS (strOfNums (mid bs)), 0 ≤ z ∧ z ≤ 255) := hwr
  generalize okS (strOfNums (mid bs)) = ok at *
  generalize outS (strOfNums (mid bs)) = xs at *
  generalize strOfNums (mid bs) = S at *
  generalize hfr : frB bs = fr at *
  obtain ⟨n, hn2⟩ : ∃ n, n = xs.length := ⟨_, rfl⟩
  simp only [← hn2] at hUH
  have HN : Hid (n = xs.length) := hn2
  have hnl : n ≤ 2000000 := by have := HL.out; omega
  clear hn2
  have HUH := hide hUH
  have HDG : Hid (Calls Try.prog 42 #[.slice a l c] w fun e w' => e = .returned (.tuple #[.string S, .bool fr]) ∧ w' = w) := hdg
  clear hdg hUH hml hwr hfr hwl hs hn
  go_enter Try.func12, Try.ntmps12
  go_wp2_with fail
  refine (HDG.out).mono ?_
  rintro e wx ⟨rfl, ex⟩
  subst ex
  go_wp2_with fail
  refine (unhide HUH _).mono ?_
  rintro e w1 ⟨xa, xc, rfl, xo, b1⟩
  cases fr
  case false =>
    have R := ga_nil wx w1 4 bs (by rw [HC.out, if_pos (by simp)]) (by decide) b1
    clear HC HG HUH HDG xo
    go_wp2_with fail
    go_ret3
    exact R
  cases ok
  case false =>
    have R := ga_nil wx w1 4 bs (by rw [HC.out, if_pos (by simp)]) (by decide) b1
    clear HC HG HUH HDG xo
    go_wp2_with fail
    go_ret3
    exact R
  have HC2 : Hid (gaC bs = if xs.length < 3 then 1 else if 255 < xs.length then 2 else if lres xs = 0 then 0 else 3) := by show gaC bs = _; rw [HC.out, if_neg (by simp)]
  clear HC HUH HDG
  have hn := HN.out
  by_cases h3 : (n : Int) < 3
  · have R := ga_nil wx w1 1 bs (by rw [HC2.out, if_pos (by omega)]) (by decide) b1
    clear HC2 HG xo
    go_wp2_with fail
    go_ret3
    exact R
  by_cases h255 : (255 : Int) < (n : Int)
  · have R := ga_nil wx w1 2 bs (by rw [HC2.out, if_neg (by omega), if_pos (by omega)]) (by decide) b1
    clear HC2 HG xo
    go_wp2_with fail
    go_ret3
    exact R
  have HC3 : Hid (gaC bs = if lres xs = 0 then 0 else 3) := by show gaC bs = _; rw [HC2.out, if_neg (by omega), if_neg (by omega)]
  have HNC : Hid (n ≤ xc) := own_cap xo
  obtain ⟨g, xc', hv, _, _⟩ := own_some xo (by omega)
  simp only [Value.slice.injEq] at hv
  obtain ⟨rfl, hx0, rfl⟩ := hv
  clear hx0
  clear HC2 hn
  go_wp2_with fail
  refine (implLrc_any _ _ _ xs _ HN.out xo.sl.2 HWR.out HL.out).mono ?_
  rintro e w2 ⟨rfl, e2⟩
  subst e2
  by_cases hz : lres xs = 0
  case neg =>
    have hzb : (lres xs != 0) = true := by simpa using hz
    have R := ga_nil wx w2 3 bs (by rw [HC3.out, if_neg hz]) (by decide) b1
    clear HC3 HG xo hz
    generalize lres xs = y at *
    go_wp2_with fail
    go_ret3
    exact R
  have hzb : (lres xs != 0) = false := by simpa using hz
  have h0 : gaC bs = 0 := by rw [HC3.out, if_pos hz]
  have G0 := HG.out h0
  clear HC3 HG hz
  generalize lres xs = y at *
  have rg := get_range HWR.out 0
  obtain ⟨b', off', e', hb0, hc1⟩ := cell_at xo.sl.2 (k := 0) (by have := HN.out; omega)
  simp only [Option.some.injEq, Addr.mk.injEq, and_true] at e'
  obtain ⟨rfl, rfl⟩ := e'
  rw [Nat.add_zero] at hc1
  have S1 : Hid (Sl w2 (some ⟨g, 0 + 1, none⟩) ((xs.drop 1).take (xs.length - 2))) := (Sl.dropT xo.sl.2 (by have := HN.out; omega)).takeT _
  have HN2 : Hid (((xs.drop 1).take (xs.length - 2)).length = n - 2) := by show ((xs.drop 1).take (xs.length - 2)).length = n - 2; have := HN.out; simp; omega
  have HQ : Hid (((xs.drop 1).take (xs.length - 2)).length ≤ 2000000) := by show ((xs.drop 1).take (xs.length - 2)).length ≤ 2000000; have := HN2.out; omega
  generalize xs.getD 0 0 = z at *
  generalize (xs.drop 1).take (xs.length - 2) = ps at *
  have R : Hid (∀ m g w3, m = n - 2 → Own w3 w2.heap.size (.slice (some ⟨g, 0, none⟩) m m) ps → Below w2.heap.size w2 w3 → GT wx w3 (.returned (.tuple #[.int .i64 z, .slice (some ⟨g, 0, none⟩) m m, .int .i64 0])) (gaU bs) (gaP bs) (gaC bs)) := by
    intro m g w3 hm o2 b2
    subst hm
    rw [G0.1, G0.2, h0]
    exact ⟨_, _, _, rfl, HN2.out.symm, o2.monoT b1.size, bel_next b1 b2⟩
  clear G0 h0 xo
  have i0 : (1 : Int) ≤ (n : Int) - 1 := by omega
  have i1 : (n : Int) - 1 ≤ (n : Int) := by omega
  have hnc : n ≤ xc := HNC.out
  have i2 : (n : Int) - 1 ≤ (xc : Int) := by omega
  have i4 : (0 : Int) ≤ (n : Int) - 1 := by omega
  have i5 : IntKind.i64.wrap ((n : Int) - 1) = (n : Int) - 1 := by rw [IntKind.wrap_i64]; omega
  have i6 : (1 : Int) ≤ (xc : Int) := by omega
  have i7 : (0 : Int) < (n : Int) := by omega
  have i8 : 0 < n := by omega
  have hcq : ¬ xc = 1 := by omega
  have iz : IntKind.i64.wrap z = z := by rw [IntKind.wrap_i64]; omega
  have dz : Below w2.heap.size w2 w2.drew := (Below.refl _ _).drew
  have e1 : ((n : Int) - 1).toNat - 1 = n - 2 := by omega
  go_upto_region 9 with fail
  go_region_held3 (fun w' => w'.cell? ⟨g, 0, none⟩ = some (.int .u8 z)) (go_keep)
    (first | (go_at_call 44; refine (copyT_any _ _ _ ps _ (by have := HN2.out; omega) (S1.out.below (by first | exact Below.refl _ _ | exact dz)) HQ.out).mono ?_; rintro e w3 ⟨g3, rfl, o2, b'⟩; have b2 : Below w2.heap.size w2 w3 := (by first | exact b' | exact bel_next dz b'); have hc2 : w3.cell? ⟨g, 0, none⟩ = some (.int .u8 z) := by (rw [b2.cell (p := ⟨g, 0, none⟩) hb0]; exact hc1)))
  all_goals (go_wp2; go_ret3; exact R.out _ _ _ rfl o2 b2)

end Go.Proofs.Ytmcednhinafpeaa
