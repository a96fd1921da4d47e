/- The law of questions, walked. -/
import Derived.Test.YtgamicfcdkjleaaAskH
import Derived.Deep.RegionHeld3
namespace Go.Proofs.Ytgamicfcdkjleaa
open Go.RowKit

set_option linter.unusedVariables false

set_option linter.unusedSimpArgs false

theorem own_cap {w : World} {base n c : Nat} {a : Option Addr} {zs : List Int} (h : Own w base (.slice a n c) zs) : n ≤ c := by
  rcases h.2 with ⟨e, _⟩ | ⟨g, cap', cur, hv, _, hh, h3, _⟩
  · simp at e; omega
  · simp at hv; omega

theorem own_shape {w : World} {base : Nat} {v : Value} {zs : List Int} (h : Own w base v zs) : ∃ a c n, v = .slice a n c ∧ n = zs.length := by
  obtain ⟨_, h2⟩ := h
  rcases h2 with ⟨hv, h3⟩ | ⟨g, cap, cur, hv, hg, hh, _⟩
  · exact ⟨none, 0, 0, hv, h3.symm⟩
  · exact ⟨_, cap, _, hv, rfl⟩

theorem sl_take {w : World} {a : Option Addr} {zs : List Int} (h : Sl w a zs) (m : Nat) : Sl w a (zs.take m) := by
  rcases h with h | ⟨b, off, e, hb, hc⟩
  · subst h; simp; exact .inl rfl
  · refine .inr ⟨b, off, e, hb, fun i hi => ?_⟩
    rw [List.length_take] at hi
    rw [getD_take (by omega)]
    exact hc i (by omega)

set_option maxRecDepth 20000 in
set_option maxHeartbeats 16000000 in
theorem asked_law (a : Option Addr) (n cap : Nat) (zs : List Int) (w : World) (hn : n = zs.length) (hs : Sl w a zs) (hr : ∀ z ∈ zs, 0 ≤ z ∧ z ≤ 255) (hl : n ≤ 1048576) :
    Calls Try.prog 3 #[.slice a n cap] w fun e w' => e = .returned (.bool true) ∧ Below w.heap.size w w' := by
  have HN : Hid (n = zs.length ∧ zs.length ≤ 1048576) := by show _ ∧ _; omega
  have HR : Hid (∀ z ∈ zs, 0 ≤ z ∧ z ≤ 255) := hr
  have HS : Hid (Sl w a zs) := hs
  have f0 : ¬ ((1048576 : Int) < (n : Int)) := by omega
  have f0' : ¬ ((n : Int) > 1048576) := by omega
  clear hn hs hr
  go_enter Try.func3, Try.ntmps3
  go_wp2_with (first | (go_at_call 7; go_in) | fail)
  refine (drawPutReq_any w a n cap zs HN.out.1 HS.out HR.out HN.out.2).mono ?_
  rintro e z1 ⟨kd, pl, nn, wa, a1, a2, l1, l2, c1, c2, ws, bs, rfl, e1, e2, m1, m2, i, j, b1⟩
  have HE : Hid (l1 = ws.length ∧ l2 = bs.length ∧ ws.length ≤ 300 ∧ bs.length ≤ 3000) := by show _ ∧ _; omega
  obtain ⟨z2, hz2⟩ : ∃ z2, z2 = z1.alloc (.cells #[.int .i64 kd, .int .i64 pl, .int .i64 nn, .slice a1 l1 c1, .slice a2 l2 c2, .int .i64 wa] 27) := ⟨_, rfl⟩
  have HU : Hid (z2 = _) := hz2
  obtain ⟨B, hB⟩ : ∃ B, B = z1.heap.size := ⟨_, rfl⟩
  have HBe : Hid (B = z1.heap.size) := hB
  have bz : Below z1.heap.size z1 z2 := by rw [hz2]; exact bel_alloc _ _
  have X2 : Blk z2 B 27 #[.int .i64 kd, .int .i64 pl, .int .i64 nn, .slice a1 l1 c1, .slice a2 l2 c2, .int .i64 wa] := by rw [hz2, hB]; exact Blk.new _ _ _
  have b2 := bel_next b1 bz
  have I2 := OwnI.below i bz
  have J2 := OwnB.below j bz
  clear hz2 hB bz b1 i j e1 e2 m1 m2
  go_upto_region 4 with fail
  rw [← HU.out]
  simp only [← HBe.out]
  clear HU HBe
  obtain ⟨x0, x1, x2, x3, x4, x5⟩ := X2.six
  go_wp2_with fail
  refine (implPut_q kd pl nn wa a1 a2 l1 l2 c1 c2 ws bs _ HE.out.1 HE.out.2.1 I2.sl.2 J2.sl.2 (by have := HE.out; omega) (by have := HE.out; omega)).mono ?_
  rintro e z3 ⟨ab, cb, nb, rfl, hnb, ob, b'⟩
  have HNB : Hid (nb = (putV (okR kd pl nn wa ws l1 l2) kd pl nn wa ws bs).length) := hnb
  have b3 := bel_next b2 b'
  have I3 := OwnI.below I2 b'
  have J3 := OwnB.below J2 b'
  have X3 := X2.below b'
  have O3 := own_mono ob b2.size
  clear b2 I2 J2 X2 b' hnb ob x0 x1 x2 x3 x4 x5
  obtain ⟨x0, x1, x2, x3, x4, x5⟩ := X3.six
  go_wp2_with fail
  refine (implSpaces_q kd pl nn wa a1 a2 l1 l2 c1 c2 ws bs _ HE.out.1 HE.out.2.1 I3.sl.2 J3.sl.2 (by have := HE.out; omega) (by have := HE.out; omega)).mono ?_
  rintro e z4 ⟨rfl, b'⟩
  have b4 := bel_next b3 b'
  have I4 := OwnI.below I3 b'
  have J4 := OwnB.below J3 b'
  have X4 := X3.below b'
  have O4 := Own.below O3 b'
  clear b3 I3 J3 X3 O3 b' x0 x1 x2 x3 x4 x5
  obtain ⟨x0, x1, x2, x3, x4, x5⟩ := X4.six
  cases hok : okR kd pl nn wa ws l1 l2
  · rw [hok] at HNB O4
    obtain rfl : nb = 0 := HNB.out
    simp only [spcV, cond_false]
    go_wp2_with fail
    refine (specReqOk_q kd pl nn wa a1 a2 l1 l2 c1 c2 ws bs _ HE.out.1 HE.out.2.1 I4.sl.2 J4.sl.2 (by have := HE.out; omega) (by have := HE.out; omega)).mono ?_
    rintro e z5 ⟨rfl, b'⟩
    rw [hok]
    have b5 := bel_next b4 b'
    have I5 := OwnI.below I4 b'
    have J5 := OwnB.below J4 b'
    have X5 := X4.below b'
    clear b4 I4 J4 X4 O4 b' x0 x1 x2 x3 x4 x5
    obtain ⟨x0, x1, x2, x3, x4, x5⟩ := X5.six
    go_wp2_with fail
    refine (implReqOk_q kd pl nn wa a1 a2 l1 l2 c1 c2 ws bs _ HE.out.1 HE.out.2.1 I5.sl.2 J5.sl.2 (by have := HE.out; omega) (by have := HE.out; omega)).mono ?_
    rintro e z6 ⟨rfl, b'⟩
    rw [hok]
    have b6 := bel_next b5 b'
    clear b5 I5 J5 X5 b' x0 x1 x2 x3 x4 x5
    go_wp2
    go_ret
    exact ⟨rfl, b6⟩
  · rw [hok] at HNB O4
    simp only [spcV, cond_true]
    have HOK : Hid (okR kd pl nn wa ws ws.length bs.length = true) := by show _ = true; rw [← HE.out.1, ← HE.out.2.1]; exact hok
    have HT := touches hok
    obtain ⟨L, hL⟩ : ∃ L, L = putL kd pl nn wa ws bs := ⟨_, rfl⟩
    have HL : Hid (L = putL kd pl nn wa ws bs) := hL
    have HNB2 : Hid (nb = L.length) := by show nb = L.length; rw [hL]; exact HNB.out
    have O4' : Own z4 w.heap.size (.slice ab nb cb) L := by rw [hL]; exact O4
    have HRL : Hid (∀ z ∈ L, 0 ≤ z ∧ z ≤ 255) := by show ∀ z ∈ L, _; rw [hL]; exact putL_rg _ _ _ _ _ _ HOK.out
    have HL5 : Hid (5 ≤ L.length ∧ L.length ≤ 300) := by
      show _ ∧ _
      refine ⟨ok_five HRL.out (k := kd) (by rw [hL]; exact (asked_back _ _ _ _ _ _ HOK.out).2), ?_⟩
      have := putV_len kd pl nn wa ws bs l1 l2 HE.out.1 HE.out.2.1
      rw [hok] at this
      rw [hL]; exact this
    clear O4 HNB hL
    go_wp2_with fail
    refine (specReqOk_q kd pl nn wa a1 a2 l1 l2 c1 c2 ws bs _ HE.out.1 HE.out.2.1 I4.sl.2 J4.sl.2 (by have := HE.out; omega) (by have := HE.out; omega)).mono ?_
    rintro e z5 ⟨rfl, b'⟩
    rw [hok]
    have b5 := bel_next b4 b'
    have I5 := OwnI.below I4 b'
    have J5 := OwnB.below J4 b'
    have X5 := X4.below b'
    have O5 := Own.below O4' b'
    clear b4 I4 J4 X4 O4' b' x0 x1 x2 x3 x4 x5
    obtain ⟨x0, x1, x2, x3, x4, x5⟩ := X5.six
    obtain ⟨gb, cb', hvb, hgb1, hgb2⟩ := own_some O5 (by have := HL5.out; omega)
    have hcb := own_cap O5
    simp at hvb
    obtain ⟨rfl, hvb2, rfl⟩ := hvb
    obtain ⟨m, rfl⟩ : ∃ m, nb = m + 1 := ⟨nb - 1, by have := HL5.out; have := HNB2.out; omega⟩
    have HCB : Hid (m + 1 ≤ cb ∧ m + 1 ≤ 300) := ⟨hcb, by have := HL5.out; have := HNB2.out; omega⟩
    clear hvb2 hcb
    go_wp2_with fail
    refine (implGet_q _ (m + 1) cb L _ HNB2.out O5.sl.2 HRL.out (by have := HCB.out; omega) HCB.out.1).mono ?_
    rintro e z6 h'
    obtain ⟨a1x, a2x, l1x, l2x, c1x, c2x, rfl, e1', e2', i', j', b'⟩ := get_back HOK.out (HL.out ▸ h')
    have HEx : Hid (l1x = ws.length ∧ l2x = bs.length) := ⟨e1', e2'⟩
    have b6 := bel_next b5 b'
    have I6 := OwnI.below I5 b'
    have J6 := OwnB.below J5 b'
    have X6 := X5.below b'
    have O6 := Own.below O5 b'
    obtain ⟨z7, hz7⟩ : ∃ z7, z7 = z6.alloc (.cells #[.int .i64 kd, .int .i64 pl, .int .i64 nn, .slice a1x l1x c1x, .slice a2x l2x c2x, .int .i64 wa] 27) := ⟨_, rfl⟩
    have HU : Hid (z7 = _) := hz7
    obtain ⟨Bx, hBx⟩ : ∃ Bx, Bx = z6.heap.size := ⟨_, rfl⟩
    have HBe : Hid (Bx = z6.heap.size) := hBx
    have bz : Below z6.heap.size z6 z7 := by rw [hz7]; exact bel_alloc _ _
    have Y7 : Blk z7 Bx 27 #[.int .i64 kd, .int .i64 pl, .int .i64 nn, .slice a1x l1x c1x, .slice a2x l2x c2x, .int .i64 wa] := by rw [hz7, hBx]; exact Blk.new _ _ _
    have b7 := bel_next b6 bz
    have I7 := OwnI.below I6 bz
    have J7 := OwnB.below J6 bz
    have M7 := OwnI.below i' bz
    have N7 := OwnB.below j' bz
    have X7 := X6.below bz
    have O7 := Own.below O6 bz
    clear hz7 hBx bz b5 b6 I5 J5 X5 O5 I6 J6 X6 O6 i' j' b' h' e1' e2' x0 x1 x2 x3 x4 x5
    go_upto_region 9 with fail
    rw [← HU.out]
    simp only [← HBe.out]
    clear HU HBe
    have ecut : Hid (m = (L.take m).length) := by show m = _; have := HNB2.out; rw [List.length_take]; omega
    have HCut : Hid (∀ z ∈ L.take m, 0 ≤ z ∧ z ≤ 255) := fun z hz => HRL.out z (List.mem_of_mem_take hz)
    have HS7 : Hid (Sl z7 (some ⟨gb, 0, none⟩) (L.take m)) := sl_take O7.sl.2 m
    have hm63 : m ≤ 300 := by have := HCB.out; omega
    have hmc : m ≤ cb := by have := HCB.out; omega
    have hsub : ((m + 1 : Nat) : Int) - 1 = (m : Int) := by omega
    go_wp2_with fail
    refine (implGet_q _ m cb (L.take m) _ ecut.out HS7.out HCut.out (by omega) hmc).mono ?_
    rintro e z8 h'
    obtain ⟨a1y, a2y, l1y, l2y, c1y, c2y, rfl, e1', e2', i', j', b'⟩ := get_cut HOK.out (by rw [← HL.out, show L.length - 1 = m from by have := HNB2.out; omega]; exact h')
    have b8 := bel_next b7 b'
    have I8 := OwnI.below I7 b'
    have J8 := OwnB.below J7 b'
    have M8 := OwnI.below M7 b'
    have N8 := OwnB.below N7 b'
    have X8 := X7.below b'
    have Y8 := Y7.below b'
    have O8 := Own.below O7 b'
    obtain ⟨z9, hz9⟩ : ∃ z9, z9 = z8.alloc (.cells #[.int .i64 0, .int .i64 0, .int .i64 0, .slice a1y l1y c1y, .slice a2y l2y c2y, .int .i64 0] 27) := ⟨_, rfl⟩
    have HU : Hid (z9 = _) := hz9
    have bz : Below z8.heap.size z8 z9 := by rw [hz9]; exact bel_alloc _ _
    have b9 := bel_next b8 bz
    have I9 := OwnI.below I8 bz
    have J9 := OwnB.below J8 bz
    have M9 := OwnI.below M8 bz
    have N9 := OwnB.below N8 bz
    have X9 := X8.below bz
    have Y9 := Y8.below bz
    have O9 := Own.below O8 bz
    clear hz9 bz b7 b8 I7 J7 M7 N7 X7 Y7 O7 I8 J8 M8 N8 X8 Y8 O8 i' j' b' h' e1' e2' HS7 HCut ecut hmc hsub
    go_upto_region 10 with fail
    rw [← HU.out]
    clear HU
    have E9 : Own (z9.alloc (.cells #[] 5)) z9.heap.size (.slice (some ⟨z9.heap.size, 0, none⟩) 0 0) [] := ⟨rfl, .inr ⟨z9.heap.size, 0, #[], rfl, Nat.le_refl _, Blk.new z9 #[] 5, by simp, by simp, rfl, rfl⟩⟩
    have q9 := bel_alloc z9 (.cells #[] 5)
    have S9 : Hid (Sl (z9.alloc (.cells #[] 5)) (some ⟨gb, 0, none⟩) L) := O9.sl.2.below q9
    go_wp2_with (first
      | (at_builtin; refine wpList_app rfl (.tmp 60) (.tmp 61) rfl z9.heap.size (.slice (some ⟨z9.heap.size, 0, none⟩) 0 0) [] rfl E9 ⟨gb, 0, none⟩ (m + 1) cb L rfl HNB2.out S9.out (by have := HL5.out; simp; omega) q9.size ?_; intro v' zA EA gA; obtain ⟨ea, ec, en, rfl, hen⟩ := own_shape EA; have qA := below_own q9 E9 gA (Nat.le_refl _) q9.size; have qA1 := bel_next qA (bel_alloc zA (.cells #[.int .u8 0] 5)); clear hen gA)
      | (at_builtin; refine wpList_app rfl (.tmp 62) (.tmp 63) rfl z9.heap.size (.slice ea en ec) ([] ++ L) rfl (Own.below EA (bel_alloc _ _)) ⟨zA.heap.size, 0, none⟩ 1 1 [0] rfl rfl (sl_lit1 _ _ rfl) (by have := HL5.out; simp; omega) qA1.size ?_; intro v' zB EB gB; obtain ⟨fa, fc, fn, rfl, hfn⟩ := own_shape EB; have qB := below_own qA1 (Own.below EA (bel_alloc _ _)) gB (Nat.le_refl _) qA1.size; have HFN : Hid (fn = ([] ++ L ++ [0]).length) := hfn; clear hfn gB))
    have HC10 : Hid (fn ≤ fc) := own_cap EB
    have HM10 : Hid (∀ z ∈ L ++ [0], 0 ≤ z ∧ z ≤ 255) := by
      intro z hz
      rcases List.mem_append.mp hz with h | h
      · exact HRL.out z h
      · simp at h; omega
    have SB : Hid (Sl zB fa (L ++ [0])) := EB.sl.2
    have HFN' : Hid (fn = (L ++ [0]).length) := HFN.out
    have b10 := bel_next b9 qB
    have I10 := OwnI.below I9 qB
    have J10 := OwnB.below J9 qB
    have M10 := OwnI.below M9 qB
    have N10 := OwnB.below N9 qB
    have X10 := X9.below qB
    have Y10 := Y9.below qB
    clear b9 I9 J9 M9 N9 X9 Y9 O9 E9 q9 S9 EA qA qA1 EB qB HFN
    refine (implGet_q _ fn fc (L ++ [0]) _ HFN'.out SB.out HM10.out (by have h := HFN'.out; have := HL5.out; rw [List.length_append] at h; simp at h; omega) HC10.out).mono ?_
    rintro e z11 h'
    obtain ⟨a1u, a2u, l1u, l2u, c1u, c2u, rfl, e1', e2', i', j', b'⟩ := get_more HOK.out (HL.out ▸ h')
    have b11 := bel_next b10 b'
    have I11 := OwnI.below I10 b'
    have J11 := OwnB.below J10 b'
    have M11 := OwnI.below M10 b'
    have N11 := OwnB.below N10 b'
    have X11 := X10.below b'
    have Y11 := Y10.below b'
    obtain ⟨z12, hz12⟩ : ∃ z12, z12 = z11.alloc (.cells #[.int .i64 0, .int .i64 0, .int .i64 0, .slice a1u l1u c1u, .slice a2u l2u c2u, .int .i64 0] 27) := ⟨_, rfl⟩
    have HU : Hid (z12 = _) := hz12
    have bz : Below z11.heap.size z11 z12 := by rw [hz12]; exact bel_alloc _ _
    have b12 := bel_next b11 bz
    have I12 := OwnI.below I11 bz
    have J12 := OwnB.below J11 bz
    have M12 := OwnI.below M11 bz
    have N12 := OwnB.below N11 bz
    have X12 := X11.below bz
    have Y12 := Y11.below bz
    clear hz12 bz b10 b11 I10 J10 M10 N10 X10 Y10 I11 J11 M11 N11 X11 Y11 i' j' b' h' e1' e2' HC10 HM10 SB HFN'
    go_upto_region 11 with fail
    rw [← HU.out]
    clear HU
    obtain ⟨x0, x1, x2, x3, x4, x5⟩ := X12.six
    obtain ⟨y0, y1, y2, y3, y4, y5⟩ := Y12.six
    obtain ⟨t0, t3, k1, kp, p0, k2, hwr⟩ := HT
    have HWR : Hid (wrK kd = decide (kd > 4)) := hwr
    clear hwr
    obtain ⟨sp, hsp⟩ : ∃ sp, sp = spc0 kd := ⟨_, rfl⟩
    obtain ⟨kn, hkn⟩ : ∃ kn, kn = spcN kd nn l1 l2 := ⟨_, rfl⟩
    rw [← hsp] at t0 t3 ⊢
    rw [← hkn] at k1 kp k2 ⊢
    clear hsp hkn
    have d12 : Below z12.heap.size z12 z12.drew := (Below.refl _ _).drew
    have hwrap : IntKind.i64.wrap (pl + kn) = pl + kn := wraps_i64' _ (by omega) (by omega)
    have HOKl : Hid (okR kd pl nn wa ws l1 l2 = true) := hok
    clear hok HNB2 HL5 HCB HRL hgb1 hgb2 f0 f0' hl hm63
    by_cases hk4 : kd > 4
    · have HWT : Hid (wrK kd = true) := by show _ = true; rw [HWR.out]; exact decide_eq_true hk4
      go_region_held3 (fun w' => w'.cell? ⟨B, 0, none⟩ = some (.int .i64 kd) ∧ w'.cell? ⟨B, 1, none⟩ = some (.int .i64 pl) ∧ w'.cell? ⟨B, 2, none⟩ = some (.int .i64 nn) ∧ w'.cell? ⟨B, 3, none⟩ = some (.slice a1 l1 c1) ∧ w'.cell? ⟨B, 4, none⟩ = some (.slice a2 l2 c2) ∧ w'.cell? ⟨B, 5, none⟩ = some (.int .i64 wa) ∧ w'.cell? ⟨Bx, 0, none⟩ = some (.int .i64 kd) ∧ w'.cell? ⟨Bx, 1, none⟩ = some (.int .i64 pl) ∧ w'.cell? ⟨Bx, 2, none⟩ = some (.int .i64 nn) ∧ w'.cell? ⟨Bx, 3, none⟩ = some (.slice a1x l1x c1x) ∧ w'.cell? ⟨Bx, 4, none⟩ = some (.slice a2x l2x c2x) ∧ w'.cell? ⟨Bx, 5, none⟩ = some (.int .i64 wa)) (go_keep)
        (first
          | (go_at_call 14; refine (lawSameReq_t kd pl nn wa a1x a2x a1 a2 l1x l2x c1x c2x l1 l2 c1 c2 _ ws HEx.out.1 HE.out.1 (by first | exact M12.sl.2 | exact (OwnI.below M12 d12).sl.2) (by first | exact I12.sl.2 | exact (OwnI.below I12 d12).sl.2) (by have := HE.out; omega) bs HEx.out.2 HE.out.2.1 (by first | exact N12.sl.2 | exact (OwnB.below N12 d12).sl.2) (by first | exact J12.sl.2 | exact (OwnB.below J12 d12).sl.2) (by have := HE.out; omega)).mono ?_; rintro e zA ⟨rfl, bA⟩; have BA := bel_next (w0 := w) (by first | exact b12 | exact b12.drew) bA; have XA := Blk.below (by first | exact X12 | exact X12.below d12) bA; have IA := OwnI.below (by first | exact I12 | exact OwnI.below I12 d12) bA; have JA := OwnB.below (by first | exact J12 | exact OwnB.below J12 d12) bA; have YA := Blk.below (by first | exact Y12 | exact Y12.below d12) bA; obtain ⟨xa0, xa1, xa2, xa3, xa4, xa5⟩ := XA.six; obtain ⟨ya0, ya1, ya2, ya3, ya4, ya5⟩ := YA.six; clear bA)
          | (go_at_call 12; refine (implReqOk_q kd pl nn wa a1 a2 l1 l2 c1 c2 ws bs _ HE.out.1 HE.out.2.1 IA.sl.2 JA.sl.2 (by have := HE.out; omega) (by have := HE.out; omega)).mono ?_; rintro e zB ⟨he, bB⟩; rw [HOKl.out] at he; subst he; have BB := bel_next BA bB; have XB := XA.below bB; have YB := YA.below bB; obtain ⟨xb0, xb1, xb2, xb3, xb4, xb5⟩ := XB.six; obtain ⟨yb0, yb1, yb2, yb3, yb4, yb5⟩ := YB.six; clear bB)
          | (go_at_call 15; refine (implWrites_any kd pl nn wa a1 a2 l1 l2 c1 c2 _).mono ?_; rintro e zC ⟨he, bC⟩; rw [HWT.out] at he; subst he; have BC := bel_next BB bC; obtain ⟨xc0, xc1, xc2, xc3, xc4, xc5⟩ := (XB.below bC).six; obtain ⟨yc0, yc1, yc2, yc3, yc4, yc5⟩ := (YB.below bC).six; clear bC))
      all_goals (go_wp2; go_ret; exact ⟨rfl, BC⟩)
    · have HWT : Hid (wrK kd = false) := by show _ = false; rw [HWR.out]; exact decide_eq_false hk4
      go_region_held3 (fun w' => w'.cell? ⟨B, 0, none⟩ = some (.int .i64 kd) ∧ w'.cell? ⟨B, 1, none⟩ = some (.int .i64 pl) ∧ w'.cell? ⟨B, 2, none⟩ = some (.int .i64 nn) ∧ w'.cell? ⟨B, 3, none⟩ = some (.slice a1 l1 c1) ∧ w'.cell? ⟨B, 4, none⟩ = some (.slice a2 l2 c2) ∧ w'.cell? ⟨B, 5, none⟩ = some (.int .i64 wa) ∧ w'.cell? ⟨Bx, 0, none⟩ = some (.int .i64 kd) ∧ w'.cell? ⟨Bx, 1, none⟩ = some (.int .i64 pl) ∧ w'.cell? ⟨Bx, 2, none⟩ = some (.int .i64 nn) ∧ w'.cell? ⟨Bx, 3, none⟩ = some (.slice a1x l1x c1x) ∧ w'.cell? ⟨Bx, 4, none⟩ = some (.slice a2x l2x c2x) ∧ w'.cell? ⟨Bx, 5, none⟩ = some (.int .i64 wa)) (go_keep)
        (first
          | (go_at_call 14; refine (lawSameReq_t kd pl nn wa a1x a2x a1 a2 l1x l2x c1x c2x l1 l2 c1 c2 _ ws HEx.out.1 HE.out.1 (by first | exact M12.sl.2 | exact (OwnI.below M12 d12).sl.2) (by first | exact I12.sl.2 | exact (OwnI.below I12 d12).sl.2) (by have := HE.out; omega) bs HEx.out.2 HE.out.2.1 (by first | exact N12.sl.2 | exact (OwnB.below N12 d12).sl.2) (by first | exact J12.sl.2 | exact (OwnB.below J12 d12).sl.2) (by have := HE.out; omega)).mono ?_; rintro e zA ⟨rfl, bA⟩; have BA := bel_next (w0 := w) (by first | exact b12 | exact b12.drew) bA; have XA := Blk.below (by first | exact X12 | exact X12.below d12) bA; have IA := OwnI.below (by first | exact I12 | exact OwnI.below I12 d12) bA; have JA := OwnB.below (by first | exact J12 | exact OwnB.below J12 d12) bA; have YA := Blk.below (by first | exact Y12 | exact Y12.below d12) bA; obtain ⟨xa0, xa1, xa2, xa3, xa4, xa5⟩ := XA.six; obtain ⟨ya0, ya1, ya2, ya3, ya4, ya5⟩ := YA.six; clear bA)
          | (go_at_call 12; refine (implReqOk_q kd pl nn wa a1 a2 l1 l2 c1 c2 ws bs _ HE.out.1 HE.out.2.1 IA.sl.2 JA.sl.2 (by have := HE.out; omega) (by have := HE.out; omega)).mono ?_; rintro e zB ⟨he, bB⟩; rw [HOKl.out] at he; subst he; have BB := bel_next BA bB; have XB := XA.below bB; have YB := YA.below bB; obtain ⟨xb0, xb1, xb2, xb3, xb4, xb5⟩ := XB.six; obtain ⟨yb0, yb1, yb2, yb3, yb4, yb5⟩ := YB.six; clear bB)
          | (go_at_call 15; refine (implWrites_any kd pl nn wa a1 a2 l1 l2 c1 c2 _).mono ?_; rintro e zC ⟨he, bC⟩; rw [HWT.out] at he; subst he; have BC := bel_next BB bC; obtain ⟨xc0, xc1, xc2, xc3, xc4, xc5⟩ := (XB.below bC).six; obtain ⟨yc0, yc1, yc2, yc3, yc4, yc5⟩ := (YB.below bC).six; clear bC))
      all_goals (go_wp2; go_ret; exact ⟨by first | rfl | (show Ending.returned (Value.bool (!decide (4 < kd))) = _; rw [decide_eq_false (by omega)]; rfl), BC⟩)

end Go.Proofs.Ytgamicfcdkjleaa
