/- The law of frames by silences, walked. -/
import Derived.Test.YtoofkikenfgbpaaDoorRtu12m
import Derived.Test.YtoofkikenfgbpaaDoorTurnB
import Derived.Test.YtoofkikenfgbpaaDoorAt1
import Derived.Deep.DeepCutAuto
import Derived.Deep.RegionWith
namespace Go.Proofs.YtoofkikenfgbpaaDoor
open Go.RowKit

set_option linter.unusedVariables false

set_option linter.unusedSimpArgs false

theorem range_twoR {bs : List Int} {x y : Int} (hr : ∀ z ∈ bs, 0 ≤ z ∧ z ≤ 255) (hx : 0 ≤ x ∧ x ≤ 255) (hy : 0 ≤ y ∧ y ≤ 255) : ∀ z ∈ bs ++ [x, y], 0 ≤ z ∧ z ≤ 255 := by
  intro z hz
  rcases List.mem_append.1 hz with h | h
  · exact hr z h
  · simp at h; rcases h with rfl | rfl <;> assumption

set_option maxHeartbeats 1000000 in
theorem implOn_ok (f t : Int) (w : World) (h1 : 0 ≤ f) (h2 : f ≤ 4294967295) (h3 : 0 ≤ t) (h4 : t ≤ 4294967295) :
    Calls Tryd.prog 14 #[.int .i64 f, .int .i64 t] w fun e w' => e = .returned (.int .i64 ((f + t) % 4294967296)) ∧ w' = w := by
  have e := and32 (f + t)
  go_enter Tryd.func14, Tryd.ntmps14
  go_wp2_with (go_at_call 34; go_in)
  go_ret
  exact ⟨rfl, rfl⟩

theorem wait_no5 (a : Option Addr) (l c : Nat) (ls hf wh tk : Int) (zs : List Int) (w : World) (hn : l = zs.length) (hs : Sl w a zs) (hl : zs.length ≤ 2000000) (hE : wtE l ls false hf wh tk = false) :
    Calls Tryd.prog 15 #[rt a l c ls false hf wh, .int .i64 tk] w fun e w' => ∃ a' c' n' ga gc, e = .returned (.tuple #[rt a' n' c' ls false hf wh, .slice ga 0 gc]) ∧ n' = zs.length ∧ n' ≤ c' ∧ Own w' w.heap.size (.slice a' n' c') zs ∧ Below w.heap.size w w' := by
  refine (implRtuWait_no a l c ls false hf wh tk zs w hn hs hl hE).mono ?_
  rintro e w' ⟨a', n', c', ga, gn, gc, bb, rfl, hn', o, hbb, _, U, b⟩
  have hgn : gn = 0 := by
    rcases U with ⟨_, h⟩ | ⟨k, u, ps, g, pa, pn, pc, h, _⟩
    · exact h
    · cases h
  subst hgn
  exact ⟨a', c', n', ga, gc, rfl, hn', o.capT, o.monoT hbb, b⟩

theorem wait_yes5 (a : Option Addr) (l c : Nat) (ls hf wh tk : Int) (zs : List Int) (w : World) (hn : l = zs.length) (hlc : l ≤ c) (hs : Sl w a zs) (hr : ∀ z ∈ zs, 0 ≤ z ∧ z ≤ 255) (hl : zs.length ≤ 2000000) (hT : Tab w) (hE : wtE l ls false hf wh tk = true) (un : Int) (bs : List Int) (h0 : gtC zs = 0) (h1 : gtU zs = un) (h2 : gtP zs = bs) :
    Calls Tryd.prog 15 #[rt a l c ls false hf wh, .int .i64 tk] w fun e w' => ∃ a' c' g gc pa pn pc, e = .returned (.tuple #[rt a' 0 c' ls false hf wh, .slice (some ⟨g, 0, none⟩) 1 gc]) ∧ w.heap.size ≤ g ∧ Blk w' g 42 #[.int .i64 0, .int .i64 un, .slice pa pn pc] ∧ pn = bs.length ∧ Own w' w.heap.size (.slice pa pn pc) bs ∧ Below w.heap.size w w' := by
  refine (implRtuWait_yes a l c ls false hf wh tk zs w hn hs hl hlc hr hT hE).mono ?_
  rintro e w' ⟨a', n', c', ga, gn, gc, bb, rfl, hn', o, hbb, _, U, b⟩
  rcases U with ⟨h, _⟩ | ⟨k, u, ps, g, pa, pn, pc, h, rfl, rfl, hg, hB, hpn, hP, _⟩
  · cases h
  · simp only [gotOf, cond_false, Option.some.injEq, Prod.mk.injEq] at h
    obtain ⟨rfl, rfl, rfl⟩ := h
    simp at hn'
    subst hn'
    rw [h0, h1] at hB
    rw [h2] at hpn hP
    exact ⟨a', c', g, gc, pa, pn, pc, rfl, hg, hB, hpn, hP, b⟩

set_option maxRecDepth 20000 in
set_option maxHeartbeats 16000000 in
theorem rtu_law (a : Option Addr) (cap : Nat) (zs : List Int) (w : World) (hs : Sl w a zs) (hr : ∀ z ∈ zs, 0 ≤ z ∧ z ≤ 255) (hl : zs.length ≤ 1048576) (hh : 0 < w.heap.size) (hT : Tab w) :
    Calls Tryd.prog 3 #[.slice a zs.length cap] w fun e w' => e = .returned (.bool true) ∧ Below w.heap.size w w' := by
  have hl' : ¬ (1048576 : Int) < (zs.length : Int) := by omega
  have HT : Hid (Tab w ∧ 0 < w.heap.size) := ⟨hT, hh⟩
  have H : Hid (Sl w a zs ∧ (∀ z ∈ zs, 0 ≤ z ∧ z ≤ 255) ∧ zs.length ≤ 1048576) := ⟨hs, hr, hl⟩
  clear hT hs hr hh
  go_enter Tryd.func3, Tryd.ntmps3
  go_wp2_with (first | (go_at_call 5; go_in) | fail)
  refine (drawFrame_any w a _ cap zs rfl H.out.1 H.out.2.1 H.out.2.2).mono ?_
  rintro e w1 ⟨un, ad, m, c, bs, rfl, hu0, hu1, hm, h1, h2, o1, hrb, b1⟩
  have HB : Hid (m = bs.length ∧ 1 ≤ m ∧ m ≤ 253 ∧ (∀ z ∈ bs, 0 ≤ z ∧ z ≤ 255) ∧ 0 ≤ un ∧ un ≤ 255) := ⟨hm, h1, h2, hrb, hu0, hu1⟩
  clear hu0 hu1 hm h1 h2 hrb
  go_wp2_with fail
  refine (implPutRtu_any un ad m c bs _ HB.out.1 o1.sl.2 HB.out.2.2.2.1 (by have := HB.out; omega) (HT.out.1.below b1 HT.out.2) (by have := b1.size; have := HT.out.2; omega)).mono ?_
  rintro e w2 ⟨aB, cB, nB, rfl, hnB, oB, b'⟩
  have b2 := bel_next b1 b'
  have o2 := o1.below b'
  have hP : puT un bs = smL (un :: bs) := puT_yes (by have := HB.out; omega)
  rw [hP] at hnB oB
  obtain ⟨hC0, hU0, hP0⟩ := back_rtu un bs HB.out.2.2.2.2 HB.out.2.2.2.1 (by have := HB.out; omega) (by have := HB.out; omega)
  obtain ⟨B, hB⟩ : ∃ B, B = smL (un :: bs) := ⟨_, rfl⟩
  rw [← hB] at hnB oB hC0 hU0 hP0
  have hlenB : B.length = bs.length + 3 := by rw [hB, smL_len]; simp
  have hru : ∀ z ∈ un :: bs, 0 ≤ z ∧ z ≤ 255 := fun z hz => by
      rcases List.mem_cons.1 hz with rfl | h
      · exact ⟨HB.out.2.2.2.2.1, HB.out.2.2.2.2.2⟩
      · exact HB.out.2.2.2.1 z h
  have hcB : crcTo B B.length = 0 := by
    rw [hB]
    exact crc_own (un :: bs) (crcTo_lt (un :: bs) (get_range hru) (un :: bs).length) _ _ rfl (by have := crcTo_lt (un :: bs) (get_range hru) (un :: bs).length; omega)
  have hrB : ∀ z ∈ B, 0 ≤ z ∧ z ≤ 255 := by
    have hc := crcTo_lt (un :: bs) (get_range hru) (un :: bs).length
    rw [hB]
    unfold smL
    exact range_twoR hru (by omega) (by omega)
  have hn4 : 4 ≤ nB ∧ nB ≤ 256 := by have := HB.out; omega
  have HN : Hid (nB = B.length ∧ (∀ z ∈ B, 0 ≤ z ∧ z ≤ 255) ∧ crcTo B B.length = 0 ∧ gtC B = 0 ∧ gtU B = un ∧ gtP B = bs) := ⟨hnB, hrB, hcB, hC0, hU0, hP0⟩
  clear hnB hrB hlenB hB hP b' b1 o1 hC0 hU0 hP0 hcB hru
  go_wp2_with fail
  refine (implGetRtu_any aB nB cB B _ HN.out.1 oB.capT oB.sl.2 HN.out.2.1 (by have := HN.out.1; omega) (HT.out.1.below b2 HT.out.2)).mono ?_
  rintro e w3 h'
  rw [HN.out.2.2.2.1, HN.out.2.2.2.2.1, HN.out.2.2.2.2.2] at h'
  obtain ⟨pa, pc, pn, rfl, hpn, p3, b'⟩ := h'
  have HPN : Hid (pn = bs.length) := hpn
  have b3 := bel_next b2 b'
  have o3 := o2.below b'
  have oB3 := oB.below b'
  clear hpn b' b2 o2 oB
  go_wp2_with fail
  refine (sameBytes_true pa ad pn m pc c bs _ HPN.out HB.out.1 p3.sl.2 o3.sl.2 (by have := HB.out; omega)).mono ?_
  rintro e w4 ⟨rfl, n4, e4⟩
  have d4 : Below w3.heap.size w3 w4 := by rw [e4]; exact drew_refl _ _
  have b4 := bel_next b3 d4
  have o4 := o3.below d4
  have oB4 := oB3.below d4
  clear e4 d4 b3 o3 oB3 p3
  go_wp2_with fail
  refine (at_any _ a _ cap zs _ (by decide) (by decide) rfl (H.out.1.below b4) H.out.2.1 H.out.2.2).mono ?_
  rintro e wx ⟨y2, rfl, hy2, hy2', ex⟩
  have ex := ex.symm
  subst ex
  go_wp2_with fail
  refine (at_any _ a _ cap zs _ (by decide) (by decide) rfl (H.out.1.below b4) H.out.2.1 H.out.2.2).mono ?_
  rintro e wx ⟨y3, rfl, hy3, hy3', ex⟩
  have ex := ex.symm
  subst ex
  have q0 := own_lit0 w4 w4.heap.size (Nat.le_refl _)
  have qa := bel_alloc w4 (.cells #[] 5)
  obtain ⟨aBd, haB⟩ := sl_some oB4.sl.2 (by have := HN.out.1; omega)
  subst haB
  have S4 : Hid (Sl (w4.alloc (.cells #[] 5)) (some aBd) B) := oB4.sl.2.below qa
  have hpos : 0 < B.length := by have := HN.out.1; omega
  have HLn : Hid (([] : List Int).length + B.length ≤ 4000000) := by show ([] : List Int).length + B.length ≤ 4000000; have := HN.out.1; simp; omega
  have hyy : 0 ≤ y2 * 256 + y3 := by omega
  go_wp2_with (at_builtin; refine wpList_app rfl (.tmp 63) (.tmp 64) rfl w4.heap.size (.slice (some ⟨w4.heap.size, 0, none⟩) 0 0) [] rfl q0 aBd nB cB B rfl HN.out.1 S4.out HLn.out qa.size ?_; intro v6 w6 o6 g6; rw [List.nil_append] at o6; have b6' : Below w4.heap.size w4 w6 := bel_grown qa q0 g6 (Nat.le_refl _) qa.size; obtain ⟨gq, cq, hv6, hgq, hcq⟩ := own_rowT o6 hpos; subst hv6; rw [← HN.out.1]; generalize hK : (y2 * 256 + y3) % (8 * (nB : Int)) = K; obtain ⟨kk, hkk, hk8⟩ : ∃ kk : Nat, K = (kk : Int) ∧ kk / 8 < nB := nat_belowT hK (by omega); subst hkk; obtain ⟨hcell, hfz, hset⟩ := own_atT o6 (show kk / 8 < B.length by have := HN.out.1; omega); have rz := get_range HN.out.2.1 (kk / 8); generalize hz : B.getD (kk / 8) 0 = z at hcell rz; have HZZ : Hid (B.getD (kk / 8) 0 = z) := hz; have HST : Hid (∀ y : Int, Own (w6.setCell ⟨gq, kk / 8, none⟩ (.int .u8 y)) w4.heap.size (.slice (some ⟨gq, 0, none⟩) B.length cq) (B.set (kk / 8) y) ∧ w6.grownBy (w6.setCell ⟨gq, kk / 8, none⟩ (.int .u8 y)) (some gq)) := hset; have hidx : (kk : Int) / 8 < (nB : Int) := (by omega); clear hz hset hK o6 g6 q0)
  have F := flip_bdT z kk rz.1 rz.2
  generalize bits BinOp.xor IntKind.u8 z (2 ^ (kk % 8) % 256) = y at *
  have hC3 := turned_rtu B HN.out.2.1 HN.out.2.2.1 (by have := HN.out.1; omega) (by have := HN.out.1; omega) (kk / 8) y (by have := HN.out.1; omega) F.1 (by rw [HZZ.out]; exact F.2)
  obtain ⟨o7, g7⟩ := HST.out y
  have b6 := bel_next b4 b6'
  have hw4 : w.heap.size ≤ w4.heap.size := b4.size
  have b7 : Below w.heap.size w (w6.setCell ⟨gq, kk / 8, none⟩ (.int .u8 y)) := b6.grown g7 b6.size (fun k hk => by have e := Option.some.inj hk; omega)
  have oB7 := (oB4.below b6').kept g7 (.inr (fun e => by have := (World.ownsRow.lt oB4 gq e).2; omega))
  have o77 := (o4.below b6').kept g7 (.inr (fun e => by have := (World.ownsRow.lt o4 gq e).2; omega))
  have hrT : ∀ z ∈ B.set (kk / 8) y, 0 ≤ z ∧ z ≤ 255 := fun z' hz' => by
    rcases List.mem_or_eq_of_mem_set hz' with h | h
    · exact HN.out.2.1 z' h
    · rw [h]; exact F.1
  generalize w6.setCell ⟨gq, kk / 8, none⟩ (.int .u8 y) = w7 at *
  have HT7 : Hid ((∀ z ∈ B.set (kk / 8) y, 0 ≤ z ∧ z ≤ 255) ∧ gtC (B.set (kk / 8) y) = 3 ∧ nB = (B.set (kk / 8) y).length ∧ nB ≤ cq) := ⟨hrT, hC3, by have := HN.out.1; simp; omega, by have := HN.out.1; omega⟩
  clear HST hcell hfz g7 b6 b6' oB4 o4 b4 hC3 hrT F rz HZZ qa S4 hgq hcq hidx hk8
  generalize B.set (kk / 8) y = ts at *
  have o7' : Hid (Sl w7 (some ⟨gq, 0, none⟩) ts) := o7.sl.2
  clear o7
  refine (implGetRtu_any (some ⟨gq, 0, none⟩) nB cq ts _ HT7.out.2.2.1 HT7.out.2.2.2 o7'.out HT7.out.1 (by have := HT7.out.2.2.1; omega) (HT.out.1.below b7 HT.out.2)).mono ?_
  rintro e w8 h'
  rw [(gt_bad HT7.out.2.1 (by decide)).1, (gt_bad HT7.out.2.1 (by decide)).2, HT7.out.2.1] at h'
  obtain ⟨qa', qc', qn', rfl, hqn, _, b'⟩ := h'
  have b8 := bel_next b7 b'
  have oB8 := oB7.below b'
  have o8 := o77.below b'
  have HQ : Hid (qn' = 0) := hqn
  clear hqn b' b7 oB7 o77 o7' HT7 hyy hy2 hy2' hy3 hy3' hpos HLn
  go_wp2_with fail
  refine (at_any _ a _ cap zs _ (by decide) (by decide) rfl (H.out.1.below b8) H.out.2.1 H.out.2.2).mono ?_
  rintro e wx ⟨y4, rfl, hy4, hy4', ex⟩
  have ex := ex.symm
  subst ex
  obtain ⟨hv, hhv⟩ : ∃ hv : Int, 1 + y4 % 5 = hv := ⟨_, rfl⟩
  have Hhv : Hid (1 + y4 % 5 = hv ∧ 1 ≤ hv ∧ hv ≤ 5) := ⟨hhv, by omega, by omega⟩
  clear hhv
  go_wp2_with fail
  rw [Hhv.out.1]
  refine (implRtuNew_ok hv (hv + 3) _ (by have := Hhv.out; unfold okSl; simp; omega)).mono ?_
  rintro e w9 ⟨rfl, b'⟩
  have b9 := bel_next b8 b'
  have oB9 := oB8.below b'
  have o9 := o8.below b'
  have q := bel_alloc w9 (.cells #[.slice none 0 0, .int .i64 0, .bool false, .int .i64 hv, .int .i64 (hv + 3)] 33)
  have R4 := Blk.new w9 #[.slice none 0 0, .int .i64 0, .bool false, .int .i64 hv, .int .i64 (hv + 3)] 33
  obtain ⟨w4, hw4⟩ : ∃ x, x = w9.alloc (.cells #[.slice none 0 0, .int .i64 0, .bool false, .int .i64 hv, .int .i64 (hv + 3)] 33) := ⟨_, rfl⟩
  obtain ⟨gR, hgR⟩ : ∃ x, x = w9.heap.size := ⟨_, rfl⟩
  have HW4 : Hid (w4 = _) := hw4
  have HGR : Hid (gR = w9.heap.size) := hgR
  rw [← hw4] at q R4
  rw [← hgR] at R4
  have b10 := bel_next b9 q
  have hR3 : w9.heap.size ≤ gR := by omega
  have hw3 : w.heap.size ≤ w9.heap.size := b9.size
  have SB : Hid (Sl w9 (some aBd) B) := oB9.sl.2
  have SP : Hid (Sl w9 ad bs) := o9.sl.2
  have q4 : Below w9.heap.size w9 w4 := q
  have HB3 : Hid (Below w.heap.size w w9) := b9
  clear hw4 hgR q b' b8 oB8 o8 b9 oB9 o9
  go_wp2_with fail
  rw [← HW4.out]
  try simp only [← HGR.out]
  refine (at_any _ a _ cap zs _ (by decide) (by decide) rfl (H.out.1.below b10) H.out.2.1 H.out.2.2).mono ?_
  rintro e wx ⟨y5, rfl, hy5, hy5', ex⟩
  have ex := ex.symm
  subst ex
  obtain ⟨t0, ht0⟩ : ∃ t0 : Int, y5 * 16843009 = t0 := ⟨_, rfl⟩
  have Ht0 : Hid (y5 * 16843009 = t0 ∧ 0 ≤ t0 ∧ t0 ≤ 4294967295) := ⟨ht0, by omega, by omega⟩
  clear ht0
  go_wp2_with fail
  rw [Ht0.out.1]
  have HLP : Hid (4 ≤ nB ∧ nB ≤ 256) := hn4
  clear b10 hy4 hy4' hy5 hy5'
  go_loopw [16, 17] (fun tk i wr => ∃ (j : Nat) (t ls : Int) (aR : Option Addr) (lR cR : Nat), j ≤ nB ∧ i = .int .i64 j ∧ tk = .int .i64 t ∧ lR = j ∧ lR ≤ cR ∧ ((0 ≤ t ∧ t ≤ 4294967295) ∧ (0 ≤ ls ∧ ls ≤ 4294967295) ∧ (0 < j → gap ls t < hv)) ∧ Blk wr gR 33 #[.slice aR lR cR, .int .i64 ls, .bool false, .int .i64 hv, .int .i64 (hv + 3)] ∧ Own wr w9.heap.size (.slice aR lR cR) (B.take j) ∧ Below w9.heap.size w9 wr) (fun _ i _ => nB - (intOf i).toNat)
  case atStart => exact ⟨0, t0, 0, none, 0, 0, Nat.zero_le _, rfl, rfl, rfl, Nat.le_refl _, ⟨Ht0.out.2, by omega, fun h => by omega⟩, R4, by simp; exact ⟨rfl, .inl ⟨rfl, rfl⟩⟩, q4⟩
  case round =>
    obtain ⟨j, t, ls, aR, lR, cR, hj, rfl, rfl, hlR, hcR, ⟨c1, c2, c3⟩, Rr, oR, bw⟩ := hrel
    have bwr : Below w.heap.size w wr := bel_next HB3.out bw
    have hTr : Tab wr := HT.out.1.below bwr HT.out.2
    have hpos : 0 < wr.heap.size := by have := bwr.size; have := HT.out.2; omega
    obtain ⟨r0, r1, r2, r3, r4⟩ := Rr.five
    by_cases hlt : j < nB
    · obtain ⟨bB, oB, eB, hbB, hcB⟩ := cell_at (SB.out.below bw) (k := j) (by have := HN.out.1; omega)
      have hji : (j : Int) < (nB : Int) := by omega
      have hrg := get_range HN.out.2.1 j
      have HJ : Hid (lR = (B.take j).length ∧ lR ≤ cR ∧ Sl wr aR (B.take j) ∧ (∀ z ∈ B.take j, 0 ≤ z ∧ z ≤ 255) ∧ lR ≤ 256 ∧ Tab wr ∧ 0 < wr.heap.size ∧ lR = j) := ⟨by have := HN.out.1; simp; omega, hcR, oR.sl.2, fun z hz => HN.out.2.1 z (List.mem_of_mem_take hz), by omega, hTr, hpos, hlR⟩
      simp only [Option.some.injEq] at eB
      subst eB
      have HK2 : Hid (okT lR ls false hv (hv + 3) = true ∧ tkB t = true ∧ (0 < lR → gap ls t < hv + 3) ∧ false = (false || (decide (0 < lR) && decide (hv ≤ gap ls t)))) := by
        have h := Hhv.out
        refine ⟨?_, ?_, ?_, ?_⟩
        · unfold okT; rw [decide_eq_true (by omega)]; rfl
        · unfold tkB; exact decide_eq_true (by omega)
        · intro h0; have := c3 (by omega); omega
        · by_cases h0 : 0 < lR
          · have := c3 (by omega); rw [decide_eq_false (show ¬ hv ≤ gap ls t by omega)]; simp
          · rw [decide_eq_false h0]; rfl
      have HT2 : Hid ((0 ≤ t ∧ t ≤ 4294967295) ∧ okT (lR + 1) t false hv (hv + 3) = true) := ⟨c1, by have h := Hhv.out; unfold okT; rw [decide_eq_true (by omega)]; rfl⟩
      clear c1 c2 c3 R4 q4 oR hlR hcR hTr hpos
      go_wp2_with fail
      have HR : Hid (Blk wr gR 33 #[.slice aR lR cR, .int .i64 ls, .bool false, .int .i64 hv, .int .i64 (hv + 3)]) := Rr
      have qd : Below wr.heap.size wr (wr.drew.alloc (.cells #[.slice none 0 0, .int .i64 0, .bool false, .int .i64 0, .int .i64 0] 33)) := bel_next (Below.refl _ _).drew (bel_alloc _ _)
      have qe : Below wr.heap.size wr (wr.alloc (.cells #[.slice none 0 0, .int .i64 0, .bool false, .int .i64 0, .int .i64 0] 33)) := bel_alloc _ _
      obtain ⟨s0, s1, s2, s3, s4⟩ := (Rr.below qd).five
      obtain ⟨s5, s6, s7, s8, s9⟩ := (Rr.below qe).five
      obtain ⟨bB2, oB2, eB2, _, hcB2⟩ := cell_at ((SB.out.below bw).below qd) (k := j) (by have := HN.out.1; omega)
      obtain ⟨bB3, oB3, eB3, _, hcB3⟩ := cell_at ((SB.out.below bw).below qe) (k := j) (by have := HN.out.1; omega)
      simp at eB2 eB3
      obtain ⟨rfl, rfl⟩ := eB2
      obtain ⟨rfl, rfl⟩ := eB3
      have ltR : gR < wr.heap.size := World.block_lt_of_cell? _ _ r0
      have ne1 : ¬ gR = wr.heap.size := by omega
      have ne2 : ¬ bB = wr.heap.size := by omega
      go_cut [18, 19] (fun sN sG wc => ∃ (gN : Nat) (a' : Option Addr) (n' c' : Nat) (ga : Option Addr) (gc : Nat), sN = .pointer (some ⟨gN, 0, none⟩) ∧ sG = .slice ga 0 gc ∧ n' = lR + 1 ∧ n' ≤ c' ∧ wr.heap.size ≤ gN ∧ Blk wc gN 33 #[.slice a' n' c', .int .i64 t, .bool false, .int .i64 hv, .int .i64 (hv + 3)] ∧ Own wc wr.heap.size (.slice a' n' c') (B.take j ++ [B.getD j 0]) ∧ Below wr.heap.size wr wc)
      case first =>
        as_aux_lemma =>
          go_region_with (go_at_call 12; refine (hear_step aR lR cR ls false hv (hv + 3) t (B.getD j 0) (B.take j) _ HJ.out.1 HJ.out.2.1 (HJ.out.2.2.1.below ?_) HJ.out.2.2.2.1 HJ.out.2.2.2.2.1 (HJ.out.2.2.2.2.2.1.below ?_ HJ.out.2.2.2.2.2.2.1) HK2.out.1 HK2.out.2.1 HK2.out.2.2.1 false HK2.out.2.2.2).mono ?_; (first | exact Below.refl _ _ | exact (Below.refl _ _).drew | exact (Below.refl _ _).drew.drew | exact bel_alloc _ _ | exact bel_next (Below.refl _ _).drew (bel_alloc _ _) | exact bel_next (Below.refl _ _).drew.drew (bel_alloc _ _)); (first | exact Below.refl _ _ | exact (Below.refl _ _).drew | exact (Below.refl _ _).drew.drew | exact bel_alloc _ _ | exact bel_next (Below.refl _ _).drew (bel_alloc _ _) | exact bel_next (Below.refl _ _).drew.drew (bel_alloc _ _)); rintro e w5 ⟨a', c', n', ga, gc, rfl, hn', hc', o5, b5'⟩; have Hn' : Hid (n' = lR + 1) := hn'; clear hn'; have b5 : Below wr.heap.size wr w5 := bel_next (by (first | exact Below.refl _ _ | exact (Below.refl _ _).drew | exact (Below.refl _ _).drew.drew | exact bel_alloc _ _ | exact bel_next (Below.refl _ _).drew (bel_alloc _ _) | exact bel_next (Below.refl _ _).drew.drew (bel_alloc _ _))) b5'; (first | (have N5 : Blk w5 wr.heap.size 33 #[.slice none 0 0, .int .i64 0, .bool false, .int .i64 0, .int .i64 0] := (Blk.new wr.drew #[.slice none 0 0, .int .i64 0, .bool false, .int .i64 0, .int .i64 0] 33).below b5'; obtain ⟨z0, z1, z2, z3, z4⟩ := N5.five; have fz := N5.fro) | (have N5 : Blk w5 wr.heap.size 33 #[.slice none 0 0, .int .i64 0, .bool false, .int .i64 0, .int .i64 0] := (Blk.new wr #[.slice none 0 0, .int .i64 0, .bool false, .int .i64 0, .int .i64 0] 33).below b5'; obtain ⟨z0, z1, z2, z3, z4⟩ := N5.five; have fz := N5.fro) | skip); have o5' : Own w5 wr.heap.size (.slice a' n' c') (B.take j ++ [B.getD j 0]) := o5.monoT (by simp); clear b5' o5)
          all_goals (go_wp2_with fail; go_meet; first | exact ⟨wr.heap.size, a', n', c', ga, gc, rfl, rfl, Hn'.out, hc', Nat.le_refl _, st5_self N5 _ _ _ _ _, st5_own o5' ⟨_, N5⟩, st5_bel b5 (Nat.le_refl _)⟩ | exact ⟨w5.heap.size, a', n', c', ga, gc, rfl, rfl, Hn'.out, hc', b5.size, Blk.new w5 _ _, o5'.below (bel_alloc _ _), bel_next b5 (bel_alloc _ _)⟩)
      case rest =>
        obtain ⟨gN, a', n', c', ga, gc, rfl, rfl, hn', hc', hgN, N6, o6, b6⟩ := hcut
        have HN6 : Hid (n' = lR + 1 ∧ n' ≤ c' ∧ wr.heap.size ≤ gN) := ⟨hn', hc', hgN⟩
        have R6 := HR.out.below b6
        clear hn' hc' hgN r0 r1 r2 r3 r4 s0 s1 s2 s3 s4 s5 s6 s7 s8 s9 hcB hcB2 hcB3 qd qe Rr ne1 ne2
        obtain ⟨z0, z1, z2, z3, z4⟩ := N6.five
        go_wp2_with fail
        refine (implRtuOk_any a' n' c' t false hv (hv + 3) _ (by have := HN6.out.1; have := HJ.out; omega) true (by rw [HN6.out.1]; exact HT2.out.2)).mono ?_
        rintro e w7 ⟨rfl, b'⟩
        have N7 := N6.below b'
        have R7 := R6.below b'
        have o7 := o6.below b'
        have b7 := bel_next b6 b'
        clear b' z0 z1 z2 z3 z4 N6 R6 o6 b6
        obtain ⟨z0, z1, z2, z3, z4⟩ := N7.five
        obtain ⟨y0, y1, y2, y3, y4⟩ := R7.five
        have fy := R7.fro
        have hgR' : w9.heap.size ≤ gR := hR3
        have hgR2 : w.heap.size ≤ gR := by omega
        have bst : Below w.heap.size w (st5 w7 gR (.slice a' n' c') (.int .i64 t) (.bool false) (.int .i64 hv) (.int .i64 (hv + 3))) := st5_bel (bel_next bwr b7) hgR2
        have hv0 : ¬ hv = 0 := by have := Hhv.out; omega
        have hv1 : 0 ≤ hv := by have := Hhv.out; omega
        have t1 : 0 ≤ t := HT2.out.1.1
        have t2 : t ≤ 4294967295 := HT2.out.1.2
        go_wp2_with fail
        refine (at_any _ a _ cap zs _ (by decide) (by decide) rfl (H.out.1.below bst) H.out.2.1 H.out.2.2).mono ?_
        rintro e wx ⟨y6, rfl, hy6, hy6', ex⟩
        have ex := ex.symm
        subst ex
        have hm1 := Int.emod_nonneg (y6 + (j : Int)) hv0
        have hm2 := Int.emod_lt_of_pos (y6 + (j : Int)) (show (0 : Int) < hv by omega)
        obtain ⟨d, hd⟩ : ∃ d : Int, (y6 + (j : Int)) % hv = d := ⟨_, rfl⟩
        have HD : Hid ((y6 + (j : Int)) % hv = d ∧ 0 ≤ d ∧ d < hv) := ⟨hd, by omega, by omega⟩
        clear hd hm1 hm2
        go_wp2_with fail
        rw [HD.out.1]
        refine (implOn_ok t d _ t1 t2 HD.out.2.1 (by have := HD.out; have := Hhv.out; omega)).mono ?_
        rintro e wx ⟨rfl, ex⟩
        have ex := ex.symm
        subst ex
        clear y0 y1 y2 y3 y4 z0 z1 z2 z3 z4 fy
        go_wp2
        go_roundw
        case rel =>
          have hsz : w9.heap.size ≤ wr.heap.size := bw.size
          have hZ : B.take (j + 1) = B.take j ++ [B.getD j 0] := take_snoc (by have := HN.out.1; omega)
          have hg : gap t ((t + d) % 4294967296) < hv := by have := HD.out; have := Hhv.out; unfold gap; omega
          have RL : ∃ (j' : Nat) (t' ls : Int) (aR : Option Addr) (lR cR : Nat), j' ≤ nB ∧ Value.int .i64 ((j : Int) + 1) = .int .i64 j' ∧ Value.int .i64 ((t + d) % 4294967296) = .int .i64 t' ∧ lR = j' ∧ lR ≤ cR ∧ ((0 ≤ t' ∧ t' ≤ 4294967295) ∧ (0 ≤ ls ∧ ls ≤ 4294967295) ∧ (0 < j' → gap ls t' < hv)) ∧ Blk (st5 w7 gR (.slice a' n' c') (.int .i64 t) (.bool false) (.int .i64 hv) (.int .i64 (hv + 3))) gR 33 #[.slice aR lR cR, .int .i64 ls, .bool false, .int .i64 hv, .int .i64 (hv + 3)] ∧ Own (st5 w7 gR (.slice a' n' c') (.int .i64 t) (.bool false) (.int .i64 hv) (.int .i64 (hv + 3))) w9.heap.size (.slice aR lR cR) (B.take j') ∧ Below w9.heap.size w9 (st5 w7 gR (.slice a' n' c') (.int .i64 t) (.bool false) (.int .i64 hv) (.int .i64 (hv + 3))) := by
            refine ⟨j + 1, (t + d) % 4294967296, t, a', n', c', by omega, by push_cast; rfl, rfl, by have := HN6.out; have := HJ.out; omega, HN6.out.2.1, ⟨⟨by omega, by omega⟩, HT2.out.1, fun _ => hg⟩, ?_, ?_, ?_⟩
            · exact st5_self R7 _ _ _ _ _
            · rw [hZ]; exact st5_own (o7.monoT hsz) ⟨_, R7⟩
            · exact st5_bel (bw.trans (b7.mono hsz)) hgR'
          first | exact RL | exact ⟨RL, rfl⟩ | ((repeat apply Exists.intro); exact ⟨RL, rfl⟩)
        case measure => simp [intOf]; omega
    · obtain rfl : j = nB := by omega
      have HJ : Hid (lR = B.length ∧ lR ≤ cR ∧ Sl wr aR B ∧ lR ≤ 256 ∧ Tab wr ∧ 4 ≤ lR ∧ 0 ≤ ls ∧ ls ≤ 4294967295) := by
        have hT' : B.take j = B := List.take_of_length_le (by have := HN.out.1; omega)
        rw [hT'] at oR
        exact ⟨by have := HN.out.1; omega, hcR, oR.sl.2, by omega, hTr, by omega, c2.1, c2.2⟩
      have e1 : Hid (wtE lR ls false hv (hv + 3) ((ls + (hv + 2)) % 4294967296) = false) := by
        have h := HJ.out
        have h2 := Hhv.out
        show _ = _
        unfold wtE
        rw [decide_eq_false (show ¬ hv + 3 ≤ gap ls ((ls + (hv + 2)) % 4294967296) by unfold gap; omega)]
        simp
      have e2 : Hid (wtE lR ls false hv (hv + 3) ((ls + (hv + 3)) % 4294967296) = true) := by
        have h := HJ.out
        have h2 := Hhv.out
        show _ = _
        unfold wtE okT tkB
        rw [decide_eq_true (show hv + 3 ≤ gap ls ((ls + (hv + 3)) % 4294967296) by unfold gap; omega), decide_eq_true (show 0 < lR by omega), decide_eq_true (by omega), decide_eq_true (by omega)]
        rfl
      have hls1 : 0 ≤ ls := c2.1
      have hls2 : ls ≤ 4294967295 := c2.2
      have hv1 : 1 ≤ hv := Hhv.out.2.1
      have hv2 : hv ≤ 5 := Hhv.out.2.2
      clear c1 c2 c3 R4 q4 oR hlR hcR hTr hpos
      go_wp2_with fail
      have HR : Hid (Blk wr gR 33 #[.slice aR lR cR, .int .i64 ls, .bool false, .int .i64 hv, .int .i64 (hv + 3)]) := Rr
      have hw2 : IntKind.i64.wrap (hv + 2) = hv + 2 := by rw [IntKind.wrap_i64]; omega
      have hw3 : IntKind.i64.wrap (hv + 3) = hv + 3 := by rw [IntKind.wrap_i64]; omega
      have qd : Below wr.heap.size wr (wr.drew.alloc (.cells #[.slice none 0 0, .int .i64 0, .bool false, .int .i64 0, .int .i64 0] 33)) := bel_next (Below.refl _ _).drew (bel_alloc _ _)
      have qe : Below wr.heap.size wr (wr.alloc (.cells #[.slice none 0 0, .int .i64 0, .bool false, .int .i64 0, .int .i64 0] 33)) := bel_alloc _ _
      obtain ⟨rd0, rd1, rd2, rd3, rd4⟩ := (Rr.below qd).five
      obtain ⟨re0, re1, re2, re3, re4⟩ := (Rr.below qe).five
      have ltR : gR < wr.heap.size := World.block_lt_of_cell? _ _ r0
      have ne1 : ¬ gR = wr.heap.size := by omega
      go_cut [20, 21] (fun sE sN wc => ∃ (gE : Nat) (a' : Option Addr) (n' c' : Nat) (ga : Option Addr) (gc : Nat), sE = .pointer (some ⟨gE, 0, none⟩) ∧ sN = .slice ga 0 gc ∧ n' = B.length ∧ n' ≤ c' ∧ Blk wc gE 33 #[.slice a' n' c', .int .i64 ls, .bool false, .int .i64 hv, .int .i64 (hv + 3)] ∧ Own wc wr.heap.size (.slice a' n' c') B ∧ Below wr.heap.size wr wc)
      case first =>
        as_aux_lemma =>
          go_region_with (first | (go_at_call 14; (try rw [hw2]); refine (implOn_ok ls (hv + 2) _ hls1 hls2 (by omega) (by omega)).mono ?_; rintro e wx ⟨rfl, ex⟩; have ex := ex.symm; subst ex) | (go_at_call 15; refine (wait_no5 aR lR cR ls hv (hv + 3) ((ls + (hv + 2)) % 4294967296) B _ HJ.out.1 (HJ.out.2.2.1.below ?_) (by have := HJ.out; omega) e1.out).mono ?_; (first | exact Below.refl _ _ | exact (Below.refl _ _).drew | exact (Below.refl _ _).drew.drew | exact bel_alloc _ _ | exact bel_next (Below.refl _ _).drew (bel_alloc _ _) | exact bel_next (Below.refl _ _).drew.drew (bel_alloc _ _)); rintro e w5 ⟨a', c', n', ga, gc, rfl, hn', hc', o5, b5'⟩; have Hn' : Hid (n' = B.length) := hn'; clear hn'; have b5 : Below wr.heap.size wr w5 := bel_next (by (first | exact Below.refl _ _ | exact (Below.refl _ _).drew | exact (Below.refl _ _).drew.drew | exact bel_alloc _ _ | exact bel_next (Below.refl _ _).drew (bel_alloc _ _) | exact bel_next (Below.refl _ _).drew.drew (bel_alloc _ _))) b5'; (first | (have N5 : Blk w5 wr.heap.size 33 #[.slice none 0 0, .int .i64 0, .bool false, .int .i64 0, .int .i64 0] := (Blk.new wr.drew #[.slice none 0 0, .int .i64 0, .bool false, .int .i64 0, .int .i64 0] 33).below b5'; obtain ⟨z0, z1, z2, z3, z4⟩ := N5.five; have fz := N5.fro) | (have N5 : Blk w5 wr.heap.size 33 #[.slice none 0 0, .int .i64 0, .bool false, .int .i64 0, .int .i64 0] := (Blk.new wr #[.slice none 0 0, .int .i64 0, .bool false, .int .i64 0, .int .i64 0] 33).below b5'; obtain ⟨z0, z1, z2, z3, z4⟩ := N5.five; have fz := N5.fro) | skip); have o5' : Own w5 wr.heap.size (.slice a' n' c') B := o5.monoT (by simp); clear b5' o5))
          all_goals (go_wp2_with fail; go_meet; first | exact ⟨wr.heap.size, a', n', c', ga, gc, rfl, rfl, Hn'.out, hc', st5_self N5 _ _ _ _ _, st5_own o5' ⟨_, N5⟩, st5_bel b5 (Nat.le_refl _)⟩ | exact ⟨w5.heap.size, a', n', c', ga, gc, rfl, rfl, Hn'.out, hc', Blk.new w5 _ _, o5'.below (bel_alloc _ _), bel_next b5 (bel_alloc _ _)⟩)
      case rest =>
      obtain ⟨gE, a', n', c', ga, gc, rfl, rfl, hn', hc', N6, o6, b6⟩ := hcut
      have HN6 : Hid (n' = B.length ∧ n' ≤ c' ∧ Sl wc a' B) := ⟨hn', hc', o6.sl.2⟩
      have R6 := HR.out.below b6
      have b6w := bel_next bwr b6
      have e3 : Hid (wtE n' ls false hv (hv + 3) ((ls + (hv + 3)) % 4294967296) = true) := by show _ = _; rw [hn', ← HJ.out.1]; exact e2.out
      have HTc : Hid (Tab wc ∧ 0 < wc.heap.size) := ⟨HT.out.1.below b6w HT.out.2, by have := b6w.size; have := HT.out.2; omega⟩
      clear hn' hc' o6 r0 r1 r2 r3 r4 rd0 rd1 rd2 rd3 rd4 re0 re1 re2 re3 re4 qd qe Rr ne1 ltR
      obtain ⟨r0, r1, r2, r3, r4⟩ := R6.five
      obtain ⟨n0, n1, n2, n3, n4⟩ := N6.five
      have qd : Below wc.heap.size wc (wc.drew.alloc (.cells #[.slice none 0 0, .int .i64 0, .bool false, .int .i64 0, .int .i64 0] 33)) := bel_next (Below.refl _ _).drew (bel_alloc _ _)
      have qe : Below wc.heap.size wc (wc.alloc (.cells #[.slice none 0 0, .int .i64 0, .bool false, .int .i64 0, .int .i64 0] 33)) := bel_alloc _ _
      obtain ⟨rd0, rd1, rd2, rd3, rd4⟩ := (R6.below qd).five
      obtain ⟨re0, re1, re2, re3, re4⟩ := (R6.below qe).five
      obtain ⟨kd0, kd1, kd2, kd3, kd4⟩ := (N6.below qd).five
      obtain ⟨ke0, ke1, ke2, ke3, ke4⟩ := (N6.below qe).five
      have ltR : gR < wc.heap.size := World.block_lt_of_cell? _ _ r0
      have ltE : gE < wc.heap.size := World.block_lt_of_cell? _ _ n0
      have ne1 : ¬ gR = wc.heap.size := by omega
      have ne3 : ¬ gE = wc.heap.size := by omega
      go_wp2_with fail
      go_cut [22, 23] (fun sL sG wd => ∃ (gL : Nat) (a2 : Option Addr) (c2 g gc2 : Nat) (pa : Option Addr) (pn pc : Nat), sL = .pointer (some ⟨gL, 0, none⟩) ∧ sG = .slice (some ⟨g, 0, none⟩) 1 gc2 ∧ Blk wd gL 33 #[.slice a2 0 c2, .int .i64 ls, .bool false, .int .i64 hv, .int .i64 (hv + 3)] ∧ Blk wd g 42 #[.int .i64 0, .int .i64 un, .slice pa pn pc] ∧ pn = bs.length ∧ Own wd wc.heap.size (.slice pa pn pc) bs ∧ Below wc.heap.size wc wd)
      case first =>
        as_aux_lemma =>
          go_region_with (first | (go_at_call 14; (try rw [hw3]); refine (implOn_ok ls (hv + 3) _ hls1 hls2 (by omega) (by omega)).mono ?_; rintro e wx ⟨rfl, ex⟩; have ex := ex.symm; subst ex) | (go_at_call 15; refine (wait_yes5 a' n' c' ls hv (hv + 3) ((ls + (hv + 3)) % 4294967296) B _ HN6.out.1 HN6.out.2.1 (HN6.out.2.2.below ?_) HN.out.2.1 (by have := HJ.out; omega) (HTc.out.1.below ?_ HTc.out.2) e3.out un bs HN.out.2.2.2.1 HN.out.2.2.2.2.1 HN.out.2.2.2.2.2).mono ?_; (first | exact Below.refl _ _ | exact (Below.refl _ _).drew | exact (Below.refl _ _).drew.drew | exact bel_alloc _ _ | exact bel_next (Below.refl _ _).drew (bel_alloc _ _) | exact bel_next (Below.refl _ _).drew.drew (bel_alloc _ _)); (first | exact Below.refl _ _ | exact (Below.refl _ _).drew | exact (Below.refl _ _).drew.drew | exact bel_alloc _ _ | exact bel_next (Below.refl _ _).drew (bel_alloc _ _) | exact bel_next (Below.refl _ _).drew.drew (bel_alloc _ _)); rintro e w5 ⟨a2, c2, g, gc2, pa, pn, pc, rfl, hg, G5, hpn, o5, b5'⟩; have HG5 : Hid (wc.heap.size ≤ g ∧ pn = bs.length) := ⟨by (try simp at hg); omega, hpn⟩; have b5 : Below wc.heap.size wc w5 := bel_next (by (first | exact Below.refl _ _ | exact (Below.refl _ _).drew | exact (Below.refl _ _).drew.drew | exact bel_alloc _ _ | exact bel_next (Below.refl _ _).drew (bel_alloc _ _) | exact bel_next (Below.refl _ _).drew.drew (bel_alloc _ _))) b5'; (first | (have HG6 : Hid (wc.heap.size + 1 ≤ g) := (by (try simp at hg); show _ ≤ _; omega)) | skip); (first | (have N5 : Blk w5 wc.heap.size 33 #[.slice none 0 0, .int .i64 0, .bool false, .int .i64 0, .int .i64 0] := (Blk.new wc.drew #[.slice none 0 0, .int .i64 0, .bool false, .int .i64 0, .int .i64 0] 33).below b5'; obtain ⟨z0, z1, z2, z3, z4⟩ := N5.five; have fz := N5.fro) | (have N5 : Blk w5 wc.heap.size 33 #[.slice none 0 0, .int .i64 0, .bool false, .int .i64 0, .int .i64 0] := (Blk.new wc #[.slice none 0 0, .int .i64 0, .bool false, .int .i64 0, .int .i64 0] 33).below b5'; obtain ⟨z0, z1, z2, z3, z4⟩ := N5.five; have fz := N5.fro) | skip); have o5' : Own w5 wc.heap.size (.slice pa pn pc) bs := o5.monoT (by simp); clear b5' o5 hg hpn))
          all_goals (go_wp2_with fail; go_meet; first | exact ⟨wc.heap.size, a2, c2, g, gc2, pa, pn, pc, rfl, rfl, st5_self N5 _ _ _ _ _, st5_blk G5 (by have := HG6.out; omega), HG5.out.2, st5_own o5' ⟨_, N5⟩, st5_bel b5 (Nat.le_refl _)⟩ | exact ⟨w5.heap.size, a2, c2, g, gc2, pa, pn, pc, rfl, rfl, Blk.new w5 _ _, G5.below (bel_alloc _ _), HG5.out.2, o5'.below (bel_alloc _ _), bel_next b5 (bel_alloc _ _)⟩)
      case rest =>
      obtain ⟨gL, a2, c2, g, gc2, pa2, pn2, pc2, rfl, rfl, L7, G7, hpn, o7, b7⟩ := hcut
      have b7w := bel_next b6w b7
      have b79 := bel_next (bel_next bw b6) b7
      have HP7 : Hid (pn2 = bs.length) := hpn
      clear hpn r0 r1 r2 r3 r4 n0 n1 n2 n3 n4 rd0 rd1 rd2 rd3 rd4 re0 re1 re2 re3 re4 kd0 kd1 kd2 kd3 kd4 ke0 ke1 ke2 ke3 ke4 qd qe ne1 ne3 ltR ltE b6w N6 R6
      obtain ⟨l0, l1, l2, l3, l4⟩ := L7.five
      obtain ⟨g0, g1, g2⟩ := G7.three
      go_wp2_with fail
      refine (sameBytes_true pa2 ad pn2 m pc2 c bs _ HP7.out HB.out.1 o7.sl.2 (SP.out.below b79) (by have := HB.out; omega)).mono ?_
      rintro e w8 ⟨rfl, nd, e8⟩
      have d8 : Below wc.heap.size wc w8 := by rw [e8]; exact drew_refl _ _
      have b8 := bel_next b7w d8
      have L8 := L7.below d8
      clear e8 d8 l0 l1 l2 l3 l4 g0 g1 g2
      obtain ⟨l0, l1, l2, l3, l4⟩ := L8.five
      go_wp2
      go_ret
      exact ⟨rfl, b8⟩

end Go.Proofs.YtoofkikenfgbpaaDoor
