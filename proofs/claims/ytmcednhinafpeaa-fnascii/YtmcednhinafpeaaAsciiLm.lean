/- The law of frames in digits, walked. -/
import Derived.Test.YtmcednhinafpeaaAscS
import Derived.Test.YtmcednhinafpeaaAt1
import Derived.Test.YtmcednhinafpeaaAscDm
import Derived.Deep.DeepCutAuto
import Derived.Deep.RegionWith
namespace Go.Proofs.Ytmcednhinafpeaa
open Go.RowKit

set_option linter.unusedVariables false

set_option linter.unusedSimpArgs false

theorem OneG.below {w w' : World} {B : Nat} {un : Int} {ps : List Int} {ga : Option Addr} {gn : Nat} (h : OneG w B un ps ga gn) (hb : Below w.heap.size w w') : OneG w' B un ps ga gn := by
  obtain ⟨g, pa, pn, pc, rs, h1, h2, h3, h4, h5⟩ := h
  exact ⟨g, pa, pn, pc, rs, h1, h2, h3.below hb, h4, h5.below hb⟩

theorem OneG.mono {w : World} {B B' : Nat} {un : Int} {ps : List Int} {ga : Option Addr} {gn : Nat} (h : OneG w B un ps ga gn) (hb : B' ≤ B) : OneG w B' un ps ga gn := by
  obtain ⟨g, pa, pn, pc, rs, h1, h2, h3, h4, h5⟩ := h
  exact ⟨g, pa, pn, pc, rs, h1, h2, h3, h4, h5.monoT hb⟩

theorem OneG.st {w : World} {B gS : Nat} {un : Int} {ps : List Int} {ga : Option Addr} {gn : Nat} {cs : Array Value} {v0 v1 v2 v3 : Value} (h : OneG w B un ps ga gn) (hb : Blk w gS 31 cs) : OneG (st4 w gS v0 v1 v2 v3) B un ps ga gn := by
  obtain ⟨g, pa, pn, pc, rs, h1, h2, h3, h4, h5⟩ := h
  exact ⟨g, pa, pn, pc, rs, h1, h2, st4_blk h3 (blk_ne h3 hb (by decide)), h4, st4_own h5 ⟨_, hb⟩⟩

/-- append of frames. -/
theorem wpList_appG {w w' : World} {ops : Array Oper} {rest : List Oper} {o : Oper} {a : Act} {Q : Exit → Act → World → Prop} (hgd : o.guard = none) (s x : Operand)
    (ho : o.op = .call { callee := .builtin .append, args := #[s, x], argTypes := #[34, 34] }) (v u v' : Value) (hs : a.eval s = v) (hx : a.eval x = u)
    (hr : (Builtin.append_ #[34, 34] o.type #[v, u]).run Try.prog w = .ok v' w') (h : wpList Try.prog ops Q rest (a.put o.dst v') w') : wpList Try.prog ops Q (o :: rest) a w :=
  Lib.wpList_append_run _ hgd s x _ _ ho _ _ hs hx _ _ hr h

/-- What was told, and what is told of one byte more. -/
theorem told_next (gT i N : Nat) (un : Int) (bs : List Int) (ga : Option Addr) (gn gc : Nat) (w : World) (B : Nat) (hB : B ≤ w.heap.size) (h : (i + 1 < N ∧ gn = 0) ∨ (i + 1 = N ∧ OneG w B un bs ga gn)) :
    ∃ tA tn tc W', (Builtin.append_ #[34, 34] 34 #[.slice (some ⟨gT, 0, none⟩) 0 0, .slice ga gn gc]).run Try.prog w = .ok (.slice tA tn tc) W' ∧ ((i + 1 < N ∧ tA = some ⟨gT, 0, none⟩ ∧ tn = 0 ∧ tc = 0) ∨ (i + 1 = N ∧ OneG W' B un bs tA tn)) ∧ Below w.heap.size w W' := by
  obtain ⟨it, hi, h3, h40, hz⟩ := got_info
  rcases h with ⟨h1, rfl⟩ | ⟨h1, g, pa, pn, pc, rs, rfl, rfl, hG, hpn, ho⟩
  · refine ⟨some ⟨gT, 0, none⟩, 0, 0, w, run_append_nothing w 34 34 34 39 it Try.underlying34 hi (some ⟨gT, 0, none⟩) 0 0 (Nat.le_refl _) _ ?_, .inl ⟨h1, rfl, rfl, rfl⟩, Below.refl _ _⟩
    cases ga with
    | none => exact Src.ofNil w Try.underlying34 gc
    | some a => exact Src.ofSlice w Try.underlying34 a 0 gc [] (by simp) (fun j u hj => by simp at hj) (fun u hu => by simp at hu)
  · obtain ⟨g0, g1, g2⟩ := gcs_three hG
    have hr := run_append_grow (P := Try.prog) w 34 34 39 it _ Try.underlying34 hi hz ⟨gT, 0, none⟩ 0 0 [] (by simp) (fun j v h => by simp at h) ⟨g, 0, none⟩ 1 gc [.int .i64 0, .int .i64 un, .slice pa pn pc] (by simp [h3]) (fun j v h => by
      match j, h with
      | 0, h => simp at h; subst h; simpa [Addr.add] using g0
      | 1, h => simp at h; subst h; simpa [Addr.add] using g1
      | 2, h => simp at h; subst h; simpa [Addr.add] using g2
      | j + 3, h => simp at h) (by omega) (by simp) (by rw [h40]; decide)
    refine ⟨_, _, _, _, hr, .inr ⟨h1, w.heap.size, pa, pn, pc, (Builtin.zeroCells (Value.agg #[.int .i64 0, .int .i64 0, .slice none 0 0]).cells (grownCap w (0 + 1) 0 39 - (0 + 1))).toList, rfl, rfl, ?_, hpn, ho.below ?_⟩, ?_⟩
    · have := Blk.new w.drew ((#[] : Array Value) ++ #[.int .i64 0, .int .i64 un, .slice pa pn pc] ++ Builtin.zeroCells (Value.agg #[.int .i64 0, .int .i64 0, .slice none 0 0]).cells (grownCap w (0 + 1) 0 39 - (0 + 1))) 39
      generalize Builtin.zeroCells (Value.agg #[.int .i64 0, .int .i64 0, .slice none 0 0]).cells (grownCap w (0 + 1) 0 39 - (0 + 1)) = zc at *
      have e : gcs 0 un pa pn pc zc.toList = (#[] : Array Value) ++ #[.int .i64 0, .int .i64 un, .slice pa pn pc] ++ zc := by apply Array.ext'; simp
      rw [e]
      exact this
    · exact bel_next (Below.refl _ _).drew (bel_alloc _ _)
    · exact bel_next (Below.refl _ _).drew (bel_alloc _ _)

set_option maxRecDepth 20000 in
set_option maxHeartbeats 4000000 in
theorem ascii_law (a : Option Addr) (cap : Nat) (zs : List Int) (w : World) (hs : Sl w a zs) (hr : ∀ z ∈ zs, 0 ≤ z ∧ z ≤ 255) (hl : zs.length ≤ 1048576) :
    Calls Try.prog 3 #[.slice a zs.length cap] w fun e w' => e = .returned (.bool true) ∧ Below w.heap.size w w' := by
  have H : Hid (Sl w a zs ∧ (∀ z ∈ zs, 0 ≤ z ∧ z ≤ 255) ∧ zs.length ≤ 1048576) := ⟨hs, hr, hl⟩
  have hbg : ¬ (1048576 : Int) < (zs.length : Int) := by omega
  clear hs hr hl
  go_enter Try.func3, Try.ntmps3
  go_wp2_with (go_at_call 9; go_in)
  refine (drawFrame_any w a _ cap zs rfl H.out.1 H.out.2.1 H.out.2.2).mono ?_
  rintro e w1 ⟨un, ad, m, c, bs, rfl, hu0, hu1, hm, hm1, hm2, o1, hbr, b1⟩
  have HB : Hid (m = bs.length ∧ 1 ≤ m ∧ m ≤ 253 ∧ 0 ≤ un ∧ un ≤ 255) := ⟨hm, hm1, hm2, hu0, hu1⟩
  have HBR : Hid (∀ z ∈ bs, 0 ≤ z ∧ z ≤ 255) := hbr
  clear hm hm1 hm2 hu0 hu1 hbr
  go_wp2_with fail
  refine (implPutAscii_any un ad m c bs _ HB.out.1 o1.sl.2 HBR.out (by have := HB.out; omega)).mono ?_
  rintro e w2 ⟨aF, cF, nF, rfl, hnF, oF, b'⟩
  have b2 := bel_next b1 b'
  have o2 := o1.below b'
  have oF2 := oF.monoT b1.size
  have GB := ga_back un bs HB.out.2.2.2.1 HB.out.2.2.2.2 HBR.out (by have := HB.out; omega) (by have := HB.out; omega)
  have hpy := puA_yes (un := un) (zs := bs) ⟨HB.out.2.2.2.1, HB.out.2.2.2.2, by have := HB.out; omega, by have := HB.out; omega⟩
  have hxr := rgU HB.out.2.2.2.1 HB.out.2.2.2.2 HBR.out
  obtain ⟨xs, hxs⟩ : ∃ xs, xs = lrL (un :: bs) := ⟨_, rfl⟩
  rw [← hxs] at hpy hxr
  generalize puA un bs = F at *
  have HF : Hid (F = asL xs ∧ (∀ z ∈ xs, 0 ≤ z ∧ z ≤ 255) ∧ F.length ≤ 600 ∧ nF = F.length ∧ F.length = 2 * bs.length + 7) := ⟨hpy, hxr, by have := GB.2.2.2; have := HB.out; omega, hnF, GB.2.2.2⟩
  have HG : Hid (gaC F = 0 ∧ gaU F = un ∧ gaP F = bs) := ⟨GB.1, GB.2.1, GB.2.2.1⟩
  have hnF2 : (nF : Int) = 2 * (m : Int) + 7 := by have := HF.out.2.2.2; have := HB.out.1; omega
  have HNF2 : Hid ((nF : Int) = 2 * (m : Int) + 7) := hnF2
  have hcF : Hid (nF ≤ cF) := own_cap oF2
  clear hxs hpy hxr GB hnF oF b' b1 o1 hnF2
  go_wp2_with fail
  refine (implGetAscii_any aF nF cF F _ HF.out.2.2.2.1 hcF.out oF2.sl.2 (by have := HF.out; omega)).mono ?_
  rintro e w3 h'
  rw [HG.out.1, HG.out.2.1, HG.out.2.2] at h'
  obtain ⟨pa, pc, pn, rfl, hpn, p3', b'⟩ := h'
  have b3 := bel_next b2 b'
  have o3 := o2.below b'
  have oF3 := oF2.below b'
  have HP : Hid (pn = bs.length) := hpn
  clear b' b2 o2 oF2 hpn
  go_wp2_with fail
  refine (sameBytes_true pa ad pn m pc c bs _ HP.out HB.out.1 p3'.sl.2 o3.sl.2 (by have := HB.out; omega)).mono ?_
  rintro e w4 ⟨rfl, nd, e4⟩
  have d4 : Below w3.heap.size w3 w4 := by rw [e4]; exact drew_refl _ _
  have b4 := bel_next b3 d4
  have o4 := o3.below d4
  have oF4 := oF3.below d4
  have hmb : (m : Int) ≤ 253 := by have := HB.out; omega
  have hq : ((nF : Int) != 2 * (m : Int) + 7) = false := by simp; exact HNF2.out
  clear e4 d4 b3 o3 oF3 p3'
  go_wp2_with fail
  refine (at_any _ a _ cap zs _ (by decide) (by decide) rfl (H.out.1.below b4) H.out.2.1 H.out.2.2).mono ?_
  rintro e wx ⟨y2, rfl, hy2, hy2', ex⟩
  have ex := ex.symm
  subst ex
  obtain ⟨wt, hwt⟩ : ∃ wt : Int, 1 + y2 % 9 = wt := ⟨_, rfl⟩
  have HWT : Hid (1 + y2 % 9 = wt ∧ 1 ≤ wt ∧ wt ≤ 9) := ⟨hwt, by omega, by omega⟩
  clear hwt hq
  go_wp2_with fail
  rw [HWT.out.1]
  refine (implAsciiNew_any wt _).mono ?_
  rintro e w5 ⟨rfl, b'⟩
  rw [if_pos (by have := HWT.out; omega)]
  have b5 := bel_next b4 b'
  have o5 := o4.below b'
  have oF5 := oF4.below b'
  clear b' b4 o4 oF4 hy2 hy2'
  have q := bel_alloc w5 (.cells #[.slice none 0 0, .bool false, .int .i64 0, .int .i64 wt] 31)
  have R6 := Blk.new w5 #[.slice none 0 0, .bool false, .int .i64 0, .int .i64 wt] 31
  obtain ⟨w6, hw6⟩ : ∃ x, x = w5.alloc (.cells #[.slice none 0 0, .bool false, .int .i64 0, .int .i64 wt] 31) := ⟨_, rfl⟩
  obtain ⟨gR, hgR⟩ : ∃ x, x = w5.heap.size := ⟨_, rfl⟩
  have HW6 : Hid (w6 = _) := hw6
  have HGR : Hid (gR = w5.heap.size) := hgR
  rw [← hw6] at q R6
  rw [← hgR] at R6
  have HB5 : Hid (Below w.heap.size w w5) := b5
  have HO5 : Hid (Own w5 w.heap.size (.slice ad m c) bs) := o5
  have d6 : Below w5.heap.size w5 w6 := q
  have b6 := bel_next b5 q
  have o6 := o5.below q
  have oF6 := oF5.below q
  have hR5 : Hid (w.heap.size ≤ gR) := by show _ ≤ _; have := b5.size; omega
  clear hw6 hgR q b5 o5 oF5
  go_wp2_with fail
  rw [← HW6.out]
  try simp only [← HGR.out]
  refine (at_any _ a _ cap zs _ (by decide) (by decide) rfl (H.out.1.below b6) H.out.2.1 H.out.2.2).mono ?_
  rintro e wx ⟨y, rfl, hy0, hy1, ex⟩
  have ex := ex.symm
  subst ex
  go_upto_if 66 with fail
  go_cut [] (fun wc => ∃ y' : Int, y' ≠ 58 ∧ 0 ≤ y' ∧ y' ≤ 255 ∧ wc = w6.alloc (.cells #[.int .u8 13, .int .u8 10, .int .u8 120, .int .u8 y'] 5))
  case first =>
    by_cases hc : y = 58
    · have hcb : (y == 58) = true := by simpa using hc
      subst hc
      go_wp2
      go_meet
      exact ⟨121, by decide, by decide, by decide, rfl⟩
    · have hcb : (y == 58) = false := by simpa using hc
      go_wp2
      go_meet
      exact ⟨y, hc, hy0, hy1, rfl⟩
  case rest =>
  obtain ⟨y', hy58, hyA, hyB, hwc⟩ := hcut
  have HY : Hid (y' ≠ 58 ∧ 0 ≤ y' ∧ y' ≤ 255) := ⟨hy58, hyA, hyB⟩
  have HWC : Hid (wc = _) := hwc
  have q7 : Below w6.heap.size w6 wc := by rw [hwc]; exact bel_alloc _ _
  have SJ : Sl wc (some ⟨w6.heap.size, 0, none⟩) [13, 10, 120, y'] := by
    rw [hwc]
    refine .inr ⟨w6.heap.size, 0, rfl, by simp, fun i hi => ?_⟩
    match i, hi with
    | 0, _ => simp
    | 1, _ => simp
    | 2, _ => simp
    | 3, _ => simp
    | i + 4, hi => simp at hi; omega
  clear hy58 hyA hyB hy0 hy1
  have d7 := bel_next d6 q7
  have b7 := bel_next b6 q7
  clear d6
  have o7 := o6.below q7
  have oF7 := oF6.below q7
  have R7 := R6.below q7
  clear q7 b6 o6 oF6 R6 hwc
  obtain ⟨gF, cF', hvF, _, _⟩ := own_some oF7 (by have := HF.out; have := HB.out; omega)
  simp only [Value.slice.injEq] at hvF
  obtain ⟨rfl, hx0, rfl⟩ := hvF
  clear hx0
  obtain ⟨N, hN⟩ : ∃ N, N = 4 + F.length := ⟨_, rfl⟩
  have HN : Hid (N = 4 + F.length ∧ 7 ≤ N ∧ N ≤ 604) := ⟨hN, by have := HF.out; omega, by have := HF.out; omega⟩
  clear hN
  have q8 := bel_alloc wc (.cells #[] 5)
  have SJ8 : Hid (Sl (wc.alloc (.cells #[] 5)) (some ⟨w6.heap.size, 0, none⟩) [13, 10, 120, y']) := SJ.below q8
  have oL8 := own_lit0 wc wc.heap.size (Nat.le_refl _)
  have SF : Hid (Sl wc (some ⟨gF, 0, none⟩) F) := oF7.sl.2
  clear SJ
  go_wp2_with (first
    | (at_builtin; refine wpList_app rfl (.tmp 69) (.tmp 70) rfl wc.heap.size (.slice (some ⟨wc.heap.size, 0, none⟩) 0 0) [] rfl oL8 ⟨w6.heap.size, 0, none⟩ 4 4 [13, 10, 120, y'] rfl rfl SJ8.out (by simp) q8.size ?_; intro v1 w9 o9 g9; rw [List.nil_append] at o9; have q9 : Below wc.heap.size wc w9 := bel_grown q8 oL8 g9 (Nat.le_refl _) q8.size; obtain ⟨gq, cq, hv1, _, _⟩ := own_some o9 (by simp); have hv1' : v1 = .slice (some ⟨gq, 0, none⟩) 4 cq := hv1; clear hv1; subst hv1'; clear g9 oL8 q8 SJ8)
    | (at_builtin; refine wpList_app rfl (.tmp 71) (.tmp 72) rfl wc.heap.size (.slice (some ⟨gq, 0, none⟩) 4 cq) [13, 10, 120, y'] rfl o9 ⟨gF, 0, none⟩ nF cF F rfl HF.out.2.2.2.1 (SF.out.below q9) (by have := HF.out; simp; omega) q9.size ?_; intro v2 w10 o10 g10; have q10 : Below wc.heap.size wc w10 := bel_grown q9 o9 g10 (Nat.le_refl _) q9.size; obtain ⟨gA, cA, hvA, _, _⟩ := own_some o10 (by simp); rw [junk_len, ← HN.out.1] at hvA; subst hvA; clear g10 o9 q9))
  have q11 := bel_alloc w10 (.cells #[] 39)
  have D11 := bel_next (bel_next d7 q10) q11
  have R11 := (R7.below q10).below q11
  have A11 := (o10.monoT d7.size).below q11
  obtain ⟨w11, hw11⟩ : ∃ x, x = w10.alloc (.cells #[] 39) := ⟨_, rfl⟩
  obtain ⟨gT, hgT⟩ : ∃ x, x = w10.heap.size := ⟨_, rfl⟩
  have HW11 : Hid (w11 = _) := hw11
  have HGT : Hid (gT = w10.heap.size) := hgT
  rw [← hw11] at D11 R11 A11
  have HGA : Hid (w5.heap.size ≤ gA) := (World.ownsRow.lt A11 gA rfl).1
  have hgR5 : gR = w5.heap.size := HGR.out
  have HGR2 : Hid (w5.heap.size ≤ gR) := by show _ ≤ _; omega
  clear hw11 hgT q11 q10 o10 d7 R7 o7 oF7 b7 hgR5 SF
  rw [← HW11.out]
  simp only [← HGT.out]
  go_loopw [12, 13] (fun tv iv wr => ∃ (i : Nat) (aR : Option Addr) (lR cR : Nat) (tA : Option Addr) (tn tc : Nat), i ≤ N ∧ iv = .int .i64 i ∧ tv = .slice tA tn tc ∧ lR = (Zi F i).length ∧ Blk wr gR 31 #[.slice aR lR cR, .bool (Oi F i), .int .i64 (Li i), .int .i64 wt] ∧ Own wr w5.heap.size (.slice aR lR cR) (Zi F i) ∧ Own wr w5.heap.size (.slice (some ⟨gA, 0, none⟩) N cA) ([13, 10, 120, y'] ++ F) ∧ ((i < N ∧ tA = some ⟨gT, 0, none⟩ ∧ tn = 0 ∧ tc = 0) ∨ (i = N ∧ OneG wr w5.heap.size un bs tA tn)) ∧ Below w5.heap.size w5 wr) (fun _ i _ => N - (intOf i).toNat)
  case atStart =>
    have e0 := Zi_few (F := F) (i := 0) (by omega)
    refine ⟨0, none, 0, 0, some ⟨gT, 0, none⟩, 0, 0, Nat.zero_le _, rfl, rfl, by rw [e0.1]; rfl, ?_, ?_, A11, .inl ⟨by have := HN.out; omega, rfl, rfl, rfl⟩, D11⟩
    · rw [e0.2]; exact R11
    · rw [e0.1]; exact ⟨rfl, .inl ⟨rfl, rfl⟩⟩
  case round =>
    obtain ⟨i, aR, lR, cR, tA, tn, tc, hi, rfl, rfl, hlR, Rr, oR, Ar, hT, bw⟩ := hrel
    clear R11 A11 D11
    by_cases hlt : i < N
    · obtain ⟨rfl, rfl, rfl⟩ : tA = some ⟨gT, 0, none⟩ ∧ tn = 0 ∧ tc = 0 := by
        rcases hT with ⟨_, h⟩ | ⟨h, _⟩
        · exact h
        · omega
      clear hT
      have hE := fun a l c w => hear_i y' un wt F bs xs HF.out.1 HF.out.2.1 HF.out.2.2.1 HG.out HY.out.1 ⟨HWT.out.2.1, by have := HWT.out; omega⟩ i (by have := HN.out.1; omega) (([13, 10, 120, y'] ++ F).getD i 0) rfl a l c w
      have hOk := Zi_ok F (i + 1) 5 wt HF.out.2.2.1 (by rw [HF.out.1]; exact asL_get0 xs) (by omega) ⟨HWT.out.2.1, by have := HWT.out; omega⟩
      have hZl := Zi_len F (i + 1) HF.out.2.2.1
      rw [← HN.out.1] at hE
      obtain ⟨bA, oA, eA, hbA, hcA⟩ := cell_at Ar.sl.2 (k := i) (by rw [junk_len, ← HN.out.1]; exact hlt)
      simp only [Option.some.injEq, Addr.mk.injEq, and_true] at eA
      obtain ⟨rfl, rfl⟩ := eA
      rw [Nat.zero_add] at hcA
      have SR : Hid (Sl wr aR (Zi F i)) := oR.sl.2
      have HLR : Hid (lR = (Zi F i).length) := hlR
      generalize ([13, 10, 120, y'] ++ F).getD i 0 = by' at *
      generalize hOj : Oi F (i + 1) = opj at *
      generalize hZj : Zi F (i + 1) = Zj at *
      generalize Oi F i = op at *
      generalize Li i = ls at *
      have HE := hide hE
      have HOK : Hid (okAk Zj opj 5 wt = true ∧ Zj.length ≤ 600) := ⟨hOk, hZl⟩
      have HJ : Hid (Oi F (i + 1) = opj ∧ Zi F (i + 1) = Zj) := ⟨hOj, hZj⟩
      clear hE hOk hZl hOj hZj hlR
      have hji : (i : Int) < (N : Int) := by omega
      have hNb : (N : Int) ≤ 604 := by have := HN.out; omega
      obtain ⟨r0, r1, r2, r3⟩ := Rr.four
      go_wp2_with fail
      have HR : Hid (Blk wr gR 31 #[.slice aR lR cR, .bool op, .int .i64 ls, .int .i64 wt]) := Rr
      have HA : Hid (Own wr w5.heap.size (.slice (some ⟨gA, 0, none⟩) N cA) ([13, 10, 120, y'] ++ F)) := Ar
      have qd : Below wr.heap.size wr (wr.drew.alloc (.cells #[.slice none 0 0, .bool false, .int .i64 0, .int .i64 0] 31)) := bel_next (Below.refl _ _).drew (bel_alloc _ _)
      have qe : Below wr.heap.size wr (wr.alloc (.cells #[.slice none 0 0, .bool false, .int .i64 0, .int .i64 0] 31)) := bel_alloc _ _
      obtain ⟨s0, s1, s2, s3⟩ := (Rr.below qd).four
      obtain ⟨s5, s6, s7, s8⟩ := (Rr.below qe).four
      have hcA2 : (wr.drew.alloc (.cells #[.slice none 0 0, .bool false, .int .i64 0, .int .i64 0] 31)).cell? ⟨gA, i, none⟩ = some (.int .u8 by') := by rw [qd.cell (p := ⟨gA, i, none⟩) hbA]; exact hcA
      have hcA3 : (wr.alloc (.cells #[.slice none 0 0, .bool false, .int .i64 0, .int .i64 0] 31)).cell? ⟨gA, i, none⟩ = some (.int .u8 by') := by rw [qe.cell (p := ⟨gA, i, none⟩) hbA]; exact hcA
      have ltR : gR < wr.heap.size := Rr.lt
      have ne1 : ¬ gR = wr.heap.size := by omega
      have ne2 : ¬ gA = wr.heap.size := by omega
      go_cut [14, 15] (fun sN sG wc => ∃ (gN : Nat) (a' : Option Addr) (n' c' : Nat) (ga : Option Addr) (gn gc : Nat), sN = .pointer (some ⟨gN, 0, none⟩) ∧ sG = .slice ga gn gc ∧ n' = Zj.length ∧ wr.heap.size ≤ gN ∧ Blk wc gN 31 #[.slice a' n' c', .bool opj, .int .i64 5, .int .i64 wt] ∧ Own wc wr.heap.size (.slice a' n' c') Zj ∧ ((i + 1 < N ∧ gn = 0) ∨ (i + 1 = N ∧ OneG wc wr.heap.size un bs ga gn)) ∧ Below wr.heap.size wr wc)
      case first =>
        go_region_with (go_at_call 16; refine (unhide HE aR lR cR _ HLR.out (SR.out.below ?_)).mono ?_; (first | exact Below.refl _ _ | exact (Below.refl _ _).drew | exact (Below.refl _ _).drew.drew | exact bel_alloc _ _ | exact bel_next (Below.refl _ _).drew (bel_alloc _ _) | exact bel_next (Below.refl _ _).drew.drew (bel_alloc _ _)); rintro e w5' ⟨a', n', c', ga, gn, gc, rfl, hn', o5, hG5, b5'⟩; have Hn' : Hid (n' = Zj.length) := hn'; clear hn'; have b5 : Below wr.heap.size wr w5' := bel_next (by (first | exact Below.refl _ _ | exact (Below.refl _ _).drew | exact (Below.refl _ _).drew.drew | exact bel_alloc _ _ | exact bel_next (Below.refl _ _).drew (bel_alloc _ _) | exact bel_next (Below.refl _ _).drew.drew (bel_alloc _ _))) b5'; (first | (have N5 : Blk w5' wr.heap.size 31 #[.slice none 0 0, .bool false, .int .i64 0, .int .i64 0] := (Blk.new wr.drew #[.slice none 0 0, .bool false, .int .i64 0, .int .i64 0] 31).below b5'; obtain ⟨z0, z1, z2, z3⟩ := N5.four; have fz := N5.fro) | (have N5 : Blk w5' wr.heap.size 31 #[.slice none 0 0, .bool false, .int .i64 0, .int .i64 0] := (Blk.new wr #[.slice none 0 0, .bool false, .int .i64 0, .int .i64 0] 31).below b5'; obtain ⟨z0, z1, z2, z3⟩ := N5.four; have fz := N5.fro) | skip); have o5' : Own w5' wr.heap.size (.slice a' n' c') Zj := o5.monoT (by simp); have HG5 : Hid ((i + 1 < N ∧ gn = 0) ∨ (i + 1 = N ∧ OneG w5' wr.heap.size un bs ga gn)) := hG5.imp id (fun h => ⟨h.1, h.2.mono (by simp)⟩); clear b5' o5 hG5)
        all_goals (go_wp2_with fail; go_meet; first | exact ⟨wr.heap.size, a', n', c', ga, gn, gc, rfl, rfl, Hn'.out, Nat.le_refl _, st4_self N5 _ _ _ _, st4_own o5' ⟨_, N5⟩, HG5.out.imp id (fun h => ⟨h.1, h.2.st N5⟩), st4_bel b5 (Nat.le_refl _)⟩ | exact ⟨w5'.heap.size, a', n', c', ga, gn, gc, rfl, rfl, Hn'.out, b5.size, Blk.new w5' _ _, o5'.below (bel_alloc _ _), HG5.out.imp id (fun h => ⟨h.1, h.2.below (bel_alloc _ _)⟩), bel_next b5 (bel_alloc _ _)⟩)
      case rest =>
        obtain ⟨gN, a', n', c', ga, gn, gc, rfl, rfl, hn', hgN, N6, o6, hG6, b6⟩ := hcut
        have HN6 : Hid (n' = Zj.length ∧ wr.heap.size ≤ gN) := ⟨hn', hgN⟩
        have R6 := HR.out.below b6
        have A6 := HA.out.below b6
        have D6 := bel_next bw b6
        clear hn' hgN r0 r1 r2 r3 s0 s1 s2 s3 s5 s6 s7 s8 hcA hcA2 hcA3 qd qe Rr Ar ne1 ne2 oR
        obtain ⟨z0, z1, z2, z3⟩ := N6.four
        go_wp2_with fail
        refine (implAsciiOk_any a' n' c' opj 5 wt Zj _ HN6.out.1 o6.sl.2 (by have := HN6.out.1; have := HOK.out.2; omega) true HOK.out.1).mono ?_
        rintro e w7 ⟨rfl, b'⟩
        have N7 := N6.below b'
        have R7 := R6.below b'
        have A7 := A6.below b'
        have o7 := o6.below b'
        have D7 := bel_next D6 b'
        have hG7 : Hid ((i + 1 < N ∧ gn = 0) ∨ (i + 1 = N ∧ OneG w7 wr.heap.size un bs ga gn)) := hG6.imp id (fun h => ⟨h.1, h.2.below b'⟩)
        have bwz : Hid (w5.heap.size ≤ wr.heap.size) := bw.size
        clear b' z0 z1 z2 z3 N6 R6 A6 o6 D6 b6 hG6
        obtain ⟨z0, z1, z2, z3⟩ := N7.four
        obtain ⟨t0, t1, t2, t3⟩ := R7.four
        have ft := R7.fro
        go_upto_region 21 with fail
        have R8 : Blk ((((w7.setCell ⟨gR, 0, none⟩ (.slice a' n' c')).setCell ⟨gR, 1, none⟩ (.bool opj)).setCell ⟨gR, 2, none⟩ (.int .i64 5)).setCell ⟨gR, 3, none⟩ (.int .i64 wt)) gR 31 #[.slice a' n' c', .bool opj, .int .i64 5, .int .i64 wt] := st4_self R7 _ _ _ _
        have A8 : Own ((((w7.setCell ⟨gR, 0, none⟩ (.slice a' n' c')).setCell ⟨gR, 1, none⟩ (.bool opj)).setCell ⟨gR, 2, none⟩ (.int .i64 5)).setCell ⟨gR, 3, none⟩ (.int .i64 wt)) w5.heap.size (.slice (some ⟨gA, 0, none⟩) N cA) ([13, 10, 120, y'] ++ F) := st4_own A7 ⟨_, R7⟩
        have o8 : Own ((((w7.setCell ⟨gR, 0, none⟩ (.slice a' n' c')).setCell ⟨gR, 1, none⟩ (.bool opj)).setCell ⟨gR, 2, none⟩ (.int .i64 5)).setCell ⟨gR, 3, none⟩ (.int .i64 wt)) w5.heap.size (.slice a' n' c') Zj := st4_own (o7.monoT bwz.out) ⟨_, R7⟩
        have D8 : Below w5.heap.size w5 ((((w7.setCell ⟨gR, 0, none⟩ (.slice a' n' c')).setCell ⟨gR, 1, none⟩ (.bool opj)).setCell ⟨gR, 2, none⟩ (.int .i64 5)).setCell ⟨gR, 3, none⟩ (.int .i64 wt)) := st4_bel D7 HGR2.out
        have hG8 : Hid ((i + 1 < N ∧ gn = 0) ∨ (i + 1 = N ∧ OneG ((((w7.setCell ⟨gR, 0, none⟩ (.slice a' n' c')).setCell ⟨gR, 1, none⟩ (.bool opj)).setCell ⟨gR, 2, none⟩ (.int .i64 5)).setCell ⟨gR, 3, none⟩ (.int .i64 wt)) w5.heap.size un bs ga gn)) := hG7.out.imp id (fun h => ⟨h.1, (h.2.mono bwz.out).st R7⟩)
        generalize (((w7.setCell ⟨gR, 0, none⟩ (.slice a' n' c')).setCell ⟨gR, 1, none⟩ (.bool opj)).setCell ⟨gR, 2, none⟩ (.int .i64 5)).setCell ⟨gR, 3, none⟩ (.int .i64 wt) = w8 at *
        clear N7 R7 A7 o7 D7 hG7 z0 z1 z2 z3 t0 t1 t2 t3 ft
        obtain ⟨tA', tn', tc', w9, hap, hT9, q9⟩ := told_next gT i N un bs ga gn gc w8 w5.heap.size D8.size hG8.out
        have R9 := R8.below q9
        have A9 := A8.below q9
        have o9 := o8.below q9
        have D9 := bel_next D8 q9
        have HT9 := hide hT9
        clear R8 A8 o8 D8 hG8 q9 hT9
        go_wp2_with (at_builtin; refine wpList_appG rfl (.tmp 94) (.tmp 95) rfl (.slice (some ⟨gT, 0, none⟩) 0 0) (.slice ga gn gc) (.slice tA' tn' tc') rfl rfl hap ?_)
        go_roundw
        case rel =>
          refine ⟨i + 1, a', n', c', tA', tn', tc', by omega, by go_num, rfl, by rw [HJ.out.2]; exact HN6.out.1, ?_, ?_, A9, HT9.out, D9⟩
          · rw [HJ.out.1, Li_succ]; exact R9
          · rw [HJ.out.2]; exact o9
        case measure => simp [intOf]; omega
    · obtain rfl : i = N := by omega
      have hOne : OneG wr w5.heap.size un bs tA tn := by
        rcases hT with ⟨h, _⟩ | ⟨_, h⟩
        · omega
        · exact h
      obtain ⟨g, qa, qn, qc, rs, rfl, rfl, hB, hqn, oq⟩ := hOne
      have e0 := Zi_end (F := F) HN.out.1
      rw [e0.2] at Rr
      obtain ⟨r0, r1, r2, r3⟩ := Rr.four
      obtain ⟨g0, g1, g2⟩ := gcs_three hB
      have HQ : Hid (qn = bs.length) := hqn
      have bfin : Below w.heap.size w wr := bel_next HB5.out bw
      have SP : Hid (Sl wr ad bs) := (HO5.out.below bw).sl.2
      clear hT hqn hB oR Ar e0
      go_wp2_with fail
      refine (sameBytes_true qa ad qn m qc c bs _ HQ.out HB.out.1 oq.sl.2 SP.out (by have := HB.out; omega)).mono ?_
      rintro e w12 ⟨rfl, nd, e12⟩
      have d12 : Below wr.heap.size wr w12 := by rw [e12]; exact drew_refl _ _
      have b12 := bel_next bfin d12
      have R12 := Rr.below d12
      clear e12 d12 r0 r1 r2 r3 g0 g1 g2 Rr bfin
      obtain ⟨r0, r1, r2, r3⟩ := R12.four
      go_wp2
      go_ret
      exact ⟨rfl, b12⟩

end Go.Proofs.Ytmcednhinafpeaa
