/- RtuWait of the model, where a frame ends. -/
import Derived.Test.YtonikfajopdagaaDoorRtu7
namespace Go.Proofs.YtonikfajopdagaaDoor
open Go.RowKit

set_option linter.unusedVariables false

set_option linter.unusedSimpArgs false

set_option maxRecDepth 20000 in
set_option maxHeartbeats 8000000 in
theorem specRtuWait_yes (a : Option Addr) (l c : Nat) (ls : Int) (bd : Bool) (hf wh tk : Int) (zs : List Int) (w : World) (hn : l = zs.length) (hs : Sl w a zs) (hl : zs.length ≤ 2000000) (hlc : l ≤ c) (hr : ∀ z ∈ zs, 0 ≤ z ∧ z ≤ 255) (hE : wtE l ls bd hf wh tk = true) :
    Calls Tryd.prog 35 #[rt a l c ls bd hf wh, .int .i64 tk] w fun e w' => WS w w' e [] ls false hf wh (some (gotOf bd zs)) := by
  have HN : Hid (l = zs.length ∧ l ≤ 2000000 ∧ zs.length ≤ 2000000) := by show _ ∧ _; omega
  obtain ⟨W0, hW0'⟩ : ∃ W0, W0 = (w.alloc (.cells #[.slice a l c, .int .i64 ls, .bool bd, .int .i64 hf, .int .i64 wh] 33)).alloc (.cells #[.slice none 0 0, .int .i64 0, .bool false, .int .i64 0, .int .i64 0] 33) := ⟨_, rfl⟩
  have hW0 : Hid (W0 = _) := hW0'
  have hz : W0.heap.size = w.heap.size + 1 + 1 := by rw [hW0']; simp
  have B0 : Below w.heap.size w W0 := by rw [hW0']; exact bel_next (bel_alloc w _) (bel_alloc _ _)
  have X0 : Blk W0 w.heap.size 33 #[.slice a l c, .int .i64 ls, .bool bd, .int .i64 hf, .int .i64 wh] := by rw [hW0']; exact ((Blk.new w _ _).below (bel_alloc _ _))
  have R0 : Blk W0 (w.heap.size + 1) 33 #[.slice none 0 0, .int .i64 0, .bool false, .int .i64 0, .int .i64 0] := by rw [hW0']; have := (Blk.new (w.alloc (.cells #[.slice a l c, .int .i64 ls, .bool bd, .int .i64 hf, .int .i64 wh] 33)) #[.slice none 0 0, .int .i64 0, .bool false, .int .i64 0, .int .i64 0] 33); simpa using this
  have S1 : Hid (Sl W0 a zs) := hs.below B0
  clear hn hs hW0' hl
  obtain ⟨hh0, he⟩ := wtE_parts hE
  have hh : okT l ls bd hf wh = true := by simp only [Bool.and_eq_true] at hh0; exact hh0.1
  have ht : tkB tk = true := by simp only [Bool.and_eq_true] at hh0; exact hh0.2
  simp only [Bool.and_eq_true, decide_eq_true_eq] at he
  have hg : decide (gap ls tk < wh) = false := decide_eq_false (by omega)
  have h0b : ((l : Int) == 0) = false := by simp; omega
  have hP : 0 ≤ ls ∧ ls ≤ 4294967295 ∧ 0 ≤ tk ∧ tk ≤ 4294967295 := by
    have q1 := (okT_parts hh).1
    have q2 := tkB_parts ht
    omega
  have HP : Hid (0 ≤ ls ∧ ls ≤ 4294967295 ∧ 0 ≤ tk ∧ tk ≤ 4294967295) := hP
  have HR : Hid (∀ z ∈ zs, 0 ≤ z ∧ z ≤ 255) := hr
  have HLC : Hid (l ≤ c) := hlc
  clear hP he hh0 hE hr hlc
  go_enter Tryd.func35, Tryd.ntmps35
  go_wp2_with fail
  rw [← hW0.out]
  refine (l6Copy_any a l c ls bd hf wh zs _ HN.out.1 S1.out HN.out.2.2).mono ?_
  rintro e w1 ⟨a', c', n', rfl, hn', o1', b'⟩
  have b1 := bel_next B0 b'
  have X1 := X0.below b'
  have R1 := R0.below b'
  have S2 : Hid (Sl w1 a zs) := S1.out.below b'
  have o1 := o1'.monoT (by omega : w.heap.size ≤ W0.heap.size)
  have HN' : Hid (n' = zs.length) := hn'
  have N2 := Blk.new w1 #[.slice a' n' c', .int .i64 ls, .bool bd, .int .i64 hf, .int .i64 wh] 33
  have hb1 := R1.lt
  obtain ⟨w2, hw2⟩ : ∃ w2, w2 = w1.alloc (.cells #[.slice a' n' c', .int .i64 ls, .bool bd, .int .i64 hf, .int .i64 wh] 33) := ⟨_, rfl⟩
  obtain ⟨gN, hgN⟩ : ∃ gN, gN = w1.heap.size := ⟨_, rfl⟩
  have b'' := bel_alloc w1 (.cells #[.slice a' n' c', .int .i64 ls, .bool bd, .int .i64 hf, .int .i64 wh] 33)
  have HW2 : Hid (w2 = _) := hw2
  have HGN : Hid (gN = w1.heap.size) := hgN
  rw [← hw2] at b'' N2
  rw [← hgN] at N2 hb1
  have b2 := bel_next b1 b''
  have X2 := X1.below b''
  have R2 := R1.below b''
  have S3 : Hid (Sl w2 a zs) := S2.out.below b''
  have o2 := o1.below b''
  have hwN : w.heap.size ≤ gN := by omega
  clear b' b'' b1 X0 X1 R0 R1 o1 o1' S1 S2 hn' hw2 hgN B0
  obtain ⟨x0, x1, x2, x3, x4⟩ := X2.five
  go_wp2_with fail
  simp only [← HGN.out]
  rw [← HW2.out]
  go_cut [32] (fun sX wx => sX = .bool false ∧ Below w2.heap.size w2 wx)
  case first =>
    refine wp_region_any (by kernel_rfl) ?_
    (try (change wpAny _ _ _ _ _ _ _ (World.drew _)))
    refine wpAny_ready (rs := [0]) (by kernel_rfl) (by simp) ?_
    refine AllReady.cons rfl (fun K hK => ?_) AllReady.nil
    go_simp
    refine hK _ _ ?_
    clear hK K
    refine wpAny_ready (rs := [1]) (by kernel_rfl) (by simp) ?_
    refine AllReady.cons rfl (fun K hK => ?_) AllReady.nil
    go_simp
    go_wp2_with (go_at_call 53; refine (specRtuOk_any a l c ls bd hf wh _ HN.out.2.1 _ hh).mono ?_; rintro e w3 ⟨rfl, b'⟩; have B3 : Below w2.heap.size w2 w3 := bel_next (by first | exact Below.refl _ _ | exact (Below.refl _ _).drew | exact (Below.refl _ _).drew.drew) b'; obtain ⟨y0, y1, y2, y3, y4⟩ := (X2.below B3).five; clear b')
    try (refine hK _ _ ?_; clear hK K)
    refine wpAny_ready (rs := [2]) (by kernel_rfl) (by simp) ?_
    refine AllReady.cons rfl (fun K hK => ?_) AllReady.nil
    go_simp
    refine hK _ _ ?_
    clear hK K
    refine wpAny_ready (rs := [3]) (by kernel_rfl) (by simp) ?_
    refine AllReady.cons rfl (fun K hK => ?_) AllReady.nil
    go_simp
    refine hK _ _ ?_
    clear hK K
    refine wpAny_ready (rs := [4]) (by kernel_rfl) (by simp) ?_
    refine AllReady.cons rfl (fun K hK => ?_) AllReady.nil
    go_simp
    refine hK _ _ ?_
    clear hK K
    refine wpAny_ready (rs := [5]) (by kernel_rfl) (by simp) ?_
    refine AllReady.cons rfl (fun K hK => ?_) AllReady.nil
    go_simp
    go_wp2_with (go_at_call 54; refine (specTick_b tk _ _ ht).mono ?_; rintro e w4 ⟨rfl, e4⟩; subst e4)
    try (refine hK _ _ ?_; clear hK K)
    refine wpAny_ready (rs := [6]) (by kernel_rfl) (by simp) ?_
    refine AllReady.cons rfl (fun K hK => ?_) AllReady.nil
    go_simp
    refine hK _ _ ?_
    clear hK K
    refine wpAny_ready (rs := [7]) (by kernel_rfl) (by simp) ?_
    refine AllReady.cons rfl (fun K hK => ?_) AllReady.nil
    go_simp
    refine hK _ _ ?_
    clear hK K
    refine wpAny_ready (rs := [8]) (by kernel_rfl) (by simp) ?_
    refine AllReady.cons rfl (fun K hK => ?_) AllReady.nil
    go_simp
    refine hK _ _ ?_
    clear hK K
    refine wpAny_ready (rs := [9]) (by kernel_rfl) (by simp) ?_
    refine AllReady.cons rfl (fun K hK => ?_) AllReady.nil
    go_simp
    refine hK _ _ ?_
    clear hK K
    refine wpAny_ready (rs := [10]) (by kernel_rfl) (by simp) ?_
    refine AllReady.cons rfl (fun K hK => ?_) AllReady.nil
    go_simp
    refine hK _ _ ?_
    clear hK K
    refine wpAny_ready (rs := [11]) (by kernel_rfl) (by simp) ?_
    refine AllReady.cons rfl (fun K hK => ?_) AllReady.nil
    go_simp
    refine hK _ _ ?_
    clear hK K
    refine wpAny_ready (rs := [12]) (by kernel_rfl) (by simp) ?_
    refine AllReady.cons rfl (fun K hK => ?_) AllReady.nil
    go_simp
    refine hK _ _ ?_
    clear hK K
    refine wpAny_ready (rs := [13]) (by kernel_rfl) (by simp) ?_
    refine AllReady.cons rfl (fun K hK => ?_) AllReady.nil
    go_simp
    refine hK _ _ ?_
    clear hK K
    refine wpAny_ready (rs := [14]) (by kernel_rfl) (by simp) ?_
    refine AllReady.cons rfl (fun K hK => ?_) AllReady.nil
    go_simp
    refine hK _ _ ?_
    clear hK K
    refine wpAny_take (i := 15) (v := ?v15) rfl (by kernel_rfl) (by kernel_rfl) (by kernel_rfl) (fun _ _ _ h => h) (Or.inl ⟨by rfl, ?h15⟩) ?_
    case h15 => intro w; go_simp; try (with_reducible rfl)
    refine wpAny_take (i := 17) (v := ?v17) rfl (by kernel_rfl) (by kernel_rfl) (by kernel_rfl) (fun _ _ _ h => h) (Or.inl ⟨by rfl, ?h17⟩) ?_
    case h17 => intro w; go_simp; try (with_reducible rfl)
    refine wpAny_take (i := 19) (v := ?v19) rfl (by kernel_rfl) (by kernel_rfl) (by kernel_rfl) (fun _ _ _ h => h) (Or.inl ⟨by rfl, ?h19⟩) ?_
    case h19 => intro w; go_simp; try (with_reducible rfl)
    refine wpAny_ready (rs := [16, 20]) (by kernel_rfl) (by simp) ?_
    refine AllReady.cons rfl (fun K hK => ?_) ?_
    · skip
      go_simp
      refine hK _ _ ?_
      clear hK K
      refine wpAny_ready (rs := [18, 20]) (by kernel_rfl) (by simp) ?_
      refine AllReady.cons rfl (fun K hK => ?_) ?_
      · skip
        go_simp
        go_wp2_with (go_at_call 56; refine (specGap_ok ls tk _ HP.out.1 HP.out.2.1 HP.out.2.2.1 HP.out.2.2.2).mono ?_; rintro e w5 ⟨rfl, e5⟩; subst e5)
        try (refine hK _ _ ?_; clear hK K)
        refine wpAny_ready (rs := [20]) (by kernel_rfl) (by simp) ?_
        refine AllReady.cons rfl (fun K hK => ?_) AllReady.nil
        go_simp
        refine hK _ _ ?_
        clear hK K
        refine wpAny_ready (rs := [21]) (by kernel_rfl) (by simp) ?_
        refine AllReady.cons rfl (fun K hK => ?_) AllReady.nil
        go_simp
        refine hK _ _ ?_
        clear hK K
        refine wpAny_ready (rs := [22]) (by kernel_rfl) (by simp) ?_
        refine AllReady.cons rfl (fun K hK => ?_) AllReady.nil
        go_simp
        refine hK _ _ ?_
        clear hK K
        refine wpAny_done (by kernel_rfl) ?_ _
        (go_wp2_with fail; go_meet; exact ⟨by first | rfl | rw [hg], by first | exact B3 | exact B3.drew | exact B3.drew.drew⟩)
      refine AllReady.cons rfl (fun K hK => ?_) AllReady.nil
      go_simp
      refine hK _ _ ?_
      clear hK K
      refine wpAny_ready (rs := [18]) (by kernel_rfl) (by simp) ?_
      refine AllReady.cons rfl (fun K hK => ?_) AllReady.nil
      go_simp
      go_wp2_with (go_at_call 56; refine (specGap_ok ls tk _ HP.out.1 HP.out.2.1 HP.out.2.2.1 HP.out.2.2.2).mono ?_; rintro e w5 ⟨rfl, e5⟩; subst e5)
      try (refine hK _ _ ?_; clear hK K)
      refine wpAny_ready (rs := [21]) (by kernel_rfl) (by simp) ?_
      refine AllReady.cons rfl (fun K hK => ?_) AllReady.nil
      go_simp
      refine hK _ _ ?_
      clear hK K
      refine wpAny_ready (rs := [22]) (by kernel_rfl) (by simp) ?_
      refine AllReady.cons rfl (fun K hK => ?_) AllReady.nil
      go_simp
      refine hK _ _ ?_
      clear hK K
      refine wpAny_done (by kernel_rfl) ?_ _
      (go_wp2_with fail; go_meet; exact ⟨by first | rfl | rw [hg], by first | exact B3 | exact B3.drew | exact B3.drew.drew⟩)
    refine AllReady.cons rfl (fun K hK => ?_) AllReady.nil
    go_simp
    refine hK _ _ ?_
    clear hK K
    refine wpAny_ready (rs := [16]) (by kernel_rfl) (by simp) ?_
    refine AllReady.cons rfl (fun K hK => ?_) AllReady.nil
    go_simp
    refine hK _ _ ?_
    clear hK K
    refine wpAny_ready (rs := [18]) (by kernel_rfl) (by simp) ?_
    refine AllReady.cons rfl (fun K hK => ?_) AllReady.nil
    go_simp
    go_wp2_with (go_at_call 56; refine (specGap_ok ls tk _ HP.out.1 HP.out.2.1 HP.out.2.2.1 HP.out.2.2.2).mono ?_; rintro e w5 ⟨rfl, e5⟩; subst e5)
    try (refine hK _ _ ?_; clear hK K)
    refine wpAny_ready (rs := [21]) (by kernel_rfl) (by simp) ?_
    refine AllReady.cons rfl (fun K hK => ?_) AllReady.nil
    go_simp
    refine hK _ _ ?_
    clear hK K
    refine wpAny_ready (rs := [22]) (by kernel_rfl) (by simp) ?_
    refine AllReady.cons rfl (fun K hK => ?_) AllReady.nil
    go_simp
    refine hK _ _ ?_
    clear hK K
    refine wpAny_done (by kernel_rfl) ?_ _
    (go_wp2_with fail; go_meet; exact ⟨by first | rfl | rw [hg], by first | exact B3 | exact B3.drew | exact B3.drew.drew⟩)
  case rest =>
  obtain ⟨rfl, b'⟩ := hcut
  have b3 := bel_next b2 b'
  have X3 := X2.below b'
  have R3 := R2.below b'
  have N3 := N2.below b'
  have S4 : Hid (Sl _ a zs) := S3.out.below b'
  have o3 := o2.below b'
  clear b' b2 X2 R2 N2 o2 S3 x0 x1 x2 x3 x4
  obtain ⟨x0, x1, x2, x3, x4⟩ := X3.five
  obtain ⟨r0, r1, r2, r3, r4⟩ := R3.five
  obtain ⟨m0, m1, m2, m3, m4⟩ := N3.five
  have fr := R3.fro
  clear hh ht hg h0b HP
  have q := bel_alloc wc (.cells #[.int .i64 5, .int .i64 0, .slice none 0 0] 42)
  have T4 := Blk.new wc #[.int .i64 5, .int .i64 0, .slice none 0 0] 42
  obtain ⟨w4, hw4⟩ : ∃ w4, w4 = wc.alloc (.cells #[.int .i64 5, .int .i64 0, .slice none 0 0] 42) := ⟨_, rfl⟩
  obtain ⟨gT, hgT⟩ : ∃ gT, gT = wc.heap.size := ⟨_, rfl⟩
  have HW4 : Hid (w4 = _) := hw4
  have HGT : Hid (gT = wc.heap.size) := hgT
  have hNT : gN < gT := by have := N3.lt; omega
  have X4' := X3.below q
  obtain ⟨x0', x1', x2', x3', x4'⟩ := X4'.five
  rw [← hw4] at q T4 X4'
  rw [← hgT] at T4
  have b4 := bel_next b3 q
  have R4 := R3.below q
  have N4 := N3.below q
  have S5 : Hid (Sl w4 a zs) := S4.out.below q
  have o4 := o3.below q
  have X4 := X4'
  clear hw4 hgT q X4' X3 R3 N3 S4 o3 b3 x0 x1 x2 x3 x4 r0 r1 r2 r3 r4 m0 m1 m2 m3 m4 fr
  cases bd
  · go_wp2_with fail
    simp only [← HGT.out]
    rw [← HW4.out]
    clear x0' x1' x2' x3' x4'
    refine (specGetRtu_any a l c zs _ HN.out.1 HLC.out S5.out HR.out HN.out.2.2).mono ?_
    rintro e w5 h'
    obtain ⟨U, hU⟩ : ∃ U, U = gtU zs := ⟨_, rfl⟩
    obtain ⟨P, hP⟩ : ∃ P, P = gtP zs := ⟨_, rfl⟩
    obtain ⟨C, hC⟩ : ∃ C, C = gtC zs := ⟨_, rfl⟩
    have HG : Hid (gotOf false zs = (C, U, P)) := by show _ = _; rw [hC, hU, hP]; rfl
    have HPL : Hid (P.length ≤ 300) := by show P.length ≤ 300; rw [hP]; exact gtP_le zs
    rw [← hU, ← hP, ← hC] at h'
    clear hU hP hC
    obtain ⟨pa, pc, pn, rfl, hpn, o5', b'⟩ := h'
    have HPN : Hid (pn = P.length) := hpn
    have o5 := o5'.monoT (b4.size)
    have b5 := bel_next b4 b'
    have X5 := X4.below b'
    have R5 := R4.below b'
    have N5 := N4.below b'
    have T5 := T4.below b'
    obtain ⟨r0, r1, r2, r3, r4⟩ := R5.five
    obtain ⟨m0, m1, m2, m3, m4⟩ := N5.five
    obtain ⟨t0, t1, t2⟩ := T5.three
    have fr := R5.fro
    have fn := N5.fro
    have ft := T5.fro
    have d1 : ¬ gT = gN := by omega
    have d2 : ¬ gN = gT := by omega
    have d3 : ¬ gN = w.heap.size + 1 := by omega
    have d4 : ¬ w.heap.size + 1 = gN := by omega
    have d5 : ¬ gT = w.heap.size + 1 := by omega
    have d6 : ¬ w.heap.size + 1 = gT := by omega
    have d7 : gN < w5.heap.size := N5.lt
    have d8 : gT < w5.heap.size := T5.lt
    have d9 : w.heap.size + 1 < w5.heap.size := R5.lt
    clear hpn o5' b' o4 b4 X4 R4 N4 T4 S5 X5

    have hzL : (((((w5.setCell ⟨gT, 1, none⟩ (.int .i64 U)).setCell ⟨gT, 2, none⟩ (.slice pa pn pc)).setCell ⟨gT, 0, none⟩ (.int .i64 C)).setCell ⟨gN, 0, none⟩ (.slice (some ⟨w5.heap.size, 0, none⟩) 0 0)).setCell ⟨gN, 2, none⟩ (.bool false)).heap.size = w5.heap.size := by simp [World.setCell]
    have T6 : Blk (((((w5.setCell ⟨gT, 1, none⟩ (.int .i64 U)).setCell ⟨gT, 2, none⟩ (.slice pa pn pc)).setCell ⟨gT, 0, none⟩ (.int .i64 C)).setCell ⟨gN, 0, none⟩ (.slice (some ⟨w5.heap.size, 0, none⟩) 0 0)).setCell ⟨gN, 2, none⟩ (.bool false)) gT 42 #[.int .i64 C, .int .i64 U, .slice pa pn pc] := by have := (((((T5.set 1 (.int .i64 U)).set 2 (.slice pa pn pc)).set 0 (.int .i64 C)).setNe (g' := gN) (j := 0) (y := .slice (some ⟨w5.heap.size, 0, none⟩) 0 0) d1).setNe (g' := gN) (j := 2) (y := .bool false) d1); simpa using this
    have N6 : Blk (((((w5.setCell ⟨gT, 1, none⟩ (.int .i64 U)).setCell ⟨gT, 2, none⟩ (.slice pa pn pc)).setCell ⟨gT, 0, none⟩ (.int .i64 C)).setCell ⟨gN, 0, none⟩ (.slice (some ⟨w5.heap.size, 0, none⟩) 0 0)).setCell ⟨gN, 2, none⟩ (.bool false)) gN 33 #[.slice (some ⟨w5.heap.size, 0, none⟩) 0 0, .int .i64 ls, .bool false, .int .i64 hf, .int .i64 wh] := by have := (((((N5.setNe (g' := gT) (j := 1) (y := .int .i64 U) d2).setNe (g' := gT) (j := 2) (y := .slice pa pn pc) d2).setNe (g' := gT) (j := 0) (y := .int .i64 C) d2).set 0 (.slice (some ⟨w5.heap.size, 0, none⟩) 0 0)).set 2 (.bool false)); simpa using this
    have R6 : Blk (((((w5.setCell ⟨gT, 1, none⟩ (.int .i64 U)).setCell ⟨gT, 2, none⟩ (.slice pa pn pc)).setCell ⟨gT, 0, none⟩ (.int .i64 C)).setCell ⟨gN, 0, none⟩ (.slice (some ⟨w5.heap.size, 0, none⟩) 0 0)).setCell ⟨gN, 2, none⟩ (.bool false)) (w.heap.size + 1) 33 #[.slice none 0 0, .int .i64 0, .bool false, .int .i64 0, .int .i64 0] := (((((R5.setNe (g' := gT) (j := 1) (y := .int .i64 U) d6).setNe (g' := gT) (j := 2) (y := .slice pa pn pc) d6).setNe (g' := gT) (j := 0) (y := .int .i64 C) d6).setNe (g' := gN) (j := 0) (y := .slice (some ⟨w5.heap.size, 0, none⟩) 0 0) d4).setNe (g' := gN) (j := 2) (y := .bool false) d4)
    have o6 : Own (((((w5.setCell ⟨gT, 1, none⟩ (.int .i64 U)).setCell ⟨gT, 2, none⟩ (.slice pa pn pc)).setCell ⟨gT, 0, none⟩ (.int .i64 C)).setCell ⟨gN, 0, none⟩ (.slice (some ⟨w5.heap.size, 0, none⟩) 0 0)).setCell ⟨gN, 2, none⟩ (.bool false)) w.heap.size (.slice pa pn pc) P := (row_setE (row_setE (row_setE (row_setE (row_setE o5 (⟨_, T5⟩ : ExB w5 gT 42) (by decide)) (ExB.set (⟨_, T5⟩ : ExB w5 gT 42)) (by decide)) (ExB.set (ExB.set (⟨_, T5⟩ : ExB w5 gT 42))) (by decide)) (ExB.set (ExB.set (ExB.set (⟨_, N5⟩ : ExB w5 gN 33)))) (by decide)) (ExB.set (ExB.set (ExB.set (ExB.set (⟨_, N5⟩ : ExB w5 gN 33))))) (by decide))
    have b6 : Below w.heap.size w (((((w5.setCell ⟨gT, 1, none⟩ (.int .i64 U)).setCell ⟨gT, 2, none⟩ (.slice pa pn pc)).setCell ⟨gT, 0, none⟩ (.int .i64 C)).setCell ⟨gN, 0, none⟩ (.slice (some ⟨w5.heap.size, 0, none⟩) 0 0)).setCell ⟨gN, 2, none⟩ (.bool false)) := (((((b5.setCell (p := ⟨gT, 1, none⟩) (by show w.heap.size ≤ gT; omega) (.int .i64 U)).setCell (p := ⟨gT, 2, none⟩) (by show w.heap.size ≤ gT; omega) (.slice pa pn pc)).setCell (p := ⟨gT, 0, none⟩) (by show w.heap.size ≤ gT; omega) (.int .i64 C)).setCell (p := ⟨gN, 0, none⟩) hwN (.slice (some ⟨w5.heap.size, 0, none⟩) 0 0)).setCell (p := ⟨gN, 2, none⟩) hwN (.bool false))
    obtain ⟨V, hV⟩ : ∃ V, V = (((((w5.setCell ⟨gT, 1, none⟩ (.int .i64 U)).setCell ⟨gT, 2, none⟩ (.slice pa pn pc)).setCell ⟨gT, 0, none⟩ (.int .i64 C)).setCell ⟨gN, 0, none⟩ (.slice (some ⟨w5.heap.size, 0, none⟩) 0 0)).setCell ⟨gN, 2, none⟩ (.bool false)) := ⟨_, rfl⟩
    have HV : Hid (V = _) := hV
    rw [← hV] at hzL T6 N6 R6 o6 b6
    have qL := bel_alloc V (.cells #[] 5)
    have oL := own_lit0 V V.heap.size (Nat.le_refl _)
    have hdf : ∀ j, (Value.slice pa pn pc).ownBlock = some j → j < V.heap.size := fun j hj => (World.ownsRow.lt o6 j hj).2
    have hBL : w.heap.size ≤ V.heap.size := b6.size
    rw [hzL] at oL hdf hBL
    obtain ⟨gL, hgL⟩ : ∃ gL, gL = w5.heap.size := ⟨_, rfl⟩
    have HGL : Hid (gL = w5.heap.size) := hgL
    rw [← hgL] at oL hdf N6 hzL hBL
    obtain ⟨w6, hw6⟩ : ∃ w6, w6 = V.alloc (.cells #[] 5) := ⟨_, rfl⟩
    have HW6 : Hid (w6 = _) := hw6
    rw [← hw6] at qL oL
    have b7 := bel_next b6 qL
    have T7 := T6.below qL
    have N7 := N6.below qL
    have R7 := R6.below qL
    have o7 := o6.below qL
    have hT7 := T7.lt
    have hN7 := N7.lt
    have hR7 := R7.lt
    clear hV hw6 hgL qL b6 T6 N6 R6 o6 b5 T5 N5 R5 o5 hzL
    go_upto_region 9 with fail
    rw [← HV.out]
    rw [← HW6.out]
    try simp only [← HGL.out]
    obtain ⟨s0, s1, s2, s3, s4⟩ := R7.five
    obtain ⟨m0, m1, m2, m3, m4⟩ := N7.five
    obtain ⟨t0, t1, t2⟩ := T7.three
    have fs := R7.fro
    have RA := R7.below (bel_alloc w6 (.cells #[.int .i64 C, .int .i64 U, .slice pa pn pc] 42))
    obtain ⟨k0, k1, k2, k3, k4⟩ := RA.five
    have fk := RA.fro
    have e5 : ¬ w.heap.size + 1 = w6.heap.size := by omega
    have e6 : ¬ w6.heap.size = w.heap.size + 1 := by omega
    go_region
    · go_wp2
      have Z := (st5_self R7 (.slice (some ⟨gL, 0, none⟩) 0 0) (.int .i64 ls) (.bool false) (.int .i64 hf) (.int .i64 wh))
      have hsz := st5_size w6 (w.heap.size + 1) (.slice (some ⟨gL, 0, none⟩) 0 0) (.int .i64 ls) (.bool false) (.int .i64 hf) (.int .i64 wh)
      have oZ := st5_own (v0 := .slice (some ⟨gL, 0, none⟩) 0 0) (v1 := .int .i64 ls) (v2 := .bool false) (v3 := .int .i64 hf) (v4 := .int .i64 wh) o7 ⟨_, R7⟩
      have lZ := st5_own (v0 := .slice (some ⟨gL, 0, none⟩) 0 0) (v1 := .int .i64 ls) (v2 := .bool false) (v3 := .int .i64 hf) (v4 := .int .i64 wh) (oL) ⟨_, R7⟩
      have bZ := st5_bel (v0 := .slice (some ⟨gL, 0, none⟩) 0 0) (v1 := .int .i64 ls) (v2 := .bool false) (v3 := .int .i64 hf) (v4 := .int .i64 wh) b7 (show w.heap.size ≤ w.heap.size + 1 by omega)
      have qb := (bel_alloc (st5 w6 (w.heap.size + 1) (.slice (some ⟨gL, 0, none⟩) 0 0) (.int .i64 ls) (.bool false) (.int .i64 hf) (.int .i64 wh)) (.cells #[.int .i64 C, .int .i64 U, .slice pa pn pc] 42)).drew
      have gZ := (Blk.new (st5 w6 (w.heap.size + 1) (.slice (some ⟨gL, 0, none⟩) 0 0) (.int .i64 ls) (.bool false) (.int .i64 hf) (.int .i64 wh)) #[.int .i64 C, .int .i64 U, .slice pa pn pc] 42).below (Below.refl _ _).drew
      rw [hsz] at gZ
      obtain ⟨z0, z1, z2, z3, z4⟩ := (Z.below qb).five
      refine bodyPost_ret (v := .tuple #[rt (some ⟨gL, 0, none⟩) 0 0 ls false hf wh, .slice (some ⟨w6.heap.size, 0, none⟩) 1 1]) (by simp only [results, Tryd.results35]; simp [go_sem] at z0 z1 z2 z3 z4 ⊢; simp [z0, z1, z2, z3, z4]) rfl ?_
      rw [HG.out]
      exact ⟨_, 0, 0, _, 1, 1, gL, rfl, rfl, lZ.below qb, hBL, by have h1 := (World.ownsRow.lt (lZ.below qb) gL rfl).2; exact Nat.le_of_lt h1, GotW.one (by have := b7.size; omega) gZ HPN.out (oZ.below qb) hdf HPL.out, bel_next bZ qb⟩
  · obtain ⟨C, hC⟩ : ∃ C : Int, C = 5 := ⟨_, rfl⟩
    obtain ⟨U, hU⟩ : ∃ U : Int, U = 0 := ⟨_, rfl⟩
    obtain ⟨P, hP⟩ : ∃ P : List Int, P = [] := ⟨_, rfl⟩
    obtain ⟨pa, hpa⟩ : ∃ pa : Option Addr, pa = none := ⟨_, rfl⟩
    obtain ⟨pn, hpn⟩ : ∃ pn : Nat, pn = 0 := ⟨_, rfl⟩
    obtain ⟨pc, hpc⟩ : ∃ pc : Nat, pc = 0 := ⟨_, rfl⟩
    have HG : Hid (gotOf true zs = (C, U, P)) := by show _ = _; rw [hC, hU, hP]; rfl
    have HPN : Hid (pn = P.length) := by show pn = P.length; rw [hpn, hP]; rfl
    have HPL : Hid (P.length ≤ 300) := by show P.length ≤ 300; rw [hP]; simp
    have T5 : Blk w4 gT 42 #[.int .i64 C, .int .i64 U, .slice pa pn pc] := by rw [hC, hU, hpa, hpn, hpc]; exact T4
    have o5 : Own w4 w.heap.size (.slice pa pn pc) P := by rw [hpa, hpn, hpc, hP]; exact ⟨rfl, .inl ⟨rfl, rfl⟩⟩
    have b5 := b4
    have R5 := R4
    have N5 := N4
    obtain ⟨r0, r1, r2, r3, r4⟩ := R5.five
    obtain ⟨m0, m1, m2, m3, m4⟩ := N5.five
    obtain ⟨t0, t1, t2⟩ := T5.three
    have fr := R5.fro
    have fn := N5.fro
    have ft := T5.fro
    have d1 : ¬ gT = gN := by omega
    have d2 : ¬ gN = gT := by omega
    have d3 : ¬ gN = w.heap.size + 1 := by omega
    have d4 : ¬ w.heap.size + 1 = gN := by omega
    have d5 : ¬ gT = w.heap.size + 1 := by omega
    have d6 : ¬ w.heap.size + 1 = gT := by omega
    have d7 : gN < w4.heap.size := N5.lt
    have d8 : gT < w4.heap.size := T5.lt
    have d9 : w.heap.size + 1 < w4.heap.size := R5.lt
    clear o4 b4 X4 R4 N4 T4 S5 hC hU hP hpa hpn hpc
    go_upto_region 7 with fail
    simp only [← HGT.out]
    rw [← HW4.out]
    clear x0' x1' x2' x3' x4'
    have hzL : ((w4.setCell ⟨gN, 0, none⟩ (.slice (some ⟨w4.heap.size, 0, none⟩) 0 0)).setCell ⟨gN, 2, none⟩ (.bool false)).heap.size = w4.heap.size := by simp [World.setCell]
    have T6 : Blk ((w4.setCell ⟨gN, 0, none⟩ (.slice (some ⟨w4.heap.size, 0, none⟩) 0 0)).setCell ⟨gN, 2, none⟩ (.bool false)) gT 42 #[.int .i64 C, .int .i64 U, .slice pa pn pc] := by have := ((T5.setNe (g' := gN) (j := 0) (y := .slice (some ⟨w4.heap.size, 0, none⟩) 0 0) d1).setNe (g' := gN) (j := 2) (y := .bool false) d1); simpa using this
    have N6 : Blk ((w4.setCell ⟨gN, 0, none⟩ (.slice (some ⟨w4.heap.size, 0, none⟩) 0 0)).setCell ⟨gN, 2, none⟩ (.bool false)) gN 33 #[.slice (some ⟨w4.heap.size, 0, none⟩) 0 0, .int .i64 ls, .bool false, .int .i64 hf, .int .i64 wh] := by have := ((N5.set 0 (.slice (some ⟨w4.heap.size, 0, none⟩) 0 0)).set 2 (.bool false)); simpa using this
    have R6 : Blk ((w4.setCell ⟨gN, 0, none⟩ (.slice (some ⟨w4.heap.size, 0, none⟩) 0 0)).setCell ⟨gN, 2, none⟩ (.bool false)) (w.heap.size + 1) 33 #[.slice none 0 0, .int .i64 0, .bool false, .int .i64 0, .int .i64 0] := ((R5.setNe (g' := gN) (j := 0) (y := .slice (some ⟨w4.heap.size, 0, none⟩) 0 0) d4).setNe (g' := gN) (j := 2) (y := .bool false) d4)
    have o6 : Own ((w4.setCell ⟨gN, 0, none⟩ (.slice (some ⟨w4.heap.size, 0, none⟩) 0 0)).setCell ⟨gN, 2, none⟩ (.bool false)) w.heap.size (.slice pa pn pc) P := (row_setE (row_setE o5 (⟨_, N5⟩ : ExB w4 gN 33) (by decide)) (ExB.set (⟨_, N5⟩ : ExB w4 gN 33)) (by decide))
    have b6 : Below w.heap.size w ((w4.setCell ⟨gN, 0, none⟩ (.slice (some ⟨w4.heap.size, 0, none⟩) 0 0)).setCell ⟨gN, 2, none⟩ (.bool false)) := ((b5.setCell (p := ⟨gN, 0, none⟩) hwN (.slice (some ⟨w4.heap.size, 0, none⟩) 0 0)).setCell (p := ⟨gN, 2, none⟩) hwN (.bool false))
    obtain ⟨V, hV⟩ : ∃ V, V = ((w4.setCell ⟨gN, 0, none⟩ (.slice (some ⟨w4.heap.size, 0, none⟩) 0 0)).setCell ⟨gN, 2, none⟩ (.bool false)) := ⟨_, rfl⟩
    have HV : Hid (V = _) := hV
    rw [← hV] at hzL T6 N6 R6 o6 b6
    have qL := bel_alloc V (.cells #[] 5)
    have oL := own_lit0 V V.heap.size (Nat.le_refl _)
    have hdf : ∀ j, (Value.slice pa pn pc).ownBlock = some j → j < V.heap.size := fun j hj => (World.ownsRow.lt o6 j hj).2
    have hBL : w.heap.size ≤ V.heap.size := b6.size
    rw [hzL] at oL hdf hBL
    obtain ⟨gL, hgL⟩ : ∃ gL, gL = w4.heap.size := ⟨_, rfl⟩
    have HGL : Hid (gL = w4.heap.size) := hgL
    rw [← hgL] at oL hdf N6 hzL hBL
    obtain ⟨w6, hw6⟩ : ∃ w6, w6 = V.alloc (.cells #[] 5) := ⟨_, rfl⟩
    have HW6 : Hid (w6 = _) := hw6
    rw [← hw6] at qL oL
    have b7 := bel_next b6 qL
    have T7 := T6.below qL
    have N7 := N6.below qL
    have R7 := R6.below qL
    have o7 := o6.below qL
    have hT7 := T7.lt
    have hN7 := N7.lt
    have hR7 := R7.lt
    clear hV hw6 hgL qL b6 T6 N6 R6 o6 b5 T5 N5 R5 o5 hzL
    go_upto_region 9 with fail
    rw [← HV.out]
    rw [← HW6.out]
    try simp only [← HGL.out]
    obtain ⟨s0, s1, s2, s3, s4⟩ := R7.five
    obtain ⟨m0, m1, m2, m3, m4⟩ := N7.five
    obtain ⟨t0, t1, t2⟩ := T7.three
    have fs := R7.fro
    have RA := R7.below (bel_alloc w6 (.cells #[.int .i64 C, .int .i64 U, .slice pa pn pc] 42))
    obtain ⟨k0, k1, k2, k3, k4⟩ := RA.five
    have fk := RA.fro
    have e5 : ¬ w.heap.size + 1 = w6.heap.size := by omega
    have e6 : ¬ w6.heap.size = w.heap.size + 1 := by omega
    go_region
    · go_wp2
      have Z := (st5_self R7 (.slice (some ⟨gL, 0, none⟩) 0 0) (.int .i64 ls) (.bool false) (.int .i64 hf) (.int .i64 wh))
      have hsz := st5_size w6 (w.heap.size + 1) (.slice (some ⟨gL, 0, none⟩) 0 0) (.int .i64 ls) (.bool false) (.int .i64 hf) (.int .i64 wh)
      have oZ := st5_own (v0 := .slice (some ⟨gL, 0, none⟩) 0 0) (v1 := .int .i64 ls) (v2 := .bool false) (v3 := .int .i64 hf) (v4 := .int .i64 wh) o7 ⟨_, R7⟩
      have lZ := st5_own (v0 := .slice (some ⟨gL, 0, none⟩) 0 0) (v1 := .int .i64 ls) (v2 := .bool false) (v3 := .int .i64 hf) (v4 := .int .i64 wh) (oL) ⟨_, R7⟩
      have bZ := st5_bel (v0 := .slice (some ⟨gL, 0, none⟩) 0 0) (v1 := .int .i64 ls) (v2 := .bool false) (v3 := .int .i64 hf) (v4 := .int .i64 wh) b7 (show w.heap.size ≤ w.heap.size + 1 by omega)
      have qb := (bel_alloc (st5 w6 (w.heap.size + 1) (.slice (some ⟨gL, 0, none⟩) 0 0) (.int .i64 ls) (.bool false) (.int .i64 hf) (.int .i64 wh)) (.cells #[.int .i64 C, .int .i64 U, .slice pa pn pc] 42)).drew
      have gZ := (Blk.new (st5 w6 (w.heap.size + 1) (.slice (some ⟨gL, 0, none⟩) 0 0) (.int .i64 ls) (.bool false) (.int .i64 hf) (.int .i64 wh)) #[.int .i64 C, .int .i64 U, .slice pa pn pc] 42).below (Below.refl _ _).drew
      rw [hsz] at gZ
      obtain ⟨z0, z1, z2, z3, z4⟩ := (Z.below qb).five
      refine bodyPost_ret (v := .tuple #[rt (some ⟨gL, 0, none⟩) 0 0 ls false hf wh, .slice (some ⟨w6.heap.size, 0, none⟩) 1 1]) (by simp only [results, Tryd.results35]; simp [go_sem] at z0 z1 z2 z3 z4 ⊢; simp [z0, z1, z2, z3, z4]) rfl ?_
      rw [HG.out]
      exact ⟨_, 0, 0, _, 1, 1, gL, rfl, rfl, lZ.below qb, hBL, by have h1 := (World.ownsRow.lt (lZ.below qb) gL rfl).2; exact Nat.le_of_lt h1, GotW.one (by have := b7.size; omega) gZ HPN.out (oZ.below qb) hdf HPL.out, bel_next bZ qb⟩

end Go.Proofs.YtonikfajopdagaaDoor
