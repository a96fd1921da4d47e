/- RtuHear of the model. -/
import Derived.Test.YtonikfajopdagaaDoorRtu9
namespace Go.Proofs.YtonikfajopdagaaDoor
open Go.RowKit

set_option linter.unusedVariables false

set_option linter.unusedSimpArgs false

set_option maxRecDepth 20000 in
set_option maxHeartbeats 8000000 in
theorem specRtuHear_no (a : Option Addr) (l c : Nat) (ls : Int) (bd : Bool) (hf wh tk by' : Int) (zs : List Int) (w : World) (hn : l = zs.length) (hs : Sl w a zs) (hl : zs.length ≤ 2000000) (hh : (okT l ls bd hf wh && tkB tk) = false) :
    Calls Tryd.prog 27 #[rt a l c ls bd hf wh, .int .u8 by', .int .i64 tk] w fun e w' => WS w w' e zs ls bd hf wh none := by
  have HN : Hid (l = zs.length ∧ l ≤ 2000000 ∧ zs.length ≤ 2000000) := by show _ ∧ _; omega
  obtain ⟨W0, hW0'⟩ : ∃ W0, W0 = (w.alloc (.cells #[.slice a l c, .int .i64 ls, .bool bd, .int .i64 hf, .int .i64 wh] 33)).alloc (.cells #[.slice none 0 0, .int .i64 0, .bool false, .int .i64 0, .int .i64 0] 33) := ⟨_, rfl⟩
  have hW0 : Hid (W0 = _) := hW0'
  have hz : W0.heap.size = w.heap.size + 1 + 1 := by rw [hW0']; simp
  have B0 : Below w.heap.size w W0 := by rw [hW0']; exact bel_next (bel_alloc w _) (bel_alloc _ _)
  have X0 : Blk W0 w.heap.size 33 #[.slice a l c, .int .i64 ls, .bool bd, .int .i64 hf, .int .i64 wh] := by rw [hW0']; exact ((Blk.new w _ _).below (bel_alloc _ _))
  have R0 : Blk W0 (w.heap.size + 1) 33 #[.slice none 0 0, .int .i64 0, .bool false, .int .i64 0, .int .i64 0] := by rw [hW0']; have := (Blk.new (w.alloc (.cells #[.slice a l c, .int .i64 ls, .bool bd, .int .i64 hf, .int .i64 wh] 33)) #[.slice none 0 0, .int .i64 0, .bool false, .int .i64 0, .int .i64 0] 33); simpa using this
  have S1 : Hid (Sl W0 a zs) := hs.below B0
  clear hn hs hW0' hl
  cases ho : okT l ls bd hf wh
  · clear hh
    obtain ⟨x0, x1, x2, x3, x4⟩ := X0.five
    go_enter Tryd.func27, Tryd.ntmps27
    go_wp2_with fail
    rw [← hW0.out]
    refine (specRtuOk_any a l c ls bd hf wh _ HN.out.2.1 _ ho).mono ?_
    rintro e w1 ⟨rfl, b'⟩
    have BB1 : Hid (Below W0.heap.size W0 w1) := b'
    have b1 := bel_next B0 b'
    have X1 := X0.below b'
    have R1 := R0.below b'
    have S2 : Hid (Sl w1 a zs) := S1.out.below b'
    clear b' B0 X0 R0 S1 x0 x1 x2 x3 x4
    obtain ⟨x0, x1, x2, x3, x4⟩ := X1.five
    clear ho
    go_wp2_with fail
    refine (l6Copy_any a l c ls bd hf wh zs _ HN.out.1 S2.out HN.out.2.2).mono ?_
    rintro e w9 ⟨a', c', n', rfl, hn', o9, b'⟩
    have b9 := bel_next b1 b'
    have R9 := R1.below b'
    have HN' : Hid (n' = zs.length) := hn'
    have hzz : w.heap.size ≤ w1.heap.size := b1.size
    have q := bel_alloc w9 (.cells #[] 42)
    have R4 := R9.below q
    have o4 := (o9.monoT hzz).below q
    have b4 := bel_next b9 q
    obtain ⟨r0, r1, r2, r3, r4⟩ := R9.five
    have fr := R9.fro
    obtain ⟨s0, s1, s2, s3, s4⟩ := R4.five
    have fs := R4.fro
    clear b' hn' o9 b9 q R1 X1 b1 x0 x1 x2 x3 x4
    go_wp2
    refine bodyPost_ret (v := .tuple #[rt a' n' c' ls bd hf wh, .slice (some ⟨w9.heap.size, 0, none⟩) 0 0]) (by simp [results, Tryd.results27, go_sem, s0, s1, s2, s3, s4]) rfl ?_
    exact ⟨a', n', c', _, 0, 0, w.heap.size, rfl, HN'.out, st5_own o4 ⟨_, R4⟩, Nat.le_refl _, Below.size (st5_bel b4 (by omega)), .inl ⟨rfl, rfl⟩, st5_bel b4 (by omega)⟩
  · have ht : tkB tk = false := by rw [ho] at hh; simpa using hh
    clear hh
    obtain ⟨x0, x1, x2, x3, x4⟩ := X0.five
    go_enter Tryd.func27, Tryd.ntmps27
    go_wp2_with fail
    rw [← hW0.out]
    refine (specRtuOk_any a l c ls bd hf wh _ HN.out.2.1 _ ho).mono ?_
    rintro e w1 ⟨rfl, b'⟩
    have BB1 : Hid (Below W0.heap.size W0 w1) := b'
    have b1 := bel_next B0 b'
    have X1 := X0.below b'
    have R1 := R0.below b'
    have S2 : Hid (Sl w1 a zs) := S1.out.below b'
    clear b' B0 X0 R0 S1 x0 x1 x2 x3 x4
    obtain ⟨x0, x1, x2, x3, x4⟩ := X1.five
    clear ho
    go_wp2_with fail
    refine (specTick_b tk _ _ ht).mono ?_
    rintro e wt ⟨rfl, et⟩
    have et := et.symm
    subst et
    clear ht
    go_wp2_with fail
    refine (l6Copy_any a l c ls bd hf wh zs _ HN.out.1 S2.out HN.out.2.2).mono ?_
    rintro e w9 ⟨a', c', n', rfl, hn', o9, b'⟩
    have b9 := bel_next b1 b'
    have R9 := R1.below b'
    have HN' : Hid (n' = zs.length) := hn'
    have hzz : w.heap.size ≤ w1.heap.size := b1.size
    have q := bel_alloc w9 (.cells #[] 42)
    have R4 := R9.below q
    have o4 := (o9.monoT hzz).below q
    have b4 := bel_next b9 q
    obtain ⟨r0, r1, r2, r3, r4⟩ := R9.five
    have fr := R9.fro
    obtain ⟨s0, s1, s2, s3, s4⟩ := R4.five
    have fs := R4.fro
    clear b' hn' o9 b9 q R1 X1 b1 x0 x1 x2 x3 x4
    go_wp2
    refine bodyPost_ret (v := .tuple #[rt a' n' c' ls bd hf wh, .slice (some ⟨w9.heap.size, 0, none⟩) 0 0]) (by simp [results, Tryd.results27, go_sem, s0, s1, s2, s3, s4]) rfl ?_
    exact ⟨a', n', c', _, 0, 0, w.heap.size, rfl, HN'.out, st5_own o4 ⟨_, R4⟩, Nat.le_refl _, Below.size (st5_bel b4 (by omega)), .inl ⟨rfl, rfl⟩, st5_bel b4 (by omega)⟩

set_option maxRecDepth 20000 in
set_option maxHeartbeats 8000000 in
theorem specRtuHear_yes (a : Option Addr) (l c : Nat) (ls : Int) (bd : Bool) (hf wh tk by' : Int) (zs : List Int) (w : World) (hn : l = zs.length) (hs : Sl w a zs) (hl : zs.length ≤ 2000000) (hlc : l ≤ c) (hr : ∀ z ∈ zs, 0 ≤ z ∧ z ≤ 255) (hh : (okT l ls bd hf wh && tkB tk) = true) (Z : List Int) (D : Bool) (G : Option (Int × Int × List Int)) (hZ : Z = wtZ (wtE l ls bd hf wh tk) zs) (hD : D = wtF (wtE l ls bd hf wh tk) bd) (hG : G = wtO (wtE l ls bd hf wh tk) bd zs) (sb : Bool) (hsb : (decide (0 < Z.length) && decide (hf ≤ gap ls tk)) = sb) :
    Calls Tryd.prog 27 #[rt a l c ls bd hf wh, .int .u8 by', .int .i64 tk] w fun e w' => WS w w' e (hrZ by' Z) tk (D || sb) hf wh G := by
  have HN : Hid (l = zs.length ∧ l ≤ 2000000 ∧ zs.length ≤ 2000000) := by show _ ∧ _; omega
  obtain ⟨W0, hW0'⟩ : ∃ W0, W0 = (w.alloc (.cells #[.slice a l c, .int .i64 ls, .bool bd, .int .i64 hf, .int .i64 wh] 33)).alloc (.cells #[.slice none 0 0, .int .i64 0, .bool false, .int .i64 0, .int .i64 0] 33) := ⟨_, rfl⟩
  have hW0 : Hid (W0 = _) := hW0'
  have hz : W0.heap.size = w.heap.size + 1 + 1 := by rw [hW0']; simp
  have B0 : Below w.heap.size w W0 := by rw [hW0']; exact bel_next (bel_alloc w _) (bel_alloc _ _)
  have X0 : Blk W0 w.heap.size 33 #[.slice a l c, .int .i64 ls, .bool bd, .int .i64 hf, .int .i64 wh] := by rw [hW0']; exact ((Blk.new w _ _).below (bel_alloc _ _))
  have R0 : Blk W0 (w.heap.size + 1) 33 #[.slice none 0 0, .int .i64 0, .bool false, .int .i64 0, .int .i64 0] := by rw [hW0']; have := (Blk.new (w.alloc (.cells #[.slice a l c, .int .i64 ls, .bool bd, .int .i64 hf, .int .i64 wh] 33)) #[.slice none 0 0, .int .i64 0, .bool false, .int .i64 0, .int .i64 0] 33); simpa using this
  have S1 : Hid (Sl W0 a zs) := hs.below B0
  clear hn hs hW0' hl
  have HR : Hid (∀ z ∈ zs, 0 ≤ z ∧ z ≤ 255) := hr
  have HLC : Hid (l ≤ c) := hlc
  have HF : Hid (Z = wtZ (wtE l ls bd hf wh tk) zs ∧ D = wtF (wtE l ls bd hf wh tk) bd ∧ G = wtO (wtE l ls bd hf wh tk) bd zs) := ⟨hZ, hD, hG⟩
  have HZl : Hid (Z.length ≤ 2000000) := by show Z.length ≤ 2000000; rw [hZ]; have := wtZ_len (wtE l ls bd hf wh tk) zs; have := HN.out; omega
  have ho : okT l ls bd hf wh = true := by simp only [Bool.and_eq_true] at hh; exact hh.1
  have ht : tkB tk = true := by simp only [Bool.and_eq_true] at hh; exact hh.2
  have hP : 0 ≤ ls ∧ ls ≤ 4294967295 ∧ 0 ≤ tk ∧ tk ≤ 4294967295 := by
    have q1 := (okT_parts ho).1
    have q2 := tkB_parts ht
    omega
  have HP : Hid (0 ≤ ls ∧ ls ≤ 4294967295 ∧ 0 ≤ tk ∧ tk ≤ 4294967295) := hP
  have HSB : Hid ((decide (0 < Z.length) && decide (hf ≤ gap ls tk)) = sb) := hsb
  clear hP hr hlc hZ hD hG hsb hh
  obtain ⟨x0, x1, x2, x3, x4⟩ := X0.five
  go_enter Tryd.func27, Tryd.ntmps27
  go_wp2_with fail
  rw [← hW0.out]
  refine (specRtuOk_any a l c ls bd hf wh _ HN.out.2.1 _ ho).mono ?_
  rintro e w1 ⟨rfl, b'⟩
  have BB1 : Hid (Below W0.heap.size W0 w1) := b'
  have b1 := bel_next B0 b'
  have X1 := X0.below b'
  have R1 := R0.below b'
  have S2 : Hid (Sl w1 a zs) := S1.out.below b'
  clear b' B0 X0 R0 S1 x0 x1 x2 x3 x4
  obtain ⟨x0, x1, x2, x3, x4⟩ := X1.five
  clear ho
  go_wp2_with fail
  refine (specTick_b tk _ _ ht).mono ?_
  rintro e wt ⟨rfl, et⟩
  have et := et.symm
  subst et
  clear ht
  go_wp2_with fail
  refine (specRtuWait_s a l c ls bd hf wh tk zs _ HN.out.1 HLC.out S2.out HR.out HN.out.2.2 Z D G HF.out.1 HF.out.2.1 HF.out.2.2).mono ?_
  rintro e w2 ⟨aN, nN, cN, aW, nW, cW, bb, rfl, hnN, o2, hbb, hbb2, U2, b'⟩
  have HNN : Hid (nN = Z.length) := hnN
  have b2 := bel_next b1 b'
  have R2 := R1.below b'
  have X2 := X1.below b'
  have hz1 : w.heap.size ≤ w1.heap.size := b1.size
  have HBB : Hid (w.heap.size ≤ bb) := by show _ ≤ _; omega
  have q := bel_alloc w2 (.cells #[.slice aN nN cN, .int .i64 ls, .bool D, .int .i64 hf, .int .i64 wh] 33)
  have N3 := Blk.new w2 #[.slice aN nN cN, .int .i64 ls, .bool D, .int .i64 hf, .int .i64 wh] 33
  obtain ⟨w3, hw3⟩ : ∃ x, x = w2.alloc (.cells #[.slice aN nN cN, .int .i64 ls, .bool D, .int .i64 hf, .int .i64 wh] 33) := ⟨_, rfl⟩
  obtain ⟨gN, hgN⟩ : ∃ x, x = w2.heap.size := ⟨_, rfl⟩
  have HW3 : Hid (w3 = _) := hw3
  have HGN : Hid (gN = w2.heap.size) := hgN
  rw [← hw3] at q N3
  rw [← hgN] at N3
  have hRN : w.heap.size + 1 < gN := by have := R2.lt; omega
  have b4 := bel_next b2 q
  have R4 := R2.below q
  have X4 := X2.below q
  have o4 := o2.below q
  have U4 := (U2.mono hz1).below q
  have N4 := N3
  have hbb4 : Hid (bb ≤ w3.heap.size) := by show _ ≤ _; have := q.size; omega
  clear hw3 hgN q b2 R2 X2 o2 U2 b' hnN b1 R1 X1 S2 x0 x1 x2 x3 x4 hbb hbb2 N3
  go_wp2_with fail
  rw [← HW3.out]
  simp only [← HGN.out]

  obtain ⟨n0, n1, n2, n3, n4⟩ := N4.five
  obtain ⟨x0, x1, x2, x3, x4⟩ := X4.five
  by_cases h0 : 0 < nN
  · have h0i : (0 : Int) < (nN : Int) := by omega
    cases hg : decide (hf ≤ gap ls tk)
    · have hsb : sb = false := by rw [← HSB.out, ← HNN.out, hg]; simp
      subst hsb
      go_cut [39] (fun sX wx => sX = .bool false ∧ Below w3.heap.size w3 wx)
      case first =>
        refine wp_region_any (by kernel_rfl) ?_
        (try (change wpAny _ _ _ _ _ _ _ (World.drew _)))
        refine wpAny_ready (rs := [0]) (by kernel_rfl) (by simp) ?_
        refine AllReady.cons rfl (fun K hK => ?_) AllReady.nil
        go_simp
        refine hK _ _ ?_
        clear hK K
        refine wpAny_ready (rs := [1]) (by kernel_rfl) (by simp) ?_
        refine AllReady.cons rfl (fun K hK => ?_) AllReady.nil
        go_simp
        refine hK _ _ ?_
        clear hK K
        refine wpAny_ready (rs := [2]) (by kernel_rfl) (by simp) ?_
        refine AllReady.cons rfl (fun K hK => ?_) AllReady.nil
        go_simp
        refine hK _ _ ?_
        clear hK K
        refine wpAny_ready (rs := [3]) (by kernel_rfl) (by simp) ?_
        refine AllReady.cons rfl (fun K hK => ?_) AllReady.nil
        go_simp
        refine hK _ _ ?_
        clear hK K
        refine wpAny_ready (rs := [4]) (by kernel_rfl) (by simp) ?_
        refine AllReady.cons rfl (fun K hK => ?_) AllReady.nil
        go_simp
        refine hK _ _ ?_
        clear hK K
        refine wpAny_take (i := 5) (v := ?v5) rfl (by kernel_rfl) (by kernel_rfl) (by kernel_rfl) (fun _ _ _ h => h) (Or.inl ⟨by rfl, ?h5⟩) ?_
        case h5 => intro w; go_simp; try (with_reducible rfl)
        refine wpAny_take (i := 7) (v := ?v7) rfl (by kernel_rfl) (by kernel_rfl) (by kernel_rfl) (fun _ _ _ h => h) (Or.inl ⟨by rfl, ?h7⟩) ?_
        case h7 => intro w; go_simp; try (with_reducible rfl)
        refine wpAny_take (i := 9) (v := ?v9) rfl (by kernel_rfl) (by kernel_rfl) (by kernel_rfl) (fun _ _ _ h => h) (Or.inl ⟨by rfl, ?h9⟩) ?_
        case h9 => intro w; go_simp; try (with_reducible rfl)
        refine wpAny_ready (rs := [6, 10]) (by kernel_rfl) (by simp) ?_
        refine AllReady.cons rfl (fun K hK => ?_) ?_
        · skip
          go_simp
          refine hK _ _ ?_
          clear hK K
          refine wpAny_ready (rs := [8, 10]) (by kernel_rfl) (by simp) ?_
          refine AllReady.cons rfl (fun K hK => ?_) ?_
          · skip
            go_simp
            go_wp2_with (go_at_call 56; refine (specGap_ok ls tk _ HP.out.1 HP.out.2.1 HP.out.2.2.1 HP.out.2.2.2).mono ?_; rintro e w5 ⟨rfl, e5⟩; subst e5)
            try (refine hK _ _ ?_; clear hK K)
            refine wpAny_ready (rs := [10]) (by kernel_rfl) (by simp) ?_
            refine AllReady.cons rfl (fun K hK => ?_) AllReady.nil
            go_simp
            refine hK _ _ ?_
            clear hK K
            refine wpAny_ready (rs := [11]) (by kernel_rfl) (by simp) ?_
            refine AllReady.cons rfl (fun K hK => ?_) AllReady.nil
            go_simp
            refine hK _ _ ?_
            clear hK K
            refine wpAny_ready (rs := [12]) (by kernel_rfl) (by simp) ?_
            refine AllReady.cons rfl (fun K hK => ?_) AllReady.nil
            go_simp
            refine hK _ _ ?_
            clear hK K
            refine wpAny_done (by kernel_rfl) ?_ _
            (go_wp2_with fail; go_meet; exact ⟨by first | rfl | rw [hg], by first | exact Below.refl _ _ | exact (Below.refl _ _).drew | exact (Below.refl _ _).drew.drew⟩)
          refine AllReady.cons rfl (fun K hK => ?_) AllReady.nil
          go_simp
          refine hK _ _ ?_
          clear hK K
          refine wpAny_ready (rs := [8]) (by kernel_rfl) (by simp) ?_
          refine AllReady.cons rfl (fun K hK => ?_) AllReady.nil
          go_simp
          go_wp2_with (go_at_call 56; refine (specGap_ok ls tk _ HP.out.1 HP.out.2.1 HP.out.2.2.1 HP.out.2.2.2).mono ?_; rintro e w5 ⟨rfl, e5⟩; subst e5)
          try (refine hK _ _ ?_; clear hK K)
          refine wpAny_ready (rs := [11]) (by kernel_rfl) (by simp) ?_
          refine AllReady.cons rfl (fun K hK => ?_) AllReady.nil
          go_simp
          refine hK _ _ ?_
          clear hK K
          refine wpAny_ready (rs := [12]) (by kernel_rfl) (by simp) ?_
          refine AllReady.cons rfl (fun K hK => ?_) AllReady.nil
          go_simp
          refine hK _ _ ?_
          clear hK K
          refine wpAny_done (by kernel_rfl) ?_ _
          (go_wp2_with fail; go_meet; exact ⟨by first | rfl | rw [hg], by first | exact Below.refl _ _ | exact (Below.refl _ _).drew | exact (Below.refl _ _).drew.drew⟩)
        refine AllReady.cons rfl (fun K hK => ?_) AllReady.nil
        go_simp
        refine hK _ _ ?_
        clear hK K
        refine wpAny_ready (rs := [6]) (by kernel_rfl) (by simp) ?_
        refine AllReady.cons rfl (fun K hK => ?_) AllReady.nil
        go_simp
        refine hK _ _ ?_
        clear hK K
        refine wpAny_ready (rs := [8]) (by kernel_rfl) (by simp) ?_
        refine AllReady.cons rfl (fun K hK => ?_) AllReady.nil
        go_simp
        go_wp2_with (go_at_call 56; refine (specGap_ok ls tk _ HP.out.1 HP.out.2.1 HP.out.2.2.1 HP.out.2.2.2).mono ?_; rintro e w5 ⟨rfl, e5⟩; subst e5)
        try (refine hK _ _ ?_; clear hK K)
        refine wpAny_ready (rs := [11]) (by kernel_rfl) (by simp) ?_
        refine AllReady.cons rfl (fun K hK => ?_) AllReady.nil
        go_simp
        refine hK _ _ ?_
        clear hK K
        refine wpAny_ready (rs := [12]) (by kernel_rfl) (by simp) ?_
        refine AllReady.cons rfl (fun K hK => ?_) AllReady.nil
        go_simp
        refine hK _ _ ?_
        clear hK K
        refine wpAny_done (by kernel_rfl) ?_ _
        (go_wp2_with fail; go_meet; exact ⟨by first | rfl | rw [hg], by first | exact Below.refl _ _ | exact (Below.refl _ _).drew | exact (Below.refl _ _).drew.drew⟩)
      case rest =>
      obtain ⟨rfl, b'⟩ := hcut
      have R5 := R4.below b'
      have X5 := X4.below b'
      have N5 := N4.below b'
      have o5 := o4.below b'
      have U5 := U4.below b'
      have b5 := bel_next b4 b'
      have hbb5 : Hid (bb ≤ wc.heap.size) := by show _ ≤ _; have := b'.size; have := hbb4.out; omega
      clear b' R4 X4 N4 o4 U4 b4 hbb4 n0 n1 n2 n3 n4 x0 x1 x2 x3 x4 X5
      obtain ⟨n0, n1, n2, n3, n4⟩ := N5.five
      obtain ⟨r0, r1, r2, r3, r4⟩ := R5.five
      have fn := N5.fro
      have fr := R5.fro
      have d1 : ¬ gN = w.heap.size + 1 := by omega
      have d2 : ¬ w.heap.size + 1 = gN := by omega
      have hN5 := N5.lt
      by_cases hlen : (nN : Int) ≤ 256
      · have HZa : Hid (hrZ by' Z = Z ++ [by']) := by show _ = _; unfold hrZ; rw [if_pos (by have := HNN.out; omega)]
        have N6 := N5
        have R6 := R5
        have o6 := o5
        have U6 := U5
        have b6 := b5
        have qa := bel_alloc wc (.cells #[.int .u8 by'] 5)
        have o7 := o6.below qa
        have N7 := N6.below qa
        have R7 := R6.below qa
        have U7 := U6.below qa
        have b7 := bel_next b6 qa
        have hV : wc.heap.size = wc.heap.size := rfl
        have hl1 : Sl (wc.alloc (.cells #[.int .u8 by'] 5)) (some ⟨wc.heap.size, 0, none⟩) [by'] := sl_lit1 _ _ hV.symm
        have hsz7 : Hid (bb ≤ (wc.alloc (.cells #[.int .u8 by'] 5)).heap.size) := by show _ ≤ _; have := hbb5.out; have := qa.size; omega
        have hL7 : Hid (Z.length + [by'].length ≤ 4000000) := by show _ ≤ _; have := HZl.out; simp; omega
        clear hV qa o6 N6 R6 U6 b6 o5 N5 R5 U5 b5
        go_wp2_with (at_builtin; refine wpList_app rfl _ _ rfl bb (.slice aN nN cN) Z rfl o7 ⟨wc.heap.size, 0, none⟩ 1 1 [by'] rfl rfl hl1 hL7.out hsz7.out ?_; intro v' w8 oo g8; have uu := U7.keptRow o7 g8; have N8 := N7.grown g8 (row_noBlk o7 N7 (by decide)); have R8 := R7.grown g8 (row_noBlk o7 R7 (by decide)); have bq : Below w.heap.size w w8 := b7.grown g8 b7.size (fun k hk => by have := (World.ownsRow.lt o7 k hk).1; have := HBB.out; omega); have hb9 : Hid (bb ≤ w8.heap.size) := Nat.le_trans hsz7.out g8.size; clear r0 r1 r2 r3 r4 n0 n1 n2 n3 n4 fn fr hl1; obtain ⟨n0, n1, n2, n3, n4⟩ := N8.five; obtain ⟨r0, r1, r2, r3, r4⟩ := R8.five; have fn := N8.fro; have fr := R8.fro; have eN : ExB w8 gN 33 := ⟨_, N8⟩; have eR : ExB w8 (w.heap.size + 1) 33 := ⟨_, R8⟩; obtain ⟨a', c', n', rfl, hn'⟩ := own_shapeT oo; have HNa : Hid (n' = (Z ++ [by']).length) := hn'; rw [← HZa.out] at oo; clear g8 o7 N7 R7 U7 b7 N8 R8 hn')
        refine bodyPost_ret (v := .tuple #[rt a' n' c' tk D hf wh, .slice aW nW cW]) (by simp [results, Tryd.results27, go_sem, r0, r1, r2, r3, r4]) rfl ?_
        refine ⟨a', n', c', aW, nW, cW, bb, by simp only [Bool.or_false, Bool.or_true], (by rw [HZa.out]; exact HNa.out), (show Own _ _ _ _ from (row_setE (row_setE (row_setE (row_setE (row_setE (row_setE (row_setE oo eN (by decide)) (ExB.set eN) (by decide)) (ExB.set (ExB.set eR)) (by decide)) (ExB.set (ExB.set (ExB.set eR))) (by decide)) (ExB.set (ExB.set (ExB.set (ExB.set eR)))) (by decide)) (ExB.set (ExB.set (ExB.set (ExB.set (ExB.set eR))))) (by decide)) (ExB.set (ExB.set (ExB.set (ExB.set (ExB.set (ExB.set eR)))))) (by decide))), HBB.out, ?_, (GotW.setR (GotW.setR (GotW.setR (GotW.setR (GotW.setR (GotW.setR (GotW.setR uu eN) (ExB.set eN)) (ExB.set (ExB.set eR))) (ExB.set (ExB.set (ExB.set eR)))) (ExB.set (ExB.set (ExB.set (ExB.set eR))))) (ExB.set (ExB.set (ExB.set (ExB.set (ExB.set eR)))))) (ExB.set (ExB.set (ExB.set (ExB.set (ExB.set (ExB.set eR))))))), (((((((bq.setCell (p := ⟨gN, 0, none⟩) (by show w.heap.size ≤ gN; omega) _).setCell (p := ⟨gN, 1, none⟩) (by show w.heap.size ≤ gN; omega) _).setCell (p := ⟨w.heap.size + 1, 0, none⟩) (by show w.heap.size ≤ w.heap.size + 1; omega) _).setCell (p := ⟨w.heap.size + 1, 1, none⟩) (by show w.heap.size ≤ w.heap.size + 1; omega) _).setCell (p := ⟨w.heap.size + 1, 2, none⟩) (by show w.heap.size ≤ w.heap.size + 1; omega) _).setCell (p := ⟨w.heap.size + 1, 3, none⟩) (by show w.heap.size ≤ w.heap.size + 1; omega) _).setCell (p := ⟨w.heap.size + 1, 4, none⟩) (by show w.heap.size ≤ w.heap.size + 1; omega) _)⟩
        have h9 : bb ≤ w8.heap.size := hb9.out
        simpa [World.setCell] using h9
      · have HZa : Hid (hrZ by' Z = Z) := by show _ = _; unfold hrZ; rw [if_neg (by have := HNN.out; omega)]
        have eN : ExB wc gN 33 := ⟨_, N5⟩
        have eR : ExB wc (w.heap.size + 1) 33 := ⟨_, R5⟩
        have oo := o5
        have uu := U5
        have bq := b5
        have hb9 := hbb5
        rw [← HZa.out] at oo
        clear o5 U5 b5 N5 R5
        go_wp2
        refine bodyPost_ret (v := .tuple #[rt aN nN cN tk D hf wh, .slice aW nW cW]) (by simp [results, Tryd.results27, go_sem, r0, r1, r2, r3, r4]) rfl ?_
        refine ⟨aN, nN, cN, aW, nW, cW, bb, by simp only [Bool.or_false, Bool.or_true], (by rw [HZa.out]; exact HNN.out), (show Own _ _ _ _ from (row_setE (row_setE (row_setE (row_setE (row_setE (row_setE oo eN (by decide)) (ExB.set eR) (by decide)) (ExB.set (ExB.set eR)) (by decide)) (ExB.set (ExB.set (ExB.set eR))) (by decide)) (ExB.set (ExB.set (ExB.set (ExB.set eR)))) (by decide)) (ExB.set (ExB.set (ExB.set (ExB.set (ExB.set eR))))) (by decide))), HBB.out, ?_, (GotW.setR (GotW.setR (GotW.setR (GotW.setR (GotW.setR (GotW.setR uu eN) (ExB.set eR)) (ExB.set (ExB.set eR))) (ExB.set (ExB.set (ExB.set eR)))) (ExB.set (ExB.set (ExB.set (ExB.set eR))))) (ExB.set (ExB.set (ExB.set (ExB.set (ExB.set eR)))))), ((((((bq.setCell (p := ⟨gN, 1, none⟩) (by show w.heap.size ≤ gN; omega) _).setCell (p := ⟨w.heap.size + 1, 0, none⟩) (by show w.heap.size ≤ w.heap.size + 1; omega) _).setCell (p := ⟨w.heap.size + 1, 1, none⟩) (by show w.heap.size ≤ w.heap.size + 1; omega) _).setCell (p := ⟨w.heap.size + 1, 2, none⟩) (by show w.heap.size ≤ w.heap.size + 1; omega) _).setCell (p := ⟨w.heap.size + 1, 3, none⟩) (by show w.heap.size ≤ w.heap.size + 1; omega) _).setCell (p := ⟨w.heap.size + 1, 4, none⟩) (by show w.heap.size ≤ w.heap.size + 1; omega) _)⟩
        have h9 : bb ≤ wc.heap.size := hb9.out
        simpa [World.setCell] using h9
    · have hsb : sb = true := by rw [← HSB.out, ← HNN.out, hg]; simp [h0]
      subst hsb
      go_cut [39] (fun sX wx => sX = .bool true ∧ Below w3.heap.size w3 wx)
      case first =>
        refine wp_region_any (by kernel_rfl) ?_
        (try (change wpAny _ _ _ _ _ _ _ (World.drew _)))
        refine wpAny_ready (rs := [0]) (by kernel_rfl) (by simp) ?_
        refine AllReady.cons rfl (fun K hK => ?_) AllReady.nil
        go_simp
        refine hK _ _ ?_
        clear hK K
        refine wpAny_ready (rs := [1]) (by kernel_rfl) (by simp) ?_
        refine AllReady.cons rfl (fun K hK => ?_) AllReady.nil
        go_simp
        refine hK _ _ ?_
        clear hK K
        refine wpAny_ready (rs := [2]) (by kernel_rfl) (by simp) ?_
        refine AllReady.cons rfl (fun K hK => ?_) AllReady.nil
        go_simp
        refine hK _ _ ?_
        clear hK K
        refine wpAny_ready (rs := [3]) (by kernel_rfl) (by simp) ?_
        refine AllReady.cons rfl (fun K hK => ?_) AllReady.nil
        go_simp
        refine hK _ _ ?_
        clear hK K
        refine wpAny_ready (rs := [4]) (by kernel_rfl) (by simp) ?_
        refine AllReady.cons rfl (fun K hK => ?_) AllReady.nil
        go_simp
        refine hK _ _ ?_
        clear hK K
        refine wpAny_take (i := 5) (v := ?v5) rfl (by kernel_rfl) (by kernel_rfl) (by kernel_rfl) (fun _ _ _ h => h) (Or.inl ⟨by rfl, ?h5⟩) ?_
        case h5 => intro w; go_simp; try (with_reducible rfl)
        refine wpAny_take (i := 7) (v := ?v7) rfl (by kernel_rfl) (by kernel_rfl) (by kernel_rfl) (fun _ _ _ h => h) (Or.inl ⟨by rfl, ?h7⟩) ?_
        case h7 => intro w; go_simp; try (with_reducible rfl)
        refine wpAny_take (i := 9) (v := ?v9) rfl (by kernel_rfl) (by kernel_rfl) (by kernel_rfl) (fun _ _ _ h => h) (Or.inl ⟨by rfl, ?h9⟩) ?_
        case h9 => intro w; go_simp; try (with_reducible rfl)
        refine wpAny_ready (rs := [6, 10]) (by kernel_rfl) (by simp) ?_
        refine AllReady.cons rfl (fun K hK => ?_) ?_
        · skip
          go_simp
          refine hK _ _ ?_
          clear hK K
          refine wpAny_ready (rs := [8, 10]) (by kernel_rfl) (by simp) ?_
          refine AllReady.cons rfl (fun K hK => ?_) ?_
          · skip
            go_simp
            go_wp2_with (go_at_call 56; refine (specGap_ok ls tk _ HP.out.1 HP.out.2.1 HP.out.2.2.1 HP.out.2.2.2).mono ?_; rintro e w5 ⟨rfl, e5⟩; subst e5)
            try (refine hK _ _ ?_; clear hK K)
            refine wpAny_ready (rs := [10]) (by kernel_rfl) (by simp) ?_
            refine AllReady.cons rfl (fun K hK => ?_) AllReady.nil
            go_simp
            refine hK _ _ ?_
            clear hK K
            refine wpAny_ready (rs := [11]) (by kernel_rfl) (by simp) ?_
            refine AllReady.cons rfl (fun K hK => ?_) AllReady.nil
            go_simp
            refine hK _ _ ?_
            clear hK K
            refine wpAny_ready (rs := [12]) (by kernel_rfl) (by simp) ?_
            refine AllReady.cons rfl (fun K hK => ?_) AllReady.nil
            go_simp
            refine hK _ _ ?_
            clear hK K
            refine wpAny_done (by kernel_rfl) ?_ _
            (go_wp2_with fail; go_meet; exact ⟨by first | rfl | rw [hg], by first | exact Below.refl _ _ | exact (Below.refl _ _).drew | exact (Below.refl _ _).drew.drew⟩)
          refine AllReady.cons rfl (fun K hK => ?_) AllReady.nil
          go_simp
          refine hK _ _ ?_
          clear hK K
          refine wpAny_ready (rs := [8]) (by kernel_rfl) (by simp) ?_
          refine AllReady.cons rfl (fun K hK => ?_) AllReady.nil
          go_simp
          go_wp2_with (go_at_call 56; refine (specGap_ok ls tk _ HP.out.1 HP.out.2.1 HP.out.2.2.1 HP.out.2.2.2).mono ?_; rintro e w5 ⟨rfl, e5⟩; subst e5)
          try (refine hK _ _ ?_; clear hK K)
          refine wpAny_ready (rs := [11]) (by kernel_rfl) (by simp) ?_
          refine AllReady.cons rfl (fun K hK => ?_) AllReady.nil
          go_simp
          refine hK _ _ ?_
          clear hK K
          refine wpAny_ready (rs := [12]) (by kernel_rfl) (by simp) ?_
          refine AllReady.cons rfl (fun K hK => ?_) AllReady.nil
          go_simp
          refine hK _ _ ?_
          clear hK K
          refine wpAny_done (by kernel_rfl) ?_ _
          (go_wp2_with fail; go_meet; exact ⟨by first | rfl | rw [hg], by first | exact Below.refl _ _ | exact (Below.refl _ _).drew | exact (Below.refl _ _).drew.drew⟩)
        refine AllReady.cons rfl (fun K hK => ?_) AllReady.nil
        go_simp
        refine hK _ _ ?_
        clear hK K
        refine wpAny_ready (rs := [6]) (by kernel_rfl) (by simp) ?_
        refine AllReady.cons rfl (fun K hK => ?_) AllReady.nil
        go_simp
        refine hK _ _ ?_
        clear hK K
        refine wpAny_ready (rs := [8]) (by kernel_rfl) (by simp) ?_
        refine AllReady.cons rfl (fun K hK => ?_) AllReady.nil
        go_simp
        go_wp2_with (go_at_call 56; refine (specGap_ok ls tk _ HP.out.1 HP.out.2.1 HP.out.2.2.1 HP.out.2.2.2).mono ?_; rintro e w5 ⟨rfl, e5⟩; subst e5)
        try (refine hK _ _ ?_; clear hK K)
        refine wpAny_ready (rs := [11]) (by kernel_rfl) (by simp) ?_
        refine AllReady.cons rfl (fun K hK => ?_) AllReady.nil
        go_simp
        refine hK _ _ ?_
        clear hK K
        refine wpAny_ready (rs := [12]) (by kernel_rfl) (by simp) ?_
        refine AllReady.cons rfl (fun K hK => ?_) AllReady.nil
        go_simp
        refine hK _ _ ?_
        clear hK K
        refine wpAny_done (by kernel_rfl) ?_ _
        (go_wp2_with fail; go_meet; exact ⟨by first | rfl | rw [hg], by first | exact Below.refl _ _ | exact (Below.refl _ _).drew | exact (Below.refl _ _).drew.drew⟩)
      case rest =>
      obtain ⟨rfl, b'⟩ := hcut
      have R5 := R4.below b'
      have X5 := X4.below b'
      have N5 := N4.below b'
      have o5 := o4.below b'
      have U5 := U4.below b'
      have b5 := bel_next b4 b'
      have hbb5 : Hid (bb ≤ wc.heap.size) := by show _ ≤ _; have := b'.size; have := hbb4.out; omega
      clear b' R4 X4 N4 o4 U4 b4 hbb4 n0 n1 n2 n3 n4 x0 x1 x2 x3 x4 X5
      obtain ⟨n0, n1, n2, n3, n4⟩ := N5.five
      obtain ⟨r0, r1, r2, r3, r4⟩ := R5.five
      have fn := N5.fro
      have fr := R5.fro
      have d1 : ¬ gN = w.heap.size + 1 := by omega
      have d2 : ¬ w.heap.size + 1 = gN := by omega
      have hN5 := N5.lt
      by_cases hlen : (nN : Int) ≤ 256
      · have HZa : Hid (hrZ by' Z = Z ++ [by']) := by show _ = _; unfold hrZ; rw [if_pos (by have := HNN.out; omega)]
        have N6 : Blk (wc.setCell ⟨gN, 2, none⟩ (.bool true)) gN 33 #[.slice aN nN cN, .int .i64 ls, .bool true, .int .i64 hf, .int .i64 wh] := by have := N5.set 2 (.bool true); simpa using this
        have R6 : Blk (wc.setCell ⟨gN, 2, none⟩ (.bool true)) (w.heap.size + 1) 33 #[.slice none 0 0, .int .i64 0, .bool false, .int .i64 0, .int .i64 0] := R5.setNe (by omega)
        have o6 : Own (wc.setCell ⟨gN, 2, none⟩ (.bool true)) bb (.slice aN nN cN) Z := row_setE o5 ⟨_, N5⟩ (by decide)
        have U6 : GotW (wc.setCell ⟨gN, 2, none⟩ (.bool true)) w.heap.size bb aW nW G := U5.setR ⟨_, N5⟩
        have b6 : Below w.heap.size w (wc.setCell ⟨gN, 2, none⟩ (.bool true)) := b5.setCell (p := ⟨gN, 2, none⟩) (by show w.heap.size ≤ gN; omega) _
        have qa := bel_alloc (wc.setCell ⟨gN, 2, none⟩ (.bool true)) (.cells #[.int .u8 by'] 5)
        have o7 := o6.below qa
        have N7 := N6.below qa
        have R7 := R6.below qa
        have U7 := U6.below qa
        have b7 := bel_next b6 qa
        have hV : (wc.setCell ⟨gN, 2, none⟩ (.bool true)).heap.size = wc.heap.size := by simp [World.setCell]
        have hl1 : Sl ((wc.setCell ⟨gN, 2, none⟩ (.bool true)).alloc (.cells #[.int .u8 by'] 5)) (some ⟨wc.heap.size, 0, none⟩) [by'] := sl_lit1 _ _ hV.symm
        have hsz7 : Hid (bb ≤ ((wc.setCell ⟨gN, 2, none⟩ (.bool true)).alloc (.cells #[.int .u8 by'] 5)).heap.size) := by show _ ≤ _; have := hbb5.out; have := qa.size; omega
        have hL7 : Hid (Z.length + [by'].length ≤ 4000000) := by show _ ≤ _; have := HZl.out; simp; omega
        clear hV qa o6 N6 R6 U6 b6 o5 N5 R5 U5 b5
        go_wp2_with (at_builtin; refine wpList_app rfl _ _ rfl bb (.slice aN nN cN) Z rfl o7 ⟨wc.heap.size, 0, none⟩ 1 1 [by'] rfl rfl hl1 hL7.out hsz7.out ?_; intro v' w8 oo g8; have uu := U7.keptRow o7 g8; have N8 := N7.grown g8 (row_noBlk o7 N7 (by decide)); have R8 := R7.grown g8 (row_noBlk o7 R7 (by decide)); have bq : Below w.heap.size w w8 := b7.grown g8 b7.size (fun k hk => by have := (World.ownsRow.lt o7 k hk).1; have := HBB.out; omega); have hb9 : Hid (bb ≤ w8.heap.size) := Nat.le_trans hsz7.out g8.size; clear r0 r1 r2 r3 r4 n0 n1 n2 n3 n4 fn fr hl1; obtain ⟨n0, n1, n2, n3, n4⟩ := N8.five; obtain ⟨r0, r1, r2, r3, r4⟩ := R8.five; have fn := N8.fro; have fr := R8.fro; have eN : ExB w8 gN 33 := ⟨_, N8⟩; have eR : ExB w8 (w.heap.size + 1) 33 := ⟨_, R8⟩; obtain ⟨a', c', n', rfl, hn'⟩ := own_shapeT oo; have HNa : Hid (n' = (Z ++ [by']).length) := hn'; rw [← HZa.out] at oo; clear g8 o7 N7 R7 U7 b7 N8 R8 hn')
        refine bodyPost_ret (v := .tuple #[rt a' n' c' tk true hf wh, .slice aW nW cW]) (by simp [results, Tryd.results27, go_sem, r0, r1, r2, r3, r4]) rfl ?_
        refine ⟨a', n', c', aW, nW, cW, bb, by simp only [Bool.or_false, Bool.or_true], (by rw [HZa.out]; exact HNa.out), (show Own _ _ _ _ from (row_setE (row_setE (row_setE (row_setE (row_setE (row_setE (row_setE oo eN (by decide)) (ExB.set eN) (by decide)) (ExB.set (ExB.set eR)) (by decide)) (ExB.set (ExB.set (ExB.set eR))) (by decide)) (ExB.set (ExB.set (ExB.set (ExB.set eR)))) (by decide)) (ExB.set (ExB.set (ExB.set (ExB.set (ExB.set eR))))) (by decide)) (ExB.set (ExB.set (ExB.set (ExB.set (ExB.set (ExB.set eR)))))) (by decide))), HBB.out, ?_, (GotW.setR (GotW.setR (GotW.setR (GotW.setR (GotW.setR (GotW.setR (GotW.setR uu eN) (ExB.set eN)) (ExB.set (ExB.set eR))) (ExB.set (ExB.set (ExB.set eR)))) (ExB.set (ExB.set (ExB.set (ExB.set eR))))) (ExB.set (ExB.set (ExB.set (ExB.set (ExB.set eR)))))) (ExB.set (ExB.set (ExB.set (ExB.set (ExB.set (ExB.set eR))))))), (((((((bq.setCell (p := ⟨gN, 0, none⟩) (by show w.heap.size ≤ gN; omega) _).setCell (p := ⟨gN, 1, none⟩) (by show w.heap.size ≤ gN; omega) _).setCell (p := ⟨w.heap.size + 1, 0, none⟩) (by show w.heap.size ≤ w.heap.size + 1; omega) _).setCell (p := ⟨w.heap.size + 1, 1, none⟩) (by show w.heap.size ≤ w.heap.size + 1; omega) _).setCell (p := ⟨w.heap.size + 1, 2, none⟩) (by show w.heap.size ≤ w.heap.size + 1; omega) _).setCell (p := ⟨w.heap.size + 1, 3, none⟩) (by show w.heap.size ≤ w.heap.size + 1; omega) _).setCell (p := ⟨w.heap.size + 1, 4, none⟩) (by show w.heap.size ≤ w.heap.size + 1; omega) _)⟩
        have h9 : bb ≤ w8.heap.size := hb9.out
        simpa [World.setCell] using h9
      · have HZa : Hid (hrZ by' Z = Z) := by show _ = _; unfold hrZ; rw [if_neg (by have := HNN.out; omega)]
        have eN : ExB wc gN 33 := ⟨_, N5⟩
        have eR : ExB wc (w.heap.size + 1) 33 := ⟨_, R5⟩
        have oo := o5
        have uu := U5
        have bq := b5
        have hb9 := hbb5
        rw [← HZa.out] at oo
        clear o5 U5 b5 N5 R5
        go_wp2
        refine bodyPost_ret (v := .tuple #[rt aN nN cN tk true hf wh, .slice aW nW cW]) (by simp [results, Tryd.results27, go_sem, r0, r1, r2, r3, r4]) rfl ?_
        refine ⟨aN, nN, cN, aW, nW, cW, bb, by simp only [Bool.or_false, Bool.or_true], (by rw [HZa.out]; exact HNN.out), (show Own _ _ _ _ from (row_setE (row_setE (row_setE (row_setE (row_setE (row_setE (row_setE oo eN (by decide)) (ExB.set eN) (by decide)) (ExB.set (ExB.set eR)) (by decide)) (ExB.set (ExB.set (ExB.set eR))) (by decide)) (ExB.set (ExB.set (ExB.set (ExB.set eR)))) (by decide)) (ExB.set (ExB.set (ExB.set (ExB.set (ExB.set eR))))) (by decide)) (ExB.set (ExB.set (ExB.set (ExB.set (ExB.set (ExB.set eR)))))) (by decide))), HBB.out, ?_, (GotW.setR (GotW.setR (GotW.setR (GotW.setR (GotW.setR (GotW.setR (GotW.setR uu eN) (ExB.set eN)) (ExB.set (ExB.set eR))) (ExB.set (ExB.set (ExB.set eR)))) (ExB.set (ExB.set (ExB.set (ExB.set eR))))) (ExB.set (ExB.set (ExB.set (ExB.set (ExB.set eR)))))) (ExB.set (ExB.set (ExB.set (ExB.set (ExB.set (ExB.set eR))))))), (((((((bq.setCell (p := ⟨gN, 2, none⟩) (by show w.heap.size ≤ gN; omega) _).setCell (p := ⟨gN, 1, none⟩) (by show w.heap.size ≤ gN; omega) _).setCell (p := ⟨w.heap.size + 1, 0, none⟩) (by show w.heap.size ≤ w.heap.size + 1; omega) _).setCell (p := ⟨w.heap.size + 1, 1, none⟩) (by show w.heap.size ≤ w.heap.size + 1; omega) _).setCell (p := ⟨w.heap.size + 1, 2, none⟩) (by show w.heap.size ≤ w.heap.size + 1; omega) _).setCell (p := ⟨w.heap.size + 1, 3, none⟩) (by show w.heap.size ≤ w.heap.size + 1; omega) _).setCell (p := ⟨w.heap.size + 1, 4, none⟩) (by show w.heap.size ≤ w.heap.size + 1; omega) _)⟩
        have h9 : bb ≤ wc.heap.size := hb9.out
        simpa [World.setCell] using h9
  · have hsb : sb = false := by rw [← HSB.out, ← HNN.out]; simp [h0]
    subst hsb
    have h0b : decide (0 < nN) = false := by simp; omega
    have h0c : ¬ (0 : Int) < (nN : Int) := by omega
    go_cut [39] (fun sX wx => sX = .bool false ∧ Below w3.heap.size w3 wx)
    case first =>
      refine wp_region_any (by kernel_rfl) ?_
      (try (change wpAny _ _ _ _ _ _ _ (World.drew _)))
      refine wpAny_ready (rs := [0]) (by kernel_rfl) (by simp) ?_
      refine AllReady.cons rfl (fun K hK => ?_) AllReady.nil
      go_simp
      refine hK _ _ ?_
      clear hK K
      refine wpAny_ready (rs := [1]) (by kernel_rfl) (by simp) ?_
      refine AllReady.cons rfl (fun K hK => ?_) AllReady.nil
      go_simp
      refine hK _ _ ?_
      clear hK K
      refine wpAny_ready (rs := [2]) (by kernel_rfl) (by simp) ?_
      refine AllReady.cons rfl (fun K hK => ?_) AllReady.nil
      go_simp
      refine hK _ _ ?_
      clear hK K
      refine wpAny_ready (rs := [3]) (by kernel_rfl) (by simp) ?_
      refine AllReady.cons rfl (fun K hK => ?_) AllReady.nil
      go_simp
      refine hK _ _ ?_
      clear hK K
      refine wpAny_ready (rs := [4]) (by kernel_rfl) (by simp) ?_
      refine AllReady.cons rfl (fun K hK => ?_) AllReady.nil
      go_simp
      refine hK _ _ ?_
      clear hK K
      refine wpAny_take (i := 5) (v := undef) rfl (by kernel_rfl) (by kernel_rfl) (by kernel_rfl) (fun _ _ _ h => h) (Or.inr ⟨by rfl, rfl⟩) ?_
      refine wpAny_take (i := 7) (v := undef) rfl (by kernel_rfl) (by kernel_rfl) (by kernel_rfl) (fun _ _ _ h => h) (Or.inr ⟨by rfl, rfl⟩) ?_
      refine wpAny_take (i := 9) (v := undef) rfl (by kernel_rfl) (by kernel_rfl) (by kernel_rfl) (fun _ _ _ h => h) (Or.inr ⟨by rfl, rfl⟩) ?_
      refine wpAny_ready (rs := [6, 10]) (by kernel_rfl) (by simp) ?_
      refine AllReady.cons rfl (fun K hK => ?_) ?_
      · skip
        go_simp
        refine hK _ _ ?_
        clear hK K
        refine wpAny_ready (rs := [8, 10]) (by kernel_rfl) (by simp) ?_
        refine AllReady.cons rfl (fun K hK => ?_) ?_
        · skip
          go_simp
          refine hK _ _ ?_
          clear hK K
          refine wpAny_ready (rs := [10]) (by kernel_rfl) (by simp) ?_
          refine AllReady.cons rfl (fun K hK => ?_) AllReady.nil
          go_simp
          refine hK _ _ ?_
          clear hK K
          refine wpAny_ready (rs := [11]) (by kernel_rfl) (by simp) ?_
          refine AllReady.cons rfl (fun K hK => ?_) AllReady.nil
          go_simp
          refine hK _ _ ?_
          clear hK K
          refine wpAny_ready (rs := [12]) (by kernel_rfl) (by simp) ?_
          refine AllReady.cons rfl (fun K hK => ?_) AllReady.nil
          go_simp
          refine hK _ _ ?_
          clear hK K
          refine wpAny_done (by kernel_rfl) ?_ _
          (go_wp2_with fail; go_meet; exact ⟨by first | rfl | rw [hg], by first | exact Below.refl _ _ | exact (Below.refl _ _).drew | exact (Below.refl _ _).drew.drew⟩)
        refine AllReady.cons rfl (fun K hK => ?_) AllReady.nil
        go_simp
        refine hK _ _ ?_
        clear hK K
        refine wpAny_ready (rs := [8]) (by kernel_rfl) (by simp) ?_
        refine AllReady.cons rfl (fun K hK => ?_) AllReady.nil
        go_simp
        refine hK _ _ ?_
        clear hK K
        refine wpAny_ready (rs := [11]) (by kernel_rfl) (by simp) ?_
        refine AllReady.cons rfl (fun K hK => ?_) AllReady.nil
        go_simp
        refine hK _ _ ?_
        clear hK K
        refine wpAny_ready (rs := [12]) (by kernel_rfl) (by simp) ?_
        refine AllReady.cons rfl (fun K hK => ?_) AllReady.nil
        go_simp
        refine hK _ _ ?_
        clear hK K
        refine wpAny_done (by kernel_rfl) ?_ _
        (go_wp2_with fail; go_meet; exact ⟨by first | rfl | rw [hg], by first | exact Below.refl _ _ | exact (Below.refl _ _).drew | exact (Below.refl _ _).drew.drew⟩)
      refine AllReady.cons rfl (fun K hK => ?_) AllReady.nil
      go_simp
      refine hK _ _ ?_
      clear hK K
      refine wpAny_ready (rs := [6]) (by kernel_rfl) (by simp) ?_
      refine AllReady.cons rfl (fun K hK => ?_) AllReady.nil
      go_simp
      refine hK _ _ ?_
      clear hK K
      refine wpAny_ready (rs := [8]) (by kernel_rfl) (by simp) ?_
      refine AllReady.cons rfl (fun K hK => ?_) AllReady.nil
      go_simp
      refine hK _ _ ?_
      clear hK K
      refine wpAny_ready (rs := [11]) (by kernel_rfl) (by simp) ?_
      refine AllReady.cons rfl (fun K hK => ?_) AllReady.nil
      go_simp
      refine hK _ _ ?_
      clear hK K
      refine wpAny_ready (rs := [12]) (by kernel_rfl) (by simp) ?_
      refine AllReady.cons rfl (fun K hK => ?_) AllReady.nil
      go_simp
      refine hK _ _ ?_
      clear hK K
      refine wpAny_done (by kernel_rfl) ?_ _
      (go_wp2_with fail; go_meet; exact ⟨by first | rfl | rw [hg], by first | exact Below.refl _ _ | exact (Below.refl _ _).drew | exact (Below.refl _ _).drew.drew⟩)
    case rest =>
    obtain ⟨rfl, b'⟩ := hcut
    have R5 := R4.below b'
    have X5 := X4.below b'
    have N5 := N4.below b'
    have o5 := o4.below b'
    have U5 := U4.below b'
    have b5 := bel_next b4 b'
    have hbb5 : Hid (bb ≤ wc.heap.size) := by show _ ≤ _; have := b'.size; have := hbb4.out; omega
    clear b' R4 X4 N4 o4 U4 b4 hbb4 n0 n1 n2 n3 n4 x0 x1 x2 x3 x4 X5
    obtain ⟨n0, n1, n2, n3, n4⟩ := N5.five
    obtain ⟨r0, r1, r2, r3, r4⟩ := R5.five
    have fn := N5.fro
    have fr := R5.fro
    have d1 : ¬ gN = w.heap.size + 1 := by omega
    have d2 : ¬ w.heap.size + 1 = gN := by omega
    have hN5 := N5.lt
    by_cases hlen : (nN : Int) ≤ 256
    · have HZa : Hid (hrZ by' Z = Z ++ [by']) := by show _ = _; unfold hrZ; rw [if_pos (by have := HNN.out; omega)]
      have N6 := N5
      have R6 := R5
      have o6 := o5
      have U6 := U5
      have b6 := b5
      have qa := bel_alloc wc (.cells #[.int .u8 by'] 5)
      have o7 := o6.below qa
      have N7 := N6.below qa
      have R7 := R6.below qa
      have U7 := U6.below qa
      have b7 := bel_next b6 qa
      have hV : wc.heap.size = wc.heap.size := rfl
      have hl1 : Sl (wc.alloc (.cells #[.int .u8 by'] 5)) (some ⟨wc.heap.size, 0, none⟩) [by'] := sl_lit1 _ _ hV.symm
      have hsz7 : Hid (bb ≤ (wc.alloc (.cells #[.int .u8 by'] 5)).heap.size) := by show _ ≤ _; have := hbb5.out; have := qa.size; omega
      have hL7 : Hid (Z.length + [by'].length ≤ 4000000) := by show _ ≤ _; have := HZl.out; simp; omega
      clear hV qa o6 N6 R6 U6 b6 o5 N5 R5 U5 b5
      go_wp2_with (at_builtin; refine wpList_app rfl _ _ rfl bb (.slice aN nN cN) Z rfl o7 ⟨wc.heap.size, 0, none⟩ 1 1 [by'] rfl rfl hl1 hL7.out hsz7.out ?_; intro v' w8 oo g8; have uu := U7.keptRow o7 g8; have N8 := N7.grown g8 (row_noBlk o7 N7 (by decide)); have R8 := R7.grown g8 (row_noBlk o7 R7 (by decide)); have bq : Below w.heap.size w w8 := b7.grown g8 b7.size (fun k hk => by have := (World.ownsRow.lt o7 k hk).1; have := HBB.out; omega); have hb9 : Hid (bb ≤ w8.heap.size) := Nat.le_trans hsz7.out g8.size; clear r0 r1 r2 r3 r4 n0 n1 n2 n3 n4 fn fr hl1; obtain ⟨n0, n1, n2, n3, n4⟩ := N8.five; obtain ⟨r0, r1, r2, r3, r4⟩ := R8.five; have fn := N8.fro; have fr := R8.fro; have eN : ExB w8 gN 33 := ⟨_, N8⟩; have eR : ExB w8 (w.heap.size + 1) 33 := ⟨_, R8⟩; obtain ⟨a', c', n', rfl, hn'⟩ := own_shapeT oo; have HNa : Hid (n' = (Z ++ [by']).length) := hn'; rw [← HZa.out] at oo; clear g8 o7 N7 R7 U7 b7 N8 R8 hn')
      refine bodyPost_ret (v := .tuple #[rt a' n' c' tk D hf wh, .slice aW nW cW]) (by simp [results, Tryd.results27, go_sem, r0, r1, r2, r3, r4]) rfl ?_
      refine ⟨a', n', c', aW, nW, cW, bb, by simp only [Bool.or_false, Bool.or_true], (by rw [HZa.out]; exact HNa.out), (show Own _ _ _ _ from (row_setE (row_setE (row_setE (row_setE (row_setE (row_setE (row_setE oo eN (by decide)) (ExB.set eN) (by decide)) (ExB.set (ExB.set eR)) (by decide)) (ExB.set (ExB.set (ExB.set eR))) (by decide)) (ExB.set (ExB.set (ExB.set (ExB.set eR)))) (by decide)) (ExB.set (ExB.set (ExB.set (ExB.set (ExB.set eR))))) (by decide)) (ExB.set (ExB.set (ExB.set (ExB.set (ExB.set (ExB.set eR)))))) (by decide))), HBB.out, ?_, (GotW.setR (GotW.setR (GotW.setR (GotW.setR (GotW.setR (GotW.setR (GotW.setR uu eN) (ExB.set eN)) (ExB.set (ExB.set eR))) (ExB.set (ExB.set (ExB.set eR)))) (ExB.set (ExB.set (ExB.set (ExB.set eR))))) (ExB.set (ExB.set (ExB.set (ExB.set (ExB.set eR)))))) (ExB.set (ExB.set (ExB.set (ExB.set (ExB.set (ExB.set eR))))))), (((((((bq.setCell (p := ⟨gN, 0, none⟩) (by show w.heap.size ≤ gN; omega) _).setCell (p := ⟨gN, 1, none⟩) (by show w.heap.size ≤ gN; omega) _).setCell (p := ⟨w.heap.size + 1, 0, none⟩) (by show w.heap.size ≤ w.heap.size + 1; omega) _).setCell (p := ⟨w.heap.size + 1, 1, none⟩) (by show w.heap.size ≤ w.heap.size + 1; omega) _).setCell (p := ⟨w.heap.size + 1, 2, none⟩) (by show w.heap.size ≤ w.heap.size + 1; omega) _).setCell (p := ⟨w.heap.size + 1, 3, none⟩) (by show w.heap.size ≤ w.heap.size + 1; omega) _).setCell (p := ⟨w.heap.size + 1, 4, none⟩) (by show w.heap.size ≤ w.heap.size + 1; omega) _)⟩
      have h9 : bb ≤ w8.heap.size := hb9.out
      simpa [World.setCell] using h9
    · exact absurd hlen (by omega)

end Go.Proofs.YtonikfajopdagaaDoor
