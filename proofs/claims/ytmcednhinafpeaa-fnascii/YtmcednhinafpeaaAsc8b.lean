/- AsciiHear of the program, a frame open. -/
import Derived.Test.YtmcednhinafpeaaAsc8
namespace Go.Proofs.Ytmcednhinafpeaa
open Go.RowKit

set_option linter.unusedVariables false

set_option linter.unusedSimpArgs false

set_option maxRecDepth 20000 in
set_option maxHeartbeats 2000000 in
theorem implAsciiHear_oc (a : Option Addr) (l c : Nat) (ls wt b tk : Int) (zs : List Int) (w : World) (hn : l = zs.length) (hs : Sl w a zs) (hl : zs.length ≤ 2000000) (ho : okAk zs true ls wt = true) (ht : 0 ≤ tk ∧ tk ≤ 4294967295) (hgp : ¬ wt ≤ gap ls tk) (hb : b = 58) :
    Calls Try.prog 16 #[sc a l c true ls wt, .int .u8 b, .int .i64 tk] w fun e w' => XR w w' e [58] true tk wt (some (4, 0, [])) := by
  have HN : Hid (l = zs.length ∧ l ≤ 2000000 ∧ zs.length ≤ 2000000) := by show _ ∧ _; omega
  obtain ⟨W0, hW0'⟩ : ∃ W0, W0 = (w.alloc (.cells #[.slice a l c, .bool true, .int .i64 ls, .int .i64 wt] 31)).alloc (.cells #[.slice none 0 0, .bool false, .int .i64 0, .int .i64 0] 31) := ⟨_, rfl⟩
  have hW0 : Hid (W0 = _) := hW0'
  have hz : W0.heap.size = w.heap.size + 1 + 1 := by rw [hW0']; simp
  have B0 : Below w.heap.size w W0 := by rw [hW0']; exact bel_next (bel_alloc w _) (bel_alloc _ _)
  have X0 : Blk W0 w.heap.size 31 #[.slice a l c, .bool true, .int .i64 ls, .int .i64 wt] := by rw [hW0']; exact (Blk.new w _ _).below (bel_alloc _ _)
  have R0 : Blk W0 (w.heap.size + 1) 31 #[.slice none 0 0, .bool false, .int .i64 0, .int .i64 0] := by rw [hW0']; have := Blk.new (w.alloc (.cells #[.slice a l c, .bool true, .int .i64 ls, .int .i64 wt] 31)) #[.slice none 0 0, .bool false, .int .i64 0, .int .i64 0] 31; simpa using this
  have S1 : Hid (Sl W0 a zs) := hs.below B0
  clear hn hs hW0' hl
  subst hb
  have HP : Hid (0 ≤ ls ∧ ls ≤ 4294967295 ∧ 0 ≤ tk ∧ tk ≤ 4294967295) := ⟨(okAk_parts ho).2.2.2.1, (okAk_parts ho).2.2.2.2.1, ht⟩
  have h1 := ht.1
  have h2 := ht.2
  clear ht
  go_enter Try.func16, Try.ntmps16
  go_wp2_with fail
  rw [← hW0.out]
  refine (implAsciiOk_any a l c true ls wt zs _ HN.out.1 S1.out HN.out.2.1 _ ho).mono ?_
  rintro e w1 ⟨rfl, b'⟩
  have b1 := bel_next B0 b'
  have X1 := X0.below b'
  have R1 := R0.below b'
  have S2 : Hid (Sl w1 a zs) := S1.out.below b'
  clear b' B0 X0 R0 S1
  obtain ⟨x0, x1, x2, x3⟩ := X1.four
  clear ho
  go_wp2_with (go_at_call 46; go_in)
  refine (copyAscii_any a l c true ls wt zs _ HN.out.1 S2.out HN.out.2.2).mono ?_
  rintro e w2 ⟨g, rfl, o2, b'⟩
  have b2 := bel_next b1 b'
  have R2 := R1.below b'
  have o2' := o2.monoT b1.size
  clear b' o2 b1 R1 X1 x0 x1 x2 x3 S2
  obtain ⟨w3, hw3⟩ : ∃ x, x = (w2.alloc (.cells #[] 39)).alloc (.cells #[.slice (some ⟨g, 0, none⟩) l l, .bool true, .int .i64 ls, .int .i64 wt] 31) := ⟨_, rfl⟩
  obtain ⟨gL, hgL⟩ : ∃ x, x = w2.heap.size + 1 := ⟨_, rfl⟩
  obtain ⟨gT, hgT⟩ : ∃ x, x = w2.heap.size := ⟨_, rfl⟩
  have HW3 : Hid (w3 = _) := hw3
  have HGL : Hid (gL = w2.heap.size + 1) := hgL
  have HGT : Hid (gT = w2.heap.size) := hgT
  have q3 : Below w2.heap.size w2 w3 := by rw [hw3]; exact bel_next (bel_alloc _ _) (bel_alloc _ _)
  have N3 : Blk w3 gL 31 #[.slice (some ⟨g, 0, none⟩) l l, .bool true, .int .i64 ls, .int .i64 wt] := by rw [hw3, hgL]; have := Blk.new (w2.alloc (.cells #[] 39)) #[.slice (some ⟨g, 0, none⟩) l l, .bool true, .int .i64 ls, .int .i64 wt] 31; simpa using this
  have T3 : Blk w3 gT 39 #[] := by rw [hw3, hgT]; exact (Blk.new w2 _ _).below (bel_alloc _ _)
  have b3 := bel_next b2 q3
  have R3 := R2.below q3
  have o3 := o2'.below q3
  have HRL : Hid (w.heap.size + 1 < gL ∧ w.heap.size ≤ gT ∧ gT ≠ gL ∧ gT ≠ w.heap.size + 1) := by show _ ∧ _; have := R2.lt; omega
  clear hw3 hgL hgT q3 b2 R2 o2'
  go_wp2_with fail
  rw [← HW3.out]
  simp only [← HGL.out]
  simp only [← HGT.out]
  obtain ⟨n0, n1, n2, n3⟩ := N3.four
  go_cut [35] (fun s wc => s = .bool false ∧ Below w3.heap.size w3 wc)
  case first =>
    refine wp_region_any (by kernel_rfl) ?_
    (try (change wpAny _ _ _ _ _ _ _ (World.drew _)))
    refine wpAny_ready (rs := [0]) (by kernel_rfl) (by simp) ?_
    refine AllReady.cons rfl (fun K hK => ?_) AllReady.nil
    go_simp
    refine hK _ _ ?_
    clear hK K
    refine wpAny_ready (rs := [1]) (by kernel_rfl) (by simp) ?_
    refine AllReady.cons rfl (fun K hK => ?_) AllReady.nil
    go_simp
    refine hK _ _ ?_
    clear hK K
    refine wpAny_ready (rs := [2]) (by kernel_rfl) (by simp) ?_
    refine AllReady.cons rfl (fun K hK => ?_) AllReady.nil
    go_simp
    refine hK _ _ ?_
    clear hK K
    refine wpAny_take (i := 3) (v := ?v3) rfl (by kernel_rfl) (by kernel_rfl) (by kernel_rfl) (fun _ _ _ h => h) (Or.inl ⟨by rfl, ?h3⟩) ?_
    case h3 => intro w; go_simp; try (with_reducible rfl)
    refine wpAny_take (i := 5) (v := ?v5) rfl (by kernel_rfl) (by kernel_rfl) (by kernel_rfl) (fun _ _ _ h => h) (Or.inl ⟨by rfl, ?h5⟩) ?_
    case h5 => intro w; go_simp; try (with_reducible rfl)
    refine wpAny_take (i := 7) (v := ?v7) rfl (by kernel_rfl) (by kernel_rfl) (by kernel_rfl) (fun _ _ _ h => h) (Or.inl ⟨by rfl, ?h7⟩) ?_
    case h7 => intro w; go_simp; try (with_reducible rfl)
    refine wpAny_ready (rs := [4, 8]) (by kernel_rfl) (by simp) ?_
    refine AllReady.cons rfl (fun K hK => ?_) ?_
    · skip
      go_simp
      refine hK _ _ ?_
      clear hK K
      refine wpAny_ready (rs := [6, 8]) (by kernel_rfl) (by simp) ?_
      refine AllReady.cons rfl (fun K hK => ?_) ?_
      · skip
        go_simp
        go_wp2_with (go_at_call 48; refine (implGap_ok ls tk _ HP.out.1 HP.out.2.1 HP.out.2.2.1 HP.out.2.2.2).mono ?_; rintro e w5 ⟨rfl, e5⟩; subst e5)
        try (refine hK _ _ ?_; clear hK K)
        refine wpAny_ready (rs := [8]) (by kernel_rfl) (by simp) ?_
        refine AllReady.cons rfl (fun K hK => ?_) AllReady.nil
        go_simp
        refine hK _ _ ?_
        clear hK K
        refine wpAny_ready (rs := [9]) (by kernel_rfl) (by simp) ?_
        refine AllReady.cons rfl (fun K hK => ?_) AllReady.nil
        go_simp
        refine hK _ _ ?_
        clear hK K
        refine wpAny_ready (rs := [10]) (by kernel_rfl) (by simp) ?_
        refine AllReady.cons rfl (fun K hK => ?_) AllReady.nil
        go_simp
        refine hK _ _ ?_
        clear hK K
        refine wpAny_done (by kernel_rfl) ?_ _
        (go_wp2_with fail; go_meet; exact ⟨by first | rfl | simp [hgp], by first | exact Below.refl _ _ | exact (Below.refl _ _).drew | exact (Below.refl _ _).drew.drew⟩)
      refine AllReady.cons rfl (fun K hK => ?_) AllReady.nil
      go_simp
      refine hK _ _ ?_
      clear hK K
      refine wpAny_ready (rs := [6]) (by kernel_rfl) (by simp) ?_
      refine AllReady.cons rfl (fun K hK => ?_) AllReady.nil
      go_simp
      go_wp2_with (go_at_call 48; refine (implGap_ok ls tk _ HP.out.1 HP.out.2.1 HP.out.2.2.1 HP.out.2.2.2).mono ?_; rintro e w5 ⟨rfl, e5⟩; subst e5)
      try (refine hK _ _ ?_; clear hK K)
      refine wpAny_ready (rs := [9]) (by kernel_rfl) (by simp) ?_
      refine AllReady.cons rfl (fun K hK => ?_) AllReady.nil
      go_simp
      refine hK _ _ ?_
      clear hK K
      refine wpAny_ready (rs := [10]) (by kernel_rfl) (by simp) ?_
      refine AllReady.cons rfl (fun K hK => ?_) AllReady.nil
      go_simp
      refine hK _ _ ?_
      clear hK K
      refine wpAny_done (by kernel_rfl) ?_ _
      (go_wp2_with fail; go_meet; exact ⟨by first | rfl | simp [hgp], by first | exact Below.refl _ _ | exact (Below.refl _ _).drew | exact (Below.refl _ _).drew.drew⟩)
    refine AllReady.cons rfl (fun K hK => ?_) AllReady.nil
    go_simp
    refine hK _ _ ?_
    clear hK K
    refine wpAny_ready (rs := [4]) (by kernel_rfl) (by simp) ?_
    refine AllReady.cons rfl (fun K hK => ?_) AllReady.nil
    go_simp
    refine hK _ _ ?_
    clear hK K
    refine wpAny_ready (rs := [6]) (by kernel_rfl) (by simp) ?_
    refine AllReady.cons rfl (fun K hK => ?_) AllReady.nil
    go_simp
    go_wp2_with (go_at_call 48; refine (implGap_ok ls tk _ HP.out.1 HP.out.2.1 HP.out.2.2.1 HP.out.2.2.2).mono ?_; rintro e w5 ⟨rfl, e5⟩; subst e5)
    try (refine hK _ _ ?_; clear hK K)
    refine wpAny_ready (rs := [9]) (by kernel_rfl) (by simp) ?_
    refine AllReady.cons rfl (fun K hK => ?_) AllReady.nil
    go_simp
    refine hK _ _ ?_
    clear hK K
    refine wpAny_ready (rs := [10]) (by kernel_rfl) (by simp) ?_
    refine AllReady.cons rfl (fun K hK => ?_) AllReady.nil
    go_simp
    refine hK _ _ ?_
    clear hK K
    refine wpAny_done (by kernel_rfl) ?_ _
    (go_wp2_with fail; go_meet; exact ⟨by first | rfl | simp [hgp], by first | exact Below.refl _ _ | exact (Below.refl _ _).drew | exact (Below.refl _ _).drew.drew⟩)
  case rest =>
  obtain ⟨rfl, b'⟩ := hcut
  have R4 := R3.below b'
  have N4 := N3.below b'
  have T4 := T3.below b'
  have o4 := o3.below b'
  have b4 := bel_next b3 b'
  clear b' R3 N3 T3 o3 b3 n0 n1 n2 n3
  obtain ⟨n0, n1, n2, n3⟩ := N4.four
  have fn := N4.fro
  go_upto_region 7 with fail
  have N6 : Blk (wc.setCell ⟨gL, 2, none⟩ (.int .i64 tk)) gL 31 #[.slice (some ⟨g, 0, none⟩) l l, .bool true, .int .i64 tk, .int .i64 wt] := by have := N4.set 2 (.int .i64 tk); simpa using this
  have R6 : Blk (wc.setCell ⟨gL, 2, none⟩ (.int .i64 tk)) (w.heap.size + 1) 31 #[.slice none 0 0, .bool false, .int .i64 0, .int .i64 0] := R4.setNe (by have := HRL.out; omega)
  have T6 : Blk (wc.setCell ⟨gL, 2, none⟩ (.int .i64 tk)) gT 39 #[] := T4.setNe (by have := HRL.out; omega)
  have o6 : Own (wc.setCell ⟨gL, 2, none⟩ (.int .i64 tk)) w.heap.size (.slice (some ⟨g, 0, none⟩) l l) zs := own_set1 o4 ⟨_, N4⟩
  have b6 : Below w.heap.size w (wc.setCell ⟨gL, 2, none⟩ (.int .i64 tk)) := b4.setCell (p := ⟨gL, 2, none⟩) (by show w.heap.size ≤ gL; have := HRL.out; omega) _
  generalize wc.setCell ⟨gL, 2, none⟩ (.int .i64 tk) = w6 at *
  clear N4 R4 T4 o4 b4 n0 n1 n2 n3 fn
  obtain ⟨n0, n1, n2, n3⟩ := N6.four
  go_wp2_with fail
  refine (state_open (some ⟨g, 0, none⟩) l l tk wt _).mono ?_
  rintro e w7 ⟨rfl, b'⟩
  have N7 := N6.below b'
  have R7 := R6.below b'
  have T7 := T6.below b'
  have o7 := o6.below b'
  have b7 := bel_next b6 b'
  clear b' b6 N6 R6 T6 o6
  clear n0 n1 n2 n3
  go_wp2_with fail
  refine (within_colon (some ⟨g, 0, none⟩) l l true tk wt _).mono ?_
  rintro e w8 ⟨g8, gg, rfl, u8', hgg, M8, b'⟩
  have u8 := u8'.monoT b7.size
  have HGG : Hid (w.heap.size ≤ gg ∧ gg ≠ gL ∧ gg ≠ w.heap.size + 1) := by show _ ∧ _; have := N7.lt; have := R7.lt; have := b7.size; omega
  clear u8' hgg o7
  have N8 := N7.below b'
  have R8 := R7.below b'
  have T8 := T7.below b'
  have b8 := bel_next b7 b'
  clear b' b7 N7 R7 T7
  obtain ⟨n0, n1, n2, n3⟩ := N8.four
  have fn := N8.fro
  go_upto_region 9 with fail
  have N9 : Blk ((((w8.setCell ⟨gL, 0, none⟩ (.slice (some ⟨g8, 0, none⟩) 1 1)).setCell ⟨gL, 1, none⟩ (.bool true)).setCell ⟨gL, 2, none⟩ (.int .i64 tk)).setCell ⟨gL, 3, none⟩ (.int .i64 wt)) gL 31 #[.slice (some ⟨g8, 0, none⟩) 1 1, .bool true, .int .i64 tk, .int .i64 wt] := st4_self N8 _ _ _ _
  have R9 : Blk ((((w8.setCell ⟨gL, 0, none⟩ (.slice (some ⟨g8, 0, none⟩) 1 1)).setCell ⟨gL, 1, none⟩ (.bool true)).setCell ⟨gL, 2, none⟩ (.int .i64 tk)).setCell ⟨gL, 3, none⟩ (.int .i64 wt)) (w.heap.size + 1) 31 #[.slice none 0 0, .bool false, .int .i64 0, .int .i64 0] := st4_blk R8 (by have := HRL.out; omega)
  have b9 : Below w.heap.size w ((((w8.setCell ⟨gL, 0, none⟩ (.slice (some ⟨g8, 0, none⟩) 1 1)).setCell ⟨gL, 1, none⟩ (.bool true)).setCell ⟨gL, 2, none⟩ (.int .i64 tk)).setCell ⟨gL, 3, none⟩ (.int .i64 wt)) := st4_bel b8 (by have := HRL.out; omega)
  have M9 : Blk ((((w8.setCell ⟨gL, 0, none⟩ (.slice (some ⟨g8, 0, none⟩) 1 1)).setCell ⟨gL, 1, none⟩ (.bool true)).setCell ⟨gL, 2, none⟩ (.int .i64 tk)).setCell ⟨gL, 3, none⟩ (.int .i64 wt)) gg 39 (gcs 4 0 none 0 0 []) := st4_blk M8 HGG.out.2.1
  have u9 : Own ((((w8.setCell ⟨gL, 0, none⟩ (.slice (some ⟨g8, 0, none⟩) 1 1)).setCell ⟨gL, 1, none⟩ (.bool true)).setCell ⟨gL, 2, none⟩ (.int .i64 tk)).setCell ⟨gL, 3, none⟩ (.int .i64 wt)) w.heap.size (.slice (some ⟨g8, 0, none⟩) 1 1) [58] := st4_own u8 ⟨_, N8⟩
  generalize (((w8.setCell ⟨gL, 0, none⟩ (.slice (some ⟨g8, 0, none⟩) 1 1)).setCell ⟨gL, 1, none⟩ (.bool true)).setCell ⟨gL, 2, none⟩ (.int .i64 tk)).setCell ⟨gL, 3, none⟩ (.int .i64 wt) = w9 at *
  clear n0 n1 n2 n3 fn N8 R8 b8 T8 M8 u8
  obtain ⟨n0, n1, n2, n3⟩ := N9.four
  obtain ⟨r0, r1, r2, r3⟩ := R9.four
  have fr := R9.fro
  obtain ⟨gN, cN, W', rs, hap, hgN, M10, q10⟩ := app_one gT gg 4 0 none 0 0 w9.drew (M9.below (Below.refl _ _).drew)
  have q9 := bel_next (Below.refl _ w9).drew q10
  have HGN : Hid (w.heap.size ≤ gN ∧ gN ≠ w.heap.size + 1) := by show _ ∧ _; have := R9.lt; have := b9.size; simp at hgN; omega
  have N10 := N9.below q9
  have R10 := R9.below q9
  have b10 := bel_next b9 q9
  have u10 := u9.below q9
  clear q9 q10 hgN b9 M9 u9 
  obtain ⟨n4, n5, n6, n7⟩ := N10.four
  obtain ⟨r4, r5, r6, r7⟩ := R10.four
  have fr2 := R10.fro
  refine wp_region_any (by kernel_rfl) ?_
  (try (change wpAny _ _ _ _ _ _ _ (World.drew _)))
  refine wpAny_take (i := 1) (v := ?v1) rfl (by kernel_rfl) (by kernel_rfl) (by kernel_rfl) (fun _ _ _ h => h) (Or.inl ⟨by rfl, ?h1⟩) ?_
  case h1 => intro w; go_simp; try (with_reducible rfl)
  refine wpAny_take (i := 2) (v := ?v2) rfl (by kernel_rfl) (by kernel_rfl) (by kernel_rfl) (fun _ _ _ h => h) (Or.inl ⟨by rfl, ?h2⟩) ?_
  case h2 => intro w; go_simp; try (with_reducible rfl)
  refine wpAny_ready (rs := [0, 3]) (by kernel_rfl) (by simp) ?_
  refine AllReady.cons rfl (fun K hK => ?_) ?_
  · skip
    go_simp
    refine hK _ _ ?_
    clear hK K
    refine wpAny_ready (rs := [3]) (by kernel_rfl) (by simp) ?_
    refine AllReady.cons rfl (fun K hK => ?_) AllReady.nil
    refine step_appG rfl (.tmp 53) (.tmp 54) rfl (.slice (some ⟨gT, 0, none⟩) 0 0) (.slice (some ⟨gg, 0, none⟩) 1 1) (.slice (some ⟨gN, 0, none⟩) 1 cN) rfl rfl hap ?_
    refine hK _ _ ?_
    clear hK K
    refine wpAny_ready (rs := [4]) (by kernel_rfl) (by simp) ?_
    refine AllReady.cons rfl (fun K hK => ?_) AllReady.nil
    go_simp
    refine hK _ _ ?_
    clear hK K
    refine wpAny_ready (rs := [5]) (by kernel_rfl) (by simp) ?_
    refine AllReady.cons rfl (fun K hK => ?_) AllReady.nil
    go_simp
    refine hK _ _ ?_
    clear hK K
    refine wpAny_done (by kernel_rfl) ?_ _
    (go_wp2; refine bodyPost_ret (v := .tuple #[sc (some ⟨g8, 0, none⟩) 1 1 true tk wt, .slice (some ⟨gN, 0, none⟩) 1 cN]) (by simp [results, Try.results16, go_sem, r0, r1, r2, r3, r4, r5, r6, r7]) rfl ?_; exact ⟨_, _, _, _, _, _, rfl, rfl, st4_own u10 ⟨_, R10⟩, GotX.one HGN.out.1 (st4_blk M10 HGN.out.2) rfl ⟨rfl, .inl ⟨rfl, rfl⟩⟩ (.inr (.inl rfl)) (by simp), st4_bel b10 (by omega)⟩)
  refine AllReady.cons rfl (fun K hK => ?_) AllReady.nil
  refine step_appG rfl (.tmp 53) (.tmp 54) rfl (.slice (some ⟨gT, 0, none⟩) 0 0) (.slice (some ⟨gg, 0, none⟩) 1 1) (.slice (some ⟨gN, 0, none⟩) 1 cN) rfl rfl hap ?_
  refine hK _ _ ?_
  clear hK K
  refine wpAny_ready (rs := [0]) (by kernel_rfl) (by simp) ?_
  refine AllReady.cons rfl (fun K hK => ?_) AllReady.nil
  go_simp
  refine hK _ _ ?_
  clear hK K
  refine wpAny_ready (rs := [4]) (by kernel_rfl) (by simp) ?_
  refine AllReady.cons rfl (fun K hK => ?_) AllReady.nil
  go_simp
  refine hK _ _ ?_
  clear hK K
  refine wpAny_ready (rs := [5]) (by kernel_rfl) (by simp) ?_
  refine AllReady.cons rfl (fun K hK => ?_) AllReady.nil
  go_simp
  refine hK _ _ ?_
  clear hK K
  refine wpAny_done (by kernel_rfl) ?_ _
  (go_wp2; refine bodyPost_ret (v := .tuple #[sc (some ⟨g8, 0, none⟩) 1 1 true tk wt, .slice (some ⟨gN, 0, none⟩) 1 cN]) (by simp [results, Try.results16, go_sem, r0, r1, r2, r3, r4, r5, r6, r7]) rfl ?_; exact ⟨_, _, _, _, _, _, rfl, rfl, st4_own u10 ⟨_, R10⟩, GotX.one HGN.out.1 (st4_blk M10 HGN.out.2) rfl ⟨rfl, .inl ⟨rfl, rfl⟩⟩ (.inr (.inl rfl)) (by simp), st4_bel b10 (by omega)⟩)

set_option maxRecDepth 20000 in
set_option maxHeartbeats 2000000 in
theorem implAsciiHear_oa (a : Option Addr) (l c : Nat) (ls wt b tk : Int) (zs : List Int) (w : World) (hn : l = zs.length) (hs : Sl w a zs) (hl : zs.length ≤ 2000000) (ho : okAk zs true ls wt = true) (ht : 0 ≤ tk ∧ tk ≤ 4294967295) (hgp : ¬ wt ≤ gap ls tk) (hl6 : l < 600) (h10 : (b == 10) = false) (hb : (b == 58) = false) :
    Calls Try.prog 16 #[sc a l c true ls wt, .int .u8 b, .int .i64 tk] w fun e w' => XR w w' e (zs ++ [b]) true tk wt none := by
  have HN : Hid (l = zs.length ∧ l ≤ 2000000 ∧ zs.length ≤ 2000000) := by show _ ∧ _; omega
  obtain ⟨W0, hW0'⟩ : ∃ W0, W0 = (w.alloc (.cells #[.slice a l c, .bool true, .int .i64 ls, .int .i64 wt] 31)).alloc (.cells #[.slice none 0 0, .bool false, .int .i64 0, .int .i64 0] 31) := ⟨_, rfl⟩
  have hW0 : Hid (W0 = _) := hW0'
  have hz : W0.heap.size = w.heap.size + 1 + 1 := by rw [hW0']; simp
  have B0 : Below w.heap.size w W0 := by rw [hW0']; exact bel_next (bel_alloc w _) (bel_alloc _ _)
  have X0 : Blk W0 w.heap.size 31 #[.slice a l c, .bool true, .int .i64 ls, .int .i64 wt] := by rw [hW0']; exact (Blk.new w _ _).below (bel_alloc _ _)
  have R0 : Blk W0 (w.heap.size + 1) 31 #[.slice none 0 0, .bool false, .int .i64 0, .int .i64 0] := by rw [hW0']; have := Blk.new (w.alloc (.cells #[.slice a l c, .bool true, .int .i64 ls, .int .i64 wt] 31)) #[.slice none 0 0, .bool false, .int .i64 0, .int .i64 0] 31; simpa using this
  have S1 : Hid (Sl W0 a zs) := hs.below B0
  clear hn hs hW0' hl
  have HL6 : Hid (l ≤ 600) := by show l ≤ 600; have := HN.out.1; have := (okAk_parts ho).2.2.1; omega
  have HP : Hid (0 ≤ ls ∧ ls ≤ 4294967295 ∧ 0 ≤ tk ∧ tk ≤ 4294967295) := ⟨(okAk_parts ho).2.2.2.1, (okAk_parts ho).2.2.2.2.1, ht⟩
  have h1 := ht.1
  have h2 := ht.2
  clear ht
  go_enter Try.func16, Try.ntmps16
  go_wp2_with fail
  rw [← hW0.out]
  refine (implAsciiOk_any a l c true ls wt zs _ HN.out.1 S1.out HN.out.2.1 _ ho).mono ?_
  rintro e w1 ⟨rfl, b'⟩
  have b1 := bel_next B0 b'
  have X1 := X0.below b'
  have R1 := R0.below b'
  have S2 : Hid (Sl w1 a zs) := S1.out.below b'
  clear b' B0 X0 R0 S1
  obtain ⟨x0, x1, x2, x3⟩ := X1.four
  clear ho
  go_wp2_with (go_at_call 46; go_in)
  refine (copyAscii_any a l c true ls wt zs _ HN.out.1 S2.out HN.out.2.2).mono ?_
  rintro e w2 ⟨g, rfl, o2, b'⟩
  have b2 := bel_next b1 b'
  have R2 := R1.below b'
  have o2' := o2.monoT b1.size
  clear b' o2 b1 R1 X1 x0 x1 x2 x3 S2
  obtain ⟨w3, hw3⟩ : ∃ x, x = (w2.alloc (.cells #[] 39)).alloc (.cells #[.slice (some ⟨g, 0, none⟩) l l, .bool true, .int .i64 ls, .int .i64 wt] 31) := ⟨_, rfl⟩
  obtain ⟨gL, hgL⟩ : ∃ x, x = w2.heap.size + 1 := ⟨_, rfl⟩
  obtain ⟨gT, hgT⟩ : ∃ x, x = w2.heap.size := ⟨_, rfl⟩
  have HW3 : Hid (w3 = _) := hw3
  have HGL : Hid (gL = w2.heap.size + 1) := hgL
  have HGT : Hid (gT = w2.heap.size) := hgT
  have q3 : Below w2.heap.size w2 w3 := by rw [hw3]; exact bel_next (bel_alloc _ _) (bel_alloc _ _)
  have N3 : Blk w3 gL 31 #[.slice (some ⟨g, 0, none⟩) l l, .bool true, .int .i64 ls, .int .i64 wt] := by rw [hw3, hgL]; have := Blk.new (w2.alloc (.cells #[] 39)) #[.slice (some ⟨g, 0, none⟩) l l, .bool true, .int .i64 ls, .int .i64 wt] 31; simpa using this
  have T3 : Blk w3 gT 39 #[] := by rw [hw3, hgT]; exact (Blk.new w2 _ _).below (bel_alloc _ _)
  have b3 := bel_next b2 q3
  have R3 := R2.below q3
  have o3 := o2'.below q3
  have HRL : Hid (w.heap.size + 1 < gL ∧ w.heap.size ≤ gT ∧ gT ≠ gL ∧ gT ≠ w.heap.size + 1) := by show _ ∧ _; have := R2.lt; omega
  clear hw3 hgL hgT q3 b2 R2 o2'
  go_wp2_with fail
  rw [← HW3.out]
  simp only [← HGL.out]
  simp only [← HGT.out]
  obtain ⟨n0, n1, n2, n3⟩ := N3.four
  go_cut [35] (fun s wc => s = .bool false ∧ Below w3.heap.size w3 wc)
  case first =>
    refine wp_region_any (by kernel_rfl) ?_
    (try (change wpAny _ _ _ _ _ _ _ (World.drew _)))
    refine wpAny_ready (rs := [0]) (by kernel_rfl) (by simp) ?_
    refine AllReady.cons rfl (fun K hK => ?_) AllReady.nil
    go_simp
    refine hK _ _ ?_
    clear hK K
    refine wpAny_ready (rs := [1]) (by kernel_rfl) (by simp) ?_
    refine AllReady.cons rfl (fun K hK => ?_) AllReady.nil
    go_simp
    refine hK _ _ ?_
    clear hK K
    refine wpAny_ready (rs := [2]) (by kernel_rfl) (by simp) ?_
    refine AllReady.cons rfl (fun K hK => ?_) AllReady.nil
    go_simp
    refine hK _ _ ?_
    clear hK K
    refine wpAny_take (i := 3) (v := ?v3) rfl (by kernel_rfl) (by kernel_rfl) (by kernel_rfl) (fun _ _ _ h => h) (Or.inl ⟨by rfl, ?h3⟩) ?_
    case h3 => intro w; go_simp; try (with_reducible rfl)
    refine wpAny_take (i := 5) (v := ?v5) rfl (by kernel_rfl) (by kernel_rfl) (by kernel_rfl) (fun _ _ _ h => h) (Or.inl ⟨by rfl, ?h5⟩) ?_
    case h5 => intro w; go_simp; try (with_reducible rfl)
    refine wpAny_take (i := 7) (v := ?v7) rfl (by kernel_rfl) (by kernel_rfl) (by kernel_rfl) (fun _ _ _ h => h) (Or.inl ⟨by rfl, ?h7⟩) ?_
    case h7 => intro w; go_simp; try (with_reducible rfl)
    refine wpAny_ready (rs := [4, 8]) (by kernel_rfl) (by simp) ?_
    refine AllReady.cons rfl (fun K hK => ?_) ?_
    · skip
      go_simp
      refine hK _ _ ?_
      clear hK K
      refine wpAny_ready (rs := [6, 8]) (by kernel_rfl) (by simp) ?_
      refine AllReady.cons rfl (fun K hK => ?_) ?_
      · skip
        go_simp
        go_wp2_with (go_at_call 48; refine (implGap_ok ls tk _ HP.out.1 HP.out.2.1 HP.out.2.2.1 HP.out.2.2.2).mono ?_; rintro e w5 ⟨rfl, e5⟩; subst e5)
        try (refine hK _ _ ?_; clear hK K)
        refine wpAny_ready (rs := [8]) (by kernel_rfl) (by simp) ?_
        refine AllReady.cons rfl (fun K hK => ?_) AllReady.nil
        go_simp
        refine hK _ _ ?_
        clear hK K
        refine wpAny_ready (rs := [9]) (by kernel_rfl) (by simp) ?_
        refine AllReady.cons rfl (fun K hK => ?_) AllReady.nil
        go_simp
        refine hK _ _ ?_
        clear hK K
        refine wpAny_ready (rs := [10]) (by kernel_rfl) (by simp) ?_
        refine AllReady.cons rfl (fun K hK => ?_) AllReady.nil
        go_simp
        refine hK _ _ ?_
        clear hK K
        refine wpAny_done (by kernel_rfl) ?_ _
        (go_wp2_with fail; go_meet; exact ⟨by first | rfl | simp [hgp], by first | exact Below.refl _ _ | exact (Below.refl _ _).drew | exact (Below.refl _ _).drew.drew⟩)
      refine AllReady.cons rfl (fun K hK => ?_) AllReady.nil
      go_simp
      refine hK _ _ ?_
      clear hK K
      refine wpAny_ready (rs := [6]) (by kernel_rfl) (by simp) ?_
      refine AllReady.cons rfl (fun K hK => ?_) AllReady.nil
      go_simp
      go_wp2_with (go_at_call 48; refine (implGap_ok ls tk _ HP.out.1 HP.out.2.1 HP.out.2.2.1 HP.out.2.2.2).mono ?_; rintro e w5 ⟨rfl, e5⟩; subst e5)
      try (refine hK _ _ ?_; clear hK K)
      refine wpAny_ready (rs := [9]) (by kernel_rfl) (by simp) ?_
      refine AllReady.cons rfl (fun K hK => ?_) AllReady.nil
      go_simp
      refine hK _ _ ?_
      clear hK K
      refine wpAny_ready (rs := [10]) (by kernel_rfl) (by simp) ?_
      refine AllReady.cons rfl (fun K hK => ?_) AllReady.nil
      go_simp
      refine hK _ _ ?_
      clear hK K
      refine wpAny_done (by kernel_rfl) ?_ _
      (go_wp2_with fail; go_meet; exact ⟨by first | rfl | simp [hgp], by first | exact Below.refl _ _ | exact (Below.refl _ _).drew | exact (Below.refl _ _).drew.drew⟩)
    refine AllReady.cons rfl (fun K hK => ?_) AllReady.nil
    go_simp
    refine hK _ _ ?_
    clear hK K
    refine wpAny_ready (rs := [4]) (by kernel_rfl) (by simp) ?_
    refine AllReady.cons rfl (fun K hK => ?_) AllReady.nil
    go_simp
    refine hK _ _ ?_
    clear hK K
    refine wpAny_ready (rs := [6]) (by kernel_rfl) (by simp) ?_
    refine AllReady.cons rfl (fun K hK => ?_) AllReady.nil
    go_simp
    go_wp2_with (go_at_call 48; refine (implGap_ok ls tk _ HP.out.1 HP.out.2.1 HP.out.2.2.1 HP.out.2.2.2).mono ?_; rintro e w5 ⟨rfl, e5⟩; subst e5)
    try (refine hK _ _ ?_; clear hK K)
    refine wpAny_ready (rs := [9]) (by kernel_rfl) (by simp) ?_
    refine AllReady.cons rfl (fun K hK => ?_) AllReady.nil
    go_simp
    refine hK _ _ ?_
    clear hK K
    refine wpAny_ready (rs := [10]) (by kernel_rfl) (by simp) ?_
    refine AllReady.cons rfl (fun K hK => ?_) AllReady.nil
    go_simp
    refine hK _ _ ?_
    clear hK K
    refine wpAny_done (by kernel_rfl) ?_ _
    (go_wp2_with fail; go_meet; exact ⟨by first | rfl | simp [hgp], by first | exact Below.refl _ _ | exact (Below.refl _ _).drew | exact (Below.refl _ _).drew.drew⟩)
  case rest =>
  obtain ⟨rfl, b'⟩ := hcut
  have R4 := R3.below b'
  have N4 := N3.below b'
  have T4 := T3.below b'
  have o4 := o3.below b'
  have b4 := bel_next b3 b'
  clear b' R3 N3 T3 o3 b3 n0 n1 n2 n3
  obtain ⟨n0, n1, n2, n3⟩ := N4.four
  have fn := N4.fro
  go_upto_region 7 with fail
  have N6 : Blk (wc.setCell ⟨gL, 2, none⟩ (.int .i64 tk)) gL 31 #[.slice (some ⟨g, 0, none⟩) l l, .bool true, .int .i64 tk, .int .i64 wt] := by have := N4.set 2 (.int .i64 tk); simpa using this
  have R6 : Blk (wc.setCell ⟨gL, 2, none⟩ (.int .i64 tk)) (w.heap.size + 1) 31 #[.slice none 0 0, .bool false, .int .i64 0, .int .i64 0] := R4.setNe (by have := HRL.out; omega)
  have T6 : Blk (wc.setCell ⟨gL, 2, none⟩ (.int .i64 tk)) gT 39 #[] := T4.setNe (by have := HRL.out; omega)
  have o6 : Own (wc.setCell ⟨gL, 2, none⟩ (.int .i64 tk)) w.heap.size (.slice (some ⟨g, 0, none⟩) l l) zs := own_set1 o4 ⟨_, N4⟩
  have b6 : Below w.heap.size w (wc.setCell ⟨gL, 2, none⟩ (.int .i64 tk)) := b4.setCell (p := ⟨gL, 2, none⟩) (by show w.heap.size ≤ gL; have := HRL.out; omega) _
  generalize wc.setCell ⟨gL, 2, none⟩ (.int .i64 tk) = w6 at *
  clear N4 R4 T4 o4 b4 n0 n1 n2 n3 fn
  obtain ⟨n0, n1, n2, n3⟩ := N6.four
  go_wp2_with fail
  refine (state_open (some ⟨g, 0, none⟩) l l tk wt _).mono ?_
  rintro e w7 ⟨rfl, b'⟩
  have N7 := N6.below b'
  have R7 := R6.below b'
  have T7 := T6.below b'
  have o7 := o6.below b'
  have b7 := bel_next b6 b'
  clear b' b6 N6 R6 T6 o6
  clear n0 n1 n2 n3
  go_wp2_with fail
  refine (within_app w (some ⟨g, 0, none⟩) l l true tk wt b zs _ b7 o7 hl6 hb h10).mono ?_
  rintro e w8 ⟨a8, n8, c8, rfl, hn8, u8, b8, kb⟩
  have HN8 : Hid (n8 = (zs ++ [b]).length) := hn8
  clear hn8
  have N8 := kb _ _ _ N7 (by decide)
  have R8 := kb _ _ _ R7 (by decide)
  have T8 := kb _ _ _ T7 (by decide)
  clear kb N7 R7 T7 o7 b7
  obtain ⟨n0, n1, n2, n3⟩ := N8.four
  have fn := N8.fro
  go_upto_region 9 with fail
  have N9 : Blk ((((w8.setCell ⟨gL, 0, none⟩ (.slice a8 n8 c8)).setCell ⟨gL, 1, none⟩ (.bool true)).setCell ⟨gL, 2, none⟩ (.int .i64 tk)).setCell ⟨gL, 3, none⟩ (.int .i64 wt)) gL 31 #[.slice a8 n8 c8, .bool true, .int .i64 tk, .int .i64 wt] := st4_self N8 _ _ _ _
  have R9 : Blk ((((w8.setCell ⟨gL, 0, none⟩ (.slice a8 n8 c8)).setCell ⟨gL, 1, none⟩ (.bool true)).setCell ⟨gL, 2, none⟩ (.int .i64 tk)).setCell ⟨gL, 3, none⟩ (.int .i64 wt)) (w.heap.size + 1) 31 #[.slice none 0 0, .bool false, .int .i64 0, .int .i64 0] := st4_blk R8 (by have := HRL.out; omega)
  have b9 : Below w.heap.size w ((((w8.setCell ⟨gL, 0, none⟩ (.slice a8 n8 c8)).setCell ⟨gL, 1, none⟩ (.bool true)).setCell ⟨gL, 2, none⟩ (.int .i64 tk)).setCell ⟨gL, 3, none⟩ (.int .i64 wt)) := st4_bel b8 (by have := HRL.out; omega)
  have u9 : Own ((((w8.setCell ⟨gL, 0, none⟩ (.slice a8 n8 c8)).setCell ⟨gL, 1, none⟩ (.bool true)).setCell ⟨gL, 2, none⟩ (.int .i64 tk)).setCell ⟨gL, 3, none⟩ (.int .i64 wt)) w.heap.size (.slice a8 n8 c8) (zs ++ [b]) := st4_own u8 ⟨_, N8⟩
  generalize (((w8.setCell ⟨gL, 0, none⟩ (.slice a8 n8 c8)).setCell ⟨gL, 1, none⟩ (.bool true)).setCell ⟨gL, 2, none⟩ (.int .i64 tk)).setCell ⟨gL, 3, none⟩ (.int .i64 wt) = w9 at *
  clear n0 n1 n2 n3 fn N8 R8 b8 T8 u8
  obtain ⟨n0, n1, n2, n3⟩ := N9.four
  obtain ⟨r0, r1, r2, r3⟩ := R9.four
  have fr := R9.fro
  have hap := app_none gT 0 0 (Nat.le_refl _)
  go_region
  all_goals go_wp2
  all_goals refine bodyPost_ret (v := .tuple #[sc a8 n8 c8 true tk wt, .slice (some ⟨gT, 0, none⟩) 0 0]) (by simp [results, Try.results16, go_sem, r0, r1, r2, r3]) rfl ?_
  all_goals exact ⟨_, _, _, _, _, _, rfl, (by have := HN8.out; simpa using this), Own.below (st4_own u9 ⟨_, R9⟩) (Below.refl _ _).drew, .inl ⟨rfl, rfl⟩, (st4_bel b9 (by omega)).drew⟩

set_option maxRecDepth 20000 in
set_option maxHeartbeats 2000000 in
theorem implAsciiHear_ol (a : Option Addr) (l c : Nat) (ls wt b tk : Int) (zs : List Int) (w : World) (hn : l = zs.length) (hs : Sl w a zs) (hl : zs.length ≤ 2000000) (ho : okAk zs true ls wt = true) (ht : 0 ≤ tk ∧ tk ≤ 4294967295) (hgp : ¬ wt ≤ gap ls tk) (hl6 : l = 600) (hb : (b == 58) = false) :
    Calls Try.prog 16 #[sc a l c true ls wt, .int .u8 b, .int .i64 tk] w fun e w' => XR w w' e [] false tk wt (some (2, 0, [])) := by
  have HN : Hid (l = zs.length ∧ l ≤ 2000000 ∧ zs.length ≤ 2000000) := by show _ ∧ _; omega
  obtain ⟨W0, hW0'⟩ : ∃ W0, W0 = (w.alloc (.cells #[.slice a l c, .bool true, .int .i64 ls, .int .i64 wt] 31)).alloc (.cells #[.slice none 0 0, .bool false, .int .i64 0, .int .i64 0] 31) := ⟨_, rfl⟩
  have hW0 : Hid (W0 = _) := hW0'
  have hz : W0.heap.size = w.heap.size + 1 + 1 := by rw [hW0']; simp
  have B0 : Below w.heap.size w W0 := by rw [hW0']; exact bel_next (bel_alloc w _) (bel_alloc _ _)
  have X0 : Blk W0 w.heap.size 31 #[.slice a l c, .bool true, .int .i64 ls, .int .i64 wt] := by rw [hW0']; exact (Blk.new w _ _).below (bel_alloc _ _)
  have R0 : Blk W0 (w.heap.size + 1) 31 #[.slice none 0 0, .bool false, .int .i64 0, .int .i64 0] := by rw [hW0']; have := Blk.new (w.alloc (.cells #[.slice a l c, .bool true, .int .i64 ls, .int .i64 wt] 31)) #[.slice none 0 0, .bool false, .int .i64 0, .int .i64 0] 31; simpa using this
  have S1 : Hid (Sl W0 a zs) := hs.below B0
  clear hn hs hW0' hl
  have HL6 : Hid (l ≤ 600) := by show l ≤ 600; have := HN.out.1; have := (okAk_parts ho).2.2.1; omega
  have H600 := hide hl6
  clear hl6
  have HP : Hid (0 ≤ ls ∧ ls ≤ 4294967295 ∧ 0 ≤ tk ∧ tk ≤ 4294967295) := ⟨(okAk_parts ho).2.2.2.1, (okAk_parts ho).2.2.2.2.1, ht⟩
  have h1 := ht.1
  have h2 := ht.2
  clear ht
  go_enter Try.func16, Try.ntmps16
  go_wp2_with fail
  rw [← hW0.out]
  refine (implAsciiOk_any a l c true ls wt zs _ HN.out.1 S1.out HN.out.2.1 _ ho).mono ?_
  rintro e w1 ⟨rfl, b'⟩
  have b1 := bel_next B0 b'
  have X1 := X0.below b'
  have R1 := R0.below b'
  have S2 : Hid (Sl w1 a zs) := S1.out.below b'
  clear b' B0 X0 R0 S1
  obtain ⟨x0, x1, x2, x3⟩ := X1.four
  clear ho
  go_wp2_with (go_at_call 46; go_in)
  refine (copyAscii_any a l c true ls wt zs _ HN.out.1 S2.out HN.out.2.2).mono ?_
  rintro e w2 ⟨g, rfl, o2, b'⟩
  have b2 := bel_next b1 b'
  have R2 := R1.below b'
  have o2' := o2.monoT b1.size
  clear b' o2 b1 R1 X1 x0 x1 x2 x3 S2
  obtain ⟨w3, hw3⟩ : ∃ x, x = (w2.alloc (.cells #[] 39)).alloc (.cells #[.slice (some ⟨g, 0, none⟩) l l, .bool true, .int .i64 ls, .int .i64 wt] 31) := ⟨_, rfl⟩
  obtain ⟨gL, hgL⟩ : ∃ x, x = w2.heap.size + 1 := ⟨_, rfl⟩
  obtain ⟨gT, hgT⟩ : ∃ x, x = w2.heap.size := ⟨_, rfl⟩
  have HW3 : Hid (w3 = _) := hw3
  have HGL : Hid (gL = w2.heap.size + 1) := hgL
  have HGT : Hid (gT = w2.heap.size) := hgT
  have q3 : Below w2.heap.size w2 w3 := by rw [hw3]; exact bel_next (bel_alloc _ _) (bel_alloc _ _)
  have N3 : Blk w3 gL 31 #[.slice (some ⟨g, 0, none⟩) l l, .bool true, .int .i64 ls, .int .i64 wt] := by rw [hw3, hgL]; have := Blk.new (w2.alloc (.cells #[] 39)) #[.slice (some ⟨g, 0, none⟩) l l, .bool true, .int .i64 ls, .int .i64 wt] 31; simpa using this
  have T3 : Blk w3 gT 39 #[] := by rw [hw3, hgT]; exact (Blk.new w2 _ _).below (bel_alloc _ _)
  have b3 := bel_next b2 q3
  have R3 := R2.below q3
  have o3 := o2'.below q3
  have HRL : Hid (w.heap.size + 1 < gL ∧ w.heap.size ≤ gT ∧ gT ≠ gL ∧ gT ≠ w.heap.size + 1) := by show _ ∧ _; have := R2.lt; omega
  clear hw3 hgL hgT q3 b2 R2 o2'
  go_wp2_with fail
  rw [← HW3.out]
  simp only [← HGL.out]
  simp only [← HGT.out]
  obtain ⟨n0, n1, n2, n3⟩ := N3.four
  go_cut [35] (fun s wc => s = .bool false ∧ Below w3.heap.size w3 wc)
  case first =>
    refine wp_region_any (by kernel_rfl) ?_
    (try (change wpAny _ _ _ _ _ _ _ (World.drew _)))
    refine wpAny_ready (rs := [0]) (by kernel_rfl) (by simp) ?_
    refine AllReady.cons rfl (fun K hK => ?_) AllReady.nil
    go_simp
    refine hK _ _ ?_
    clear hK K
    refine wpAny_ready (rs := [1]) (by kernel_rfl) (by simp) ?_
    refine AllReady.cons rfl (fun K hK => ?_) AllReady.nil
    go_simp
    refine hK _ _ ?_
    clear hK K
    refine wpAny_ready (rs := [2]) (by kernel_rfl) (by simp) ?_
    refine AllReady.cons rfl (fun K hK => ?_) AllReady.nil
    go_simp
    refine hK _ _ ?_
    clear hK K
    refine wpAny_take (i := 3) (v := ?v3) rfl (by kernel_rfl) (by kernel_rfl) (by kernel_rfl) (fun _ _ _ h => h) (Or.inl ⟨by rfl, ?h3⟩) ?_
    case h3 => intro w; go_simp; try (with_reducible rfl)
    refine wpAny_take (i := 5) (v := ?v5) rfl (by kernel_rfl) (by kernel_rfl) (by kernel_rfl) (fun _ _ _ h => h) (Or.inl ⟨by rfl, ?h5⟩) ?_
    case h5 => intro w; go_simp; try (with_reducible rfl)
    refine wpAny_take (i := 7) (v := ?v7) rfl (by kernel_rfl) (by kernel_rfl) (by kernel_rfl) (fun _ _ _ h => h) (Or.inl ⟨by rfl, ?h7⟩) ?_
    case h7 => intro w; go_simp; try (with_reducible rfl)
    refine wpAny_ready (rs := [4, 8]) (by kernel_rfl) (by simp) ?_
    refine AllReady.cons rfl (fun K hK => ?_) ?_
    · skip
      go_simp
      refine hK _ _ ?_
      clear hK K
      refine wpAny_ready (rs := [6, 8]) (by kernel_rfl) (by simp) ?_
      refine AllReady.cons rfl (fun K hK => ?_) ?_
      · skip
        go_simp
        go_wp2_with (go_at_call 48; refine (implGap_ok ls tk _ HP.out.1 HP.out.2.1 HP.out.2.2.1 HP.out.2.2.2).mono ?_; rintro e w5 ⟨rfl, e5⟩; subst e5)
        try (refine hK _ _ ?_; clear hK K)
        refine wpAny_ready (rs := [8]) (by kernel_rfl) (by simp) ?_
        refine AllReady.cons rfl (fun K hK => ?_) AllReady.nil
        go_simp
        refine hK _ _ ?_
        clear hK K
        refine wpAny_ready (rs := [9]) (by kernel_rfl) (by simp) ?_
        refine AllReady.cons rfl (fun K hK => ?_) AllReady.nil
        go_simp
        refine hK _ _ ?_
        clear hK K
        refine wpAny_ready (rs := [10]) (by kernel_rfl) (by simp) ?_
        refine AllReady.cons rfl (fun K hK => ?_) AllReady.nil
        go_simp
        refine hK _ _ ?_
        clear hK K
        refine wpAny_done (by kernel_rfl) ?_ _
        (go_wp2_with fail; go_meet; exact ⟨by first | rfl | simp [hgp], by first | exact Below.refl _ _ | exact (Below.refl _ _).drew | exact (Below.refl _ _).drew.drew⟩)
      refine AllReady.cons rfl (fun K hK => ?_) AllReady.nil
      go_simp
      refine hK _ _ ?_
      clear hK K
      refine wpAny_ready (rs := [6]) (by kernel_rfl) (by simp) ?_
      refine AllReady.cons rfl (fun K hK => ?_) AllReady.nil
      go_simp
      go_wp2_with (go_at_call 48; refine (implGap_ok ls tk _ HP.out.1 HP.out.2.1 HP.out.2.2.1 HP.out.2.2.2).mono ?_; rintro e w5 ⟨rfl, e5⟩; subst e5)
      try (refine hK _ _ ?_; clear hK K)
      refine wpAny_ready (rs := [9]) (by kernel_rfl) (by simp) ?_
      refine AllReady.cons rfl (fun K hK => ?_) AllReady.nil
      go_simp
      refine hK _ _ ?_
      clear hK K
      refine wpAny_ready (rs := [10]) (by kernel_rfl) (by simp) ?_
      refine AllReady.cons rfl (fun K hK => ?_) AllReady.nil
      go_simp
      refine hK _ _ ?_
      clear hK K
      refine wpAny_done (by kernel_rfl) ?_ _
      (go_wp2_with fail; go_meet; exact ⟨by first | rfl | simp [hgp], by first | exact Below.refl _ _ | exact (Below.refl _ _).drew | exact (Below.refl _ _).drew.drew⟩)
    refine AllReady.cons rfl (fun K hK => ?_) AllReady.nil
    go_simp
    refine hK _ _ ?_
    clear hK K
    refine wpAny_ready (rs := [4]) (by kernel_rfl) (by simp) ?_
    refine AllReady.cons rfl (fun K hK => ?_) AllReady.nil
    go_simp
    refine hK _ _ ?_
    clear hK K
    refine wpAny_ready (rs := [6]) (by kernel_rfl) (by simp) ?_
    refine AllReady.cons rfl (fun K hK => ?_) AllReady.nil
    go_simp
    go_wp2_with (go_at_call 48; refine (implGap_ok ls tk _ HP.out.1 HP.out.2.1 HP.out.2.2.1 HP.out.2.2.2).mono ?_; rintro e w5 ⟨rfl, e5⟩; subst e5)
    try (refine hK _ _ ?_; clear hK K)
    refine wpAny_ready (rs := [9]) (by kernel_rfl) (by simp) ?_
    refine AllReady.cons rfl (fun K hK => ?_) AllReady.nil
    go_simp
    refine hK _ _ ?_
    clear hK K
    refine wpAny_ready (rs := [10]) (by kernel_rfl) (by simp) ?_
    refine AllReady.cons rfl (fun K hK => ?_) AllReady.nil
    go_simp
    refine hK _ _ ?_
    clear hK K
    refine wpAny_done (by kernel_rfl) ?_ _
    (go_wp2_with fail; go_meet; exact ⟨by first | rfl | simp [hgp], by first | exact Below.refl _ _ | exact (Below.refl _ _).drew | exact (Below.refl _ _).drew.drew⟩)
  case rest =>
  obtain ⟨rfl, b'⟩ := hcut
  have R4 := R3.below b'
  have N4 := N3.below b'
  have T4 := T3.below b'
  have o4 := o3.below b'
  have b4 := bel_next b3 b'
  clear b' R3 N3 T3 o3 b3 n0 n1 n2 n3
  obtain ⟨n0, n1, n2, n3⟩ := N4.four
  have fn := N4.fro
  go_upto_region 7 with fail
  have N6 : Blk (wc.setCell ⟨gL, 2, none⟩ (.int .i64 tk)) gL 31 #[.slice (some ⟨g, 0, none⟩) l l, .bool true, .int .i64 tk, .int .i64 wt] := by have := N4.set 2 (.int .i64 tk); simpa using this
  have R6 : Blk (wc.setCell ⟨gL, 2, none⟩ (.int .i64 tk)) (w.heap.size + 1) 31 #[.slice none 0 0, .bool false, .int .i64 0, .int .i64 0] := R4.setNe (by have := HRL.out; omega)
  have T6 : Blk (wc.setCell ⟨gL, 2, none⟩ (.int .i64 tk)) gT 39 #[] := T4.setNe (by have := HRL.out; omega)
  have o6 : Own (wc.setCell ⟨gL, 2, none⟩ (.int .i64 tk)) w.heap.size (.slice (some ⟨g, 0, none⟩) l l) zs := own_set1 o4 ⟨_, N4⟩
  have b6 : Below w.heap.size w (wc.setCell ⟨gL, 2, none⟩ (.int .i64 tk)) := b4.setCell (p := ⟨gL, 2, none⟩) (by show w.heap.size ≤ gL; have := HRL.out; omega) _
  generalize wc.setCell ⟨gL, 2, none⟩ (.int .i64 tk) = w6 at *
  clear N4 R4 T4 o4 b4 n0 n1 n2 n3 fn
  obtain ⟨n0, n1, n2, n3⟩ := N6.four
  go_wp2_with fail
  refine (state_open (some ⟨g, 0, none⟩) l l tk wt _).mono ?_
  rintro e w7 ⟨rfl, b'⟩
  have N7 := N6.below b'
  have R7 := R6.below b'
  have T7 := T6.below b'
  have o7 := o6.below b'
  have b7 := bel_next b6 b'
  clear b' b6 N6 R6 T6 o6
  clear n0 n1 n2 n3
  go_wp2_with fail
  refine (within_long w (some ⟨g, 0, none⟩) l l true tk wt b zs _ b7 o7 H600.out hb).mono ?_
  rintro e w8 ⟨gg, pa, pn, pc, rfl, hgg, M8, hpn, p8, b8, kb⟩
  have HPN := hide hpn
  clear hpn
  have N8 := kb _ _ _ N7 (by decide)
  have R8 := kb _ _ _ R7 (by decide)
  have T8 := kb _ _ _ T7 (by decide)
  have HGG : Hid (w.heap.size ≤ gg ∧ gg ≠ gL ∧ gg ≠ w.heap.size + 1) := ⟨hgg, blk_ne M8 N8 (by decide), blk_ne M8 R8 (by decide)⟩
  clear hgg
  clear kb N7 R7 T7 o7 b7
  obtain ⟨n0, n1, n2, n3⟩ := N8.four
  have fn := N8.fro
  go_upto_region 9 with fail
  have N9 : Blk ((((w8.setCell ⟨gL, 0, none⟩ (.slice none 0 0)).setCell ⟨gL, 1, none⟩ (.bool false)).setCell ⟨gL, 2, none⟩ (.int .i64 tk)).setCell ⟨gL, 3, none⟩ (.int .i64 wt)) gL 31 #[.slice none 0 0, .bool false, .int .i64 tk, .int .i64 wt] := st4_self N8 _ _ _ _
  have R9 : Blk ((((w8.setCell ⟨gL, 0, none⟩ (.slice none 0 0)).setCell ⟨gL, 1, none⟩ (.bool false)).setCell ⟨gL, 2, none⟩ (.int .i64 tk)).setCell ⟨gL, 3, none⟩ (.int .i64 wt)) (w.heap.size + 1) 31 #[.slice none 0 0, .bool false, .int .i64 0, .int .i64 0] := st4_blk R8 (by have := HRL.out; omega)
  have b9 : Below w.heap.size w ((((w8.setCell ⟨gL, 0, none⟩ (.slice none 0 0)).setCell ⟨gL, 1, none⟩ (.bool false)).setCell ⟨gL, 2, none⟩ (.int .i64 tk)).setCell ⟨gL, 3, none⟩ (.int .i64 wt)) := st4_bel b8 (by have := HRL.out; omega)
  have M9 : Blk ((((w8.setCell ⟨gL, 0, none⟩ (.slice none 0 0)).setCell ⟨gL, 1, none⟩ (.bool false)).setCell ⟨gL, 2, none⟩ (.int .i64 tk)).setCell ⟨gL, 3, none⟩ (.int .i64 wt)) gg 39 (gcs 2 0 pa pn pc []) := st4_blk M8 HGG.out.2.1
  have p9 : Own ((((w8.setCell ⟨gL, 0, none⟩ (.slice none 0 0)).setCell ⟨gL, 1, none⟩ (.bool false)).setCell ⟨gL, 2, none⟩ (.int .i64 tk)).setCell ⟨gL, 3, none⟩ (.int .i64 wt)) w.heap.size (.slice pa pn pc) [] := st4_own p8 ⟨_, N8⟩
  generalize (((w8.setCell ⟨gL, 0, none⟩ (.slice none 0 0)).setCell ⟨gL, 1, none⟩ (.bool false)).setCell ⟨gL, 2, none⟩ (.int .i64 tk)).setCell ⟨gL, 3, none⟩ (.int .i64 wt) = w9 at *
  clear n0 n1 n2 n3 fn N8 R8 b8 T8 M8 p8
  obtain ⟨n0, n1, n2, n3⟩ := N9.four
  obtain ⟨r0, r1, r2, r3⟩ := R9.four
  have fr := R9.fro
  obtain ⟨gN, cN, W', rs, hap, hgN, M10, q10⟩ := app_one gT gg 2 0 pa pn pc w9.drew (M9.below (Below.refl _ _).drew)
  have q9 := bel_next (Below.refl _ w9).drew q10
  have HGN : Hid (w.heap.size ≤ gN ∧ gN ≠ w.heap.size + 1) := by show _ ∧ _; have := R9.lt; have := b9.size; simp at hgN; omega
  have N10 := N9.below q9
  have R10 := R9.below q9
  have b10 := bel_next b9 q9
  have p10 := p9.below q9
  clear q9 q10 hgN b9 M9  p9
  obtain ⟨n4, n5, n6, n7⟩ := N10.four
  obtain ⟨r4, r5, r6, r7⟩ := R10.four
  have fr2 := R10.fro
  refine wp_region_any (by kernel_rfl) ?_
  (try (change wpAny _ _ _ _ _ _ _ (World.drew _)))
  refine wpAny_take (i := 1) (v := ?v1) rfl (by kernel_rfl) (by kernel_rfl) (by kernel_rfl) (fun _ _ _ h => h) (Or.inl ⟨by rfl, ?h1⟩) ?_
  case h1 => intro w; go_simp; try (with_reducible rfl)
  refine wpAny_take (i := 2) (v := ?v2) rfl (by kernel_rfl) (by kernel_rfl) (by kernel_rfl) (fun _ _ _ h => h) (Or.inl ⟨by rfl, ?h2⟩) ?_
  case h2 => intro w; go_simp; try (with_reducible rfl)
  refine wpAny_ready (rs := [0, 3]) (by kernel_rfl) (by simp) ?_
  refine AllReady.cons rfl (fun K hK => ?_) ?_
  · skip
    go_simp
    refine hK _ _ ?_
    clear hK K
    refine wpAny_ready (rs := [3]) (by kernel_rfl) (by simp) ?_
    refine AllReady.cons rfl (fun K hK => ?_) AllReady.nil
    refine step_appG rfl (.tmp 53) (.tmp 54) rfl (.slice (some ⟨gT, 0, none⟩) 0 0) (.slice (some ⟨gg, 0, none⟩) 1 1) (.slice (some ⟨gN, 0, none⟩) 1 cN) rfl rfl hap ?_
    refine hK _ _ ?_
    clear hK K
    refine wpAny_ready (rs := [4]) (by kernel_rfl) (by simp) ?_
    refine AllReady.cons rfl (fun K hK => ?_) AllReady.nil
    go_simp
    refine hK _ _ ?_
    clear hK K
    refine wpAny_ready (rs := [5]) (by kernel_rfl) (by simp) ?_
    refine AllReady.cons rfl (fun K hK => ?_) AllReady.nil
    go_simp
    refine hK _ _ ?_
    clear hK K
    refine wpAny_done (by kernel_rfl) ?_ _
    (go_wp2; refine bodyPost_ret (v := .tuple #[sc none 0 0 false tk wt, .slice (some ⟨gN, 0, none⟩) 1 cN]) (by simp [results, Try.results16, go_sem, r0, r1, r2, r3, r4, r5, r6, r7]) rfl ?_; exact ⟨_, _, _, _, _, _, rfl, rfl, ⟨rfl, .inl ⟨rfl, rfl⟩⟩, GotX.one HGN.out.1 (st4_blk M10 HGN.out.2) HPN.out (st4_own p10 ⟨_, R10⟩) (.inl rfl) (by simp), st4_bel b10 (by omega)⟩)
  refine AllReady.cons rfl (fun K hK => ?_) AllReady.nil
  refine step_appG rfl (.tmp 53) (.tmp 54) rfl (.slice (some ⟨gT, 0, none⟩) 0 0) (.slice (some ⟨gg, 0, none⟩) 1 1) (.slice (some ⟨gN, 0, none⟩) 1 cN) rfl rfl hap ?_
  refine hK _ _ ?_
  clear hK K
  refine wpAny_ready (rs := [0]) (by kernel_rfl) (by simp) ?_
  refine AllReady.cons rfl (fun K hK => ?_) AllReady.nil
  go_simp
  refine hK _ _ ?_
  clear hK K
  refine wpAny_ready (rs := [4]) (by kernel_rfl) (by simp) ?_
  refine AllReady.cons rfl (fun K hK => ?_) AllReady.nil
  go_simp
  refine hK _ _ ?_
  clear hK K
  refine wpAny_ready (rs := [5]) (by kernel_rfl) (by simp) ?_
  refine AllReady.cons rfl (fun K hK => ?_) AllReady.nil
  go_simp
  refine hK _ _ ?_
  clear hK K
  refine wpAny_done (by kernel_rfl) ?_ _
  (go_wp2; refine bodyPost_ret (v := .tuple #[sc none 0 0 false tk wt, .slice (some ⟨gN, 0, none⟩) 1 cN]) (by simp [results, Try.results16, go_sem, r0, r1, r2, r3, r4, r5, r6, r7]) rfl ?_; exact ⟨_, _, _, _, _, _, rfl, rfl, ⟨rfl, .inl ⟨rfl, rfl⟩⟩, GotX.one HGN.out.1 (st4_blk M10 HGN.out.2) HPN.out (st4_own p10 ⟨_, R10⟩) (.inl rfl) (by simp), st4_bel b10 (by omega)⟩)

set_option maxRecDepth 20000 in
set_option maxHeartbeats 2000000 in
theorem implAsciiHear_oe (a : Option Addr) (l c : Nat) (ls wt b tk : Int) (zs : List Int) (w : World) (hn : l = zs.length) (hs : Sl w a zs) (hl : zs.length ≤ 2000000) (ho : okAk zs true ls wt = true) (ht : 0 ≤ tk ∧ tk ≤ 4294967295) (hgp : ¬ wt ≤ gap ls tk) (hl6 : l < 600) (h10 : b = 10) :
    Calls Try.prog 16 #[sc a l c true ls wt, .int .u8 b, .int .i64 tk] w fun e w' => XR w w' e [] false tk wt (some (gaC (zs ++ [10]), gaU (zs ++ [10]), gaP (zs ++ [10]))) := by
  have HN : Hid (l = zs.length ∧ l ≤ 2000000 ∧ zs.length ≤ 2000000) := by show _ ∧ _; omega
  obtain ⟨W0, hW0'⟩ : ∃ W0, W0 = (w.alloc (.cells #[.slice a l c, .bool true, .int .i64 ls, .int .i64 wt] 31)).alloc (.cells #[.slice none 0 0, .bool false, .int .i64 0, .int .i64 0] 31) := ⟨_, rfl⟩
  have hW0 : Hid (W0 = _) := hW0'
  have hz : W0.heap.size = w.heap.size + 1 + 1 := by rw [hW0']; simp
  have B0 : Below w.heap.size w W0 := by rw [hW0']; exact bel_next (bel_alloc w _) (bel_alloc _ _)
  have X0 : Blk W0 w.heap.size 31 #[.slice a l c, .bool true, .int .i64 ls, .int .i64 wt] := by rw [hW0']; exact (Blk.new w _ _).below (bel_alloc _ _)
  have R0 : Blk W0 (w.heap.size + 1) 31 #[.slice none 0 0, .bool false, .int .i64 0, .int .i64 0] := by rw [hW0']; have := Blk.new (w.alloc (.cells #[.slice a l c, .bool true, .int .i64 ls, .int .i64 wt] 31)) #[.slice none 0 0, .bool false, .int .i64 0, .int .i64 0] 31; simpa using this
  have S1 : Hid (Sl W0 a zs) := hs.below B0
  clear hn hs hW0' hl
  have HL6 : Hid (l ≤ 600) := by show l ≤ 600; have := HN.out.1; have := (okAk_parts ho).2.2.1; omega
  subst h10
  have HP : Hid (0 ≤ ls ∧ ls ≤ 4294967295 ∧ 0 ≤ tk ∧ tk ≤ 4294967295) := ⟨(okAk_parts ho).2.2.2.1, (okAk_parts ho).2.2.2.2.1, ht⟩
  have h1 := ht.1
  have h2 := ht.2
  clear ht
  go_enter Try.func16, Try.ntmps16
  go_wp2_with fail
  rw [← hW0.out]
  refine (implAsciiOk_any a l c true ls wt zs _ HN.out.1 S1.out HN.out.2.1 _ ho).mono ?_
  rintro e w1 ⟨rfl, b'⟩
  have b1 := bel_next B0 b'
  have X1 := X0.below b'
  have R1 := R0.below b'
  have S2 : Hid (Sl w1 a zs) := S1.out.below b'
  clear b' B0 X0 R0 S1
  obtain ⟨x0, x1, x2, x3⟩ := X1.four
  clear ho
  go_wp2_with (go_at_call 46; go_in)
  refine (copyAscii_any a l c true ls wt zs _ HN.out.1 S2.out HN.out.2.2).mono ?_
  rintro e w2 ⟨g, rfl, o2, b'⟩
  have b2 := bel_next b1 b'
  have R2 := R1.below b'
  have o2' := o2.monoT b1.size
  clear b' o2 b1 R1 X1 x0 x1 x2 x3 S2
  obtain ⟨w3, hw3⟩ : ∃ x, x = (w2.alloc (.cells #[] 39)).alloc (.cells #[.slice (some ⟨g, 0, none⟩) l l, .bool true, .int .i64 ls, .int .i64 wt] 31) := ⟨_, rfl⟩
  obtain ⟨gL, hgL⟩ : ∃ x, x = w2.heap.size + 1 := ⟨_, rfl⟩
  obtain ⟨gT, hgT⟩ : ∃ x, x = w2.heap.size := ⟨_, rfl⟩
  have HW3 : Hid (w3 = _) := hw3
  have HGL : Hid (gL = w2.heap.size + 1) := hgL
  have HGT : Hid (gT = w2.heap.size) := hgT
  have q3 : Below w2.heap.size w2 w3 := by rw [hw3]; exact bel_next (bel_alloc _ _) (bel_alloc _ _)
  have N3 : Blk w3 gL 31 #[.slice (some ⟨g, 0, none⟩) l l, .bool true, .int .i64 ls, .int .i64 wt] := by rw [hw3, hgL]; have := Blk.new (w2.alloc (.cells #[] 39)) #[.slice (some ⟨g, 0, none⟩) l l, .bool true, .int .i64 ls, .int .i64 wt] 31; simpa using this
  have T3 : Blk w3 gT 39 #[] := by rw [hw3, hgT]; exact (Blk.new w2 _ _).below (bel_alloc _ _)
  have b3 := bel_next b2 q3
  have R3 := R2.below q3
  have o3 := o2'.below q3
  have HRL : Hid (w.heap.size + 1 < gL ∧ w.heap.size ≤ gT ∧ gT ≠ gL ∧ gT ≠ w.heap.size + 1) := by show _ ∧ _; have := R2.lt; omega
  clear hw3 hgL hgT q3 b2 R2 o2'
  go_wp2_with fail
  rw [← HW3.out]
  simp only [← HGL.out]
  simp only [← HGT.out]
  obtain ⟨n0, n1, n2, n3⟩ := N3.four
  go_cut [35] (fun s wc => s = .bool false ∧ Below w3.heap.size w3 wc)
  case first =>
    refine wp_region_any (by kernel_rfl) ?_
    (try (change wpAny _ _ _ _ _ _ _ (World.drew _)))
    refine wpAny_ready (rs := [0]) (by kernel_rfl) (by simp) ?_
    refine AllReady.cons rfl (fun K hK => ?_) AllReady.nil
    go_simp
    refine hK _ _ ?_
    clear hK K
    refine wpAny_ready (rs := [1]) (by kernel_rfl) (by simp) ?_
    refine AllReady.cons rfl (fun K hK => ?_) AllReady.nil
    go_simp
    refine hK _ _ ?_
    clear hK K
    refine wpAny_ready (rs := [2]) (by kernel_rfl) (by simp) ?_
    refine AllReady.cons rfl (fun K hK => ?_) AllReady.nil
    go_simp
    refine hK _ _ ?_
    clear hK K
    refine wpAny_take (i := 3) (v := ?v3) rfl (by kernel_rfl) (by kernel_rfl) (by kernel_rfl) (fun _ _ _ h => h) (Or.inl ⟨by rfl, ?h3⟩) ?_
    case h3 => intro w; go_simp; try (with_reducible rfl)
    refine wpAny_take (i := 5) (v := ?v5) rfl (by kernel_rfl) (by kernel_rfl) (by kernel_rfl) (fun _ _ _ h => h) (Or.inl ⟨by rfl, ?h5⟩) ?_
    case h5 => intro w; go_simp; try (with_reducible rfl)
    refine wpAny_take (i := 7) (v := ?v7) rfl (by kernel_rfl) (by kernel_rfl) (by kernel_rfl) (fun _ _ _ h => h) (Or.inl ⟨by rfl, ?h7⟩) ?_
    case h7 => intro w; go_simp; try (with_reducible rfl)
    refine wpAny_ready (rs := [4, 8]) (by kernel_rfl) (by simp) ?_
    refine AllReady.cons rfl (fun K hK => ?_) ?_
    · skip
      go_simp
      refine hK _ _ ?_
      clear hK K
      refine wpAny_ready (rs := [6, 8]) (by kernel_rfl) (by simp) ?_
      refine AllReady.cons rfl (fun K hK => ?_) ?_
      · skip
        go_simp
        go_wp2_with (go_at_call 48; refine (implGap_ok ls tk _ HP.out.1 HP.out.2.1 HP.out.2.2.1 HP.out.2.2.2).mono ?_; rintro e w5 ⟨rfl, e5⟩; subst e5)
        try (refine hK _ _ ?_; clear hK K)
        refine wpAny_ready (rs := [8]) (by kernel_rfl) (by simp) ?_
        refine AllReady.cons rfl (fun K hK => ?_) AllReady.nil
        go_simp
        refine hK _ _ ?_
        clear hK K
        refine wpAny_ready (rs := [9]) (by kernel_rfl) (by simp) ?_
        refine AllReady.cons rfl (fun K hK => ?_) AllReady.nil
        go_simp
        refine hK _ _ ?_
        clear hK K
        refine wpAny_ready (rs := [10]) (by kernel_rfl) (by simp) ?_
        refine AllReady.cons rfl (fun K hK => ?_) AllReady.nil
        go_simp
        refine hK _ _ ?_
        clear hK K
        refine wpAny_done (by kernel_rfl) ?_ _
        (go_wp2_with fail; go_meet; exact ⟨by first | rfl | simp [hgp], by first | exact Below.refl _ _ | exact (Below.refl _ _).drew | exact (Below.refl _ _).drew.drew⟩)
      refine AllReady.cons rfl (fun K hK => ?_) AllReady.nil
      go_simp
      refine hK _ _ ?_
      clear hK K
      refine wpAny_ready (rs := [6]) (by kernel_rfl) (by simp) ?_
      refine AllReady.cons rfl (fun K hK => ?_) AllReady.nil
      go_simp
      go_wp2_with (go_at_call 48; refine (implGap_ok ls tk _ HP.out.1 HP.out.2.1 HP.out.2.2.1 HP.out.2.2.2).mono ?_; rintro e w5 ⟨rfl, e5⟩; subst e5)
      try (refine hK _ _ ?_; clear hK K)
      refine wpAny_ready (rs := [9]) (by kernel_rfl) (by simp) ?_
      refine AllReady.cons rfl (fun K hK => ?_) AllReady.nil
      go_simp
      refine hK _ _ ?_
      clear hK K
      refine wpAny_ready (rs := [10]) (by kernel_rfl) (by simp) ?_
      refine AllReady.cons rfl (fun K hK => ?_) AllReady.nil
      go_simp
      refine hK _ _ ?_
      clear hK K
      refine wpAny_done (by kernel_rfl) ?_ _
      (go_wp2_with fail; go_meet; exact ⟨by first | rfl | simp [hgp], by first | exact Below.refl _ _ | exact (Below.refl _ _).drew | exact (Below.refl _ _).drew.drew⟩)
    refine AllReady.cons rfl (fun K hK => ?_) AllReady.nil
    go_simp
    refine hK _ _ ?_
    clear hK K
    refine wpAny_ready (rs := [4]) (by kernel_rfl) (by simp) ?_
    refine AllReady.cons rfl (fun K hK => ?_) AllReady.nil
    go_simp
    refine hK _ _ ?_
    clear hK K
    refine wpAny_ready (rs := [6]) (by kernel_rfl) (by simp) ?_
    refine AllReady.cons rfl (fun K hK => ?_) AllReady.nil
    go_simp
    go_wp2_with (go_at_call 48; refine (implGap_ok ls tk _ HP.out.1 HP.out.2.1 HP.out.2.2.1 HP.out.2.2.2).mono ?_; rintro e w5 ⟨rfl, e5⟩; subst e5)
    try (refine hK _ _ ?_; clear hK K)
    refine wpAny_ready (rs := [9]) (by kernel_rfl) (by simp) ?_
    refine AllReady.cons rfl (fun K hK => ?_) AllReady.nil
    go_simp
    refine hK _ _ ?_
    clear hK K
    refine wpAny_ready (rs := [10]) (by kernel_rfl) (by simp) ?_
    refine AllReady.cons rfl (fun K hK => ?_) AllReady.nil
    go_simp
    refine hK _ _ ?_
    clear hK K
    refine wpAny_done (by kernel_rfl) ?_ _
    (go_wp2_with fail; go_meet; exact ⟨by first | rfl | simp [hgp], by first | exact Below.refl _ _ | exact (Below.refl _ _).drew | exact (Below.refl _ _).drew.drew⟩)
  case rest =>
  obtain ⟨rfl, b'⟩ := hcut
  have R4 := R3.below b'
  have N4 := N3.below b'
  have T4 := T3.below b'
  have o4 := o3.below b'
  have b4 := bel_next b3 b'
  clear b' R3 N3 T3 o3 b3 n0 n1 n2 n3
  obtain ⟨n0, n1, n2, n3⟩ := N4.four
  have fn := N4.fro
  go_upto_region 7 with fail
  have N6 : Blk (wc.setCell ⟨gL, 2, none⟩ (.int .i64 tk)) gL 31 #[.slice (some ⟨g, 0, none⟩) l l, .bool true, .int .i64 tk, .int .i64 wt] := by have := N4.set 2 (.int .i64 tk); simpa using this
  have R6 : Blk (wc.setCell ⟨gL, 2, none⟩ (.int .i64 tk)) (w.heap.size + 1) 31 #[.slice none 0 0, .bool false, .int .i64 0, .int .i64 0] := R4.setNe (by have := HRL.out; omega)
  have T6 : Blk (wc.setCell ⟨gL, 2, none⟩ (.int .i64 tk)) gT 39 #[] := T4.setNe (by have := HRL.out; omega)
  have o6 : Own (wc.setCell ⟨gL, 2, none⟩ (.int .i64 tk)) w.heap.size (.slice (some ⟨g, 0, none⟩) l l) zs := own_set1 o4 ⟨_, N4⟩
  have b6 : Below w.heap.size w (wc.setCell ⟨gL, 2, none⟩ (.int .i64 tk)) := b4.setCell (p := ⟨gL, 2, none⟩) (by show w.heap.size ≤ gL; have := HRL.out; omega) _
  generalize wc.setCell ⟨gL, 2, none⟩ (.int .i64 tk) = w6 at *
  clear N4 R4 T4 o4 b4 n0 n1 n2 n3 fn
  obtain ⟨n0, n1, n2, n3⟩ := N6.four
  go_wp2_with fail
  refine (state_open (some ⟨g, 0, none⟩) l l tk wt _).mono ?_
  rintro e w7 ⟨rfl, b'⟩
  have N7 := N6.below b'
  have R7 := R6.below b'
  have T7 := T6.below b'
  have o7 := o6.below b'
  have b7 := bel_next b6 b'
  clear b' b6 N6 R6 T6 o6
  clear n0 n1 n2 n3
  go_wp2_with fail
  refine (within_end w (some ⟨g, 0, none⟩) l l true tk wt 10 zs _ b7 o7 hl6 rfl).mono ?_
  rintro e w8 ⟨gg, pa, pn, pc, rfl, hgg, M8, hpn, p8, b8, kb⟩
  have HPN := hide hpn
  clear hpn
  have N8 := kb _ _ _ N7 (by decide)
  have R8 := kb _ _ _ R7 (by decide)
  have T8 := kb _ _ _ T7 (by decide)
  have HGG : Hid (w.heap.size ≤ gg ∧ gg ≠ gL ∧ gg ≠ w.heap.size + 1) := ⟨hgg, blk_ne M8 N8 (by decide), blk_ne M8 R8 (by decide)⟩
  clear hgg
  clear kb N7 R7 T7 o7 b7
  obtain ⟨n0, n1, n2, n3⟩ := N8.four
  have fn := N8.fro
  go_upto_region 9 with fail
  have N9 : Blk ((((w8.setCell ⟨gL, 0, none⟩ (.slice none 0 0)).setCell ⟨gL, 1, none⟩ (.bool false)).setCell ⟨gL, 2, none⟩ (.int .i64 tk)).setCell ⟨gL, 3, none⟩ (.int .i64 wt)) gL 31 #[.slice none 0 0, .bool false, .int .i64 tk, .int .i64 wt] := st4_self N8 _ _ _ _
  have R9 : Blk ((((w8.setCell ⟨gL, 0, none⟩ (.slice none 0 0)).setCell ⟨gL, 1, none⟩ (.bool false)).setCell ⟨gL, 2, none⟩ (.int .i64 tk)).setCell ⟨gL, 3, none⟩ (.int .i64 wt)) (w.heap.size + 1) 31 #[.slice none 0 0, .bool false, .int .i64 0, .int .i64 0] := st4_blk R8 (by have := HRL.out; omega)
  have b9 : Below w.heap.size w ((((w8.setCell ⟨gL, 0, none⟩ (.slice none 0 0)).setCell ⟨gL, 1, none⟩ (.bool false)).setCell ⟨gL, 2, none⟩ (.int .i64 tk)).setCell ⟨gL, 3, none⟩ (.int .i64 wt)) := st4_bel b8 (by have := HRL.out; omega)
  have M9 : Blk ((((w8.setCell ⟨gL, 0, none⟩ (.slice none 0 0)).setCell ⟨gL, 1, none⟩ (.bool false)).setCell ⟨gL, 2, none⟩ (.int .i64 tk)).setCell ⟨gL, 3, none⟩ (.int .i64 wt)) gg 39 (gcs (gaC (zs ++ [10])) (gaU (zs ++ [10])) pa pn pc []) := st4_blk M8 HGG.out.2.1
  have p9 : Own ((((w8.setCell ⟨gL, 0, none⟩ (.slice none 0 0)).setCell ⟨gL, 1, none⟩ (.bool false)).setCell ⟨gL, 2, none⟩ (.int .i64 tk)).setCell ⟨gL, 3, none⟩ (.int .i64 wt)) w.heap.size (.slice pa pn pc) (gaP (zs ++ [10])) := st4_own p8 ⟨_, N8⟩
  generalize (((w8.setCell ⟨gL, 0, none⟩ (.slice none 0 0)).setCell ⟨gL, 1, none⟩ (.bool false)).setCell ⟨gL, 2, none⟩ (.int .i64 tk)).setCell ⟨gL, 3, none⟩ (.int .i64 wt) = w9 at *
  clear n0 n1 n2 n3 fn N8 R8 b8 T8 M8 p8
  obtain ⟨n0, n1, n2, n3⟩ := N9.four
  obtain ⟨r0, r1, r2, r3⟩ := R9.four
  have fr := R9.fro
  obtain ⟨gN, cN, W', rs, hap, hgN, M10, q10⟩ := app_one gT gg (gaC (zs ++ [10])) (gaU (zs ++ [10])) pa pn pc w9.drew (M9.below (Below.refl _ _).drew)
  have q9 := bel_next (Below.refl _ w9).drew q10
  have HGN : Hid (w.heap.size ≤ gN ∧ gN ≠ w.heap.size + 1) := by show _ ∧ _; have := R9.lt; have := b9.size; simp at hgN; omega
  have N10 := N9.below q9
  have R10 := R9.below q9
  have b10 := bel_next b9 q9
  have p10 := p9.below q9
  clear q9 q10 hgN b9 M9  p9
  obtain ⟨n4, n5, n6, n7⟩ := N10.four
  obtain ⟨r4, r5, r6, r7⟩ := R10.four
  have fr2 := R10.fro
  refine wp_region_any (by kernel_rfl) ?_
  (try (change wpAny _ _ _ _ _ _ _ (World.drew _)))
  refine wpAny_take (i := 1) (v := ?v1) rfl (by kernel_rfl) (by kernel_rfl) (by kernel_rfl) (fun _ _ _ h => h) (Or.inl ⟨by rfl, ?h1⟩) ?_
  case h1 => intro w; go_simp; try (with_reducible rfl)
  refine wpAny_take (i := 2) (v := ?v2) rfl (by kernel_rfl) (by kernel_rfl) (by kernel_rfl) (fun _ _ _ h => h) (Or.inl ⟨by rfl, ?h2⟩) ?_
  case h2 => intro w; go_simp; try (with_reducible rfl)
  refine wpAny_ready (rs := [0, 3]) (by kernel_rfl) (by simp) ?_
  refine AllReady.cons rfl (fun K hK => ?_) ?_
  · skip
    go_simp
    refine hK _ _ ?_
    clear hK K
    refine wpAny_ready (rs := [3]) (by kernel_rfl) (by simp) ?_
    refine AllReady.cons rfl (fun K hK => ?_) AllReady.nil
    refine step_appG rfl (.tmp 53) (.tmp 54) rfl (.slice (some ⟨gT, 0, none⟩) 0 0) (.slice (some ⟨gg, 0, none⟩) 1 1) (.slice (some ⟨gN, 0, none⟩) 1 cN) rfl rfl hap ?_
    refine hK _ _ ?_
    clear hK K
    refine wpAny_ready (rs := [4]) (by kernel_rfl) (by simp) ?_
    refine AllReady.cons rfl (fun K hK => ?_) AllReady.nil
    go_simp
    refine hK _ _ ?_
    clear hK K
    refine wpAny_ready (rs := [5]) (by kernel_rfl) (by simp) ?_
    refine AllReady.cons rfl (fun K hK => ?_) AllReady.nil
    go_simp
    refine hK _ _ ?_
    clear hK K
    refine wpAny_done (by kernel_rfl) ?_ _
    (go_wp2; refine bodyPost_ret (v := .tuple #[sc none 0 0 false tk wt, .slice (some ⟨gN, 0, none⟩) 1 cN]) (by simp [results, Try.results16, go_sem, r0, r1, r2, r3, r4, r5, r6, r7]) rfl ?_; exact ⟨_, _, _, _, _, _, rfl, rfl, ⟨rfl, .inl ⟨rfl, rfl⟩⟩, GotX.one HGN.out.1 (st4_blk M10 HGN.out.2) HPN.out (st4_own p10 ⟨_, R10⟩) (.inl rfl) (gaP_300 _), st4_bel b10 (by omega)⟩)
  refine AllReady.cons rfl (fun K hK => ?_) AllReady.nil
  refine step_appG rfl (.tmp 53) (.tmp 54) rfl (.slice (some ⟨gT, 0, none⟩) 0 0) (.slice (some ⟨gg, 0, none⟩) 1 1) (.slice (some ⟨gN, 0, none⟩) 1 cN) rfl rfl hap ?_
  refine hK _ _ ?_
  clear hK K
  refine wpAny_ready (rs := [0]) (by kernel_rfl) (by simp) ?_
  refine AllReady.cons rfl (fun K hK => ?_) AllReady.nil
  go_simp
  refine hK _ _ ?_
  clear hK K
  refine wpAny_ready (rs := [4]) (by kernel_rfl) (by simp) ?_
  refine AllReady.cons rfl (fun K hK => ?_) AllReady.nil
  go_simp
  refine hK _ _ ?_
  clear hK K
  refine wpAny_ready (rs := [5]) (by kernel_rfl) (by simp) ?_
  refine AllReady.cons rfl (fun K hK => ?_) AllReady.nil
  go_simp
  refine hK _ _ ?_
  clear hK K
  refine wpAny_done (by kernel_rfl) ?_ _
  (go_wp2; refine bodyPost_ret (v := .tuple #[sc none 0 0 false tk wt, .slice (some ⟨gN, 0, none⟩) 1 cN]) (by simp [results, Try.results16, go_sem, r0, r1, r2, r3, r4, r5, r6, r7]) rfl ?_; exact ⟨_, _, _, _, _, _, rfl, rfl, ⟨rfl, .inl ⟨rfl, rfl⟩⟩, GotX.one HGN.out.1 (st4_blk M10 HGN.out.2) HPN.out (st4_own p10 ⟨_, R10⟩) (.inl rfl) (gaP_300 _), st4_bel b10 (by omega)⟩)

end Go.Proofs.Ytmcednhinafpeaa
