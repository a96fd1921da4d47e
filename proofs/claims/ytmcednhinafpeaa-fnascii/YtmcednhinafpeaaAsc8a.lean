/- AsciiHear of the program, no frame open, or one open too long. -/
import Derived.Test.YtmcednhinafpeaaAsc8
namespace Go.Proofs.Ytmcednhinafpeaa
open Go.RowKit

set_option linter.unusedVariables false

set_option linter.unusedSimpArgs false

set_option maxRecDepth 20000 in
set_option maxHeartbeats 2000000 in
theorem implAsciiHear_lp (a : Option Addr) (l c : Nat) (ls wt b tk : Int) (zs : List Int) (w : World) (hn : l = zs.length) (hs : Sl w a zs) (hl : zs.length ≤ 2000000) (ho : okAk zs true ls wt = true) (ht : 0 ≤ tk ∧ tk ≤ 4294967295) (hgp : wt ≤ gap ls tk) (hb : (b == 58) = false) :
    Calls Try.prog 16 #[sc a l c true ls wt, .int .u8 b, .int .i64 tk] w fun e w' => XR w w' e [] false tk wt (some (5, 0, [])) := by
  have HN : Hid (l = zs.length ∧ l ≤ 2000000 ∧ zs.length ≤ 2000000) := by show _ ∧ _; omega
  obtain ⟨W0, hW0'⟩ : ∃ W0, W0 = (w.alloc (.cells #[.slice a l c, .bool true, .int .i64 ls, .int .i64 wt] 31)).alloc (.cells #[.slice none 0 0, .bool false, .int .i64 0, .int .i64 0] 31) := ⟨_, rfl⟩
  have hW0 : Hid (W0 = _) := hW0'
  have hz : W0.heap.size = w.heap.size + 1 + 1 := by rw [hW0']; simp
  have B0 : Below w.heap.size w W0 := by rw [hW0']; exact bel_next (bel_alloc w _) (bel_alloc _ _)
  have X0 : Blk W0 w.heap.size 31 #[.slice a l c, .bool true, .int .i64 ls, .int .i64 wt] := by rw [hW0']; exact (Blk.new w _ _).below (bel_alloc _ _)
  have R0 : Blk W0 (w.heap.size + 1) 31 #[.slice none 0 0, .bool false, .int .i64 0, .int .i64 0] := by rw [hW0']; have := Blk.new (w.alloc (.cells #[.slice a l c, .bool true, .int .i64 ls, .int .i64 wt] 31)) #[.slice none 0 0, .bool false, .int .i64 0, .int .i64 0] 31; simpa using this
  have S1 : Hid (Sl W0 a zs) := hs.below B0
  clear hn hs hW0' hl
  have HP : Hid (0 ≤ ls ∧ ls ≤ 4294967295 ∧ 0 ≤ tk ∧ tk ≤ 4294967295) := ⟨(okAk_parts ho).2.2.2.1, (okAk_parts ho).2.2.2.2.1, ht⟩
  have h1 := ht.1
  have h2 := ht.2
  clear ht
  go_enter Try.func16, Try.ntmps16
  go_wp2_with fail
  rw [← hW0.out]
  refine (implAsciiOk_any a l c true ls wt zs _ HN.out.1 S1.out HN.out.2.1 _ ho).mono ?_
  rintro e w1 ⟨rfl, b'⟩
  have b1 := bel_next B0 b'
  have X1 := X0.below b'
  have R1 := R0.below b'
  have S2 : Hid (Sl w1 a zs) := S1.out.below b'
  clear b' B0 X0 R0 S1
  obtain ⟨x0, x1, x2, x3⟩ := X1.four
  clear ho
  go_wp2_with (go_at_call 46; go_in)
  refine (copyAscii_any a l c true ls wt zs _ HN.out.1 S2.out HN.out.2.2).mono ?_
  rintro e w2 ⟨g, rfl, o2, b'⟩
  have b2 := bel_next b1 b'
  have R2 := R1.below b'
  have o2' := o2.monoT b1.size
  clear b' o2 b1 R1 X1 x0 x1 x2 x3 S2
  obtain ⟨w3, hw3⟩ : ∃ x, x = (w2.alloc (.cells #[] 39)).alloc (.cells #[.slice (some ⟨g, 0, none⟩) l l, .bool true, .int .i64 ls, .int .i64 wt] 31) := ⟨_, rfl⟩
  obtain ⟨gL, hgL⟩ : ∃ x, x = w2.heap.size + 1 := ⟨_, rfl⟩
  obtain ⟨gT, hgT⟩ : ∃ x, x = w2.heap.size := ⟨_, rfl⟩
  have HW3 : Hid (w3 = _) := hw3
  have HGL : Hid (gL = w2.heap.size + 1) := hgL
  have HGT : Hid (gT = w2.heap.size) := hgT
  have q3 : Below w2.heap.size w2 w3 := by rw [hw3]; exact bel_next (bel_alloc _ _) (bel_alloc _ _)
  have N3 : Blk w3 gL 31 #[.slice (some ⟨g, 0, none⟩) l l, .bool true, .int .i64 ls, .int .i64 wt] := by rw [hw3, hgL]; have := Blk.new (w2.alloc (.cells #[] 39)) #[.slice (some ⟨g, 0, none⟩) l l, .bool true, .int .i64 ls, .int .i64 wt] 31; simpa using this
  have T3 : Blk w3 gT 39 #[] := by rw [hw3, hgT]; exact (Blk.new w2 _ _).below (bel_alloc _ _)
  have b3 := bel_next b2 q3
  have R3 := R2.below q3
  have o3 := o2'.below q3
  have HRL : Hid (w.heap.size + 1 < gL ∧ w.heap.size ≤ gT ∧ gT ≠ gL ∧ gT ≠ w.heap.size + 1) := by show _ ∧ _; have := R2.lt; omega
  clear hw3 hgL hgT q3 b2 R2 o2'
  go_wp2_with fail
  rw [← HW3.out]
  simp only [← HGL.out]
  simp only [← HGT.out]
  obtain ⟨n0, n1, n2, n3⟩ := N3.four
  go_cut [35] (fun s wc => s = .bool true ∧ Below w3.heap.size w3 wc)
  case first =>
    refine wp_region_any (by kernel_rfl) ?_
    (try (change wpAny _ _ _ _ _ _ _ (World.drew _)))
    refine wpAny_ready (rs := [0]) (by kernel_rfl) (by simp) ?_
    refine AllReady.cons rfl (fun K hK => ?_) AllReady.nil
    go_simp
    refine hK _ _ ?_
    clear hK K
    refine wpAny_ready (rs := [1]) (by kernel_rfl) (by simp) ?_
    refine AllReady.cons rfl (fun K hK => ?_) AllReady.nil
    go_simp
    refine hK _ _ ?_
    clear hK K
    refine wpAny_ready (rs := [2]) (by kernel_rfl) (by simp) ?_
    refine AllReady.cons rfl (fun K hK => ?_) AllReady.nil
    go_simp
    refine hK _ _ ?_
    clear hK K
    refine wpAny_take (i := 3) (v := ?v3) rfl (by kernel_rfl) (by kernel_rfl) (by kernel_rfl) (fun _ _ _ h => h) (Or.inl ⟨by rfl, ?h3⟩) ?_
    case h3 => intro w; go_simp; try (with_reducible rfl)
    refine wpAny_take (i := 5) (v := ?v5) rfl (by kernel_rfl) (by kernel_rfl) (by kernel_rfl) (fun _ _ _ h => h) (Or.inl ⟨by rfl, ?h5⟩) ?_
    case h5 => intro w; go_simp; try (with_reducible rfl)
    refine wpAny_take (i := 7) (v := ?v7) rfl (by kernel_rfl) (by kernel_rfl) (by kernel_rfl) (fun _ _ _ h => h) (Or.inl ⟨by rfl, ?h7⟩) ?_
    case h7 => intro w; go_simp; try (with_reducible rfl)
    refine wpAny_ready (rs := [4, 8]) (by kernel_rfl) (by simp) ?_
    refine AllReady.cons rfl (fun K hK => ?_) ?_
    · skip
      go_simp
      refine hK _ _ ?_
      clear hK K
      refine wpAny_ready (rs := [6, 8]) (by kernel_rfl) (by simp) ?_
      refine AllReady.cons rfl (fun K hK => ?_) ?_
      · skip
        go_simp
        go_wp2_with (go_at_call 48; refine (implGap_ok ls tk _ HP.out.1 HP.out.2.1 HP.out.2.2.1 HP.out.2.2.2).mono ?_; rintro e w5 ⟨rfl, e5⟩; subst e5)
        try (refine hK _ _ ?_; clear hK K)
        refine wpAny_ready (rs := [8]) (by kernel_rfl) (by simp) ?_
        refine AllReady.cons rfl (fun K hK => ?_) AllReady.nil
        go_simp
        refine hK _ _ ?_
        clear hK K
        refine wpAny_ready (rs := [9]) (by kernel_rfl) (by simp) ?_
        refine AllReady.cons rfl (fun K hK => ?_) AllReady.nil
        go_simp
        refine hK _ _ ?_
        clear hK K
        refine wpAny_ready (rs := [10]) (by kernel_rfl) (by simp) ?_
        refine AllReady.cons rfl (fun K hK => ?_) AllReady.nil
        go_simp
        refine hK _ _ ?_
        clear hK K
        refine wpAny_done (by kernel_rfl) ?_ _
        (go_wp2_with fail; go_meet; exact ⟨by first | rfl | simp [hgp], by first | exact Below.refl _ _ | exact (Below.refl _ _).drew | exact (Below.refl _ _).drew.drew⟩)
      refine AllReady.cons rfl (fun K hK => ?_) AllReady.nil
      go_simp
      refine hK _ _ ?_
      clear hK K
      refine wpAny_ready (rs := [6]) (by kernel_rfl) (by simp) ?_
      refine AllReady.cons rfl (fun K hK => ?_) AllReady.nil
      go_simp
      go_wp2_with (go_at_call 48; refine (implGap_ok ls tk _ HP.out.1 HP.out.2.1 HP.out.2.2.1 HP.out.2.2.2).mono ?_; rintro e w5 ⟨rfl, e5⟩; subst e5)
      try (refine hK _ _ ?_; clear hK K)
      refine wpAny_ready (rs := [9]) (by kernel_rfl) (by simp) ?_
      refine AllReady.cons rfl (fun K hK => ?_) AllReady.nil
      go_simp
      refine hK _ _ ?_
      clear hK K
      refine wpAny_ready (rs := [10]) (by kernel_rfl) (by simp) ?_
      refine AllReady.cons rfl (fun K hK => ?_) AllReady.nil
      go_simp
      refine hK _ _ ?_
      clear hK K
      refine wpAny_done (by kernel_rfl) ?_ _
      (go_wp2_with fail; go_meet; exact ⟨by first | rfl | simp [hgp], by first | exact Below.refl _ _ | exact (Below.refl _ _).drew | exact (Below.refl _ _).drew.drew⟩)
    refine AllReady.cons rfl (fun K hK => ?_) AllReady.nil
    go_simp
    refine hK _ _ ?_
    clear hK K
    refine wpAny_ready (rs := [4]) (by kernel_rfl) (by simp) ?_
    refine AllReady.cons rfl (fun K hK => ?_) AllReady.nil
    go_simp
    refine hK _ _ ?_
    clear hK K
    refine wpAny_ready (rs := [6]) (by kernel_rfl) (by simp) ?_
    refine AllReady.cons rfl (fun K hK => ?_) AllReady.nil
    go_simp
    go_wp2_with (go_at_call 48; refine (implGap_ok ls tk _ HP.out.1 HP.out.2.1 HP.out.2.2.1 HP.out.2.2.2).mono ?_; rintro e w5 ⟨rfl, e5⟩; subst e5)
    try (refine hK _ _ ?_; clear hK K)
    refine wpAny_ready (rs := [9]) (by kernel_rfl) (by simp) ?_
    refine AllReady.cons rfl (fun K hK => ?_) AllReady.nil
    go_simp
    refine hK _ _ ?_
    clear hK K
    refine wpAny_ready (rs := [10]) (by kernel_rfl) (by simp) ?_
    refine AllReady.cons rfl (fun K hK => ?_) AllReady.nil
    go_simp
    refine hK _ _ ?_
    clear hK K
    refine wpAny_done (by kernel_rfl) ?_ _
    (go_wp2_with fail; go_meet; exact ⟨by first | rfl | simp [hgp], by first | exact Below.refl _ _ | exact (Below.refl _ _).drew | exact (Below.refl _ _).drew.drew⟩)
  case rest =>
  obtain ⟨rfl, b'⟩ := hcut
  have R4 := R3.below b'
  have N4 := N3.below b'
  have T4 := T3.below b'
  have o4 := o3.below b'
  have b4 := bel_next b3 b'
  clear b' R3 N3 T3 o3 b3 n0 n1 n2 n3
  obtain ⟨n0, n1, n2, n3⟩ := N4.four
  have fn := N4.fro
  go_wp2_with fail
  refine (shut_any (some ⟨g, 0, none⟩) l l true ls wt 5 0 none 0 0 _).mono ?_
  rintro e w5 ⟨g5, rfl, hg5, M5, b'⟩
  have N5 := N4.below b'
  have R5 := R4.below b'
  have b5 := bel_next b4 b'
  have HG5 : Hid (w.heap.size ≤ g5 ∧ g5 ≠ gL ∧ g5 ≠ w.heap.size + 1) := by show _ ∧ _; have := N4.lt; have := R4.lt; have := b4.size; omega
  clear b' N4 R4 T4 o4 b4 n0 n1 n2 n3 fn hg5
  obtain ⟨n0, n1, n2, n3⟩ := N5.four
  have fn := N5.fro
  go_upto_region 7 with fail
  have N6 : Blk ((st4 w5 gL (.slice none 0 0) (.bool false) (.int .i64 ls) (.int .i64 wt)).setCell ⟨gL, 2, none⟩ (.int .i64 tk)) gL 31 #[.slice none 0 0, .bool false, .int .i64 tk, .int .i64 wt] := by have := (st4_self N5 (.slice none 0 0) (.bool false) (.int .i64 ls) (.int .i64 wt)).set 2 (.int .i64 tk); simpa using this
  have R6 : Blk ((st4 w5 gL (.slice none 0 0) (.bool false) (.int .i64 ls) (.int .i64 wt)).setCell ⟨gL, 2, none⟩ (.int .i64 tk)) (w.heap.size + 1) 31 #[.slice none 0 0, .bool false, .int .i64 0, .int .i64 0] := (st4_blk R5 (by have := HRL.out; omega)).setNe (by have := HRL.out; omega)
  have M6 : Blk ((st4 w5 gL (.slice none 0 0) (.bool false) (.int .i64 ls) (.int .i64 wt)).setCell ⟨gL, 2, none⟩ (.int .i64 tk)) g5 39 (gcs 5 0 none 0 0 []) := (st4_blk M5 HG5.out.2.1).setNe HG5.out.2.1
  have b6 : Below w.heap.size w ((st4 w5 gL (.slice none 0 0) (.bool false) (.int .i64 ls) (.int .i64 wt)).setCell ⟨gL, 2, none⟩ (.int .i64 tk)) := (st4_bel b5 (by have := HRL.out; omega)).setCell (p := ⟨gL, 2, none⟩) (by show w.heap.size ≤ gL; have := HRL.out; omega) _
  generalize (st4 w5 gL (.slice none 0 0) (.bool false) (.int .i64 ls) (.int .i64 wt)).setCell ⟨gL, 2, none⟩ (.int .i64 tk) = w6 at *
  clear N5 R5 M5 b5 n0 n1 n2 n3 fn
  obtain ⟨n0, n1, n2, n3⟩ := N6.four
  go_wp2_with fail
  refine (state_shut none 0 0 tk wt _).mono ?_
  rintro e w7 ⟨rfl, b'⟩
  have N7 := N6.below b'
  have R7 := R6.below b'
  have M7 := M6.below b'
  have b7 := bel_next b6 b'
  clear b' b6 N6 R6 M6
  clear n0 n1 n2 n3
  go_wp2_with fail
  refine (between_pass none 0 0 false tk wt b _ hb).mono ?_
  rintro e w8 ⟨rfl, b'⟩
  have N8 := N7.below b'
  have R8 := R7.below b'
  have M8 := M7.below b'
  have b8 := bel_next b7 b'
  clear b' b7 N7 R7 M7
  obtain ⟨n0, n1, n2, n3⟩ := N8.four
  have fn := N8.fro
  go_upto_region 9 with fail
  have N9 : Blk ((((w8.setCell ⟨gL, 0, none⟩ (.slice none 0 0)).setCell ⟨gL, 1, none⟩ (.bool false)).setCell ⟨gL, 2, none⟩ (.int .i64 tk)).setCell ⟨gL, 3, none⟩ (.int .i64 wt)) gL 31 #[.slice none 0 0, .bool false, .int .i64 tk, .int .i64 wt] := st4_self N8 _ _ _ _
  have R9 : Blk ((((w8.setCell ⟨gL, 0, none⟩ (.slice none 0 0)).setCell ⟨gL, 1, none⟩ (.bool false)).setCell ⟨gL, 2, none⟩ (.int .i64 tk)).setCell ⟨gL, 3, none⟩ (.int .i64 wt)) (w.heap.size + 1) 31 #[.slice none 0 0, .bool false, .int .i64 0, .int .i64 0] := st4_blk R8 (by have := HRL.out; omega)
  have b9 : Below w.heap.size w ((((w8.setCell ⟨gL, 0, none⟩ (.slice none 0 0)).setCell ⟨gL, 1, none⟩ (.bool false)).setCell ⟨gL, 2, none⟩ (.int .i64 tk)).setCell ⟨gL, 3, none⟩ (.int .i64 wt)) := st4_bel b8 (by have := HRL.out; omega)
  have M9 : Blk ((((w8.setCell ⟨gL, 0, none⟩ (.slice none 0 0)).setCell ⟨gL, 1, none⟩ (.bool false)).setCell ⟨gL, 2, none⟩ (.int .i64 tk)).setCell ⟨gL, 3, none⟩ (.int .i64 wt)) g5 39 (gcs 5 0 none 0 0 []) := st4_blk M8 HG5.out.2.1
  generalize (((w8.setCell ⟨gL, 0, none⟩ (.slice none 0 0)).setCell ⟨gL, 1, none⟩ (.bool false)).setCell ⟨gL, 2, none⟩ (.int .i64 tk)).setCell ⟨gL, 3, none⟩ (.int .i64 wt) = w9 at *
  clear n0 n1 n2 n3 fn N8 R8 b8 M8
  obtain ⟨n0, n1, n2, n3⟩ := N9.four
  obtain ⟨r0, r1, r2, r3⟩ := R9.four
  have fr := R9.fro
  have hap := app_none g5 1 1 (Nat.le_refl _)
  go_region
  all_goals go_wp2
  all_goals refine bodyPost_ret (v := .tuple #[sc none 0 0 false tk wt, .slice (some ⟨g5, 0, none⟩) 1 1]) (by simp [results, Try.results16, go_sem, r0, r1, r2, r3]) rfl ?_
  all_goals exact ⟨_, _, _, _, _, _, rfl, rfl, ⟨rfl, .inl ⟨rfl, rfl⟩⟩, GotX.one HG5.out.1 (Blk.below (st4_blk M9 HG5.out.2.2) (Below.refl _ _).drew) rfl ⟨rfl, .inl ⟨rfl, rfl⟩⟩ (.inr (.inl rfl)) (by simp), (st4_bel b9 (by omega)).drew⟩

set_option maxRecDepth 20000 in
set_option maxHeartbeats 2000000 in
theorem implAsciiHear_lc (a : Option Addr) (l c : Nat) (ls wt b tk : Int) (zs : List Int) (w : World) (hn : l = zs.length) (hs : Sl w a zs) (hl : zs.length ≤ 2000000) (ho : okAk zs true ls wt = true) (ht : 0 ≤ tk ∧ tk ≤ 4294967295) (hgp : wt ≤ gap ls tk) (hb : b = 58) :
    Calls Try.prog 16 #[sc a l c true ls wt, .int .u8 b, .int .i64 tk] w fun e w' => XR w w' e [58] true tk wt (some (5, 0, [])) := by
  have HN : Hid (l = zs.length ∧ l ≤ 2000000 ∧ zs.length ≤ 2000000) := by show _ ∧ _; omega
  obtain ⟨W0, hW0'⟩ : ∃ W0, W0 = (w.alloc (.cells #[.slice a l c, .bool true, .int .i64 ls, .int .i64 wt] 31)).alloc (.cells #[.slice none 0 0, .bool false, .int .i64 0, .int .i64 0] 31) := ⟨_, rfl⟩
  have hW0 : Hid (W0 = _) := hW0'
  have hz : W0.heap.size = w.heap.size + 1 + 1 := by rw [hW0']; simp
  have B0 : Below w.heap.size w W0 := by rw [hW0']; exact bel_next (bel_alloc w _) (bel_alloc _ _)
  have X0 : Blk W0 w.heap.size 31 #[.slice a l c, .bool true, .int .i64 ls, .int .i64 wt] := by rw [hW0']; exact (Blk.new w _ _).below (bel_alloc _ _)
  have R0 : Blk W0 (w.heap.size + 1) 31 #[.slice none 0 0, .bool false, .int .i64 0, .int .i64 0] := by rw [hW0']; have := Blk.new (w.alloc (.cells #[.slice a l c, .bool true, .int .i64 ls, .int .i64 wt] 31)) #[.slice none 0 0, .bool false, .int .i64 0, .int .i64 0] 31; simpa using this
  have S1 : Hid (Sl W0 a zs) := hs.below B0
  clear hn hs hW0' hl
  subst hb
  have HP : Hid (0 ≤ ls ∧ ls ≤ 4294967295 ∧ 0 ≤ tk ∧ tk ≤ 4294967295) := ⟨(okAk_parts ho).2.2.2.1, (okAk_parts ho).2.2.2.2.1, ht⟩
  have h1 := ht.1
  have h2 := ht.2
  clear ht
  go_enter Try.func16, Try.ntmps16
  go_wp2_with fail
  rw [← hW0.out]
  refine (implAsciiOk_any a l c true ls wt zs _ HN.out.1 S1.out HN.out.2.1 _ ho).mono ?_
  rintro e w1 ⟨rfl, b'⟩
  have b1 := bel_next B0 b'
  have X1 := X0.below b'
  have R1 := R0.below b'
  have S2 : Hid (Sl w1 a zs) := S1.out.below b'
  clear b' B0 X0 R0 S1
  obtain ⟨x0, x1, x2, x3⟩ := X1.four
  clear ho
  go_wp2_with (go_at_call 46; go_in)
  refine (copyAscii_any a l c true ls wt zs _ HN.out.1 S2.out HN.out.2.2).mono ?_
  rintro e w2 ⟨g, rfl, o2, b'⟩
  have b2 := bel_next b1 b'
  have R2 := R1.below b'
  have o2' := o2.monoT b1.size
  clear b' o2 b1 R1 X1 x0 x1 x2 x3 S2
  obtain ⟨w3, hw3⟩ : ∃ x, x = (w2.alloc (.cells #[] 39)).alloc (.cells #[.slice (some ⟨g, 0, none⟩) l l, .bool true, .int .i64 ls, .int .i64 wt] 31) := ⟨_, rfl⟩
  obtain ⟨gL, hgL⟩ : ∃ x, x = w2.heap.size + 1 := ⟨_, rfl⟩
  obtain ⟨gT, hgT⟩ : ∃ x, x = w2.heap.size := ⟨_, rfl⟩
  have HW3 : Hid (w3 = _) := hw3
  have HGL : Hid (gL = w2.heap.size + 1) := hgL
  have HGT : Hid (gT = w2.heap.size) := hgT
  have q3 : Below w2.heap.size w2 w3 := by rw [hw3]; exact bel_next (bel_alloc _ _) (bel_alloc _ _)
  have N3 : Blk w3 gL 31 #[.slice (some ⟨g, 0, none⟩) l l, .bool true, .int .i64 ls, .int .i64 wt] := by rw [hw3, hgL]; have := Blk.new (w2.alloc (.cells #[] 39)) #[.slice (some ⟨g, 0, none⟩) l l, .bool true, .int .i64 ls, .int .i64 wt] 31; simpa using this
  have T3 : Blk w3 gT 39 #[] := by rw [hw3, hgT]; exact (Blk.new w2 _ _).below (bel_alloc _ _)
  have b3 := bel_next b2 q3
  have R3 := R2.below q3
  have o3 := o2'.below q3
  have HRL : Hid (w.heap.size + 1 < gL ∧ w.heap.size ≤ gT ∧ gT ≠ gL ∧ gT ≠ w.heap.size + 1) := by show _ ∧ _; have := R2.lt; omega
  clear hw3 hgL hgT q3 b2 R2 o2'
  go_wp2_with fail
  rw [← HW3.out]
  simp only [← HGL.out]
  simp only [← HGT.out]
  obtain ⟨n0, n1, n2, n3⟩ := N3.four
  go_cut [35] (fun s wc => s = .bool true ∧ Below w3.heap.size w3 wc)
  case first =>
    refine wp_region_any (by kernel_rfl) ?_
    (try (change wpAny _ _ _ _ _ _ _ (World.drew _)))
    refine wpAny_ready (rs := [0]) (by kernel_rfl) (by simp) ?_
    refine AllReady.cons rfl (fun K hK => ?_) AllReady.nil
    go_simp
    refine hK _ _ ?_
    clear hK K
    refine wpAny_ready (rs := [1]) (by kernel_rfl) (by simp) ?_
    refine AllReady.cons rfl (fun K hK => ?_) AllReady.nil
    go_simp
    refine hK _ _ ?_
    clear hK K
    refine wpAny_ready (rs := [2]) (by kernel_rfl) (by simp) ?_
    refine AllReady.cons rfl (fun K hK => ?_) AllReady.nil
    go_simp
    refine hK _ _ ?_
    clear hK K
    refine wpAny_take (i := 3) (v := ?v3) rfl (by kernel_rfl) (by kernel_rfl) (by kernel_rfl) (fun _ _ _ h => h) (Or.inl ⟨by rfl, ?h3⟩) ?_
    case h3 => intro w; go_simp; try (with_reducible rfl)
    refine wpAny_take (i := 5) (v := ?v5) rfl (by kernel_rfl) (by kernel_rfl) (by kernel_rfl) (fun _ _ _ h => h) (Or.inl ⟨by rfl, ?h5⟩) ?_
    case h5 => intro w; go_simp; try (with_reducible rfl)
    refine wpAny_take (i := 7) (v := ?v7) rfl (by kernel_rfl) (by kernel_rfl) (by kernel_rfl) (fun _ _ _ h => h) (Or.inl ⟨by rfl, ?h7⟩) ?_
    case h7 => intro w; go_simp; try (with_reducible rfl)
    refine wpAny_ready (rs := [4, 8]) (by kernel_rfl) (by simp) ?_
    refine AllReady.cons rfl (fun K hK => ?_) ?_
    · skip
      go_simp
      refine hK _ _ ?_
      clear hK K
      refine wpAny_ready (rs := [6, 8]) (by kernel_rfl) (by simp) ?_
      refine AllReady.cons rfl (fun K hK => ?_) ?_
      · skip
        go_simp
        go_wp2_with (go_at_call 48; refine (implGap_ok ls tk _ HP.out.1 HP.out.2.1 HP.out.2.2.1 HP.out.2.2.2).mono ?_; rintro e w5 ⟨rfl, e5⟩; subst e5)
        try (refine hK _ _ ?_; clear hK K)
        refine wpAny_ready (rs := [8]) (by kernel_rfl) (by simp) ?_
        refine AllReady.cons rfl (fun K hK => ?_) AllReady.nil
        go_simp
        refine hK _ _ ?_
        clear hK K
        refine wpAny_ready (rs := [9]) (by kernel_rfl) (by simp) ?_
        refine AllReady.cons rfl (fun K hK => ?_) AllReady.nil
        go_simp
        refine hK _ _ ?_
        clear hK K
        refine wpAny_ready (rs := [10]) (by kernel_rfl) (by simp) ?_
        refine AllReady.cons rfl (fun K hK => ?_) AllReady.nil
        go_simp
        refine hK _ _ ?_
        clear hK K
        refine wpAny_done (by kernel_rfl) ?_ _
        (go_wp2_with fail; go_meet; exact ⟨by first | rfl | simp [hgp], by first | exact Below.refl _ _ | exact (Below.refl _ _).drew | exact (Below.refl _ _).drew.drew⟩)
      refine AllReady.cons rfl (fun K hK => ?_) AllReady.nil
      go_simp
      refine hK _ _ ?_
      clear hK K
      refine wpAny_ready (rs := [6]) (by kernel_rfl) (by simp) ?_
      refine AllReady.cons rfl (fun K hK => ?_) AllReady.nil
      go_simp
      go_wp2_with (go_at_call 48; refine (implGap_ok ls tk _ HP.out.1 HP.out.2.1 HP.out.2.2.1 HP.out.2.2.2).mono ?_; rintro e w5 ⟨rfl, e5⟩; subst e5)
      try (refine hK _ _ ?_; clear hK K)
      refine wpAny_ready (rs := [9]) (by kernel_rfl) (by simp) ?_
      refine AllReady.cons rfl (fun K hK => ?_) AllReady.nil
      go_simp
      refine hK _ _ ?_
      clear hK K
      refine wpAny_ready (rs := [10]) (by kernel_rfl) (by simp) ?_
      refine AllReady.cons rfl (fun K hK => ?_) AllReady.nil
      go_simp
      refine hK _ _ ?_
      clear hK K
      refine wpAny_done (by kernel_rfl) ?_ _
      (go_wp2_with fail; go_meet; exact ⟨by first | rfl | simp [hgp], by first | exact Below.refl _ _ | exact (Below.refl _ _).drew | exact (Below.refl _ _).drew.drew⟩)
    refine AllReady.cons rfl (fun K hK => ?_) AllReady.nil
    go_simp
    refine hK _ _ ?_
    clear hK K
    refine wpAny_ready (rs := [4]) (by kernel_rfl) (by simp) ?_
    refine AllReady.cons rfl (fun K hK => ?_) AllReady.nil
    go_simp
    refine hK _ _ ?_
    clear hK K
    refine wpAny_ready (rs := [6]) (by kernel_rfl) (by simp) ?_
    refine AllReady.cons rfl (fun K hK => ?_) AllReady.nil
    go_simp
    go_wp2_with (go_at_call 48; refine (implGap_ok ls tk _ HP.out.1 HP.out.2.1 HP.out.2.2.1 HP.out.2.2.2).mono ?_; rintro e w5 ⟨rfl, e5⟩; subst e5)
    try (refine hK _ _ ?_; clear hK K)
    refine wpAny_ready (rs := [9]) (by kernel_rfl) (by simp) ?_
    refine AllReady.cons rfl (fun K hK => ?_) AllReady.nil
    go_simp
    refine hK _ _ ?_
    clear hK K
    refine wpAny_ready (rs := [10]) (by kernel_rfl) (by simp) ?_
    refine AllReady.cons rfl (fun K hK => ?_) AllReady.nil
    go_simp
    refine hK _ _ ?_
    clear hK K
    refine wpAny_done (by kernel_rfl) ?_ _
    (go_wp2_with fail; go_meet; exact ⟨by first | rfl | simp [hgp], by first | exact Below.refl _ _ | exact (Below.refl _ _).drew | exact (Below.refl _ _).drew.drew⟩)
  case rest =>
  obtain ⟨rfl, b'⟩ := hcut
  have R4 := R3.below b'
  have N4 := N3.below b'
  have T4 := T3.below b'
  have o4 := o3.below b'
  have b4 := bel_next b3 b'
  clear b' R3 N3 T3 o3 b3 n0 n1 n2 n3
  obtain ⟨n0, n1, n2, n3⟩ := N4.four
  have fn := N4.fro
  go_wp2_with fail
  refine (shut_any (some ⟨g, 0, none⟩) l l true ls wt 5 0 none 0 0 _).mono ?_
  rintro e w5 ⟨g5, rfl, hg5, M5, b'⟩
  have N5 := N4.below b'
  have R5 := R4.below b'
  have b5 := bel_next b4 b'
  have HG5 : Hid (w.heap.size ≤ g5 ∧ g5 ≠ gL ∧ g5 ≠ w.heap.size + 1) := by show _ ∧ _; have := N4.lt; have := R4.lt; have := b4.size; omega
  clear b' N4 R4 T4 o4 b4 n0 n1 n2 n3 fn hg5
  obtain ⟨n0, n1, n2, n3⟩ := N5.four
  have fn := N5.fro
  go_upto_region 7 with fail
  have N6 : Blk ((st4 w5 gL (.slice none 0 0) (.bool false) (.int .i64 ls) (.int .i64 wt)).setCell ⟨gL, 2, none⟩ (.int .i64 tk)) gL 31 #[.slice none 0 0, .bool false, .int .i64 tk, .int .i64 wt] := by have := (st4_self N5 (.slice none 0 0) (.bool false) (.int .i64 ls) (.int .i64 wt)).set 2 (.int .i64 tk); simpa using this
  have R6 : Blk ((st4 w5 gL (.slice none 0 0) (.bool false) (.int .i64 ls) (.int .i64 wt)).setCell ⟨gL, 2, none⟩ (.int .i64 tk)) (w.heap.size + 1) 31 #[.slice none 0 0, .bool false, .int .i64 0, .int .i64 0] := (st4_blk R5 (by have := HRL.out; omega)).setNe (by have := HRL.out; omega)
  have M6 : Blk ((st4 w5 gL (.slice none 0 0) (.bool false) (.int .i64 ls) (.int .i64 wt)).setCell ⟨gL, 2, none⟩ (.int .i64 tk)) g5 39 (gcs 5 0 none 0 0 []) := (st4_blk M5 HG5.out.2.1).setNe HG5.out.2.1
  have b6 : Below w.heap.size w ((st4 w5 gL (.slice none 0 0) (.bool false) (.int .i64 ls) (.int .i64 wt)).setCell ⟨gL, 2, none⟩ (.int .i64 tk)) := (st4_bel b5 (by have := HRL.out; omega)).setCell (p := ⟨gL, 2, none⟩) (by show w.heap.size ≤ gL; have := HRL.out; omega) _
  generalize (st4 w5 gL (.slice none 0 0) (.bool false) (.int .i64 ls) (.int .i64 wt)).setCell ⟨gL, 2, none⟩ (.int .i64 tk) = w6 at *
  clear N5 R5 M5 b5 n0 n1 n2 n3 fn
  obtain ⟨n0, n1, n2, n3⟩ := N6.four
  go_wp2_with fail
  refine (state_shut none 0 0 tk wt _).mono ?_
  rintro e w7 ⟨rfl, b'⟩
  have N7 := N6.below b'
  have R7 := R6.below b'
  have M7 := M6.below b'
  have b7 := bel_next b6 b'
  clear b' b6 N6 R6 M6
  clear n0 n1 n2 n3
  go_wp2_with fail
  refine (between_colon none 0 0 false tk wt 58 _ rfl).mono ?_
  rintro e w8 ⟨g8, rfl, u8', b'⟩
  have u8 := u8'.monoT b7.size
  clear u8'
  have N8 := N7.below b'
  have R8 := R7.below b'
  have M8 := M7.below b'
  have b8 := bel_next b7 b'
  clear b' b7 N7 R7 M7
  obtain ⟨n0, n1, n2, n3⟩ := N8.four
  have fn := N8.fro
  go_upto_region 9 with fail
  have N9 : Blk ((((w8.setCell ⟨gL, 0, none⟩ (.slice (some ⟨g8, 0, none⟩) 1 1)).setCell ⟨gL, 1, none⟩ (.bool true)).setCell ⟨gL, 2, none⟩ (.int .i64 tk)).setCell ⟨gL, 3, none⟩ (.int .i64 wt)) gL 31 #[.slice (some ⟨g8, 0, none⟩) 1 1, .bool true, .int .i64 tk, .int .i64 wt] := st4_self N8 _ _ _ _
  have R9 : Blk ((((w8.setCell ⟨gL, 0, none⟩ (.slice (some ⟨g8, 0, none⟩) 1 1)).setCell ⟨gL, 1, none⟩ (.bool true)).setCell ⟨gL, 2, none⟩ (.int .i64 tk)).setCell ⟨gL, 3, none⟩ (.int .i64 wt)) (w.heap.size + 1) 31 #[.slice none 0 0, .bool false, .int .i64 0, .int .i64 0] := st4_blk R8 (by have := HRL.out; omega)
  have b9 : Below w.heap.size w ((((w8.setCell ⟨gL, 0, none⟩ (.slice (some ⟨g8, 0, none⟩) 1 1)).setCell ⟨gL, 1, none⟩ (.bool true)).setCell ⟨gL, 2, none⟩ (.int .i64 tk)).setCell ⟨gL, 3, none⟩ (.int .i64 wt)) := st4_bel b8 (by have := HRL.out; omega)
  have M9 : Blk ((((w8.setCell ⟨gL, 0, none⟩ (.slice (some ⟨g8, 0, none⟩) 1 1)).setCell ⟨gL, 1, none⟩ (.bool true)).setCell ⟨gL, 2, none⟩ (.int .i64 tk)).setCell ⟨gL, 3, none⟩ (.int .i64 wt)) g5 39 (gcs 5 0 none 0 0 []) := st4_blk M8 HG5.out.2.1
  have u9 : Own ((((w8.setCell ⟨gL, 0, none⟩ (.slice (some ⟨g8, 0, none⟩) 1 1)).setCell ⟨gL, 1, none⟩ (.bool true)).setCell ⟨gL, 2, none⟩ (.int .i64 tk)).setCell ⟨gL, 3, none⟩ (.int .i64 wt)) w.heap.size (.slice (some ⟨g8, 0, none⟩) 1 1) [58] := st4_own u8 ⟨_, N8⟩
  generalize (((w8.setCell ⟨gL, 0, none⟩ (.slice (some ⟨g8, 0, none⟩) 1 1)).setCell ⟨gL, 1, none⟩ (.bool true)).setCell ⟨gL, 2, none⟩ (.int .i64 tk)).setCell ⟨gL, 3, none⟩ (.int .i64 wt) = w9 at *
  clear n0 n1 n2 n3 fn N8 R8 b8 M8 u8
  obtain ⟨n0, n1, n2, n3⟩ := N9.four
  obtain ⟨r0, r1, r2, r3⟩ := R9.four
  have fr := R9.fro
  have hap := app_none g5 1 1 (Nat.le_refl _)
  go_region
  all_goals go_wp2
  all_goals refine bodyPost_ret (v := .tuple #[sc (some ⟨g8, 0, none⟩) 1 1 true tk wt, .slice (some ⟨g5, 0, none⟩) 1 1]) (by simp [results, Try.results16, go_sem, r0, r1, r2, r3]) rfl ?_
  all_goals exact ⟨_, _, _, _, _, _, rfl, rfl, Own.below (st4_own u9 ⟨_, R9⟩) (Below.refl _ _).drew, GotX.one HG5.out.1 (Blk.below (st4_blk M9 HG5.out.2.2) (Below.refl _ _).drew) rfl ⟨rfl, .inl ⟨rfl, rfl⟩⟩ (.inr (.inl rfl)) (by simp), (st4_bel b9 (by omega)).drew⟩

set_option maxRecDepth 20000 in
set_option maxHeartbeats 2000000 in
theorem implAsciiHear_sp (a : Option Addr) (l c : Nat) (ls wt b tk : Int) (zs : List Int) (w : World) (hn : l = zs.length) (hs : Sl w a zs) (hl : zs.length ≤ 2000000) (ho : okAk zs false ls wt = true) (ht : 0 ≤ tk ∧ tk ≤ 4294967295) (hb : (b == 58) = false) :
    Calls Try.prog 16 #[sc a l c false ls wt, .int .u8 b, .int .i64 tk] w fun e w' => XR w w' e zs false tk wt none := by
  have HN : Hid (l = zs.length ∧ l ≤ 2000000 ∧ zs.length ≤ 2000000) := by show _ ∧ _; omega
  obtain ⟨W0, hW0'⟩ : ∃ W0, W0 = (w.alloc (.cells #[.slice a l c, .bool false, .int .i64 ls, .int .i64 wt] 31)).alloc (.cells #[.slice none 0 0, .bool false, .int .i64 0, .int .i64 0] 31) := ⟨_, rfl⟩
  have hW0 : Hid (W0 = _) := hW0'
  have hz : W0.heap.size = w.heap.size + 1 + 1 := by rw [hW0']; simp
  have B0 : Below w.heap.size w W0 := by rw [hW0']; exact bel_next (bel_alloc w _) (bel_alloc _ _)
  have X0 : Blk W0 w.heap.size 31 #[.slice a l c, .bool false, .int .i64 ls, .int .i64 wt] := by rw [hW0']; exact (Blk.new w _ _).below (bel_alloc _ _)
  have R0 : Blk W0 (w.heap.size + 1) 31 #[.slice none 0 0, .bool false, .int .i64 0, .int .i64 0] := by rw [hW0']; have := Blk.new (w.alloc (.cells #[.slice a l c, .bool false, .int .i64 ls, .int .i64 wt] 31)) #[.slice none 0 0, .bool false, .int .i64 0, .int .i64 0] 31; simpa using this
  have S1 : Hid (Sl W0 a zs) := hs.below B0
  clear hn hs hW0' hl
  have HZ0 : Hid (zs.length = 0) := by show zs.length = 0; have := (okAk_parts ho).2.2.2.2.2; simp at this; rw [this]; rfl
  have HP : Hid (0 ≤ ls ∧ ls ≤ 4294967295 ∧ 0 ≤ tk ∧ tk ≤ 4294967295) := ⟨(okAk_parts ho).2.2.2.1, (okAk_parts ho).2.2.2.2.1, ht⟩
  have h1 := ht.1
  have h2 := ht.2
  clear ht
  go_enter Try.func16, Try.ntmps16
  go_wp2_with fail
  rw [← hW0.out]
  refine (implAsciiOk_any a l c false ls wt zs _ HN.out.1 S1.out HN.out.2.1 _ ho).mono ?_
  rintro e w1 ⟨rfl, b'⟩
  have b1 := bel_next B0 b'
  have X1 := X0.below b'
  have R1 := R0.below b'
  have S2 : Hid (Sl w1 a zs) := S1.out.below b'
  clear b' B0 X0 R0 S1
  obtain ⟨x0, x1, x2, x3⟩ := X1.four
  clear ho
  go_wp2_with (go_at_call 46; go_in)
  refine (copyAscii_any a l c false ls wt zs _ HN.out.1 S2.out HN.out.2.2).mono ?_
  rintro e w2 ⟨g, rfl, o2, b'⟩
  have b2 := bel_next b1 b'
  have R2 := R1.below b'
  have o2' := o2.monoT b1.size
  clear b' o2 b1 R1 X1 x0 x1 x2 x3 S2
  obtain ⟨w3, hw3⟩ : ∃ x, x = (w2.alloc (.cells #[] 39)).alloc (.cells #[.slice (some ⟨g, 0, none⟩) l l, .bool false, .int .i64 ls, .int .i64 wt] 31) := ⟨_, rfl⟩
  obtain ⟨gL, hgL⟩ : ∃ x, x = w2.heap.size + 1 := ⟨_, rfl⟩
  obtain ⟨gT, hgT⟩ : ∃ x, x = w2.heap.size := ⟨_, rfl⟩
  have HW3 : Hid (w3 = _) := hw3
  have HGL : Hid (gL = w2.heap.size + 1) := hgL
  have HGT : Hid (gT = w2.heap.size) := hgT
  have q3 : Below w2.heap.size w2 w3 := by rw [hw3]; exact bel_next (bel_alloc _ _) (bel_alloc _ _)
  have N3 : Blk w3 gL 31 #[.slice (some ⟨g, 0, none⟩) l l, .bool false, .int .i64 ls, .int .i64 wt] := by rw [hw3, hgL]; have := Blk.new (w2.alloc (.cells #[] 39)) #[.slice (some ⟨g, 0, none⟩) l l, .bool false, .int .i64 ls, .int .i64 wt] 31; simpa using this
  have T3 : Blk w3 gT 39 #[] := by rw [hw3, hgT]; exact (Blk.new w2 _ _).below (bel_alloc _ _)
  have b3 := bel_next b2 q3
  have R3 := R2.below q3
  have o3 := o2'.below q3
  have HRL : Hid (w.heap.size + 1 < gL ∧ w.heap.size ≤ gT ∧ gT ≠ gL ∧ gT ≠ w.heap.size + 1) := by show _ ∧ _; have := R2.lt; omega
  clear hw3 hgL hgT q3 b2 R2 o2'
  go_wp2_with fail
  rw [← HW3.out]
  simp only [← HGL.out]
  simp only [← HGT.out]
  obtain ⟨n0, n1, n2, n3⟩ := N3.four
  go_cut [35] (fun s wc => s = .bool false ∧ Below w3.heap.size w3 wc)
  case first =>
    refine wp_region_any (by kernel_rfl) ?_
    (try (change wpAny _ _ _ _ _ _ _ (World.drew _)))
    refine wpAny_ready (rs := [0]) (by kernel_rfl) (by simp) ?_
    refine AllReady.cons rfl (fun K hK => ?_) AllReady.nil
    go_simp
    refine hK _ _ ?_
    clear hK K
    refine wpAny_ready (rs := [1]) (by kernel_rfl) (by simp) ?_
    refine AllReady.cons rfl (fun K hK => ?_) AllReady.nil
    go_simp
    refine hK _ _ ?_
    clear hK K
    refine wpAny_ready (rs := [2]) (by kernel_rfl) (by simp) ?_
    refine AllReady.cons rfl (fun K hK => ?_) AllReady.nil
    go_simp
    refine hK _ _ ?_
    clear hK K
    refine wpAny_take (i := 3) (v := undef) rfl (by kernel_rfl) (by kernel_rfl) (by kernel_rfl) (fun _ _ _ h => h) (Or.inr ⟨by rfl, rfl⟩) ?_
    refine wpAny_take (i := 5) (v := undef) rfl (by kernel_rfl) (by kernel_rfl) (by kernel_rfl) (fun _ _ _ h => h) (Or.inr ⟨by rfl, rfl⟩) ?_
    refine wpAny_take (i := 7) (v := undef) rfl (by kernel_rfl) (by kernel_rfl) (by kernel_rfl) (fun _ _ _ h => h) (Or.inr ⟨by rfl, rfl⟩) ?_
    refine wpAny_ready (rs := [4, 8]) (by kernel_rfl) (by simp) ?_
    refine AllReady.cons rfl (fun K hK => ?_) ?_
    · skip
      go_simp
      refine hK _ _ ?_
      clear hK K
      refine wpAny_ready (rs := [6, 8]) (by kernel_rfl) (by simp) ?_
      refine AllReady.cons rfl (fun K hK => ?_) ?_
      · skip
        go_simp
        refine hK _ _ ?_
        clear hK K
        refine wpAny_ready (rs := [8]) (by kernel_rfl) (by simp) ?_
        refine AllReady.cons rfl (fun K hK => ?_) AllReady.nil
        go_simp
        refine hK _ _ ?_
        clear hK K
        refine wpAny_ready (rs := [9]) (by kernel_rfl) (by simp) ?_
        refine AllReady.cons rfl (fun K hK => ?_) AllReady.nil
        go_simp
        refine hK _ _ ?_
        clear hK K
        refine wpAny_ready (rs := [10]) (by kernel_rfl) (by simp) ?_
        refine AllReady.cons rfl (fun K hK => ?_) AllReady.nil
        go_simp
        refine hK _ _ ?_
        clear hK K
        refine wpAny_done (by kernel_rfl) ?_ _
        (go_wp2_with fail; go_meet; exact ⟨by first | rfl | simp [hgp], by first | exact Below.refl _ _ | exact (Below.refl _ _).drew | exact (Below.refl _ _).drew.drew⟩)
      refine AllReady.cons rfl (fun K hK => ?_) AllReady.nil
      go_simp
      refine hK _ _ ?_
      clear hK K
      refine wpAny_ready (rs := [6]) (by kernel_rfl) (by simp) ?_
      refine AllReady.cons rfl (fun K hK => ?_) AllReady.nil
      go_simp
      refine hK _ _ ?_
      clear hK K
      refine wpAny_ready (rs := [9]) (by kernel_rfl) (by simp) ?_
      refine AllReady.cons rfl (fun K hK => ?_) AllReady.nil
      go_simp
      refine hK _ _ ?_
      clear hK K
      refine wpAny_ready (rs := [10]) (by kernel_rfl) (by simp) ?_
      refine AllReady.cons rfl (fun K hK => ?_) AllReady.nil
      go_simp
      refine hK _ _ ?_
      clear hK K
      refine wpAny_done (by kernel_rfl) ?_ _
      (go_wp2_with fail; go_meet; exact ⟨by first | rfl | simp [hgp], by first | exact Below.refl _ _ | exact (Below.refl _ _).drew | exact (Below.refl _ _).drew.drew⟩)
    refine AllReady.cons rfl (fun K hK => ?_) AllReady.nil
    go_simp
    refine hK _ _ ?_
    clear hK K
    refine wpAny_ready (rs := [4]) (by kernel_rfl) (by simp) ?_
    refine AllReady.cons rfl (fun K hK => ?_) AllReady.nil
    go_simp
    refine hK _ _ ?_
    clear hK K
    refine wpAny_ready (rs := [6]) (by kernel_rfl) (by simp) ?_
    refine AllReady.cons rfl (fun K hK => ?_) AllReady.nil
    go_simp
    refine hK _ _ ?_
    clear hK K
    refine wpAny_ready (rs := [9]) (by kernel_rfl) (by simp) ?_
    refine AllReady.cons rfl (fun K hK => ?_) AllReady.nil
    go_simp
    refine hK _ _ ?_
    clear hK K
    refine wpAny_ready (rs := [10]) (by kernel_rfl) (by simp) ?_
    refine AllReady.cons rfl (fun K hK => ?_) AllReady.nil
    go_simp
    refine hK _ _ ?_
    clear hK K
    refine wpAny_done (by kernel_rfl) ?_ _
    (go_wp2_with fail; go_meet; exact ⟨by first | rfl | simp [hgp], by first | exact Below.refl _ _ | exact (Below.refl _ _).drew | exact (Below.refl _ _).drew.drew⟩)
  case rest =>
  obtain ⟨rfl, b'⟩ := hcut
  have R4 := R3.below b'
  have N4 := N3.below b'
  have T4 := T3.below b'
  have o4 := o3.below b'
  have b4 := bel_next b3 b'
  clear b' R3 N3 T3 o3 b3 n0 n1 n2 n3
  obtain ⟨n0, n1, n2, n3⟩ := N4.four
  have fn := N4.fro
  go_upto_region 7 with fail
  have N6 : Blk (wc.setCell ⟨gL, 2, none⟩ (.int .i64 tk)) gL 31 #[.slice (some ⟨g, 0, none⟩) l l, .bool false, .int .i64 tk, .int .i64 wt] := by have := N4.set 2 (.int .i64 tk); simpa using this
  have R6 : Blk (wc.setCell ⟨gL, 2, none⟩ (.int .i64 tk)) (w.heap.size + 1) 31 #[.slice none 0 0, .bool false, .int .i64 0, .int .i64 0] := R4.setNe (by have := HRL.out; omega)
  have T6 : Blk (wc.setCell ⟨gL, 2, none⟩ (.int .i64 tk)) gT 39 #[] := T4.setNe (by have := HRL.out; omega)
  have o6 : Own (wc.setCell ⟨gL, 2, none⟩ (.int .i64 tk)) w.heap.size (.slice (some ⟨g, 0, none⟩) l l) zs := own_set1 o4 ⟨_, N4⟩
  have b6 : Below w.heap.size w (wc.setCell ⟨gL, 2, none⟩ (.int .i64 tk)) := b4.setCell (p := ⟨gL, 2, none⟩) (by show w.heap.size ≤ gL; have := HRL.out; omega) _
  generalize wc.setCell ⟨gL, 2, none⟩ (.int .i64 tk) = w6 at *
  clear N4 R4 T4 o4 b4 n0 n1 n2 n3 fn
  obtain ⟨n0, n1, n2, n3⟩ := N6.four
  go_wp2_with fail
  refine (state_shut (some ⟨g, 0, none⟩) l l tk wt _).mono ?_
  rintro e w7 ⟨rfl, b'⟩
  have N7 := N6.below b'
  have R7 := R6.below b'
  have T7 := T6.below b'
  have o7 := o6.below b'
  have b7 := bel_next b6 b'
  clear b' b6 N6 R6 T6 o6
  clear n0 n1 n2 n3
  go_wp2_with fail
  refine (between_pass (some ⟨g, 0, none⟩) l l false tk wt b _ hb).mono ?_
  rintro e w8 ⟨rfl, b'⟩
  have N8 := N7.below b'
  have R8 := R7.below b'
  have T8 := T7.below b'
  have o8 := o7.below b'
  have b8 := bel_next b7 b'
  clear b' b7 N7 R7 T7 o7
  obtain ⟨n0, n1, n2, n3⟩ := N8.four
  have fn := N8.fro
  go_upto_region 9 with fail
  have N9 : Blk ((((w8.setCell ⟨gL, 0, none⟩ (.slice (some ⟨g, 0, none⟩) l l)).setCell ⟨gL, 1, none⟩ (.bool false)).setCell ⟨gL, 2, none⟩ (.int .i64 tk)).setCell ⟨gL, 3, none⟩ (.int .i64 wt)) gL 31 #[.slice (some ⟨g, 0, none⟩) l l, .bool false, .int .i64 tk, .int .i64 wt] := st4_self N8 _ _ _ _
  have R9 : Blk ((((w8.setCell ⟨gL, 0, none⟩ (.slice (some ⟨g, 0, none⟩) l l)).setCell ⟨gL, 1, none⟩ (.bool false)).setCell ⟨gL, 2, none⟩ (.int .i64 tk)).setCell ⟨gL, 3, none⟩ (.int .i64 wt)) (w.heap.size + 1) 31 #[.slice none 0 0, .bool false, .int .i64 0, .int .i64 0] := st4_blk R8 (by have := HRL.out; omega)
  have b9 : Below w.heap.size w ((((w8.setCell ⟨gL, 0, none⟩ (.slice (some ⟨g, 0, none⟩) l l)).setCell ⟨gL, 1, none⟩ (.bool false)).setCell ⟨gL, 2, none⟩ (.int .i64 tk)).setCell ⟨gL, 3, none⟩ (.int .i64 wt)) := st4_bel b8 (by have := HRL.out; omega)
  have o9 : Own ((((w8.setCell ⟨gL, 0, none⟩ (.slice (some ⟨g, 0, none⟩) l l)).setCell ⟨gL, 1, none⟩ (.bool false)).setCell ⟨gL, 2, none⟩ (.int .i64 tk)).setCell ⟨gL, 3, none⟩ (.int .i64 wt)) w.heap.size (.slice (some ⟨g, 0, none⟩) l l) zs := st4_own o8 ⟨_, N8⟩
  generalize (((w8.setCell ⟨gL, 0, none⟩ (.slice (some ⟨g, 0, none⟩) l l)).setCell ⟨gL, 1, none⟩ (.bool false)).setCell ⟨gL, 2, none⟩ (.int .i64 tk)).setCell ⟨gL, 3, none⟩ (.int .i64 wt) = w9 at *
  clear n0 n1 n2 n3 fn N8 R8 b8 T8 o8
  obtain ⟨n0, n1, n2, n3⟩ := N9.four
  obtain ⟨r0, r1, r2, r3⟩ := R9.four
  have fr := R9.fro
  have hap := app_none gT 0 0 (Nat.le_refl _)
  go_region
  all_goals go_wp2
  all_goals refine bodyPost_ret (v := .tuple #[sc (some ⟨g, 0, none⟩) l l false tk wt, .slice (some ⟨gT, 0, none⟩) 0 0]) (by simp [results, Try.results16, go_sem, r0, r1, r2, r3]) rfl ?_
  all_goals exact ⟨_, _, _, _, _, _, rfl, HN.out.1, Own.below (st4_own o9 ⟨_, R9⟩) (Below.refl _ _).drew, .inl ⟨rfl, rfl⟩, (st4_bel b9 (by omega)).drew⟩

set_option maxRecDepth 20000 in
set_option maxHeartbeats 2000000 in
theorem implAsciiHear_sc (a : Option Addr) (l c : Nat) (ls wt b tk : Int) (zs : List Int) (w : World) (hn : l = zs.length) (hs : Sl w a zs) (hl : zs.length ≤ 2000000) (ho : okAk zs false ls wt = true) (ht : 0 ≤ tk ∧ tk ≤ 4294967295) (hb : b = 58) :
    Calls Try.prog 16 #[sc a l c false ls wt, .int .u8 b, .int .i64 tk] w fun e w' => XR w w' e [58] true tk wt none := by
  have HN : Hid (l = zs.length ∧ l ≤ 2000000 ∧ zs.length ≤ 2000000) := by show _ ∧ _; omega
  obtain ⟨W0, hW0'⟩ : ∃ W0, W0 = (w.alloc (.cells #[.slice a l c, .bool false, .int .i64 ls, .int .i64 wt] 31)).alloc (.cells #[.slice none 0 0, .bool false, .int .i64 0, .int .i64 0] 31) := ⟨_, rfl⟩
  have hW0 : Hid (W0 = _) := hW0'
  have hz : W0.heap.size = w.heap.size + 1 + 1 := by rw [hW0']; simp
  have B0 : Below w.heap.size w W0 := by rw [hW0']; exact bel_next (bel_alloc w _) (bel_alloc _ _)
  have X0 : Blk W0 w.heap.size 31 #[.slice a l c, .bool false, .int .i64 ls, .int .i64 wt] := by rw [hW0']; exact (Blk.new w _ _).below (bel_alloc _ _)
  have R0 : Blk W0 (w.heap.size + 1) 31 #[.slice none 0 0, .bool false, .int .i64 0, .int .i64 0] := by rw [hW0']; have := Blk.new (w.alloc (.cells #[.slice a l c, .bool false, .int .i64 ls, .int .i64 wt] 31)) #[.slice none 0 0, .bool false, .int .i64 0, .int .i64 0] 31; simpa using this
  have S1 : Hid (Sl W0 a zs) := hs.below B0
  clear hn hs hW0' hl
  subst hb
  have HZ0 : Hid (zs.length = 0) := by show zs.length = 0; have := (okAk_parts ho).2.2.2.2.2; simp at this; rw [this]; rfl
  have HP : Hid (0 ≤ ls ∧ ls ≤ 4294967295 ∧ 0 ≤ tk ∧ tk ≤ 4294967295) := ⟨(okAk_parts ho).2.2.2.1, (okAk_parts ho).2.2.2.2.1, ht⟩
  have h1 := ht.1
  have h2 := ht.2
  clear ht
  go_enter Try.func16, Try.ntmps16
  go_wp2_with fail
  rw [← hW0.out]
  refine (implAsciiOk_any a l c false ls wt zs _ HN.out.1 S1.out HN.out.2.1 _ ho).mono ?_
  rintro e w1 ⟨rfl, b'⟩
  have b1 := bel_next B0 b'
  have X1 := X0.below b'
  have R1 := R0.below b'
  have S2 : Hid (Sl w1 a zs) := S1.out.below b'
  clear b' B0 X0 R0 S1
  obtain ⟨x0, x1, x2, x3⟩ := X1.four
  clear ho
  go_wp2_with (go_at_call 46; go_in)
  refine (copyAscii_any a l c false ls wt zs _ HN.out.1 S2.out HN.out.2.2).mono ?_
  rintro e w2 ⟨g, rfl, o2, b'⟩
  have b2 := bel_next b1 b'
  have R2 := R1.below b'
  have o2' := o2.monoT b1.size
  clear b' o2 b1 R1 X1 x0 x1 x2 x3 S2
  obtain ⟨w3, hw3⟩ : ∃ x, x = (w2.alloc (.cells #[] 39)).alloc (.cells #[.slice (some ⟨g, 0, none⟩) l l, .bool false, .int .i64 ls, .int .i64 wt] 31) := ⟨_, rfl⟩
  obtain ⟨gL, hgL⟩ : ∃ x, x = w2.heap.size + 1 := ⟨_, rfl⟩
  obtain ⟨gT, hgT⟩ : ∃ x, x = w2.heap.size := ⟨_, rfl⟩
  have HW3 : Hid (w3 = _) := hw3
  have HGL : Hid (gL = w2.heap.size + 1) := hgL
  have HGT : Hid (gT = w2.heap.size) := hgT
  have q3 : Below w2.heap.size w2 w3 := by rw [hw3]; exact bel_next (bel_alloc _ _) (bel_alloc _ _)
  have N3 : Blk w3 gL 31 #[.slice (some ⟨g, 0, none⟩) l l, .bool false, .int .i64 ls, .int .i64 wt] := by rw [hw3, hgL]; have := Blk.new (w2.alloc (.cells #[] 39)) #[.slice (some ⟨g, 0, none⟩) l l, .bool false, .int .i64 ls, .int .i64 wt] 31; simpa using this
  have T3 : Blk w3 gT 39 #[] := by rw [hw3, hgT]; exact (Blk.new w2 _ _).below (bel_alloc _ _)
  have b3 := bel_next b2 q3
  have R3 := R2.below q3
  have o3 := o2'.below q3
  have HRL : Hid (w.heap.size + 1 < gL ∧ w.heap.size ≤ gT ∧ gT ≠ gL ∧ gT ≠ w.heap.size + 1) := by show _ ∧ _; have := R2.lt; omega
  clear hw3 hgL hgT q3 b2 R2 o2'
  go_wp2_with fail
  rw [← HW3.out]
  simp only [← HGL.out]
  simp only [← HGT.out]
  obtain ⟨n0, n1, n2, n3⟩ := N3.four
  go_cut [35] (fun s wc => s = .bool false ∧ Below w3.heap.size w3 wc)
  case first =>
    refine wp_region_any (by kernel_rfl) ?_
    (try (change wpAny _ _ _ _ _ _ _ (World.drew _)))
    refine wpAny_ready (rs := [0]) (by kernel_rfl) (by simp) ?_
    refine AllReady.cons rfl (fun K hK => ?_) AllReady.nil
    go_simp
    refine hK _ _ ?_
    clear hK K
    refine wpAny_ready (rs := [1]) (by kernel_rfl) (by simp) ?_
    refine AllReady.cons rfl (fun K hK => ?_) AllReady.nil
    go_simp
    refine hK _ _ ?_
    clear hK K
    refine wpAny_ready (rs := [2]) (by kernel_rfl) (by simp) ?_
    refine AllReady.cons rfl (fun K hK => ?_) AllReady.nil
    go_simp
    refine hK _ _ ?_
    clear hK K
    refine wpAny_take (i := 3) (v := undef) rfl (by kernel_rfl) (by kernel_rfl) (by kernel_rfl) (fun _ _ _ h => h) (Or.inr ⟨by rfl, rfl⟩) ?_
    refine wpAny_take (i := 5) (v := undef) rfl (by kernel_rfl) (by kernel_rfl) (by kernel_rfl) (fun _ _ _ h => h) (Or.inr ⟨by rfl, rfl⟩) ?_
    refine wpAny_take (i := 7) (v := undef) rfl (by kernel_rfl) (by kernel_rfl) (by kernel_rfl) (fun _ _ _ h => h) (Or.inr ⟨by rfl, rfl⟩) ?_
    refine wpAny_ready (rs := [4, 8]) (by kernel_rfl) (by simp) ?_
    refine AllReady.cons rfl (fun K hK => ?_) ?_
    · skip
      go_simp
      refine hK _ _ ?_
      clear hK K
      refine wpAny_ready (rs := [6, 8]) (by kernel_rfl) (by simp) ?_
      refine AllReady.cons rfl (fun K hK => ?_) ?_
      · skip
        go_simp
        refine hK _ _ ?_
        clear hK K
        refine wpAny_ready (rs := [8]) (by kernel_rfl) (by simp) ?_
        refine AllReady.cons rfl (fun K hK => ?_) AllReady.nil
        go_simp
        refine hK _ _ ?_
        clear hK K
        refine wpAny_ready (rs := [9]) (by kernel_rfl) (by simp) ?_
        refine AllReady.cons rfl (fun K hK => ?_) AllReady.nil
        go_simp
        refine hK _ _ ?_
        clear hK K
        refine wpAny_ready (rs := [10]) (by kernel_rfl) (by simp) ?_
        refine AllReady.cons rfl (fun K hK => ?_) AllReady.nil
        go_simp
        refine hK _ _ ?_
        clear hK K
        refine wpAny_done (by kernel_rfl) ?_ _
        (go_wp2_with fail; go_meet; exact ⟨by first | rfl | simp [hgp], by first | exact Below.refl _ _ | exact (Below.refl _ _).drew | exact (Below.refl _ _).drew.drew⟩)
      refine AllReady.cons rfl (fun K hK => ?_) AllReady.nil
      go_simp
      refine hK _ _ ?_
      clear hK K
      refine wpAny_ready (rs := [6]) (by kernel_rfl) (by simp) ?_
      refine AllReady.cons rfl (fun K hK => ?_) AllReady.nil
      go_simp
      refine hK _ _ ?_
      clear hK K
      refine wpAny_ready (rs := [9]) (by kernel_rfl) (by simp) ?_
      refine AllReady.cons rfl (fun K hK => ?_) AllReady.nil
      go_simp
      refine hK _ _ ?_
      clear hK K
      refine wpAny_ready (rs := [10]) (by kernel_rfl) (by simp) ?_
      refine AllReady.cons rfl (fun K hK => ?_) AllReady.nil
      go_simp
      refine hK _ _ ?_
      clear hK K
      refine wpAny_done (by kernel_rfl) ?_ _
      (go_wp2_with fail; go_meet; exact ⟨by first | rfl | simp [hgp], by first | exact Below.refl _ _ | exact (Below.refl _ _).drew | exact (Below.refl _ _).drew.drew⟩)
    refine AllReady.cons rfl (fun K hK => ?_) AllReady.nil
    go_simp
    refine hK _ _ ?_
    clear hK K
    refine wpAny_ready (rs := [4]) (by kernel_rfl) (by simp) ?_
    refine AllReady.cons rfl (fun K hK => ?_) AllReady.nil
    go_simp
    refine hK _ _ ?_
    clear hK K
    refine wpAny_ready (rs := [6]) (by kernel_rfl) (by simp) ?_
    refine AllReady.cons rfl (fun K hK => ?_) AllReady.nil
    go_simp
    refine hK _ _ ?_
    clear hK K
    refine wpAny_ready (rs := [9]) (by kernel_rfl) (by simp) ?_
    refine AllReady.cons rfl (fun K hK => ?_) AllReady.nil
    go_simp
    refine hK _ _ ?_
    clear hK K
    refine wpAny_ready (rs := [10]) (by kernel_rfl) (by simp) ?_
    refine AllReady.cons rfl (fun K hK => ?_) AllReady.nil
    go_simp
    refine hK _ _ ?_
    clear hK K
    refine wpAny_done (by kernel_rfl) ?_ _
    (go_wp2_with fail; go_meet; exact ⟨by first | rfl | simp [hgp], by first | exact Below.refl _ _ | exact (Below.refl _ _).drew | exact (Below.refl _ _).drew.drew⟩)
  case rest =>
  obtain ⟨rfl, b'⟩ := hcut
  have R4 := R3.below b'
  have N4 := N3.below b'
  have T4 := T3.below b'
  have o4 := o3.below b'
  have b4 := bel_next b3 b'
  clear b' R3 N3 T3 o3 b3 n0 n1 n2 n3
  obtain ⟨n0, n1, n2, n3⟩ := N4.four
  have fn := N4.fro
  go_upto_region 7 with fail
  have N6 : Blk (wc.setCell ⟨gL, 2, none⟩ (.int .i64 tk)) gL 31 #[.slice (some ⟨g, 0, none⟩) l l, .bool false, .int .i64 tk, .int .i64 wt] := by have := N4.set 2 (.int .i64 tk); simpa using this
  have R6 : Blk (wc.setCell ⟨gL, 2, none⟩ (.int .i64 tk)) (w.heap.size + 1) 31 #[.slice none 0 0, .bool false, .int .i64 0, .int .i64 0] := R4.setNe (by have := HRL.out; omega)
  have T6 : Blk (wc.setCell ⟨gL, 2, none⟩ (.int .i64 tk)) gT 39 #[] := T4.setNe (by have := HRL.out; omega)
  have o6 : Own (wc.setCell ⟨gL, 2, none⟩ (.int .i64 tk)) w.heap.size (.slice (some ⟨g, 0, none⟩) l l) zs := own_set1 o4 ⟨_, N4⟩
  have b6 : Below w.heap.size w (wc.setCell ⟨gL, 2, none⟩ (.int .i64 tk)) := b4.setCell (p := ⟨gL, 2, none⟩) (by show w.heap.size ≤ gL; have := HRL.out; omega) _
  generalize wc.setCell ⟨gL, 2, none⟩ (.int .i64 tk) = w6 at *
  clear N4 R4 T4 o4 b4 n0 n1 n2 n3 fn
  obtain ⟨n0, n1, n2, n3⟩ := N6.four
  go_wp2_with fail
  refine (state_shut (some ⟨g, 0, none⟩) l l tk wt _).mono ?_
  rintro e w7 ⟨rfl, b'⟩
  have N7 := N6.below b'
  have R7 := R6.below b'
  have T7 := T6.below b'
  have o7 := o6.below b'
  have b7 := bel_next b6 b'
  clear b' b6 N6 R6 T6 o6
  clear n0 n1 n2 n3
  go_wp2_with fail
  refine (between_colon (some ⟨g, 0, none⟩) l l false tk wt 58 _ rfl).mono ?_
  rintro e w8 ⟨g8, rfl, u8', b'⟩
  have u8 := u8'.monoT b7.size
  clear u8'
  have N8 := N7.below b'
  have R8 := R7.below b'
  have T8 := T7.below b'
  have o8 := o7.below b'
  have b8 := bel_next b7 b'
  clear b' b7 N7 R7 T7 o7
  obtain ⟨n0, n1, n2, n3⟩ := N8.four
  have fn := N8.fro
  go_upto_region 9 with fail
  have N9 : Blk ((((w8.setCell ⟨gL, 0, none⟩ (.slice (some ⟨g8, 0, none⟩) 1 1)).setCell ⟨gL, 1, none⟩ (.bool true)).setCell ⟨gL, 2, none⟩ (.int .i64 tk)).setCell ⟨gL, 3, none⟩ (.int .i64 wt)) gL 31 #[.slice (some ⟨g8, 0, none⟩) 1 1, .bool true, .int .i64 tk, .int .i64 wt] := st4_self N8 _ _ _ _
  have R9 : Blk ((((w8.setCell ⟨gL, 0, none⟩ (.slice (some ⟨g8, 0, none⟩) 1 1)).setCell ⟨gL, 1, none⟩ (.bool true)).setCell ⟨gL, 2, none⟩ (.int .i64 tk)).setCell ⟨gL, 3, none⟩ (.int .i64 wt)) (w.heap.size + 1) 31 #[.slice none 0 0, .bool false, .int .i64 0, .int .i64 0] := st4_blk R8 (by have := HRL.out; omega)
  have b9 : Below w.heap.size w ((((w8.setCell ⟨gL, 0, none⟩ (.slice (some ⟨g8, 0, none⟩) 1 1)).setCell ⟨gL, 1, none⟩ (.bool true)).setCell ⟨gL, 2, none⟩ (.int .i64 tk)).setCell ⟨gL, 3, none⟩ (.int .i64 wt)) := st4_bel b8 (by have := HRL.out; omega)
  have u9 : Own ((((w8.setCell ⟨gL, 0, none⟩ (.slice (some ⟨g8, 0, none⟩) 1 1)).setCell ⟨gL, 1, none⟩ (.bool true)).setCell ⟨gL, 2, none⟩ (.int .i64 tk)).setCell ⟨gL, 3, none⟩ (.int .i64 wt)) w.heap.size (.slice (some ⟨g8, 0, none⟩) 1 1) [58] := st4_own u8 ⟨_, N8⟩
  generalize (((w8.setCell ⟨gL, 0, none⟩ (.slice (some ⟨g8, 0, none⟩) 1 1)).setCell ⟨gL, 1, none⟩ (.bool true)).setCell ⟨gL, 2, none⟩ (.int .i64 tk)).setCell ⟨gL, 3, none⟩ (.int .i64 wt) = w9 at *
  clear n0 n1 n2 n3 fn N8 R8 b8 T8 u8
  obtain ⟨n0, n1, n2, n3⟩ := N9.four
  obtain ⟨r0, r1, r2, r3⟩ := R9.four
  have fr := R9.fro
  have hap := app_none gT 0 0 (Nat.le_refl _)
  go_region
  all_goals go_wp2
  all_goals refine bodyPost_ret (v := .tuple #[sc (some ⟨g8, 0, none⟩) 1 1 true tk wt, .slice (some ⟨gT, 0, none⟩) 0 0]) (by simp [results, Try.results16, go_sem, r0, r1, r2, r3]) rfl ?_
  all_goals exact ⟨_, _, _, _, _, _, rfl, rfl, Own.below (st4_own u9 ⟨_, R9⟩) (Below.refl _ _).drew, .inl ⟨rfl, rfl⟩, (st4_bel b9 (by omega)).drew⟩

end Go.Proofs.Ytmcednhinafpeaa
