/- AsciiHear of the model, a frame open. -/
import Derived.Test.YtmcednhinafpeaaAsc9
namespace Go.Proofs.Ytmcednhinafpeaa
open Go.RowKit

set_option linter.unusedVariables false

set_option linter.unusedSimpArgs false

set_option maxRecDepth 20000 in
set_option maxHeartbeats 2000000 in
theorem specAsciiHear_oc (a : Option Addr) (l c : Nat) (ls wt b tk : Int) (zs : List Int) (w : World) (hn : l = zs.length) (hs : Sl w a zs) (hl : zs.length ≤ 2000000) (ho : okK zs true ls wt = true) (ht : 0 ≤ tk ∧ tk ≤ 4294967295) (hgp : ¬ wt ≤ gap ls tk) (hb : b = 58) :
    Calls Try.prog 31 #[sc a l c true ls wt, .int .u8 b, .int .i64 tk] w fun e w' => XR w w' e [58] true tk wt (some (4, 0, [])) := by
  subst hb
  have HP : Hid (0 ≤ ls ∧ ls ≤ 4294967295 ∧ 0 ≤ tk ∧ tk ≤ 4294967295) := ⟨(okK_parts ho).2.2.2.1, (okK_parts ho).2.2.2.2.1, ht⟩
  have h1 := ht.1
  have h2 := ht.2
  clear ht
  have HN : Hid (l = zs.length ∧ l ≤ 2000000 ∧ zs.length ≤ 2000000) := by show _ ∧ _; omega
  obtain ⟨W0, hW0'⟩ : ∃ W0, W0 = (((w.alloc (.cells #[.slice a l c, .bool true, .int .i64 ls, .int .i64 wt] 31)).alloc (.cells #[.slice none 0 0, .bool false, .int .i64 0, .int .i64 0] 31)).alloc (.cells #[.slice a l c, .bool true, .int .i64 ls, .int .i64 wt] 31)).alloc (.cells #[] 5) := ⟨_, rfl⟩
  have hW0 : Hid (W0 = _) := hW0'
  have hz : W0.heap.size = w.heap.size + 1 + 1 + 1 + 1 := by rw [hW0']; simp
  have B0 : Below w.heap.size w W0 := by rw [hW0']; exact bel_next (bel_next (bel_next (bel_alloc w _) (bel_alloc _ _)) (bel_alloc _ _)) (bel_alloc _ _)
  have X0 : Blk W0 w.heap.size 31 #[.slice a l c, .bool true, .int .i64 ls, .int .i64 wt] := by rw [hW0']; exact (((Blk.new w _ _).below (bel_alloc _ _)).below (bel_alloc _ _)).below (bel_alloc _ _)
  have R0 : Blk W0 (w.heap.size + 1) 31 #[.slice none 0 0, .bool false, .int .i64 0, .int .i64 0] := by rw [hW0']; have := ((Blk.new (w.alloc (.cells #[.slice a l c, .bool true, .int .i64 ls, .int .i64 wt] 31)) #[.slice none 0 0, .bool false, .int .i64 0, .int .i64 0] 31).below (bel_alloc _ (.cells #[.slice a l c, .bool true, .int .i64 ls, .int .i64 wt] 31))).below (bel_alloc _ (.cells #[] 5)); simpa using this
  have N0 : Blk W0 (w.heap.size + 1 + 1) 31 #[.slice a l c, .bool true, .int .i64 ls, .int .i64 wt] := by rw [hW0']; have := (Blk.new ((w.alloc (.cells #[.slice a l c, .bool true, .int .i64 ls, .int .i64 wt] 31)).alloc (.cells #[.slice none 0 0, .bool false, .int .i64 0, .int .i64 0] 31)) #[.slice a l c, .bool true, .int .i64 ls, .int .i64 wt] 31).below (bel_alloc _ (.cells #[] 5)); simpa using this
  have oL : Own W0 w.heap.size (.slice (some ⟨w.heap.size + 1 + 1 + 1, 0, none⟩) 0 0) [] := by rw [hW0']; have := own_lit0 (((w.alloc (.cells #[.slice a l c, .bool true, .int .i64 ls, .int .i64 wt] 31)).alloc (.cells #[.slice none 0 0, .bool false, .int .i64 0, .int .i64 0] 31)).alloc (.cells #[.slice a l c, .bool true, .int .i64 ls, .int .i64 wt] 31)) w.heap.size (by simp; omega); simpa using this
  have S1 : Hid (Sl W0 a zs) := hs.below B0
  have HS : Hid (Sl w a zs) := hs
  have HLn : Hid (([] : List Int).length + zs.length ≤ 4000000) := by show ([] : List Int).length + zs.length ≤ 4000000; simp; omega
  clear hn hs hW0' hl
  go_enter Try.func31, Try.ntmps31
  go_upto_region 4 with (at_builtin; rw [← hW0.out]; refine wpList_appTO rfl (.tmp 14) (.tmp 16) rfl w.heap.size (.slice (some ⟨w.heap.size + 1 + 1 + 1, 0, none⟩) 0 0) [] rfl oL a l c zs rfl HN.out.1 S1.out HLn.out (by omega) ?_; intro v' w1 o1 g1; rw [List.nil_append] at o1; have b1 : Below w.heap.size w w1 := bel_grown B0 oL g1 (Nat.le_refl _) (by omega); have X1 := X0.grown g1 (row_noBlk oL X0 (by decide)); have R1 := R0.grown g1 (row_noBlk oL R0 (by decide)); have N1 := N0.grown g1 (row_noBlk oL N0 (by decide)); obtain ⟨a', c', n', rfl, hn'⟩ := own_shapeT o1; have HN' : Hid (n' = zs.length) := hn'; clear hn' g1 oL X0 R0 N0 B0 S1; obtain ⟨x0, x1, x2, x3⟩ := X1.four; obtain ⟨n0, n1, n2, n3⟩ := N1.four; have fn := N1.fro)
  obtain ⟨gO, hgO⟩ : ∃ x, x = w.heap.size + 1 + 1 := ⟨_, rfl⟩
  obtain ⟨gT, hgT⟩ : ∃ x, x = w1.heap.size := ⟨_, rfl⟩
  have HGO : Hid (gO = w.heap.size + 1 + 1) := hgO
  have HGT : Hid (gT = w1.heap.size) := hgT
  rw [← hgO] at N1
  obtain ⟨w2, hw2⟩ : ∃ x, x = ((w1.setCell ⟨gO, 0, none⟩ (.slice a' n' c')).alloc (.cells #[] 39)) := ⟨_, rfl⟩
  have HW2 : Hid (w2 = _) := hw2
  have hO : w.heap.size + 1 < gO := by omega
  have q2 := bel_alloc (w1.setCell ⟨gO, 0, none⟩ (.slice a' n' c')) (.cells #[] 39)
  rw [← hw2] at q2
  have N2 : Blk w2 gO 31 #[.slice a' n' c', .bool true, .int .i64 ls, .int .i64 wt] := by have := N1.set 0 (.slice a' n' c'); have := this.below q2; simpa using this
  have X2 : Blk w2 w.heap.size 31 #[.slice a l c, .bool true, .int .i64 ls, .int .i64 wt] := (Blk.setNe X1 (by omega)).below q2
  have R2 : Blk w2 (w.heap.size + 1) 31 #[.slice none 0 0, .bool false, .int .i64 0, .int .i64 0] := (Blk.setNe R1 (by omega)).below q2
  have o2 : Own w2 w.heap.size (.slice a' n' c') zs := (own_set1 o1 ⟨_, N1⟩).below q2
  have T2 : Blk w2 gT 39 #[] := by have := Blk.new (w1.setCell ⟨gO, 0, none⟩ (.slice a' n' c')) #[] 39; rw [← hw2] at this; rw [hgT]; simpa [World.setCell] using this
  have b2 : Below w.heap.size w w2 := bel_next (b1.setCell (p := ⟨gO, 0, none⟩) (by show w.heap.size ≤ gO; omega) _) q2
  have HRT : Hid (w.heap.size + 1 < gO ∧ w.heap.size ≤ gT ∧ gT ≠ gO ∧ gT ≠ w.heap.size + 1) := by show _ ∧ _; have := N1.lt; have := b1.size; omega
  clear hw2 q2 hgO hgT N1 X1 R1 o1 b1 x0 x1 x2 x3 n0 n1 n2 n3 fn
  simp only [← HGO.out]
  rw [← HW2.out]
  simp only [← HGT.out]
  have S2 : Hid (Sl w2 a zs) := HS.out.below b2
  obtain ⟨x0, x1, x2, x3⟩ := X2.four
  go_wp2_with fail
  clear x0 x1 x2 x3
  refine (specAsciiOk_any a l c true ls wt zs _ HN.out.1 S2.out HN.out.2.1 _ ho).mono ?_
  rintro e w3 ⟨rfl, b'⟩
  have N3 := N2.below b'
  have X3 := X2.below b'
  have R3 := R2.below b'
  have o3 := o2.below b'
  have T3 := T2.below b'
  have b3 := bel_next b2 b'
  clear b' b2 N2 X2 R2 o2 T2 S2
  clear ho
  obtain ⟨x0, x1, x2, x3⟩ := X3.four
  go_wp2_with (first | (go_at_call 57; go_in) | (go_at_call 55; go_in))
  go_cut [40] (fun s wc => s = .bool false ∧ Below w3.heap.size w3 wc)
  case first =>
    refine wp_region_any (by kernel_rfl) ?_
    (try (change wpAny _ _ _ _ _ _ _ (World.drew _)))
    refine wpAny_ready (rs := [0]) (by kernel_rfl) (by simp) ?_
    refine AllReady.cons rfl (fun K hK => ?_) AllReady.nil
    go_simp
    refine hK _ _ ?_
    clear hK K
    refine wpAny_ready (rs := [1]) (by kernel_rfl) (by simp) ?_
    refine AllReady.cons rfl (fun K hK => ?_) AllReady.nil
    go_simp
    refine hK _ _ ?_
    clear hK K
    refine wpAny_ready (rs := [2]) (by kernel_rfl) (by simp) ?_
    refine AllReady.cons rfl (fun K hK => ?_) AllReady.nil
    go_simp
    refine hK _ _ ?_
    clear hK K
    refine wpAny_take (i := 3) (v := ?v3) rfl (by kernel_rfl) (by kernel_rfl) (by kernel_rfl) (fun _ _ _ h => h) (Or.inl ⟨by rfl, ?h3⟩) ?_
    case h3 => intro w; go_simp; try (with_reducible rfl)
    refine wpAny_take (i := 5) (v := ?v5) rfl (by kernel_rfl) (by kernel_rfl) (by kernel_rfl) (fun _ _ _ h => h) (Or.inl ⟨by rfl, ?h5⟩) ?_
    case h5 => intro w; go_simp; try (with_reducible rfl)
    refine wpAny_take (i := 7) (v := ?v7) rfl (by kernel_rfl) (by kernel_rfl) (by kernel_rfl) (fun _ _ _ h => h) (Or.inl ⟨by rfl, ?h7⟩) ?_
    case h7 => intro w; go_simp; try (with_reducible rfl)
    refine wpAny_ready (rs := [4, 8]) (by kernel_rfl) (by simp) ?_
    refine AllReady.cons rfl (fun K hK => ?_) ?_
    · skip
      go_simp
      refine hK _ _ ?_
      clear hK K
      refine wpAny_ready (rs := [6, 8]) (by kernel_rfl) (by simp) ?_
      refine AllReady.cons rfl (fun K hK => ?_) ?_
      · skip
        go_simp
        go_wp2_with (go_at_call 58; refine (specGap_ok ls tk _ HP.out.1 HP.out.2.1 HP.out.2.2.1 HP.out.2.2.2).mono ?_; rintro e w5 ⟨rfl, e5⟩; subst e5)
        try (refine hK _ _ ?_; clear hK K)
        refine wpAny_ready (rs := [8]) (by kernel_rfl) (by simp) ?_
        refine AllReady.cons rfl (fun K hK => ?_) AllReady.nil
        go_simp
        refine hK _ _ ?_
        clear hK K
        refine wpAny_ready (rs := [9]) (by kernel_rfl) (by simp) ?_
        refine AllReady.cons rfl (fun K hK => ?_) AllReady.nil
        go_simp
        refine hK _ _ ?_
        clear hK K
        refine wpAny_ready (rs := [10]) (by kernel_rfl) (by simp) ?_
        refine AllReady.cons rfl (fun K hK => ?_) AllReady.nil
        go_simp
        refine hK _ _ ?_
        clear hK K
        refine wpAny_done (by kernel_rfl) ?_ _
        (go_wp2_with fail; go_meet; exact ⟨by first | rfl | simp [hgp], by first | exact Below.refl _ _ | exact (Below.refl _ _).drew | exact (Below.refl _ _).drew.drew⟩)
      refine AllReady.cons rfl (fun K hK => ?_) AllReady.nil
      go_simp
      refine hK _ _ ?_
      clear hK K
      refine wpAny_ready (rs := [6]) (by kernel_rfl) (by simp) ?_
      refine AllReady.cons rfl (fun K hK => ?_) AllReady.nil
      go_simp
      go_wp2_with (go_at_call 58; refine (specGap_ok ls tk _ HP.out.1 HP.out.2.1 HP.out.2.2.1 HP.out.2.2.2).mono ?_; rintro e w5 ⟨rfl, e5⟩; subst e5)
      try (refine hK _ _ ?_; clear hK K)
      refine wpAny_ready (rs := [9]) (by kernel_rfl) (by simp) ?_
      refine AllReady.cons rfl (fun K hK => ?_) AllReady.nil
      go_simp
      refine hK _ _ ?_
      clear hK K
      refine wpAny_ready (rs := [10]) (by kernel_rfl) (by simp) ?_
      refine AllReady.cons rfl (fun K hK => ?_) AllReady.nil
      go_simp
      refine hK _ _ ?_
      clear hK K
      refine wpAny_done (by kernel_rfl) ?_ _
      (go_wp2_with fail; go_meet; exact ⟨by first | rfl | simp [hgp], by first | exact Below.refl _ _ | exact (Below.refl _ _).drew | exact (Below.refl _ _).drew.drew⟩)
    refine AllReady.cons rfl (fun K hK => ?_) AllReady.nil
    go_simp
    refine hK _ _ ?_
    clear hK K
    refine wpAny_ready (rs := [4]) (by kernel_rfl) (by simp) ?_
    refine AllReady.cons rfl (fun K hK => ?_) AllReady.nil
    go_simp
    refine hK _ _ ?_
    clear hK K
    refine wpAny_ready (rs := [6]) (by kernel_rfl) (by simp) ?_
    refine AllReady.cons rfl (fun K hK => ?_) AllReady.nil
    go_simp
    go_wp2_with (go_at_call 58; refine (specGap_ok ls tk _ HP.out.1 HP.out.2.1 HP.out.2.2.1 HP.out.2.2.2).mono ?_; rintro e w5 ⟨rfl, e5⟩; subst e5)
    try (refine hK _ _ ?_; clear hK K)
    refine wpAny_ready (rs := [9]) (by kernel_rfl) (by simp) ?_
    refine AllReady.cons rfl (fun K hK => ?_) AllReady.nil
    go_simp
    refine hK _ _ ?_
    clear hK K
    refine wpAny_ready (rs := [10]) (by kernel_rfl) (by simp) ?_
    refine AllReady.cons rfl (fun K hK => ?_) AllReady.nil
    go_simp
    refine hK _ _ ?_
    clear hK K
    refine wpAny_done (by kernel_rfl) ?_ _
    (go_wp2_with fail; go_meet; exact ⟨by first | rfl | simp [hgp], by first | exact Below.refl _ _ | exact (Below.refl _ _).drew | exact (Below.refl _ _).drew.drew⟩)
  case rest =>
  obtain ⟨rfl, b'⟩ := hcut
  have N4 := N3.below b'
  have R4 := R3.below b'
  have T4 := T3.below b'
  have o4 := o3.below b'
  have b4 := bel_next b3 b'
  clear b' N3 X3 R3 T3 o3 b3 x0 x1 x2 x3
  go_upto_region 9 with fail
  have N6 := N4
  have R6 := R4
  have T6 := T4
  have o6 := o4
  have b6 := b4
  clear N4 R4 T4 o4 b4
  generalize wc = w6 at *
  obtain ⟨n0, n1, n2, n3⟩ := N6.four
  have fn := N6.fro
  go_upto_region 10 with fail
  clear n0 n1 n2 n3 fn
  have R7 : Blk (w6.setCell ⟨gO, 2, none⟩ (.int .i64 tk)) (w.heap.size + 1) 31 #[.slice none 0 0, .bool false, .int .i64 0, .int .i64 0] := R6.setNe (by omega)
  have T7 : Blk (w6.setCell ⟨gO, 2, none⟩ (.int .i64 tk)) gT 39 #[] := T6.setNe HRT.out.2.2.1
  have o7 := own_set1 (j := 2) (v := .int .i64 tk) o6 ⟨_, N6⟩
  have b7 : Below w.heap.size w (w6.setCell ⟨gO, 2, none⟩ (.int .i64 tk)) := b6.setCell (p := ⟨gO, 2, none⟩) (by show w.heap.size ≤ gO; omega) _
  have N7 : Blk (w6.setCell ⟨gO, 2, none⟩ (.int .i64 tk)) gO 31 #[.slice a' n' c', .bool true, .int .i64 tk, .int .i64 wt] := by have := N6.set 2 (.int .i64 tk); simpa using this
  generalize (w6.setCell ⟨gO, 2, none⟩ (.int .i64 tk)) = w7 at *
  clear R6 T6 o6 b6 N6
  obtain ⟨n0, n1, n2, n3⟩ := N7.four
  have fn := N7.fro
  clear n0 n1 n2 n3 fn
  obtain ⟨gN, cN, W', rs, hap, hgN, M8, q⟩ := app_one gT w7.heap.size 4 0 none 0 0 (w7.alloc (.cells #[.int .i64 4, .int .i64 0, .slice none 0 0] 39)) (Blk.new _ _ _)
  have q' := bel_next (bel_alloc w7 (.cells #[.int .i64 4, .int .i64 0, .slice none 0 0] 39)) q
  have HGN : Hid (w.heap.size ≤ gN ∧ gN ≠ gO ∧ gN ≠ w.heap.size + 1) := by show _ ∧ _; have := N7.lt; have := b7.size; simp at hgN; omega
  have R8 := R7.below q'
  have o8 := o7.below q'
  have N8 := N7.below q'
  have b8 := bel_next b7 q'
  have hN7 := N7.lt
  obtain ⟨k0, k1, k2, k3⟩ := N7.four
  clear q q' hgN R7 o7 b7 T7 N7
  obtain ⟨n0, n1, n2, n3⟩ := N8.four
  have fn := N8.fro
  have hlt := N8.lt
  have hne : ¬ gO = W'.heap.size := by omega
  go_upto_region 24 with (at_builtin; refine wpList_appG rfl (.tmp 53) (.tmp 55) rfl (.slice (some ⟨gT, 0, none⟩) 0 0) (.slice (some ⟨w7.heap.size, 0, none⟩) 1 1) (.slice (some ⟨gN, 0, none⟩) 1 cN) rfl rfl hap ?_)
  clear n0 n1 n2 n3 fn hne hlt hap k0 k1 k2 k3
  have q := bel_alloc ((W'.setCell ⟨gO, 1, none⟩ (.bool true)).setCell ⟨gO, 0, none⟩ (.slice (some ⟨W'.heap.size, 0, none⟩) 1 1)) (.cells #[.int .u8 58] 5)
  have b20 : Below w.heap.size w ((W'.setCell ⟨gO, 1, none⟩ (.bool true)).setCell ⟨gO, 0, none⟩ (.slice (some ⟨W'.heap.size, 0, none⟩) 1 1)) := (b8.setCell (p := ⟨gO, 1, none⟩) (by show w.heap.size ≤ gO; omega) _).setCell (p := ⟨gO, 0, none⟩) (by show w.heap.size ≤ gO; omega) _
  have hsz : ((W'.setCell ⟨gO, 1, none⟩ (.bool true)).setCell ⟨gO, 0, none⟩ (.slice (some ⟨W'.heap.size, 0, none⟩) 1 1)).heap.size = W'.heap.size := by simp [World.setCell]
  have u22 := own_lit1 ((W'.setCell ⟨gO, 1, none⟩ (.bool true)).setCell ⟨gO, 0, none⟩ (.slice (some ⟨W'.heap.size, 0, none⟩) 1 1)) 58 w.heap.size b20.size
  rw [hsz] at u22
  have N22 : Blk (((W'.setCell ⟨gO, 1, none⟩ (.bool true)).setCell ⟨gO, 0, none⟩ (.slice (some ⟨W'.heap.size, 0, none⟩) 1 1)).alloc (.cells #[.int .u8 58] 5)) gO 31 #[.slice (some ⟨W'.heap.size, 0, none⟩) 1 1, .bool true, .int .i64 tk, .int .i64 wt] := by have := ((N8.set 1 (.bool true)).set 0 (.slice (some ⟨W'.heap.size, 0, none⟩) 1 1)).below q; simpa using this
  have R22 : Blk (((W'.setCell ⟨gO, 1, none⟩ (.bool true)).setCell ⟨gO, 0, none⟩ (.slice (some ⟨W'.heap.size, 0, none⟩) 1 1)).alloc (.cells #[.int .u8 58] 5)) (w.heap.size + 1) 31 #[.slice none 0 0, .bool false, .int .i64 0, .int .i64 0] := Blk.below (Blk.setNe (Blk.setNe R8 (by omega)) (by omega)) q
  have b22 : Below w.heap.size w (((W'.setCell ⟨gO, 1, none⟩ (.bool true)).setCell ⟨gO, 0, none⟩ (.slice (some ⟨W'.heap.size, 0, none⟩) 1 1)).alloc (.cells #[.int .u8 58] 5)) := bel_next b20 q
  have M22 : Blk (((W'.setCell ⟨gO, 1, none⟩ (.bool true)).setCell ⟨gO, 0, none⟩ (.slice (some ⟨W'.heap.size, 0, none⟩) 1 1)).alloc (.cells #[.int .u8 58] 5)) gN 39 _ := Blk.below (Blk.setNe (Blk.setNe M8 HGN.out.2.1) HGN.out.2.1) q
  clear b20 hsz q N8 R8 b8 o8 M8
  generalize hgB : W'.heap.size = gB at *
  generalize (((W'.setCell ⟨gO, 1, none⟩ (.bool true)).setCell ⟨gO, 0, none⟩ (.slice (some ⟨gB, 0, none⟩) 1 1)).alloc (.cells #[.int .u8 58] 5)) = w22 at *
  clear hgB
  obtain ⟨n0, n1, n2, n3⟩ := N22.four
  go_upto_region 26 with fail
  clear n0 n1 n2 n3
  obtain ⟨n0, n1, n2, n3⟩ := N22.four
  obtain ⟨r0, r1, r2, r3⟩ := R22.four
  have fr := R22.fro
  go_wp2
  refine bodyPost_ret (v := .tuple #[sc (some ⟨gB, 0, none⟩) 1 1 true tk wt, .slice (some ⟨gN, 0, none⟩) 1 cN]) (by simp [results, Try.results31, go_sem, r0, r1, r2, r3]) rfl ?_
  exact ⟨_, _, _, _, _, _, rfl, rfl, st4_own u22 ⟨_, R22⟩, GotX.one HGN.out.1 (st4_blk M22 HGN.out.2.2) rfl ⟨rfl, .inl ⟨rfl, rfl⟩⟩ (.inr (.inl rfl)) (by simp), st4_bel b22 (by omega)⟩

set_option maxRecDepth 20000 in
set_option maxHeartbeats 2000000 in
theorem specAsciiHear_oa (a : Option Addr) (l c : Nat) (ls wt b tk : Int) (zs : List Int) (w : World) (hn : l = zs.length) (hs : Sl w a zs) (hl : zs.length ≤ 2000000) (ho : okK zs true ls wt = true) (ht : 0 ≤ tk ∧ tk ≤ 4294967295) (hgp : ¬ wt ≤ gap ls tk) (hl6 : l < 600) (h10 : (b == 10) = false) (hb : (b == 58) = false) :
    Calls Try.prog 31 #[sc a l c true ls wt, .int .u8 b, .int .i64 tk] w fun e w' => XR w w' e (zs ++ [b]) true tk wt none := by
  have HP : Hid (0 ≤ ls ∧ ls ≤ 4294967295 ∧ 0 ≤ tk ∧ tk ≤ 4294967295) := ⟨(okK_parts ho).2.2.2.1, (okK_parts ho).2.2.2.2.1, ht⟩
  have h1 := ht.1
  have h2 := ht.2
  clear ht
  have HN : Hid (l = zs.length ∧ l ≤ 2000000 ∧ zs.length ≤ 2000000) := by show _ ∧ _; omega
  obtain ⟨W0, hW0'⟩ : ∃ W0, W0 = (((w.alloc (.cells #[.slice a l c, .bool true, .int .i64 ls, .int .i64 wt] 31)).alloc (.cells #[.slice none 0 0, .bool false, .int .i64 0, .int .i64 0] 31)).alloc (.cells #[.slice a l c, .bool true, .int .i64 ls, .int .i64 wt] 31)).alloc (.cells #[] 5) := ⟨_, rfl⟩
  have hW0 : Hid (W0 = _) := hW0'
  have hz : W0.heap.size = w.heap.size + 1 + 1 + 1 + 1 := by rw [hW0']; simp
  have B0 : Below w.heap.size w W0 := by rw [hW0']; exact bel_next (bel_next (bel_next (bel_alloc w _) (bel_alloc _ _)) (bel_alloc _ _)) (bel_alloc _ _)
  have X0 : Blk W0 w.heap.size 31 #[.slice a l c, .bool true, .int .i64 ls, .int .i64 wt] := by rw [hW0']; exact (((Blk.new w _ _).below (bel_alloc _ _)).below (bel_alloc _ _)).below (bel_alloc _ _)
  have R0 : Blk W0 (w.heap.size + 1) 31 #[.slice none 0 0, .bool false, .int .i64 0, .int .i64 0] := by rw [hW0']; have := ((Blk.new (w.alloc (.cells #[.slice a l c, .bool true, .int .i64 ls, .int .i64 wt] 31)) #[.slice none 0 0, .bool false, .int .i64 0, .int .i64 0] 31).below (bel_alloc _ (.cells #[.slice a l c, .bool true, .int .i64 ls, .int .i64 wt] 31))).below (bel_alloc _ (.cells #[] 5)); simpa using this
  have N0 : Blk W0 (w.heap.size + 1 + 1) 31 #[.slice a l c, .bool true, .int .i64 ls, .int .i64 wt] := by rw [hW0']; have := (Blk.new ((w.alloc (.cells #[.slice a l c, .bool true, .int .i64 ls, .int .i64 wt] 31)).alloc (.cells #[.slice none 0 0, .bool false, .int .i64 0, .int .i64 0] 31)) #[.slice a l c, .bool true, .int .i64 ls, .int .i64 wt] 31).below (bel_alloc _ (.cells #[] 5)); simpa using this
  have oL : Own W0 w.heap.size (.slice (some ⟨w.heap.size + 1 + 1 + 1, 0, none⟩) 0 0) [] := by rw [hW0']; have := own_lit0 (((w.alloc (.cells #[.slice a l c, .bool true, .int .i64 ls, .int .i64 wt] 31)).alloc (.cells #[.slice none 0 0, .bool false, .int .i64 0, .int .i64 0] 31)).alloc (.cells #[.slice a l c, .bool true, .int .i64 ls, .int .i64 wt] 31)) w.heap.size (by simp; omega); simpa using this
  have S1 : Hid (Sl W0 a zs) := hs.below B0
  have HS : Hid (Sl w a zs) := hs
  have HLn : Hid (([] : List Int).length + zs.length ≤ 4000000) := by show ([] : List Int).length + zs.length ≤ 4000000; simp; omega
  clear hn hs hW0' hl
  go_enter Try.func31, Try.ntmps31
  go_upto_region 4 with (at_builtin; rw [← hW0.out]; refine wpList_appTO rfl (.tmp 14) (.tmp 16) rfl w.heap.size (.slice (some ⟨w.heap.size + 1 + 1 + 1, 0, none⟩) 0 0) [] rfl oL a l c zs rfl HN.out.1 S1.out HLn.out (by omega) ?_; intro v' w1 o1 g1; rw [List.nil_append] at o1; have b1 : Below w.heap.size w w1 := bel_grown B0 oL g1 (Nat.le_refl _) (by omega); have X1 := X0.grown g1 (row_noBlk oL X0 (by decide)); have R1 := R0.grown g1 (row_noBlk oL R0 (by decide)); have N1 := N0.grown g1 (row_noBlk oL N0 (by decide)); obtain ⟨a', c', n', rfl, hn'⟩ := own_shapeT o1; have HN' : Hid (n' = zs.length) := hn'; clear hn' g1 oL X0 R0 N0 B0 S1; obtain ⟨x0, x1, x2, x3⟩ := X1.four; obtain ⟨n0, n1, n2, n3⟩ := N1.four; have fn := N1.fro)
  obtain ⟨gO, hgO⟩ : ∃ x, x = w.heap.size + 1 + 1 := ⟨_, rfl⟩
  obtain ⟨gT, hgT⟩ : ∃ x, x = w1.heap.size := ⟨_, rfl⟩
  have HGO : Hid (gO = w.heap.size + 1 + 1) := hgO
  have HGT : Hid (gT = w1.heap.size) := hgT
  rw [← hgO] at N1
  obtain ⟨w2, hw2⟩ : ∃ x, x = ((w1.setCell ⟨gO, 0, none⟩ (.slice a' n' c')).alloc (.cells #[] 39)) := ⟨_, rfl⟩
  have HW2 : Hid (w2 = _) := hw2
  have hO : w.heap.size + 1 < gO := by omega
  have q2 := bel_alloc (w1.setCell ⟨gO, 0, none⟩ (.slice a' n' c')) (.cells #[] 39)
  rw [← hw2] at q2
  have N2 : Blk w2 gO 31 #[.slice a' n' c', .bool true, .int .i64 ls, .int .i64 wt] := by have := N1.set 0 (.slice a' n' c'); have := this.below q2; simpa using this
  have X2 : Blk w2 w.heap.size 31 #[.slice a l c, .bool true, .int .i64 ls, .int .i64 wt] := (Blk.setNe X1 (by omega)).below q2
  have R2 : Blk w2 (w.heap.size + 1) 31 #[.slice none 0 0, .bool false, .int .i64 0, .int .i64 0] := (Blk.setNe R1 (by omega)).below q2
  have o2 : Own w2 w.heap.size (.slice a' n' c') zs := (own_set1 o1 ⟨_, N1⟩).below q2
  have T2 : Blk w2 gT 39 #[] := by have := Blk.new (w1.setCell ⟨gO, 0, none⟩ (.slice a' n' c')) #[] 39; rw [← hw2] at this; rw [hgT]; simpa [World.setCell] using this
  have b2 : Below w.heap.size w w2 := bel_next (b1.setCell (p := ⟨gO, 0, none⟩) (by show w.heap.size ≤ gO; omega) _) q2
  have HRT : Hid (w.heap.size + 1 < gO ∧ w.heap.size ≤ gT ∧ gT ≠ gO ∧ gT ≠ w.heap.size + 1) := by show _ ∧ _; have := N1.lt; have := b1.size; omega
  clear hw2 q2 hgO hgT N1 X1 R1 o1 b1 x0 x1 x2 x3 n0 n1 n2 n3 fn
  simp only [← HGO.out]
  rw [← HW2.out]
  simp only [← HGT.out]
  have S2 : Hid (Sl w2 a zs) := HS.out.below b2
  obtain ⟨x0, x1, x2, x3⟩ := X2.four
  go_wp2_with fail
  clear x0 x1 x2 x3
  refine (specAsciiOk_any a l c true ls wt zs _ HN.out.1 S2.out HN.out.2.1 _ ho).mono ?_
  rintro e w3 ⟨rfl, b'⟩
  have N3 := N2.below b'
  have X3 := X2.below b'
  have R3 := R2.below b'
  have o3 := o2.below b'
  have T3 := T2.below b'
  have b3 := bel_next b2 b'
  clear b' b2 N2 X2 R2 o2 T2 S2
  clear ho
  obtain ⟨x0, x1, x2, x3⟩ := X3.four
  go_wp2_with (first | (go_at_call 57; go_in) | (go_at_call 55; go_in))
  go_cut [40] (fun s wc => s = .bool false ∧ Below w3.heap.size w3 wc)
  case first =>
    refine wp_region_any (by kernel_rfl) ?_
    (try (change wpAny _ _ _ _ _ _ _ (World.drew _)))
    refine wpAny_ready (rs := [0]) (by kernel_rfl) (by simp) ?_
    refine AllReady.cons rfl (fun K hK => ?_) AllReady.nil
    go_simp
    refine hK _ _ ?_
    clear hK K
    refine wpAny_ready (rs := [1]) (by kernel_rfl) (by simp) ?_
    refine AllReady.cons rfl (fun K hK => ?_) AllReady.nil
    go_simp
    refine hK _ _ ?_
    clear hK K
    refine wpAny_ready (rs := [2]) (by kernel_rfl) (by simp) ?_
    refine AllReady.cons rfl (fun K hK => ?_) AllReady.nil
    go_simp
    refine hK _ _ ?_
    clear hK K
    refine wpAny_take (i := 3) (v := ?v3) rfl (by kernel_rfl) (by kernel_rfl) (by kernel_rfl) (fun _ _ _ h => h) (Or.inl ⟨by rfl, ?h3⟩) ?_
    case h3 => intro w; go_simp; try (with_reducible rfl)
    refine wpAny_take (i := 5) (v := ?v5) rfl (by kernel_rfl) (by kernel_rfl) (by kernel_rfl) (fun _ _ _ h => h) (Or.inl ⟨by rfl, ?h5⟩) ?_
    case h5 => intro w; go_simp; try (with_reducible rfl)
    refine wpAny_take (i := 7) (v := ?v7) rfl (by kernel_rfl) (by kernel_rfl) (by kernel_rfl) (fun _ _ _ h => h) (Or.inl ⟨by rfl, ?h7⟩) ?_
    case h7 => intro w; go_simp; try (with_reducible rfl)
    refine wpAny_ready (rs := [4, 8]) (by kernel_rfl) (by simp) ?_
    refine AllReady.cons rfl (fun K hK => ?_) ?_
    · skip
      go_simp
      refine hK _ _ ?_
      clear hK K
      refine wpAny_ready (rs := [6, 8]) (by kernel_rfl) (by simp) ?_
      refine AllReady.cons rfl (fun K hK => ?_) ?_
      · skip
        go_simp
        go_wp2_with (go_at_call 58; refine (specGap_ok ls tk _ HP.out.1 HP.out.2.1 HP.out.2.2.1 HP.out.2.2.2).mono ?_; rintro e w5 ⟨rfl, e5⟩; subst e5)
        try (refine hK _ _ ?_; clear hK K)
        refine wpAny_ready (rs := [8]) (by kernel_rfl) (by simp) ?_
        refine AllReady.cons rfl (fun K hK => ?_) AllReady.nil
        go_simp
        refine hK _ _ ?_
        clear hK K
        refine wpAny_ready (rs := [9]) (by kernel_rfl) (by simp) ?_
        refine AllReady.cons rfl (fun K hK => ?_) AllReady.nil
        go_simp
        refine hK _ _ ?_
        clear hK K
        refine wpAny_ready (rs := [10]) (by kernel_rfl) (by simp) ?_
        refine AllReady.cons rfl (fun K hK => ?_) AllReady.nil
        go_simp
        refine hK _ _ ?_
        clear hK K
        refine wpAny_done (by kernel_rfl) ?_ _
        (go_wp2_with fail; go_meet; exact ⟨by first | rfl | simp [hgp], by first | exact Below.refl _ _ | exact (Below.refl _ _).drew | exact (Below.refl _ _).drew.drew⟩)
      refine AllReady.cons rfl (fun K hK => ?_) AllReady.nil
      go_simp
      refine hK _ _ ?_
      clear hK K
      refine wpAny_ready (rs := [6]) (by kernel_rfl) (by simp) ?_
      refine AllReady.cons rfl (fun K hK => ?_) AllReady.nil
      go_simp
      go_wp2_with (go_at_call 58; refine (specGap_ok ls tk _ HP.out.1 HP.out.2.1 HP.out.2.2.1 HP.out.2.2.2).mono ?_; rintro e w5 ⟨rfl, e5⟩; subst e5)
      try (refine hK _ _ ?_; clear hK K)
      refine wpAny_ready (rs := [9]) (by kernel_rfl) (by simp) ?_
      refine AllReady.cons rfl (fun K hK => ?_) AllReady.nil
      go_simp
      refine hK _ _ ?_
      clear hK K
      refine wpAny_ready (rs := [10]) (by kernel_rfl) (by simp) ?_
      refine AllReady.cons rfl (fun K hK => ?_) AllReady.nil
      go_simp
      refine hK _ _ ?_
      clear hK K
      refine wpAny_done (by kernel_rfl) ?_ _
      (go_wp2_with fail; go_meet; exact ⟨by first | rfl | simp [hgp], by first | exact Below.refl _ _ | exact (Below.refl _ _).drew | exact (Below.refl _ _).drew.drew⟩)
    refine AllReady.cons rfl (fun K hK => ?_) AllReady.nil
    go_simp
    refine hK _ _ ?_
    clear hK K
    refine wpAny_ready (rs := [4]) (by kernel_rfl) (by simp) ?_
    refine AllReady.cons rfl (fun K hK => ?_) AllReady.nil
    go_simp
    refine hK _ _ ?_
    clear hK K
    refine wpAny_ready (rs := [6]) (by kernel_rfl) (by simp) ?_
    refine AllReady.cons rfl (fun K hK => ?_) AllReady.nil
    go_simp
    go_wp2_with (go_at_call 58; refine (specGap_ok ls tk _ HP.out.1 HP.out.2.1 HP.out.2.2.1 HP.out.2.2.2).mono ?_; rintro e w5 ⟨rfl, e5⟩; subst e5)
    try (refine hK _ _ ?_; clear hK K)
    refine wpAny_ready (rs := [9]) (by kernel_rfl) (by simp) ?_
    refine AllReady.cons rfl (fun K hK => ?_) AllReady.nil
    go_simp
    refine hK _ _ ?_
    clear hK K
    refine wpAny_ready (rs := [10]) (by kernel_rfl) (by simp) ?_
    refine AllReady.cons rfl (fun K hK => ?_) AllReady.nil
    go_simp
    refine hK _ _ ?_
    clear hK K
    refine wpAny_done (by kernel_rfl) ?_ _
    (go_wp2_with fail; go_meet; exact ⟨by first | rfl | simp [hgp], by first | exact Below.refl _ _ | exact (Below.refl _ _).drew | exact (Below.refl _ _).drew.drew⟩)
  case rest =>
  obtain ⟨rfl, b'⟩ := hcut
  have N4 := N3.below b'
  have R4 := R3.below b'
  have T4 := T3.below b'
  have o4 := o3.below b'
  have b4 := bel_next b3 b'
  clear b' N3 X3 R3 T3 o3 b3 x0 x1 x2 x3
  go_upto_region 9 with fail
  have N6 := N4
  have R6 := R4
  have T6 := T4
  have o6 := o4
  have b6 := b4
  clear N4 R4 T4 o4 b4
  generalize wc = w6 at *
  obtain ⟨n0, n1, n2, n3⟩ := N6.four
  have fn := N6.fro
  go_upto_region 10 with fail
  clear n0 n1 n2 n3 fn
  have R7 : Blk (w6.setCell ⟨gO, 2, none⟩ (.int .i64 tk)) (w.heap.size + 1) 31 #[.slice none 0 0, .bool false, .int .i64 0, .int .i64 0] := R6.setNe (by omega)
  have T7 : Blk (w6.setCell ⟨gO, 2, none⟩ (.int .i64 tk)) gT 39 #[] := T6.setNe HRT.out.2.2.1
  have o7 := own_set1 (j := 2) (v := .int .i64 tk) o6 ⟨_, N6⟩
  have b7 : Below w.heap.size w (w6.setCell ⟨gO, 2, none⟩ (.int .i64 tk)) := b6.setCell (p := ⟨gO, 2, none⟩) (by show w.heap.size ≤ gO; omega) _
  have N7 : Blk (w6.setCell ⟨gO, 2, none⟩ (.int .i64 tk)) gO 31 #[.slice a' n' c', .bool true, .int .i64 tk, .int .i64 wt] := by have := N6.set 2 (.int .i64 tk); simpa using this
  generalize (w6.setCell ⟨gO, 2, none⟩ (.int .i64 tk)) = w7 at *
  clear R6 T6 o6 b6 N6
  obtain ⟨n0, n1, n2, n3⟩ := N7.four
  have fn := N7.fro
  have h6b : ((n' : Int) == 600) = false := by
    have := HN'.out
    have := HN.out.1
    have h : ¬ ((n' : Int) = 600) := by omega
    simpa using h
  have q := bel_alloc w7 (.cells #[.int .u8 b] 5)
  have R8 := R7.below q
  have T8 := T7.below q
  have o8 := o7.below q
  have N8 := N7.below q
  have b8 := bel_next b7 q
  have SBy : Hid (Sl (w7.alloc (.cells #[.int .u8 b] 5)) (some ⟨w7.heap.size, 0, none⟩) [b]) := sl_lit1 w7 _ rfl
  have HL8 : Hid (zs.length + [(b : Int)].length ≤ 4000000) := by show zs.length + [(b : Int)].length ≤ 4000000; have := HN.out; simp; omega
  clear q R7 T7 o7 b7
  go_upto_region 24 with (at_builtin; refine wpList_app rfl (.tmp 79) (.tmp 81) rfl w.heap.size (.slice a' n' c') zs rfl o8 ⟨w7.heap.size, 0, none⟩ 1 1 [b] rfl rfl SBy.out HL8.out b8.size ?_; intro v9 w9 o9 g9; have b9 : Below w.heap.size w w9 := bel_grown b8 o8 g9 (Nat.le_refl _) b8.size; have N9 := N8.grown g9 (row_noBlk o8 N8 (by decide)); have R9 := R8.grown g9 (row_noBlk o8 R8 (by decide)); have T9 := T8.grown g9 (row_noBlk o8 T8 (by decide)); obtain ⟨a9, c9, n9, rfl, hn9⟩ := own_shapeT o9; have HN9 : Hid (n9 = (zs ++ [b]).length) := hn9; clear hn9 g9 o8 N8 R8 T8 b8 n0 n1 n2 n3 fn SBy; obtain ⟨n0, n1, n2, n3⟩ := N9.four; have fn := N9.fro)
  clear n0 n1 n2 n3 fn N7
  have R10 : Blk (w9.setCell ⟨gO, 0, none⟩ (.slice a9 n9 c9)) (w.heap.size + 1) 31 #[.slice none 0 0, .bool false, .int .i64 0, .int .i64 0] := R9.setNe (by omega)
  have T10 : Blk (w9.setCell ⟨gO, 0, none⟩ (.slice a9 n9 c9)) gT 39 #[] := T9.setNe HRT.out.2.2.1
  have o10 := own_set1 (j := 0) (v := .slice a9 n9 c9) o9 ⟨_, N9⟩
  have b10 : Below w.heap.size w (w9.setCell ⟨gO, 0, none⟩ (.slice a9 n9 c9)) := b9.setCell (p := ⟨gO, 0, none⟩) (by show w.heap.size ≤ gO; omega) _
  have N10 : Blk (w9.setCell ⟨gO, 0, none⟩ (.slice a9 n9 c9)) gO 31 #[.slice a9 n9 c9, .bool true, .int .i64 tk, .int .i64 wt] := by have := N9.set 0 (.slice a9 n9 c9); simpa using this
  generalize (w9.setCell ⟨gO, 0, none⟩ (.slice a9 n9 c9)) = w10 at *
  clear R9 T9 o9 b9 N9
  obtain ⟨n0, n1, n2, n3⟩ := N10.four
  go_upto_region 26 with fail
  clear n0 n1 n2 n3
  obtain ⟨n0, n1, n2, n3⟩ := N10.four
  obtain ⟨r0, r1, r2, r3⟩ := R10.four
  have fr := R10.fro
  go_wp2
  refine bodyPost_ret (v := .tuple #[sc a9 n9 c9 true tk wt, .slice (some ⟨gT, 0, none⟩) 0 0]) (by simp [results, Try.results31, go_sem, r0, r1, r2, r3]) rfl ?_
  exact ⟨_, _, _, _, _, _, rfl, (by have := HN9.out; simpa using this), st4_own o10 ⟨_, R10⟩, .inl ⟨rfl, rfl⟩, st4_bel b10 (by omega)⟩

set_option maxRecDepth 20000 in
set_option maxHeartbeats 2000000 in
theorem specAsciiHear_ol (a : Option Addr) (l c : Nat) (ls wt b tk : Int) (zs : List Int) (w : World) (hn : l = zs.length) (hs : Sl w a zs) (hl : zs.length ≤ 2000000) (ho : okK zs true ls wt = true) (ht : 0 ≤ tk ∧ tk ≤ 4294967295) (hgp : ¬ wt ≤ gap ls tk) (hl6 : l = 600) (hb : (b == 58) = false) :
    Calls Try.prog 31 #[sc a l c true ls wt, .int .u8 b, .int .i64 tk] w fun e w' => XR w w' e [] false tk wt (some (2, 0, [])) := by
  have H600 : Hid (l = 600) := hl6
  clear hl6
  have HP : Hid (0 ≤ ls ∧ ls ≤ 4294967295 ∧ 0 ≤ tk ∧ tk ≤ 4294967295) := ⟨(okK_parts ho).2.2.2.1, (okK_parts ho).2.2.2.2.1, ht⟩
  have h1 := ht.1
  have h2 := ht.2
  clear ht
  have HN : Hid (l = zs.length ∧ l ≤ 2000000 ∧ zs.length ≤ 2000000) := by show _ ∧ _; omega
  obtain ⟨W0, hW0'⟩ : ∃ W0, W0 = (((w.alloc (.cells #[.slice a l c, .bool true, .int .i64 ls, .int .i64 wt] 31)).alloc (.cells #[.slice none 0 0, .bool false, .int .i64 0, .int .i64 0] 31)).alloc (.cells #[.slice a l c, .bool true, .int .i64 ls, .int .i64 wt] 31)).alloc (.cells #[] 5) := ⟨_, rfl⟩
  have hW0 : Hid (W0 = _) := hW0'
  have hz : W0.heap.size = w.heap.size + 1 + 1 + 1 + 1 := by rw [hW0']; simp
  have B0 : Below w.heap.size w W0 := by rw [hW0']; exact bel_next (bel_next (bel_next (bel_alloc w _) (bel_alloc _ _)) (bel_alloc _ _)) (bel_alloc _ _)
  have X0 : Blk W0 w.heap.size 31 #[.slice a l c, .bool true, .int .i64 ls, .int .i64 wt] := by rw [hW0']; exact (((Blk.new w _ _).below (bel_alloc _ _)).below (bel_alloc _ _)).below (bel_alloc _ _)
  have R0 : Blk W0 (w.heap.size + 1) 31 #[.slice none 0 0, .bool false, .int .i64 0, .int .i64 0] := by rw [hW0']; have := ((Blk.new (w.alloc (.cells #[.slice a l c, .bool true, .int .i64 ls, .int .i64 wt] 31)) #[.slice none 0 0, .bool false, .int .i64 0, .int .i64 0] 31).below (bel_alloc _ (.cells #[.slice a l c, .bool true, .int .i64 ls, .int .i64 wt] 31))).below (bel_alloc _ (.cells #[] 5)); simpa using this
  have N0 : Blk W0 (w.heap.size + 1 + 1) 31 #[.slice a l c, .bool true, .int .i64 ls, .int .i64 wt] := by rw [hW0']; have := (Blk.new ((w.alloc (.cells #[.slice a l c, .bool true, .int .i64 ls, .int .i64 wt] 31)).alloc (.cells #[.slice none 0 0, .bool false, .int .i64 0, .int .i64 0] 31)) #[.slice a l c, .bool true, .int .i64 ls, .int .i64 wt] 31).below (bel_alloc _ (.cells #[] 5)); simpa using this
  have oL : Own W0 w.heap.size (.slice (some ⟨w.heap.size + 1 + 1 + 1, 0, none⟩) 0 0) [] := by rw [hW0']; have := own_lit0 (((w.alloc (.cells #[.slice a l c, .bool true, .int .i64 ls, .int .i64 wt] 31)).alloc (.cells #[.slice none 0 0, .bool false, .int .i64 0, .int .i64 0] 31)).alloc (.cells #[.slice a l c, .bool true, .int .i64 ls, .int .i64 wt] 31)) w.heap.size (by simp; omega); simpa using this
  have S1 : Hid (Sl W0 a zs) := hs.below B0
  have HS : Hid (Sl w a zs) := hs
  have HLn : Hid (([] : List Int).length + zs.length ≤ 4000000) := by show ([] : List Int).length + zs.length ≤ 4000000; simp; omega
  clear hn hs hW0' hl
  go_enter Try.func31, Try.ntmps31
  go_upto_region 4 with (at_builtin; rw [← hW0.out]; refine wpList_appTO rfl (.tmp 14) (.tmp 16) rfl w.heap.size (.slice (some ⟨w.heap.size + 1 + 1 + 1, 0, none⟩) 0 0) [] rfl oL a l c zs rfl HN.out.1 S1.out HLn.out (by omega) ?_; intro v' w1 o1 g1; rw [List.nil_append] at o1; have b1 : Below w.heap.size w w1 := bel_grown B0 oL g1 (Nat.le_refl _) (by omega); have X1 := X0.grown g1 (row_noBlk oL X0 (by decide)); have R1 := R0.grown g1 (row_noBlk oL R0 (by decide)); have N1 := N0.grown g1 (row_noBlk oL N0 (by decide)); obtain ⟨a', c', n', rfl, hn'⟩ := own_shapeT o1; have HN' : Hid (n' = zs.length) := hn'; clear hn' g1 oL X0 R0 N0 B0 S1; obtain ⟨x0, x1, x2, x3⟩ := X1.four; obtain ⟨n0, n1, n2, n3⟩ := N1.four; have fn := N1.fro)
  obtain ⟨gO, hgO⟩ : ∃ x, x = w.heap.size + 1 + 1 := ⟨_, rfl⟩
  obtain ⟨gT, hgT⟩ : ∃ x, x = w1.heap.size := ⟨_, rfl⟩
  have HGO : Hid (gO = w.heap.size + 1 + 1) := hgO
  have HGT : Hid (gT = w1.heap.size) := hgT
  rw [← hgO] at N1
  obtain ⟨w2, hw2⟩ : ∃ x, x = ((w1.setCell ⟨gO, 0, none⟩ (.slice a' n' c')).alloc (.cells #[] 39)) := ⟨_, rfl⟩
  have HW2 : Hid (w2 = _) := hw2
  have hO : w.heap.size + 1 < gO := by omega
  have q2 := bel_alloc (w1.setCell ⟨gO, 0, none⟩ (.slice a' n' c')) (.cells #[] 39)
  rw [← hw2] at q2
  have N2 : Blk w2 gO 31 #[.slice a' n' c', .bool true, .int .i64 ls, .int .i64 wt] := by have := N1.set 0 (.slice a' n' c'); have := this.below q2; simpa using this
  have X2 : Blk w2 w.heap.size 31 #[.slice a l c, .bool true, .int .i64 ls, .int .i64 wt] := (Blk.setNe X1 (by omega)).below q2
  have R2 : Blk w2 (w.heap.size + 1) 31 #[.slice none 0 0, .bool false, .int .i64 0, .int .i64 0] := (Blk.setNe R1 (by omega)).below q2
  have o2 : Own w2 w.heap.size (.slice a' n' c') zs := (own_set1 o1 ⟨_, N1⟩).below q2
  have T2 : Blk w2 gT 39 #[] := by have := Blk.new (w1.setCell ⟨gO, 0, none⟩ (.slice a' n' c')) #[] 39; rw [← hw2] at this; rw [hgT]; simpa [World.setCell] using this
  have b2 : Below w.heap.size w w2 := bel_next (b1.setCell (p := ⟨gO, 0, none⟩) (by show w.heap.size ≤ gO; omega) _) q2
  have HRT : Hid (w.heap.size + 1 < gO ∧ w.heap.size ≤ gT ∧ gT ≠ gO ∧ gT ≠ w.heap.size + 1) := by show _ ∧ _; have := N1.lt; have := b1.size; omega
  clear hw2 q2 hgO hgT N1 X1 R1 o1 b1 x0 x1 x2 x3 n0 n1 n2 n3 fn
  simp only [← HGO.out]
  rw [← HW2.out]
  simp only [← HGT.out]
  have S2 : Hid (Sl w2 a zs) := HS.out.below b2
  obtain ⟨x0, x1, x2, x3⟩ := X2.four
  go_wp2_with fail
  clear x0 x1 x2 x3
  refine (specAsciiOk_any a l c true ls wt zs _ HN.out.1 S2.out HN.out.2.1 _ ho).mono ?_
  rintro e w3 ⟨rfl, b'⟩
  have N3 := N2.below b'
  have X3 := X2.below b'
  have R3 := R2.below b'
  have o3 := o2.below b'
  have T3 := T2.below b'
  have b3 := bel_next b2 b'
  clear b' b2 N2 X2 R2 o2 T2 S2
  clear ho
  obtain ⟨x0, x1, x2, x3⟩ := X3.four
  go_wp2_with (first | (go_at_call 57; go_in) | (go_at_call 55; go_in))
  go_cut [40] (fun s wc => s = .bool false ∧ Below w3.heap.size w3 wc)
  case first =>
    refine wp_region_any (by kernel_rfl) ?_
    (try (change wpAny _ _ _ _ _ _ _ (World.drew _)))
    refine wpAny_ready (rs := [0]) (by kernel_rfl) (by simp) ?_
    refine AllReady.cons rfl (fun K hK => ?_) AllReady.nil
    go_simp
    refine hK _ _ ?_
    clear hK K
    refine wpAny_ready (rs := [1]) (by kernel_rfl) (by simp) ?_
    refine AllReady.cons rfl (fun K hK => ?_) AllReady.nil
    go_simp
    refine hK _ _ ?_
    clear hK K
    refine wpAny_ready (rs := [2]) (by kernel_rfl) (by simp) ?_
    refine AllReady.cons rfl (fun K hK => ?_) AllReady.nil
    go_simp
    refine hK _ _ ?_
    clear hK K
    refine wpAny_take (i := 3) (v := ?v3) rfl (by kernel_rfl) (by kernel_rfl) (by kernel_rfl) (fun _ _ _ h => h) (Or.inl ⟨by rfl, ?h3⟩) ?_
    case h3 => intro w; go_simp; try (with_reducible rfl)
    refine wpAny_take (i := 5) (v := ?v5) rfl (by kernel_rfl) (by kernel_rfl) (by kernel_rfl) (fun _ _ _ h => h) (Or.inl ⟨by rfl, ?h5⟩) ?_
    case h5 => intro w; go_simp; try (with_reducible rfl)
    refine wpAny_take (i := 7) (v := ?v7) rfl (by kernel_rfl) (by kernel_rfl) (by kernel_rfl) (fun _ _ _ h => h) (Or.inl ⟨by rfl, ?h7⟩) ?_
    case h7 => intro w; go_simp; try (with_reducible rfl)
    refine wpAny_ready (rs := [4, 8]) (by kernel_rfl) (by simp) ?_
    refine AllReady.cons rfl (fun K hK => ?_) ?_
    · skip
      go_simp
      refine hK _ _ ?_
      clear hK K
      refine wpAny_ready (rs := [6, 8]) (by kernel_rfl) (by simp) ?_
      refine AllReady.cons rfl (fun K hK => ?_) ?_
      · skip
        go_simp
        go_wp2_with (go_at_call 58; refine (specGap_ok ls tk _ HP.out.1 HP.out.2.1 HP.out.2.2.1 HP.out.2.2.2).mono ?_; rintro e w5 ⟨rfl, e5⟩; subst e5)
        try (refine hK _ _ ?_; clear hK K)
        refine wpAny_ready (rs := [8]) (by kernel_rfl) (by simp) ?_
        refine AllReady.cons rfl (fun K hK => ?_) AllReady.nil
        go_simp
        refine hK _ _ ?_
        clear hK K
        refine wpAny_ready (rs := [9]) (by kernel_rfl) (by simp) ?_
        refine AllReady.cons rfl (fun K hK => ?_) AllReady.nil
        go_simp
        refine hK _ _ ?_
        clear hK K
        refine wpAny_ready (rs := [10]) (by kernel_rfl) (by simp) ?_
        refine AllReady.cons rfl (fun K hK => ?_) AllReady.nil
        go_simp
        refine hK _ _ ?_
        clear hK K
        refine wpAny_done (by kernel_rfl) ?_ _
        (go_wp2_with fail; go_meet; exact ⟨by first | rfl | simp [hgp], by first | exact Below.refl _ _ | exact (Below.refl _ _).drew | exact (Below.refl _ _).drew.drew⟩)
      refine AllReady.cons rfl (fun K hK => ?_) AllReady.nil
      go_simp
      refine hK _ _ ?_
      clear hK K
      refine wpAny_ready (rs := [6]) (by kernel_rfl) (by simp) ?_
      refine AllReady.cons rfl (fun K hK => ?_) AllReady.nil
      go_simp
      go_wp2_with (go_at_call 58; refine (specGap_ok ls tk _ HP.out.1 HP.out.2.1 HP.out.2.2.1 HP.out.2.2.2).mono ?_; rintro e w5 ⟨rfl, e5⟩; subst e5)
      try (refine hK _ _ ?_; clear hK K)
      refine wpAny_ready (rs := [9]) (by kernel_rfl) (by simp) ?_
      refine AllReady.cons rfl (fun K hK => ?_) AllReady.nil
      go_simp
      refine hK _ _ ?_
      clear hK K
      refine wpAny_ready (rs := [10]) (by kernel_rfl) (by simp) ?_
      refine AllReady.cons rfl (fun K hK => ?_) AllReady.nil
      go_simp
      refine hK _ _ ?_
      clear hK K
      refine wpAny_done (by kernel_rfl) ?_ _
      (go_wp2_with fail; go_meet; exact ⟨by first | rfl | simp [hgp], by first | exact Below.refl _ _ | exact (Below.refl _ _).drew | exact (Below.refl _ _).drew.drew⟩)
    refine AllReady.cons rfl (fun K hK => ?_) AllReady.nil
    go_simp
    refine hK _ _ ?_
    clear hK K
    refine wpAny_ready (rs := [4]) (by kernel_rfl) (by simp) ?_
    refine AllReady.cons rfl (fun K hK => ?_) AllReady.nil
    go_simp
    refine hK _ _ ?_
    clear hK K
    refine wpAny_ready (rs := [6]) (by kernel_rfl) (by simp) ?_
    refine AllReady.cons rfl (fun K hK => ?_) AllReady.nil
    go_simp
    go_wp2_with (go_at_call 58; refine (specGap_ok ls tk _ HP.out.1 HP.out.2.1 HP.out.2.2.1 HP.out.2.2.2).mono ?_; rintro e w5 ⟨rfl, e5⟩; subst e5)
    try (refine hK _ _ ?_; clear hK K)
    refine wpAny_ready (rs := [9]) (by kernel_rfl) (by simp) ?_
    refine AllReady.cons rfl (fun K hK => ?_) AllReady.nil
    go_simp
    refine hK _ _ ?_
    clear hK K
    refine wpAny_ready (rs := [10]) (by kernel_rfl) (by simp) ?_
    refine AllReady.cons rfl (fun K hK => ?_) AllReady.nil
    go_simp
    refine hK _ _ ?_
    clear hK K
    refine wpAny_done (by kernel_rfl) ?_ _
    (go_wp2_with fail; go_meet; exact ⟨by first | rfl | simp [hgp], by first | exact Below.refl _ _ | exact (Below.refl _ _).drew | exact (Below.refl _ _).drew.drew⟩)
  case rest =>
  obtain ⟨rfl, b'⟩ := hcut
  have N4 := N3.below b'
  have R4 := R3.below b'
  have T4 := T3.below b'
  have o4 := o3.below b'
  have b4 := bel_next b3 b'
  clear b' N3 X3 R3 T3 o3 b3 x0 x1 x2 x3
  go_upto_region 9 with fail
  have N6 := N4
  have R6 := R4
  have T6 := T4
  have o6 := o4
  have b6 := b4
  clear N4 R4 T4 o4 b4
  generalize wc = w6 at *
  obtain ⟨n0, n1, n2, n3⟩ := N6.four
  have fn := N6.fro
  go_upto_region 10 with fail
  clear n0 n1 n2 n3 fn
  have R7 : Blk (w6.setCell ⟨gO, 2, none⟩ (.int .i64 tk)) (w.heap.size + 1) 31 #[.slice none 0 0, .bool false, .int .i64 0, .int .i64 0] := R6.setNe (by omega)
  have T7 : Blk (w6.setCell ⟨gO, 2, none⟩ (.int .i64 tk)) gT 39 #[] := T6.setNe HRT.out.2.2.1
  have o7 := own_set1 (j := 2) (v := .int .i64 tk) o6 ⟨_, N6⟩
  have b7 : Below w.heap.size w (w6.setCell ⟨gO, 2, none⟩ (.int .i64 tk)) := b6.setCell (p := ⟨gO, 2, none⟩) (by show w.heap.size ≤ gO; omega) _
  have N7 : Blk (w6.setCell ⟨gO, 2, none⟩ (.int .i64 tk)) gO 31 #[.slice a' n' c', .bool true, .int .i64 tk, .int .i64 wt] := by have := N6.set 2 (.int .i64 tk); simpa using this
  generalize (w6.setCell ⟨gO, 2, none⟩ (.int .i64 tk)) = w7 at *
  clear R6 T6 o6 b6 N6
  obtain ⟨n0, n1, n2, n3⟩ := N7.four
  have fn := N7.fro
  clear n0 n1 n2 n3 fn
  have h6 : (n' : Int) = 600 := by have := HN'.out; have := HN.out.1; have := H600.out; omega
  have h6b : ((n' : Int) == 600) = true := by rw [h6]; rfl
  clear h6
  obtain ⟨gN, cN, W', rs, hap, hgN, M8, q⟩ := app_one gT w7.heap.size 2 0 none 0 0 (w7.alloc (.cells #[.int .i64 2, .int .i64 0, .slice none 0 0] 39)) (Blk.new _ _ _)
  have q' := bel_next (bel_alloc w7 (.cells #[.int .i64 2, .int .i64 0, .slice none 0 0] 39)) q
  have HGN : Hid (w.heap.size ≤ gN ∧ gN ≠ gO ∧ gN ≠ w.heap.size + 1) := by show _ ∧ _; have := N7.lt; have := b7.size; simp at hgN; omega
  have R8 := R7.below q'
  have o8 := o7.below q'
  have N8 := N7.below q'
  have b8 := bel_next b7 q'
  have hN7 := N7.lt
  obtain ⟨k0, k1, k2, k3⟩ := N7.four
  clear q q' hgN R7 o7 b7 T7 N7
  obtain ⟨n0, n1, n2, n3⟩ := N8.four
  have fn := N8.fro
  go_upto_region 24 with (at_builtin; refine wpList_appG rfl (.tmp 70) (.tmp 72) rfl (.slice (some ⟨gT, 0, none⟩) 0 0) (.slice (some ⟨w7.heap.size, 0, none⟩) 1 1) (.slice (some ⟨gN, 0, none⟩) 1 cN) rfl rfl hap ?_)
  clear n0 n1 n2 n3 fn hap k0 k1 k2 k3
  have R9 : Blk (W'.setCell ⟨gO, 1, none⟩ (.bool false)) (w.heap.size + 1) 31 #[.slice none 0 0, .bool false, .int .i64 0, .int .i64 0] := R8.setNe (by omega)
  have M9 : Blk (W'.setCell ⟨gO, 1, none⟩ (.bool false)) gN 39 _ := M8.setNe HGN.out.2.1
  have o9 := own_set1 (j := 1) (v := .bool false) o8 ⟨_, N8⟩
  have b9 : Below w.heap.size w (W'.setCell ⟨gO, 1, none⟩ (.bool false)) := b8.setCell (p := ⟨gO, 1, none⟩) (by show w.heap.size ≤ gO; omega) _
  have N9 : Blk (W'.setCell ⟨gO, 1, none⟩ (.bool false)) gO 31 #[.slice a' n' c', .bool false, .int .i64 tk, .int .i64 wt] := by have := N8.set 1 (.bool false); simpa using this
  generalize (W'.setCell ⟨gO, 1, none⟩ (.bool false)) = w9 at *
  clear R8 M8 o8 b8 N8
  obtain ⟨n0, n1, n2, n3⟩ := N9.four
  have fn := N9.fro
  have hlt := N9.lt
  have hne : ¬ gO = w9.heap.size := by omega
  go_upto_region 26 with fail
  clear n0 n1 n2 n3 fn hne hlt
  have q := bel_alloc (w9.setCell ⟨gO, 0, none⟩ (.slice (some ⟨w9.heap.size, 0, none⟩) 0 0)) (.cells #[] 5)
  have b30 : Below w.heap.size w (w9.setCell ⟨gO, 0, none⟩ (.slice (some ⟨w9.heap.size, 0, none⟩) 0 0)) := b9.setCell (p := ⟨gO, 0, none⟩) (by show w.heap.size ≤ gO; omega) _
  have hsz : (w9.setCell ⟨gO, 0, none⟩ (.slice (some ⟨w9.heap.size, 0, none⟩) 0 0)).heap.size = w9.heap.size := by simp [World.setCell]
  have u31 := own_lit0 (w9.setCell ⟨gO, 0, none⟩ (.slice (some ⟨w9.heap.size, 0, none⟩) 0 0)) w.heap.size b30.size
  rw [hsz] at u31
  have N31 : Blk ((w9.setCell ⟨gO, 0, none⟩ (.slice (some ⟨w9.heap.size, 0, none⟩) 0 0)).alloc (.cells #[] 5)) gO 31 #[.slice (some ⟨w9.heap.size, 0, none⟩) 0 0, .bool false, .int .i64 tk, .int .i64 wt] := by have := (N9.set 0 (.slice (some ⟨w9.heap.size, 0, none⟩) 0 0)).below q; simpa using this
  have R31 : Blk ((w9.setCell ⟨gO, 0, none⟩ (.slice (some ⟨w9.heap.size, 0, none⟩) 0 0)).alloc (.cells #[] 5)) (w.heap.size + 1) 31 #[.slice none 0 0, .bool false, .int .i64 0, .int .i64 0] := Blk.below (Blk.setNe R9 (by omega)) q
  have b31 : Below w.heap.size w ((w9.setCell ⟨gO, 0, none⟩ (.slice (some ⟨w9.heap.size, 0, none⟩) 0 0)).alloc (.cells #[] 5)) := bel_next b30 q
  have M31 : Blk ((w9.setCell ⟨gO, 0, none⟩ (.slice (some ⟨w9.heap.size, 0, none⟩) 0 0)).alloc (.cells #[] 5)) gN 39 _ := Blk.below (Blk.setNe M9 HGN.out.2.1) q
  clear q b30 hsz R9 M9 o9 b9 N9
  generalize hgB : w9.heap.size = gB at *
  generalize ((w9.setCell ⟨gO, 0, none⟩ (.slice (some ⟨gB, 0, none⟩) 0 0)).alloc (.cells #[] 5)) = w31 at *
  clear hgB
  obtain ⟨n0, n1, n2, n3⟩ := N31.four
  obtain ⟨r0, r1, r2, r3⟩ := R31.four
  have fr := R31.fro
  go_wp2
  refine bodyPost_ret (v := .tuple #[sc (some ⟨gB, 0, none⟩) 0 0 false tk wt, .slice (some ⟨gN, 0, none⟩) 1 cN]) (by simp [results, Try.results31, go_sem, r0, r1, r2, r3]) rfl ?_
  exact ⟨_, _, _, _, _, _, rfl, rfl, st4_own u31 ⟨_, R31⟩, GotX.one HGN.out.1 (st4_blk M31 HGN.out.2.2) rfl ⟨rfl, .inl ⟨rfl, rfl⟩⟩ (.inr (.inl rfl)) (by simp), st4_bel b31 (by omega)⟩

set_option maxRecDepth 20000 in
set_option maxHeartbeats 2000000 in
theorem specAsciiHear_oe (a : Option Addr) (l c : Nat) (ls wt b tk : Int) (zs : List Int) (w : World) (hn : l = zs.length) (hs : Sl w a zs) (hl : zs.length ≤ 2000000) (ho : okK zs true ls wt = true) (ht : 0 ≤ tk ∧ tk ≤ 4294967295) (hgp : ¬ wt ≤ gap ls tk) (hl6 : l < 600) (h10 : b = 10) :
    Calls Try.prog 31 #[sc a l c true ls wt, .int .u8 b, .int .i64 tk] w fun e w' => XR w w' e [] false tk wt (some (gaC (zs ++ [10]), gaU (zs ++ [10]), gaP (zs ++ [10]))) := by
  subst h10
  generalize hU : gaU (zs ++ [10]) = U
  generalize hP : gaP (zs ++ [10]) = P
  generalize hC : gaC (zs ++ [10]) = C
  have HU : Hid (gaU (zs ++ [10]) = U ∧ gaP (zs ++ [10]) = P ∧ gaC (zs ++ [10]) = C) := ⟨hU, hP, hC⟩
  have HPL : Hid (P.length ≤ 300) := by show P.length ≤ 300; rw [← hP]; exact gaP_300 _
  clear hU hP hC
  have HP : Hid (0 ≤ ls ∧ ls ≤ 4294967295 ∧ 0 ≤ tk ∧ tk ≤ 4294967295) := ⟨(okK_parts ho).2.2.2.1, (okK_parts ho).2.2.2.2.1, ht⟩
  have h1 := ht.1
  have h2 := ht.2
  clear ht
  have HN : Hid (l = zs.length ∧ l ≤ 2000000 ∧ zs.length ≤ 2000000) := by show _ ∧ _; omega
  obtain ⟨W0, hW0'⟩ : ∃ W0, W0 = (((w.alloc (.cells #[.slice a l c, .bool true, .int .i64 ls, .int .i64 wt] 31)).alloc (.cells #[.slice none 0 0, .bool false, .int .i64 0, .int .i64 0] 31)).alloc (.cells #[.slice a l c, .bool true, .int .i64 ls, .int .i64 wt] 31)).alloc (.cells #[] 5) := ⟨_, rfl⟩
  have hW0 : Hid (W0 = _) := hW0'
  have hz : W0.heap.size = w.heap.size + 1 + 1 + 1 + 1 := by rw [hW0']; simp
  have B0 : Below w.heap.size w W0 := by rw [hW0']; exact bel_next (bel_next (bel_next (bel_alloc w _) (bel_alloc _ _)) (bel_alloc _ _)) (bel_alloc _ _)
  have X0 : Blk W0 w.heap.size 31 #[.slice a l c, .bool true, .int .i64 ls, .int .i64 wt] := by rw [hW0']; exact (((Blk.new w _ _).below (bel_alloc _ _)).below (bel_alloc _ _)).below (bel_alloc _ _)
  have R0 : Blk W0 (w.heap.size + 1) 31 #[.slice none 0 0, .bool false, .int .i64 0, .int .i64 0] := by rw [hW0']; have := ((Blk.new (w.alloc (.cells #[.slice a l c, .bool true, .int .i64 ls, .int .i64 wt] 31)) #[.slice none 0 0, .bool false, .int .i64 0, .int .i64 0] 31).below (bel_alloc _ (.cells #[.slice a l c, .bool true, .int .i64 ls, .int .i64 wt] 31))).below (bel_alloc _ (.cells #[] 5)); simpa using this
  have N0 : Blk W0 (w.heap.size + 1 + 1) 31 #[.slice a l c, .bool true, .int .i64 ls, .int .i64 wt] := by rw [hW0']; have := (Blk.new ((w.alloc (.cells #[.slice a l c, .bool true, .int .i64 ls, .int .i64 wt] 31)).alloc (.cells #[.slice none 0 0, .bool false, .int .i64 0, .int .i64 0] 31)) #[.slice a l c, .bool true, .int .i64 ls, .int .i64 wt] 31).below (bel_alloc _ (.cells #[] 5)); simpa using this
  have oL : Own W0 w.heap.size (.slice (some ⟨w.heap.size + 1 + 1 + 1, 0, none⟩) 0 0) [] := by rw [hW0']; have := own_lit0 (((w.alloc (.cells #[.slice a l c, .bool true, .int .i64 ls, .int .i64 wt] 31)).alloc (.cells #[.slice none 0 0, .bool false, .int .i64 0, .int .i64 0] 31)).alloc (.cells #[.slice a l c, .bool true, .int .i64 ls, .int .i64 wt] 31)) w.heap.size (by simp; omega); simpa using this
  have S1 : Hid (Sl W0 a zs) := hs.below B0
  have HS : Hid (Sl w a zs) := hs
  have HLn : Hid (([] : List Int).length + zs.length ≤ 4000000) := by show ([] : List Int).length + zs.length ≤ 4000000; simp; omega
  clear hn hs hW0' hl
  go_enter Try.func31, Try.ntmps31
  go_upto_region 4 with (at_builtin; rw [← hW0.out]; refine wpList_appTO rfl (.tmp 14) (.tmp 16) rfl w.heap.size (.slice (some ⟨w.heap.size + 1 + 1 + 1, 0, none⟩) 0 0) [] rfl oL a l c zs rfl HN.out.1 S1.out HLn.out (by omega) ?_; intro v' w1 o1 g1; rw [List.nil_append] at o1; have b1 : Below w.heap.size w w1 := bel_grown B0 oL g1 (Nat.le_refl _) (by omega); have X1 := X0.grown g1 (row_noBlk oL X0 (by decide)); have R1 := R0.grown g1 (row_noBlk oL R0 (by decide)); have N1 := N0.grown g1 (row_noBlk oL N0 (by decide)); obtain ⟨a', c', n', rfl, hn'⟩ := own_shapeT o1; have HN' : Hid (n' = zs.length) := hn'; clear hn' g1 oL X0 R0 N0 B0 S1; obtain ⟨x0, x1, x2, x3⟩ := X1.four; obtain ⟨n0, n1, n2, n3⟩ := N1.four; have fn := N1.fro)
  obtain ⟨gO, hgO⟩ : ∃ x, x = w.heap.size + 1 + 1 := ⟨_, rfl⟩
  obtain ⟨gT, hgT⟩ : ∃ x, x = w1.heap.size := ⟨_, rfl⟩
  have HGO : Hid (gO = w.heap.size + 1 + 1) := hgO
  have HGT : Hid (gT = w1.heap.size) := hgT
  rw [← hgO] at N1
  obtain ⟨w2, hw2⟩ : ∃ x, x = ((w1.setCell ⟨gO, 0, none⟩ (.slice a' n' c')).alloc (.cells #[] 39)) := ⟨_, rfl⟩
  have HW2 : Hid (w2 = _) := hw2
  have hO : w.heap.size + 1 < gO := by omega
  have q2 := bel_alloc (w1.setCell ⟨gO, 0, none⟩ (.slice a' n' c')) (.cells #[] 39)
  rw [← hw2] at q2
  have N2 : Blk w2 gO 31 #[.slice a' n' c', .bool true, .int .i64 ls, .int .i64 wt] := by have := N1.set 0 (.slice a' n' c'); have := this.below q2; simpa using this
  have X2 : Blk w2 w.heap.size 31 #[.slice a l c, .bool true, .int .i64 ls, .int .i64 wt] := (Blk.setNe X1 (by omega)).below q2
  have R2 : Blk w2 (w.heap.size + 1) 31 #[.slice none 0 0, .bool false, .int .i64 0, .int .i64 0] := (Blk.setNe R1 (by omega)).below q2
  have o2 : Own w2 w.heap.size (.slice a' n' c') zs := (own_set1 o1 ⟨_, N1⟩).below q2
  have T2 : Blk w2 gT 39 #[] := by have := Blk.new (w1.setCell ⟨gO, 0, none⟩ (.slice a' n' c')) #[] 39; rw [← hw2] at this; rw [hgT]; simpa [World.setCell] using this
  have b2 : Below w.heap.size w w2 := bel_next (b1.setCell (p := ⟨gO, 0, none⟩) (by show w.heap.size ≤ gO; omega) _) q2
  have HRT : Hid (w.heap.size + 1 < gO ∧ w.heap.size ≤ gT ∧ gT ≠ gO ∧ gT ≠ w.heap.size + 1) := by show _ ∧ _; have := N1.lt; have := b1.size; omega
  clear hw2 q2 hgO hgT N1 X1 R1 o1 b1 x0 x1 x2 x3 n0 n1 n2 n3 fn
  simp only [← HGO.out]
  rw [← HW2.out]
  simp only [← HGT.out]
  have S2 : Hid (Sl w2 a zs) := HS.out.below b2
  obtain ⟨x0, x1, x2, x3⟩ := X2.four
  go_wp2_with fail
  clear x0 x1 x2 x3
  refine (specAsciiOk_any a l c true ls wt zs _ HN.out.1 S2.out HN.out.2.1 _ ho).mono ?_
  rintro e w3 ⟨rfl, b'⟩
  have N3 := N2.below b'
  have X3 := X2.below b'
  have R3 := R2.below b'
  have o3 := o2.below b'
  have T3 := T2.below b'
  have b3 := bel_next b2 b'
  clear b' b2 N2 X2 R2 o2 T2 S2
  clear ho
  obtain ⟨x0, x1, x2, x3⟩ := X3.four
  go_wp2_with (first | (go_at_call 57; go_in) | (go_at_call 55; go_in))
  go_cut [40] (fun s wc => s = .bool false ∧ Below w3.heap.size w3 wc)
  case first =>
    refine wp_region_any (by kernel_rfl) ?_
    (try (change wpAny _ _ _ _ _ _ _ (World.drew _)))
    refine wpAny_ready (rs := [0]) (by kernel_rfl) (by simp) ?_
    refine AllReady.cons rfl (fun K hK => ?_) AllReady.nil
    go_simp
    refine hK _ _ ?_
    clear hK K
    refine wpAny_ready (rs := [1]) (by kernel_rfl) (by simp) ?_
    refine AllReady.cons rfl (fun K hK => ?_) AllReady.nil
    go_simp
    refine hK _ _ ?_
    clear hK K
    refine wpAny_ready (rs := [2]) (by kernel_rfl) (by simp) ?_
    refine AllReady.cons rfl (fun K hK => ?_) AllReady.nil
    go_simp
    refine hK _ _ ?_
    clear hK K
    refine wpAny_take (i := 3) (v := ?v3) rfl (by kernel_rfl) (by kernel_rfl) (by kernel_rfl) (fun _ _ _ h => h) (Or.inl ⟨by rfl, ?h3⟩) ?_
    case h3 => intro w; go_simp; try (with_reducible rfl)
    refine wpAny_take (i := 5) (v := ?v5) rfl (by kernel_rfl) (by kernel_rfl) (by kernel_rfl) (fun _ _ _ h => h) (Or.inl ⟨by rfl, ?h5⟩) ?_
    case h5 => intro w; go_simp; try (with_reducible rfl)
    refine wpAny_take (i := 7) (v := ?v7) rfl (by kernel_rfl) (by kernel_rfl) (by kernel_rfl) (fun _ _ _ h => h) (Or.inl ⟨by rfl, ?h7⟩) ?_
    case h7 => intro w; go_simp; try (with_reducible rfl)
    refine wpAny_ready (rs := [4, 8]) (by kernel_rfl) (by simp) ?_
    refine AllReady.cons rfl (fun K hK => ?_) ?_
    · skip
      go_simp
      refine hK _ _ ?_
      clear hK K
      refine wpAny_ready (rs := [6, 8]) (by kernel_rfl) (by simp) ?_
      refine AllReady.cons rfl (fun K hK => ?_) ?_
      · skip
        go_simp
        go_wp2_with (go_at_call 58; refine (specGap_ok ls tk _ HP.out.1 HP.out.2.1 HP.out.2.2.1 HP.out.2.2.2).mono ?_; rintro e w5 ⟨rfl, e5⟩; subst e5)
        try (refine hK _ _ ?_; clear hK K)
        refine wpAny_ready (rs := [8]) (by kernel_rfl) (by simp) ?_
        refine AllReady.cons rfl (fun K hK => ?_) AllReady.nil
        go_simp
        refine hK _ _ ?_
        clear hK K
        refine wpAny_ready (rs := [9]) (by kernel_rfl) (by simp) ?_
        refine AllReady.cons rfl (fun K hK => ?_) AllReady.nil
        go_simp
        refine hK _ _ ?_
        clear hK K
        refine wpAny_ready (rs := [10]) (by kernel_rfl) (by simp) ?_
        refine AllReady.cons rfl (fun K hK => ?_) AllReady.nil
        go_simp
        refine hK _ _ ?_
        clear hK K
        refine wpAny_done (by kernel_rfl) ?_ _
        (go_wp2_with fail; go_meet; exact ⟨by first | rfl | simp [hgp], by first | exact Below.refl _ _ | exact (Below.refl _ _).drew | exact (Below.refl _ _).drew.drew⟩)
      refine AllReady.cons rfl (fun K hK => ?_) AllReady.nil
      go_simp
      refine hK _ _ ?_
      clear hK K
      refine wpAny_ready (rs := [6]) (by kernel_rfl) (by simp) ?_
      refine AllReady.cons rfl (fun K hK => ?_) AllReady.nil
      go_simp
      go_wp2_with (go_at_call 58; refine (specGap_ok ls tk _ HP.out.1 HP.out.2.1 HP.out.2.2.1 HP.out.2.2.2).mono ?_; rintro e w5 ⟨rfl, e5⟩; subst e5)
      try (refine hK _ _ ?_; clear hK K)
      refine wpAny_ready (rs := [9]) (by kernel_rfl) (by simp) ?_
      refine AllReady.cons rfl (fun K hK => ?_) AllReady.nil
      go_simp
      refine hK _ _ ?_
      clear hK K
      refine wpAny_ready (rs := [10]) (by kernel_rfl) (by simp) ?_
      refine AllReady.cons rfl (fun K hK => ?_) AllReady.nil
      go_simp
      refine hK _ _ ?_
      clear hK K
      refine wpAny_done (by kernel_rfl) ?_ _
      (go_wp2_with fail; go_meet; exact ⟨by first | rfl | simp [hgp], by first | exact Below.refl _ _ | exact (Below.refl _ _).drew | exact (Below.refl _ _).drew.drew⟩)
    refine AllReady.cons rfl (fun K hK => ?_) AllReady.nil
    go_simp
    refine hK _ _ ?_
    clear hK K
    refine wpAny_ready (rs := [4]) (by kernel_rfl) (by simp) ?_
    refine AllReady.cons rfl (fun K hK => ?_) AllReady.nil
    go_simp
    refine hK _ _ ?_
    clear hK K
    refine wpAny_ready (rs := [6]) (by kernel_rfl) (by simp) ?_
    refine AllReady.cons rfl (fun K hK => ?_) AllReady.nil
    go_simp
    go_wp2_with (go_at_call 58; refine (specGap_ok ls tk _ HP.out.1 HP.out.2.1 HP.out.2.2.1 HP.out.2.2.2).mono ?_; rintro e w5 ⟨rfl, e5⟩; subst e5)
    try (refine hK _ _ ?_; clear hK K)
    refine wpAny_ready (rs := [9]) (by kernel_rfl) (by simp) ?_
    refine AllReady.cons rfl (fun K hK => ?_) AllReady.nil
    go_simp
    refine hK _ _ ?_
    clear hK K
    refine wpAny_ready (rs := [10]) (by kernel_rfl) (by simp) ?_
    refine AllReady.cons rfl (fun K hK => ?_) AllReady.nil
    go_simp
    refine hK _ _ ?_
    clear hK K
    refine wpAny_done (by kernel_rfl) ?_ _
    (go_wp2_with fail; go_meet; exact ⟨by first | rfl | simp [hgp], by first | exact Below.refl _ _ | exact (Below.refl _ _).drew | exact (Below.refl _ _).drew.drew⟩)
  case rest =>
  obtain ⟨rfl, b'⟩ := hcut
  have N4 := N3.below b'
  have R4 := R3.below b'
  have T4 := T3.below b'
  have o4 := o3.below b'
  have b4 := bel_next b3 b'
  clear b' N3 X3 R3 T3 o3 b3 x0 x1 x2 x3
  go_upto_region 9 with fail
  have N6 := N4
  have R6 := R4
  have T6 := T4
  have o6 := o4
  have b6 := b4
  clear N4 R4 T4 o4 b4
  generalize wc = w6 at *
  obtain ⟨n0, n1, n2, n3⟩ := N6.four
  have fn := N6.fro
  go_upto_region 10 with fail
  clear n0 n1 n2 n3 fn
  have R7 : Blk (w6.setCell ⟨gO, 2, none⟩ (.int .i64 tk)) (w.heap.size + 1) 31 #[.slice none 0 0, .bool false, .int .i64 0, .int .i64 0] := R6.setNe (by omega)
  have T7 : Blk (w6.setCell ⟨gO, 2, none⟩ (.int .i64 tk)) gT 39 #[] := T6.setNe HRT.out.2.2.1
  have o7 := own_set1 (j := 2) (v := .int .i64 tk) o6 ⟨_, N6⟩
  have b7 : Below w.heap.size w (w6.setCell ⟨gO, 2, none⟩ (.int .i64 tk)) := b6.setCell (p := ⟨gO, 2, none⟩) (by show w.heap.size ≤ gO; omega) _
  have N7 : Blk (w6.setCell ⟨gO, 2, none⟩ (.int .i64 tk)) gO 31 #[.slice a' n' c', .bool true, .int .i64 tk, .int .i64 wt] := by have := N6.set 2 (.int .i64 tk); simpa using this
  generalize (w6.setCell ⟨gO, 2, none⟩ (.int .i64 tk)) = w7 at *
  clear R6 T6 o6 b6 N6
  obtain ⟨n0, n1, n2, n3⟩ := N7.four
  have fn := N7.fro
  have h6b : ((n' : Int) == 600) = false := by
    have := HN'.out
    have := HN.out.1
    have h : ¬ ((n' : Int) = 600) := by omega
    simpa using h
  have q := bel_alloc w7 (.cells #[.int .u8 10] 5)
  have R8 := R7.below q
  have T8 := T7.below q
  have o8 := o7.below q
  have N8 := N7.below q
  have b8 := bel_next b7 q
  have SBy : Hid (Sl (w7.alloc (.cells #[.int .u8 10] 5)) (some ⟨w7.heap.size, 0, none⟩) [10]) := sl_lit1 w7 _ rfl
  have HL8 : Hid (zs.length + [(10 : Int)].length ≤ 4000000) := by show zs.length + [(10 : Int)].length ≤ 4000000; have := HN.out; simp; omega
  clear q R7 T7 o7 b7
  go_upto_region 21 with (at_builtin; refine wpList_app rfl (.tmp 79) (.tmp 81) rfl w.heap.size (.slice a' n' c') zs rfl o8 ⟨w7.heap.size, 0, none⟩ 1 1 [10] rfl rfl SBy.out HL8.out b8.size ?_; intro v9 w9 o9 g9; have b9 : Below w.heap.size w w9 := bel_grown b8 o8 g9 (Nat.le_refl _) b8.size; have N9 := N8.grown g9 (row_noBlk o8 N8 (by decide)); have R9 := R8.grown g9 (row_noBlk o8 R8 (by decide)); have T9 := T8.grown g9 (row_noBlk o8 T8 (by decide)); obtain ⟨a9, c9, n9, rfl, hn9⟩ := own_shapeT o9; have HN9 : Hid (n9 = (zs ++ [10]).length) := hn9; clear hn9 g9 o8 N8 R8 T8 b8 n0 n1 n2 n3 fn SBy; obtain ⟨n0, n1, n2, n3⟩ := N9.four; have fn := N9.fro)
  clear n0 n1 n2 n3 fn N7
  have R10 : Blk (w9.setCell ⟨gO, 0, none⟩ (.slice a9 n9 c9)) (w.heap.size + 1) 31 #[.slice none 0 0, .bool false, .int .i64 0, .int .i64 0] := R9.setNe (by omega)
  have T10 : Blk (w9.setCell ⟨gO, 0, none⟩ (.slice a9 n9 c9)) gT 39 #[] := T9.setNe HRT.out.2.2.1
  have o10 := own_set1 (j := 0) (v := .slice a9 n9 c9) o9 ⟨_, N9⟩
  have b10 : Below w.heap.size w (w9.setCell ⟨gO, 0, none⟩ (.slice a9 n9 c9)) := b9.setCell (p := ⟨gO, 0, none⟩) (by show w.heap.size ≤ gO; omega) _
  have N10 : Blk (w9.setCell ⟨gO, 0, none⟩ (.slice a9 n9 c9)) gO 31 #[.slice a9 n9 c9, .bool true, .int .i64 tk, .int .i64 wt] := by have := N9.set 0 (.slice a9 n9 c9); simpa using this
  generalize (w9.setCell ⟨gO, 0, none⟩ (.slice a9 n9 c9)) = w10 at *
  clear R9 T9 o9 b9 N9
  obtain ⟨n0, n1, n2, n3⟩ := N10.four
  go_wp2_with fail
  have HCP : Hid (n9 ≤ c9) := own_cap o10
  refine (specGetAscii_any a9 n9 c9 (zs ++ [10]) _ HN9.out HCP.out o10.sl.2 (by have := HN.out; simp; omega)).mono ?_
  rintro e w11 h'
  rw [HU.out.1, HU.out.2.1, HU.out.2.2] at h'
  obtain ⟨pa, pc, pn, rfl, hpn, p11', b'⟩ := h'
  have p11 := p11'.monoT b10.size
  have HPN : Hid (pn = P.length) := hpn
  have R11 := R10.below b'
  have T11 := T10.below b'
  have o11 := o10.below b'
  have N11 := N10.below b'
  have b11 := bel_next b10 b'
  clear b' p11' hpn R10 T10 o10 N10 b10 n0 n1 n2 n3
  obtain ⟨gN, cN, W', rs, hap, hgN, M12, q⟩ := app_one gT w11.heap.size C U pa pn pc (w11.alloc (.cells #[.int .i64 C, .int .i64 U, .slice pa pn pc] 39)) (Blk.new _ _ _)
  have q' := bel_next (bel_alloc w11 (.cells #[.int .i64 C, .int .i64 U, .slice pa pn pc] 39)) q
  have HGN : Hid (w.heap.size ≤ gN ∧ gN ≠ gO ∧ gN ≠ w.heap.size + 1) := by show _ ∧ _; have := N11.lt; have := b11.size; simp at hgN; omega
  have R12 := R11.below q'
  have o12 := o11.below q'
  have p12 := p11.below q'
  have N12 := N11.below q'
  have b12 := bel_next b11 q'
  have hN11 := N11.lt
  obtain ⟨k0, k1, k2, k3⟩ := N11.four
  clear q q' hgN R11 o11 p11 b11 T11 N11
  obtain ⟨n0, n1, n2, n3⟩ := N12.four
  have fn := N12.fro
  go_upto_region 24 with (at_builtin; refine wpList_appG rfl (.tmp 93) (.tmp 98) rfl (.slice (some ⟨gT, 0, none⟩) 0 0) (.slice (some ⟨w11.heap.size, 0, none⟩) 1 1) (.slice (some ⟨gN, 0, none⟩) 1 cN) rfl rfl hap ?_)
  clear n0 n1 n2 n3 fn hap k0 k1 k2 k3
  have R13 : Blk (W'.setCell ⟨gO, 1, none⟩ (.bool false)) (w.heap.size + 1) 31 #[.slice none 0 0, .bool false, .int .i64 0, .int .i64 0] := R12.setNe (by omega)
  have M13 : Blk (W'.setCell ⟨gO, 1, none⟩ (.bool false)) gN 39 _ := M12.setNe HGN.out.2.1
  have o13 := own_set1 (j := 1) (v := .bool false) o12 ⟨_, N12⟩
  have p13 := own_set1 (j := 1) (v := .bool false) p12 ⟨_, N12⟩
  have b13 : Below w.heap.size w (W'.setCell ⟨gO, 1, none⟩ (.bool false)) := b12.setCell (p := ⟨gO, 1, none⟩) (by show w.heap.size ≤ gO; omega) _
  have N13 : Blk (W'.setCell ⟨gO, 1, none⟩ (.bool false)) gO 31 #[.slice a9 n9 c9, .bool false, .int .i64 tk, .int .i64 wt] := by have := N12.set 1 (.bool false); simpa using this
  generalize (W'.setCell ⟨gO, 1, none⟩ (.bool false)) = w13 at *
  clear R12 M12 o12 p12 b12 N12
  obtain ⟨n0, n1, n2, n3⟩ := N13.four
  have fn := N13.fro
  have hlt := N13.lt
  have hne : ¬ gO = w13.heap.size := by omega
  go_upto_region 26 with fail
  clear n0 n1 n2 n3 fn hne hlt
  have q := bel_alloc (w13.setCell ⟨gO, 0, none⟩ (.slice (some ⟨w13.heap.size, 0, none⟩) 0 0)) (.cells #[] 5)
  have b30 : Below w.heap.size w (w13.setCell ⟨gO, 0, none⟩ (.slice (some ⟨w13.heap.size, 0, none⟩) 0 0)) := b13.setCell (p := ⟨gO, 0, none⟩) (by show w.heap.size ≤ gO; omega) _
  have hsz : (w13.setCell ⟨gO, 0, none⟩ (.slice (some ⟨w13.heap.size, 0, none⟩) 0 0)).heap.size = w13.heap.size := by simp [World.setCell]
  have u31 := own_lit0 (w13.setCell ⟨gO, 0, none⟩ (.slice (some ⟨w13.heap.size, 0, none⟩) 0 0)) w.heap.size b30.size
  rw [hsz] at u31
  have N31 : Blk ((w13.setCell ⟨gO, 0, none⟩ (.slice (some ⟨w13.heap.size, 0, none⟩) 0 0)).alloc (.cells #[] 5)) gO 31 #[.slice (some ⟨w13.heap.size, 0, none⟩) 0 0, .bool false, .int .i64 tk, .int .i64 wt] := by have := (N13.set 0 (.slice (some ⟨w13.heap.size, 0, none⟩) 0 0)).below q; simpa using this
  have R31 : Blk ((w13.setCell ⟨gO, 0, none⟩ (.slice (some ⟨w13.heap.size, 0, none⟩) 0 0)).alloc (.cells #[] 5)) (w.heap.size + 1) 31 #[.slice none 0 0, .bool false, .int .i64 0, .int .i64 0] := Blk.below (Blk.setNe R13 (by omega)) q
  have b31 : Below w.heap.size w ((w13.setCell ⟨gO, 0, none⟩ (.slice (some ⟨w13.heap.size, 0, none⟩) 0 0)).alloc (.cells #[] 5)) := bel_next b30 q
  have M31 : Blk ((w13.setCell ⟨gO, 0, none⟩ (.slice (some ⟨w13.heap.size, 0, none⟩) 0 0)).alloc (.cells #[] 5)) gN 39 _ := Blk.below (Blk.setNe M13 HGN.out.2.1) q
  have p31 : Own ((w13.setCell ⟨gO, 0, none⟩ (.slice (some ⟨w13.heap.size, 0, none⟩) 0 0)).alloc (.cells #[] 5)) w.heap.size (.slice pa pn pc) P := Own.below (own_set1 p13 ⟨_, N13⟩) q
  have HDF : Hid (DfT (.slice (some ⟨w13.heap.size, 0, none⟩) 0 0) (.slice pa pn pc)) := by
    show DfT _ _
    cases e : (Value.slice pa pn pc).ownBlock with
    | none => exact .inr (.inl e)
    | some j => exact .inr (.inr (fun e2 => by have := (World.ownsRow.lt p13 j e).2; rw [e] at e2; simp [Value.ownBlock] at e2; omega))
  clear q b30 hsz R13 M13 o13 p13 b13 N13
  generalize hgB : w13.heap.size = gB at *
  generalize ((w13.setCell ⟨gO, 0, none⟩ (.slice (some ⟨gB, 0, none⟩) 0 0)).alloc (.cells #[] 5)) = w31 at *
  clear hgB
  obtain ⟨n0, n1, n2, n3⟩ := N31.four
  obtain ⟨r0, r1, r2, r3⟩ := R31.four
  have fr := R31.fro
  go_wp2
  refine bodyPost_ret (v := .tuple #[sc (some ⟨gB, 0, none⟩) 0 0 false tk wt, .slice (some ⟨gN, 0, none⟩) 1 cN]) (by simp [results, Try.results31, go_sem, r0, r1, r2, r3]) rfl ?_
  exact ⟨_, _, _, _, _, _, rfl, rfl, st4_own u31 ⟨_, R31⟩, GotX.one HGN.out.1 (st4_blk M31 HGN.out.2.2) HPN.out (st4_own p31 ⟨_, R31⟩) HDF.out HPL.out, st4_bel b31 (by omega)⟩

end Go.Proofs.Ytmcednhinafpeaa
