/- RtuWait of the model. -/
import Derived.Test.YtonikfajopdagaaDoorRtu6
namespace Go.Proofs.YtonikfajopdagaaDoor
open Go.RowKit

set_option linter.unusedVariables false

set_option linter.unusedSimpArgs false

set_option maxHeartbeats 1000000 in
theorem specTick_b (t : Int) (w : World) (b : Bool) (hb : tkB t = b) : Calls Tryd.prog 54 #[.int .i64 t] w fun e w' => e = .returned (.bool b) ∧ w' = w := by
  subst hb
  by_cases h1 : 0 ≤ t
  case neg =>
    rw [show tkB t = false by unfold tkB; exact decide_eq_false (by omega)]
    go_enter Tryd.func54, Tryd.ntmps54
    go_wp2_with (go_at_call 64; go_in)
    go_ret
    exact ⟨rfl, rfl⟩
  by_cases h2 : t ≤ 4294967295
  case neg =>
    rw [show tkB t = false by unfold tkB; exact decide_eq_false (by omega)]
    have hd : decide (t ≤ 4294967295) = false := decide_eq_false (by omega)
    go_enter Tryd.func54, Tryd.ntmps54
    go_wp2_with (go_at_call 64; go_in)
    go_ret
    exact ⟨by first | rfl | (show Ending.returned (.bool (decide (t ≤ 4294967295))) = _; rw [hd]), rfl⟩
  rw [show tkB t = true by unfold tkB; exact decide_eq_true (by omega)]
  have hd : decide (t ≤ 4294967295) = true := decide_eq_true (by omega)
  go_enter Tryd.func54, Tryd.ntmps54
  go_wp2_with (go_at_call 64; go_in)
  go_ret
  exact ⟨by first | rfl | (show Ending.returned (.bool (decide (t ≤ 4294967295))) = _; rw [hd]), rfl⟩

set_option maxRecDepth 20000 in
set_option maxHeartbeats 8000000 in
theorem specRtuWait_no (a : Option Addr) (l c : Nat) (ls : Int) (bd : Bool) (hf wh tk : Int) (zs : List Int) (w : World) (hn : l = zs.length) (hs : Sl w a zs) (hl : zs.length ≤ 2000000) (hE : wtE l ls bd hf wh tk = false) :
    Calls Tryd.prog 35 #[rt a l c ls bd hf wh, .int .i64 tk] w fun e w' => WS w w' e zs ls bd hf wh none := by
  have HN : Hid (l = zs.length ∧ l ≤ 2000000 ∧ zs.length ≤ 2000000) := by show _ ∧ _; omega
  obtain ⟨W0, hW0'⟩ : ∃ W0, W0 = (w.alloc (.cells #[.slice a l c, .int .i64 ls, .bool bd, .int .i64 hf, .int .i64 wh] 33)).alloc (.cells #[.slice none 0 0, .int .i64 0, .bool false, .int .i64 0, .int .i64 0] 33) := ⟨_, rfl⟩
  have hW0 : Hid (W0 = _) := hW0'
  have hz : W0.heap.size = w.heap.size + 1 + 1 := by rw [hW0']; simp
  have B0 : Below w.heap.size w W0 := by rw [hW0']; exact bel_next (bel_alloc w _) (bel_alloc _ _)
  have X0 : Blk W0 w.heap.size 33 #[.slice a l c, .int .i64 ls, .bool bd, .int .i64 hf, .int .i64 wh] := by rw [hW0']; exact ((Blk.new w _ _).below (bel_alloc _ _))
  have R0 : Blk W0 (w.heap.size + 1) 33 #[.slice none 0 0, .int .i64 0, .bool false, .int .i64 0, .int .i64 0] := by rw [hW0']; have := (Blk.new (w.alloc (.cells #[.slice a l c, .int .i64 ls, .bool bd, .int .i64 hf, .int .i64 wh] 33)) #[.slice none 0 0, .int .i64 0, .bool false, .int .i64 0, .int .i64 0] 33); simpa using this
  have S1 : Hid (Sl W0 a zs) := hs.below B0
  clear hn hs hW0' hl
  cases hh : okT l ls bd hf wh
  · clear hE
    have ht : tkB tk = tkB tk := rfl
    go_enter Tryd.func35, Tryd.ntmps35
    go_wp2_with fail
    rw [← hW0.out]
    refine (l6Copy_any a l c ls bd hf wh zs _ HN.out.1 S1.out HN.out.2.2).mono ?_
    rintro e w1 ⟨a', c', n', rfl, hn', o1', b'⟩
    have b1 := bel_next B0 b'
    have X1 := X0.below b'
    have R1 := R0.below b'
    have S2 : Hid (Sl w1 a zs) := S1.out.below b'
    have o1 := o1'.monoT (by omega : w.heap.size ≤ W0.heap.size)
    have HN' : Hid (n' = zs.length) := hn'
    have N2 := Blk.new w1 #[.slice a' n' c', .int .i64 ls, .bool bd, .int .i64 hf, .int .i64 wh] 33
    have hb1 := R1.lt
    obtain ⟨w2, hw2⟩ : ∃ w2, w2 = w1.alloc (.cells #[.slice a' n' c', .int .i64 ls, .bool bd, .int .i64 hf, .int .i64 wh] 33) := ⟨_, rfl⟩
    obtain ⟨gN, hgN⟩ : ∃ gN, gN = w1.heap.size := ⟨_, rfl⟩
    have b'' := bel_alloc w1 (.cells #[.slice a' n' c', .int .i64 ls, .bool bd, .int .i64 hf, .int .i64 wh] 33)
    have HW2 : Hid (w2 = _) := hw2
    have HGN : Hid (gN = w1.heap.size) := hgN
    rw [← hw2] at b'' N2
    rw [← hgN] at N2 hb1
    have b2 := bel_next b1 b''
    have X2 := X1.below b''
    have R2 := R1.below b''
    have S3 : Hid (Sl w2 a zs) := S2.out.below b''
    have o2 := o1.below b''
    have hwN : w.heap.size ≤ gN := by omega
    clear b' b'' b1 X0 X1 R0 R1 o1 o1' S1 S2 hn' hw2 hgN B0
    obtain ⟨x0, x1, x2, x3, x4⟩ := X2.five
    go_wp2_with fail
    simp only [← HGN.out]
    rw [← HW2.out]
    go_cut [32] (fun sX wx => sX = .bool true ∧ Below w2.heap.size w2 wx)
    case first =>
      refine wp_region_any (by kernel_rfl) ?_
      (try (change wpAny _ _ _ _ _ _ _ (World.drew _)))
      refine wpAny_ready (rs := [0]) (by kernel_rfl) (by simp) ?_
      refine AllReady.cons rfl (fun K hK => ?_) AllReady.nil
      go_simp
      refine hK _ _ ?_
      clear hK K
      refine wpAny_ready (rs := [1]) (by kernel_rfl) (by simp) ?_
      refine AllReady.cons rfl (fun K hK => ?_) AllReady.nil
      go_simp
      go_wp2_with (go_at_call 53; refine (specRtuOk_any a l c ls bd hf wh _ HN.out.2.1 _ hh).mono ?_; rintro e w3 ⟨rfl, b'⟩; have B3 : Below w2.heap.size w2 w3 := bel_next (by first | exact Below.refl _ _ | exact (Below.refl _ _).drew | exact (Below.refl _ _).drew.drew) b'; obtain ⟨y0, y1, y2, y3, y4⟩ := (X2.below B3).five; clear b')
      try (refine hK _ _ ?_; clear hK K)
      refine wpAny_ready (rs := [2]) (by kernel_rfl) (by simp) ?_
      refine AllReady.cons rfl (fun K hK => ?_) AllReady.nil
      go_simp
      refine hK _ _ ?_
      clear hK K
      refine wpAny_ready (rs := [3]) (by kernel_rfl) (by simp) ?_
      refine AllReady.cons rfl (fun K hK => ?_) AllReady.nil
      go_simp
      refine hK _ _ ?_
      clear hK K
      refine wpAny_ready (rs := [4]) (by kernel_rfl) (by simp) ?_
      refine AllReady.cons rfl (fun K hK => ?_) AllReady.nil
      go_simp
      refine hK _ _ ?_
      clear hK K
      refine wpAny_ready (rs := [5]) (by kernel_rfl) (by simp) ?_
      refine AllReady.cons rfl (fun K hK => ?_) AllReady.nil
      go_simp
      refine hK _ _ ?_
      clear hK K
      refine wpAny_ready (rs := [6]) (by kernel_rfl) (by simp) ?_
      refine AllReady.cons rfl (fun K hK => ?_) AllReady.nil
      go_simp
      refine hK _ _ ?_
      clear hK K
      refine wpAny_ready (rs := [7]) (by kernel_rfl) (by simp) ?_
      refine AllReady.cons rfl (fun K hK => ?_) AllReady.nil
      go_simp
      refine hK _ _ ?_
      clear hK K
      refine wpAny_ready (rs := [8]) (by kernel_rfl) (by simp) ?_
      refine AllReady.cons rfl (fun K hK => ?_) AllReady.nil
      go_simp
      refine hK _ _ ?_
      clear hK K
      refine wpAny_ready (rs := [9]) (by kernel_rfl) (by simp) ?_
      refine AllReady.cons rfl (fun K hK => ?_) AllReady.nil
      go_simp
      refine hK _ _ ?_
      clear hK K
      refine wpAny_ready (rs := [10]) (by kernel_rfl) (by simp) ?_
      refine AllReady.cons rfl (fun K hK => ?_) AllReady.nil
      go_simp
      refine hK _ _ ?_
      clear hK K
      refine wpAny_ready (rs := [11]) (by kernel_rfl) (by simp) ?_
      refine AllReady.cons rfl (fun K hK => ?_) AllReady.nil
      go_simp
      refine hK _ _ ?_
      clear hK K
      refine wpAny_ready (rs := [12]) (by kernel_rfl) (by simp) ?_
      refine AllReady.cons rfl (fun K hK => ?_) AllReady.nil
      go_simp
      refine hK _ _ ?_
      clear hK K
      refine wpAny_ready (rs := [13]) (by kernel_rfl) (by simp) ?_
      refine AllReady.cons rfl (fun K hK => ?_) AllReady.nil
      go_simp
      refine hK _ _ ?_
      clear hK K
      refine wpAny_ready (rs := [14]) (by kernel_rfl) (by simp) ?_
      refine AllReady.cons rfl (fun K hK => ?_) AllReady.nil
      go_simp
      refine hK _ _ ?_
      clear hK K
      refine wpAny_take (i := 15) (v := undef) rfl (by kernel_rfl) (by kernel_rfl) (by kernel_rfl) (fun _ _ _ h => h) (Or.inr ⟨by rfl, rfl⟩) ?_
      refine wpAny_take (i := 17) (v := undef) rfl (by kernel_rfl) (by kernel_rfl) (by kernel_rfl) (fun _ _ _ h => h) (Or.inr ⟨by rfl, rfl⟩) ?_
      refine wpAny_take (i := 19) (v := undef) rfl (by kernel_rfl) (by kernel_rfl) (by kernel_rfl) (fun _ _ _ h => h) (Or.inr ⟨by rfl, rfl⟩) ?_
      refine wpAny_ready (rs := [16, 20]) (by kernel_rfl) (by simp) ?_
      refine AllReady.cons rfl (fun K hK => ?_) ?_
      · skip
        go_simp
        refine hK _ _ ?_
        clear hK K
        refine wpAny_ready (rs := [18, 20]) (by kernel_rfl) (by simp) ?_
        refine AllReady.cons rfl (fun K hK => ?_) ?_
        · skip
          go_simp
          refine hK _ _ ?_
          clear hK K
          refine wpAny_ready (rs := [20]) (by kernel_rfl) (by simp) ?_
          refine AllReady.cons rfl (fun K hK => ?_) AllReady.nil
          go_simp
          refine hK _ _ ?_
          clear hK K
          refine wpAny_ready (rs := [21]) (by kernel_rfl) (by simp) ?_
          refine AllReady.cons rfl (fun K hK => ?_) AllReady.nil
          go_simp
          refine hK _ _ ?_
          clear hK K
          refine wpAny_ready (rs := [22]) (by kernel_rfl) (by simp) ?_
          refine AllReady.cons rfl (fun K hK => ?_) AllReady.nil
          go_simp
          refine hK _ _ ?_
          clear hK K
          refine wpAny_done (by kernel_rfl) ?_ _
          (go_wp2_with fail; go_meet; exact ⟨rfl, by first | exact B3 | exact B3.drew | exact B3.drew.drew⟩)
        refine AllReady.cons rfl (fun K hK => ?_) AllReady.nil
        go_simp
        refine hK _ _ ?_
        clear hK K
        refine wpAny_ready (rs := [18]) (by kernel_rfl) (by simp) ?_
        refine AllReady.cons rfl (fun K hK => ?_) AllReady.nil
        go_simp
        refine hK _ _ ?_
        clear hK K
        refine wpAny_ready (rs := [21]) (by kernel_rfl) (by simp) ?_
        refine AllReady.cons rfl (fun K hK => ?_) AllReady.nil
        go_simp
        refine hK _ _ ?_
        clear hK K
        refine wpAny_ready (rs := [22]) (by kernel_rfl) (by simp) ?_
        refine AllReady.cons rfl (fun K hK => ?_) AllReady.nil
        go_simp
        refine hK _ _ ?_
        clear hK K
        refine wpAny_done (by kernel_rfl) ?_ _
        (go_wp2_with fail; go_meet; exact ⟨rfl, by first | exact B3 | exact B3.drew | exact B3.drew.drew⟩)
      refine AllReady.cons rfl (fun K hK => ?_) AllReady.nil
      go_simp
      refine hK _ _ ?_
      clear hK K
      refine wpAny_ready (rs := [16]) (by kernel_rfl) (by simp) ?_
      refine AllReady.cons rfl (fun K hK => ?_) AllReady.nil
      go_simp
      refine hK _ _ ?_
      clear hK K
      refine wpAny_ready (rs := [18]) (by kernel_rfl) (by simp) ?_
      refine AllReady.cons rfl (fun K hK => ?_) AllReady.nil
      go_simp
      refine hK _ _ ?_
      clear hK K
      refine wpAny_ready (rs := [21]) (by kernel_rfl) (by simp) ?_
      refine AllReady.cons rfl (fun K hK => ?_) AllReady.nil
      go_simp
      refine hK _ _ ?_
      clear hK K
      refine wpAny_ready (rs := [22]) (by kernel_rfl) (by simp) ?_
      refine AllReady.cons rfl (fun K hK => ?_) AllReady.nil
      go_simp
      refine hK _ _ ?_
      clear hK K
      refine wpAny_done (by kernel_rfl) ?_ _
      (go_wp2_with fail; go_meet; exact ⟨rfl, by first | exact B3 | exact B3.drew | exact B3.drew.drew⟩)
    case rest =>
    obtain ⟨rfl, b'⟩ := hcut
    have b3 := bel_next b2 b'
    have X3 := X2.below b'
    have R3 := R2.below b'
    have N3 := N2.below b'
    have S4 : Hid (Sl _ a zs) := S3.out.below b'
    have o3 := o2.below b'
    clear b' b2 X2 R2 N2 o2 S3 x0 x1 x2 x3 x4
    obtain ⟨x0, x1, x2, x3, x4⟩ := X3.five
    obtain ⟨r0, r1, r2, r3, r4⟩ := R3.five
    obtain ⟨m0, m1, m2, m3, m4⟩ := N3.five
    have fr := R3.fro
    clear hh ht
    have q := bel_alloc wc (.cells #[] 42)
    have R4 := R3.below q
    have o4 := o3.below q
    have b4 := bel_next b3 q
    obtain ⟨s0, s1, s2, s3, s4⟩ := R4.five
    have fs := R4.fro
    clear q R3 o3 b3 X3 N3
    go_wp2
    refine bodyPost_ret (v := .tuple #[rt a' n' c' ls bd hf wh, .slice (some ⟨wc.heap.size, 0, none⟩) 0 0]) (by simp [results, Tryd.results35, go_sem, s0, s1, s2, s3, s4]) rfl ?_
    exact ⟨a', n', c', _, 0, 0, w.heap.size, rfl, HN'.out, st5_own o4 ⟨_, R4⟩, Nat.le_refl _, Below.size (st5_bel b4 (by omega)), .inl ⟨rfl, rfl⟩, st5_bel b4 (by omega)⟩
  · cases ht : tkB tk
    · clear hE
      go_enter Tryd.func35, Tryd.ntmps35
      go_wp2_with fail
      rw [← hW0.out]
      refine (l6Copy_any a l c ls bd hf wh zs _ HN.out.1 S1.out HN.out.2.2).mono ?_
      rintro e w1 ⟨a', c', n', rfl, hn', o1', b'⟩
      have b1 := bel_next B0 b'
      have X1 := X0.below b'
      have R1 := R0.below b'
      have S2 : Hid (Sl w1 a zs) := S1.out.below b'
      have o1 := o1'.monoT (by omega : w.heap.size ≤ W0.heap.size)
      have HN' : Hid (n' = zs.length) := hn'
      have N2 := Blk.new w1 #[.slice a' n' c', .int .i64 ls, .bool bd, .int .i64 hf, .int .i64 wh] 33
      have hb1 := R1.lt
      obtain ⟨w2, hw2⟩ : ∃ w2, w2 = w1.alloc (.cells #[.slice a' n' c', .int .i64 ls, .bool bd, .int .i64 hf, .int .i64 wh] 33) := ⟨_, rfl⟩
      obtain ⟨gN, hgN⟩ : ∃ gN, gN = w1.heap.size := ⟨_, rfl⟩
      have b'' := bel_alloc w1 (.cells #[.slice a' n' c', .int .i64 ls, .bool bd, .int .i64 hf, .int .i64 wh] 33)
      have HW2 : Hid (w2 = _) := hw2
      have HGN : Hid (gN = w1.heap.size) := hgN
      rw [← hw2] at b'' N2
      rw [← hgN] at N2 hb1
      have b2 := bel_next b1 b''
      have X2 := X1.below b''
      have R2 := R1.below b''
      have S3 : Hid (Sl w2 a zs) := S2.out.below b''
      have o2 := o1.below b''
      have hwN : w.heap.size ≤ gN := by omega
      clear b' b'' b1 X0 X1 R0 R1 o1 o1' S1 S2 hn' hw2 hgN B0
      obtain ⟨x0, x1, x2, x3, x4⟩ := X2.five
      go_wp2_with fail
      simp only [← HGN.out]
      rw [← HW2.out]
      go_cut [32] (fun sX wx => sX = .bool true ∧ Below w2.heap.size w2 wx)
      case first =>
        refine wp_region_any (by kernel_rfl) ?_
        (try (change wpAny _ _ _ _ _ _ _ (World.drew _)))
        refine wpAny_ready (rs := [0]) (by kernel_rfl) (by simp) ?_
        refine AllReady.cons rfl (fun K hK => ?_) AllReady.nil
        go_simp
        refine hK _ _ ?_
        clear hK K
        refine wpAny_ready (rs := [1]) (by kernel_rfl) (by simp) ?_
        refine AllReady.cons rfl (fun K hK => ?_) AllReady.nil
        go_simp
        go_wp2_with (go_at_call 53; refine (specRtuOk_any a l c ls bd hf wh _ HN.out.2.1 _ hh).mono ?_; rintro e w3 ⟨rfl, b'⟩; have B3 : Below w2.heap.size w2 w3 := bel_next (by first | exact Below.refl _ _ | exact (Below.refl _ _).drew | exact (Below.refl _ _).drew.drew) b'; obtain ⟨y0, y1, y2, y3, y4⟩ := (X2.below B3).five; clear b')
        try (refine hK _ _ ?_; clear hK K)
        refine wpAny_ready (rs := [2]) (by kernel_rfl) (by simp) ?_
        refine AllReady.cons rfl (fun K hK => ?_) AllReady.nil
        go_simp
        refine hK _ _ ?_
        clear hK K
        refine wpAny_ready (rs := [3]) (by kernel_rfl) (by simp) ?_
        refine AllReady.cons rfl (fun K hK => ?_) AllReady.nil
        go_simp
        refine hK _ _ ?_
        clear hK K
        refine wpAny_ready (rs := [4]) (by kernel_rfl) (by simp) ?_
        refine AllReady.cons rfl (fun K hK => ?_) AllReady.nil
        go_simp
        refine hK _ _ ?_
        clear hK K
        refine wpAny_ready (rs := [5]) (by kernel_rfl) (by simp) ?_
        refine AllReady.cons rfl (fun K hK => ?_) AllReady.nil
        go_simp
        go_wp2_with (go_at_call 54; refine (specTick_b tk _ _ ht).mono ?_; rintro e w4 ⟨rfl, e4⟩; subst e4)
        try (refine hK _ _ ?_; clear hK K)
        refine wpAny_ready (rs := [6]) (by kernel_rfl) (by simp) ?_
        refine AllReady.cons rfl (fun K hK => ?_) AllReady.nil
        go_simp
        refine hK _ _ ?_
        clear hK K
        refine wpAny_ready (rs := [7]) (by kernel_rfl) (by simp) ?_
        refine AllReady.cons rfl (fun K hK => ?_) AllReady.nil
        go_simp
        refine hK _ _ ?_
        clear hK K
        refine wpAny_ready (rs := [8]) (by kernel_rfl) (by simp) ?_
        refine AllReady.cons rfl (fun K hK => ?_) AllReady.nil
        go_simp
        refine hK _ _ ?_
        clear hK K
        refine wpAny_ready (rs := [9]) (by kernel_rfl) (by simp) ?_
        refine AllReady.cons rfl (fun K hK => ?_) AllReady.nil
        go_simp
        refine hK _ _ ?_
        clear hK K
        refine wpAny_ready (rs := [10]) (by kernel_rfl) (by simp) ?_
        refine AllReady.cons rfl (fun K hK => ?_) AllReady.nil
        go_simp
        refine hK _ _ ?_
        clear hK K
        refine wpAny_ready (rs := [11]) (by kernel_rfl) (by simp) ?_
        refine AllReady.cons rfl (fun K hK => ?_) AllReady.nil
        go_simp
        refine hK _ _ ?_
        clear hK K
        refine wpAny_ready (rs := [12]) (by kernel_rfl) (by simp) ?_
        refine AllReady.cons rfl (fun K hK => ?_) AllReady.nil
        go_simp
        refine hK _ _ ?_
        clear hK K
        refine wpAny_ready (rs := [13]) (by kernel_rfl) (by simp) ?_
        refine AllReady.cons rfl (fun K hK => ?_) AllReady.nil
        go_simp
        refine hK _ _ ?_
        clear hK K
        refine wpAny_ready (rs := [14]) (by kernel_rfl) (by simp) ?_
        refine AllReady.cons rfl (fun K hK => ?_) AllReady.nil
        go_simp
        refine hK _ _ ?_
        clear hK K
        refine wpAny_take (i := 15) (v := undef) rfl (by kernel_rfl) (by kernel_rfl) (by kernel_rfl) (fun _ _ _ h => h) (Or.inr ⟨by rfl, rfl⟩) ?_
        refine wpAny_take (i := 17) (v := undef) rfl (by kernel_rfl) (by kernel_rfl) (by kernel_rfl) (fun _ _ _ h => h) (Or.inr ⟨by rfl, rfl⟩) ?_
        refine wpAny_take (i := 19) (v := undef) rfl (by kernel_rfl) (by kernel_rfl) (by kernel_rfl) (fun _ _ _ h => h) (Or.inr ⟨by rfl, rfl⟩) ?_
        refine wpAny_ready (rs := [16, 20]) (by kernel_rfl) (by simp) ?_
        refine AllReady.cons rfl (fun K hK => ?_) ?_
        · skip
          go_simp
          refine hK _ _ ?_
          clear hK K
          refine wpAny_ready (rs := [18, 20]) (by kernel_rfl) (by simp) ?_
          refine AllReady.cons rfl (fun K hK => ?_) ?_
          · skip
            go_simp
            refine hK _ _ ?_
            clear hK K
            refine wpAny_ready (rs := [20]) (by kernel_rfl) (by simp) ?_
            refine AllReady.cons rfl (fun K hK => ?_) AllReady.nil
            go_simp
            refine hK _ _ ?_
            clear hK K
            refine wpAny_ready (rs := [21]) (by kernel_rfl) (by simp) ?_
            refine AllReady.cons rfl (fun K hK => ?_) AllReady.nil
            go_simp
            refine hK _ _ ?_
            clear hK K
            refine wpAny_ready (rs := [22]) (by kernel_rfl) (by simp) ?_
            refine AllReady.cons rfl (fun K hK => ?_) AllReady.nil
            go_simp
            refine hK _ _ ?_
            clear hK K
            refine wpAny_done (by kernel_rfl) ?_ _
            (go_wp2_with fail; go_meet; exact ⟨rfl, by first | exact B3 | exact B3.drew | exact B3.drew.drew⟩)
          refine AllReady.cons rfl (fun K hK => ?_) AllReady.nil
          go_simp
          refine hK _ _ ?_
          clear hK K
          refine wpAny_ready (rs := [18]) (by kernel_rfl) (by simp) ?_
          refine AllReady.cons rfl (fun K hK => ?_) AllReady.nil
          go_simp
          refine hK _ _ ?_
          clear hK K
          refine wpAny_ready (rs := [21]) (by kernel_rfl) (by simp) ?_
          refine AllReady.cons rfl (fun K hK => ?_) AllReady.nil
          go_simp
          refine hK _ _ ?_
          clear hK K
          refine wpAny_ready (rs := [22]) (by kernel_rfl) (by simp) ?_
          refine AllReady.cons rfl (fun K hK => ?_) AllReady.nil
          go_simp
          refine hK _ _ ?_
          clear hK K
          refine wpAny_done (by kernel_rfl) ?_ _
          (go_wp2_with fail; go_meet; exact ⟨rfl, by first | exact B3 | exact B3.drew | exact B3.drew.drew⟩)
        refine AllReady.cons rfl (fun K hK => ?_) AllReady.nil
        go_simp
        refine hK _ _ ?_
        clear hK K
        refine wpAny_ready (rs := [16]) (by kernel_rfl) (by simp) ?_
        refine AllReady.cons rfl (fun K hK => ?_) AllReady.nil
        go_simp
        refine hK _ _ ?_
        clear hK K
        refine wpAny_ready (rs := [18]) (by kernel_rfl) (by simp) ?_
        refine AllReady.cons rfl (fun K hK => ?_) AllReady.nil
        go_simp
        refine hK _ _ ?_
        clear hK K
        refine wpAny_ready (rs := [21]) (by kernel_rfl) (by simp) ?_
        refine AllReady.cons rfl (fun K hK => ?_) AllReady.nil
        go_simp
        refine hK _ _ ?_
        clear hK K
        refine wpAny_ready (rs := [22]) (by kernel_rfl) (by simp) ?_
        refine AllReady.cons rfl (fun K hK => ?_) AllReady.nil
        go_simp
        refine hK _ _ ?_
        clear hK K
        refine wpAny_done (by kernel_rfl) ?_ _
        (go_wp2_with fail; go_meet; exact ⟨rfl, by first | exact B3 | exact B3.drew | exact B3.drew.drew⟩)
      case rest =>
      obtain ⟨rfl, b'⟩ := hcut
      have b3 := bel_next b2 b'
      have X3 := X2.below b'
      have R3 := R2.below b'
      have N3 := N2.below b'
      have S4 : Hid (Sl _ a zs) := S3.out.below b'
      have o3 := o2.below b'
      clear b' b2 X2 R2 N2 o2 S3 x0 x1 x2 x3 x4
      obtain ⟨x0, x1, x2, x3, x4⟩ := X3.five
      obtain ⟨r0, r1, r2, r3, r4⟩ := R3.five
      obtain ⟨m0, m1, m2, m3, m4⟩ := N3.five
      have fr := R3.fro
      clear hh ht
      have q := bel_alloc wc (.cells #[] 42)
      have R4 := R3.below q
      have o4 := o3.below q
      have b4 := bel_next b3 q
      obtain ⟨s0, s1, s2, s3, s4⟩ := R4.five
      have fs := R4.fro
      clear q R3 o3 b3 X3 N3
      go_wp2
      refine bodyPost_ret (v := .tuple #[rt a' n' c' ls bd hf wh, .slice (some ⟨wc.heap.size, 0, none⟩) 0 0]) (by simp [results, Tryd.results35, go_sem, s0, s1, s2, s3, s4]) rfl ?_
      exact ⟨a', n', c', _, 0, 0, w.heap.size, rfl, HN'.out, st5_own o4 ⟨_, R4⟩, Nat.le_refl _, Below.size (st5_bel b4 (by omega)), .inl ⟨rfl, rfl⟩, st5_bel b4 (by omega)⟩
    · have hP : 0 ≤ ls ∧ ls ≤ 4294967295 ∧ 0 ≤ tk ∧ tk ≤ 4294967295 := by
        have q1 := (okT_parts hh).1
        have q2 := tkB_parts ht
        omega
      have HP : Hid (0 ≤ ls ∧ ls ≤ 4294967295 ∧ 0 ≤ tk ∧ tk ≤ 4294967295) := hP
      clear hP
      by_cases h0 : l = 0
      · have h0b : ((l : Int) == 0) = true := by rw [h0]; rfl
        clear hE h0
        go_enter Tryd.func35, Tryd.ntmps35
        go_wp2_with fail
        rw [← hW0.out]
        refine (l6Copy_any a l c ls bd hf wh zs _ HN.out.1 S1.out HN.out.2.2).mono ?_
        rintro e w1 ⟨a', c', n', rfl, hn', o1', b'⟩
        have b1 := bel_next B0 b'
        have X1 := X0.below b'
        have R1 := R0.below b'
        have S2 : Hid (Sl w1 a zs) := S1.out.below b'
        have o1 := o1'.monoT (by omega : w.heap.size ≤ W0.heap.size)
        have HN' : Hid (n' = zs.length) := hn'
        have N2 := Blk.new w1 #[.slice a' n' c', .int .i64 ls, .bool bd, .int .i64 hf, .int .i64 wh] 33
        have hb1 := R1.lt
        obtain ⟨w2, hw2⟩ : ∃ w2, w2 = w1.alloc (.cells #[.slice a' n' c', .int .i64 ls, .bool bd, .int .i64 hf, .int .i64 wh] 33) := ⟨_, rfl⟩
        obtain ⟨gN, hgN⟩ : ∃ gN, gN = w1.heap.size := ⟨_, rfl⟩
        have b'' := bel_alloc w1 (.cells #[.slice a' n' c', .int .i64 ls, .bool bd, .int .i64 hf, .int .i64 wh] 33)
        have HW2 : Hid (w2 = _) := hw2
        have HGN : Hid (gN = w1.heap.size) := hgN
        rw [← hw2] at b'' N2
        rw [← hgN] at N2 hb1
        have b2 := bel_next b1 b''
        have X2 := X1.below b''
        have R2 := R1.below b''
        have S3 : Hid (Sl w2 a zs) := S2.out.below b''
        have o2 := o1.below b''
        have hwN : w.heap.size ≤ gN := by omega
        clear b' b'' b1 X0 X1 R0 R1 o1 o1' S1 S2 hn' hw2 hgN B0
        obtain ⟨x0, x1, x2, x3, x4⟩ := X2.five
        go_wp2_with fail
        simp only [← HGN.out]
        rw [← HW2.out]
        go_cut [32] (fun sX wx => sX = .bool true ∧ Below w2.heap.size w2 wx)
        case first =>
          refine wp_region_any (by kernel_rfl) ?_
          (try (change wpAny _ _ _ _ _ _ _ (World.drew _)))
          refine wpAny_ready (rs := [0]) (by kernel_rfl) (by simp) ?_
          refine AllReady.cons rfl (fun K hK => ?_) AllReady.nil
          go_simp
          refine hK _ _ ?_
          clear hK K
          refine wpAny_ready (rs := [1]) (by kernel_rfl) (by simp) ?_
          refine AllReady.cons rfl (fun K hK => ?_) AllReady.nil
          go_simp
          go_wp2_with (go_at_call 53; refine (specRtuOk_any a l c ls bd hf wh _ HN.out.2.1 _ hh).mono ?_; rintro e w3 ⟨rfl, b'⟩; have B3 : Below w2.heap.size w2 w3 := bel_next (by first | exact Below.refl _ _ | exact (Below.refl _ _).drew | exact (Below.refl _ _).drew.drew) b'; obtain ⟨y0, y1, y2, y3, y4⟩ := (X2.below B3).five; clear b')
          try (refine hK _ _ ?_; clear hK K)
          refine wpAny_ready (rs := [2]) (by kernel_rfl) (by simp) ?_
          refine AllReady.cons rfl (fun K hK => ?_) AllReady.nil
          go_simp
          refine hK _ _ ?_
          clear hK K
          refine wpAny_ready (rs := [3]) (by kernel_rfl) (by simp) ?_
          refine AllReady.cons rfl (fun K hK => ?_) AllReady.nil
          go_simp
          refine hK _ _ ?_
          clear hK K
          refine wpAny_ready (rs := [4]) (by kernel_rfl) (by simp) ?_
          refine AllReady.cons rfl (fun K hK => ?_) AllReady.nil
          go_simp
          refine hK _ _ ?_
          clear hK K
          refine wpAny_ready (rs := [5]) (by kernel_rfl) (by simp) ?_
          refine AllReady.cons rfl (fun K hK => ?_) AllReady.nil
          go_simp
          go_wp2_with (go_at_call 54; refine (specTick_b tk _ _ ht).mono ?_; rintro e w4 ⟨rfl, e4⟩; subst e4)
          try (refine hK _ _ ?_; clear hK K)
          refine wpAny_ready (rs := [6]) (by kernel_rfl) (by simp) ?_
          refine AllReady.cons rfl (fun K hK => ?_) AllReady.nil
          go_simp
          refine hK _ _ ?_
          clear hK K
          refine wpAny_ready (rs := [7]) (by kernel_rfl) (by simp) ?_
          refine AllReady.cons rfl (fun K hK => ?_) AllReady.nil
          go_simp
          refine hK _ _ ?_
          clear hK K
          refine wpAny_ready (rs := [8]) (by kernel_rfl) (by simp) ?_
          refine AllReady.cons rfl (fun K hK => ?_) AllReady.nil
          go_simp
          refine hK _ _ ?_
          clear hK K
          refine wpAny_ready (rs := [9]) (by kernel_rfl) (by simp) ?_
          refine AllReady.cons rfl (fun K hK => ?_) AllReady.nil
          go_simp
          refine hK _ _ ?_
          clear hK K
          refine wpAny_ready (rs := [10]) (by kernel_rfl) (by simp) ?_
          refine AllReady.cons rfl (fun K hK => ?_) AllReady.nil
          go_simp
          refine hK _ _ ?_
          clear hK K
          refine wpAny_ready (rs := [11]) (by kernel_rfl) (by simp) ?_
          refine AllReady.cons rfl (fun K hK => ?_) AllReady.nil
          go_simp
          refine hK _ _ ?_
          clear hK K
          refine wpAny_ready (rs := [12]) (by kernel_rfl) (by simp) ?_
          refine AllReady.cons rfl (fun K hK => ?_) AllReady.nil
          go_simp
          refine hK _ _ ?_
          clear hK K
          refine wpAny_ready (rs := [13]) (by kernel_rfl) (by simp) ?_
          refine AllReady.cons rfl (fun K hK => ?_) AllReady.nil
          go_simp
          refine hK _ _ ?_
          clear hK K
          refine wpAny_ready (rs := [14]) (by kernel_rfl) (by simp) ?_
          refine AllReady.cons rfl (fun K hK => ?_) AllReady.nil
          go_simp
          refine hK _ _ ?_
          clear hK K
          refine wpAny_take (i := 15) (v := undef) rfl (by kernel_rfl) (by kernel_rfl) (by kernel_rfl) (fun _ _ _ h => h) (Or.inr ⟨by rfl, rfl⟩) ?_
          refine wpAny_take (i := 17) (v := undef) rfl (by kernel_rfl) (by kernel_rfl) (by kernel_rfl) (fun _ _ _ h => h) (Or.inr ⟨by rfl, rfl⟩) ?_
          refine wpAny_take (i := 19) (v := undef) rfl (by kernel_rfl) (by kernel_rfl) (by kernel_rfl) (fun _ _ _ h => h) (Or.inr ⟨by rfl, rfl⟩) ?_
          refine wpAny_ready (rs := [16, 20]) (by kernel_rfl) (by simp) ?_
          refine AllReady.cons rfl (fun K hK => ?_) ?_
          · skip
            go_simp
            refine hK _ _ ?_
            clear hK K
            refine wpAny_ready (rs := [18, 20]) (by kernel_rfl) (by simp) ?_
            refine AllReady.cons rfl (fun K hK => ?_) ?_
            · skip
              go_simp
              refine hK _ _ ?_
              clear hK K
              refine wpAny_ready (rs := [20]) (by kernel_rfl) (by simp) ?_
              refine AllReady.cons rfl (fun K hK => ?_) AllReady.nil
              go_simp
              refine hK _ _ ?_
              clear hK K
              refine wpAny_ready (rs := [21]) (by kernel_rfl) (by simp) ?_
              refine AllReady.cons rfl (fun K hK => ?_) AllReady.nil
              go_simp
              refine hK _ _ ?_
              clear hK K
              refine wpAny_ready (rs := [22]) (by kernel_rfl) (by simp) ?_
              refine AllReady.cons rfl (fun K hK => ?_) AllReady.nil
              go_simp
              refine hK _ _ ?_
              clear hK K
              refine wpAny_done (by kernel_rfl) ?_ _
              (go_wp2_with fail; go_meet; exact ⟨rfl, by first | exact B3 | exact B3.drew | exact B3.drew.drew⟩)
            refine AllReady.cons rfl (fun K hK => ?_) AllReady.nil
            go_simp
            refine hK _ _ ?_
            clear hK K
            refine wpAny_ready (rs := [18]) (by kernel_rfl) (by simp) ?_
            refine AllReady.cons rfl (fun K hK => ?_) AllReady.nil
            go_simp
            refine hK _ _ ?_
            clear hK K
            refine wpAny_ready (rs := [21]) (by kernel_rfl) (by simp) ?_
            refine AllReady.cons rfl (fun K hK => ?_) AllReady.nil
            go_simp
            refine hK _ _ ?_
            clear hK K
            refine wpAny_ready (rs := [22]) (by kernel_rfl) (by simp) ?_
            refine AllReady.cons rfl (fun K hK => ?_) AllReady.nil
            go_simp
            refine hK _ _ ?_
            clear hK K
            refine wpAny_done (by kernel_rfl) ?_ _
            (go_wp2_with fail; go_meet; exact ⟨rfl, by first | exact B3 | exact B3.drew | exact B3.drew.drew⟩)
          refine AllReady.cons rfl (fun K hK => ?_) AllReady.nil
          go_simp
          refine hK _ _ ?_
          clear hK K
          refine wpAny_ready (rs := [16]) (by kernel_rfl) (by simp) ?_
          refine AllReady.cons rfl (fun K hK => ?_) AllReady.nil
          go_simp
          refine hK _ _ ?_
          clear hK K
          refine wpAny_ready (rs := [18]) (by kernel_rfl) (by simp) ?_
          refine AllReady.cons rfl (fun K hK => ?_) AllReady.nil
          go_simp
          refine hK _ _ ?_
          clear hK K
          refine wpAny_ready (rs := [21]) (by kernel_rfl) (by simp) ?_
          refine AllReady.cons rfl (fun K hK => ?_) AllReady.nil
          go_simp
          refine hK _ _ ?_
          clear hK K
          refine wpAny_ready (rs := [22]) (by kernel_rfl) (by simp) ?_
          refine AllReady.cons rfl (fun K hK => ?_) AllReady.nil
          go_simp
          refine hK _ _ ?_
          clear hK K
          refine wpAny_done (by kernel_rfl) ?_ _
          (go_wp2_with fail; go_meet; exact ⟨rfl, by first | exact B3 | exact B3.drew | exact B3.drew.drew⟩)
        case rest =>
        obtain ⟨rfl, b'⟩ := hcut
        have b3 := bel_next b2 b'
        have X3 := X2.below b'
        have R3 := R2.below b'
        have N3 := N2.below b'
        have S4 : Hid (Sl _ a zs) := S3.out.below b'
        have o3 := o2.below b'
        clear b' b2 X2 R2 N2 o2 S3 x0 x1 x2 x3 x4
        obtain ⟨x0, x1, x2, x3, x4⟩ := X3.five
        obtain ⟨r0, r1, r2, r3, r4⟩ := R3.five
        obtain ⟨m0, m1, m2, m3, m4⟩ := N3.five
        have fr := R3.fro
        clear hh ht
        have q := bel_alloc wc (.cells #[] 42)
        have R4 := R3.below q
        have o4 := o3.below q
        have b4 := bel_next b3 q
        obtain ⟨s0, s1, s2, s3, s4⟩ := R4.five
        have fs := R4.fro
        clear q R3 o3 b3 X3 N3
        go_wp2
        refine bodyPost_ret (v := .tuple #[rt a' n' c' ls bd hf wh, .slice (some ⟨wc.heap.size, 0, none⟩) 0 0]) (by simp [results, Tryd.results35, go_sem, s0, s1, s2, s3, s4]) rfl ?_
        exact ⟨a', n', c', _, 0, 0, w.heap.size, rfl, HN'.out, st5_own o4 ⟨_, R4⟩, Nat.le_refl _, Below.size (st5_bel b4 (by omega)), .inl ⟨rfl, rfl⟩, st5_bel b4 (by omega)⟩
      · have h0b : ((l : Int) == 0) = false := by simp; exact h0
        have hg : gap ls tk < wh := by
          unfold wtE at hE
          rw [hh, ht, decide_eq_true (show 0 < l by omega)] at hE
          simp at hE
          exact hE
        clear hE h0
        go_enter Tryd.func35, Tryd.ntmps35
        go_wp2_with fail
        rw [← hW0.out]
        refine (l6Copy_any a l c ls bd hf wh zs _ HN.out.1 S1.out HN.out.2.2).mono ?_
        rintro e w1 ⟨a', c', n', rfl, hn', o1', b'⟩
        have b1 := bel_next B0 b'
        have X1 := X0.below b'
        have R1 := R0.below b'
        have S2 : Hid (Sl w1 a zs) := S1.out.below b'
        have o1 := o1'.monoT (by omega : w.heap.size ≤ W0.heap.size)
        have HN' : Hid (n' = zs.length) := hn'
        have N2 := Blk.new w1 #[.slice a' n' c', .int .i64 ls, .bool bd, .int .i64 hf, .int .i64 wh] 33
        have hb1 := R1.lt
        obtain ⟨w2, hw2⟩ : ∃ w2, w2 = w1.alloc (.cells #[.slice a' n' c', .int .i64 ls, .bool bd, .int .i64 hf, .int .i64 wh] 33) := ⟨_, rfl⟩
        obtain ⟨gN, hgN⟩ : ∃ gN, gN = w1.heap.size := ⟨_, rfl⟩
        have b'' := bel_alloc w1 (.cells #[.slice a' n' c', .int .i64 ls, .bool bd, .int .i64 hf, .int .i64 wh] 33)
        have HW2 : Hid (w2 = _) := hw2
        have HGN : Hid (gN = w1.heap.size) := hgN
        rw [← hw2] at b'' N2
        rw [← hgN] at N2 hb1
        have b2 := bel_next b1 b''
        have X2 := X1.below b''
        have R2 := R1.below b''
        have S3 : Hid (Sl w2 a zs) := S2.out.below b''
        have o2 := o1.below b''
        have hwN : w.heap.size ≤ gN := by omega
        clear b' b'' b1 X0 X1 R0 R1 o1 o1' S1 S2 hn' hw2 hgN B0
        obtain ⟨x0, x1, x2, x3, x4⟩ := X2.five
        go_wp2_with fail
        simp only [← HGN.out]
        rw [← HW2.out]
        go_cut [32] (fun sX wx => sX = .bool true ∧ Below w2.heap.size w2 wx)
        case first =>
          refine wp_region_any (by kernel_rfl) ?_
          (try (change wpAny _ _ _ _ _ _ _ (World.drew _)))
          refine wpAny_ready (rs := [0]) (by kernel_rfl) (by simp) ?_
          refine AllReady.cons rfl (fun K hK => ?_) AllReady.nil
          go_simp
          refine hK _ _ ?_
          clear hK K
          refine wpAny_ready (rs := [1]) (by kernel_rfl) (by simp) ?_
          refine AllReady.cons rfl (fun K hK => ?_) AllReady.nil
          go_simp
          go_wp2_with (go_at_call 53; refine (specRtuOk_any a l c ls bd hf wh _ HN.out.2.1 _ hh).mono ?_; rintro e w3 ⟨rfl, b'⟩; have B3 : Below w2.heap.size w2 w3 := bel_next (by first | exact Below.refl _ _ | exact (Below.refl _ _).drew | exact (Below.refl _ _).drew.drew) b'; obtain ⟨y0, y1, y2, y3, y4⟩ := (X2.below B3).five; clear b')
          try (refine hK _ _ ?_; clear hK K)
          refine wpAny_ready (rs := [2]) (by kernel_rfl) (by simp) ?_
          refine AllReady.cons rfl (fun K hK => ?_) AllReady.nil
          go_simp
          refine hK _ _ ?_
          clear hK K
          refine wpAny_ready (rs := [3]) (by kernel_rfl) (by simp) ?_
          refine AllReady.cons rfl (fun K hK => ?_) AllReady.nil
          go_simp
          refine hK _ _ ?_
          clear hK K
          refine wpAny_ready (rs := [4]) (by kernel_rfl) (by simp) ?_
          refine AllReady.cons rfl (fun K hK => ?_) AllReady.nil
          go_simp
          refine hK _ _ ?_
          clear hK K
          refine wpAny_ready (rs := [5]) (by kernel_rfl) (by simp) ?_
          refine AllReady.cons rfl (fun K hK => ?_) AllReady.nil
          go_simp
          go_wp2_with (go_at_call 54; refine (specTick_b tk _ _ ht).mono ?_; rintro e w4 ⟨rfl, e4⟩; subst e4)
          try (refine hK _ _ ?_; clear hK K)
          refine wpAny_ready (rs := [6]) (by kernel_rfl) (by simp) ?_
          refine AllReady.cons rfl (fun K hK => ?_) AllReady.nil
          go_simp
          refine hK _ _ ?_
          clear hK K
          refine wpAny_ready (rs := [7]) (by kernel_rfl) (by simp) ?_
          refine AllReady.cons rfl (fun K hK => ?_) AllReady.nil
          go_simp
          refine hK _ _ ?_
          clear hK K
          refine wpAny_ready (rs := [8]) (by kernel_rfl) (by simp) ?_
          refine AllReady.cons rfl (fun K hK => ?_) AllReady.nil
          go_simp
          refine hK _ _ ?_
          clear hK K
          refine wpAny_ready (rs := [9]) (by kernel_rfl) (by simp) ?_
          refine AllReady.cons rfl (fun K hK => ?_) AllReady.nil
          go_simp
          refine hK _ _ ?_
          clear hK K
          refine wpAny_ready (rs := [10]) (by kernel_rfl) (by simp) ?_
          refine AllReady.cons rfl (fun K hK => ?_) AllReady.nil
          go_simp
          refine hK _ _ ?_
          clear hK K
          refine wpAny_ready (rs := [11]) (by kernel_rfl) (by simp) ?_
          refine AllReady.cons rfl (fun K hK => ?_) AllReady.nil
          go_simp
          refine hK _ _ ?_
          clear hK K
          refine wpAny_ready (rs := [12]) (by kernel_rfl) (by simp) ?_
          refine AllReady.cons rfl (fun K hK => ?_) AllReady.nil
          go_simp
          refine hK _ _ ?_
          clear hK K
          refine wpAny_ready (rs := [13]) (by kernel_rfl) (by simp) ?_
          refine AllReady.cons rfl (fun K hK => ?_) AllReady.nil
          go_simp
          refine hK _ _ ?_
          clear hK K
          refine wpAny_ready (rs := [14]) (by kernel_rfl) (by simp) ?_
          refine AllReady.cons rfl (fun K hK => ?_) AllReady.nil
          go_simp
          refine hK _ _ ?_
          clear hK K
          refine wpAny_take (i := 15) (v := ?v15) rfl (by kernel_rfl) (by kernel_rfl) (by kernel_rfl) (fun _ _ _ h => h) (Or.inl ⟨by rfl, ?h15⟩) ?_
          case h15 => intro w; go_simp; try (with_reducible rfl)
          refine wpAny_take (i := 17) (v := ?v17) rfl (by kernel_rfl) (by kernel_rfl) (by kernel_rfl) (fun _ _ _ h => h) (Or.inl ⟨by rfl, ?h17⟩) ?_
          case h17 => intro w; go_simp; try (with_reducible rfl)
          refine wpAny_take (i := 19) (v := ?v19) rfl (by kernel_rfl) (by kernel_rfl) (by kernel_rfl) (fun _ _ _ h => h) (Or.inl ⟨by rfl, ?h19⟩) ?_
          case h19 => intro w; go_simp; try (with_reducible rfl)
          refine wpAny_ready (rs := [16, 20]) (by kernel_rfl) (by simp) ?_
          refine AllReady.cons rfl (fun K hK => ?_) ?_
          · skip
            go_simp
            refine hK _ _ ?_
            clear hK K
            refine wpAny_ready (rs := [18, 20]) (by kernel_rfl) (by simp) ?_
            refine AllReady.cons rfl (fun K hK => ?_) ?_
            · skip
              go_simp
              go_wp2_with (go_at_call 56; refine (specGap_ok ls tk _ HP.out.1 HP.out.2.1 HP.out.2.2.1 HP.out.2.2.2).mono ?_; rintro e w5 ⟨rfl, e5⟩; subst e5)
              try (refine hK _ _ ?_; clear hK K)
              refine wpAny_ready (rs := [20]) (by kernel_rfl) (by simp) ?_
              refine AllReady.cons rfl (fun K hK => ?_) AllReady.nil
              go_simp
              refine hK _ _ ?_
              clear hK K
              refine wpAny_ready (rs := [21]) (by kernel_rfl) (by simp) ?_
              refine AllReady.cons rfl (fun K hK => ?_) AllReady.nil
              go_simp
              refine hK _ _ ?_
              clear hK K
              refine wpAny_ready (rs := [22]) (by kernel_rfl) (by simp) ?_
              refine AllReady.cons rfl (fun K hK => ?_) AllReady.nil
              go_simp
              refine hK _ _ ?_
              clear hK K
              refine wpAny_done (by kernel_rfl) ?_ _
              (go_wp2_with fail; go_meet; exact ⟨rfl, by first | exact B3 | exact B3.drew | exact B3.drew.drew⟩)
            refine AllReady.cons rfl (fun K hK => ?_) AllReady.nil
            go_simp
            refine hK _ _ ?_
            clear hK K
            refine wpAny_ready (rs := [18]) (by kernel_rfl) (by simp) ?_
            refine AllReady.cons rfl (fun K hK => ?_) AllReady.nil
            go_simp
            go_wp2_with (go_at_call 56; refine (specGap_ok ls tk _ HP.out.1 HP.out.2.1 HP.out.2.2.1 HP.out.2.2.2).mono ?_; rintro e w5 ⟨rfl, e5⟩; subst e5)
            try (refine hK _ _ ?_; clear hK K)
            refine wpAny_ready (rs := [21]) (by kernel_rfl) (by simp) ?_
            refine AllReady.cons rfl (fun K hK => ?_) AllReady.nil
            go_simp
            refine hK _ _ ?_
            clear hK K
            refine wpAny_ready (rs := [22]) (by kernel_rfl) (by simp) ?_
            refine AllReady.cons rfl (fun K hK => ?_) AllReady.nil
            go_simp
            refine hK _ _ ?_
            clear hK K
            refine wpAny_done (by kernel_rfl) ?_ _
            (go_wp2_with fail; go_meet; exact ⟨rfl, by first | exact B3 | exact B3.drew | exact B3.drew.drew⟩)
          refine AllReady.cons rfl (fun K hK => ?_) AllReady.nil
          go_simp
          refine hK _ _ ?_
          clear hK K
          refine wpAny_ready (rs := [16]) (by kernel_rfl) (by simp) ?_
          refine AllReady.cons rfl (fun K hK => ?_) AllReady.nil
          go_simp
          refine hK _ _ ?_
          clear hK K
          refine wpAny_ready (rs := [18]) (by kernel_rfl) (by simp) ?_
          refine AllReady.cons rfl (fun K hK => ?_) AllReady.nil
          go_simp
          go_wp2_with (go_at_call 56; refine (specGap_ok ls tk _ HP.out.1 HP.out.2.1 HP.out.2.2.1 HP.out.2.2.2).mono ?_; rintro e w5 ⟨rfl, e5⟩; subst e5)
          try (refine hK _ _ ?_; clear hK K)
          refine wpAny_ready (rs := [21]) (by kernel_rfl) (by simp) ?_
          refine AllReady.cons rfl (fun K hK => ?_) AllReady.nil
          go_simp
          refine hK _ _ ?_
          clear hK K
          refine wpAny_ready (rs := [22]) (by kernel_rfl) (by simp) ?_
          refine AllReady.cons rfl (fun K hK => ?_) AllReady.nil
          go_simp
          refine hK _ _ ?_
          clear hK K
          refine wpAny_done (by kernel_rfl) ?_ _
          (go_wp2_with fail; go_meet; exact ⟨rfl, by first | exact B3 | exact B3.drew | exact B3.drew.drew⟩)
        case rest =>
        obtain ⟨rfl, b'⟩ := hcut
        have b3 := bel_next b2 b'
        have X3 := X2.below b'
        have R3 := R2.below b'
        have N3 := N2.below b'
        have S4 : Hid (Sl _ a zs) := S3.out.below b'
        have o3 := o2.below b'
        clear b' b2 X2 R2 N2 o2 S3 x0 x1 x2 x3 x4
        obtain ⟨x0, x1, x2, x3, x4⟩ := X3.five
        obtain ⟨r0, r1, r2, r3, r4⟩ := R3.five
        obtain ⟨m0, m1, m2, m3, m4⟩ := N3.five
        have fr := R3.fro
        clear hh ht
        have q := bel_alloc wc (.cells #[] 42)
        have R4 := R3.below q
        have o4 := o3.below q
        have b4 := bel_next b3 q
        obtain ⟨s0, s1, s2, s3, s4⟩ := R4.five
        have fs := R4.fro
        clear q R3 o3 b3 X3 N3
        go_wp2
        refine bodyPost_ret (v := .tuple #[rt a' n' c' ls bd hf wh, .slice (some ⟨wc.heap.size, 0, none⟩) 0 0]) (by simp [results, Tryd.results35, go_sem, s0, s1, s2, s3, s4]) rfl ?_
        exact ⟨a', n', c', _, 0, 0, w.heap.size, rfl, HN'.out, st5_own o4 ⟨_, R4⟩, Nat.le_refl _, Below.size (st5_bel b4 (by omega)), .inl ⟨rfl, rfl⟩, st5_bel b4 (by omega)⟩

end Go.Proofs.YtonikfajopdagaaDoor
