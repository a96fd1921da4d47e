/- AsciiHear of the model. -/
import Derived.Test.YtmcednhinafpeaaAsc8
namespace Go.Proofs.Ytmcednhinafpeaa
open Go.RowKit

set_option linter.unusedVariables false

set_option linter.unusedSimpArgs false

/-- append of frames. -/
theorem wpList_appG {w w' : World} {ops : Array Oper} {rest : List Oper} {o : Oper} {a : Act} {Q : Exit → Act → World → Prop} (hgd : o.guard = none) (s x : Operand)
    (ho : o.op = .call { callee := .builtin .append, args := #[s, x], argTypes := #[34, 34] }) (v u v' : Value) (hs : a.eval s = v) (hx : a.eval x = u)
    (hr : (Builtin.append_ #[34, 34] o.type #[v, u]).run Try.prog w = .ok v' w') (h : wpList Try.prog ops Q rest (a.put o.dst v') w') : wpList Try.prog ops Q (o :: rest) a w :=
  Lib.wpList_append_run _ hgd s x _ _ ho _ _ hs hx _ _ hr h

set_option maxRecDepth 20000 in
set_option maxHeartbeats 2000000 in
theorem specAsciiHear_no (a : Option Addr) (l c : Nat) (op : Bool) (ls wt b tk : Int) (zs : List Int) (w : World) (hn : l = zs.length) (hs : Sl w a zs) (hl : zs.length ≤ 2000000) (hh : (okK zs op ls wt && tkB tk) = false) :
    Calls Try.prog 31 #[sc a l c op ls wt, .int .u8 b, .int .i64 tk] w fun e w' => XR w w' e zs op ls wt none := by
  cases ho : okK zs op ls wt
  · clear hh
    have HN : Hid (l = zs.length ∧ l ≤ 2000000 ∧ zs.length ≤ 2000000) := by show _ ∧ _; omega
    obtain ⟨W0, hW0'⟩ : ∃ W0, W0 = (((w.alloc (.cells #[.slice a l c, .bool op, .int .i64 ls, .int .i64 wt] 31)).alloc (.cells #[.slice none 0 0, .bool false, .int .i64 0, .int .i64 0] 31)).alloc (.cells #[.slice a l c, .bool op, .int .i64 ls, .int .i64 wt] 31)).alloc (.cells #[] 5) := ⟨_, rfl⟩
    have hW0 : Hid (W0 = _) := hW0'
    have hz : W0.heap.size = w.heap.size + 1 + 1 + 1 + 1 := by rw [hW0']; simp
    have B0 : Below w.heap.size w W0 := by rw [hW0']; exact bel_next (bel_next (bel_next (bel_alloc w _) (bel_alloc _ _)) (bel_alloc _ _)) (bel_alloc _ _)
    have X0 : Blk W0 w.heap.size 31 #[.slice a l c, .bool op, .int .i64 ls, .int .i64 wt] := by rw [hW0']; exact (((Blk.new w _ _).below (bel_alloc _ _)).below (bel_alloc _ _)).below (bel_alloc _ _)
    have R0 : Blk W0 (w.heap.size + 1) 31 #[.slice none 0 0, .bool false, .int .i64 0, .int .i64 0] := by rw [hW0']; have := ((Blk.new (w.alloc (.cells #[.slice a l c, .bool op, .int .i64 ls, .int .i64 wt] 31)) #[.slice none 0 0, .bool false, .int .i64 0, .int .i64 0] 31).below (bel_alloc _ (.cells #[.slice a l c, .bool op, .int .i64 ls, .int .i64 wt] 31))).below (bel_alloc _ (.cells #[] 5)); simpa using this
    have N0 : Blk W0 (w.heap.size + 1 + 1) 31 #[.slice a l c, .bool op, .int .i64 ls, .int .i64 wt] := by rw [hW0']; have := (Blk.new ((w.alloc (.cells #[.slice a l c, .bool op, .int .i64 ls, .int .i64 wt] 31)).alloc (.cells #[.slice none 0 0, .bool false, .int .i64 0, .int .i64 0] 31)) #[.slice a l c, .bool op, .int .i64 ls, .int .i64 wt] 31).below (bel_alloc _ (.cells #[] 5)); simpa using this
    have oL : Own W0 w.heap.size (.slice (some ⟨w.heap.size + 1 + 1 + 1, 0, none⟩) 0 0) [] := by rw [hW0']; have := own_lit0 (((w.alloc (.cells #[.slice a l c, .bool op, .int .i64 ls, .int .i64 wt] 31)).alloc (.cells #[.slice none 0 0, .bool false, .int .i64 0, .int .i64 0] 31)).alloc (.cells #[.slice a l c, .bool op, .int .i64 ls, .int .i64 wt] 31)) w.heap.size (by simp; omega); simpa using this
    have S1 : Hid (Sl W0 a zs) := hs.below B0
    have HS : Hid (Sl w a zs) := hs
    have HLn : Hid (([] : List Int).length + zs.length ≤ 4000000) := by show ([] : List Int).length + zs.length ≤ 4000000; simp; omega
    clear hn hs hW0' hl
    go_enter Try.func31, Try.ntmps31
    go_upto_region 4 with (at_builtin; rw [← hW0.out]; refine wpList_appTO rfl (.tmp 14) (.tmp 16) rfl w.heap.size (.slice (some ⟨w.heap.size + 1 + 1 + 1, 0, none⟩) 0 0) [] rfl oL a l c zs rfl HN.out.1 S1.out HLn.out (by omega) ?_; intro v' w1 o1 g1; rw [List.nil_append] at o1; have b1 : Below w.heap.size w w1 := bel_grown B0 oL g1 (Nat.le_refl _) (by omega); have X1 := X0.grown g1 (row_noBlk oL X0 (by decide)); have R1 := R0.grown g1 (row_noBlk oL R0 (by decide)); have N1 := N0.grown g1 (row_noBlk oL N0 (by decide)); obtain ⟨a', c', n', rfl, hn'⟩ := own_shapeT o1; have HN' : Hid (n' = zs.length) := hn'; clear hn' g1 oL X0 R0 N0 B0 S1; obtain ⟨x0, x1, x2, x3⟩ := X1.four; obtain ⟨n0, n1, n2, n3⟩ := N1.four; have fn := N1.fro)
    obtain ⟨gO, hgO⟩ : ∃ x, x = w.heap.size + 1 + 1 := ⟨_, rfl⟩
    obtain ⟨gT, hgT⟩ : ∃ x, x = w1.heap.size := ⟨_, rfl⟩
    have HGO : Hid (gO = w.heap.size + 1 + 1) := hgO
    have HGT : Hid (gT = w1.heap.size) := hgT
    rw [← hgO] at N1
    obtain ⟨w2, hw2⟩ : ∃ x, x = ((w1.setCell ⟨gO, 0, none⟩ (.slice a' n' c')).alloc (.cells #[] 39)) := ⟨_, rfl⟩
    have HW2 : Hid (w2 = _) := hw2
    have hO : w.heap.size + 1 < gO := by omega
    have q2 := bel_alloc (w1.setCell ⟨gO, 0, none⟩ (.slice a' n' c')) (.cells #[] 39)
    rw [← hw2] at q2
    have N2 : Blk w2 gO 31 #[.slice a' n' c', .bool op, .int .i64 ls, .int .i64 wt] := by have := N1.set 0 (.slice a' n' c'); have := this.below q2; simpa using this
    have X2 : Blk w2 w.heap.size 31 #[.slice a l c, .bool op, .int .i64 ls, .int .i64 wt] := (Blk.setNe X1 (by omega)).below q2
    have R2 : Blk w2 (w.heap.size + 1) 31 #[.slice none 0 0, .bool false, .int .i64 0, .int .i64 0] := (Blk.setNe R1 (by omega)).below q2
    have o2 : Own w2 w.heap.size (.slice a' n' c') zs := (own_set1 o1 ⟨_, N1⟩).below q2
    have T2 : Blk w2 gT 39 #[] := by have := Blk.new (w1.setCell ⟨gO, 0, none⟩ (.slice a' n' c')) #[] 39; rw [← hw2] at this; rw [hgT]; simpa [World.setCell] using this
    have b2 : Below w.heap.size w w2 := bel_next (b1.setCell (p := ⟨gO, 0, none⟩) (by show w.heap.size ≤ gO; omega) _) q2
    have HRT : Hid (w.heap.size + 1 < gO ∧ w.heap.size ≤ gT ∧ gT ≠ gO ∧ gT ≠ w.heap.size + 1) := by show _ ∧ _; have := N1.lt; have := b1.size; omega
    clear hw2 q2 hgO hgT N1 X1 R1 o1 b1 x0 x1 x2 x3 n0 n1 n2 n3 fn
    simp only [← HGO.out]
    rw [← HW2.out]
    simp only [← HGT.out]
    have S2 : Hid (Sl w2 a zs) := HS.out.below b2
    obtain ⟨x0, x1, x2, x3⟩ := X2.four
    go_wp2_with fail
    clear x0 x1 x2 x3
    refine (specAsciiOk_any a l c op ls wt zs _ HN.out.1 S2.out HN.out.2.1 _ ho).mono ?_
    rintro e w3 ⟨rfl, b'⟩
    have N3 := N2.below b'
    have X3 := X2.below b'
    have R3 := R2.below b'
    have o3 := o2.below b'
    have T3 := T2.below b'
    have b3 := bel_next b2 b'
    clear b' b2 N2 X2 R2 o2 T2 S2
    obtain ⟨x0, x1, x2, x3⟩ := X3.four
    clear ho
    obtain ⟨n0, n1, n2, n3⟩ := N3.four
    obtain ⟨r0, r1, r2, r3⟩ := R3.four
    have fr := R3.fro
    go_wp2_with (first | (go_at_call 57; go_in) | (go_at_call 55; go_in))
    refine bodyPost_ret (v := .tuple #[sc a' n' c' op ls wt, .slice (some ⟨gT, 0, none⟩) 0 0]) (by simp [results, Try.results31, go_sem, r0, r1, r2, r3]) rfl ?_
    exact ⟨_, _, _, _, _, _, rfl, HN'.out, st4_own o3 ⟨_, R3⟩, .inl ⟨rfl, rfl⟩, st4_bel b3 (by omega)⟩
  · have ht : tkB tk = false := by rw [ho] at hh; simpa using hh
    have ht2 : ¬ (0 ≤ tk ∧ tk ≤ 4294967295) := by unfold tkB at ht; exact of_decide_eq_false ht
    clear hh ht
    by_cases h1 : 0 ≤ tk
    · have h2 : ¬ tk ≤ 4294967295 := fun h => ht2 ⟨h1, h⟩
      have h2d : decide (tk ≤ 4294967295) = false := decide_eq_false h2
      have h2e : (4294967295 : Int) < tk := by omega
      clear ht2
      have HN : Hid (l = zs.length ∧ l ≤ 2000000 ∧ zs.length ≤ 2000000) := by show _ ∧ _; omega
      obtain ⟨W0, hW0'⟩ : ∃ W0, W0 = (((w.alloc (.cells #[.slice a l c, .bool op, .int .i64 ls, .int .i64 wt] 31)).alloc (.cells #[.slice none 0 0, .bool false, .int .i64 0, .int .i64 0] 31)).alloc (.cells #[.slice a l c, .bool op, .int .i64 ls, .int .i64 wt] 31)).alloc (.cells #[] 5) := ⟨_, rfl⟩
      have hW0 : Hid (W0 = _) := hW0'
      have hz : W0.heap.size = w.heap.size + 1 + 1 + 1 + 1 := by rw [hW0']; simp
      have B0 : Below w.heap.size w W0 := by rw [hW0']; exact bel_next (bel_next (bel_next (bel_alloc w _) (bel_alloc _ _)) (bel_alloc _ _)) (bel_alloc _ _)
      have X0 : Blk W0 w.heap.size 31 #[.slice a l c, .bool op, .int .i64 ls, .int .i64 wt] := by rw [hW0']; exact (((Blk.new w _ _).below (bel_alloc _ _)).below (bel_alloc _ _)).below (bel_alloc _ _)
      have R0 : Blk W0 (w.heap.size + 1) 31 #[.slice none 0 0, .bool false, .int .i64 0, .int .i64 0] := by rw [hW0']; have := ((Blk.new (w.alloc (.cells #[.slice a l c, .bool op, .int .i64 ls, .int .i64 wt] 31)) #[.slice none 0 0, .bool false, .int .i64 0, .int .i64 0] 31).below (bel_alloc _ (.cells #[.slice a l c, .bool op, .int .i64 ls, .int .i64 wt] 31))).below (bel_alloc _ (.cells #[] 5)); simpa using this
      have N0 : Blk W0 (w.heap.size + 1 + 1) 31 #[.slice a l c, .bool op, .int .i64 ls, .int .i64 wt] := by rw [hW0']; have := (Blk.new ((w.alloc (.cells #[.slice a l c, .bool op, .int .i64 ls, .int .i64 wt] 31)).alloc (.cells #[.slice none 0 0, .bool false, .int .i64 0, .int .i64 0] 31)) #[.slice a l c, .bool op, .int .i64 ls, .int .i64 wt] 31).below (bel_alloc _ (.cells #[] 5)); simpa using this
      have oL : Own W0 w.heap.size (.slice (some ⟨w.heap.size + 1 + 1 + 1, 0, none⟩) 0 0) [] := by rw [hW0']; have := own_lit0 (((w.alloc (.cells #[.slice a l c, .bool op, .int .i64 ls, .int .i64 wt] 31)).alloc (.cells #[.slice none 0 0, .bool false, .int .i64 0, .int .i64 0] 31)).alloc (.cells #[.slice a l c, .bool op, .int .i64 ls, .int .i64 wt] 31)) w.heap.size (by simp; omega); simpa using this
      have S1 : Hid (Sl W0 a zs) := hs.below B0
      have HS : Hid (Sl w a zs) := hs
      have HLn : Hid (([] : List Int).length + zs.length ≤ 4000000) := by show ([] : List Int).length + zs.length ≤ 4000000; simp; omega
      clear hn hs hW0' hl
      go_enter Try.func31, Try.ntmps31
      go_upto_region 4 with (at_builtin; rw [← hW0.out]; refine wpList_appTO rfl (.tmp 14) (.tmp 16) rfl w.heap.size (.slice (some ⟨w.heap.size + 1 + 1 + 1, 0, none⟩) 0 0) [] rfl oL a l c zs rfl HN.out.1 S1.out HLn.out (by omega) ?_; intro v' w1 o1 g1; rw [List.nil_append] at o1; have b1 : Below w.heap.size w w1 := bel_grown B0 oL g1 (Nat.le_refl _) (by omega); have X1 := X0.grown g1 (row_noBlk oL X0 (by decide)); have R1 := R0.grown g1 (row_noBlk oL R0 (by decide)); have N1 := N0.grown g1 (row_noBlk oL N0 (by decide)); obtain ⟨a', c', n', rfl, hn'⟩ := own_shapeT o1; have HN' : Hid (n' = zs.length) := hn'; clear hn' g1 oL X0 R0 N0 B0 S1; obtain ⟨x0, x1, x2, x3⟩ := X1.four; obtain ⟨n0, n1, n2, n3⟩ := N1.four; have fn := N1.fro)
      obtain ⟨gO, hgO⟩ : ∃ x, x = w.heap.size + 1 + 1 := ⟨_, rfl⟩
      obtain ⟨gT, hgT⟩ : ∃ x, x = w1.heap.size := ⟨_, rfl⟩
      have HGO : Hid (gO = w.heap.size + 1 + 1) := hgO
      have HGT : Hid (gT = w1.heap.size) := hgT
      rw [← hgO] at N1
      obtain ⟨w2, hw2⟩ : ∃ x, x = ((w1.setCell ⟨gO, 0, none⟩ (.slice a' n' c')).alloc (.cells #[] 39)) := ⟨_, rfl⟩
      have HW2 : Hid (w2 = _) := hw2
      have hO : w.heap.size + 1 < gO := by omega
      have q2 := bel_alloc (w1.setCell ⟨gO, 0, none⟩ (.slice a' n' c')) (.cells #[] 39)
      rw [← hw2] at q2
      have N2 : Blk w2 gO 31 #[.slice a' n' c', .bool op, .int .i64 ls, .int .i64 wt] := by have := N1.set 0 (.slice a' n' c'); have := this.below q2; simpa using this
      have X2 : Blk w2 w.heap.size 31 #[.slice a l c, .bool op, .int .i64 ls, .int .i64 wt] := (Blk.setNe X1 (by omega)).below q2
      have R2 : Blk w2 (w.heap.size + 1) 31 #[.slice none 0 0, .bool false, .int .i64 0, .int .i64 0] := (Blk.setNe R1 (by omega)).below q2
      have o2 : Own w2 w.heap.size (.slice a' n' c') zs := (own_set1 o1 ⟨_, N1⟩).below q2
      have T2 : Blk w2 gT 39 #[] := by have := Blk.new (w1.setCell ⟨gO, 0, none⟩ (.slice a' n' c')) #[] 39; rw [← hw2] at this; rw [hgT]; simpa [World.setCell] using this
      have b2 : Below w.heap.size w w2 := bel_next (b1.setCell (p := ⟨gO, 0, none⟩) (by show w.heap.size ≤ gO; omega) _) q2
      have HRT : Hid (w.heap.size + 1 < gO ∧ w.heap.size ≤ gT ∧ gT ≠ gO ∧ gT ≠ w.heap.size + 1) := by show _ ∧ _; have := N1.lt; have := b1.size; omega
      clear hw2 q2 hgO hgT N1 X1 R1 o1 b1 x0 x1 x2 x3 n0 n1 n2 n3 fn
      simp only [← HGO.out]
      rw [← HW2.out]
      simp only [← HGT.out]
      have S2 : Hid (Sl w2 a zs) := HS.out.below b2
      obtain ⟨x0, x1, x2, x3⟩ := X2.four
      go_wp2_with fail
      clear x0 x1 x2 x3
      refine (specAsciiOk_any a l c op ls wt zs _ HN.out.1 S2.out HN.out.2.1 _ ho).mono ?_
      rintro e w3 ⟨rfl, b'⟩
      have N3 := N2.below b'
      have X3 := X2.below b'
      have R3 := R2.below b'
      have o3 := o2.below b'
      have T3 := T2.below b'
      have b3 := bel_next b2 b'
      clear b' b2 N2 X2 R2 o2 T2 S2
      obtain ⟨x0, x1, x2, x3⟩ := X3.four
      clear ho
      obtain ⟨n0, n1, n2, n3⟩ := N3.four
      obtain ⟨r0, r1, r2, r3⟩ := R3.four
      have fr := R3.fro
      go_wp2_with (first | (go_at_call 57; go_in) | (go_at_call 55; go_in))
      refine bodyPost_ret (v := .tuple #[sc a' n' c' op ls wt, .slice (some ⟨gT, 0, none⟩) 0 0]) (by simp [results, Try.results31, go_sem, r0, r1, r2, r3]) rfl ?_
      exact ⟨_, _, _, _, _, _, rfl, HN'.out, st4_own o3 ⟨_, R3⟩, .inl ⟨rfl, rfl⟩, st4_bel b3 (by omega)⟩
    · clear ht2
      have HN : Hid (l = zs.length ∧ l ≤ 2000000 ∧ zs.length ≤ 2000000) := by show _ ∧ _; omega
      obtain ⟨W0, hW0'⟩ : ∃ W0, W0 = (((w.alloc (.cells #[.slice a l c, .bool op, .int .i64 ls, .int .i64 wt] 31)).alloc (.cells #[.slice none 0 0, .bool false, .int .i64 0, .int .i64 0] 31)).alloc (.cells #[.slice a l c, .bool op, .int .i64 ls, .int .i64 wt] 31)).alloc (.cells #[] 5) := ⟨_, rfl⟩
      have hW0 : Hid (W0 = _) := hW0'
      have hz : W0.heap.size = w.heap.size + 1 + 1 + 1 + 1 := by rw [hW0']; simp
      have B0 : Below w.heap.size w W0 := by rw [hW0']; exact bel_next (bel_next (bel_next (bel_alloc w _) (bel_alloc _ _)) (bel_alloc _ _)) (bel_alloc _ _)
      have X0 : Blk W0 w.heap.size 31 #[.slice a l c, .bool op, .int .i64 ls, .int .i64 wt] := by rw [hW0']; exact (((Blk.new w _ _).below (bel_alloc _ _)).below (bel_alloc _ _)).below (bel_alloc _ _)
      have R0 : Blk W0 (w.heap.size + 1) 31 #[.slice none 0 0, .bool false, .int .i64 0, .int .i64 0] := by rw [hW0']; have := ((Blk.new (w.alloc (.cells #[.slice a l c, .bool op, .int .i64 ls, .int .i64 wt] 31)) #[.slice none 0 0, .bool false, .int .i64 0, .int .i64 0] 31).below (bel_alloc _ (.cells #[.slice a l c, .bool op, .int .i64 ls, .int .i64 wt] 31))).below (bel_alloc _ (.cells #[] 5)); simpa using this
      have N0 : Blk W0 (w.heap.size + 1 + 1) 31 #[.slice a l c, .bool op, .int .i64 ls, .int .i64 wt] := by rw [hW0']; have := (Blk.new ((w.alloc (.cells #[.slice a l c, .bool op, .int .i64 ls, .int .i64 wt] 31)).alloc (.cells #[.slice none 0 0, .bool false, .int .i64 0, .int .i64 0] 31)) #[.slice a l c, .bool op, .int .i64 ls, .int .i64 wt] 31).below (bel_alloc _ (.cells #[] 5)); simpa using this
      have oL : Own W0 w.heap.size (.slice (some ⟨w.heap.size + 1 + 1 + 1, 0, none⟩) 0 0) [] := by rw [hW0']; have := own_lit0 (((w.alloc (.cells #[.slice a l c, .bool op, .int .i64 ls, .int .i64 wt] 31)).alloc (.cells #[.slice none 0 0, .bool false, .int .i64 0, .int .i64 0] 31)).alloc (.cells #[.slice a l c, .bool op, .int .i64 ls, .int .i64 wt] 31)) w.heap.size (by simp; omega); simpa using this
      have S1 : Hid (Sl W0 a zs) := hs.below B0
      have HS : Hid (Sl w a zs) := hs
      have HLn : Hid (([] : List Int).length + zs.length ≤ 4000000) := by show ([] : List Int).length + zs.length ≤ 4000000; simp; omega
      clear hn hs hW0' hl
      go_enter Try.func31, Try.ntmps31
      go_upto_region 4 with (at_builtin; rw [← hW0.out]; refine wpList_appTO rfl (.tmp 14) (.tmp 16) rfl w.heap.size (.slice (some ⟨w.heap.size + 1 + 1 + 1, 0, none⟩) 0 0) [] rfl oL a l c zs rfl HN.out.1 S1.out HLn.out (by omega) ?_; intro v' w1 o1 g1; rw [List.nil_append] at o1; have b1 : Below w.heap.size w w1 := bel_grown B0 oL g1 (Nat.le_refl _) (by omega); have X1 := X0.grown g1 (row_noBlk oL X0 (by decide)); have R1 := R0.grown g1 (row_noBlk oL R0 (by decide)); have N1 := N0.grown g1 (row_noBlk oL N0 (by decide)); obtain ⟨a', c', n', rfl, hn'⟩ := own_shapeT o1; have HN' : Hid (n' = zs.length) := hn'; clear hn' g1 oL X0 R0 N0 B0 S1; obtain ⟨x0, x1, x2, x3⟩ := X1.four; obtain ⟨n0, n1, n2, n3⟩ := N1.four; have fn := N1.fro)
      obtain ⟨gO, hgO⟩ : ∃ x, x = w.heap.size + 1 + 1 := ⟨_, rfl⟩
      obtain ⟨gT, hgT⟩ : ∃ x, x = w1.heap.size := ⟨_, rfl⟩
      have HGO : Hid (gO = w.heap.size + 1 + 1) := hgO
      have HGT : Hid (gT = w1.heap.size) := hgT
      rw [← hgO] at N1
      obtain ⟨w2, hw2⟩ : ∃ x, x = ((w1.setCell ⟨gO, 0, none⟩ (.slice a' n' c')).alloc (.cells #[] 39)) := ⟨_, rfl⟩
      have HW2 : Hid (w2 = _) := hw2
      have hO : w.heap.size + 1 < gO := by omega
      have q2 := bel_alloc (w1.setCell ⟨gO, 0, none⟩ (.slice a' n' c')) (.cells #[] 39)
      rw [← hw2] at q2
      have N2 : Blk w2 gO 31 #[.slice a' n' c', .bool op, .int .i64 ls, .int .i64 wt] := by have := N1.set 0 (.slice a' n' c'); have := this.below q2; simpa using this
      have X2 : Blk w2 w.heap.size 31 #[.slice a l c, .bool op, .int .i64 ls, .int .i64 wt] := (Blk.setNe X1 (by omega)).below q2
      have R2 : Blk w2 (w.heap.size + 1) 31 #[.slice none 0 0, .bool false, .int .i64 0, .int .i64 0] := (Blk.setNe R1 (by omega)).below q2
      have o2 : Own w2 w.heap.size (.slice a' n' c') zs := (own_set1 o1 ⟨_, N1⟩).below q2
      have T2 : Blk w2 gT 39 #[] := by have := Blk.new (w1.setCell ⟨gO, 0, none⟩ (.slice a' n' c')) #[] 39; rw [← hw2] at this; rw [hgT]; simpa [World.setCell] using this
      have b2 : Below w.heap.size w w2 := bel_next (b1.setCell (p := ⟨gO, 0, none⟩) (by show w.heap.size ≤ gO; omega) _) q2
      have HRT : Hid (w.heap.size + 1 < gO ∧ w.heap.size ≤ gT ∧ gT ≠ gO ∧ gT ≠ w.heap.size + 1) := by show _ ∧ _; have := N1.lt; have := b1.size; omega
      clear hw2 q2 hgO hgT N1 X1 R1 o1 b1 x0 x1 x2 x3 n0 n1 n2 n3 fn
      simp only [← HGO.out]
      rw [← HW2.out]
      simp only [← HGT.out]
      have S2 : Hid (Sl w2 a zs) := HS.out.below b2
      obtain ⟨x0, x1, x2, x3⟩ := X2.four
      go_wp2_with fail
      clear x0 x1 x2 x3
      refine (specAsciiOk_any a l c op ls wt zs _ HN.out.1 S2.out HN.out.2.1 _ ho).mono ?_
      rintro e w3 ⟨rfl, b'⟩
      have N3 := N2.below b'
      have X3 := X2.below b'
      have R3 := R2.below b'
      have o3 := o2.below b'
      have T3 := T2.below b'
      have b3 := bel_next b2 b'
      clear b' b2 N2 X2 R2 o2 T2 S2
      obtain ⟨x0, x1, x2, x3⟩ := X3.four
      clear ho
      obtain ⟨n0, n1, n2, n3⟩ := N3.four
      obtain ⟨r0, r1, r2, r3⟩ := R3.four
      have fr := R3.fro
      go_wp2_with (first | (go_at_call 57; go_in) | (go_at_call 55; go_in))
      refine bodyPost_ret (v := .tuple #[sc a' n' c' op ls wt, .slice (some ⟨gT, 0, none⟩) 0 0]) (by simp [results, Try.results31, go_sem, r0, r1, r2, r3]) rfl ?_
      exact ⟨_, _, _, _, _, _, rfl, HN'.out, st4_own o3 ⟨_, R3⟩, .inl ⟨rfl, rfl⟩, st4_bel b3 (by omega)⟩

end Go.Proofs.Ytmcednhinafpeaa
