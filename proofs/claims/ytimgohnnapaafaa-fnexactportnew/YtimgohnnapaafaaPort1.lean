/- Ports as values: equality, marks of new ones. -/
import Derived.Test.YtimgohnnapaafaaRtu1
import Derived.Test.YtimgohnnapaafaaAsc1
import Derived.Deep.RegionWith
namespace Go.Proofs.Ytimgohnnapaafaa
open Go.RowKit

set_option linter.unusedVariables false

set_option linter.unusedSimpArgs false

/-- What a port has but its lists. -/
structure PtV where
  kd : Int
  ls : Int
  bd : Bool
  hf : Int
  wh : Int
  op : Bool
  lt : Int
  wt : Int
  sh : Bool
  er : Int

/-- A port as a value. -/
abbrev pt (P : PtV) (ra : Option Addr) (rl rc : Nat) (aa : Option Addr) (al ac : Nat) (sa : Option Addr) (sl sc : Nat) : Value := .agg #[.int .i64 P.kd, .slice ra rl rc, .int .i64 P.ls, .bool P.bd, .int .i64 P.hf, .int .i64 P.wh, .slice aa al ac, .bool P.op, .int .i64 P.lt, .int .i64 P.wt, .slice sa sl sc, .bool P.sh, .int .i64 P.er]

/-- Its lists, read. -/
def PS (w : World) (ra aa sa : Option Addr) (rl al sl : Nat) (zr za zb : List Int) : Prop := (rl = zr.length ∧ Sl w ra zr ∧ zr.length ≤ 2000000) ∧ (al = za.length ∧ Sl w aa za ∧ za.length ≤ 2000000) ∧ (sl = zb.length ∧ Sl w sa zb ∧ zb.length ≤ 2000000)

theorem PS.below {w w' : World} {ra aa sa : Option Addr} {rl al sl : Nat} {zr za zb : List Int} (h : PS w ra aa sa rl al sl zr za zb) (b : Below w.heap.size w w') : PS w' ra aa sa rl al sl zr za zb :=
  ⟨⟨h.1.1, h.1.2.1.below b, h.1.2.2⟩, ⟨h.2.1.1, h.2.1.2.1.below b, h.2.1.2.2⟩, ⟨h.2.2.1, h.2.2.2.1.below b, h.2.2.2.2⟩⟩

theorem Blk.n13 {w : World} {g : Nat} {t : TypeId} {v0 v1 v2 v3 v4 v5 v6 v7 v8 v9 v10 v11 v12 : Value} (h : Blk w g t #[v0, v1, v2, v3, v4, v5, v6, v7, v8, v9, v10, v11, v12]) : w.cell? ⟨g, 0, none⟩ = some v0 ∧ w.cell? ⟨g, 1, none⟩ = some v1 ∧ w.cell? ⟨g, 2, none⟩ = some v2 ∧ w.cell? ⟨g, 3, none⟩ = some v3 ∧ w.cell? ⟨g, 4, none⟩ = some v4 ∧ w.cell? ⟨g, 5, none⟩ = some v5 ∧ w.cell? ⟨g, 6, none⟩ = some v6 ∧ w.cell? ⟨g, 7, none⟩ = some v7 ∧ w.cell? ⟨g, 8, none⟩ = some v8 ∧ w.cell? ⟨g, 9, none⟩ = some v9 ∧ w.cell? ⟨g, 10, none⟩ = some v10 ∧ w.cell? ⟨g, 11, none⟩ = some v11 ∧ w.cell? ⟨g, 12, none⟩ = some v12 :=
  ⟨h.cell 0 rfl, h.cell 1 rfl, h.cell 2 rfl, h.cell 3 rfl, h.cell 4 rfl, h.cell 5 rfl, h.cell 6 rfl, h.cell 7 rfl, h.cell 8 rfl, h.cell 9 rfl, h.cell 10 rfl, h.cell 11 rfl, h.cell 12 rfl⟩

set_option maxHeartbeats 2000000 in
theorem eqStream_true (a a' : Option Addr) (l l' c c' : Nat) (sh : Bool) (zs : List Int) (w : World) (hn : l = zs.length) (hn' : l' = zs.length) (hs : Sl w a zs) (hs' : Sl w a' zs) (hl : zs.length ≤ 2000000) :
    Calls Try.prog 31 #[.agg #[.slice a l c, .bool sh], .agg #[.slice a' l' c', .bool sh]] w fun e w' => e = .returned (.bool true) ∧ Below w.heap.size w w' := by
  have HN : Hid (l = zs.length ∧ l' = zs.length) := ⟨hn, hn'⟩
  obtain ⟨W0, hW0'⟩ : ∃ W0, W0 = (w.alloc (.cells #[.slice a l c, .bool sh] 28)).alloc (.cells #[.slice a' l' c', .bool sh] 28) := ⟨_, rfl⟩
  have hW0 : Hid (W0 = _) := hW0'
  have B0 : Below w.heap.size w W0 := by rw [hW0']; exact bel_next (bel_alloc w _) (bel_alloc _ _)
  have X0 : Blk W0 w.heap.size 28 #[.slice a l c, .bool sh] := by rw [hW0']; exact (Blk.new w _ _).below (bel_alloc _ _)
  have Y0 : Blk W0 (w.heap.size + 1) 28 #[.slice a' l' c', .bool sh] := by
    rw [hW0']; have := Blk.new (w.alloc (.cells #[.slice a l c, .bool sh] 28)) #[.slice a' l' c', .bool sh] 28; simpa using this
  have HS : Hid (Sl W0 a zs ∧ Sl W0 a' zs) := ⟨hs.below B0, hs'.below B0⟩
  clear hn hn' hs hs' hW0'
  go_enter Try.func31, Try.ntmps31
  go_wp2_with fail
  rw [← hW0.out]
  refine (eqByteS_t _ _ _ _ _ _ zs _ HN.out.1 HN.out.2 HS.out.1 HS.out.2 hl).mono ?_
  rintro e w1 ⟨rfl, b1'⟩
  have b1 := bel_next B0 b1'
  have x1 := (X0.below b1').cell 1 rfl
  have y1 := (Y0.below b1').cell 1 rfl
  clear b1' B0 X0 Y0
  cases sh
  all_goals (
    go_wp2
    go_ret
    exact ⟨rfl, b1⟩)

set_option maxHeartbeats 1000000 in
theorem markStream_nil (w : World) :
    Calls Try.prog 34 #[.agg #[.slice none 0 0, .bool false], .int .i64 1] w fun e w' => e = .returned (.int .i64 1) ∧ Below w.heap.size w w' := by
  have HO : Hid (Own (w.alloc (.cells #[.slice none 0 0, .bool false] 28)) w.heap.size (.slice none 0 0) []) := ⟨rfl, .inl ⟨rfl, rfl⟩⟩
  have B0 := bel_alloc w (.cells #[.slice none 0 0, .bool false] 28)
  go_enter Try.func34, Try.ntmps34
  go_wp2_with fail
  refine (markByteS_from none 0 0 w.heap.size 1 [] _ HO.out (by omega) (by omega)).mono ?_
  rintro e w1 ⟨rfl, o1, g1⟩
  have B1 : Below w.heap.size w w1 := bel_next B0 ⟨g1.os, g1.tape, g1.output, g1.size, fun k hk => g1.block k hk (by simp [Value.ownBlock])⟩
  clear o1 g1 B0
  go_wp2
  go_ret
  exact ⟨rfl, B1⟩

set_option maxHeartbeats 1000000 in
theorem heldStream_nil (w : World) :
    Calls Try.prog 37 #[.agg #[.slice none 0 0, .bool false], .int .i64 1] w fun e w' => e = .returned (.int .i64 1) ∧ Below w.heap.size w w' := by
  have B0 := bel_alloc w (.cells #[.slice none 0 0, .bool false] 28)
  go_enter Try.func37, Try.ntmps37
  go_wp2_with fail
  refine (heldByteS_from none 0 0 1 _ (.inl rfl) (by omega) (by omega)).mono ?_
  rintro e w1 ⟨rfl, e1⟩
  subst e1
  go_wp2
  go_ret
  exact ⟨rfl, B0⟩

set_option maxRecDepth 20000 in
set_option maxHeartbeats 8000000 in
theorem eqPort_true (P : PtV) (ra aa sa ra' aa' sa' : Option Addr) (rl al sl rc ac sc rl' al' sl' rc' ac' sc' : Nat) (zr za zb : List Int) (w : World) (h : PS w ra aa sa rl al sl zr za zb) (h' : PS w ra' aa' sa' rl' al' sl' zr za zb) :
    Calls Try.prog 8 #[pt P ra rl rc aa al ac sa sl sc, pt P ra' rl' rc' aa' al' ac' sa' sl' sc'] w fun e w' => e = .returned (.bool true) ∧ Below w.heap.size w w' := by
  obtain ⟨W0, hW0'⟩ : ∃ W0, W0 = (w.alloc (.cells #[.int .i64 P.kd, .slice ra rl rc, .int .i64 P.ls, .bool P.bd, .int .i64 P.hf, .int .i64 P.wh, .slice aa al ac, .bool P.op, .int .i64 P.lt, .int .i64 P.wt, .slice sa sl sc, .bool P.sh, .int .i64 P.er] 30)).alloc (.cells #[.int .i64 P.kd, .slice ra' rl' rc', .int .i64 P.ls, .bool P.bd, .int .i64 P.hf, .int .i64 P.wh, .slice aa' al' ac', .bool P.op, .int .i64 P.lt, .int .i64 P.wt, .slice sa' sl' sc', .bool P.sh, .int .i64 P.er] 30) := ⟨_, rfl⟩
  have hW0 : Hid (W0 = _) := hW0'
  have B0 : Below w.heap.size w W0 := by rw [hW0']; exact bel_next (bel_alloc w _) (bel_alloc _ _)
  have X0 : Blk W0 w.heap.size 30 #[.int .i64 P.kd, .slice ra rl rc, .int .i64 P.ls, .bool P.bd, .int .i64 P.hf, .int .i64 P.wh, .slice aa al ac, .bool P.op, .int .i64 P.lt, .int .i64 P.wt, .slice sa sl sc, .bool P.sh, .int .i64 P.er] := by rw [hW0']; exact (Blk.new w _ _).below (bel_alloc _ _)
  have Y0 : Blk W0 (w.heap.size + 1) 30 #[.int .i64 P.kd, .slice ra' rl' rc', .int .i64 P.ls, .bool P.bd, .int .i64 P.hf, .int .i64 P.wh, .slice aa' al' ac', .bool P.op, .int .i64 P.lt, .int .i64 P.wt, .slice sa' sl' sc', .bool P.sh, .int .i64 P.er] := by
    rw [hW0']; have := Blk.new (w.alloc (.cells #[.int .i64 P.kd, .slice ra rl rc, .int .i64 P.ls, .bool P.bd, .int .i64 P.hf, .int .i64 P.wh, .slice aa al ac, .bool P.op, .int .i64 P.lt, .int .i64 P.wt, .slice sa sl sc, .bool P.sh, .int .i64 P.er] 30)) #[.int .i64 P.kd, .slice ra' rl' rc', .int .i64 P.ls, .bool P.bd, .int .i64 P.hf, .int .i64 P.wh, .slice aa' al' ac', .bool P.op, .int .i64 P.lt, .int .i64 P.wt, .slice sa' sl' sc', .bool P.sh, .int .i64 P.er] 30; simpa using this
  have S0 : Hid (PS W0 ra aa sa rl al sl zr za zb ∧ PS W0 ra' aa' sa' rl' al' sl' zr za zb) := ⟨h.below B0, h'.below B0⟩
  clear h h' hW0'
  obtain ⟨x0, x1, x2, x3, x4, x5, x6, x7, x8, x9, x10, x11, x12⟩ := X0.n13
  obtain ⟨y0, y1, y2, y3, y4, y5, y6, y7, y8, y9, y10, y11, y12⟩ := Y0.n13
  go_enter Try.func8, Try.ntmps8
  go_wp2_with fail
  rw [← hW0.out]
  refine (eqRtu_true ra ra' rl rl' rc rc' P.ls P.bd P.hf P.wh zr _ S0.out.1.1.1 S0.out.2.1.1 S0.out.1.1.2.1 S0.out.2.1.2.1 S0.out.1.1.2.2).mono ?_
  rintro e w1 ⟨rfl, b'⟩
  have B1 := bel_next B0 b'
  have X1 := X0.below b'
  have Y1 := Y0.below b'
  have S1 : Hid (PS w1 ra aa sa rl al sl zr za zb ∧ PS w1 ra' aa' sa' rl' al' sl' zr za zb) := ⟨S0.out.1.below b', S0.out.2.below b'⟩
  clear b' B0 X0 Y0 S0 x0 x1 x2 x3 x4 x5 x6 x7 x8 x9 x10 x11 x12 y0 y1 y2 y3 y4 y5 y6 y7 y8 y9 y10 y11 y12
  obtain ⟨x0, x1, x2, x3, x4, x5, x6, x7, x8, x9, x10, x11, x12⟩ := X1.n13
  obtain ⟨y0, y1, y2, y3, y4, y5, y6, y7, y8, y9, y10, y11, y12⟩ := Y1.n13
  go_wp2_with fail
  refine (eqAscii_true aa aa' al al' ac ac' P.op P.lt P.wt za _ S1.out.1.2.1.1 S1.out.2.2.1.1 S1.out.1.2.1.2.1 S1.out.2.2.1.2.1 S1.out.1.2.1.2.2).mono ?_
  rintro e w2 ⟨rfl, b'⟩
  have B2 := bel_next B1 b'
  have X2 := X1.below b'
  have Y2 := Y1.below b'
  have S2 : Hid (PS w2 ra aa sa rl al sl zr za zb ∧ PS w2 ra' aa' sa' rl' al' sl' zr za zb) := ⟨S1.out.1.below b', S1.out.2.below b'⟩
  clear b' B1 X1 Y1 S1 x0 x1 x2 x3 x4 x5 x6 x7 x8 x9 x10 x11 x12 y0 y1 y2 y3 y4 y5 y6 y7 y8 y9 y10 y11 y12
  obtain ⟨x0, x1, x2, x3, x4, x5, x6, x7, x8, x9, x10, x11, x12⟩ := X2.n13
  obtain ⟨y0, y1, y2, y3, y4, y5, y6, y7, y8, y9, y10, y11, y12⟩ := Y2.n13
  go_wp2_with fail
  refine (eqStream_true sa sa' sl sl' sc sc' P.sh zb _ S2.out.1.2.2.1 S2.out.2.2.2.1 S2.out.1.2.2.2.1 S2.out.2.2.2.2.1 S2.out.1.2.2.2.2).mono ?_
  rintro e w3 ⟨rfl, b'⟩
  have B3 := bel_next B2 b'
  have X3 := X2.below b'
  have Y3 := Y2.below b'
  clear b' B2 X2 Y2 S2 x0 x1 x2 x3 x4 x5 x6 x7 x8 x9 x10 x11 x12 y0 y1 y2 y3 y4 y5 y6 y7 y8 y9 y10 y11 y12
  obtain ⟨x0, x1, x2, x3, x4, x5, x6, x7, x8, x9, x10, x11, x12⟩ := X3.n13
  obtain ⟨y0, y1, y2, y3, y4, y5, y6, y7, y8, y9, y10, y11, y12⟩ := Y3.n13
  go_wp2
  go_ret
  exact ⟨rfl, B3⟩

theorem own_nilP (w : World) (base : Nat) : Own w base (.slice none 0 0) [] := ⟨rfl, .inl ⟨rfl, rfl⟩⟩

/-- A port in which nothing was heard. -/
abbrev pn (kd hf wh wt : Int) : Value := pt ⟨kd, 0, false, hf, wh, false, 0, wt, false, 0⟩ none 0 0 none 0 0 none 0 0

theorem ps_nil (w : World) : PS w none none none 0 0 0 [] [] [] := ⟨⟨rfl, .inl rfl, by simp⟩, ⟨rfl, .inl rfl, by simp⟩, ⟨rfl, .inl rfl, by simp⟩⟩

theorem eqPort_nil (kd hf wh wt : Int) (w : World) :
    Calls Try.prog 8 #[pn kd hf wh wt, pn kd hf wh wt] w fun e w' => e = .returned (.bool true) ∧ Below w.heap.size w w' :=
  eqPort_true ⟨kd, 0, false, hf, wh, false, 0, wt, false, 0⟩ none none none none none none 0 0 0 0 0 0 0 0 0 0 0 0 [] [] [] w (ps_nil w) (ps_nil w)

theorem markRtu_nilP (H K : Int) (w : World) :
    Calls Try.prog 32 #[.agg #[.slice none 0 0, .int .i64 0, .bool false, .int .i64 H, .int .i64 K], .int .i64 1] w fun e w' => e = .returned (.int .i64 1) ∧ Below w.heap.size w w' := by
  refine (markRtu_sv 1 none 0 0 w.heap.size 1 0 false H K [] w rfl (own_nilP _ _) (by omega) (by omega)).mono ?_
  rintro e w' ⟨rfl, _, g⟩
  exact ⟨rfl, ⟨g.os, g.tape, g.output, g.size, fun k hk => g.block k hk (by simp [Value.ownBlock])⟩⟩

theorem heldRtu_nilP (H K : Int) (w : World) :
    Calls Try.prog 35 #[.agg #[.slice none 0 0, .int .i64 0, .bool false, .int .i64 H, .int .i64 K], .int .i64 1] w fun e w' => e = .returned (.int .i64 1) ∧ Below w.heap.size w w' := by
  refine (heldRtu_sv 1 none 0 0 1 0 false H K w rfl (.inl rfl) (by omega) (by omega)).mono ?_
  rintro e w' ⟨rfl, b⟩
  exact ⟨rfl, b⟩

theorem markAscii_nilP (H : Int) (w : World) :
    Calls Try.prog 33 #[.agg #[.slice none 0 0, .bool false, .int .i64 0, .int .i64 H], .int .i64 1] w fun e w' => e = .returned (.int .i64 1) ∧ Below w.heap.size w w' := by
  refine (markAscii_sv 1 none 0 0 w.heap.size 1 false 0 H [] w rfl (own_nilP _ _) (by omega) (by omega)).mono ?_
  rintro e w' ⟨rfl, _, g⟩
  exact ⟨rfl, ⟨g.os, g.tape, g.output, g.size, fun k hk => g.block k hk (by simp [Value.ownBlock])⟩⟩

theorem heldAscii_nilP (H : Int) (w : World) :
    Calls Try.prog 36 #[.agg #[.slice none 0 0, .bool false, .int .i64 0, .int .i64 H], .int .i64 1] w fun e w' => e = .returned (.int .i64 1) ∧ Below w.heap.size w w' := by
  refine (heldAscii_sv 1 none 0 0 1 false 0 H w rfl (.inl rfl) (by omega) (by omega)).mono ?_
  rintro e w' ⟨rfl, b⟩
  exact ⟨rfl, b⟩

set_option maxRecDepth 20000 in
set_option maxHeartbeats 2000000 in
theorem markPort_nil (kd hf wh wt : Int) (w : World) :
    Calls Try.prog 9 #[pn kd hf wh wt, .int .i64 1] w fun e w' => e = .returned (.int .i64 1) ∧ Below w.heap.size w w' := by
  have B0 := bel_alloc w (.cells #[.int .i64 kd, .slice none 0 0, .int .i64 0, .bool false, .int .i64 hf, .int .i64 wh, .slice none 0 0, .bool false, .int .i64 0, .int .i64 wt, .slice none 0 0, .bool false, .int .i64 0] 30)
  have X0 := Blk.new w #[.int .i64 kd, .slice none 0 0, .int .i64 0, .bool false, .int .i64 hf, .int .i64 wh, .slice none 0 0, .bool false, .int .i64 0, .int .i64 wt, .slice none 0 0, .bool false, .int .i64 0] 30
  obtain ⟨x0, x1, x2, x3, x4, x5, x6, x7, x8, x9, x10, x11, x12⟩ := X0.n13
  go_enter Try.func9, Try.ntmps9
  go_wp2_with fail
  refine (markRtu_nilP hf wh _).mono ?_
  rintro e w1 ⟨rfl, b'⟩
  have B1 := bel_next B0 b'
  have X1 := X0.below b'
  clear b' B0 X0 x0 x1 x2 x3 x4 x5 x6 x7 x8 x9 x10 x11 x12
  obtain ⟨x0, x1, x2, x3, x4, x5, x6, x7, x8, x9, x10, x11, x12⟩ := X1.n13
  go_wp2_with fail
  refine (markAscii_nilP wt _).mono ?_
  rintro e w2 ⟨rfl, b'⟩
  have B2 := bel_next B1 b'
  have X2 := X1.below b'
  clear b' B1 X1 x0 x1 x2 x3 x4 x5 x6 x7 x8 x9 x10 x11 x12
  obtain ⟨x0, x1, x2, x3, x4, x5, x6, x7, x8, x9, x10, x11, x12⟩ := X2.n13
  go_wp2_with fail
  refine (markStream_nil _).mono ?_
  rintro e w3 ⟨rfl, b'⟩
  have B3 := bel_next B2 b'
  clear b' B2 X2 x0 x1 x2 x3 x4 x5 x6 x7 x8 x9 x10 x11 x12
  go_wp2
  go_ret
  exact ⟨rfl, B3⟩

set_option maxRecDepth 20000 in
set_option maxHeartbeats 2000000 in
theorem heldPort_nil (kd hf wh wt : Int) (w : World) :
    Calls Try.prog 10 #[pn kd hf wh wt, .int .i64 1] w fun e w' => e = .returned (.int .i64 1) ∧ Below w.heap.size w w' := by
  have B0 := bel_alloc w (.cells #[.int .i64 kd, .slice none 0 0, .int .i64 0, .bool false, .int .i64 hf, .int .i64 wh, .slice none 0 0, .bool false, .int .i64 0, .int .i64 wt, .slice none 0 0, .bool false, .int .i64 0] 30)
  have X0 := Blk.new w #[.int .i64 kd, .slice none 0 0, .int .i64 0, .bool false, .int .i64 hf, .int .i64 wh, .slice none 0 0, .bool false, .int .i64 0, .int .i64 wt, .slice none 0 0, .bool false, .int .i64 0] 30
  obtain ⟨x0, x1, x2, x3, x4, x5, x6, x7, x8, x9, x10, x11, x12⟩ := X0.n13
  go_enter Try.func10, Try.ntmps10
  go_wp2_with fail
  refine (heldRtu_nilP hf wh _).mono ?_
  rintro e w1 ⟨rfl, b'⟩
  have B1 := bel_next B0 b'
  have X1 := X0.below b'
  clear b' B0 X0 x0 x1 x2 x3 x4 x5 x6 x7 x8 x9 x10 x11 x12
  obtain ⟨x0, x1, x2, x3, x4, x5, x6, x7, x8, x9, x10, x11, x12⟩ := X1.n13
  go_wp2_with fail
  refine (heldAscii_nilP wt _).mono ?_
  rintro e w2 ⟨rfl, b'⟩
  have B2 := bel_next B1 b'
  have X2 := X1.below b'
  clear b' B1 X1 x0 x1 x2 x3 x4 x5 x6 x7 x8 x9 x10 x11 x12
  obtain ⟨x0, x1, x2, x3, x4, x5, x6, x7, x8, x9, x10, x11, x12⟩ := X2.n13
  go_wp2_with fail
  refine (heldStream_nil _).mono ?_
  rintro e w3 ⟨rfl, b'⟩
  have B3 := bel_next B2 b'
  clear b' B2 X2 x0 x1 x2 x3 x4 x5 x6 x7 x8 x9 x10 x11 x12
  go_wp2
  go_ret
  exact ⟨rfl, B3⟩

end Go.Proofs.Ytimgohnnapaafaa
