/- The law of FnExactRtuNew, walked. -/
import Derived.Test.YtonikfajopdagaaRtu1
import Derived.Deep.RegionWith
namespace Go.Proofs.Ytonikfajopdagaa
open Go.RowKit

set_option linter.unusedVariables false

theorem specRtuNew_v (hf wh H K : Int) (w : World) (h : H = if okS hf wh = true then hf else 0) (k : K = if okS hf wh = true then wh else 0) :
    Calls Try.prog 5 #[.int .i64 hf, .int .i64 wh] w fun e w' => e = .returned (.agg #[.slice none 0 0, .int .i64 0, .bool false, .int .i64 H, .int .i64 K]) ∧ Below w.heap.size w w' := by
  subst h k; exact specRtuNew_any hf wh w

theorem implRtuNew_v (hf wh H K : Int) (w : World) (h : H = if okS hf wh = true then hf else 0) (k : K = if okS hf wh = true then wh else 0) :
    Calls Try.prog 6 #[.int .i64 hf, .int .i64 wh] w fun e w' => e = .returned (.agg #[.slice none 0 0, .int .i64 0, .bool false, .int .i64 H, .int .i64 K]) ∧ Below w.heap.size w w' := by
  subst h k; exact implRtuNew_any hf wh w

theorem own_nilT (w : World) (base : Nat) : Own w base (.slice none 0 0) [] := ⟨rfl, .inl ⟨rfl, rfl⟩⟩

theorem markRtu_nil (H K : Int) (w : World) :
    Calls Try.prog 8 #[.agg #[.slice none 0 0, .int .i64 0, .bool false, .int .i64 H, .int .i64 K], .int .i64 1] w fun e w' => e = .returned (.int .i64 1) ∧ Below w.heap.size w w' := by
  refine (markRtu_sv 1 none 0 0 w.heap.size 1 0 false H K [] w rfl (own_nilT _ _) (by omega) (by omega)).mono ?_
  rintro e w' ⟨rfl, _, g⟩
  exact ⟨rfl, ⟨g.os, g.tape, g.output, g.size, fun k hk => g.block k hk (by simp [Value.ownBlock])⟩⟩

theorem heldRtu_nil (H K : Int) (w : World) :
    Calls Try.prog 9 #[.agg #[.slice none 0 0, .int .i64 0, .bool false, .int .i64 H, .int .i64 K], .int .i64 1] w fun e w' => e = .returned (.int .i64 1) ∧ Below w.heap.size w w' := by
  refine (heldRtu_sv 1 none 0 0 1 0 false H K w rfl (.inl rfl) (by omega) (by omega)).mono ?_
  rintro e w' ⟨rfl, b⟩
  exact ⟨rfl, b⟩

theorem eqRtu_nil (H K : Int) (w : World) :
    Calls Try.prog 7 #[.agg #[.slice none 0 0, .int .i64 0, .bool false, .int .i64 H, .int .i64 K], .agg #[.slice none 0 0, .int .i64 0, .bool false, .int .i64 H, .int .i64 K]] w fun e w' => e = .returned (.bool true) ∧ Below w.heap.size w w' :=
  eqRtu_true none none 0 0 0 0 0 false H K [] w rfl rfl (.inl rfl) (.inl rfl) (by simp)

set_option maxRecDepth 20000 in
set_option maxHeartbeats 4000000 in
theorem rtuNew_law (hf wh : Int) (w : World) :
    Calls Try.prog 3 #[.int .i64 hf, .int .i64 wh] w fun e w' => e = .returned (.bool true) ∧ Below w.heap.size w w' := by
  obtain ⟨H, hH⟩ : ∃ H : Int, H = if okS hf wh = true then hf else 0 := ⟨_, rfl⟩
  obtain ⟨K, hK⟩ : ∃ K : Int, K = if okS hf wh = true then wh else 0 := ⟨_, rfl⟩
  have HH : Hid ((H = if okS hf wh = true then hf else 0) ∧ (K = if okS hf wh = true then wh else 0)) := ⟨hH, hK⟩
  clear hH hK
  go_enter Try.func3, Try.ntmps3
  go_wp2_with fail
  refine (specRtuNew_v hf wh H K _ HH.out.1 HH.out.2).mono ?_
  rintro e w1 ⟨rfl, b1⟩
  have X := Blk.new w1 #[.slice none 0 0, .int .i64 0, .bool false, .int .i64 H, .int .i64 K] 24
  have b' := bel_alloc w1 (.cells #[.slice none 0 0, .int .i64 0, .bool false, .int .i64 H, .int .i64 K] 24)
  have b2 := bel_next b1 b'
  clear b1 b'
  go_wp2_with fail
  refine (implRtuNew_v hf wh H K _ HH.out.1 HH.out.2).mono ?_
  rintro e w3 ⟨rfl, b'⟩
  have b3 := bel_next b2 b'
  have X3 := X.below b'
  clear b2 b' X
  have Y := Blk.new w3 #[.slice none 0 0, .int .i64 0, .bool false, .int .i64 H, .int .i64 K] 24
  have b' := bel_alloc w3 (.cells #[.slice none 0 0, .int .i64 0, .bool false, .int .i64 H, .int .i64 K] 24)
  have b4 := bel_next b3 b'
  have X4 := X3.below b'
  clear b3 b' X3
  obtain ⟨x0, x1, x2, x3, x4⟩ := X4.five
  obtain ⟨y0, y1, y2, y3, y4⟩ := Y.five
  go_wp2_with fail
  refine (eqRtu_nil H K _).mono ?_
  rintro e w5 ⟨rfl, b'⟩
  have b5 := bel_next b4 b'
  have X5 := X4.below b'
  have Y5 := Y.below b'
  clear b4 b' X4 Y x0 x1 x2 x3 x4 y0 y1 y2 y3 y4
  obtain ⟨y0, y1, y2, y3, y4⟩ := Y5.five
  go_wp2_with fail
  refine (markRtu_nil H K _).mono ?_
  rintro e w6 ⟨rfl, b'⟩
  have b6 := bel_next b5 b'
  have X6 := X5.below b'
  have Y6 := Y5.below b'
  clear b5 b' X5 Y5 y0 y1 y2 y3 y4
  obtain ⟨y0, y1, y2, y3, y4⟩ := Y6.five
  go_wp2_with fail
  refine (heldRtu_nil H K _).mono ?_
  rintro e w7 ⟨rfl, b'⟩
  have b7 := bel_next b6 b'
  have X7 := X6.below b'
  have Y7 := Y6.below b'
  clear b6 b' X6 Y6 y0 y1 y2 y3 y4
  go_wp2_with fail
  refine (implRtuNew_v hf wh H K _ HH.out.1 HH.out.2).mono ?_
  rintro e w8 ⟨rfl, b'⟩
  have b8 := bel_next b7 b'
  have X8 := X7.below b'
  have Y8 := Y7.below b'
  clear b7 b' X7 Y7
  have Z := Blk.new w8 #[.slice none 0 0, .int .i64 0, .bool false, .int .i64 H, .int .i64 K] 24
  have b' := bel_alloc w8 (.cells #[.slice none 0 0, .int .i64 0, .bool false, .int .i64 H, .int .i64 K] 24)
  have b9 := bel_next b8 b'
  have X9 := X8.below b'
  have Y9 := Y8.below b'
  clear b8 b' X8 Y8
  obtain ⟨x0, x1, x2, x3, x4⟩ := X9.five
  obtain ⟨z0, z1, z2, z3, z4⟩ := Z.five
  go_wp2_with fail
  refine (eqRtu_nil H K _).mono ?_
  rintro e w10 ⟨rfl, b'⟩
  have b10 := bel_next b9 b'
  have Y10 := Y9.below b'
  clear b9 b' X9 Y9 Z x0 x1 x2 x3 x4 z0 z1 z2 z3 z4
  obtain ⟨y0, y1, y2, y3, y4⟩ := Y10.five
  go_wp2_with fail
  refine (heldRtu_nil H K _).mono ?_
  rintro e w11 ⟨rfl, b'⟩
  have b11 := bel_next b10 b'
  clear b10 b' Y10 y0 y1 y2 y3 y4
  go_wp2
  go_ret
  exact ⟨rfl, b11⟩

end Go.Proofs.Ytonikfajopdagaa
