/- The law of FnExactPortNew, walked. -/
import Derived.Test.YtimgohnnapaafaaPort5
namespace Go.Proofs.Ytimgohnnapaafaa
open Go.RowKit

set_option linter.unusedVariables false

/-- A new port: of the program and of the model. -/
theorem portNew_both (kd wt : Int) : ∃ K H W T : Int, (∀ w, Calls Try.prog 6 #[.int .i64 kd, .int .i64 wt] w fun e w' => e = .returned (pn K H W T) ∧ Below w.heap.size w w') ∧ (∀ w, Calls Try.prog 7 #[.int .i64 kd, .int .i64 wt] w fun e w' => e = .returned (pn K H W T) ∧ Below w.heap.size w w') := by
  by_cases h1 : kd = 1
  · subst h1
    by_cases h : 2 ≤ wt ∧ wt ≤ 1000
    · exact ⟨_, _, _, _, fun w => specPortNew_1y 0 wt w h, fun w => implPortNew_1y 0 wt w h⟩
    · refine ⟨_, _, _, _, fun w => ?_, fun w => implPortNew_1n 0 wt w h⟩
      by_cases h2 : 2 ≤ wt
      · exact specPortNew_1m 0 wt w h2 (by omega)
      · exact specPortNew_1n 0 wt w h2
  by_cases h2 : kd = 2
  · subst h2
    by_cases h : 1 ≤ wt ∧ wt ≤ 1000
    · exact ⟨_, _, _, _, fun w => specPortNew_2y 0 wt w h, fun w => implPortNew_2y 0 wt w h⟩
    · refine ⟨_, _, _, _, fun w => ?_, fun w => implPortNew_2n 0 wt w h⟩
      by_cases h2 : 1 ≤ wt
      · exact specPortNew_2m 0 wt w h2 (by omega)
      · exact specPortNew_2n 0 wt w h2
  by_cases h3 : kd = 3
  · subst h3
    exact ⟨_, _, _, _, fun w => specPortNew_3 0 wt w, fun w => implPortNew_3 0 wt w⟩
  exact ⟨_, _, _, _, fun w => specPortNew_0 kd wt w h1 h2 h3, fun w => implPortNew_0 kd wt w h1 h2 h3⟩

set_option maxRecDepth 20000 in
set_option maxHeartbeats 4000000 in
theorem portNew_law (kd wt : Int) (w : World) :
    Calls Try.prog 3 #[.int .i64 kd, .int .i64 wt] w fun e w' => e = .returned (.bool true) ∧ Below w.heap.size w w' := by
  obtain ⟨K, H, W, T, hs, hi⟩ := portNew_both kd wt
  have HS : Hid (∀ w, Calls Try.prog 6 #[.int .i64 kd, .int .i64 wt] w fun e w' => e = .returned (pn K H W T) ∧ Below w.heap.size w w') := hs
  have HI : Hid (∀ w, Calls Try.prog 7 #[.int .i64 kd, .int .i64 wt] w fun e w' => e = .returned (pn K H W T) ∧ Below w.heap.size w w') := hi
  clear hs hi
  go_enter Try.func3, Try.ntmps3
  go_wp2_with fail
  refine (HS.out _).mono ?_
  rintro e w1 ⟨rfl, b1⟩
  have X := Blk.new w1 #[.int .i64 K, .slice none 0 0, .int .i64 0, .bool false, .int .i64 H, .int .i64 W, .slice none 0 0, .bool false, .int .i64 0, .int .i64 T, .slice none 0 0, .bool false, .int .i64 0] 30
  have b' := bel_alloc w1 (.cells #[.int .i64 K, .slice none 0 0, .int .i64 0, .bool false, .int .i64 H, .int .i64 W, .slice none 0 0, .bool false, .int .i64 0, .int .i64 T, .slice none 0 0, .bool false, .int .i64 0] 30)
  have b2 := bel_next b1 b'
  clear b1 b'
  go_wp2_with fail
  refine (HI.out _).mono ?_
  rintro e w3 ⟨rfl, b'⟩
  have b3 := bel_next b2 b'
  have X3 := X.below b'
  clear b2 b' X
  have Y := Blk.new w3 #[.int .i64 K, .slice none 0 0, .int .i64 0, .bool false, .int .i64 H, .int .i64 W, .slice none 0 0, .bool false, .int .i64 0, .int .i64 T, .slice none 0 0, .bool false, .int .i64 0] 30
  have b' := bel_alloc w3 (.cells #[.int .i64 K, .slice none 0 0, .int .i64 0, .bool false, .int .i64 H, .int .i64 W, .slice none 0 0, .bool false, .int .i64 0, .int .i64 T, .slice none 0 0, .bool false, .int .i64 0] 30)
  have b4 := bel_next b3 b'
  have X4 := X3.below b'
  clear b3 b' X3
  obtain ⟨x0, x1, x2, x3, x4, x5, x6, x7, x8, x9, x10, x11, x12⟩ := X4.n13
  obtain ⟨y0, y1, y2, y3, y4, y5, y6, y7, y8, y9, y10, y11, y12⟩ := Y.n13
  go_wp2_with fail
  refine (eqPort_nil K H W T _).mono ?_
  rintro e w5 ⟨rfl, b'⟩
  have b5 := bel_next b4 b'
  have X5 := X4.below b'
  have Y5 := Y.below b'
  clear b4 b' X4 Y x0 x1 x2 x3 x4 x5 x6 x7 x8 x9 x10 x11 x12 y0 y1 y2 y3 y4 y5 y6 y7 y8 y9 y10 y11 y12
  obtain ⟨y0, y1, y2, y3, y4, y5, y6, y7, y8, y9, y10, y11, y12⟩ := Y5.n13
  go_wp2_with fail
  refine (markPort_nil K H W T _).mono ?_
  rintro e w6 ⟨rfl, b'⟩
  have b6 := bel_next b5 b'
  have X6 := X5.below b'
  have Y6 := Y5.below b'
  clear b5 b' X5 Y5 y0 y1 y2 y3 y4 y5 y6 y7 y8 y9 y10 y11 y12
  obtain ⟨y0, y1, y2, y3, y4, y5, y6, y7, y8, y9, y10, y11, y12⟩ := Y6.n13
  go_wp2_with fail
  refine (heldPort_nil K H W T _).mono ?_
  rintro e w7 ⟨rfl, b'⟩
  have b7 := bel_next b6 b'
  have X7 := X6.below b'
  have Y7 := Y6.below b'
  clear b6 b' X6 Y6 y0 y1 y2 y3 y4 y5 y6 y7 y8 y9 y10 y11 y12
  go_wp2_with fail
  refine (HI.out _).mono ?_
  rintro e w8 ⟨rfl, b'⟩
  have b8 := bel_next b7 b'
  have X8 := X7.below b'
  have Y8 := Y7.below b'
  clear b7 b' X7 Y7
  have Z := Blk.new w8 #[.int .i64 K, .slice none 0 0, .int .i64 0, .bool false, .int .i64 H, .int .i64 W, .slice none 0 0, .bool false, .int .i64 0, .int .i64 T, .slice none 0 0, .bool false, .int .i64 0] 30
  have b' := bel_alloc w8 (.cells #[.int .i64 K, .slice none 0 0, .int .i64 0, .bool false, .int .i64 H, .int .i64 W, .slice none 0 0, .bool false, .int .i64 0, .int .i64 T, .slice none 0 0, .bool false, .int .i64 0] 30)
  have b9 := bel_next b8 b'
  have X9 := X8.below b'
  have Y9 := Y8.below b'
  clear b8 b' X8 Y8
  obtain ⟨x0, x1, x2, x3, x4, x5, x6, x7, x8, x9, x10, x11, x12⟩ := X9.n13
  obtain ⟨z0, z1, z2, z3, z4, z5, z6, z7, z8, z9, z10, z11, z12⟩ := Z.n13
  go_wp2_with fail
  refine (eqPort_nil K H W T _).mono ?_
  rintro e w10 ⟨rfl, b'⟩
  have b10 := bel_next b9 b'
  have Y10 := Y9.below b'
  clear b9 b' X9 Y9 Z x0 x1 x2 x3 x4 x5 x6 x7 x8 x9 x10 x11 x12 z0 z1 z2 z3 z4 z5 z6 z7 z8 z9 z10 z11 z12
  obtain ⟨y0, y1, y2, y3, y4, y5, y6, y7, y8, y9, y10, y11, y12⟩ := Y10.n13
  go_wp2_with fail
  refine (heldPort_nil K H W T _).mono ?_
  rintro e w11 ⟨rfl, b'⟩
  have b11 := bel_next b10 b'
  clear b10 b' Y10 y0 y1 y2 y3 y4 y5 y6 y7 y8 y9 y10 y11 y12
  go_wp2
  go_ret
  exact ⟨rfl, b11⟩

end Go.Proofs.Ytimgohnnapaafaa
