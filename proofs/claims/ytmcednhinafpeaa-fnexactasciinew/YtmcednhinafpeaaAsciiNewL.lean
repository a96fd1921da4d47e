/- The law of FnExactAsciiNew, walked. -/
import Derived.Test.YtmcednhinafpeaaAsc1
import Derived.Deep.RegionWith
namespace Go.Proofs.Ytmcednhinafpeaa
open Go.RowKit

set_option linter.unusedVariables false

theorem specAsciiNew_v (wt H : Int) (w : World) (h : H = if 1 ≤ wt ∧ wt ≤ 1000 then wt else 0) :
    Calls Try.prog 24 #[.int .i64 wt] w fun e w' => e = .returned (.agg #[.slice none 0 0, .bool false, .int .i64 0, .int .i64 H]) ∧ Below w.heap.size w w' := by
  subst h; exact specAsciiNew_any wt w

theorem implAsciiNew_v (wt H : Int) (w : World) (h : H = if 1 ≤ wt ∧ wt ≤ 1000 then wt else 0) :
    Calls Try.prog 14 #[.int .i64 wt] w fun e w' => e = .returned (.agg #[.slice none 0 0, .bool false, .int .i64 0, .int .i64 H]) ∧ Below w.heap.size w w' := by
  subst h; exact implAsciiNew_any wt w

theorem own_nilT (w : World) (base : Nat) : Own w base (.slice none 0 0) [] := ⟨rfl, .inl ⟨rfl, rfl⟩⟩

theorem markAscii_nil (H : Int) (w : World) :
    Calls Try.prog 26 #[.agg #[.slice none 0 0, .bool false, .int .i64 0, .int .i64 H], .int .i64 1] w fun e w' => e = .returned (.int .i64 1) ∧ Below w.heap.size w w' := by
  refine (markAscii_sv 1 none 0 0 w.heap.size 1 false 0 H [] w rfl (own_nilT _ _) (by omega) (by omega)).mono ?_
  rintro e w' ⟨rfl, _, g⟩
  exact ⟨rfl, ⟨g.os, g.tape, g.output, g.size, fun k hk => g.block k hk (by simp [Value.ownBlock])⟩⟩

theorem heldAscii_nil (H : Int) (w : World) :
    Calls Try.prog 27 #[.agg #[.slice none 0 0, .bool false, .int .i64 0, .int .i64 H], .int .i64 1] w fun e w' => e = .returned (.int .i64 1) ∧ Below w.heap.size w w' := by
  refine (heldAscii_sv 1 none 0 0 1 false 0 H w rfl (.inl rfl) (by omega) (by omega)).mono ?_
  rintro e w' ⟨rfl, b⟩
  exact ⟨rfl, b⟩

theorem eqAscii_nil (H : Int) (w : World) :
    Calls Try.prog 25 #[.agg #[.slice none 0 0, .bool false, .int .i64 0, .int .i64 H], .agg #[.slice none 0 0, .bool false, .int .i64 0, .int .i64 H]] w fun e w' => e = .returned (.bool true) ∧ Below w.heap.size w w' :=
  eqAscii_true none none 0 0 0 0 false 0 H [] w rfl rfl (.inl rfl) (.inl rfl) (by simp)

set_option maxRecDepth 20000 in
set_option maxHeartbeats 4000000 in
theorem asciiNew_law (wt : Int) (w : World) :
    Calls Try.prog 6 #[.int .i64 wt] w fun e w' => e = .returned (.bool true) ∧ Below w.heap.size w w' := by
  obtain ⟨H, hH⟩ : ∃ H : Int, H = if 1 ≤ wt ∧ wt ≤ 1000 then wt else 0 := ⟨_, rfl⟩
  have HH : Hid (H = if 1 ≤ wt ∧ wt ≤ 1000 then wt else 0) := hH
  clear hH
  go_enter Try.func6, Try.ntmps6
  go_wp2_with fail
  refine (specAsciiNew_v wt H _ HH.out).mono ?_
  rintro e w1 ⟨rfl, b1⟩
  have X := Blk.new w1 #[.slice none 0 0, .bool false, .int .i64 0, .int .i64 H] 31
  have b' := bel_alloc w1 (.cells #[.slice none 0 0, .bool false, .int .i64 0, .int .i64 H] 31)
  have b2 := bel_next b1 b'
  clear b1 b'
  go_wp2_with fail
  refine (implAsciiNew_v wt H _ HH.out).mono ?_
  rintro e w3 ⟨rfl, b'⟩
  have b3 := bel_next b2 b'
  have X3 := X.below b'
  clear b2 b' X
  have Y := Blk.new w3 #[.slice none 0 0, .bool false, .int .i64 0, .int .i64 H] 31
  have b' := bel_alloc w3 (.cells #[.slice none 0 0, .bool false, .int .i64 0, .int .i64 H] 31)
  have b4 := bel_next b3 b'
  have X4 := X3.below b'
  clear b3 b' X3
  obtain ⟨x0, x1, x2, x3⟩ := X4.four
  obtain ⟨y0, y1, y2, y3⟩ := Y.four
  go_wp2_with fail
  refine (eqAscii_nil H _).mono ?_
  rintro e w5 ⟨rfl, b'⟩
  have b5 := bel_next b4 b'
  have X5 := X4.below b'
  have Y5 := Y.below b'
  clear b4 b' X4 Y x0 x1 x2 x3 y0 y1 y2 y3
  obtain ⟨y0, y1, y2, y3⟩ := Y5.four
  go_wp2_with fail
  refine (markAscii_nil H _).mono ?_
  rintro e w6 ⟨rfl, b'⟩
  have b6 := bel_next b5 b'
  have X6 := X5.below b'
  have Y6 := Y5.below b'
  clear b5 b' X5 Y5 y0 y1 y2 y3
  obtain ⟨y0, y1, y2, y3⟩ := Y6.four
  go_wp2_with fail
  refine (heldAscii_nil H _).mono ?_
  rintro e w7 ⟨rfl, b'⟩
  have b7 := bel_next b6 b'
  have X7 := X6.below b'
  have Y7 := Y6.below b'
  clear b6 b' X6 Y6 y0 y1 y2 y3
  go_wp2_with fail
  refine (implAsciiNew_v wt H _ HH.out).mono ?_
  rintro e w8 ⟨rfl, b'⟩
  have b8 := bel_next b7 b'
  have X8 := X7.below b'
  have Y8 := Y7.below b'
  clear b7 b' X7 Y7
  have Z := Blk.new w8 #[.slice none 0 0, .bool false, .int .i64 0, .int .i64 H] 31
  have b' := bel_alloc w8 (.cells #[.slice none 0 0, .bool false, .int .i64 0, .int .i64 H] 31)
  have b9 := bel_next b8 b'
  have X9 := X8.below b'
  have Y9 := Y8.below b'
  clear b8 b' X8 Y8
  obtain ⟨x0, x1, x2, x3⟩ := X9.four
  obtain ⟨z0, z1, z2, z3⟩ := Z.four
  go_wp2_with fail
  refine (eqAscii_nil H _).mono ?_
  rintro e w10 ⟨rfl, b'⟩
  have b10 := bel_next b9 b'
  have Y10 := Y9.below b'
  clear b9 b' X9 Y9 Z x0 x1 x2 x3 z0 z1 z2 z3
  obtain ⟨y0, y1, y2, y3⟩ := Y10.four
  go_wp2_with fail
  refine (heldAscii_nil H _).mono ?_
  rintro e w11 ⟨rfl, b'⟩
  have b11 := bel_next b10 b'
  clear b10 b' Y10 y0 y1 y2 y3
  go_wp2
  go_ret
  exact ⟨rfl, b11⟩

end Go.Proofs.Ytmcednhinafpeaa
