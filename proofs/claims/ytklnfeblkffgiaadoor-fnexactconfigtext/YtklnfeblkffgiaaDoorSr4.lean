/- Two runs of rules exchanged in place. -/
import Derived.Test.YtklnfeblkffgiaaDoorSr3
namespace Go.Proofs.YtklnfeblkffgiaaDoor
open Go.RowKit

set_option linter.unusedVariables false

set_option linter.unusedSimpArgs false

set_option maxRecDepth 20000 in
set_option maxHeartbeats 400000 in
theorem rotate_any (g n c a m b : Nat) (f : Nat → Ru) (w0 w : World) (hb : Below w0.heap.size w0 w) (hg : w0.heap.size ≤ g) (hr : RowU w g n f) (h1 : a < m) (h2 : m < b) (hbn : b ≤ n) (hn : n ≤ 1000000) :
    Calls Tryd.prog 109 #[.slice (some ⟨g, 0, none⟩) n c, .int .i64 (a : Int), .int .i64 (m : Int), .int .i64 (b : Int), .func (.func 63) #[] #[]] w fun e w' => e = .returned (.tuple #[]) ∧ RowU w' g n (fun k => f (rtI a m b k)) ∧ Below w0.heap.size w0 w' := by
  obtain ⟨d, hd⟩ : ∃ d, d = m - a := ⟨_, rfl⟩
  obtain ⟨d', hd'⟩ : ∃ d', d' = b - m := ⟨_, rfl⟩
  have wi : IntKind.i64.wrap ((m : Int) - (a : Int)) = (d : Int) := by rw [IntKind.wrap_i64]; omega
  have wj : IntKind.i64.wrap ((b : Int) - (m : Int)) = (d' : Int) := by rw [IntKind.wrap_i64]; omega
  have HD : Hid (d = m - a ∧ d' = b - m) := ⟨hd, hd'⟩
  clear hd hd'
  go_enter Tryd.func109, Tryd.ntmps109
  go_wp2
  go_loopw [10, 11] (fun i j wr => ∃ (p q : Nat) (h : Nat → Ru), 0 < p ∧ 0 < q ∧ p ≤ m - a ∧ m + q ≤ b ∧ i = .int .i64 p ∧ j = .int .i64 q ∧ RowU wr g n h ∧ (∀ k, h (rtI (m - p) m (m + q) k) = f (rtI a m b k)) ∧ Below w0.heap.size w0 wr) (fun i j _ => (intOf i).toNat + (intOf j).toNat)
  case atStart =>
    obtain ⟨e1, e2⟩ := HD.out
    exact ⟨d, d', f, by omega, by omega, by omega, by omega, by first | rfl | simp, by first | rfl | simp, hr, fun k => by rw [show m - d = a by omega, show m + d' = b by omega], hb⟩
  case round =>
    obtain ⟨p, q, h, hp, hq, hpa, hqb, rfl, rfl, hrow, hx, hbl⟩ := hrel
    have HROW : Hid (RowU wr g n h ∧ (∀ k, h (rtI (m - p) m (m + q) k) = f (rtI a m b k)) ∧ Below w0.heap.size w0 wr) := ⟨hrow, hx, hbl⟩
    have HQ : Hid (p ≤ m - a ∧ m + q ≤ b) := ⟨hpa, hqb⟩
    obtain ⟨x, hx1⟩ : ∃ x, x = m - p := ⟨_, rfl⟩
    have ws1 : IntKind.i64.wrap ((m : Int) - (p : Int)) = (x : Int) := by rw [IntKind.wrap_i64]; omega
    have HX1 : Hid (x = m - p) := hx1
    clear hrow hx hbl hr hb wi wj HD hx1
    by_cases he : p = q
    · subst he
      have e1 : ((p : Int) == (p : Int)) = true := by simp
      clear hpa hqb
      go_wp2_with fail
      refine (swapRange_any g n c x m p h w0 _ HROW.out.2.2 hg HROW.out.1 (by have := HX1.out; have := HQ.out; omega) (by have := HX1.out; have := HQ.out; omega) hn).mono ?_
      rintro e w1 ⟨rfl, R1, B1⟩
      have HX : Hid (RowU w1 g n (fun k => f (rtI a m b k)) ∧ Below w0.heap.size w0 w1) := ⟨RowU.ext R1 (fun k => by rw [HX1.out, rtI_eq (by have := HQ.out; omega)]; exact HROW.out.2.1 k), B1⟩
      clear HROW R1 B1
      go_wp2
      refine bodyPost_end (v := .tuple #[]) (by simp [results, Tryd.results109, go_sem]) rfl ⟨rfl, HX.out⟩
    · have e2 : ¬ (p : Int) = (q : Int) := by omega
      by_cases hgt : q < p
      · have e3 : (q : Int) < (p : Int) := by omega
        obtain ⟨y, hy⟩ : ∃ y, y = p - q := ⟨_, rfl⟩
        have ws2 : IntKind.i64.wrap ((p : Int) - (q : Int)) = (y : Int) := by rw [IntKind.wrap_i64]; omega
        have HY : Hid (y = p - q) := hy
        clear hy hpa hqb
        go_wp2_with fail
        refine (swapRange_any g n c x m q h w0 _ HROW.out.2.2 hg HROW.out.1 (by have := HX1.out; have := HQ.out; omega) (by have := HX1.out; have := HQ.out; omega) hn).mono ?_
        rintro e w1 ⟨rfl, R1, B1⟩
        have HX : Hid (RowU w1 g n (fun k => h (srI x m q k)) ∧ (∀ k, h (srI x m q (rtI (m - y) m (m + q) k)) = f (rtI a m b k)) ∧ Below w0.heap.size w0 w1) := ⟨R1, fun k => by rw [HX1.out, HY.out, rtI_gt hgt (by have := HQ.out; omega) hq]; exact HROW.out.2.1 k, B1⟩
        clear HROW R1 B1
        go_wp2
        go_roundw
        case rel => (have := HY.out; have := HQ.out; exact ⟨y, q, _, by omega, by omega, by omega, by omega, by first | rfl | go_num, rfl, HX.out.1, HX.out.2.1, HX.out.2.2⟩)
        case measure => (have := HY.out; simp [intOf]; omega)
      · have e3 : ¬ (q : Int) < (p : Int) := by omega
        obtain ⟨y, hy⟩ : ∃ y, y = q - p := ⟨_, rfl⟩
        obtain ⟨z, hz⟩ : ∃ z, z = m + q - p := ⟨_, rfl⟩
        have ws2 : IntKind.i64.wrap ((q : Int) - (p : Int)) = (y : Int) := by rw [IntKind.wrap_i64]; omega
        have ws3 : IntKind.i64.wrap ((m : Int) + (q : Int)) = (m : Int) + (q : Int) := by rw [IntKind.wrap_i64]; omega
        have ws4 : IntKind.i64.wrap ((m : Int) + (q : Int) - (p : Int)) = (z : Int) := by rw [IntKind.wrap_i64]; omega
        have HY : Hid (y = q - p ∧ z = m + q - p) := ⟨hy, hz⟩
        clear hy hz hpa hqb
        go_wp2_with fail
        refine (swapRange_any g n c x z p h w0 _ HROW.out.2.2 hg HROW.out.1 (by have := HX1.out; have := HY.out; have := HQ.out; omega) (by have := HX1.out; have := HY.out; have := HQ.out; omega) hn).mono ?_
        rintro e w1 ⟨rfl, R1, B1⟩
        have HX : Hid (RowU w1 g n (fun k => h (srI x z p k)) ∧ (∀ k, h (srI x z p (rtI (m - p) m (m + y) k)) = f (rtI a m b k)) ∧ Below w0.heap.size w0 w1) := ⟨R1, fun k => by rw [HX1.out, HY.out.1, HY.out.2, rtI_lt (by omega) (by have := HQ.out; omega) hp]; exact HROW.out.2.1 k, B1⟩
        clear HROW R1 B1
        go_wp2
        go_roundw
        case rel => (have := HY.out; have := HQ.out; exact ⟨p, y, _, by omega, by omega, by omega, by omega, rfl, by first | rfl | go_num, HX.out.1, HX.out.2.1, HX.out.2.2⟩)
        case measure => (have := HY.out; simp [intOf]; omega)

end Go.Proofs.YtklnfeblkffgiaaDoor
