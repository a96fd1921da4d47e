/- Rules of one unit that are drawn. -/
import Derived.Test.YtgnmnbimmfknpaaDr1
namespace Go.Proofs.Ytgnmnbimmfknpaa
open Go.RowKit

set_option linter.unusedVariables false

set_option linter.unusedSimpArgs false

set_option maxRecDepth 20000 in
set_option maxHeartbeats 2000000 in
theorem l10One_any (w0 : World) (a : Option Addr) (cap : Nat) (zs : List Int) (w : World) (g : Nat) (hC : Cur w0 a cap zs w g) (hw0 : w0.heap.size ≤ w.heap.size) :
    Calls Try.prog 56 #[.pointer (some ⟨g, 0, none⟩)] w fun e w' => DrawnU w0 a cap zs w g 28 e w' := by
  have hlt := hC.hi
  have D0 : DU w0 a cap zs w g (.slice (some ⟨w.heap.size, 0, none⟩) 0 0) [] (w.alloc (.cells #[] 30)) := ⟨hC.alloc _, World.grownBy_alloc w _ _, World.ownsRow_made w #[] 0 (Nat.le_refl _) (by unfold maxLen; omega) (by simp), hlt, fun r hr => by cases hr⟩
  go_enter Try.func56, Try.ntmps56
  go_wp2
  go_loopw [3, 4] (fun v i wr => ∃ (z : Nat) (va : Option Addr) (vn vc : Nat) (l : List Ru), z ≤ 4 ∧ i = .int .i64 z ∧ v = .slice va vn vc ∧ vn = l.length ∧ l.length ≤ 7 * z ∧ DU w0 a cap zs w g (.slice va vn vc) l wr) (fun v i _ => 4 - (intOf i).toNat)
  case atStart => exact ⟨0, _, _, _, [], by omega, rfl, rfl, rfl, by simp, D0⟩
  case round =>
    clear D0
    obtain ⟨z, va, vn, vc, l, hz, rfl, rfl, hvn, hl, D⟩ := hrel
    by_cases hz4 : z < 4
    · have hi : (z : Int) < 4 := by omega
      have HL : Hid (vn = l.length ∧ l.length ≤ 7 * z) := ⟨hvn, hl⟩
      clear hvn hl
      go_wp2
      go_loopw [3, 5] (fun v lov wr => ∃ (lo : Int) (va : Option Addr) (vn vc : Nat) (l : List Ru), lov = .int .i64 lo ∧ v = .slice va vn vc ∧ vn = l.length ∧ 3 * (l.length : Int) ≤ 21 * z + lo ∧ 0 ≤ lo ∧ lo ≤ 21 ∧ DU w0 a cap zs w g (.slice va vn vc) l wr) (fun v lov _ => 30 - (intOf lov).toNat)
      case atStart => exact ⟨0, _, _, _, l, rfl, rfl, HL.out.1, by have := HL.out; omega, by omega, by omega, D⟩
      case round =>
        clear D HL
        obtain ⟨lo, va, vn, vc, l, rfl, rfl, hvn, hl, hlo, hb, D⟩ := hrel
        have HL : Hid (vn = l.length ∧ 3 * (l.length : Int) ≤ 21 * z + lo) := ⟨hvn, hl⟩
        by_cases hk0 : lo < 20
        · clear hvn hl
          have wl : IntKind.i64.wrap (lo + 2) = lo + 2 := by rw [IntKind.wrap_i64]; omega
          go_wp2_with fail
          refine (l1Below_any w0 a cap zs _ g 9 (by decide) D.cur).mono ?_
          rintro e u1 ⟨x1, rfl, hx1, C1, g1⟩
          have D1 := D.call C1 g1
          clear D C1 g1
          have wx : IntKind.i64.wrap (lo + 2 + x1) = lo + 2 + x1 := by rw [IntKind.wrap_i64]; omega
          go_upto_if 20 with fail
          go_cut [6] (fun hv wx => ∃ hiv : Int, hv = .int .i64 hiv ∧ lo ≤ hiv ∧ lo + 2 ≤ hiv + (if hiv = 20 then 2 else 0) ∧ hiv ≤ 20 ∧ (hiv = 20 ∨ lo + 2 ≤ hiv) ∧ wx = u1)
          case first =>
            by_cases h20 : 20 < lo + 2 + x1
            · go_wp2_with fail
              go_meet
              exact ⟨20, rfl, by omega, by simp; omega, by omega, .inl rfl, rfl⟩
            · go_wp2_with fail
              go_meet
              exact ⟨lo + 2 + x1, rfl, by omega, by split <;> omega, by omega, .inr (by omega), rfl⟩
          case rest =>
          obtain ⟨hiv, rfl, q1, _, q3, q4, rfl⟩ := hcut
          go_wp2_with fail
          refine (l1Below_any w0 a cap zs _ g 3 (by decide) D1.cur).mono ?_
          rintro e u2 ⟨p2, rfl, hp2, C', g'⟩
          have D2 := D1.call C' g'
          clear D1 C' g'
          go_wp2_with fail
          refine (l1Below_any w0 a cap zs _ g 2 (by decide) D2.cur).mono ?_
          rintro e u3 ⟨p3, rfl, hp3, C', g'⟩
          have D3 := D2.call C' g'
          clear D2 C' g'
          have wp3 : IntKind.i64.wrap (1 + p3) = 1 + p3 := by rw [IntKind.wrap_i64]; omega
          have HS : Hid (S64 ⟨1, z, lo, hiv, p2, 1 + p3, 0⟩) := by show -9223372036854775808 ≤ (0 : Int) ∧ (0 : Int) ≤ 9223372036854775807; omega
          have HE6 : Hid (DU w0 a cap zs w g (.slice va vn vc) l (u3.alloc (.cells (ruc ⟨1, z, lo, hiv, p2, 1 + p3, 0⟩) 30)) ∧ Blk (u3.alloc (.cells (ruc ⟨1, z, lo, hiv, p2, 1 + p3, 0⟩) 30)) u3.heap.size 30 (ruc ⟨1, z, lo, hiv, p2, 1 + p3, 0⟩)) := ⟨D3.alloc _, Blk.new u3 _ 30⟩
          have hl9 : l.length ≤ 1000000 := by have := HL.out; omega
          clear D3
          go_upto_region 11 with (at_builtin; refine wpList_appU rfl (.tmp 21) (.tmp 31) rfl w.heap.size (.slice va vn vc) l rfl HE6.out.1.own u3.heap.size 1 ⟨1, z, lo, hiv, p2, 1 + p3, 0⟩ rfl (cellsAt7 HE6.out.2) hl9 HE6.out.1.gr.size ?_; intro v' u7 O7 gg)
          have D7 := HE6.out.1.app HS.out O7 gg hw0
          obtain ⟨va', vc', rfl⟩ := O7.shape
          obtain ⟨vn', hvn'⟩ : ∃ vn', vn' = (l ++ [(⟨1, z, lo, hiv, p2, 1 + p3, 0⟩ : Ru)]).length := ⟨_, rfl⟩
          rw [← hvn'] at D7 ⊢
          obtain ⟨l', hl'⟩ : ∃ l', l' = l ++ [(⟨1, z, lo, hiv, p2, 1 + p3, 0⟩ : Ru)] := ⟨_, rfl⟩
          have HL7 : Hid (vn' = l'.length ∧ l'.length = l.length + 1) := ⟨by rw [hl']; exact hvn', by rw [hl']; simp⟩
          rw [← hl'] at D7
          clear hl' hvn' O7 gg HE6 HS hl9
          have wh1 : IntKind.i64.wrap (hiv + 1) = hiv + 1 := by rw [IntKind.wrap_i64]; omega
          go_wp2
          go_roundw
          case rel => (have h1 := HL.out; have h2 := HL7.out; exact ⟨hiv + 1, va', vn', vc', l', rfl, rfl, h2.1, by omega, by omega, by omega, D7⟩)
          case measure => simp [intOf]; omega
        · have hk1 : ¬ lo < 20 := hk0
          go_wp2
          go_roundw
          case rel => exact ⟨z + 1, va, vn, vc, l, by omega, by go_num, rfl, hvn, by omega, D⟩
          case measure => simp [intOf]; omega
    · have hi : ¬ (z : Int) < 4 := by omega
      have HX : Hid (vn = l.length ∧ l.length ≤ 28 ∧ DU w0 a cap zs w g (.slice va vn vc) l wr) := ⟨hvn, by omega, D⟩
      clear hvn hl D
      go_wp2
      go_ret
      exact ⟨va, vn, vc, l, rfl, HX.out⟩

end Go.Proofs.Ytgnmnbimmfknpaa
